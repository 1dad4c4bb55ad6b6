import PyProof.Rows.All
import Wide.All
import OpenK.AllK
import Wide.FinOn
import HandS.ForMost
import HandS.More
import HandS.DictComp
import HandS.IsInst
import HandS.Wide
import HandS.TupAny
import PyProof.StrOps2
import HandS.AnyAll
import HandS.Text
import HandS.ForExc
import HandS.FStr
import HandS.Small
import HandS.Zip
import HandS.ExcIs
import HandS.EndTab
import KE.KNest
import HandS.Walk
import HandS.Deep
import HandS.HeadHook3
import HandS.Strs
import HandS.RaiseMore
import HandS.Evl
import HandS.DeepEq
import HandS.TupLe
import KE.KEqNest
import HandS.ExcOwn
import HandS.CallSlots
import HandS.Comp
import HandS.Finally
import PyProof.NeKinds
import KE.GoesMore
import HandS.RevRange
import HandS.Style
import HandS.Conv
import KE.KSortTupAny
import HandS.SortRule
import PySem.Challenge.RW_contractbook_k24_whole_spans_hold
set_option Elab.async false
set_option linter.all false
set_option maxRecDepth 100000
namespace Bk
open PySem PySem.Spec PyProof.Rows L2

/-! ### steps of a reading -/
section steps
variable {D : Ends} {σ : L2.St} {H : Hp} {Q : VK} {v : V}
theorem g_seq {t u : TS} (h : t { D with nx := u D } σ H) : tSeq t u D σ H := h
theorem g_next (h : D.nx σ H) : tNext D σ H := h
theorem g_asg {te : TE} {g : TG} (h : te σ H fun x H1 => g x σ H1 D.nx) : tAsg te g D σ H := h
theorem g_name {i : Nat} {R : L2.St → Hp → Prop} (h : R (σ.set i (some v)) H) : gName i v σ H R := h
theorem g_ret {te : TE} (h : te σ H D.rt) : tRet te D σ H := h
theorem g_drop {te : TE} (h : te σ H fun _ H1 => D.nx σ H1) : tDrop te D σ H := h
theorem g_ifs {c : TT} {t u : TS} (h : c σ H fun b H1 => if b = true then t D σ H1 else u D σ H1) : tIfS c t u D σ H := h
theorem g_if {c : TT} {t u : TE} (h : c σ H fun b H1 => if b = true then t σ H1 Q else u σ H1 Q) : tIf c t u σ H Q := h
theorem g_c (h : Q v H) : tC v σ H Q := h
theorem g_op {r : R2} {ta tb : TE} (h : ta σ H fun x H1 => tb σ H1 fun y H2 => r x y H2 Q) : tOp r ta tb σ H Q := h
theorem g_un {r : V → Hp → VK → Prop} {ta : TE} (h : ta σ H fun x H1 => r x H1 Q) : tUn r ta σ H Q := h
theorem g_neg {g : Int → V} {i : Int} (h : Q (g i) H) : rU g (.int i) H Q := ⟨i, rfl, h⟩
theorem g_I0 {g : Int → Int → V} {i j : Int} (h : Q (g i j) H) : rI0 g (.int i) (.int j) H Q := ⟨i, j, rfl, rfl, h⟩
theorem g_I {C : Int → Int → Prop} {g : Int → Int → V} {i j : Int} (hc : C i j) (h : Q (g i j) H) : rI C g (.int i) (.int j) H Q := ⟨i, j, rfl, rfl, hc, h⟩
theorem dec_int {i j : Int} : decide (V.int i = V.int j) = decide (i = j) := by
  by_cases e : i = j
  · rw [e]; simp
  · rw [decide_eq_false e]
    exact decide_eq_false (fun z => e (V.int.inj z))
theorem dec_str {i j : Str} : decide (V.str i = V.str j) = decide (i = j) := by
  by_cases e : i = j
  · rw [e]; simp
  · rw [decide_eq_false e]
    exact decide_eq_false (fun z => e (V.str.inj z))
theorem dec_bl {i j : Bool} : decide (V.bl i = V.bl j) = decide (i = j) := by
  cases i <;> cases j <;> rfl
theorem g_eqI {i j : Int} (h : Q (.bl (decide (i = j))) H) : rEq (.int i) (.int j) H Q := ⟨rfl, by rw [dec_int]; exact h⟩
theorem g_eqS {i j : Str} (h : Q (.bl (decide (i = j))) H) : rEq (.str i) (.str j) H Q := ⟨rfl, by rw [dec_str]; exact h⟩
theorem g_eqB {i j : Bool} (h : Q (.bl (decide (i = j))) H) : rEq (.bl i) (.bl j) H Q := ⟨rfl, by rw [dec_bl]; exact h⟩
theorem g_neI {i j : Int} (h : Q (.bl (!decide (i = j))) H) : rNe (.int i) (.int j) H Q := ⟨rfl, by rw [dec_int]; exact h⟩
theorem g_neS {i j : Str} (h : Q (.bl (!decide (i = j))) H) : rNe (.str i) (.str j) H Q := ⟨rfl, by rw [dec_str]; exact h⟩
theorem g_neB {i j : Bool} (h : Q (.bl (!decide (i = j))) H) : rNe (.bl i) (.bl j) H Q := ⟨rfl, by rw [dec_bl]; exact h⟩
theorem g_test {te : TE} {R : Bool → Hp → Prop} (h : te σ H fun x H' => ∃ k, x = .bl k ∧ R k H') : tTest te σ H R := h
theorem g_b {te : TE} {R : Bool → Hp → Prop} (h : te σ H fun x H' => ∃ k, x = .bl k ∧ R k H') : tB te σ H R := h
theorem g_and {t u : TT} {R : Bool → Hp → Prop} (h : t σ H fun c H1 => if c = true then u σ H1 R else R false H1) : tAnd t u σ H R := h
theorem g_or {t u : TT} {R : Bool → Hp → Prop} (h : t σ H fun c H1 => if c = true then R true H1 else u σ H1 R) : tOr t u σ H R := h
theorem g_not {t : TT} {R : Bool → Hp → Prop} (h : t σ H fun c H1 => R (!c) H1) : tNot t σ H R := h
theorem g_andV {ta tb : TE} (h : ta σ H fun x H1 => ∃ c, x = .bl c ∧ if c = true then tb σ H1 Q else Q (.bl false) H1) : tAndV ta tb σ H Q := h
theorem g_orV {ta tb : TE} (h : ta σ H fun x H1 => ∃ c, x = .bl c ∧ if c = true then Q (.bl true) H1 else tb σ H1 Q) : tOrV ta tb σ H Q := h
theorem g_notV {ta : TE} (h : ta σ H fun x H1 => ∃ c, x = .bl c ∧ Q (.bl (!c)) H1) : tNotV ta σ H Q := h
theorem g_cons {ta : TE} {tr : TA} {R : List V → Hp → Prop} (h : ta σ H fun x H1 => tr σ H1 fun xs H2 => R (x :: xs) H2) : tCons ta tr σ H R := h
theorem g_chain {r r' : R2} {ta tb tc : TE} (h : ta σ H fun x H1 => tb σ H1 fun y H2 => r x y H2 fun z H3 => ∃ k, z = .bl k ∧ (if k = true then tc σ H3 fun z' H4 => r' y z' H4 Q else Q (.bl false) H3)) : tChain r r' ta tb tc σ H Q := h
theorem g_nil {R : List V → Hp → Prop} (h : R [] H) : tNil σ H R := h
theorem g_call {sp : Sp} {dvs : List V} {E : XK} {t : TA} (h : t σ H fun vs H1 => sp (vs ++ dvs) H1 Q E) : tCall sp dvs E t σ H Q := h
theorem g_cb {r : List V → Hp → VK → Prop} {t : TA} (h : t σ H fun vs H1 => r vs H1 Q) : tCB r t σ H Q := h
theorem g_dget {td ty : TE} (h : td σ H fun x H1 => ty σ H1 fun y H2 => ∃ a v, x = .ref a ∧ DGet H2 a y (some v) ∧ Q v H2) : tDGet td ty σ H Q := h
theorem g_dput {td ty tv : TE} (h : tv σ H fun v H1 => td σ H1 fun x H2 => ty σ H2 fun y H3 => ∃ a H4, x = .ref a ∧ DPut H3 a y v H4 ∧ D.nx σ H4) : sDPut td ty tv D σ H := h
theorem g_tup {t : TA} (h : t σ H fun xs H1 => xs.length ≤ sizeLine ∧ ∀ p, H1 p = none → Q (.ref p) (upd H1 p (.tup xs))) : tTup t σ H Q := h
theorem g_lst {t : TA} (h : t σ H fun xs H1 => xs.length ≤ sizeLine ∧ ∀ p, H1 p = none → Q (.ref p) (upd H1 p (.lst xs))) : tLst t σ H Q := h
theorem g_for {wi : TI} {g : TG} {tb : TS} (h : wi σ H fun J H1 => ∃ W : Nat → Nat → L2.St → Hp → Prop, (∃ m, W 0 m σ H1) ∧ ∀ i m σ H, W i m σ H →
  (J.stop i H ∧ D.nx σ H) ∨ (J.go i H ∧ ∃ N : L2.St → Hp → Prop, (∀ σ' H', N σ' H' → ∃ m', m' < m ∧ W (i + 1) m' σ' H') ∧ ∀ x H', J.yld i H x H' → g x σ H' fun σ2 H2 => tb { D with nx := N, ct := N, bk := D.nx } σ2 H2)) : tFor wi g tb D σ H := h
theorem g_rng1 {ta : TA} {R : It → Hp → Prop} (h : ta σ H fun vs H1 => ∃ j : Int, vs = [.int j] ∧ -(2 ^ 62) ≤ j ∧ j < 2 ^ 62 ∧ R (Itr 0 j.toNat) H1) : iRng1 ta σ H R := h
theorem g_rng2 {ta : TA} {R : It → Hp → Prop} (h : ta σ H fun vs H1 => ∃ i j : Int, vs = [.int i, .int j] ∧ (-(2 ^ 62) ≤ i ∧ i < 2 ^ 62 ∧ -(2 ^ 62) ≤ j ∧ j < 2 ^ 62) ∧ R (Itr i (j - i).toNat) H1) : iRng2 ta σ H R := h
theorem g_ilist {K : PySem.W.Frag} {tl : TE} {R : It → Hp → Prop} (h : tl σ H fun x H1 => ∃ a, x = .ref a ∧ (∃ xs, SqL K H1 a xs) ∧ R (Itl K a) H1) : iList K tl σ H R := h
theorem g_itup {K : PySem.W.Frag} {tl : TE} {R : It → Hp → Prop} (h : tl σ H fun x H1 => ∃ a, x = .ref a ∧ (∃ xs, SqT K H1 a xs) ∧ R (Itt K a) H1) : iTup K tl σ H R := h
theorem g_lc {wi : TI} {g : TG} {tt : TT} {te : TE} {vs : List Nat} (h : wi σ H fun J H1 => ∀ D, H1 D = none → ∃ W : Nat → Nat → Hp → Prop, (∃ m, W 0 m (upd H1 D (.lst []))) ∧ ∀ i m H, W i m H →
  (J.stop i H ∧ Q (.ref D) H) ∨ (J.go i H ∧ ∃ Nx : Hp → Prop, (∀ H', Nx H' → ∃ m', m' < m ∧ W (i + 1) m' H') ∧ ∀ x H', J.yld i H x H' → g x (wipe σ vs) H' fun σ2 H2 => wipe σ2 vs = wipe σ vs ∧ tt σ2 H2 fun b H3 =>
    if b = true then te σ2 H3 fun y H4 => ∃ acc, H4 D = some (.lst acc) ∧ acc.length < sizeLine ∧ Nx (upd H4 D (.lst (acc ++ [y]))) else Nx H3)) : tLc wi g tt te vs σ H Q := h
theorem g_yes {R : Bool → Hp → Prop} (h : R true H) : tYes σ H R := h
theorem g_sl {r : V → Option Int → Option Int → Hp → VK → Prop} {te : TE} {tl th : TO} (h : te σ H fun x H1 => tl σ H1 fun l H2 => th σ H2 fun u H3 => r x l u H3 Q) : tSl r te tl th σ H Q := h
theorem g_nopart {R : Option Int → Hp → Prop} (h : R none H) : tNoPart σ H R := h
theorem g_part {t : TE} {R : Option Int → Hp → Prop} (h : t σ H fun x H1 => ∃ i, x = .int i ∧ R (some i) H1) : tPart t σ H R := h
theorem g_disp {trs : List (TE × TE)} (h : ∀ p, H p = none → tPairs trs σ (upd H p (.dK [])) fun ps H2 => H2 p = some (.dK []) ∧ ∃ kvs : List (Key × V), ps = kvs.map (fun kv => (kV kv.1, kv.2)) ∧ kvs.length ≤ 15 ∧ Q (.ref p) (upd H2 p (.dK (mergeK [] kvs)))) : tDisp trs σ H Q := h
theorem g_pairs0 {R : List (V × V) → Hp → Prop} (h : R [] H) : tPairs [] σ H R := h
theorem g_pairs {tk tv : TE} {r : List (TE × TE)} {R : List (V × V) → Hp → Prop} (h : tk σ H fun x H1 => tv σ H1 fun y H2 => tPairs r σ H2 fun ps H3 => R ((x, y) :: ps) H3) : tPairs ((tk, tv) :: r) σ H R := h
theorem g_gtup {K : PySem.W.Frag} {n : Nat} {t : TGs} {a : Addr} {xs : List V} {R : L2.St → Hp → Prop} (h : SqT K H a xs) (hl : xs.length = n) (q : t xs σ H R) : gTup K n t (.ref a) σ H R := ⟨a, xs, rfl, h, hl, q⟩
theorem g_gcons {t : TG} {u : TGs} {x : V} {r : List V} {R : L2.St → Hp → Prop} (q : t x σ H fun σ' H' => u r σ' H' R) : gCons t u (x :: r) σ H R := ⟨x, r, rfl, q⟩
theorem g_gnil {R : L2.St → Hp → Prop} (q : R σ H) : gNil [] σ H R := ⟨rfl, q⟩
theorem g_isN {x : V} {R : Bool → Hp → Prop} (h : R (decide (x = .non)) H) : ∃ k, V.bl (decide (x = .non)) = .bl k ∧ R k H := ⟨_, rfl, h⟩
theorem g_bm {K : PySem.W.Frag} {T : String} {r : V → List V → Hp → VK → Prop} {to : TE} {t : TA} (h : to σ H fun x H1 => tyV K T x H1 ∧ t σ H1 fun xs H2 => r x xs H2 Q) : tBM K T r to t σ H Q := h
theorem g_bm0 {K : PySem.W.Frag} {T : String} {r : V → List V → Hp → VK → Prop} {to : TE} (h : to σ H fun x H1 => tyV K T x H1 ∧ r x [] H1 Q) : tBM0 K T r to σ H Q := h
theorem ifd {p A B : Prop} [Decidable p] (h1 : p → A) (h2 : ¬ p → B) : if decide p = true then A else B := by
  by_cases h : p
  · rw [if_pos (decide_eq_true h)]; exact h1 h
  · rw [if_neg (by simp [h])]; exact h2 h
theorem ifdn {p A B : Prop} [Decidable p] (h1 : p → B) (h2 : ¬ p → A) : if (!decide p) = true then A else B := by
  by_cases h : p
  · rw [if_neg (by simp [h])]; exact h1 h
  · rw [if_pos (by simp [h])]; exact h2 h
theorem ifn {b : Bool} {A B : Prop} (h1 : b = true → B) (h2 : b = false → A) : if (!b) = true then A else B := by
  cases b
  · exact h2 rfl
  · exact h1 rfl
theorem ifb {b : Bool} {A B : Prop} (h1 : b = true → A) (h2 : b = false → B) : if b = true then A else B := by
  cases b
  · exact h2 rfl
  · exact h1 rfl
theorem iteNF {A B : Prop} (h : A) : if (!false) = true then A else B := h
theorem iteNT {A B : Prop} (h : B) : if (!true) = true then A else B := h
/-- a and b, a or b: the way that two tests may take is read once -/
theorem and_cut {p U F : Prop} [Decidable p] (q : Prop) (hF : ¬ (p ∧ q) → F) (hU : p → (¬ q → F) → U) : if decide p = true then U else F :=
  ifd (fun c => hU c fun z => hF fun y => z y.2) (fun c => hF fun y => c y.1)
theorem or_cut {p U T : Prop} [Decidable p] (q : Prop) (hT : p ∨ q → T) (hU : ¬ p → (q → T) → U) : if decide p = true then T else U :=
  ifd (fun c => hT (.inl c)) (fun c => hU c fun z => hT (.inr z))
/-- a key of a dict that stands at a -/
theorem g_key {a : Addr} {kvs : List (Key × V)} {k : Str} {w : V} {R : V → Prop} (hd : H a = some (.dK kvs)) (hv : valV kvs (.inr k) = some w) (h : R w) :
    ∃ b v, V.ref a = .ref b ∧ DGet H b (.str k) (some v) ∧ R v := ⟨a, w, rfl, .inl ⟨kvs, .inr k, .inl hd, rfl, hv.symm⟩, h⟩
theorem g_put {a : Addr} {kvs kvs' : List (Key × V)} {k : Str} {w : V} {R : Hp → Prop} (hd : H a = some (.dK kvs)) (hl : kvs.length < sizeLine) (hv : putK kvs (.inr k) w = kvs') (h : R (upd H a (.dK kvs'))) :
    ∃ b H4, V.ref a = .ref b ∧ DPut H b (.str k) w H4 ∧ R H4 := ⟨a, _, rfl, .inl ⟨kvs, .inr k, hd, rfl, hl, rfl⟩, by rw [hv]; exact h⟩
end steps

/-! ### what a def of the text is known to keep -/
structure Own (K : PySem.W.Frag) (mg : Str → Option Value) (x : Str) (st : Stmt) (ps : List Str) (f : Addr) (fd : FuncData) : Prop where
  F : Fun K x x st f fd
  g : mg x = some (.ref f)
  b : Binds K fd ps []
structure Has (P : Program) (w : World) (K : PySem.W.Frag) (mg : Str → Option Value) (base : Heap) (x : Str) (ps : List Str) (lv : Nat) (CX : CXT) (sp : Sp) (f : Addr) (fd : FuncData) : Prop where
  G : FnOk P w K mg base CX lv f fd ps sp
  g : mg x = some (.ref f)
  k : PySem.W.keepIn K (.ref f) = true
  b : Binds K fd ps []
theorem Has.mono {P : Program} {w : World} {K : PySem.W.Frag} {mg : Str → Option Value} {base : Heap} {x : Str} {ps : List Str} {j i : Nat} {CX : CXT} {sp : Sp} {f : Addr} {fd : FuncData} (D : Has P w K mg base x ps j CX sp f fd) (h : j ≤ i) :
    Has P w K mg base x ps i CX sp f fd := ⟨D.G.mono h, D.g, D.k, D.b⟩
theorem Own.has {P : Program} {w : World} {K : PySem.W.Frag} {mg : Str → Option Value} {base : Heap} {x : Str} {st : Stmt} {ps : List Str} {f : Addr} {fd : FuncData} {lv : Nat} {CX : CXT} {sp : Sp} (O : Own K mg x st ps f fd)
    (G : FnOk P w K mg base CX lv f fd ps sp) : Has P w K mg base x ps lv CX sp f fd := ⟨G, O.g, O.F.kp, O.b⟩

/-! ### what stays -/
/-- all stays but what stands at s -/
def KB (s : Addr) (H H' : Hp) : Prop := ∀ a o, a ≠ s → H a = some o → H' a = some o
theorem KB.refl (s : Addr) (H : Hp) : KB s H H := fun _ _ _ h => h
theorem KB.trans {s : Addr} {H H1 H2 : Hp} (a : KB s H H1) (b : KB s H1 H2) : KB s H H2 := fun x o n h => b x o n (a x o n h)
theorem KB.of {s : Addr} {H H' : Hp} (e : Same H H') : KB s H H' := fun a o _ h => e a o h
theorem KB.upd {s : Addr} {H : Hp} {o : HO} : KB s H (upd H s o) := fun a u n h => by rw [upd_ne n]; exact h
theorem same_new {H : Hp} {p : Addr} {o : HO} (h : H p = none) : Same H (upd H p o) := fun b x e => by
  rw [upd_ne (ne_of_none e h)]
  exact e
theorem Rd.same {H H' : Hp} {a : Addr} {u : HO} (e : Same H H') (h : Rd H a u) : Rd H' a u := by
  rcases h with h | ⟨o, h⟩
  · exact .inl (e _ _ h)
  · exact .inr ⟨o, e _ _ h⟩
theorem SqT.same {K : PySem.W.Frag} {H H' : Hp} {a : Addr} {xs : List V} (e : Same H H') (h : SqT K H a xs) : SqT K H' a xs := by
  rcases h with h | h
  · exact .inl (Rd.same e h)
  · exact .inr h
theorem sqt {K : PySem.W.Frag} {H : Hp} {a : Addr} {xs : List V} (h : H a = some (.tup xs)) : SqT K H a xs := .inl (.inl h)
theorem sql {K : PySem.W.Frag} {H : Hp} {a : Addr} {xs : List V} (h : H a = some (.lst xs)) : SqL K H a xs := .inl (.inl h)
theorem KB.rd {s : Addr} {H H' : Hp} {a : Addr} {u : HO} {kvs : List (Key × V)} (e : KB s H H') (hs : H s = some (.dK kvs)) (hu : ∀ k, u ≠ .dK k) (h : Rd H a u) : Rd H' a u := by
  rcases h with h | ⟨o, h⟩
  · exact .inl (e _ _ (fun z => by rw [z, hs] at h; exact hu _ (Option.some.inj h).symm) h)
  · exact .inr ⟨o, e _ _ (fun z => by rw [z, hs] at h; cases h) h⟩
theorem KB.seq {K : PySem.W.Frag} {s : Addr} {H H' : Hp} {a : Addr} {xs : List V} {kvs : List (Key × V)} (e : KB s H H') (hs : H s = some (.dK kvs)) (h : SqL K H a xs) : SqL K H' a xs := by
  rcases h with h | h
  · exact .inl (e.rd hs (fun _ z => by cases z) h)
  · exact .inr h
theorem KB.tup {K : PySem.W.Frag} {s : Addr} {H H' : Hp} {a : Addr} {xs : List V} {kvs : List (Key × V)} (e : KB s H H') (hs : H s = some (.dK kvs)) (h : SqT K H a xs) : SqT K H' a xs := by
  rcases h with h | h
  · exact .inl (e.rd hs (fun _ z => by cases z) h)
  · exact .inr h
/-- tuples stay -/
def TM (K : PySem.W.Frag) (H H' : Hp) : Prop := ∀ a xs, SqT K H a xs → SqT K H' a xs
theorem TM.refl {K : PySem.W.Frag} (H : Hp) : TM K H H := fun _ _ h => h
theorem TM.trans {K : PySem.W.Frag} {H H1 H2 : Hp} (a : TM K H H1) (b : TM K H1 H2) : TM K H H2 := fun x y h => b x y (a x y h)
theorem TM.of {K : PySem.W.Frag} {H H' : Hp} (e : Same H H') : TM K H H' := fun _ _ h => SqT.same e h
theorem KB.tm {K : PySem.W.Frag} {s : Addr} {H H' : Hp} {kvs : List (Key × V)} (e : KB s H H') (hs : H s = some (.dK kvs)) : TM K H H' := fun _ _ h => e.tup hs h
theorem sz {n : Nat} (h : n ≤ 1000) : n ≤ sizeLine := Nat.le_of_lt (small1000 h)

theorem at_any {α : Type} {xs : List α} {z : Int} {j : Nat} {v : α} (e : z = (j : Int)) (h : xs[j]? = some v) : atI xs z = some v := by
  rw [e]
  exact atI_nat h

/-! ### a text told n times -/
/-- one sign, n times -/
def rp (c : Nat) (n : Int) : Str := ⟨(List.replicate n.toNat c).toArray⟩
theorem rp_fold (c : Nat) : ∀ (k : Nat) (a : Array Nat), (List.replicate k (#[c] : Array Nat)).foldl (· ++ ·) a = a ++ (List.replicate k c).toArray
  | 0, a => by simp
  | k + 1, a => by
    rw [List.replicate_succ, List.foldl_cons, rp_fold c k, List.replicate_succ]
    apply Array.ext'
    simp
theorem rp_len {c : Nat} {n : Int} : (rp c n).length = n.toNat := by
  show ((List.replicate n.toNat c).toArray).size = n.toNat
  simp
def rRepS : R2 := fun x y H Q => ∃ (c : Nat) (n : Int), x = .str ⟨#[c]⟩ ∧ y = .int n ∧ 0 ≤ n ∧ n ≤ 1000 ∧ Q (.str (rp c n)) H
theorem op_rep_str {X : Cx} : OpR X (binaryOp .Mult) rRepS := by
  intro pins s σ H x y v u Q I rx ry h
  obtain ⟨c, n, rfl, rfl, h0, h1, q⟩ := h
  obtain ⟨t, rfl⟩ := rx
  obtain ⟨t', rfl⟩ := ry
  have hz : (1000 : Nat) ≤ sizeLine := by decide
  refine PySem.P.mul_str (by simp; omega) (fun h2 h3 => ?_) (fun h2 h3 => ?_) ?_
  · have : (1 : Int) ≤ (2 ^ 63 - 1) / n := by
      apply (Int.le_ediv_iff_mul_le (by omega)).mpr
      omega
    show ¬ ((1 : Nat) : Int) > _
    omega
  · show decide _ = false
    refine decide_eq_false ?_
    show ¬ (1 * n.toNat > _)
    have : n.toNat ≤ 1000 := by omega
    omega
  · by_cases h2 : n < 1
    · rw [if_pos h2]
      have e : rp c n = Str.empty := by
        unfold rp
        rw [show n.toNat = 0 by omega]
        rfl
      rw [e] at q
      exact ⟨by decide, ⟨.str Str.empty, H, I.tok _, ⟨_, rfl⟩, q⟩⟩
    · rw [if_neg h2]
      by_cases h3 : n = 1
      · subst h3
        rw [if_pos (by rfl)]
        have e : rp c 1 = ⟨#[c]⟩ := rfl
        rw [e] at q
        exact ⟨.str ⟨#[c]⟩, H, I, ⟨_, rfl⟩, q⟩
      · rw [if_neg (by simp [h3]; intro z; cases z)]
        have e : (⟨(List.replicate n.toNat (#[c] : Array Nat)).foldl (· ++ ·) #[]⟩ : Str) = rp c n := by
          rw [rp_fold]
          simp [rp]
        rw [e]
        refine ⟨?_, ⟨.str (rp c n), H, I.tok _, ⟨_, rfl⟩, q⟩⟩
        rw [rp_len]
        omega
end Bk

set_option Elab.async false
set_option linter.all false
set_option maxRecDepth 100000
set_option maxHeartbeats 2000000
namespace Bk
open PySem PySem.Spec PyProof.Rows L2 GxR
/-! ### all(.. for x in text) where the element reads the module's names -/
/-- an element, with the module's names at hand -/
def Elm (prog : Program) (w : World) (mg : Str → Option Value) (sc : Scope) (x : Str) (elt : Expr) (pb : Nat → Bool) : Prop :=
  ∀ (en : Env) (B : Around) (Er : Value → Shared → Prop) (c : Nat) (t : Tok) (u : Shared) (m : Str → Option Value), en.scope = sc → en.globals = mainGlobals →
    u.heap.Ns mainGlobals mg → u.heap.Ns en.locals m → m x = some (.str ⟨#[c]⟩ t) → wpAny (model prog w) B (eval elt en) (fun y u' => y = .bool (pb c) ∧ Keeps u u') Er u
/-- x in NAME, a text of the module -/
theorem elm_in {prog : Program} {w : World} {mg : Str → Option Value} {sc : Scope} {x n : Str} {z : Str} {tz : Tok} {p1 p2 p3 : Pos} (hk : sc.kind = .function) (hl : sc.names.lookup x = some .local) (hn : sc.names.lookup n = some .globalImplicit)
    (hz : mg n = some (.str z tz)) (dx : (x == ("__debug__" : Str)) = false := by decide) (dn : (n == ("__debug__" : Str)) = false := by decide) :
    Elm prog w mg sc x (.Compare (.Name x p1) [.In] [.Name n p2] p3) (fun c => decide (c ∈ z.cps.toList)) := by
  intro en B Er c t u m es eg hg hloc hm
  refine wpAny_Compare1 (wpAny_Name (wpAny_loadName_local (by rw [es]; exact hk) (show en.scope.names.lookup x = some .local by rw [es]; exact hl) hloc hm ?_) dx)
  refine Calls.Name_function_global (by rw [es]; exact hk) (show en.scope.names.lookup n = some .globalImplicit by rw [es]; exact hn) (Calls.loadGlobal_global (by rw [eg]; exact hg) hz ?_) dn
  exact PyProof.Rows.in_str ⟨congrArg Value.bool (PySem.StrLaws.found_one z c), keeps_tok _ _⟩
/-- the code of a generator expression is found or made: the def's table may grow -/
theorem code_any {prog : Program} {w : World} {A : Around} {Er : Value → Shared → Prop} {env : Env} {c P : Addr} {u : Shared} {ps : Array Value} {sc : Scope} {q : Str} {gpos : Pos} {Q : Value → Shared → Prop}
    (hc : env.code = .ref c) (cd : PySem.W.CodeHd u.heap c P) (hP : u.heap.get? P = some { cls := .none, data := .fields ps }) (ht : TriplesOk ps.toList)
    (h : ∀ (code : Value) (g : Heap) (tk : Nat) (more : Array Value), Heap.ExtBut P u.heap g → u.heap.objs.size ≤ g.objs.size → g.get? P = some { cls := .none, data := .fields (ps ++ more) } → TriplesOk (ps ++ more).toList → Q code { u with heap := g, toks := tk }) :
    wpAny (model prog w) A (genexprCode env gpos q sc) Q Er u := by
  cases hf : codeAmong gpos ps.toList with
  | some cv => exact wpAny_genexprCode_hit hc (cd.code hP ht) hf (h cv u.heap u.toks #[] (Heap.ExtBut.refl _ _) (Nat.le_refl _) (by simpa using hP) (by simpa using ht))
  | none =>
    refine wpAny_genexprCodeX hc (cd.code hP ht) (cd.tab hP) hf fun c' g tk gx gge glt gco _ gtab _ => ?_
    obtain ⟨_, _, _, _, _, _, _, _, _, _, _, _, _, _, _, _, _, _, _, tr, _⟩ := gco
    exact h _ g tk _ gx (Nat.le_trans gge (Nat.le_of_lt glt)) gtab.2 tr
section
variable {X : Cx} {pins : List (Addr × Obj)} {σ : L2.St} {H : Hp} {s : Shared}
theorem gen_text {c P : Addr} {elt iter : Expr} {x : Str} {px gpos : Pos} {sc : Scope} {pb : Nat → Bool} {te : TE} {k : Nat} {W : Value → Shared → Prop} {R : Str → Hp → Prop}
    (hr : Room k X.A) (tb : TabB X.base X.mg c P) (hc : X.env.code = .ref c) (S : GenS X.env sc x) (hi : PE X iter te) (hel : Elm X.prog X.w X.mg sc x elt pb)
    (hs : ∀ v, genFold iter X.env v = pure v) (I : Inv X pins σ H s) (h : te σ H fun v H1 => ∃ a : Str, v = .str a ∧ TabG H1 P ∧ R a H1)
    (hW : ∀ (a : Str) (H1 : Hp) (g : Addr) (u : Shared), R a H1 → Ready X pins σ H1 P a pb g u → W (.ref g) u) :
    wpAny (model X.prog X.w) X.A (eval (.GeneratorExp elt [⟨.Name x px, iter, [], 0⟩] sc gpos) X.env) W X.xe s := by
  refine wpAny_GeneratorExp_walksQ hr.hd S.co (closure_ok S.free) S.cell S.dot S.loc S.kind (by have := hr.dp; omega) (thn (hi.run pins s σ H _ I h) ?_) hs
  rintro xv u ⟨v, H1, I1, r1, a, rfl, ⟨ps, hP, ht⟩, hR⟩
  obtain ⟨t, rfl⟩ := _root_.id r1
  refine wpAny_pyIter_str fun o St Wk st0 => ?_
  have atP : u.heap.get? P = some { cls := .none, data := .fields ps } := I1.hok P _ hP
  have atP2 := Heap.get?_push_of_some o atP
  have free := I1.nolimit
  have free2 := free.push o
  have old : ∀ b v, X.base.get? b = some v → (u.heap.push o).get? b = some v := fun b v e => Heap.get?_push_of_some _ (I1.bk b v e)
  refine ⟨free2, code_any hc (tb.code.keeps old) atP2 ht fun code g tk more gx gge gP gt => ?_⟩
  have hsz : (u.heap.push o).objs.size = u.heap.objs.size + 1 := Heap.size_push ..
  have hg : u.heap.objs.size < g.objs.size := by
    have gge : (u.heap.push o).objs.size ≤ g.objs.size := gge
    omega
  have ltP : P < u.heap.objs.size := Heap.lt_size atP
  have stat : cStatics ≠ P ∧ cStatics < u.heap.objs.size := by
    obtain ⟨_, ns, _⟩ := free
    refine ⟨fun e => ?_, ns.lt⟩
    obtain ⟨ob, es, ep, ho, hd, _⟩ := ns
    rw [e, atP] at ho
    cases ho
    cases hd
  obtain ⟨bm, ob, b1, b2, b3, b4, b5, b6, b7, b8⟩ := tb.bm
  have toG : ∀ b v, b ≠ P → u.heap.get? b = some v → g.get? b = some v := fun b v n e => gx b v n (Heap.get?_push_of_some _ e)
  have names : g.Ns mainGlobals X.mg := ((I1.mod.glob.keeps I1.bk).push o).extBut gx tb.gP
  have notW : ∀ b v, u.heap.get? b = some v → b ≠ u.heap.objs.size := fun b v e => Nat.ne_of_lt (Heap.lt_size e)
  refine wpAny_builtinsFor (m := X.mg) (by rw [I1.ok.glob]; exact names) b1 b2 (toG _ _ b4 (I1.bk _ _ b5)) b6 b7 b8 ?_
  refine ⟨u.heap.objs.size, [u.heap.objs.size], [u.heap.objs.size], a.cps.size, SignAt a, St, fun _ => true, fun i y => ∃ z, a.cps[i]? = some z ∧ y = .bool (pb z), rfl, Wk,
    (Wk X.A hr.hd).frame _ _ _ st0 fun b hb v e => gx b v (fun q => ?_) e, fun b hb => ?_, free2.extBut gx stat.1, fun q => ?_, fun hf hhf => ⟨?_, ?_⟩, ?_⟩
  · rw [List.mem_singleton.mp hb] at q
    exact Nat.ne_of_lt ltP q.symm
  · rw [List.mem_singleton.mp hb]
    exact hg
  · exact Nat.ne_of_lt stat.2 (List.mem_singleton.mp q)
  · intro A' E' i v s2 m2 _ _ _ _ _
    simp only [List.forIn_nil]
    exact wpAny_pure ⟨rfl, keeps_refl _⟩
  · intro A' E' i v s2 m2 _ hv _ hloc hm hk
    obtain ⟨z, tz, hz, rfl⟩ := hv
    have names2 : s2.heap.Ns mainGlobals X.mg := by
      obtain ⟨og, es, ep, e0, rr⟩ := names
      refine ⟨og, es, ep, hk mainGlobals (List.mem_range.mpr (Heap.lt_size e0)) (fun q => ?_) og (hhf _ _ e0), rr⟩
      obtain ⟨o3, _, _, e3, _⟩ := I1.mod.glob
      exact notW _ _ (I1.bk _ _ e3) (List.mem_singleton.mp q)
    refine wpAny_mono (hel _ A' E' z tz s2 m2 rfl I1.ok.glob names2 hloc hm) (fun y s3 r => ⟨⟨z, hz, r.1⟩, r.2⟩) fun _ _ e => e
  · intro q h5 tk5 gs bare ltq sz5 to5 W5 st5
    simp only [GxR.passing_true, List.length_range] at W5
    refine hW a H1 q _ hR ⟨_, _, _, _, _, W5.in4_1, st5, ?_, fun s' hm => ?_⟩
    · intro j y sj Qj Ej hy hQj
      obtain ⟨i, hi, z, hz, rfl⟩ := hy
      obtain ⟨hj, ej⟩ := List.getElem?_eq_some_iff.mp hi
      rw [List.getElem_range] at ej
      subst ej
      have ez : a.cps.toList[j]? = some z := by rw [Array.getElem?_toList]; exact hz
      have q2 : Qj (trF pb a.cps.toList j) sj := hQj
      rw [trF_some ez] at q2
      exact wpAny_truthy_bool q2
    · have out : ∀ b v, u.heap.get? b = some v → b ∉ g.objs.size :: [u.heap.objs.size] := fun b v e hb => by
        have hl := Heap.lt_size e
        rcases List.mem_cons.mp hb with z | z
        · rw [z] at hl
          exact absurd hl (Nat.not_lt.mpr (Nat.le_of_lt hg))
        · exact notW b v e (List.mem_singleton.mp z)
      have J := inv_tab (more := more) (h' := s'.heap) (g' := s'.gens) (d' := s'.drawn) (t' := s'.toks) I1 hP (fun b v n e => hm.heap b v (out b v e) (to5 b v (toG b v n e))) (hm.heap P _ (out P _ atP) (to5 P _ gP)) (AllBare.movedS (I1.bare.push bare) hm)
      rw [sh_eta u s' hm.os] at J
      exact ⟨_, ⟨⟨_, upd_same, gt⟩, fun b n => upd_ne n⟩, J⟩
/-- all(element for x in text) -/
theorem pe_allG {c P : Addr} {elt iter : Expr} {x : Str} {px p pos gpos : Pos} {sc : Scope} {pb : Nat → Bool} {te : TE} {k : Nat}
    (hr : Room k X.A) (gl : Gl X "all") (hm : X.mg "all" = none) (hb : bootBuiltins "all" = some (.builtin "all")) (tb : TabB X.base X.mg c P) (hc : X.env.code = .ref c) (S : GenS X.env sc x) (hi : PE X iter te) (hel : Elm X.prog X.w X.mg sc x elt pb)
    (hs : ∀ v, genFold iter X.env v = pure v)
    (he : starEach [.GeneratorExp elt [⟨.Name x px, iter, [], 0⟩] sc gpos] X.env = (false, eval (.GeneratorExp elt [⟨.Name x px, iter, [], 0⟩] sc gpos) X.env) :: starEach [] X.env := by rfl) :
    PE X (.Call (.Name "all" p) [.GeneratorExp elt [⟨.Name x px, iter, [], 0⟩] sc gpos] [] pos) (tAllS P pb te) := by
  refine ⟨fun pins s σ H Q I h => wpAny_Call_Name_kw (ld_blt (u := .builtin "all") I gl hm hb (PyProof.Rows.callWith_builtin1 ?_ he (by rfl)))⟩
  rw [he]
  refine Calls.spliced_cons (gen_text (R := fun a H1 => ∀ H2, Tabbed P H1 H2 → Q (.bl (a.cps.toList.all pb)) H2) hr tb hc S hi hel hs I h fun a H1 g u hR ⟨fp, wr, G, F, Sw, W, st, tr, hI⟩ => Calls.spliced_nil ?_)
  refine call_all_walkS (W.self 0 _ _ _ st ⟨g, fp, wr, G, _, F, Sw, _, rfl, W, st, tr, fun s' mv => ?_⟩)
  obtain ⟨H2, hT, J⟩ := hI s' mv
  exact ⟨.bl _, H2, J, rfl, by rw [all_signs a pb]; exact hR H2 hT⟩
end
end Bk

set_option Elab.async false
set_option linter.all false
set_option maxRecDepth 100000
set_option maxHeartbeats 2000000
namespace Bk
open PySem PySem.Spec PyProof.Rows L2
/-! ### NAME.get(key): a dict of the module whose keys are texts -/
def tKGet (K : PySem.W.Frag) (d : Addr) (ty : TE) : TE := fun σ H Q => ty σ H fun y H1 => ∃ (z : Str) (r : Option Value) (v : V), y = .str z ∧ PySem.W.nsIn K d z = some r ∧ RelV v (r.getD .none) ∧ Q v H1
theorem pe_kget {X : Cx} {n : Str} {p apos cpos : Pos} {e : Expr} {ty : TE} {d : Addr} {es : Array DictEntry} {c : Nat} (D : KDict X.K X.w d es c) (hg : Gl X n) (hm : X.mg n = some (.ref d)) (he : PE X e ty) (m : M1 X (.Name n p) "get" apos e cpos)
    (dn : (n == ("__debug__" : Str)) = false := by decide) : PE X (.Call (.Attribute (.Name n p) "get" apos) [e] [] cpos) (tKGet X.K d ty) := by
  refine ⟨fun pn u τ G W I h => wpAny_Call_method m.base m.few m.line PySem.F.plainAttrs_dict PySem.F.slot_dict_get PySem.F.type_dict_get (ld_glob I hg hm ?_ dn)⟩
  have M0 := PySem.W.mapOf_K (prog := X.prog) (w := X.w) I.kIn D.at_ D.lit
  refine ⟨M0.typeIs, M0.noDict, ?_⟩
  rw [m.trees]
  refine Calls.callWith_builtin rfl (Calls.evalArgs_plain (Calls.spliced_cons (thn (he.run pn u τ G _ I h) fun uv u1 hh => Calls.spliced_nil ?_)))
  obtain ⟨y, G1, I1, ry, z, r, v, ey, en, rv, q⟩ := hh
  subst ey
  obtain ⟨t, rfl⟩ := ry
  have M1 := PySem.W.mapOf_K (prog := X.prog) (w := X.w) I1.kIn D.at_ D.lit
  refine call_meetsIn PySem.F.slot_dict_get M1.typeIs PySem.F.entry_dict_get (PySem.F.args_dict_get_2 _ _) (meets_dict_get (strKind X.prog X.w) d (PySem.strKind_is X.prog X.w z t) D.low) ⟨_, M1, ?_⟩
  rw [PySem.W.find_K D.at_ en]
  exact ⟨v, G1, I1.tok _, rv, q⟩

/-! ### handed-in data -/
/-- what is told by tuples and lists stays -/
structure DM (K : PySem.W.Frag) (H H' : Hp) : Prop where
  t : ∀ a xs, SqT K H a xs → SqT K H' a xs
  l : ∀ a xs, SqL K H a xs → SqL K H' a xs
theorem DM.refl {K : PySem.W.Frag} (H : Hp) : DM K H H := ⟨fun _ _ h => h, fun _ _ h => h⟩
theorem DM.trans {K : PySem.W.Frag} {H H1 H2 : Hp} (a : DM K H H1) (b : DM K H1 H2) : DM K H H2 := ⟨fun x y h => b.t x y (a.t x y h), fun x y h => b.l x y (a.l x y h)⟩
theorem DM.of {K : PySem.W.Frag} {H H' : Hp} (e : Same H H') : DM K H H' := ⟨fun _ _ h => SqT.same e h, fun _ _ h => e.seq h⟩
theorem DM.tm {K : PySem.W.Frag} {H H' : Hp} (d : DM K H H') : TM K H H' := d.t
theorem KB.dm {K : PySem.W.Frag} {s : Addr} {H H' : Hp} {kvs : List (Key × V)} (e : KB s H H') (hs : H s = some (.dK kvs)) : DM K H H' := ⟨fun _ _ h => e.tup hs h, fun _ _ h => e.seq hs h⟩
mutual
theorem Dp.dm {K : PySem.W.Frag} {H H' : Hp} (m : DM K H H') : ∀ {d : PyData} {v : V}, Dp K H v d → Dp K H' v d
  | .none, _, .non => .non
  | .bool _, _, .bl b => .bl b
  | .int _, _, .int i => .int i
  | .str _, _, .str x => .str x
  | .list _, _, .lst h r => .lst (m.l _ _ h) (DpAll.dm m r)
  | .tuple _, _, .tup h r => .tup (m.t _ _ h) (DpAll.dm m r)
theorem DpAll.dm {K : PySem.W.Frag} {H H' : Hp} (m : DM K H H') : ∀ {ds : List PyData} {vs : List V}, DpAll K H vs ds → DpAll K H' vs ds
  | [], _, .nil => .nil
  | _ :: _, _, .cons h r => .cons (Dp.dm m h) (DpAll.dm m r)
end
theorem DpAll.len {K : PySem.W.Frag} {H : Hp} : ∀ {ds : List PyData} {vs : List V}, DpAll K H vs ds → vs.length = ds.length
  | [], _, .nil => rfl
  | _ :: _, _, .cons _ r => by rw [List.length_cons, List.length_cons, DpAll.len r]
theorem DpAll.at {K : PySem.W.Frag} {H : Hp} : ∀ {ds : List PyData} {vs : List V} {i : Nat} {d : PyData}, DpAll K H vs ds → ds[i]? = some d → ∃ v, vs[i]? = some v ∧ Dp K H v d
  | [], _, i, d, .nil, h => by simp at h
  | e :: ds, v :: vs, 0, d, .cons a r, h => by
    simp only [List.getElem?_cons_zero, Option.some.injEq] at h
    subst h
    exact ⟨v, rfl, a⟩
  | e :: ds, v :: vs, i + 1, d, .cons a r, h => by
    simp only [List.getElem?_cons_succ] at h
    obtain ⟨u, h1, h2⟩ := DpAll.at r h
    exact ⟨u, by simpa using h1, h2⟩
theorem DpAll.app {K : PySem.W.Frag} {H : Hp} : ∀ {ds es : List PyData} {vs us : List V}, DpAll K H vs ds → DpAll K H us es → DpAll K H (vs ++ us) (ds ++ es)
  | [], _, _, _, .nil, s => s
  | _ :: _, _, _, _, .cons a r, s => .cons a (DpAll.app r s)
theorem DpAll.drop {K : PySem.W.Frag} {H : Hp} : ∀ (n : Nat) {ds : List PyData} {vs : List V}, DpAll K H vs ds → DpAll K H (vs.drop n) (ds.drop n)
  | 0, _, _, r => r
  | _ + 1, [], _, .nil => .nil
  | n + 1, _ :: _, _, .cons _ r => DpAll.drop n r
theorem DpAll.take {K : PySem.W.Frag} {H : Hp} : ∀ (n : Nat) {ds : List PyData} {vs : List V}, DpAll K H vs ds → DpAll K H (vs.take n) (ds.take n)
  | 0, _, _, _ => .nil
  | _ + 1, [], _, .nil => .nil
  | n + 1, _ :: _, _, .cons a r => .cons a (DpAll.take n r)
/-- the built-in type's name -/
def tyn : PyData → String
  | .none => "NoneType"
  | .bool _ => "bool"
  | .int _ => "int"
  | .str _ => "str"
  | .list _ => "list"
  | .tuple _ => "tuple"
  | .dict _ => "dict"
theorem ty_of {K : PySem.W.Frag} {H : Hp} {v : V} {d : PyData} (h : Dp K H v d) : TyX K H v (.type (tyn d)) := by
  cases h with
  | non => exact .base .non
  | bl b => exact .base (.bl b)
  | int i => exact .base (.int i)
  | str x => exact .base (.str x)
  | lst a r =>
    rcases a with (a | ⟨o, a⟩) | ⟨o, its, n, a, c, _⟩
    · exact .base (.lst a)
    · exact .base (.frz a)
    · exact .kList a c
  | tup a r =>
    rcases a with (a | ⟨o, a⟩) | ⟨o, its, n, a, c, _⟩
    · exact .base (.tup a)
    · exact .fTuple a
    · exact .kTuple a c
def isStr : PyData → Bool
  | .str _ => true
  | _ => false
def isTup : PyData → Bool
  | .tuple _ => true
  | _ => false
def isLst : PyData → Bool
  | .list _ => true
  | _ => false
def isInt : PyData → Bool
  | .int _ => true
  | .bool _ => true
  | _ => false
def isBool : PyData → Bool
  | .bool _ => true
  | _ => false
section
variable {K : PySem.W.Frag} {H : Hp} {v : V} {d : PyData} {Q : VK}
theorem use_isStr (h : Dp K H v d) (q : Q (.bl (isStr d)) H) : rIsi K [v, .ty "str"] H Q := ⟨v, .ty "str", _, _, isStr d, rfl, .ty _, ty_of h, kit_ty (by cases h with | non => exact (by decide +kernel : kitB "NoneType" "str" = some false) | bl _ => exact (by decide +kernel : kitB "bool" "str" = some false) | int _ => exact (by decide +kernel : kitB "int" "str" = some false) | str _ => exact (by decide +kernel : kitB "str" "str" = some true) | lst _ _ => exact (by decide +kernel : kitB "list" "str" = some false) | tup _ _ => exact (by decide +kernel : kitB "tuple" "str" = some false)), q⟩
theorem use_isTup (h : Dp K H v d) (q : Q (.bl (isTup d)) H) : rIsi K [v, .ty "tuple"] H Q := ⟨v, .ty "tuple", _, _, isTup d, rfl, .ty _, ty_of h, kit_ty (by cases h with | non => exact (by decide +kernel : kitB "NoneType" "tuple" = some false) | bl _ => exact (by decide +kernel : kitB "bool" "tuple" = some false) | int _ => exact (by decide +kernel : kitB "int" "tuple" = some false) | str _ => exact (by decide +kernel : kitB "str" "tuple" = some false) | lst _ _ => exact (by decide +kernel : kitB "list" "tuple" = some false) | tup _ _ => exact (by decide +kernel : kitB "tuple" "tuple" = some true)), q⟩
theorem use_isLst (h : Dp K H v d) (q : Q (.bl (isLst d)) H) : rIsi K [v, .ty "list"] H Q := ⟨v, .ty "list", _, _, isLst d, rfl, .ty _, ty_of h, kit_ty (by cases h with | non => exact (by decide +kernel : kitB "NoneType" "list" = some false) | bl _ => exact (by decide +kernel : kitB "bool" "list" = some false) | int _ => exact (by decide +kernel : kitB "int" "list" = some false) | str _ => exact (by decide +kernel : kitB "str" "list" = some false) | lst _ _ => exact (by decide +kernel : kitB "list" "list" = some true) | tup _ _ => exact (by decide +kernel : kitB "tuple" "list" = some false)), q⟩
theorem use_isInt (h : Dp K H v d) (q : Q (.bl (isInt d)) H) : rIsi K [v, .ty "int"] H Q := ⟨v, .ty "int", _, _, isInt d, rfl, .ty _, ty_of h, kit_ty (by cases h with | non => exact (by decide +kernel : kitB "NoneType" "int" = some false) | bl _ => exact (by decide +kernel : kitB "bool" "int" = some true) | int _ => exact (by decide +kernel : kitB "int" "int" = some true) | str _ => exact (by decide +kernel : kitB "str" "int" = some false) | lst _ _ => exact (by decide +kernel : kitB "list" "int" = some false) | tup _ _ => exact (by decide +kernel : kitB "tuple" "int" = some false)), q⟩
theorem use_isBool (h : Dp K H v d) (q : Q (.bl (isBool d)) H) : rIsi K [v, .ty "bool"] H Q := ⟨v, .ty "bool", _, _, isBool d, rfl, .ty _, ty_of h, kit_ty (by cases h with | non => exact (by decide +kernel : kitB "NoneType" "bool" = some false) | bl _ => exact (by decide +kernel : kitB "bool" "bool" = some true) | int _ => exact (by decide +kernel : kitB "int" "bool" = some false) | str _ => exact (by decide +kernel : kitB "str" "bool" = some false) | lst _ _ => exact (by decide +kernel : kitB "list" "bool" = some false) | tup _ _ => exact (by decide +kernel : kitB "tuple" "bool" = some false)), q⟩
end
/-- all stays but a def's table at P, which may grow -/
structure Tb (P : Addr) (H H' : Hp) : Prop where
  g : GxR.TabG H' P
  k : ∀ a o, a ≠ P → H a = some o → H' a = some o
theorem Tb.refl {P : Addr} {H : Hp} (g : GxR.TabG H P) : Tb P H H := ⟨g, fun _ _ _ h => h⟩
theorem Tb.trans {P : Addr} {H H1 H2 : Hp} (a : Tb P H H1) (b : Tb P H1 H2) : Tb P H H2 := ⟨b.g, fun x o n h => b.k x o n (a.k x o n h)⟩
theorem tab_same {P : Addr} {H H' : Hp} (g : GxR.TabG H P) (e : Same H H') : GxR.TabG H' P := by
  obtain ⟨ps, h, t⟩ := g
  exact ⟨ps, e _ _ h, t⟩
theorem Tb.of {P : Addr} {H H' : Hp} (g : GxR.TabG H P) (e : Same H H') : Tb P H H' := ⟨tab_same g e, fun _ _ _ h => e _ _ h⟩
theorem Tb.grown {P : Addr} {H H' : Hp} (t : GxR.Tabbed P H H') : Tb P H H' := ⟨t.1, fun a o n h => by rw [t.2 a n]; exact h⟩
theorem Tb.rd {P : Addr} {H H' : Hp} {a : Addr} {u : HO} (g : GxR.TabG H P) (t : Tb P H H') (hu : ∀ ps, u ≠ .tbl ps) (h : Rd H a u) : Rd H' a u := by
  obtain ⟨ps, e, _⟩ := g
  rcases h with h | ⟨o, h⟩
  · exact .inl (t.k _ _ (fun z => by rw [z, e] at h; exact hu _ (Option.some.inj h).symm) h)
  · exact .inr ⟨o, t.k _ _ (fun z => by rw [z, e] at h; cases h) h⟩
theorem Tb.dm {K : PySem.W.Frag} {P : Addr} {H H' : Hp} (g : GxR.TabG H P) (t : Tb P H H') : DM K H H' := by
  refine ⟨fun a xs h => ?_, fun a xs h => ?_⟩
  · rcases h with h | h
    · exact .inl (t.rd g (fun _ z => by cases z) h)
    · exact .inr h
  · rcases h with h | h
    · exact .inl (t.rd g (fun _ z => by cases z) h)
    · exact .inr h
theorem tab_kb {P s : Addr} {H H' : Hp} {kvs : List (Key × V)} (g : GxR.TabG H P) (e : KB s H H') (hs : H s = some (.dK kvs)) : GxR.TabG H' P := by
  obtain ⟨ps, h, t⟩ := g
  exact ⟨ps, e _ _ (fun z => by rw [z, hs] at h; cases h) h, t⟩
/-! ### sizes -/
mutual
def szOk : PyData → Bool
  | .str x => decide (x.length ≤ 1000)
  | .list xs => szAll xs
  | .tuple xs => szAll xs
  | _ => true
def szAll : List PyData → Bool
  | [] => true
  | d :: ds => szOk d && szAll ds
end
theorem szAll_at : ∀ {ds : List PyData} {i : Nat} {d : PyData}, szAll ds = true → ds[i]? = some d → szOk d = true
  | [], i, d, _, h => by simp at h
  | e :: ds, 0, d, h, q => by
    simp only [List.getElem?_cons_zero, Option.some.injEq] at q
    subst q
    unfold szAll at h
    exact (Bool.and_eq_true_iff.mp h).1
  | e :: ds, i + 1, d, h, q => by
    simp only [List.getElem?_cons_succ] at q
    unfold szAll at h
    exact szAll_at (Bool.and_eq_true_iff.mp h).2 q
end Bk

set_option Elab.async false
set_option linter.all false
set_option maxRecDepth 100000
set_option maxHeartbeats 2000000
namespace Bk
open PySem PySem.Spec PyProof.Rows L2
/-! ### the forms -/
abbrev Forms := List (Str × List Str)
def numForms : Forms := [("num", ["amount"]), ("read", ["name"]), ("plus", ["number", "number"]), ("minus", ["number", "number"]), ("times", ["number", "number"]), ("most", ["number", "number"]), ("least", ["number", "number"])]
def condForms : Forms := [("below", ["number", "number"]), ("not", ["condition"]), ("all", ["condition", "condition"]), ("any", ["condition", "condition"])]
def ctrForms : Forms := [("none", []), ("give", ["side", "side", "good", "number"]), ("both", ["contract", "contract"]), ("turned", ["side", "side", "contract"]), ("later", ["wait", "contract"]), ("often", ["times", "gap", "contract"]),
  ("if", ["condition", "contract", "contract"]), ("when", ["condition", "contract"]), ("until", ["condition", "contract"])]
def strsAre : List Value → List Str → Bool
  | [], [] => true
  | .str x _ :: r, y :: s => decide (x = y) && strsAre r s
  | _, _ => false
theorem strsAre_vals : ∀ {us : List Value} {ks : List Str}, strsAre us ks = true → Vals (ks.map V.str) us
  | [], [], _ => .nil
  | .str x t :: r, y :: s, h => by
    have h' : (decide (x = y) && strsAre r s) = true := h
    rw [Bool.and_eq_true] at h'
    have e := of_decide_eq_true h'.1
    subst e
    exact .cons ⟨t, rfl⟩ (strsAre_vals h'.2)
def tupOk (K : PySem.W.Frag) (a : Addr) (ks : List Str) : Bool := match K.lookup a with
  | some ⟨.type c, _, .seq its _, _⟩ => decide (c = "tuple") && (decide (its.size ≤ 100) && strsAre its.toList ks)
  | _ => false
theorem tupOk_sq {K : PySem.W.Frag} {a : Addr} {ks : List Str} (h : tupOk K a ks = true) (H : Hp) : SqT K H a (ks.map V.str) := by
  unfold tupOk at h
  split at h
  · rename_i c dd its n sl e
    simp only [Bool.and_eq_true, decide_eq_true_eq] at h
    obtain ⟨h1, h2, h3⟩ := h
    subst h1
    exact .inr ⟨_, its, n, e, rfl, rfl, Nat.le_trans h2 (by decide), strsAre_vals h3⟩
  · cases h
def rowOk (K : PySem.W.Frag) (e : DictEntry) (p : Str × List Str) : Bool := match e.key, e.val with
  | .str x _, .ref a => decide (x = p.1) && tupOk K a p.2
  | _, _ => false
def rowsOk (K : PySem.W.Frag) : List DictEntry → Forms → Bool
  | [], [] => true
  | e :: r, p :: s => rowOk K e p && rowsOk K r s
  | _, _ => false
def formOf (L : Forms) (z : Str) : Option (List Str) := match L with
  | [] => none
  | p :: s => if p.1 = z then some p.2 else formOf s z
theorem rowsOk_find {K : PySem.W.Frag} {z : Str} : ∀ {es : List DictEntry} {L : Forms}, rowsOk K es L = true →
    match formOf L z with
    | none => es.find? (fun e => e.key.isStr z) = none
    | some ks => ∃ e a, es.find? (fun e => e.key.isStr z) = some e ∧ e.val = .ref a ∧ tupOk K a ks = true
  | [], [], _ => rfl
  | e :: r, p :: s, h => by
    have h' : (rowOk K e p && rowsOk K r s) = true := h
    rw [Bool.and_eq_true] at h'
    obtain ⟨h1, h2⟩ := h'
    have ih := rowsOk_find (z := z) h2
    unfold rowOk at h1
    split at h1
    · rename_i x t a ek ev
      rw [Bool.and_eq_true, decide_eq_true_eq] at h1
      obtain ⟨e1, e2⟩ := h1
      by_cases c : p.1 = z
      · have e3 : e.key.isStr z = true := by rw [ek, PySem.W.isStr_of, e1, c]; simp [Value.isStrOf]
        unfold formOf
        rw [if_pos c]
        exact ⟨e, a, by rw [List.find?_cons, e3], ev, e2⟩
      · have e3 : e.key.isStr z = false := by
          rw [ek, PySem.W.isStr_of, e1]
          simp only [Value.isStrOf]
          simpa using c
        unfold formOf
        rw [if_neg c, List.find?_cons, e3]
        exact ih
    · cases h1
def tabOk (K : PySem.W.Frag) (d : Addr) (L : Forms) : Bool := match K.lookup d with
  | some ⟨_, _, .dict es _, _⟩ => !(es.toList.any (·.refKey)) && rowsOk K es.toList L
  | _ => false
theorem tabOk_ns {K : PySem.W.Frag} {d : Addr} {L : Forms} (h : tabOk K d L = true) (z : Str) :
    match formOf L z with
    | none => PySem.W.nsIn K d z = some none
    | some ks => ∃ a, PySem.W.nsIn K d z = some (some (.ref a)) ∧ ∀ H, SqT K H a (ks.map V.str) := by
  unfold tabOk at h
  split at h
  · rename_i c dd es n sl e
    rw [Bool.and_eq_true] at h
    have q := rowsOk_find (z := z) h.2
    have r : es.toList.any (·.refKey) = false := by simpa using h.1
    unfold PySem.W.nsIn
    rw [e]
    cases hf : formOf L z with
    | none =>
      rw [hf] at q
      dsimp only at q ⊢
      rw [q, r]
      rfl
    | some ks =>
      rw [hf] at q
      obtain ⟨en, a, q1, q2, q3⟩ := q
      dsimp only
      rw [q1]
      dsimp only
      exact ⟨a, by rw [q2], tupOk_sq q3⟩
  · cases h
/-- a dict of the module that tells the forms of a kind -/
structure FTab (K : PySem.W.Frag) (w : World) (mg : Str → Option Value) (n : Str) (L : Forms) (d : Addr) : Prop where
  g : mg n = some (.ref d)
  kd : ∃ es c, KDict K w d es c
  ok : tabOk K d L = true
/-! ### what a contract is -/
def kindsOf (kind w : Str) : Option (List Str) := if kind = "contract" then formOf ctrForms w else if kind = "condition" then formOf condForms w else formOf numForms w
def isDeep (k : Str) : Bool := decide (k = "contract") || (decide (k = "condition") || decide (k = "number"))
def isW' : PyData → Bool
  | .str x => decide (1 ≤ x.length) && (decide (x.length ≤ 8) && x.cps.toList.all fun c => decide (97 ≤ c) && decide (c ≤ 122))
  | _ => false
def inB (lo hi : Int) : PyData → Bool
  | .int i => decide (lo ≤ i) && decide (i ≤ hi)
  | _ => false
def plainOk (k : Str) (d : PyData) : Bool :=
  if k = "amount" then inB (-999999999999) 999999999999 d else if k = "wait" then inB 0 99 d else if k = "times" then inB 1 9 d else if k = "gap" then inB 1 99 d else isW' d
def sameSides : List PyData → Bool
  | .str a :: .str b :: _ => decide (a = b)
  | _ => false
def twoSides (ks : List Str) : Bool := decide (ks.take 2 = [("side" : Str), ("side" : Str)])
/-- a contract, condition or number (by its kind) of at most so many levels -/
def wf : Nat → Str → PyData → Bool
  | 0, _, _ => false
  | n + 1, kind, .tuple (.str w :: ds) => match kindsOf kind w with
    | none => false
    | some ks => decide (ks.length = ds.length) && ((List.zip ks ds).all (fun p => if isDeep p.1 = true then wf n p.1 p.2 else plainOk p.1 p.2) && !(twoSides ks && sameSides ds))
  | _ + 1, _, _ => false
theorem wf_tup {n : Nat} {kind w : Str} {ds : List PyData} : wf (n + 1) kind (.tuple (.str w :: ds)) = match kindsOf kind w with
    | none => false
    | some ks => decide (ks.length = ds.length) && ((List.zip ks ds).all (fun p => if isDeep p.1 = true then wf n p.1 p.2 else plainOk p.1 p.2) && !(twoSides ks && sameSides ds)) := rfl
theorem wf_not {n : Nat} {kind : Str} {d : PyData} (h : ∀ w ds, d ≠ .tuple (.str w :: ds)) : wf n kind d = false := by
  cases n with
  | zero => rfl
  | succ n =>
    cases d with
    | tuple ds =>
      cases ds with
      | nil => rfl
      | cons x r =>
        cases x with
        | str w => exact absurd rfl (h w r)
        | _ => rfl
    | _ => rfl
end Bk

set_option Elab.async false
set_option linter.all false
set_option maxRecDepth 100000
set_option maxHeartbeats 2000000
namespace Bk
open PySem PySem.Spec PyProof.Rows L2
/-! ### a def whose code object is known -/
structure FunC (c : Addr) (K : PySem.W.Frag) (x : Str) (st : Stmt) (f : Addr) (fd : FuncData) : Prop where
  ex : ∃ (oc : Value) (od : Option Addr) (kV doc pm : Value) (an : Option Addr) (ct : Value) (osl : Array (Option Value)),
    fd = PySem.W.fnOf x x (defArgs st) (defBody st) (defScope st) .none kV doc pm an (.ref c) ct ∧ K.lookup f = some ⟨oc, od, .func fd, osl⟩ ∧ PySem.W.codeIn K (.ref c) x = true
  kp : PySem.W.keepIn K (.ref f) = true
theorem FunC.ok {c : Addr} {P : Program} {w : World} {K : PySem.W.Frag} {mg : Str → Option Value} {base : Heap} {x : Str} {st : Stmt} {f : Addr} {fd : FuncData} {N ps : List Str} {k : Nat} {sp : Sp} (F : FunC c K x st f fd) (S : FnScope N ps (defScope st))
    (len : ∀ vs H Q E, sp vs H Q E → vs.length = ps.length)
    (hb : ∀ (A : Around) (outer : List Env) (s : Shared) (H : Hp) (vs : List V) (Q : VK) (E : XK), Room k (A.deeper (envOfC x (defScope st) s.heap.objs.size f (.ref c))) → sp vs H Q E →
      ∃ t, PSs (cxOf CX0 P w K mg base N x (defScope st) f (.ref c) A outer s H E).nox (defBody st) t ∧ t { nx := fun _ H' => Q .non H', rt := Q } (start N vs) H) : FnOk P w K mg base CX0 (k + 1) f fd ps sp := by
  obtain ⟨oc, od, kV, doc, pm, an, ct, osl, rfl, lk, hcd⟩ := F.ex
  refine fn_of lk hcd S len fun A outer s H vs Q E hr hsp => ?_
  obtain ⟨t, h, q⟩ := hb A outer s H vs Q E hr hsp
  exact ⟨t, h.nox, q⟩
structure OwnC (c : Addr) (K : PySem.W.Frag) (mg : Str → Option Value) (x : Str) (st : Stmt) (ps : List Str) (f : Addr) (fd : FuncData) : Prop where
  F : FunC c K x st f fd
  g : mg x = some (.ref f)
  b : Binds K fd ps []
theorem OwnC.has {c : Addr} {P : Program} {w : World} {K : PySem.W.Frag} {mg : Str → Option Value} {base : Heap} {x : Str} {st : Stmt} {ps : List Str} {f : Addr} {fd : FuncData} {lv : Nat} {CX : CXT} {sp : Sp} (O : OwnC c K mg x st ps f fd)
    (G : FnOk P w K mg base CX lv f fd ps sp) : Has P w K mg base x ps lv CX sp f fd := ⟨G, O.g, O.F.kp, O.b⟩
theorem OwnC.mk' {c : Addr} {K : PySem.W.Frag} {mg : Str → Option Value} {x : Str} {st : Stmt} {ps : List Str} {f : Addr} {oc : Value} {od an : Option Addr} {osl : Array (Option Value)} {kV doc pm ct : Value}
    (l : K.lookup f = some ⟨oc, od, .func (PySem.W.fnOf x x (defArgs st) (defBody st) (defScope st) .none kV doc pm an (.ref c) ct), osl⟩) (hc : PySem.W.codeIn K (.ref c) x = true) (kp : PySem.W.keepIn K (.ref f) = true) (g : mg x = some (.ref f))
    (b : Binds K (PySem.W.fnOf x x (defArgs st) (defBody st) (defScope st) .none kV doc pm an (.ref c) ct) ps []) : OwnC c K mg x st ps f (PySem.W.fnOf x x (defArgs st) (defBody st) (defScope st) .none kV doc pm an (.ref c) ct) :=
  ⟨⟨⟨oc, od, kV, doc, pm, an, ct, osl, rfl, l, hc⟩, kp⟩, g, b⟩
/-! ### the package's errors -/
structure ExcT (K : PySem.W.Frag) (mg : Str → Option Value) (x : Str) (C : Addr) : Prop where
  g : mg x = some (.ref C)
  x : PySem.W.excIn K C [.type "ValueError", .type "Exception", .type "BaseException", .type "object"] "ValueError.__new__" = true
  k : PySem.W.keepIn K (.ref C) = true
  s : PySem.W.subIn K (.ref C) (.type "BaseException") = some true
  t : PySem.W.typeIn K (.ref C) = some (.type "type")
/-- isinstance(e, c) in a suite: the reading asks of what class e is -/
def rIsX (K : PySem.W.Frag) (a : Addr) (cls : Value) (d : Option Addr) : List V → Hp → VK → Prop := fun xs H Q => ∃ D, cls = .ref D ∧ d = none ∧ ExcC K D ∧ rIsE K D a xs H Q
theorem call_isX {X : Cx} {a : Addr} {cls : Value} {d : Option Addr} {oe : Obj} {pn : List (Addr × Obj)} (hz : Zc cls d oe) (hf : ∃ vs, oe.data = .fields vs) : CallR (X.suite a ((a, oe) :: pn)) (.builtin "isinstance") (rIsX X.K a cls d) := by
  intro pins s τ G xs us W I r h
  obtain ⟨D, rfl, rfl, C, h⟩ := h
  exact call_isE C hz hf pins s τ G xs us W I r h
/-! ### a raised text -/
theorem str_app_len (a b : Str) : (a ++ b).length = a.length + b.length := by
  show (a.cps ++ b.cps).size = a.cps.size + b.cps.size
  simp
theorem five_k : (5000 : Nat) ≤ sizeLine := by decide
section
variable {σ : L2.St} {H : Hp} {R : List V → Hp → Prop} {a b x : Str} {i : Nat}
theorem fs3 (hx : σ[i]? = some (some (.str x))) (lx : x.length ≤ 1000) (la : a.length ≤ 1000) (lb : b.length ≤ 1000) (h : ∀ z, R [.str z] H) :
    tCons (fun σ H Q => tJs [tC (.str a), tFmt (tVar i), tC (.str b)] Str.empty σ H fun out H1 => Q (.str out) H1) tNil σ H R := by
  have e0 : (Str.empty : Str).length = 0 := rfl
  have z := five_k
  refine ⟨a, rfl, by rw [str_app_len]; omega, _, hx, .inl ⟨x, rfl, by omega, x, rfl, by rw [str_app_len, str_app_len]; omega, b, rfl, by rw [str_app_len, str_app_len, str_app_len]; omega, h _⟩⟩
theorem fs2 (hx : σ[i]? = some (some (.str x))) (lx : x.length ≤ 1000) (la : a.length ≤ 1000) (h : ∀ z, R [.str z] H) :
    tCons (fun σ H Q => tJs [tC (.str a), tFmt (tVar i)] Str.empty σ H fun out H1 => Q (.str out) H1) tNil σ H R := by
  have e0 : (Str.empty : Str).length = 0 := rfl
  have z := five_k
  refine ⟨a, rfl, by rw [str_app_len]; omega, _, hx, .inl ⟨x, rfl, by omega, x, rfl, by rw [str_app_len, str_app_len]; omega, h _⟩⟩
end
theorem inDeep (k : Str) : inV (.str k) [.str "contract", .str "condition", .str "number"] = isDeep k := by
  have e : ∀ a b : Str, (a == b) = decide (b = a) := fun a b => by
    by_cases c : a = b
    · subst c; simp
    · rw [decide_eq_false (fun z => c z.symm)]
      simpa using c
  simp only [inV, List.any_cons, List.any_nil, eqV, isDeep, e, Bool.or_false]
theorem cut1 (x : V) (xs : List V) : cutV (x :: xs) (some 1) none = xs := by
  have e : HT.sIx (xs.length + 1) 0 (some 1) = 1 := by
    have q := HT.sIx_nat (xs.length + 1) 0 1
    refine q.trans ?_
    omega
  unfold cutV
  rw [List.length_cons, HT.sIx_none, e]
  simp
theorem not_whole1 (x : V) (xs : List V) : ¬ (HT.sIx (x :: xs).length 0 (some 1) = 0 ∧ HT.sIx (x :: xs).length (x :: xs).length none = (x :: xs).length) := by
  rintro ⟨h, _⟩
  have e : HT.sIx (xs.length + 1) 0 (some 1) = 1 := by
    have q := HT.sIx_nat (xs.length + 1) 0 1
    refine q.trans ?_
    omega
  rw [List.length_cons, e] at h
  cases h
theorem formOf_mem {z : Str} {ks : List Str} : ∀ {L : Forms}, formOf L z = some ks → ∃ p ∈ L, p.2 = ks
  | [], h => by cases h
  | p :: s, h => by
    unfold formOf at h
    split at h
    · exact ⟨p, List.mem_cons_self, Option.some.inj h⟩
    · obtain ⟨q, hq, e⟩ := formOf_mem h
      exact ⟨q, List.mem_cons_of_mem _ hq, e⟩
def allKinds : List (List Str) := (ctrForms ++ condForms ++ numForms).map (·.2)
theorem kinds_mem {kind z : Str} {ks : List Str} (h : kindsOf kind z = some ks) : ks ∈ allKinds := by
  unfold kindsOf at h
  unfold allKinds
  rw [List.mem_map]
  split at h
  · obtain ⟨p, hp, e⟩ := formOf_mem h
    exact ⟨p, List.mem_append_left _ (List.mem_append_left _ hp), e⟩
  · split at h
    · obtain ⟨p, hp, e⟩ := formOf_mem h
      exact ⟨p, List.mem_append_left _ (List.mem_append_right _ hp), e⟩
    · obtain ⟨p, hp, e⟩ := formOf_mem h
      exact ⟨p, List.mem_append_right _ hp, e⟩
theorem kinds_short : ∀ ks ∈ allKinds, ∀ k ∈ ks, k.length ≤ 100 := by decide +kernel
theorem kinds_two : ∀ ks ∈ allKinds, twoSides ks = true → ∃ s, ks = ("side" : Str) :: ("side" : Str) :: s := by
  intro ks h e
  unfold twoSides at e
  have e := of_decide_eq_true e
  cases ks with
  | nil => cases e
  | cons x r =>
    cases r with
    | nil => cases e
    | cons y s =>
      injection e with e1 e2
      injection e2 with e2 e3
      exact ⟨s, by rw [e1, e2]⟩
/-- the parts, so far -/
def partOk (n : Nat) (p : Str × PyData) : Bool := if isDeep p.1 = true then wf n p.1 p.2 else plainOk p.1 p.2
theorem zip_at {ks : List Str} {ds : List PyData} {i : Nat} {k : Str} {d : PyData} (h1 : ks[i]? = some k) (h2 : ds[i]? = some d) : (List.zip ks ds)[i]? = some (k, d) := by
  rw [List.getElem?_zip_eq_some]
  exact ⟨h1, h2⟩
theorem all_not {α : Type} {f : α → Bool} {l : List α} {i : Nat} {x : α} (h : l[i]? = some x) (e : f x = false) : l.all f = false := by
  rw [Bool.eq_false_iff]
  intro z
  have := List.all_eq_true.mp z x (List.mem_of_getElem? h)
  rw [e] at this
  cases this
theorem take_all {α : Type} {f : α → Bool} {l : List α} {i : Nat} {x : α} (h : l[i]? = some x) (e : f x = true) (q : (l.take i).all f = true) : (l.take (i + 1)).all f = true := by
  have hi : i < l.length := (List.getElem?_eq_some_iff.mp h).1
  have hx : l[i] = x := (List.getElem?_eq_some_iff.mp h).2
  rw [List.take_succ_eq_append_getElem hi, List.all_append, q, hx]
  simp [e]
theorem g_zipA {K : PySem.W.Frag} {ta : TA} {σ : L2.St} {H : Hp} {R : It → Hp → Prop} (h : ta σ H fun vs H1 => ∃ a b xs ys, vs = [.ref a, .ref b] ∧ ((SqL K H1 a xs ∧ SqL K H1 b ys ∧ R (Itz K a b) H1) ∨ (SqT K H1 a xs ∧ SqT K H1 b ys ∧ R (RZ.ItzT K a b) H1))) : RZ.iZipA K ta σ H R := h
theorem wf_tup' {n : Nat} {kind w : Str} {ds : List PyData} : wf (n + 1) kind (.tuple (.str w :: ds)) = match kindsOf kind w with
    | none => false
    | some ks => decide (ks.length = ds.length) && ((List.zip ks ds).all (partOk n) && !(twoSides ks && sameSides ds)) := rfl
theorem two_shaped : ∀ ks ∈ allKinds, SeqAt.shaped (.tuple ((ks.take 2).map PyData.str)) = true := by decide +kernel
theorem two_eqv : ∀ ks ∈ allKinds, PyData.eqv (.tuple ((ks.take 2).map PyData.str)) (.tuple [.str "side", .str "side"]) = twoSides ks := by decide +kernel
theorem dpStrs {K : PySem.W.Frag} {H : Hp} : ∀ ks : List Str, DpAll K H (ks.map V.str) (ks.map PyData.str)
  | [] => .nil
  | k :: ks => .cons (.str k) (dpStrs ks)
theorem word_str {m : Nat} {d : PyData} (h : partOk m ("side", d) = true) : ∃ x, d = .str x := by
  have e : partOk m ("side", d) = isW' d := by
    have e1 : isDeep "side" = false := by decide +kernel
    unfold partOk
    rw [if_neg (by rw [e1]; exact Bool.false_ne_true)]
    show plainOk "side" d = isW' d
    have e1 : ¬ ("side" : Str) = "amount" := by decide +kernel
    have e2 : ¬ ("side" : Str) = "wait" := by decide +kernel
    have e3 : ¬ ("side" : Str) = "times" := by decide +kernel
    have e4 : ¬ ("side" : Str) = "gap" := by decide +kernel
    unfold plainOk
    rw [if_neg e1, if_neg e2, if_neg e3, if_neg e4]
  rw [e] at h
  cases d with
  | str x => exact ⟨x, rfl⟩
  | _ => cases h
end Bk

set_option Elab.async false
set_option linter.all false
set_option maxRecDepth 100000
set_option maxHeartbeats 2000000
namespace Bk
open PySem PySem.Spec PyProof.Rows L2
/-! ### what displays evaluate to -/
abbrev Env4 := Nat → Option PyData
def SlotsOk (K : PySem.W.Frag) (Γ : Env4) (σ : L2.St) (H : Hp) : Prop := ∀ i d, Γ i = some d → ∃ v, σ[i]? = some (some v) ∧ Dp K H v d
theorem SlotsOk.same {K : PySem.W.Frag} {Γ : Env4} {σ : L2.St} {H H' : Hp} (s : SlotsOk K Γ σ H) (e : Same H H') : SlotsOk K Γ σ H' := fun i d h => by
  obtain ⟨v, h1, h2⟩ := s i d h
  exact ⟨v, h1, Dp.dm (.of e) h2⟩
def EvD (K : PySem.W.Frag) (Γ : Env4) (t : TE) (d : PyData) : Prop := ∀ (σ : L2.St) (H : Hp) (Q : VK), SlotsOk K Γ σ H → (∀ v H', Same H H' → Dp K H' v d → Q v H') → t σ H Q
def EvA (K : PySem.W.Frag) (Γ : Env4) (t : TA) (ds : List PyData) : Prop := ∀ (σ : L2.St) (H : Hp) (Q : List V → Hp → Prop), SlotsOk K Γ σ H → (∀ vs H', Same H H' → DpAll K H' vs ds → Q vs H') → t σ H Q
section
variable {K : PySem.W.Frag} {Γ : Env4}
theorem evd_str (x : Str) : EvD K Γ (tC (.str x)) (.str x) := fun σ H Q _ q => q _ _ (Same.refl H) (.str x)
theorem evd_int (x : Int) : EvD K Γ (tC (.int x)) (.int x) := fun σ H Q _ q => q _ _ (Same.refl H) (.int x)
theorem evd_bl (x : Bool) : EvD K Γ (tC (.bl x)) (.bool x) := fun σ H Q _ q => q _ _ (Same.refl H) (.bl x)
theorem evd_non : EvD K Γ (tC .non) .none := fun σ H Q _ q => q _ _ (Same.refl H) .non
theorem evd_var {i : Nat} {d : PyData} (h : Γ i = some d) : EvD K Γ (tVar i) d := fun σ H Q s q => by
  obtain ⟨v, h1, h2⟩ := s i d h
  exact ⟨v, h1, q _ _ (Same.refl H) h2⟩
theorem eva_nil : EvA K Γ tNil [] := fun σ H Q _ q => q _ _ (Same.refl H) .nil
theorem eva_cons {t : TE} {r : TA} {d : PyData} {ds : List PyData} (h : EvD K Γ t d) (hr : EvA K Γ r ds) : EvA K Γ (tCons t r) (d :: ds) := fun σ H Q s q =>
  h σ H _ s fun v H1 e1 d1 => hr σ H1 _ (s.same e1) fun vs H2 e2 d2 => q _ _ (e1.trans e2) (.cons (Dp.dm (.of e2) d1) d2)
theorem evd_tup {t : TA} {ds : List PyData} (h : EvA K Γ t ds) (hl : ds.length ≤ 1000) : EvD K Γ (tTup t) (.tuple ds) := fun σ H Q s q =>
  h σ H _ s fun vs H1 e1 d1 => ⟨sz (by rw [DpAll.len d1]; exact hl), fun p np => q _ _ (e1.trans (same_new np)) (.tup (sqt upd_same) (DpAll.dm (.of (same_new np)) d1))⟩
theorem evd_lst {t : TA} {ds : List PyData} (h : EvA K Γ t ds) (hl : ds.length ≤ 1000) : EvD K Γ (tLst t) (.list ds) := fun σ H Q s q =>
  h σ H _ s fun vs H1 e1 d1 => ⟨sz (by rw [DpAll.len d1]; exact hl), fun p np => q _ _ (e1.trans (same_new np)) (.lst (sql upd_same) (DpAll.dm (.of (same_new np)) d1))⟩
theorem evd_I0 {f : Int → Int → Int} {ta tb : TE} {i j : Int} (ha : EvD K Γ ta (.int i)) (hb : EvD K Γ tb (.int j)) : EvD K Γ (tOp (rI0 fun i j => .int (f i j)) ta tb) (.int (f i j)) := fun σ H Q s q =>
  ha σ H _ s fun v H1 e1 d1 => hb σ H1 _ (s.same e1) fun u H2 e2 d2 => by
    cases d1
    cases d2
    exact ⟨i, j, rfl, rfl, q _ _ (e1.trans e2) (.int _)⟩
theorem evd_I {C : Int → Int → Prop} {f : Int → Int → Int} {ta tb : TE} {i j : Int} (ha : EvD K Γ ta (.int i)) (hb : EvD K Γ tb (.int j)) (hc : C i j) : EvD K Γ (tOp (rI C fun i j => .int (f i j)) ta tb) (.int (f i j)) := fun σ H Q s q =>
  ha σ H _ s fun v H1 e1 d1 => hb σ H1 _ (s.same e1) fun u H2 e2 d2 => by
    cases d1
    cases d2
    exact ⟨i, j, rfl, rfl, hc, q _ _ (e1.trans e2) (.int _)⟩
theorem evd_neg {f : Int → Int} {ta : TE} {i : Int} (ha : EvD K Γ ta (.int i)) : EvD K Γ (tUn (rU fun i => .int (f i)) ta) (.int (f i)) := fun σ H Q s q =>
  ha σ H _ s fun v H1 e1 d1 => by
    cases d1
    exact ⟨i, rfl, q _ _ e1 (.int _)⟩
/-- a list that is laid anew -/
theorem ev_lst {t : TA} {ds : List PyData} {σ : L2.St} {H : Hp} {Q : VK} (h : EvA K Γ t ds) (hl : ds.length ≤ 1000) (s : SlotsOk K Γ σ H) (q : ∀ p xs H1, Same H H1 → H1 p = none → DpAll K H1 xs ds → Q (.ref p) (upd H1 p (.lst xs))) : tLst t σ H Q :=
  h σ H _ s fun vs H1 e1 d1 => ⟨sz (by rw [DpAll.len d1]; exact hl), fun p np => q p vs H1 e1 np d1⟩
end
/-! ### fewer levels tell no more -/
theorem wf_more : ∀ {n m : Nat} {kind : Str} {d : PyData}, n ≤ m → wf n kind d = true → wf m kind d = true
  | 0, _, _, _, _, h => by cases h
  | n + 1, 0, _, _, hl, _ => by omega
  | n + 1, m + 1, kind, d, hl, h => by
    have hl : n ≤ m := by omega
    cases d with
    | tuple ds =>
      cases ds with
      | nil => cases h
      | cons x r =>
        cases x with
        | str w =>
          rw [wf_tup'] at h ⊢
          split at h
          · cases h
          · rename_i ks hk
            rw [Bool.and_eq_true, Bool.and_eq_true] at h ⊢
            refine ⟨h.1, ?_, h.2.2⟩
            rw [List.all_eq_true] at *
            intro p hp
            have z := h.2.1 p hp
            unfold partOk at z ⊢
            split
            · rename_i c
              rw [if_pos c] at z
              exact wf_more hl z
            · rename_i c
              rw [if_neg c] at z
              exact z
        | _ => cases h
    | _ => cases h
theorem wf_fewer {n m : Nat} {kind : Str} {d : PyData} (hl : n ≤ m) (h : wf m kind d = false) : wf n kind d = false := by
  cases e : wf n kind d with
  | false => rfl
  | true =>
    rw [wf_more hl e] at h
    cases h
theorem g_callS {sp : Sp} {E : L2.St → XK} {t : TA} {σ : L2.St} {H : Hp} {Q : VK} (h : t σ H fun vs H1 => sp vs H1 Q (E σ)) : tCallS sp E t σ H Q := h
/-- what the classes of the errors are to one another, C being raised -/
structure Errs (K : PySem.W.Frag) (B C M X T : Addr) : Prop where
  exm : PySem.W.exmOne K (.ref C) (.ref B) = some true
  ec : ExcC K C
  iM : PySem.W.kitOne K (.ref C) (.ref M) = some false
  iX : PySem.W.kitOne K (.ref C) (.ref X) = some false
  iT : PySem.W.kitOne K (.ref C) (.ref T) = some false
  iC : PySem.W.kitOne K (.ref C) (.ref C) = some true
  iV : PySem.W.kitOne K (.ref C) (.type "ValueError") = some true
theorem use_isX {K : PySem.W.Frag} {a D : Addr} {c : V} {cv : Value} {b : Bool} {H : Hp} {Q : VK} (ec : ExcC K D) (hc : ∀ u, RelV c u → u = cv) (h : PySem.W.kitOne K (.ref D) cv = some b) (q : Q (.bl b) H) : rIsX K a (.ref D) none [.ref a, c] H Q :=
  ⟨D, rfl, rfl, ec, c, cv, b, rfl, hc, h, q⟩
end Bk

set_option Elab.async false
set_option linter.all false
set_option maxRecDepth 100000
set_option maxHeartbeats 2000000
namespace Bk
open PySem PySem.Spec PyProof.Rows L2
/-! ### the end: a law over a package with tables of code objects -/
/-- what the top tells of a def's table -/
def TabsOf (q : Program) (K : PySem.W.Frag) (h : Heap) : Prop := ∀ (x : Str) (c P : Addr), ((recsOf q).find? (fun e => e.name == x)).isSome = true → PySem.W.tabIn K x = some (c, P) → PySem.W.CodeHd h c P ∧ h.get? P = some (PySem.W.tabObj #[])
theorem walk_tabs {l : PySem.W.OpenLaw} {n k : Nat} {q : Program} {loose : List Str} {XP : (Str → Option Value) → Heap → Prop} {YP : World → Heap → Prop} {d : DefRec} {K : Params → PySem.W.Frag} {CX : World → CXT} {x : Str}
    (hn : l.most = some n) (hn2 : n ≤ sizeLine) (hdf : d.params.defaults = []) (hr : Room k callerA) (hY : ∀ (w : World) (h : Heap), YP w h → (K w.params).In h)
    (F : ∀ (w : World) (mg : Str → Option Value) (fa : Addr) (h : Heap), (K w.params).In h → h.Ns mainGlobals mg → mg d.name = some (.ref fa) → TabsOf q (K w.params) h → LamX.LawAtS l w (K w.params) (CX w) k n x mg fa h)
    (hCX : ∀ (w : World) (H : Hp) (s : Shared) (e : Value) (s' : Shared), CX w [] H s (fun _ _ _ => False) e s' → False) :
    PySem.W.WalkO q loose XP YP l.row.toRowW d [] (fun f vs => PySem.call f vs) :=
  Att.attach_callB hn hdf fun w u u1 mg mb fa ob pm cd doc a vs ns gr yp hob hda hco hmg hls hin hlen hbits hge => by
    have kin := hY w _ yp
    obtain ⟨fd, cs, sp, c1, c2, c3, c4, c5, c6⟩ := F w mg fa _ kin gr.T.g hmg fun z c P hs ht => by
      obtain ⟨e, he⟩ := Option.isSome_iff_exists.mp hs
      exact PySem.W.tab_of gr.T kin he ht
    exact LamX.law_callTs kin gr.T.g gr.T.b gr.T.builtins gr.T.nolimit hge c1 c2 c3 gr.T.bmain hls hin (Nat.le_trans hlen hn2) hr c6 c4 (fun G g1 g2 => c5 G a ns hlen hbits g1 g2) fun G e u2 => hCX w G u1 e u2
theorem tabIn_of {K : PySem.W.Frag} {x : Str} {f c P : Addr} {oc oc2 : Value} {od od2 : Option Addr} {sl sl2 : Array (Option Value)} {fd : FuncData} {vs : Array Value} (a : PySem.W.nsIn K mainGlobals x = some (some (.ref f))) (l : K.lookup f = some ⟨oc, od, .func fd, sl⟩)
    (hc : fd.code = .ref c) (cc : K.lookup c = some ⟨oc2, od2, .fields vs, sl2⟩) (v : (vs[11]? : Option Value) = some (.ref P)) : PySem.W.tabIn K x = some (c, P) := by
  unfold PySem.W.tabIn
  rw [a]
  dsimp only
  rw [l]
  dsimp only
  rw [hc]
  dsimp only
  rw [cc]
  dsimp only
  rw [v]
theorem FTab.of {K : PySem.W.Frag} {w : World} {mg : Str → Option Value} {n : Str} {L : Forms} {d : Addr} (g : mg n = some (.ref d)) (k : He.dicW K d = some (He.keysIn w.params (L.map (·.1)))) (ok : tabOk K d L = true) : FTab K w mg n L d := ⟨g, He.dicW_ok k, ok⟩
end Bk

set_option Elab.async false
set_option linter.all false
set_option maxRecDepth 100000
/-! len(set(xs)), xs a list of texts or of whole numbers, alike ones among them. -/
namespace BkS
open PySem PySem.Spec PyProof.Rows

section
variable {K : Type} [DecidableEq K]
/-- the unlike ones, each where it is first met, behind these -/
def metA : List K → List K → List K
  | ys, [] => ys
  | ys, x :: xs => metA (if x ∈ ys then ys else ys ++ [x]) xs
def met (xs : List K) : List K := metA [] xs
theorem metA_snoc : ∀ (xs ys : List K) (x : K), metA ys (xs ++ [x]) = if x ∈ metA ys xs then metA ys xs else metA ys xs ++ [x]
  | [], _, _ => rfl
  | _ :: xs, _, x => metA_snoc xs _ x
theorem mem_metA : ∀ (xs ys : List K) (y : K), y ∈ metA ys xs ↔ y ∈ ys ∨ y ∈ xs
  | [], ys, y => by simp [metA]
  | x :: xs, ys, y => by
    show y ∈ metA _ xs ↔ _
    rw [mem_metA xs _ y]
    by_cases h : x ∈ ys
    · rw [if_pos h, List.mem_cons]
      exact ⟨fun q => q.elim .inl fun z => .inr (.inr z), fun q => q.elim .inl fun z => z.elim (fun e => .inl (e ▸ h)) .inr⟩
    · rw [if_neg h]
      simp [or_assoc]
theorem metA_le : ∀ (xs ys : List K), (metA ys xs).length ≤ ys.length + xs.length
  | [], ys => Nat.le_refl _
  | x :: xs, ys => by
    have h := metA_le xs (if x ∈ ys then ys else ys ++ [x])
    show (metA _ xs).length ≤ _
    split at h <;> simp at h ⊢ <;> split <;> simp_all <;> omega
theorem met_mem (xs : List K) (y : K) : y ∈ met xs ↔ y ∈ xs := by
  rw [met, mem_metA]; simp
theorem met_le (xs : List K) : (met xs).length ≤ xs.length := by
  have h := metA_le xs []
  simpa [met] using h
theorem met_snoc (xs : List K) (x : K) : met (xs ++ [x]) = if x ∈ xs then met xs else met xs ++ [x] := by
  unfold met
  rw [metA_snoc]
  by_cases h : x ∈ xs
  · rw [if_pos h]; exact if_pos ((met_mem xs x).mpr h)
  · rw [if_neg h]; exact if_neg fun z => h ((met_mem xs x).mp z)
theorem metA_eq : ∀ (xs ys : List K), (ys ++ xs).Nodup → metA ys xs = ys ++ xs
  | [], ys, _ => by simp [metA]
  | x :: xs, ys, h => by
    have hx : x ∉ ys := fun z => (List.pairwise_append.mp h).2.2 x z x (by simp) rfl
    show metA _ xs = _
    rw [if_neg hx, metA_eq xs (ys ++ [x]) (by simpa using h)]
    simp
theorem metA_lt : ∀ (xs ys : List K), ys.Nodup → ¬ (ys ++ xs).Nodup → (metA ys xs).length < ys.length + xs.length
  | [], ys, h, n => absurd (by simpa using h) n
  | x :: xs, ys, h, n => by
    show (metA _ xs).length < _
    by_cases hx : x ∈ ys
    · rw [if_pos hx]
      have := metA_le xs ys
      simp; omega
    · rw [if_neg hx]
      have z := metA_lt xs (ys ++ [x]) (List.pairwise_append.mpr ⟨h, by simp, fun a ha b hb => by simp at hb; subst hb; exact fun e => hx (e ▸ ha)⟩) (by simpa using n)
      simp at z ⊢
      omega
theorem met_eq {xs : List K} (h : xs.Nodup) : (met xs).length = xs.length := by rw [met, metA_eq xs [] (by simpa using h)]; simp
theorem met_lt {xs : List K} (h : ¬ xs.Nodup) : (met xs).length < xs.length := by
  have z := metA_lt xs [] (by simp) (by simpa using h)
  simpa [met] using z
end

section
variable {prog : Program} {w : World} {K : Type} [DecidableEq K] {knd : KeyKind prog w K}
theorem setOf_to {h : Heap} {a : Addr} {S S' : K → Bool} {n n' : Nat} (hS : h.SetOf knd a S n) (e : ∀ k, S k = S' k) (en : n = n') : h.SetOf knd a S' n' := by
  have : S = S' := funext e
  subst this; subst en; exact hS
variable {A : Around} {R : Result → Shared → Prop} {I : Addr} {fp wr : List Addr} {G : Array GenState → Array GenState → Prop} {n : Nat} {P : Nat → Value → Prop} {St : Nat → Shared → Prop}
/-- the set takes the iterator's items, one by one -/
theorem taken_all (W : WalksS prog w A.in1 I fp wr G n P St) (S : Addr) (hSf : S ∉ fp) (xs : List K) (hn : xs.length = n) (hb : n + 1 < scanBound)
    (hv : ∀ i v, P i v → ∃ k, xs[i]? = some k ∧ knd.is k v = true ∧ v.scannable = true) :
    ∀ (k i : Nat) (s : Shared), n - i = k → i ≤ n → St i s → s.heap.SetOf knd S (fun k => decide (k ∈ xs.take i)) (met (xs.take i)).length →
      (∀ s', Moved (S :: wr) G s s' → s'.heap.SetOf knd S (fun k => decide (k ∈ xs)) (met xs).length → R (.ok (.ret .none)) s') →
      codeAny (model prog w) A (.builtin "set.update.loop" ⟨[.ref S, .ref I], []⟩) R s := by
  have hSw : S ∉ wr := fun h => hSf (W.sub _ h)
  have up : ∀ b ∈ wr, b ∈ S :: wr := fun b hb => List.mem_cons_of_mem _ hb
  intro k
  induction k with
  | zero =>
    intro i s hk hi hst hS hq
    obtain rfl : i = n := by omega
    refine codeAny_builtin PyProof.Rows.F.entry_set_update_loop ?_
    rw [Around.under_plainId PyProof.Rows.F.plain_set_update_loop _]
    show wpAny _ A.in1 (pyNext (.ref I) >>= _) _ _ s
    refine wpAny_bind (W.done s _ _ hst fun s' hm => ?_)
    show wpAny _ A.in1 (ret Value.none) _ _ s'
    refine wpAny_pure (hq s' (hm.mono up) ?_)
    rw [← hn, List.take_length] at hS
    obtain ⟨o, es, ep, t, ho, z⟩ := hS
    exact ⟨o, es, ep, t, hm.heap S _ hSw ho, z⟩
  | succ k ih =>
    intro i s hk hi hst hS hq
    have hlt : i < n := by omega
    refine codeAny_builtin PyProof.Rows.F.entry_set_update_loop ?_
    rw [Around.under_plainId PyProof.Rows.F.plain_set_update_loop _]
    show wpAny _ A.in1 (pyNext (.ref I) >>= _) _ _ s
    refine wpAny_bind (W.item i s _ _ hlt hst fun v s' hP hst' hm => ?_)
    obtain ⟨x, ex, hx, hs⟩ := hv i v hP
    have et : xs.take (i + 1) = xs.take i ++ [x] := by rw [List.take_add_one, ex]; rfl
    have hS' : s'.heap.SetOf knd S (fun k => decide (k ∈ xs.take i)) (met (xs.take i)).length := by
      obtain ⟨o, es, ep, t, ho, z⟩ := hS
      exact ⟨o, es, ep, t, hm.heap S _ hSw ho, z⟩
    show wpAny _ A.in1 (holding [v] (setAdd S v) >>= _) _ _ s'
    refine wpAny_bind (wpAny_holding ?_)
    unfold setAdd
    refine wpAny_holding ?_
    refine wpAny_bind (knd.pyHash (k := x) hx ?_)
    have room : (met (xs.take i)).length + 1 < scanBound := by
      have h1 := met_le (xs.take i)
      have h2 : (xs.take i).length ≤ i := by rw [List.length_take]; omega
      omega
    refine wpAny_setAddHashed_of (knd := knd) (s := { s' with toks := s'.toks + 1 }) hx hs hS' room fun h' hsb hS2 => ?_
    have hSi : h'.SetOf knd S (fun k => decide (k ∈ xs.take (i + 1))) (met (xs.take (i + 1))).length := by
      refine setOf_to hS2 (fun k' => ?_) ?_
      · rw [et]; simp
      · rw [et, met_snoc]
        by_cases h : x ∈ xs.take i
        · rw [if_pos (by simpa using h), if_pos h]
        · rw [if_neg (by simpa using h), if_neg h]; simp
    refine wpAny_pure ⟨plainId_quiet PyProof.Rows.F.plain_set_update_loop _, ih (i + 1) _ (by omega) hlt (W.frame _ s' _ _ hst' (Nat.le_succ _) fun b hb o e => ?_) hSi fun s'' hm'' hS'' => ?_⟩
    · rw [hsb.2 b (fun h : b = S => hSf (by rw [← h]; exact hb))]; exact e
    · refine hq s'' (Moved.trans W.gtrans ((hm.mono up).then_heap (Nat.le_succ _) fun b o hb e => ?_) hm'') hS''
      rw [hsb.2 b (fun h : b = S => hb (by rw [h]; exact List.mem_cons_self))]; exact e
end

section
variable {prog : Program} {w : World} {A : Around} {E : Value → Shared → Prop} {s : Shared} {K : Type} [DecidableEq K] {knd : KeyKind prog w K}
set_option maxHeartbeats 3200000 in
/-- set(l) of a list whose items tell these keys -/
theorem call_set_keys {l : Addr} {items : Array Value} {xs : List K} {Q : Value → Shared → Prop} (hh : A.handled = none) (hl : s.heap.IsList l items) (hn : xs.length = items.size)
    (hv : ∀ (i : Nat) v, items[i]? = some v → ∃ k, xs[i]? = some k ∧ knd.is k v = true ∧ v.scannable = true) (hb : items.size + 1 < scanBound)
    (h : ∀ (h' : Heap) (tk : Nat), h'.SetOf knd s.heap.objs.size (fun k => decide (k ∈ xs)) (met xs).length → (∀ b o, b < s.heap.objs.size → s.heap.get? b = some o → h'.get? b = some o) →
      Q (.ref s.heap.objs.size) { s with heap := h', toks := tk }) :
    wpAny (model prog w) A (call (.type "set") [.ref l]) Q E s := by
  have hc := PySem.F.called_set
  obtain ⟨_, _, hmro⟩ := hc.mro
  have hmade := hc.made
  have hsub := hc.sub
  have h1 := hc.notType
  have h2 := hc.canCreate
  have h3 := PySem.F.typeCall_set_1 (.ref l)
  refine wpAny_call (codeAny_of_tree ?_)
  show wpAny _ _ (callAny (.type "set") _) _ _ _
  refine wpAny_pure ⟨Code.quiet_builtin _ (by decide +kernel), codeAny_builtin PySem.F.entry_type_call ?_⟩
  rw [Around.under_plain (weight_type_call_type "set" [.ref l] []) rfl]
  repeat (any_goals (first | assumption | wp_step))
  let ob : Bool → Obj := fun led => { cls := .type "set", dict := none, data := .set #[] 0 (.fresh 0 0 led) }
  refine codeAny_mono (code_set_new_1 (.ref l) (E := E) (Q₁ := fun v t => ∃ led : Bool, v = .ref s.heap.objs.size ∧ t = { s with heap := s.heap.push (ob led) }) fun led => ⟨led, rfl, rfl⟩) fun r t hr => ?_
  rcases r with e | fl
  · exact hr
  cases fl with
  | ret v =>
    obtain ⟨led, rfl, rfl⟩ := hr
    have hS : (s.heap.push (ob led)).get? s.heap.objs.size = some (ob led) := Heap.get?_push_size _ rfl
    have hT : Shared.TypeIs { s with heap := s.heap.push (ob led) } (.ref s.heap.objs.size) "set" := ⟨_, hS, rfl⟩
    have hli := hc.init.lookup
    have hbi := hc.init.bind (.ref s.heap.objs.size)
    repeat (any_goals (first | assumption | wp_step))
    let After : Value → Shared → Prop := fun r t => r = .none ∧ ∃ h' tk, t = { s with heap := h', toks := tk } ∧ h'.SetOf knd s.heap.objs.size (fun k => decide (k ∈ xs)) (met xs).length ∧
      (∀ b o, b < s.heap.objs.size → s.heap.get? b = some o → h'.get? b = some o)
    refine codeAny_mono (codeAny_call_builtin (R := wants After E) hc.init.plain PySem.F.entry_set_init (check_set_init_1 hT ?_)) fun r t hr => ?_
    · obtain ⟨⟨oc, od, ot, os⟩, hol, hcl, nl, hdl⟩ := hl
      obtain rfl : oc = _ := hcl
      obtain rfl : ot = _ := hdl
      have hol2 : (s.heap.push (ob led)).get? l = _ := Heap.get?_push_of_some _ hol
      have hl1 : (s.heap.push (ob led)).IsList l items := ⟨_, hol2, rfl, nl, rfl⟩
      have hs1 := PySem.F.sub_list_set
      have hs2 := PySem.F.sub_list_frozenset
      have hne : (Value.type "list" == Value.type "dict") = false := by decide
      have hlS : l < s.heap.objs.size := Heap.lt_size hol
      have h5 : A.in1.in1.in1.handled = none := by simp [hh]
      have z1 : (s.heap.push (ob led)).objs.size = s.heap.objs.size + 1 := Heap.size_push _ _
      have hI : l ≠ (s.heap.push (ob led)).objs.size := by rw [z1]; exact Nat.ne_of_lt (Nat.lt_succ_of_lt hlS)
      have hSf : s.heap.objs.size ∉ [(s.heap.push (ob led)).objs.size, l] := by
        rw [z1]; simp only [List.mem_cons, List.not_mem_nil, or_false, not_or]
        exact ⟨Nat.ne_of_lt (Nat.lt_succ_self _), Nat.ne_of_gt hlS⟩
      unfold Builtin.«set.__init__» noKeywords Builtin.Frozenset.updateFrom
      generalize hPI : pyIter = PI
      wp_walk
      subst hPI
      refine wpAny_pyIter_list hl1 ?_
      refine wpAny_bind (wpAny_runValue ?_)
      refine taken_all ((Walks.list h5 _ l hI items).toS) s.heap.objs.size hSf xs hn hb (fun i v hp => hv i v hp) (items.size - 0) 0 _ (by omega) (Nat.zero_le _) ⟨⟨_, Heap.get?_push_size _ rfl, rfl, rfl⟩, (hl1.push _)⟩ ?hS0 ?hR
      case hS0 =>
        have hget : ((s.heap.push (ob led)).push { cls := .type "list_iterator", data := .fields #[.ref l, .int 0 0] }).get? s.heap.objs.size = some (ob led) := Heap.get?_push_of_some _ hS
        exact setOf_to ((PyProof.Rows.setObjOf_fresh (knd := knd) led).setOf hget (by unfold scanBound; omega)) (fun _ => by simp) rfl
      case hR =>
        intro t hm hS'
        obtain ⟨h', g', d', tk', os'⟩ := t
        obtain rfl : g' = s.gens := hm.gens
        obtain rfl : d' = s.drawn := hm.drawn
        obtain rfl : os' = s.os := hm.os
        show wpAny _ _ _ _ _ _
        refine wpAny_pure ?_
        show wpAny _ _ (ret Value.none) _ _ _
        refine wpAny_pure ⟨rfl, h', tk', rfl, hS', fun b o hb e => hm.heap b o ?_ (Heap.get?_push_of_some _ (Heap.get?_push_of_some _ e))⟩
        simp only [List.mem_cons, List.not_mem_nil, or_false, not_or]
        exact ⟨Nat.ne_of_lt hb, by rw [z1]; exact Nat.ne_of_lt (Nat.lt_succ_of_lt hb)⟩
    · rcases r with e | fl
      · exact hr
      cases fl with
      | ret r =>
        obtain ⟨rfl, h', tk, rfl, hS', hk'⟩ := hr
        repeat (any_goals (first | assumption | wp_step))
        exact h _ _ hS' hk'
      | _ => exact hr.elim
  | _ => exact hr.elim
end

section
open L2
theorem strs_of : ∀ {ys : List Str} {us : List Value}, Vals (ys.map V.str) us → ∀ (i : Nat) v, us[i]? = some v → ∃ x t, ys[i]? = some x ∧ v = .str x t
  | [], _, .nil, i, v, h => by simp at h
  | y :: ys, _, .cons r t, 0, v, h => by
    obtain ⟨k, rfl⟩ := r
    simp at h
    exact ⟨y, k, rfl, h.symm⟩
  | y :: ys, _, .cons r t, i + 1, v, h => strs_of t i v (by simpa using h)
theorem ints_of : ∀ {ys : List Int} {us : List Value}, Vals (ys.map V.int) us → ∀ (i : Nat) v, us[i]? = some v → ∃ x t, ys[i]? = some x ∧ v = .int x t
  | [], _, .nil, i, v, h => by simp at h
  | y :: ys, _, .cons r t, 0, v, h => by
    obtain ⟨k, rfl⟩ := r
    simp at h
    exact ⟨y, k, rfl, h.symm⟩
  | y :: ys, _, .cons r t, i + 1, v, h => ints_of t i v (by simpa using h)
/-- how many unlike ones there are: all, or fewer -/
def Unlike {K : Type} (xs : List K) (Q : V → Prop) : Prop := ∀ m : Nat, (xs.Nodup → m = xs.length) → (¬ xs.Nodup → m < xs.length) → Q (.int (m : Nat))
def tLenU (K : PySem.W.Frag) (ta : TE) : TE := fun σ H Q => ta σ H fun x H1 => ∃ l, x = .ref l ∧
  ((∃ ns : List Int, SqL K H1 l (ns.map V.int) ∧ ns.length ≤ 4000 ∧ Unlike ns fun v => Q v H1) ∨ (∃ xs : List Str, SqL K H1 l (xs.map V.str) ∧ xs.length ≤ 4000 ∧ Unlike xs fun v => Q v H1))
theorem pe_lenU {X : Cx} {a : Expr} {ta : TE} {p p2 q pos : Pos} (hc : X.calm = true) (hg : Gl X "len") (hm : X.mg "len" = none) (hg2 : Gl X "set") (hm2 : X.mg "set" = none) (ha : PE X a ta)
    (na : starEach [a] X.env = (false, eval a X.env) :: starEach [] X.env := by rfl) : PE X (.Call (.Name "len" p) [.Call (.Name "set" p2) [a] [] q] [] pos) (tLenU X.K ta) := by
  refine ⟨fun pins s σ H Q I h => ?_⟩
  refine Call_ (ld_blt I hg hm PySem.boot_len ?_)
  refine PyProof.Rows.callWith_builtin1 (PyProof.Rows.args_cons ?_ rfl) rfl rfl
  refine Call_ (ld_blt I hg2 hm2 PyProof.Rows.boot_set ?_)
  refine PyProof.Rows.callWith_type1 (PyProof.Rows.args_cons (thn (ha.run pins s σ H _ I h) fun v s1 ⟨x, H1, I1, r1, q1⟩ => PyProof.Rows.args_nil ?_) na) na rfl
  obtain ⟨l, rfl, q1⟩ := q1
  cases r1
  have fin : ∀ {K : Type} [DecidableEq K] {knd : KeyKind X.prog X.w K} {xs : List K}, xs.length ≤ 4000 → Unlike xs (fun v => Q v H1) → ∀ (h' : Heap) (tk : Nat),
      h'.SetOf knd s1.heap.objs.size (fun k => decide (k ∈ xs)) (met xs).length → (∀ b o, b < s1.heap.objs.size → s1.heap.get? b = some o → h'.get? b = some o) →
      wpAny (model X.prog X.w) X.A (spliced (backTo pos (starEach [] X.env))) (fun vs s₂ => wpAny (model X.prog X.w) X.A (call (.builtin "len") (Value.ref s1.heap.objs.size :: vs)) (EP X pins σ Q) X.xe s₂) X.xe { s1 with heap := h', toks := tk } := fun {K} _ {knd xs} hl q h' tk hS hk => by
    refine PyProof.Rows.args_nil ?_
    have hle := met_le xs
    obtain ⟨o, es, ep, t, ho, hex, hd, _, _, _, hf, hn⟩ := hS
    have I2 : Inv X pins σ H1 { s1 with heap := h', toks := tk } := I1.kept fun b o e => hk b o (Heap.lt_size e) e
    refine call_len_set ho hex hd hf (by rw [hn] <;> omega) ⟨.int (met xs).length, H1, I2.tok _, ⟨_, by rw [hn]⟩, q _ met_eq met_lt⟩
  rcases q1 with ⟨ns, hq, hl, q⟩ | ⟨xs, hq, hl, q⟩
  · obtain ⟨its, r, pl, hz⟩ := I1.list hq
    have e : ns.length = its.toArray.size := by rw [List.size_toArray, ← r.length, List.length_map]
    exact call_set_keys (knd := intKind X.prog X.w) (I1.ok.hd hc) pl.isList e (fun i v hv => by
      obtain ⟨x, t, ex, rfl⟩ := ints_of r i v (by simpa using hv)
      exact ⟨x, ex, intKind_is _ _ _ _, rfl⟩) (by rw [← e]; unfold scanBound; omega) fun h' tk hS hk => fin hl q h' tk hS hk
  · obtain ⟨its, r, pl, hz⟩ := I1.list hq
    have e : xs.length = its.toArray.size := by rw [List.size_toArray, ← r.length, List.length_map]
    exact call_set_keys (knd := strKind X.prog X.w) (I1.ok.hd hc) pl.isList e (fun i v hv => by
      obtain ⟨x, t, ex, rfl⟩ := strs_of r i v (by simpa using hv)
      exact ⟨x, ex, strKind_is _ _ _ _, rfl⟩) (by rw [← e]; unfold scanBound; omega) fun h' tk hS hk => fin hl q h' tk hS hk
end
end BkS

set_option Elab.async false
set_option linter.all false
set_option maxRecDepth 100000
set_option maxHeartbeats 2000000
namespace Bk
open PySem PySem.Spec PyProof.Rows L2
/-! ### a class of the package: made within a try -/
structure OwnM (K : PySem.W.Frag) (m q : Str) (st : Stmt) (ps : List Str) (f : Addr) (fd : FuncData) : Prop where
  F : Fun K m q st f fd
  b : Binds K fd ps []
structure ClsT (K : PySem.W.Frag) (mg : Str → Option Value) (x : Str) (C f : Addr) : Prop where
  g : mg x = some (.ref C)
  M : Mk K C f
  cl : Cls K C
/-- the class, and what its __init__ promises -/
structure HasM (P : Program) (w : World) (K : PySem.W.Frag) (mg : Str → Option Value) (base : Heap) (x : Str) (ps : List Str) (lv : Nat) (CX : CXT) (sp : Sp) (C f : Addr) (fd : FuncData) : Prop where
  G : ∃ k, lv = k + 1 ∧ FnOk P w K mg base CX k f fd ps sp
  g : mg x = some (.ref C)
  M : Mk K C f
  b : Binds K fd ps []
section
variable {P : Program} {w : World} {K : PySem.W.Frag} {mg : Str → Option Value} {base : Heap} {x : Str} {ps : List Str} {C f : Addr} {fd : FuncData} {CX : CXT} {sp : Sp}
theorem HasM.mono {j i : Nat} (D : HasM P w K mg base x ps j CX sp C f fd) (h : j ≤ i) : HasM P w K mg base x ps i CX sp C f fd := by
  obtain ⟨⟨k, e, G⟩, g, M, b⟩ := D
  exact ⟨⟨i - 1, by omega, G.mono (by omega)⟩, g, M, b⟩
theorem HasM.of {k : Nat} {m q : Str} {st : Stmt} (T : ClsT K mg x C f) (O : OwnM K m q st ps f fd) (G : FnOk P w K mg base CX k f fd ps sp) : HasM P w K mg base x ps (k + 1) CX sp C f fd := ⟨⟨k, rfl, G⟩, T.g, T.M, O.b⟩
end
section
variable {X : Cx} {CX : CXT} {f C : Addr} {fd : FuncData} {ps : List Str} {sp : Sp} {E : L2.St → XK} {x : Str} {p pos : Pos} {e : Expr} {es : List Expr} {t : TA}
/-- what the new object's __init__ is handed: a bare object first -/
def spNew (C : Addr) (sp : Sp) : Sp := fun vs H Q E => ∀ a dx, H a = none → H dx = none → dx ≠ a → sp (.ref a :: vs) (upd (upd H dx (.own a)) a (.ins C dx [])) (fun v H2 => v = .non ∧ Q (.ref a) H2) E
theorem new_at {k : Nat} {pins : List (Addr × Obj)} {σ : L2.St} {H : Hp} {s : Shared} {Q : VK} {us : List Value} {vs : List V} (M : Mk X.K C f) (F : FnOk X.prog X.w X.K X.mg X.base CX k f fd ps sp) (hr : Room (k + 1) X.A) (hb : Binds X.K fd ps [])
    (hx : PassesAt CX X σ (E σ)) (I : Inv X pins σ H s) (r : Vals vs us) (h : spNew C sp vs H Q (E σ)) : wpAny (model X.prog X.w) X.A (call (.ref C) us) (EP X pins σ Q) X.xe s := by
  have q := h (s.heap.objs.size + 1) s.heap.objs.size (I.hok.fresh (Nat.le_succ _)) (I.hok.fresh (Nat.le_refl _)) (Nat.ne_of_lt (Nat.lt_succ_self _))
  have J := Inv.made (C := C) I
  have rr : Vals (V.ref (s.heap.objs.size + 1) :: vs) (Value.ref (s.heap.objs.size + 1) :: us) := .cons rfl r
  have hl : (Value.ref (s.heap.objs.size + 1) :: us).length = ps.length := rr.length.symm.trans (F.len _ _ _ _ q)
  have b := hb _ (Value.ref (s.heap.objs.size + 1) :: us) J.kIn (by rw [List.append_nil]; exact hl)
  rw [List.append_nil] at b
  have go := F.run _ X.stack _ _ ⟨Value.ref (s.heap.objs.size + 1) :: us, []⟩ _ _ _ (E σ) (hr.make C us []) (J.env0.make C us []) b rr q
  refine wpAny_call (make_map (f := f) I.kIn M.makes M.init (beq_iff_eq.mp M.fn) (codeAny_mono go fun r s' hq => ?_))
  rcases r with e | fl
  · exact hx pins _ _ e s' J hq
  cases fl with
  | ret u =>
    obtain ⟨v, H', I3, rv, ev, z⟩ := J.after hq
    subst ev
    exact ⟨rv, ⟨.ref (s.heap.objs.size + 1), H', I3, rfl, z⟩⟩
  | _ => exact False.elim hq
theorem pe_new {lv : Nat} (D : HasM X.prog X.w X.K X.mg X.base x ps lv CX sp C f fd) (hr : Room lv X.A) (hg : Gl X x) (hx : ∀ σ, PassesAt CX X σ (E σ)) (ha : PA X (e :: es) t)
    (hdb : (x == ("__debug__" : Str)) = false := by decide) (he : starEach (e :: es) X.env = (false, eval e X.env) :: starEach es X.env := by rfl) (hpl : (backTo pos (starEach es X.env)).any (·.1) = false := by rfl) :
    PE X (.Call (.Name x p) (e :: es) [] pos) (tCallS (spNew C sp) E t) := by
  obtain ⟨⟨k, rfl, G⟩, g, M, b⟩ := D
  refine ⟨fun pins s σ H Q I h => ?_⟩
  refine wpAny_Call_Name_kw (ld_glob I hg g ?_ hdb)
  exact PySem.W.callWith_K (h₀ := X.base) I.ok.mod.kin M.kp (thn (ha.run pos pins s σ H _ I h) fun us s1 ⟨vs, H1, I1, r, q⟩ => ⟨I1.kIn, new_at M G hr b (hx σ) I1 r q⟩) he hpl
end
/-! ### comprehensions over a list that stays -/
/-- so far fs of the xs stand in the new list, and all else as it stood -/
structure Comp (H0 : Hp) (D : Addr) (R : Nat → V → Hp → Prop) (i : Nat) (H : Hp) : Prop where
  e : Same H0 H
  n : H0 D = none
  acc : ∃ ys, H D = some (.lst ys) ∧ ys.length = i ∧ ∀ j y, ys[j]? = some y → R j y H
theorem Comp.start {H : Hp} {D : Addr} {R : Nat → V → Hp → Prop} (n : H D = none) : Comp H D R 0 (upd H D (.lst [])) := ⟨same_new n, n, [], upd_same, rfl, fun j y h => by simp at h⟩
theorem Comp.next {H0 H H' : Hp} {D : Addr} {R : Nat → V → Hp → Prop} {i : Nat} {y : V} (hR : ∀ j y Ha Hb, R j y Ha → (∀ b o, b ≠ D → Ha b = some o → Hb b = some o) → R j y Hb) (c : Comp H0 D R i H) (e : Same H H') (hi : i < 4000) (q : R i y H') :
    ∃ acc, H' D = some (.lst acc) ∧ acc.length < sizeLine ∧ Comp H0 D R (i + 1) (upd H' D (.lst (acc ++ [y]))) := by
  obtain ⟨e0, n, ys, h, hl, hy⟩ := c
  have k1 : ∀ b o, b ≠ D → H b = some o → upd H' D (.lst (ys ++ [y])) b = some o := fun b o hb z => by rw [upd_ne hb]; exact e _ _ z
  have k2 : ∀ b o, b ≠ D → H' b = some o → upd H' D (.lst (ys ++ [y])) b = some o := fun b o hb z => by rw [upd_ne hb]; exact z
  refine ⟨ys, e _ _ h, Nat.lt_of_lt_of_le (show ys.length < 4000 by omega) (by decide), fun b o z => ?_, n, ys ++ [y], upd_same, by rw [List.length_append, hl]; rfl, fun j v z => ?_⟩
  · have hb : b ≠ D := fun h => by rw [h, n] at z; cases z
    exact k1 b o hb (e0 _ _ z)
  · rcases Nat.lt_or_ge j ys.length with lt | ge
    · rw [List.getElem?_append_left lt] at z
      exact hR j v H _ (hy j v z) k1
    · rw [List.getElem?_append_right ge] at z
      obtain ⟨rfl, rfl⟩ : j = i ∧ v = y := by
        rcases Nat.eq_zero_or_pos (j - ys.length) with h0 | h0
        · rw [h0] at z
          exact ⟨by omega, (Option.some.inj z).symm⟩
        · rw [List.getElem?_eq_none (by simp; omega)] at z; cases z
      exact hR _ _ H' _ q k2
def rTupOf (K : PySem.W.Frag) : List V → Hp → VK → Prop := fun xs H Q => ∃ p ys, xs = [.ref p] ∧ ((SqL K H p ys ∧ ∀ l, H l = none → Q (.ref l) (upd H l (.tup ys))) ∨ (SqT K H p ys ∧ Q (.ref p) H))
def rLstOf (K : PySem.W.Frag) : List V → Hp → VK → Prop := fun xs H Q => ∃ p ys, xs = [.ref p] ∧ (SqL K H p ys ∨ SqT K H p ys) ∧ ∀ l, H l = none → Q (.ref l) (upd H l (.lst ys))
theorem callTupOf {X : Cx} : CallR X (.type "tuple") (rTupOf X.K) := call_tuple_of
theorem callLstOf {X : Cx} : CallR X (.type "list") (rLstOf X.K) := call_list_of
end Bk

set_option Elab.async false
set_option linter.all false
set_option maxRecDepth 100000
set_option maxHeartbeats 2000000
namespace Bk
open PySem PySem.Spec PyProof.Rows L2
def isx (i : Int) : Str := toString i
def rStrA : List V → Hp → VK → Prop := fun xs H Q => (∃ i, xs = [.int i] ∧ i.natAbs.log2 < 1920 ∧ Q (.str (isx i)) H) ∨ (∃ a, xs = [.str a] ∧ Q (.str a) H)
theorem call_strA {X : Cx} : CallR X (.type "str") rStrA := by
  intro pins s τ G xs us W I r h
  rcases h with h | h
  · exact call_str_int pins s τ G xs us W I r h
  · exact SkE.call_str_str pins s τ G xs us W I r h
end Bk

set_option Elab.async false
set_option linter.all false
set_option maxRecDepth 100000
set_option maxHeartbeats 2000000
namespace Bk
open PySem PySem.Spec PyProof.Rows L2
/-- zip of two tuples -/
theorem walk_zipT {K : PySem.W.Frag} {a b : Addr} {xs ys : List V} {n : Nat} (hn : n = min xs.length ys.length) : Walk (RZ.ItzT K a b) n (fun H => SqT K H a xs ∧ SqT K H b ys) (YPair (fun i => xs[i]?) (fun i => ys[i]?)) := by
  subst hn
  refine ⟨fun i _ hi q => ?_, fun _ q => ⟨xs, ys, q.1, q.2, by omega⟩, fun i H v H' _ q y => ?_⟩
  · have h1 : i < xs.length := by omega
    have h2 : i < ys.length := by omega
    exact ⟨xs, ys, xs[i], ys[i], q.1, q.2, by simp [h1], by simp [h2]⟩
  · obtain ⟨T, x, z, h1, h2, h3, h4, h5⟩ := y
    exact ⟨T, x, z, h1, h2, h3, h4 xs q.1, h5 ys q.2⟩
/-- a dict of the module that tells the forms: read at a word -/
theorem FTab.at {K : PySem.W.Frag} {w : World} {mg : Str → Option Value} {n : Str} {L : Forms} {d : Addr} (F : FTab K w mg n L d) {z : Str} {ks : List Str} (h : formOf L z = some ks) :
    ∃ a : Addr, KDct K w d z (.ref a) ∧ ∀ H, SqT K H a (ks.map V.str) := by
  obtain ⟨g, ⟨es, c, k⟩, ok⟩ := F
  have q := tabOk_ns ok z
  rw [h] at q
  obtain ⟨a, q1, q2⟩ := q
  exact ⟨a, ⟨es, c, _, k.at_, k.lit, q1, rfl⟩, q2⟩
/-- a tuple of texts of the module -/
structure TupC (K : PySem.W.Frag) (mg : Str → Option Value) (n : Str) (ks : List Str) (d : Addr) : Prop where
  g : mg n = some (.ref d)
  ok : tupOk K d ks = true
theorem TupC.sq {K : PySem.W.Frag} {mg : Str → Option Value} {n : Str} {ks : List Str} {d : Addr} (T : TupC K mg n ks d) (H : Hp) : SqT K H d (ks.map V.str) := tupOk_sq T.ok H
theorem use_isDict {K : PySem.W.Frag} {H : Hp} {v : V} {d : PyData} {Q : VK} (h : Dp K H v d) (q : Q (.bl false) H) : rIsi K [v, .ty "dict"] H Q := ⟨v, .ty "dict", _, _, false, rfl, .ty _, ty_of h, kit_ty (by cases h with | non => exact (by decide +kernel : kitB "NoneType" "dict" = some false) | bl _ => exact (by decide +kernel : kitB "bool" "dict" = some false) | int _ => exact (by decide +kernel : kitB "int" "dict" = some false) | str _ => exact (by decide +kernel : kitB "str" "dict" = some false) | lst _ _ => exact (by decide +kernel : kitB "list" "dict" = some false) | tup _ _ => exact (by decide +kernel : kitB "tuple" "dict" = some false)), q⟩
theorem inTwo (s a b : Str) : inV (.str s) [.str a, .str b] = decide (s = a ∨ s = b) := by
  have e : ∀ a b : Str, (a == b) = decide (b = a) := fun a b => by
    by_cases c : a = b
    · subst c; simp
    · rw [decide_eq_false (fun z => c z.symm)]
      simpa using c
  simp only [inV, List.any_cons, List.any_nil, eqV, e, Bool.or_false, Bool.decide_or]
/-! ### data that are alike -/
def aOk : Nat → PyData → Prop
  | _ + 1, .none => True
  | _ + 1, .bool _ => True
  | _ + 1, .int _ => True
  | _ + 1, .str _ => True
  | n + 1, .list ds => ds.length ≤ 2000 ∧ ∀ d ∈ ds, aOk n d
  | n + 1, .tuple ds => ds.length ≤ 2000 ∧ ∀ d ∈ ds, aOk n d
  | _, _ => False
def spAlike (K : PySem.W.Frag) (n : Nat) : Sp := fun vs H Q _ => ∃ (v u : V) (d : PyData), vs = [v, u] ∧ Dp K H v d ∧ Dp K H u d ∧ aOk n d ∧ ∀ H', Same H H' → Q (.bl true) H'
theorem use_alike {K : PySem.W.Frag} {n : Nat} {v u : V} {d : PyData} {H : Hp} {Q : VK} {E : XK} (h1 : Dp K H v d) (h2 : Dp K H u d) (k : aOk n d) (q : ∀ H', Same H H' → Q (.bl true) H') : spAlike K n ([v, u] ++ []) H Q E := ⟨v, u, d, rfl, h1, h2, k, q⟩
theorem none_alike {P : Program} {w : World} {K : PySem.W.Frag} {mg : Str → Option Value} {base : Heap} {f : Addr} {fd : FuncData} {ps : List Str} : FnOk P w K mg base CX0 0 f fd ps (spAlike K 0) := by
  have no : ∀ vs H Q E, ¬ spAlike K 0 vs H Q E := fun vs H Q E h => by
    obtain ⟨v, u, d, _, _, _, h1, _⟩ := h
    cases d <;> exact h1
  exact ⟨fun vs H Q E h => absurd h (no vs H Q E), fun A outer s H args us vs Q E _ _ _ _ h => absurd h (no vs H Q E)⟩
/-! ### lists told item by item -/
def All2 {α β : Type} (R : α → β → Prop) : List α → List β → Prop
  | [], [] => True
  | a :: as, b :: bs => R a b ∧ All2 R as bs
  | _, _ => False
theorem All2.len {α β : Type} {R : α → β → Prop} : ∀ {as : List α} {bs : List β}, All2 R as bs → as.length = bs.length
  | [], [], _ => rfl
  | _ :: _, _ :: _, h => by rw [List.length_cons, List.length_cons, All2.len h.2]
  | [], _ :: _, h => h.elim
  | _ :: _, [], h => h.elim
theorem All2.mono {α β : Type} {R S : α → β → Prop} (m : ∀ a b, R a b → S a b) : ∀ {as : List α} {bs : List β}, All2 R as bs → All2 S as bs
  | [], [], _ => trivial
  | _ :: _, _ :: _, h => ⟨m _ _ h.1, All2.mono m h.2⟩
  | [], _ :: _, h => h.elim
  | _ :: _, [], h => h.elim
theorem All2.at {α β : Type} {R : α → β → Prop} : ∀ {as : List α} {bs : List β} {i : Nat} {a : α}, All2 R as bs → as[i]? = some a → ∃ b, bs[i]? = some b ∧ R a b
  | a :: as, b :: bs, 0, x, h, e => by
    simp only [List.getElem?_cons_zero, Option.some.injEq] at e
    exact ⟨b, rfl, e ▸ h.1⟩
  | a :: as, b :: bs, i + 1, x, h, e => by
    simp only [List.getElem?_cons_succ] at e
    obtain ⟨c, h1, h2⟩ := All2.at h.2 e
    exact ⟨c, by simpa using h1, h2⟩
  | [], [], i, x, h, e => by simp at e
  | [], _ :: _, _, _, h, _ => h.elim
  | _ :: _, [], _, _, h, _ => h.elim
theorem All2.snoc {α β : Type} {R : α → β → Prop} : ∀ {as : List α} {bs : List β} {a : α} {b : β}, All2 R as bs → R a b → All2 R (as ++ [a]) (bs ++ [b])
  | [], [], _, _, _, r => ⟨r, trivial⟩
  | _ :: _, _ :: _, _, _, h, r => ⟨h.1, All2.snoc h.2 r⟩
  | [], _ :: _, _, _, h, _ => h.elim
  | _ :: _, [], _, _, h, _ => h.elim
theorem All2.nil_r {α β : Type} {R : α → β → Prop} {bs : List β} (h : All2 R ([] : List α) bs) : bs = [] := by
  cases bs with
  | nil => rfl
  | cons _ _ => exact h.elim
theorem tm_lst {K : PySem.W.Frag} {H : Hp} {D : Addr} {xs ys : List V} (h : H D = some (.lst xs)) : TM K H (upd H D (.lst ys)) := fun a zs q => by
  rcases q with (q | ⟨o, q⟩) | q
  · exact .inl (.inl (by rw [upd_ne (fun z => by rw [z, h] at q; cases q)]; exact q))
  · exact .inl (.inr ⟨o, by rw [upd_ne (fun z => by rw [z, h] at q; cases q)]; exact q⟩)
  · exact .inr q
theorem take_map_snoc {α β : Type} {f : α → β} {l : List α} {i : Nat} {c : α} (h : l[i]? = some c) : (l.take (i + 1)).map f = (l.take i).map f ++ [f c] := by
  rw [List.take_succ, h, List.map_append]
  rfl
theorem fresh_same {H H' : Hp} {p : Addr} (e : Same H H') (h : H' p = none) : H p = none := by
  cases h1 : H p with
  | none => rfl
  | some o =>
    rw [e p o h1] at h
    cases h
end Bk

set_option Elab.async false
set_option linter.all false
set_option maxRecDepth 100000
set_option maxHeartbeats 2000000
namespace Bk
open PySem PySem.Spec PyProof.Rows L2
/-! ### a method of a class of the package -/
structure HasMeth (P : Program) (w : World) (K : PySem.W.Frag) (mg : Str → Option Value) (base : Heap) (C : Addr) (m : Str) (ps : List Str) (lv : Nat) (CX : CXT) (sp : Sp) (f : Addr) (fd : FuncData) : Prop where
  G : FnOk P w K mg base CX lv f fd ps sp
  M : Meth K C m f
  b : Binds K fd ps []
  cl : Cls K C
section
variable {P : Program} {w : World} {K : PySem.W.Frag} {mg : Str → Option Value} {base : Heap} {m q : Str} {ps : List Str} {C f : Addr} {fd : FuncData} {CX : CXT} {sp : Sp} {st : Stmt}
theorem HasMeth.mono {j i : Nat} (D : HasMeth P w K mg base C m ps j CX sp f fd) (h : j ≤ i) : HasMeth P w K mg base C m ps i CX sp f fd := ⟨D.G.mono h, D.M, D.b, D.cl⟩
theorem HasMeth.of {k : Nat} (cl : Cls K C) (M : Meth K C m f) (O : OwnM K m q st ps f fd) (G : FnOk P w K mg base CX k f fd ps sp) : HasMeth P w K mg base C m ps k CX sp f fd := ⟨G, M, O.b, cl⟩
end
section
variable {D : Ends} {σ : L2.St} {H : Hp} {Q : VK} {v : V}
theorem g_rfld {K : PySem.W.Frag} {ta : TE} {f : Str} (h : ta σ H fun x H1 => ∃ a C dx fs v, x = .ref a ∧ H1 a = some (.ins C dx fs) ∧ Cls K C ∧ NoAttr K C f ∧ fs.lookup f = some v ∧ Q v H1) : tFld K ta f σ H Q := h
theorem g_meth {C : Addr} {m : Str} {sp : Sp} {dvs : List V} {E : XK} {ta : TE} {t : TA} (h : ta σ H fun x H1 => ∃ a dx fs, x = .ref a ∧ H1 a = some (.ins C dx fs) ∧ fs.lookup m = none ∧ t σ H1 fun vs H2 => sp (x :: (vs ++ dvs)) H2 Q E) : tMeth C m sp dvs E ta t σ H Q := h
end
end Bk

set_option Elab.async false
set_option linter.all false
set_option maxRecDepth 100000
set_option maxHeartbeats 4000000
namespace Bk
open PySem PySem.Spec PyProof.Rows L2
/-! ### zip of a tuple and a list: what zip draws from is told by a feed -/
structure Feed (St : Heap → Nat → Prop) (Src : Heap → Prop) (it src : Addr) (its : Array Value) : Prop where
  item : ∀ {p : Program} {w : World} {A : Around} {E : Value → Shared → Prop} {s : Shared} {i : Nat} {x : Value} {Q : Value → Shared → Prop}, St s.heap i → Src s.heap → its[i]? = some x →
    (∀ g, St g (i + 1) → Heap.SameBut it s.heap g → Q x { s with heap := g }) → wpAny (model p w) A (Builtin.SmallTypes.nextOf (.ref it)) Q E s
  fin : ∀ {p : Program} {w : World} {A : Around} {E : Value → Shared → Prop} {s : Shared} {i : Nat} {Q : Value → Shared → Prop}, A.handled = none → St s.heap i → Src s.heap → its[i]? = none →
    (∀ g e, Heap.ExtBut it s.heap g → (∃ o, g.get? e = some o ∧ o.cls = .type "StopIteration") → E (.ref e) { s with heap := g }) → wpAny (model p w) A (Builtin.SmallTypes.nextOf (.ref it)) Q E s
  on : ∀ {c : Addr} {h g : Heap} {i : Nat}, St h i → Heap.ExtBut c h g → it ≠ c → St g i
  src : ∀ {c : Addr} {h g : Heap}, Src h → Heap.ExtBut c h g → src ≠ c → Src g
  atI : ∀ {h g : Heap} {i : Nat}, St h i → (∀ o, h.get? it = some o → g.get? it = some o) → St g i
  has : ∀ {h : Heap} {i : Nat}, St h i → ∃ o, h.get? it = some o ∧ ∀ v, o.data ≠ .cell v
theorem feed_list (it l : Addr) (its : Array Value) : Feed (fun h i => h.IsListIter it l i) (fun h => h.IsList l its) it l its where
  item := fun a b c q => wpAny_nextOf_list_item a b c q
  fin := fun hh a b c q => wpAny_nextOf_list_end hh a b c q
  on := fun a e n => a.extBut e n
  src := fun a e n => a.extBut e n
  atI := fun a e => a.at e
  has := fun ⟨o, e, _, d⟩ => ⟨o, e, fun v q => by rw [d] at q; cases q⟩
theorem feed_tup (it l : Addr) (its : Array Value) : Feed (fun h i => h.IsTupleIter it l i) (fun h => h.IsTuple l its) it l its where
  item := fun a b c q => RZ.nextOf_tuple_item a b c q
  fin := fun hh a b c q => RZ.nextOf_tuple_end hh a b c q
  on := fun a e n => a.extBut e n
  src := fun a e n => a.extBut e n
  atI := fun a e => a.at e
  has := fun ⟨o, e, _, d⟩ => ⟨o, e, fun v q => by rw [d] at q; cases q⟩
section
variable {p : Program} {w : World} {A : Around} {E : Value → Shared → Prop} {s : Shared} {S1 S2 : Heap → Nat → Prop} {R1 R2 : Heap → Prop} {z TI TO i1 i2 l1 l2 : Addr} {k : Nat} {xs ys : Array Value} {x y a b : Value}
/-- what stands apart from the zip's own objects stays -/
def Still (z TO i1 i2 : Addr) (h g : Heap) : Prop := ∀ c o, c ≠ z → c ≠ TO → c ≠ i1 → c ≠ i2 → h.get? c = some o → g.get? c = some o
theorem feed_next {Q : Value → Shared → Prop} (F1 : Feed S1 R1 i1 l1 xs) (F2 : Feed S2 R2 i2 l2 ys) (D : ZipApart z TI TO i1 i2 l1 l2) (zz : IsZip s.heap z TI TO .none) (zi : IsPair s.heap TI (.ref i1) (.ref i2)) (zo : IsPair s.heap TO a b)
    (s1 : S1 s.heap k) (s2 : S2 s.heap k) (r1 : R1 s.heap) (r2 : R2 s.heap) (ex : xs[k]? = some x) (ey : ys[k]? = some y)
    (q : ∀ g, IsZip g z TI TO (rawInt s.heap.objs.size) → IsPair g TO x y → S1 g (k + 1) → S2 g (k + 1) → IsPair g s.heap.objs.size x y → g.objs.size = s.heap.objs.size + 1 → Still z TO i1 i2 s.heap g → Q (.ref s.heap.objs.size) { s with heap := g }) :
    wpAny (model p w) A (Builtin.«zip.__next__» ⟨[.ref z], []⟩) (fun fin t => ∃ v, fin = .done (.ret v) ∧ Q v t) E s := by
  show wpAny _ _ (field (.ref z) 2 >>= _) _ _ s
  refine wpAny_bind (wpAny_field zz rfl (x := .bool false) rfl (?_ : wpAny _ _ (field (.ref z) 3 >>= _) _ _ s))
  refine wpAny_bind (wpAny_field zz rfl (x := .ref TI) rfl (wpAny_bind (wpAny_seqItems zi rfl (?_ : wpAny _ _ (Builtin.SmallTypes.ownedTupleIsFree (.ref z) >>= _) _ _ s))))
  refine wpAny_bind (?_ : wpAny _ _ (Builtin.SmallTypes.ownedTupleIsFree (.ref z)) _ _ s)
  unfold Builtin.SmallTypes.ownedTupleIsFree
  refine wpAny_bind (wpAny_field zz rfl (x := .none) rfl (wpAny_pure ?_)); simp only [if_true]
  refine wpAny_bind (wpAny_rule (wpAny_bind (wpAny_field zz rfl (x := .ref TO) rfl (wpAny_bind (wpAny_setField_rec zz (by simp) fun g1 z1 t1 => ?_)))))
  have z1 : IsZip g1 z TI TO .ellipsis := z1
  refine wpAny_bind ?_; simp only [List.zipIdx_cons, List.zipIdx_nil, List.forIn_cons, List.forIn_nil]
  refine wpAny_bind (wpAny_bind (wpAny_onRaise (?_ : wpAny _ _ (Builtin.SmallTypes.nextOf (.ref i1) >>= _) _ _ _)))
  refine wpAny_bind (F1.item (F1.on s1 t1.extBut D.i1z) (F1.src r1 t1.extBut D.l1z) ex fun g2 a2 t2 => wpAny_pure ?_)
  have o2 : IsPair g2 TO a b := t2.extBut _ _ D.TOi1 (t1.extBut _ _ D.TOz zo)
  refine wpAny_bind (wpAny_seqItems o2 rfl (wpAny_bind (wpAny_updateSeq_pair o2 fun g3 o3 t3 => wpAny_bind (wpAny_letGo (wpAny_pure ?_)))))
  have o3 : IsPair g3 TO x b := o3
  refine wpAny_bind (wpAny_bind (wpAny_onRaise (?_ : wpAny _ _ (Builtin.SmallTypes.nextOf (.ref i2) >>= _) _ _ _)))
  refine wpAny_bind (F2.item (F2.on (F2.on (F2.on s2 t1.extBut D.i2z) t2.extBut D.i12.symm) t3.extBut D.TOi2.symm) (F2.src (F2.src (F2.src r2 t1.extBut D.l2z) t2.extBut D.l2i1) t3.extBut D.l2TO) ey fun g4 b4 t4 => wpAny_pure ?_)
  have o4 : IsPair g4 TO x b := t4.extBut _ _ D.TOi2 o3
  refine wpAny_bind (wpAny_seqItems o4 rfl (wpAny_bind (wpAny_updateSeq_pair o4 fun g5 o5 t5 => wpAny_bind (wpAny_letGo (wpAny_pure (wpAny_pure ?_))))))
  have o5 : IsPair g5 TO x y := o5
  refine wpAny_bind (wpAny_seqItems o5 rfl (wpAny_bind (wpAny_newTuple ?_)))
  have n5 : g5.objs.size = s.heap.objs.size := by rw [t5.1, t4.1, t3.1, t2.1, t1.1]
  have z5 : IsZip g5 z TI TO .ellipsis := t5.extBut _ _ D.TOz.symm (t4.extBut _ _ D.i2z.symm (t3.extBut _ _ D.TOz.symm (t2.extBut _ _ D.i1z.symm z1)))
  have k5 : Still z TO i1 i2 s.heap g5 := fun c o c1 c2 c3 c4 e => t5.extBut _ _ c2 (t4.extBut _ _ c4 (t3.extBut _ _ c2 (t2.extBut _ _ c3 (t1.extBut _ _ c1 e))))
  have a5 : S1 g5 (k + 1) := F1.on (F1.on (F1.on a2 t3.extBut D.TOi1.symm) t4.extBut D.i12) t5.extBut D.TOi1.symm
  have b5 : S2 g5 (k + 1) := F2.on b4 t5.extBut D.TOi2.symm
  have zl : z < g5.objs.size := Heap.lt_size z5
  refine (?_ : wpAny _ _ (Builtin.SmallTypes.ownedTupleHandOut (.ref z) (.ref g5.objs.size) >>= _) _ _ _)
  refine wpAny_bind ?_
  unfold Builtin.SmallTypes.ownedTupleHandOut
  have z6 : IsZip (g5.push { cls := .type "tuple", data := .seq #[x, y] }) z TI TO .ellipsis := Heap.get?_push_of_some _ z5
  refine wpAny_bind (wpAny_setField_rec z6 (by simp) fun g7 z7 t7 => ?_)
  have z7 : IsZip g7 z TI TO (rawInt g5.objs.size) := z7
  refine wpAny_setField_rec z7 (by simp) fun g8 z8 t8 => ?_
  have z8 : IsZip g8 z TI TO (rawInt g5.objs.size) := z8
  have up : ∀ c o, c ≠ z → g5.get? c = some o → g8.get? c = some o := fun c o c1 e => t8.extBut _ _ c1 (t7.extBut _ _ c1 (Heap.get?_push_of_some _ e))
  have T8 : IsPair g8 g5.objs.size x y := t8.extBut _ _ (Nat.ne_of_gt zl) (t7.extBut _ _ (Nat.ne_of_gt zl) (Heap.get?_push_size _ rfl))
  have n8 : g8.objs.size = g5.objs.size + 1 := by rw [t8.1, t7.1, Heap.size_push]
  rw [n5] at z8 T8 n8
  refine wpAny_pure ⟨_, rfl, (?_ : Q (.ref g5.objs.size) _)⟩
  rw [n5]
  exact q g8 z8 (up _ _ D.TOz o5) (F1.atI a5 fun o e => up _ o D.i1z e) (F2.atI b5 fun o e => up _ o D.i2z e) T8 n8 fun c o c1 c2 c3 c4 e => up c o c1 (k5 c o c1 c2 c3 c4 e)
theorem feed_end {Q : Fin → Shared → Prop} (hh : A.handled = none) (F1 : Feed S1 R1 i1 l1 xs) (F2 : Feed S2 R2 i2 l2 ys) (D : ZipApart z TI TO i1 i2 l1 l2) (zz : IsZip s.heap z TI TO .none) (zi : IsPair s.heap TI (.ref i1) (.ref i2)) (zo : IsPair s.heap TO a b)
    (s1 : S1 s.heap k) (s2 : S2 s.heap k) (r1 : R1 s.heap) (r2 : R2 s.heap) (over : xs[k]? = none ∨ ys[k]? = none)
    (q : ∀ g e, Still z TO i1 i2 s.heap g → (∃ o, g.get? e = some o ∧ o.cls = .type "StopIteration") → E (.ref e) { s with heap := g }) : wpAny (model p w) A (Builtin.«zip.__next__» ⟨[.ref z], []⟩) Q E s := by
  show wpAny _ _ (field (.ref z) 2 >>= _) _ _ s
  refine wpAny_bind (wpAny_field zz rfl (x := .bool false) rfl (?_ : wpAny _ _ (field (.ref z) 3 >>= _) _ _ s))
  refine wpAny_bind (wpAny_field zz rfl (x := .ref TI) rfl (wpAny_bind (wpAny_seqItems zi rfl (?_ : wpAny _ _ (Builtin.SmallTypes.ownedTupleIsFree (.ref z) >>= _) _ _ s))))
  refine wpAny_bind (?_ : wpAny _ _ (Builtin.SmallTypes.ownedTupleIsFree (.ref z)) _ _ s)
  unfold Builtin.SmallTypes.ownedTupleIsFree
  refine wpAny_bind (wpAny_field zz rfl (x := .none) rfl (wpAny_pure ?_)); simp only [if_true]
  refine wpAny_bind (wpAny_rule (wpAny_bind (wpAny_field zz rfl (x := .ref TO) rfl (wpAny_bind (wpAny_setField_rec zz (by simp) fun g1 z1 t1 => ?_)))))
  have z1 : IsZip g1 z TI TO .ellipsis := z1
  refine wpAny_bind ?_; simp only [List.zipIdx_cons, List.zipIdx_nil, List.forIn_cons, List.forIn_nil]
  refine wpAny_bind (wpAny_bind (wpAny_onRaise (?_ : wpAny _ _ (Builtin.SmallTypes.nextOf (.ref i1) >>= _) _ _ _)))
  cases ex : xs[k]? with
  | none =>
    refine wpAny_bind (F1.fin hh (F1.on s1 t1.extBut D.i1z) (F1.src r1 t1.extBut D.l1z) ex fun g2 e t2 ⟨oe, e1, e2⟩ => ?_)
    have z2 : IsZip g2 z TI TO .ellipsis := t2 _ _ D.i1z.symm z1
    have ez : e ≠ z := fun c => by rw [c, z2] at e1; cases e1; simp at e2
    exact wpAny_setField_rec z2 (by simp) fun g3 _ t3 => q g3 e (fun c o c1 _ c3 _ h => t3.extBut _ _ c1 (t2 _ _ c3 (t1.extBut _ _ c1 h))) ⟨oe, t3.extBut _ _ ez e1, e2⟩
  | some x =>
    have ey : ys[k]? = none := over.resolve_left (by rw [ex]; exact fun c => nomatch c)
    refine wpAny_bind (F1.item (F1.on s1 t1.extBut D.i1z) (F1.src r1 t1.extBut D.l1z) ex fun g2 a2 t2 => wpAny_pure ?_)
    have o2 : IsPair g2 TO a b := t2.extBut _ _ D.TOi1 (t1.extBut _ _ D.TOz zo)
    refine wpAny_bind (wpAny_seqItems o2 rfl (wpAny_bind (wpAny_updateSeq_pair o2 fun g3 o3 t3 => wpAny_bind (wpAny_letGo (wpAny_pure ?_)))))
    refine wpAny_bind (wpAny_bind (wpAny_onRaise (?_ : wpAny _ _ (Builtin.SmallTypes.nextOf (.ref i2) >>= _) _ _ _)))
    refine wpAny_bind (F2.fin hh (F2.on (F2.on (F2.on s2 t1.extBut D.i2z) t2.extBut D.i12.symm) t3.extBut D.TOi2.symm) (F2.src (F2.src (F2.src r2 t1.extBut D.l2z) t2.extBut D.l2i1) t3.extBut D.l2TO) ey fun g4 e t4 ⟨oe, e1, e2⟩ => ?_)
    have z4 : IsZip g4 z TI TO .ellipsis := t4 _ _ D.i2z.symm (t3.extBut _ _ D.TOz.symm (t2.extBut _ _ D.i1z.symm z1))
    have ez : e ≠ z := fun c => by rw [c, z4] at e1; cases e1; simp at e2
    exact wpAny_setField_rec z4 (by simp) fun g5 _ t5 => q g5 e (fun c o c1 c2 c3 c4 h => t5.extBut _ _ c1 (t4 _ _ c4 (t3.extBut _ _ c2 (t2.extBut _ _ c3 (t1.extBut _ _ c1 h))))) ⟨oe, t5.extBut _ _ ez e1, e2⟩
end
section
variable {p : Program} {w : World} {A : Around} {E : Value → Shared → Prop} {s : Shared} {S1 S2 : Heap → Nat → Prop} {R1 R2 : Heap → Prop} {z TI TO i1 i2 l1 l2 : Addr} {k : Nat} {xs ys : Array Value} {x y a b : Value}
theorem feed_py_next {Q : Option Value → Shared → Prop} (F1 : Feed S1 R1 i1 l1 xs) (F2 : Feed S2 R2 i2 l2 ys) (D : ZipApart z TI TO i1 i2 l1 l2) (zz : IsZip s.heap z TI TO .none) (zi : IsPair s.heap TI (.ref i1) (.ref i2)) (zo : IsPair s.heap TO a b)
    (s1 : S1 s.heap k) (s2 : S2 s.heap k) (r1 : R1 s.heap) (r2 : R2 s.heap) (ex : xs[k]? = some x) (ey : ys[k]? = some y)
    (q : ∀ g, IsZip g z TI TO (rawInt s.heap.objs.size) → IsPair g TO x y → S1 g (k + 1) → S2 g (k + 1) → IsPair g s.heap.objs.size x y → g.objs.size = s.heap.objs.size + 1 → Still z TO i1 i2 s.heap g → Q (some (.ref s.heap.objs.size)) { s with heap := g }) :
    wpAny (model p w) A (pyNext (.ref z)) Q E s := by
  have T : s.TypeIs (.ref z) "zip" := ⟨_, zz, rfl⟩
  unfold pyNext
  exact wpAny_bind (wpAny_attempt (wpAny_callSpecial?_slot (name := Str.ofString "__next__") T F.slot_zip_next (wpAny_call_entry F.slot_zip_next T F.entry_zip_next
    (feed_next F1 F2 D zz zi zo s1 s2 r1 r2 ex ey fun g b1 b2 b3 b4 b5 b6 b7 => wpAny_pure (q g b1 b2 b3 b4 b5 b6 b7)) (F.args_zip_next_1 _))))
theorem feed_py_end {Q : Option Value → Shared → Prop} (hh : A.handled = none) (F1 : Feed S1 R1 i1 l1 xs) (F2 : Feed S2 R2 i2 l2 ys) (D : ZipApart z TI TO i1 i2 l1 l2) (zz : IsZip s.heap z TI TO .none) (zi : IsPair s.heap TI (.ref i1) (.ref i2)) (zo : IsPair s.heap TO a b)
    (s1 : S1 s.heap k) (s2 : S2 s.heap k) (r1 : R1 s.heap) (r2 : R2 s.heap) (over : xs[k]? = none ∨ ys[k]? = none) (q : ∀ g, Still z TO i1 i2 s.heap g → Q none { s with heap := g }) : wpAny (model p w) A (pyNext (.ref z)) Q E s := by
  have T : s.TypeIs (.ref z) "zip" := ⟨_, zz, rfl⟩
  unfold pyNext
  refine wpAny_bind (wpAny_attempt (wpAny_callSpecial?_slot (name := Str.ofString "__next__") T F.slot_zip_next (wpAny_call_entry F.slot_zip_next T F.entry_zip_next
    (feed_end hh F1 F2 D zz zi zo s1 s2 r1 r2 over fun g e st ⟨o, e1, e2⟩ => ?_) (F.args_zip_next_1 _))))
  exact wpAny_bind (wpAny_isInstance (T := "StopIteration") (b := true) ⟨o, e1, e2⟩ isSubtype_stop (wpAny_pure (q _ st)))
end
/-- a tuple and a list, as they stand at each turn, the items in new pairs -/
def ItzM (K : PySem.W.Frag) (a b : Addr) : It :=
  ⟨fun i H => ∃ (xs ys : List V) (x y : V), SqT K H a xs ∧ SqL K H b ys ∧ xs[i]? = some x ∧ ys[i]? = some y,
   fun i H v G => ∃ (T : Addr) (x y : V), v = .ref T ∧ H T = none ∧ G = upd H T (.tup [x, y]) ∧ (∀ xs, SqT K H a xs → xs[i]? = some x) ∧ (∀ ys, SqL K H b ys → ys[i]? = some y),
   fun i H => ∃ xs ys : List V, SqT K H a xs ∧ SqL K H b ys ∧ (xs.length ≤ i ∨ ys.length ≤ i)⟩
theorem walk_zipM {K : PySem.W.Frag} {a b : Addr} {xs ys : List V} {n : Nat} (hn : n = min xs.length ys.length) : Walk (ItzM K a b) n (fun H => SqT K H a xs ∧ SqL K H b ys) (YPair (fun i => xs[i]?) (fun i => ys[i]?)) := by
  subst hn
  refine ⟨fun i H hi q => ?_, fun H q => ⟨xs, ys, q.1, q.2, by omega⟩, fun i H v G _ q y => ?_⟩
  · have h1 : i < xs.length := by omega
    have h2 : i < ys.length := by omega
    exact ⟨xs, ys, xs[i], ys[i], q.1, q.2, List.getElem?_eq_getElem h1, List.getElem?_eq_getElem h2⟩
  · obtain ⟨T, x, u, h1, h2, h3, h4, h5⟩ := y
    exact ⟨T, x, u, h1, h2, h3, h4 xs q.1, h5 ys q.2⟩
theorem turn_zipM {P : Program} {w : World} {K : PySem.W.Frag} {es : List Expr} {kk : Nat} {tp : Pos} {a b z TI TO i1 i2 : Addr} (D : ZipApart z TI TO i1 i2 a b) :
    Turn P w K (.Tuple es kk tp) (ItzM K a b) [z, TI, TO, i1, i2] z (fun i h => (IsZip h z TI TO .none ∧ IsPair h TI (.ref i1) (.ref i2) ∧ ∃ x y, IsPair h TO x y) ∧ h.IsTupleIter i1 a i ∧ h.IsListIter i2 b i) where
  mem := List.mem_cons_self
  obj := fun i h ⟨⟨e1, e2, x, y, e3⟩, e4, e5⟩ c hc => by
    simp only [List.mem_cons, List.not_mem_nil, or_false] at hc
    rcases hc with rfl | rfl | rfl | rfl | rfl
    · exact ⟨_, e1, fun v q => nomatch q⟩
    · exact ⟨_, e2, fun v q => nomatch q⟩
    · exact ⟨_, e3, fun v q => nomatch q⟩
    · exact (feed_tup _ a #[]).has e4
    · exact (feed_list _ b #[]).has e5
  keep := fun i h g ⟨⟨e1, e2, x, y, e3⟩, e4, e5⟩ k => ⟨⟨k z (by simp) _ e1, k TI (by simp) _ e2, x, y, k TO (by simp) _ e3⟩, e4.at fun o e => k i1 (by simp) o e, e5.at fun o e => k i2 (by simp) o e⟩
  item := by
    intro X eP ew eK calm i pins s σ H E I hf st go
    subst eP ew eK
    obtain ⟨⟨e1, e2, x0, y0, e3⟩, e4, e5⟩ := st
    obtain ⟨xs, ys, x, y, qx, qy, hx, hy⟩ := go
    obtain ⟨us, ru, pu, _⟩ := I.tuple qx
    obtain ⟨vs, rv, pv, _⟩ := I.list qy
    obtain ⟨u, hu, xu⟩ := ru.get hx
    obtain ⟨v, hv, yv⟩ := rv.get hy
    have zl : z < s.heap.objs.size := Heap.lt_size e1
    refine feed_py_next (feed_tup i1 a us.toArray) (feed_list i2 b vs.toArray) D e1 e2 e3 e4 e5 pu pv.isList (x := u) (y := v) (by simpa using hu) (by simpa using hv) fun g z' o' a' b' T' n' k' => ⟨_, rfl, ?_⟩
    refine wpAny_letOwnedTupleGo_zip (s := { s with heap := g }) z' fun g2 z2 same => ?_
    have T2 : g2.get? s.heap.objs.size = some { cls := .type "tuple", data := .seq #[u, v] } := (same.2 _ (Nat.ne_of_gt zl)).trans T'
    have J : Inv X pins σ (upd H s.heap.objs.size (.tup [x, y])) { s with heap := g2 } :=
      I.turnedNew (t' := s.toks) (ch := [z, TI, TO, i1, i2]) (fun c o hb q => (same.2 c (fun e => hb (by simp [e]))).trans (k' c o (fun e => hb (by simp [e])) (fun e => hb (by simp [e])) (fun e => hb (by simp [e])) (fun e => hb (by simp [e])) q)) hf (Nat.le_refl _)
        ⟨by show 2 ≤ sizeLine; decide, [u, v], .cons xu (.cons yv .nil), ⟨_, T2, rfl, _, rfl⟩⟩
    refine ⟨.ref s.heap.objs.size, _, J, rfl, ⟨_, x, y, rfl, I.hok.fresh (Nat.le_refl _), rfl, fun l hl => by rw [I.tuple_inj hl qx]; exact hx, fun l hl => by rw [I.list_inj hl qy]; exact hy⟩, ?_, fun c hc => ?_⟩
    · exact ⟨⟨z2, (same.2 _ D.TIz).trans (k' _ _ D.TIz D.TITO D.TIi1 D.TIi2 e2), u, v, (same.2 _ D.TOz).trans o'⟩, a'.at fun o e => (same.2 _ D.i1z).trans e, b'.at fun o e => (same.2 _ D.i2z).trans e⟩
    · have lt : c < s.heap.objs.size := by
        simp only [List.mem_cons, List.not_mem_nil, or_false] at hc
        rcases hc with rfl | rfl | rfl | rfl | rfl
        · exact zl
        · exact Heap.lt_size e2
        · exact Heap.lt_size e3
        · exact Heap.lt_size e4.choose_spec.1
        · exact Heap.lt_size e5.choose_spec.1
      rw [upd_ne (Nat.ne_of_lt lt)]
      exact (hf c hc).1
  done := by
    intro X eP ew eK calm i pins s σ H E I hf st go
    subst eP ew eK
    obtain ⟨⟨e1, e2, x0, y0, e3⟩, e4, e5⟩ := st
    obtain ⟨xs, ys, qx, qy, over⟩ := go
    obtain ⟨us, ru, pu, _⟩ := I.tuple qx
    obtain ⟨vs, rv, pv, _⟩ := I.list qy
    have n1 := ru.length
    have n2 := rv.length
    have no : us.toArray[i]? = none ∨ vs.toArray[i]? = none := over.imp (fun e => by simp; omega) (fun e => by simp; omega)
    exact feed_py_end (I.ok.hd calm) (feed_tup i1 a us.toArray) (feed_list i2 b vs.toArray) D e1 e2 e3 e4 e5 pu pv.isList no fun g k' => ⟨rfl, I.turnedL (t' := s.toks) (ch := [z, TI, TO, i1, i2])
      (fun c o hb q => k' c o (fun e => hb (by simp [e])) (fun e => hb (by simp [e])) (fun e => hb (by simp [e])) (fun e => hb (by simp [e])) q) hf⟩
  self := fun A i s Q E st h => wpAny_pyIter_zip st.1.1 h
/-- the five new objects of zip(tuple, list) -/
def zm1 (h : Heap) (a : Addr) : Heap := h.push { cls := .type "tuple_iterator", data := .fields #[.ref a, .int 0 0] }
def zm2 (h : Heap) (a b : Addr) : Heap := (zm1 h a).push { cls := .type "list_iterator", data := .fields #[.ref b, .int 0 0] }
def zm3 (h : Heap) (a b : Addr) : Heap := (zm2 h a b).push { cls := .type "tuple", data := .seq #[.ref h.objs.size, .ref (zm1 h a).objs.size] }
def zm4 (h : Heap) (a b : Addr) : Heap := (zm3 h a b).push { cls := .type "tuple", data := .seq #[.none, .none] }
def zm5 (h : Heap) (a b : Addr) : Heap := (zm4 h a b).push { cls := .type "zip", data := .fields #[.none, .bool false, .bool false, .ref (zm2 h a b).objs.size, .ref (zm3 h a b).objs.size] }
theorem meets_zipM (a b : Addr) (xs ys : Array Value) : Meets (Builtin.«zip.__new__» ⟨[.type "zip", .ref a, .ref b], []⟩) (fun _ R s => s.heap.IsTuple a xs ∧ s.heap.IsList b ys ∧ R (.ok (.ret (.ref (zm4 s.heap a b).objs.size))) { s with heap := zm5 s.heap a b }) :=
  .of_wp fun prog w A R s ⟨ha, hb, h⟩ => by
    obtain ⟨hp, gs, dr, tk, os⟩ := s
    have sz := sub_zip
    have t1 : Heap.IsTuple (Shared.heap ⟨hp, gs, dr, tk, os⟩) a xs := ha
    have t2 : Heap.IsList (Shared.heap ⟨hp.push { cls := .type "tuple_iterator", data := .fields #[.ref a, .int 0 0] }, gs, dr, tk, os⟩) b ys := Heap.IsList.push hb _
    wp_walk using wpAny_pyIter_tuple t1, wpAny_pyIter_list t2
    exact ⟨_, rfl, h⟩
theorem call_zipM {p : Program} {w : World} {A : Around} {E : Value → Shared → Prop} {s : Shared} {a b : Addr} {xs ys : Array Value} {Q : Value → Shared → Prop} (ha : s.heap.IsTuple a xs) (hb : s.heap.IsList b ys)
    (q : ∀ g, IsZip g (s.heap.objs.size + 4) (s.heap.objs.size + 2) (s.heap.objs.size + 3) .none → IsPair g (s.heap.objs.size + 2) (.ref s.heap.objs.size) (.ref (s.heap.objs.size + 1)) → IsPair g (s.heap.objs.size + 3) .none .none →
      g.IsTupleIter s.heap.objs.size a 0 → g.IsListIter (s.heap.objs.size + 1) b 0 → (∀ c o, s.heap.get? c = some o → g.get? c = some o) → Q (.ref (s.heap.objs.size + 4)) { s with heap := g }) : wpAny (model p w) A (call (.type "zip") [.ref a, .ref b]) Q E s := by
  refine callType_new F.called_zip (by decide) (F.typeCall_zip_2 _ _) (F.newCall_zip_2 _ _) (fun obj => F.args_object_init_3 obj _ _) F.entry_zip_new (meets_zipM a b xs ys) ⟨ha, hb, ?_⟩
  have n1 : (zm1 s.heap a).objs.size = s.heap.objs.size + 1 := Heap.size_push ..
  have n2 : (zm2 s.heap a b).objs.size = s.heap.objs.size + 2 := (Heap.size_push ..).trans (by rw [n1])
  have n3 : (zm3 s.heap a b).objs.size = s.heap.objs.size + 3 := (Heap.size_push ..).trans (by rw [n2])
  have n4 : (zm4 s.heap a b).objs.size = s.heap.objs.size + 4 := (Heap.size_push ..).trans (by rw [n3])
  have up : ∀ {c o}, (zm2 s.heap a b).get? c = some o → (zm5 s.heap a b).get? c = some o := fun e => Heap.get?_push_of_some _ (Heap.get?_push_of_some _ (Heap.get?_push_of_some _ e))
  have f5 : (zm5 s.heap a b).get? (zm4 s.heap a b).objs.size = some { cls := .type "zip", data := .fields #[.none, .bool false, .bool false, .ref (zm2 s.heap a b).objs.size, .ref (zm3 s.heap a b).objs.size] } := Heap.get?_push_size _ rfl
  have f4 : (zm5 s.heap a b).get? (zm3 s.heap a b).objs.size = some { cls := .type "tuple", data := .seq #[.none, .none] } := Heap.get?_push_of_some _ (Heap.get?_push_size _ rfl)
  have f3 : (zm5 s.heap a b).get? (zm2 s.heap a b).objs.size = some { cls := .type "tuple", data := .seq #[.ref s.heap.objs.size, .ref (zm1 s.heap a).objs.size] } := Heap.get?_push_of_some _ (Heap.get?_push_of_some _ (Heap.get?_push_size _ rfl))
  have f2 : (zm5 s.heap a b).get? (zm1 s.heap a).objs.size = some { cls := .type "list_iterator", data := .fields #[.ref b, .int 0 0] } := up (Heap.get?_push_size _ rfl)
  have f1 : (zm5 s.heap a b).get? s.heap.objs.size = some { cls := .type "tuple_iterator", data := .fields #[.ref a, .int 0 0] } := up (Heap.get?_push_of_some _ (Heap.get?_push_size _ rfl))
  rw [n2, n3, n4] at f5
  rw [n1, n2] at f3
  rw [n3] at f4
  rw [n1] at f2
  show _ ∧ _
  rw [n4]
  exact ⟨⟨_, f5, rfl⟩, q _ f5 f3 f4 ⟨_, f1, rfl, rfl⟩ ⟨_, f2, rfl, rfl⟩ fun c o e => up (Heap.get?_push_of_some _ (Heap.get?_push_of_some _ e))⟩
def iZipM (K : PySem.W.Frag) (ta : TA) : TI := fun σ H R => ta σ H fun vs H1 => ∃ (a b : Addr) (xs ys : List V), vs = [.ref a, .ref b] ∧ SqT K H1 a xs ∧ SqL K H1 b ys ∧ R (ItzM K a b) H1
theorem g_zipM {K : PySem.W.Frag} {ta : TA} {σ : L2.St} {H : Hp} {R : It → Hp → Prop} (h : ta σ H fun vs H1 => ∃ (a b : Addr) (xs ys : List V), vs = [.ref a, .ref b] ∧ SqT K H1 a xs ∧ SqL K H1 b ys ∧ R (ItzM K a b) H1) : iZipM K ta σ H R := h
theorem pi_zipM {X : Cx} {e e2 : Expr} {ta : TA} {p pos tp : Pos} {es : List Expr} {kk : Nat} (hg : Gl X "zip") (hm : X.mg "zip" = none) (ha : PA X [e, e2] ta)
    (hs : starEach [e, e2] X.env = (false, eval e X.env) :: starEach [e2] X.env := by rfl) (hpl : (backTo pos (starEach [e2] X.env)).any (·.1) = false := by rfl) : PI X (.Tuple es kk tp) (.Call (.Name "zip" p) [e, e2] [] pos) (iZipM X.K ta) := by
  refine ⟨fun pins s σ H R I h => Call_ (ld_blt I hg hm PyProof.Rows.boot_zip (PyProof.Rows.callWith_type1 (thn (ha.run pos pins s σ H _ I h) fun us s1 ⟨vs, H1, I1, r1, a, b, xs, ys, ev, qx, qy, q⟩ => ?_) hs hpl))⟩
  subst ev
  cases r1 with
  | cons ra rr =>
  cases rr with
  | cons rb rr =>
  cases rr
  cases ra
  cases rb
  obtain ⟨us, ru, pu, _⟩ := I1.tuple qx
  obtain ⟨vs, rv, pv, _⟩ := I1.list qy
  obtain ⟨oa, la, _⟩ := id pu
  have fresh : ∀ c, c ∈ [s1.heap.objs.size + 4, s1.heap.objs.size + 2, s1.heap.objs.size + 3, s1.heap.objs.size, s1.heap.objs.size + 1] → FpOk X pins H1 c := fun c hc => by
    have le : s1.heap.objs.size ≤ c := by
      simp only [List.mem_cons, List.not_mem_nil, or_false] at hc
      omega
    exact I1.fpOk le (I1.hok.fresh le)
  refine call_zipM pu pv.isList fun g z' t' o' a' b' k' => wpAny_pyIter_zip z' ?_
  exact ⟨s1.heap.objs.size + 4, [s1.heap.objs.size + 4, s1.heap.objs.size + 2, s1.heap.objs.size + 3, s1.heap.objs.size, s1.heap.objs.size + 1], _, _, H1, rfl, I1.kept (t' := s1.toks) k',
    turn_zipM (PySem.W.ktu_apart s1.heap.objs.size a b (Heap.lt_size la) pv.lt), ⟨⟨z', t', _, _, o'⟩, a', b'⟩, fresh, q⟩
end Bk

set_option Elab.async false
set_option linter.all false
set_option maxRecDepth 100000
set_option maxHeartbeats 2000000
namespace Bk
open PySem PySem.Spec PyProof.Rows L2
/-! ### rows compared, either way -/
def IntVals (ks : List (Key × V)) : Prop := ∀ p ∈ ks, ∃ i : Int, p.2 = .int i
def sameRows (ks ls : List (Key × V)) : Bool := (ks.length == ls.length) && ks.all fun p => decide (valV ls p.1 = some p.2)
theorem valV_in {kvs : List (Key × V)} {k : Key} {v : V} (h : valV kvs k = some v) : (k, v) ∈ kvs := by
  unfold valV at h
  obtain ⟨⟨a, b⟩, h1, h2⟩ := Option.map_eq_some_iff.mp h
  have e : a = k := of_decide_eq_true (List.find?_some (p := fun kv : Key × V => decide (kv.1 = k)) h1)
  have h2 : b = v := h2
  subst e
  subst h2
  exact List.mem_of_find?_eq_some h1
theorem hits_ints {A : Around} {s : Shared} {ls : List (Key × V)} {vb : List (Key × Value)} (rb : KV ls vb) (hb : IntVals ls) : ∀ {ks : List (Key × V)} {va : List (Key × Value)}, KV ks va → IntVals ks → PySem.W.KeqHits A s vb va (ks.all fun p => decide (valV ls p.1 = some p.2)) := by
  intro ks va ra
  unfold KV at ra
  induction ra with
  | nil => exact fun _ => .nil
  | @cons p q ps qs h t ih =>
    intro hp
    obtain ⟨pk, pv⟩ := p
    obtain ⟨qk, qv⟩ := q
    obtain ⟨h1, h2⟩ := h
    have h1 : pk = qk := h1
    subst h1
    obtain ⟨i, hi⟩ := hp _ List.mem_cons_self
    have hi : pv = .int i := hi
    subst hi
    obtain ⟨t1, e1⟩ := (show ∃ t, qv = Value.int i t from h2)
    subst e1
    have rr : RelO (valV ls pk) (valueAt vb pk) := rb.val pk
    have rest := ih fun p' hm => hp p' (List.mem_cons_of_mem _ hm)
    rw [List.all_cons]
    cases hv : valV ls pk with
    | none =>
      rw [hv] at rr
      rw [show decide ((none : Option V) = some (.int i)) = false from decide_eq_false (fun z => nomatch z), Bool.false_and]
      exact .miss rr.none_of
    | some y =>
      rw [hv] at rr
      obtain ⟨u, hu, ru⟩ := rr.some_of
      obtain ⟨j, hj⟩ := hb _ (valV_in hv)
      have hj : y = .int j := hj
      subst hj
      obtain ⟨t2, e2⟩ := (show ∃ t, u = Value.int j t from ru)
      subst e2
      have q := SeqAt.EqAt.int_int (A := A) (s := s) i t1 j t2
      have e : (i == j) = decide (some (V.int j) = some (V.int i)) := by
        by_cases c : i = j
        · subst c; simp
        · rw [decide_eq_false (fun z => c (V.int.inj (Option.some.inj z)).symm)]
          simpa using c
      rw [e] at q
      exact .hit hu q rest
def rNeDI : R2 := fun x y H Q => ∃ a b ks ls, x = .ref a ∧ y = .ref b ∧ H a = some (.dK ks) ∧ H b = some (.dK ls) ∧ IntVals ks ∧ IntVals ls ∧ Q (.bl (!sameRows ks ls)) H
theorem op_neDI {X : Cx} (hu : X.A.units < cLine) : OpR X (compareOp .NotEq) rNeDI := by
  intro pins s σ H x y v u Q I rx ry h
  obtain ⟨a, b, ks, ls, rfl, rfl, ea, eb, ha, hb, q⟩ := h
  obtain rfl : v = Value.ref a := rx
  obtain rfl : u = Value.ref b := ry
  obtain ⟨_, ya, va, ra, da⟩ := (show ObjOk X.prog X.w H s.heap a (.dK ks) from I.hok a _ ea)
  obtain ⟨_, yb, vb, rb, db⟩ := (show ObjOk X.prog X.w H s.heap b (.dK ls) from I.hok b _ eb)
  have l1 : ks.length = va.length := ra.length
  have l2 : ls.length = vb.length := rb.length
  refine PySem.W.keq_ne (knd := mixKind X.prog X.w) (r := ks.all fun p => decide (valV ls p.1 = some p.2)) ya yb da db hu (fun _ => hits_ints rb hb ra ha) ?_
  rw [← l1, ← l2]
  exact fin_bl I q rfl
def rEqDI : R2 := fun x y H Q => ∃ a b ks ls, x = .ref a ∧ y = .ref b ∧ H a = some (.dK ks) ∧ H b = some (.dK ls) ∧ IntVals ks ∧ IntVals ls ∧ Q (.bl (sameRows ks ls)) H
theorem op_eqDI {X : Cx} (hu : X.A.units < cLine) : OpR X (compareOp .Eq) rEqDI := by
  intro pins s σ H x y v u Q I rx ry h
  obtain ⟨a, b, ks, ls, rfl, rfl, ea, eb, ha, hb, q⟩ := h
  obtain rfl : v = Value.ref a := rx
  obtain rfl : u = Value.ref b := ry
  obtain ⟨_, ya, va, ra, da⟩ := (show ObjOk X.prog X.w H s.heap a (.dK ks) from I.hok a _ ea)
  obtain ⟨_, yb, vb, rb, db⟩ := (show ObjOk X.prog X.w H s.heap b (.dK ls) from I.hok b _ eb)
  have l1 : ks.length = va.length := ra.length
  have l2 : ls.length = vb.length := rb.length
  refine PySem.W.keq_eq (knd := mixKind X.prog X.w) (r := ks.all fun p => decide (valV ls p.1 = some p.2)) ya yb da db hu (fun _ => hits_ints rb hb ra ha) ?_
  rw [← l1, ← l2]
  exact fin_bl I q rfl
/-! ### a dict comprehension over any walk -/
theorem g_dc {wi : TI} {g : TG} {tt : TT} {tk tv : TE} {vs : List Nat} {σ : L2.St} {H : Hp} {Q : VK} (h : wi σ H fun J H1 => ∀ D, H1 D = none → ∃ W : Nat → Nat → Hp → Prop, (∃ m, W 0 m (upd H1 D (.dK []))) ∧ ∀ i m H, W i m H →
    (J.stop i H ∧ Q (.ref D) H) ∨ (J.go i H ∧ ∃ Nx : Hp → Prop, (∀ H', Nx H' → ∃ m', m' < m ∧ W (i + 1) m' H') ∧ ∀ x H', J.yld i H x H' → g x (wipe σ vs) H' fun σ2 H2 => wipe σ2 vs = wipe σ vs ∧ tt σ2 H2 fun b H3 =>
      if b = true then tk σ2 H3 fun y H4 => tv σ2 H4 fun z H5 => ∃ kvs k, y = kV k ∧ H5 D = some (.dK kvs) ∧ kvs.length < sizeLine ∧ Nx (upd H5 D (.dK (putK kvs k z))) else Nx H3)) : tDc wi g tt tk tv vs σ H Q := h
theorem dc_it {J : It} {n : Nat} {G : Hp → Prop} {Y : Nat → Hp → V → Hp → Prop} (w : Walk J n G Y) {g : TG} {tt : TT} {tk tv : TE} {vs : List Nat} {σ : L2.St} {H1 : Hp} {D : Addr} {Qd : Hp → Prop} (Pv : Nat → Hp → Prop) (h0 : Pv 0 (upd H1 D (.dK []))) (hG : ∀ i H, i ≤ n → Pv i H → G H)
    (hs : ∀ i x H H', i < n → Pv i H → Y i H x H' → g x (wipe σ vs) H' fun σ2 H2 => wipe σ2 vs = wipe σ vs ∧ tt σ2 H2 fun b H3 =>
      if b = true then tk σ2 H3 fun y H4 => tv σ2 H4 fun z H5 => ∃ kvs k, y = kV k ∧ H5 D = some (.dK kvs) ∧ kvs.length < sizeLine ∧ Pv (i + 1) (upd H5 D (.dK (putK kvs k z))) else Pv (i + 1) H3) (hd : ∀ H, Pv n H → Qd H) :
    ∃ W : Nat → Nat → Hp → Prop, (∃ m, W 0 m (upd H1 D (.dK []))) ∧ ∀ i m H, W i m H →
      (J.stop i H ∧ Qd H) ∨ (J.go i H ∧ ∃ Nx : Hp → Prop, (∀ H', Nx H' → ∃ m', m' < m ∧ W (i + 1) m' H') ∧ ∀ x H', J.yld i H x H' → g x (wipe σ vs) H' fun σ2 H2 => wipe σ2 vs = wipe σ vs ∧ tt σ2 H2 fun b H3 =>
        if b = true then tk σ2 H3 fun y H4 => tv σ2 H4 fun z H5 => ∃ kvs k, y = kV k ∧ H5 D = some (.dK kvs) ∧ kvs.length < sizeLine ∧ Nx (upd H5 D (.dK (putK kvs k z))) else Nx H3) := by
  refine ⟨fun i m H => m = n - i ∧ (i ≤ n ∧ Pv i H), ⟨n - 0, rfl, Nat.zero_le _, h0⟩, fun i m H ⟨em, le, pv⟩ => ?_⟩
  have gg := hG i H le pv
  rcases Nat.lt_or_ge i n with lt | ge
  · exact .inr ⟨w.goes i H lt gg, Pv (i + 1), fun G' p' => ⟨n - (i + 1), by omega, rfl, lt, p'⟩, fun x G' y => hs i x H G' lt pv (w.yields i H x G' lt gg y)⟩
  · have e : i = n := Nat.le_antisymm le ge
    subst e
    exact .inl ⟨w.stops H gg, hd H pv⟩
theorem g_din {ty td : TE} {σ : L2.St} {H : Hp} {Q : VK} (h : ty σ H fun y H1 => td σ H1 fun x H2 => ∃ a o, x = .ref a ∧ DGet H2 a y o ∧ Q (.bl o.isSome) H2) : tDIn ty td σ H Q := h
theorem g_dnotin {ty td : TE} {σ : L2.St} {H : Hp} {Q : VK} (h : ty σ H fun y H1 => td σ H1 fun x H2 => ∃ a o, x = .ref a ∧ DGet H2 a y o ∧ Q (.bl (!o.isSome)) H2) : tDNotIn ty td σ H Q := h
theorem g_has {H : Hp} {d : Addr} {kvs : List (Key × V)} {x : Str} {R : Bool → Prop} (hd : H d = some (.dK kvs)) (h : R (valV kvs (.inr x)).isSome) : ∃ a o, V.ref d = .ref a ∧ DGet H a (.str x) o ∧ R o.isSome :=
  ⟨d, _, rfl, .inl ⟨kvs, .inr x, .inl hd, rfl, rfl⟩, h⟩
/-! ### the same rules with the frag's own name (within comprehensions) -/
theorem pi_tupK {X : Cx} {K : PySem.W.Frag} {tg l : Expr} {tl : TE} (h : X.K = K) (he : PE X l tl) : PI X tg l (iTup K tl) := by
  subst h
  exact pi_tup he
theorem pi_listK {X : Cx} {K : PySem.W.Frag} {tg l : Expr} {tl : TE} (h : X.K = K) (he : PE X l tl) : PI X tg l (iList K tl) := by
  subst h
  exact pi_list he
theorem op_inK {X : Cx} {K : PySem.W.Frag} (h : X.K = K) : OpR X (compareOp .In) (rIn K false) := by
  subst h
  exact op_in_seq
theorem op_notInK {X : Cx} {K : PySem.W.Frag} (h : X.K = K) : OpR X (compareOp .NotIn) (rIn K true) := by
  subst h
  exact op_notIn_seq
theorem g_dpop {td ty : TE} {σ : L2.St} {H : Hp} {Q : VK} (h : td σ H fun x H1 => ∃ a, x = .ref a ∧ IsD H1 a ∧ ty σ H1 fun y H2 => ∃ kvs k v, H2 a = some (.dK kvs) ∧ y = kV k ∧ valV kvs k = some v ∧ Q v (upd H2 a (.dK (dropK kvs k)))) : tDPop1 td ty σ H Q := h
end Bk

set_option Elab.async false
set_option linter.all false
set_option maxRecDepth 100000
set_option maxHeartbeats 2000000
namespace Bk
open PySem PySem.Spec PyProof.Rows L2
/-! ### texts in order -/
theorem rising_pw : ∀ (p : Str) (l : List Str), risingS p l = true → (p :: l).Pairwise fun a b => a.cps.toList ≤ b.cps.toList
  | p, [], _ => List.pairwise_singleton _ _
  | p, x :: r, h => by
    have h : (!ltCps x.cps.toList p.cps.toList && risingS x r) = true := h
    rw [Bool.and_eq_true, Bool.not_eq_true', ltCps_eq, decide_eq_false_iff_not] at h
    have ih := rising_pw x r h.2
    have px : p.cps.toList ≤ x.cps.toList := h.1
    refine List.pairwise_cons.mpr ⟨fun b hb => ?_, ih⟩
    rcases List.mem_cons.mp hb with rfl | hb
    · exact px
    · exact List.le_trans px (List.rel_of_pairwise_cons ih hb)
theorem sorted_pw {l : List Str} (h : sortedS l = true) : l.Pairwise fun a b => a.cps.toList ≤ b.cps.toList := by
  cases l with
  | nil => exact .nil
  | cons x r => exact rising_pw x r h
theorem str_ext {a b : Str} (h : a.cps.toList = b.cps.toList) : a = b := by
  obtain ⟨x⟩ := a
  obtain ⟨y⟩ := b
  have : x = y := Array.ext' h
  rw [this]
theorem sorted_one {xs ys : List Str} (p : xs.Perm ys) (hx : sortedS xs = true) (hy : sortedS ys = true) : xs = ys :=
  List.Perm.eq_of_pairwise (fun a b _ _ h1 h2 => str_ext (List.le_antisymm h1 h2)) (sorted_pw hx) (sorted_pw hy) p
/-- two lists of unlike words: the same words -/
theorem nodup_perm {xs ys : List Str} (nx : xs.Nodup) (ny : ys.Nodup) (hl : xs.length = ys.length) (h : ∀ y ∈ ys, y ∈ xs) : xs.Perm ys := by
  refine (List.perm_ext_iff_of_nodup nx ny).mpr fun a => ⟨fun ha => ?_, h a⟩
  refine Decidable.byContradiction fun hn => ?_
  have n2 : (a :: ys).Nodup := List.nodup_cons.mpr ⟨hn, ny⟩
  have := List.Nodup.length_le_of_subset n2 (l₂ := xs) (fun b hb => by
    rcases List.mem_cons.mp hb with rfl | hb
    · exact ha
    · exact h b hb)
  rw [List.length_cons] at this
  omega
theorem eqv_strs : ∀ xs ys : List Str, PyData.eqv (.list (xs.map PyData.str)) (.list (ys.map PyData.str)) = decide (xs = ys)
  | [], [] => rfl
  | [], y :: ys => rfl
  | x :: xs, [] => rfl
  | x :: xs, y :: ys => by
    have ih : PyData.eqvAll (xs.map PyData.str) (ys.map PyData.str) = decide (xs = ys) := eqv_strs xs ys
    show ((x == y) && PyData.eqvAll (xs.map PyData.str) (ys.map PyData.str)) = _
    rw [ih]
    by_cases c : x = y
    · subst c
      simp
    · have e : (x == y) = false := by rw [beq_eq_false_iff_ne]; exact c
      rw [e, Bool.false_and, decide_eq_false (fun z => c (List.cons.inj z).1)]
theorem inV_intL {b : Int} {ns : List Int} : inV (.int b) (ns.map V.int) = decide (b ∈ ns) := by
  unfold inV
  rw [List.any_map, Bool.eq_iff_iff, List.any_eq_true, decide_eq_true_eq]
  constructor
  · rintro ⟨x, hx, e⟩
    have e' : (x == b) = true := by
      first
        | exact e
        | (have z : (b == x) = true := e; simpa [eq_comm] using z)
    rw [← eq_of_beq e']
    exact hx
  · intro h
    exact ⟨b, h, by show (b == b) = true; simp⟩
theorem inV_strL {b : Str} {ns : List Str} : inV (.str b) (ns.map V.str) = decide (b ∈ ns) := by
  unfold inV
  rw [List.any_map, Bool.eq_iff_iff, List.any_eq_true, decide_eq_true_eq]
  constructor
  · rintro ⟨x, hx, e⟩
    have e' : (x == b) = true := by
      first
        | exact e
        | (have z : (b == x) = true := e; simpa [eq_comm] using z)
    rw [← eq_of_beq e']
    exact hx
  · intro h
    exact ⟨b, h, by show (b == b) = true; simp⟩
end Bk

set_option Elab.async false
set_option linter.all false
set_option maxRecDepth 100000
namespace Bk
open PySem PySem.Spec PyProof.Rows L2
/-! ### == of nested lists, tuples and dicts -/
def EqRT (K : PySem.W.Frag) (H : Hp) (E : V → V → Prop) (x y : V) : Prop :=
  EqR K H E x y ∨ ∃ a b xs ys, x = .ref a ∧ y = .ref b ∧ SqT K H a xs ∧ SqT K H b ys ∧ Paired E xs ys
def EqVT (K : PySem.W.Frag) (H : Hp) : Nat → V → V → Prop
  | 0 => fun _ _ => False
  | n + 1 => fun x y => (x = y ∧ flatB x = true) ∨ (∃ a, x = .ref a ∧ y = .ref a) ∨ EqRT K H (EqVT K H n) x y
section
variable {X : Cx} {pins : List (Addr × Obj)} {σ : L2.St} {H : Hp} {s : Shared}
theorem eqRT_run (I : Inv X pins σ H s) {A : Around} {F : V → V → Prop} (hu : A.units < cLine) (ih : ∀ x y v u, F x y → RelV x v → RelV y u → SeqAt.EqP X.prog X.w A.in1 s v u true) {x y : V} {v u : Value} (h : EqRT X.K H F x y) (rx : RelV x v) (ry : RelV y u)
    (E Q : Value → Shared → Prop) (q : Q (.bool true) s) : wpAny (model X.prog X.w) A (richCompare .Eq v u) Q E s := by
  rcases h with h | ⟨a, b, xs, ys, rfl, rfl, ha, hb, hp⟩
  · exact eqR_run I hu ih h rx ry E Q q
  · cases (show v = Value.ref a from rx)
    cases (show u = Value.ref b from ry)
    obtain ⟨us, r1, p1, _⟩ := I.tuple ha
    obtain ⟨ws, r2, p2, _⟩ := I.tuple hb
    have hsz : us.toArray.size = ws.toArray.size := by
      rw [List.size_toArray, List.size_toArray, ← r1.length, ← r2.length]
      exact Paired.length hp
    refine SeqAt.rcIn_tuples (e := fun _ => true) p1 p2 hu (fun j h1 h2 => ?_) ?_
    · have k := items_run ih hp r1 r2 j (by simpa using h1) (by simpa using h2)
      have k' : SeqAt.EqIn X.prog X.w A.in1 s us[j] ws[j] true := k
      simpa using k'
    · rw [hsz]
      simp only [BEq.rfl, Bool.and_true]
      rw [show ((List.range (min ws.toArray.size ws.toArray.size)).all fun _ => true) = true from List.all_eq_true.mpr fun _ _ => rfl]
      exact q
theorem eqVT_run (I : Inv X pins σ H s) : ∀ (n : Nat) (A : Around), A.units + n < cLine → ∀ (x y : V) (v u : Value), EqVT X.K H n x y → RelV x v → RelV y u → SeqAt.EqP X.prog X.w A s v u true
  | 0, _, _, _, _, _, _, h, _, _ => (show False from h).elim
  | n + 1, A, hu, x, y, v, u, h, rx, ry => by
    rcases h with ⟨rfl, f⟩ | ⟨a, rfl, rfl⟩ | h
    · exact (eqAt_same rx ry f).eqP
    · cases (show v = Value.ref a from rx)
      cases (show u = Value.ref a from ry)
      exact (SeqAt.EqAt.same _).eqP
    · have step := eqRT_run I (A := A) (by omega) (eqVT_run I n A.in1 (by show A.units + 1 + n < cLine; omega)) h rx ry
      obtain ⟨a, b, rfl, rfl⟩ : ∃ a b, x = .ref a ∧ y = .ref b := by
        rcases h with (⟨a, b, _, _, e1, e2, _⟩ | ⟨a, b, _, _, e1, e2, _⟩) | ⟨a, b, _, _, e1, e2, _⟩
        · exact ⟨a, b, e1, e2⟩
        · exact ⟨a, b, e1, e2⟩
        · exact ⟨a, b, e1, e2⟩
      cases (show v = Value.ref a from rx)
      cases (show u = Value.ref b from ry)
      by_cases e : a = b
      · subst e
        exact (SeqAt.EqAt.same _).eqP
      · exact SeqAt.eqP_refs e step
end
section
variable {X : Cx}
/-- a == b, two lists, tuples or dicts that are equal -/
def rEqVT (K : PySem.W.Frag) : R2 := fun x y H Q => ∃ n, n ≤ 60 ∧ EqRT K H (EqVT K H n) x y ∧ Q (.bl true) H
theorem op_eqVT (hu : X.A.units + 64 < cLine) : OpR X (compareOp .Eq) (rEqVT X.K) := by
  intro pins s σ H x y v u Q I rx ry h
  obtain ⟨n, hn, h, q⟩ := h
  exact eqRT_run I (A := X.A) (by omega) (eqVT_run I n X.A.in1 (by show X.A.units + 1 + n < cLine; omega)) h rx ry _ _ ⟨.bl true, H, I, rfl, q⟩
end
end Bk

set_option Elab.async false
set_option linter.all false
set_option maxRecDepth 100000
set_option maxHeartbeats 2000000
/-! ### != of two lists whose items are all equal -/
namespace PySem.SeqAt
open AutoSeq1 (wpAny_loadPart')
open MeetsSeq MeetsSeq2 MeetsSeq3 SeqRoads2
section
variable {P : Program} {w : World}
theorem bk_neLoop (l b : Addr) (xs ys : Array Value) (n m : Nat) (d1 d2 : Option Addr) (o1 o2 : Array (Option Value)) (hz : xs.size = ys.size) :
    ∀ k i : Nat, xs.size - i = k → MeetsIn P w (Builtin.«list.__eq__.loop» ⟨[.ref l, .ref b, rawInt i, rawInt 3], []⟩)
      (fun A R s => s.heap.get? l = some { cls := .type "list", dict := d1, data := .seq xs n, slots := o1 } ∧ s.heap.get? b = some { cls := .type "list", dict := d2, data := .seq ys m, slots := o2 } ∧
        (∀ j (h1 : j < xs.size) (h2 : j < ys.size), EqIn P w A.in1 s xs[j] ys[j] true) ∧ R (.ok (.ret (.bool false))) s) := by
  intro k
  induction k with
  | zero =>
    intro i hk A R s ⟨hl, hb, he, h⟩
    obtain ⟨hp, g, dd, tk, os⟩ := s
    wp_walk using wpAny_loadPart' hl, wpAny_loadPart' hb
    have i1 : xs[((i : Nat) : Int).toNat]? = none := by simp; omega
    have i2 : ys[((i : Nat) : Int).toNat]? = none := by simp; omega
    rw [i1, i2]
    wp_walk using wpAny_loadPart' hl, wpAny_loadPart' hb
    have e : (xs.size != ys.size) = false := by simp [hz]
    show R (.ok (.ret (.bool (xs.size != ys.size)))) _
    rw [e]
    exact h
  | succ k ih =>
    intro i hk A R s ⟨hl, hb, he, h⟩
    obtain ⟨hp, g, dd, tk, os⟩ := s
    wp_walk using wpAny_loadPart' hl, wpAny_loadPart' hb
    have l1 : i < xs.size := by omega
    have l2 : i < ys.size := by omega
    have i1 : xs[((i : Nat) : Int).toNat]? = some xs[i] := by simp [l1]
    have i2 : ys[((i : Nat) : Int).toNat]? = some ys[i] := by simp [l2]
    have c : ((i : Int) + 1) = ((i + 1 : Nat) : Int) := by push_cast; rfl
    rw [i1, i2]
    refine wpAny_bind (he i l1 l2 _ _ ?_)
    wp_walk
    rw [c]
    refine ⟨plainId_quiet plain_eq_loop _, codeAny_builtin entry_eq_loop ?_⟩
    rw [Around.under_plainId plain_eq_loop _]
    exact ih (i + 1) (by omega) A R _ ⟨hl, hb, he, h⟩
theorem bk_listNe (l b : Addr) (xs ys : Array Value) (n m : Nat) (d1 d2 : Option Addr) (o1 o2 : Array (Option Value)) (hz : xs.size = ys.size) :
    MeetsIn P w (Builtin.«list.__ne__» ⟨[.ref l, .ref b], []⟩)
      (fun A R s => s.heap.get? l = some { cls := .type "list", dict := d1, data := .seq xs n, slots := o1 } ∧ s.heap.get? b = some { cls := .type "list", dict := d2, data := .seq ys m, slots := o2 } ∧
        (∀ j (h1 : j < xs.size) (h2 : j < ys.size), EqIn P w A.in1 s xs[j] ys[j] true) ∧ R (.ok (.ret (.bool false))) s) := by
  intro A R s ⟨hl, hb, he, h⟩
  obtain ⟨hp, g, dd, tk, os⟩ := s
  have sub := AutoSeq1.sub_list_list
  have ne : ¬ (xs.size != ys.size) = true := by simp [hz]
  wp_walk using wpAny_loadPart' hl, wpAny_loadPart' hb
  refine ⟨plainId_quiet plain_eq_loop _, codeAny_builtin entry_eq_loop ?_⟩
  rw [Around.under_plainId plain_eq_loop _]
  exact bk_neLoop l b xs ys n m d1 d2 o1 o2 hz _ 0 rfl A R _ ⟨hl, hb, he, h⟩
theorem bk_neLists {A : Around} {s : Shared} {E Q : Value → Shared → Prop} {l b : Addr} {xs ys : Array Value} (hl : s.heap.IsList l xs) (hb : s.heap.IsList b ys) (hz : xs.size = ys.size) (hu : A.units < cLine)
    (he : ∀ j (h1 : j < xs.size) (h2 : j < ys.size), EqIn P w A.in1 s xs[j] ys[j] true) (h : Q (.bool false) s) : wpAny (model P w) A (richCompare .NotEq (.ref l) (.ref b)) Q E s := by
  obtain ⟨⟨c1, d1, a1, o1⟩, g1, e1, n, f1⟩ := id hl
  obtain ⟨⟨c2, d2, a2, o2⟩, g2, e2, m, f2⟩ := id hb
  simp only at e1 f1 e2 f2
  subst e1 f1 e2 f2
  exact wpAny_richCompare_same_room (T := "list") (op := .NotEq) ⟨_, g1, rfl⟩ ⟨_, g2, rfl⟩ F.slot_list_ne (call_meetsIn F.slot_list_ne ⟨_, g1, rfl⟩ F.entry_list_ne (F.args_list_ne_2 _ _) (bk_listNe l b xs ys n m d1 d2 o1 o2 hz)
    ⟨g1, g2, he, show Value.bool false ≠ Value.notImplemented ∧ Q (.bool false) s from ⟨(fun x => nomatch x), h⟩⟩) hu
end
end PySem.SeqAt
namespace Bk
open PySem PySem.Spec PyProof.Rows L2
section
variable {X : Cx}
/-- a != b, two lists whose items are equal -/
def rNeVT (K : PySem.W.Frag) : R2 := fun x y H Q => ∃ n a b xs ys, n ≤ 60 ∧ x = .ref a ∧ y = .ref b ∧ SqL K H a xs ∧ SqL K H b ys ∧ Paired (EqVT K H n) xs ys ∧ Q (.bl false) H
theorem op_neVT (hu : X.A.units + 64 < cLine) : OpR X (compareOp .NotEq) (rNeVT X.K) := by
  intro pins s σ H x y v u Q I rx ry h
  obtain ⟨n, a, b, xs, ys, hn, rfl, rfl, ha, hb, hp, q⟩ := h
  cases (show v = Value.ref a from rx)
  cases (show u = Value.ref b from ry)
  obtain ⟨us, r1, p1, _⟩ := I.list ha
  obtain ⟨ws, r2, p2, _⟩ := I.list hb
  have hsz : us.toArray.size = ws.toArray.size := by
    rw [List.size_toArray, List.size_toArray, ← r1.length, ← r2.length]
    exact Paired.length hp
  refine SeqAt.bk_neLists (P := X.prog) (w := X.w) p1.isList p2.isList hsz (by omega) (fun j h1 h2 => ?_) ⟨.bl false, H, I, rfl, q⟩
  have ih : ∀ x y v u, EqVT X.K H n x y → RelV x v → RelV y u → SeqAt.EqP X.prog X.w X.A.in1 s v u true := eqVT_run I n X.A.in1 (by show X.A.units + 1 + n < cLine; omega)
  have k := items_run ih hp r1 r2 j (by simpa using h1) (by simpa using h2)
  have k' : SeqAt.EqIn X.prog X.w X.A.in1 s us[j] ws[j] true := k
  simpa using k'
/-! ### x *= e, ints -/
def ipMul : TIp := fun x y H Q => ∃ i j, x = .int i ∧ y = .int j ∧ CMul i j ∧ Q (.int (i * j)) H
theorem ip_mul : PIp X .Mult ipMul := by
  intro pins s σ H x y v u Q I r1 r2 h
  obtain ⟨i, j, rfl, rfl, c, q⟩ := h
  obtain ⟨t, rfl⟩ := r1
  obtain ⟨t', rfl⟩ := r2
  exact imul_int ⟨.int _, H, I.tok _, ⟨_, rfl⟩, q⟩ c.ok
/-! ### a method that may raise, within a try -/
variable {CX : CXT} {k : Nat} {C f : Addr} {fd : FuncData} {ps : List Str} {sp : Sp} {E : L2.St → XK} {o : Expr} {m : Str} {apos pos : Pos} {ta : TE}
def tMethS (C : Addr) (m : Str) (sp : Sp) (E : L2.St → XK) (ta : TE) : TE := fun σ H Q => ta σ H fun x H1 => ∃ a dx fs, x = .ref a ∧ H1 a = some (.ins C dx fs) ∧ fs.lookup m = none ∧ sp [x] H1 Q (E σ)
theorem pe_meth0S {pl : Sem Bool} (he : PE X o ta) (c : Cls X.K C) (hm : Meth X.K C m f) (F : FnOk X.prog X.w X.K X.mg X.base CX k f fd ps sp) (hr : Room k X.A) (hb : Binds X.K fd ps []) (hx : ∀ σ, PassesAt CX X σ (E σ))
    (ht : eval (.Call (.Attribute o m apos) [] [] pos) X.env = (do
      let ov ← eval o X.env; standAt apos.atName; let (f, first) ← holding [ov] (getMethod ov m pl); callWith pos f first (backTo pos (starEach [] X.env)) (backToKw pos (keywordEach [] X.env))) := by rfl) :
    PE X (.Call (.Attribute o m apos) [] [] pos) (tMethS C m sp E ta) := by
  refine ⟨fun pins s σ H Q I h => ?_⟩
  refine PySem.W.methodCall_KW (pl := pl) (thn (he.run pins s σ H _ I h) fun u s1 hh => ?_) ht
  obtain ⟨x, H1, I1, rx, a, dx, fs, ex, ea, l, q⟩ := hh
  subst ex
  cases (show u = Value.ref a from rx)
  refine getmeth_ok I1 ea c hm l ?_
  exact PySem.W.callWith_K0 (first := [.ref a]) I1.kIn hm.kp (run_fnS (us := [.ref a]) (vs := [.ref a]) F hr hb (hx σ) I1 (.cons rfl .nil) q)
theorem g_methS {σ : L2.St} {H : Hp} {Q : VK} (h : ta σ H fun x H1 => ∃ a dx fs, x = .ref a ∧ H1 a = some (.ins C dx fs) ∧ fs.lookup m = none ∧ sp [x] H1 Q (E σ)) : tMethS C m sp E ta σ H Q := h
end
section
variable {σ : L2.St} {H : Hp} {Q : VK} {v : V}
theorem g_lockE {t : TE} (h : ∃ d u, H d = some u ∧ Mut (some u) ∧ ∀ od, t σ (upd H d (.frz od u)) fun v H' => H' d = some (.frz od u) ∧ Q v (upd H' d u)) : tLockE t σ H Q := h
theorem g_lc2 {wi : TI} {g : TG} {tt : TT} {wi1 : TI} {g1 : TG} {tt1 : TT} {te : TE} {vs vs1 : List Nat} (h : wi σ H fun J H1 => ∀ D, H1 D = none → ∃ W : Nat → Nat → Hp → Prop, (∃ m, W 0 m (upd H1 D (.lst []))) ∧ ∀ i m H, W i m H →
    (J.stop i H ∧ Q (.ref D) H) ∨ (J.go i H ∧ ∃ Nx : Hp → Prop, (∀ H', Nx H' → ∃ m', m' < m ∧ W (i + 1) m' H') ∧ ∀ x H', J.yld i H x H' → g x (wipe σ vs) H' fun σ2 H2 => wipe σ2 vs = wipe σ vs ∧ tt σ2 H2 fun b H3 =>
    if b = true then wi1 σ2 H3 fun J1 H4 => ∃ W1 : Nat → Nat → Hp → Prop, (∃ m, W1 0 m H4) ∧ ∀ j k H, W1 j k H →
      (J1.stop j H ∧ Nx H) ∨ (J1.go j H ∧ ∃ Nx1 : Hp → Prop, (∀ H', Nx1 H' → ∃ k', k' < k ∧ W1 (j + 1) k' H') ∧ ∀ x H', J1.yld j H x H' → g1 x (wipe σ2 vs1) H' fun σ3 H5 => wipe σ3 vs1 = wipe σ2 vs1 ∧ tt1 σ3 H5 fun b H6 =>
        if b = true then te σ3 H6 fun y H7 => ∃ acc, H7 D = some (.lst acc) ∧ acc.length < sizeLine ∧ Nx1 (upd H7 D (.lst (acc ++ [y]))) else Nx1 H6)
    else Nx H3)) : tLc2 wi g tt wi1 g1 tt1 te vs vs1 σ H Q := h
/-- the outer walk of a comprehension of two -/
theorem lc2_it {J : It} {n : Nat} {G : Hp → Prop} {Y : Nat → Hp → V → Hp → Prop} (w : Walk J n G Y) {H1 : Hp} {D : Addr} {Qd : Hp → Prop} {B : (Hp → Prop) → V → Hp → Prop} (Pv : Nat → Hp → Prop) (h0 : Pv 0 (upd H1 D (.lst []))) (hG : ∀ i H, i ≤ n → Pv i H → G H)
    (hs : ∀ i x H H', i < n → Pv i H → Y i H x H' → B (Pv (i + 1)) x H') (hd : ∀ H, Pv n H → Qd H) :
    ∃ W : Nat → Nat → Hp → Prop, (∃ m, W 0 m (upd H1 D (.lst []))) ∧ ∀ i m H, W i m H →
      (J.stop i H ∧ Qd H) ∨ (J.go i H ∧ ∃ Nx : Hp → Prop, (∀ H', Nx H' → ∃ m', m' < m ∧ W (i + 1) m' H') ∧ ∀ x H', J.yld i H x H' → B Nx x H') := by
  refine ⟨fun i m H => m = n - i ∧ (i ≤ n ∧ Pv i H), ⟨n - 0, rfl, Nat.zero_le _, h0⟩, fun i m H ⟨em, le, pv⟩ => ?_⟩
  have gg := hG i H le pv
  rcases Nat.lt_or_ge i n with lt | ge
  · exact .inr ⟨w.goes i H lt gg, Pv (i + 1), fun G' p' => ⟨n - (i + 1), by omega, rfl, lt, p'⟩, fun x G' y => hs i x H G' lt pv (w.yields i H x G' lt gg y)⟩
  · have e : i = n := Nat.le_antisymm le ge
    subst e
    exact .inl ⟨w.stops H gg, hd H pv⟩
/-- the inner walk -/
theorem lc2_in {J : It} {n : Nat} {G : Hp → Prop} {Y : Nat → Hp → V → Hp → Prop} (w : Walk J n G Y) {H1 : Hp} {Qd : Hp → Prop} {B : (Hp → Prop) → V → Hp → Prop} (Pv : Nat → Hp → Prop) (h0 : Pv 0 H1) (hG : ∀ i H, i ≤ n → Pv i H → G H)
    (hs : ∀ i x H H', i < n → Pv i H → Y i H x H' → B (Pv (i + 1)) x H') (hd : ∀ H, Pv n H → Qd H) :
    ∃ W : Nat → Nat → Hp → Prop, (∃ m, W 0 m H1) ∧ ∀ i m H, W i m H →
      (J.stop i H ∧ Qd H) ∨ (J.go i H ∧ ∃ Nx : Hp → Prop, (∀ H', Nx H' → ∃ m', m' < m ∧ W (i + 1) m' H') ∧ ∀ x H', J.yld i H x H' → B Nx x H') := by
  refine ⟨fun i m H => m = n - i ∧ (i ≤ n ∧ Pv i H), ⟨n - 0, rfl, Nat.zero_le _, h0⟩, fun i m H ⟨em, le, pv⟩ => ?_⟩
  have gg := hG i H le pv
  rcases Nat.lt_or_ge i n with lt | ge
  · exact .inr ⟨w.goes i H lt gg, Pv (i + 1), fun G' p' => ⟨n - (i + 1), by omega, rfl, lt, p'⟩, fun x G' y => hs i x H G' lt pv (w.yields i H x G' lt gg y)⟩
  · have e : i = n := Nat.le_antisymm le ge
    subst e
    exact .inl ⟨w.stops H gg, hd H pv⟩
end
end Bk
namespace Bk
open PySem PySem.Spec PyProof.Rows L2
section
variable {X : Cx}
/-- len of a list, a tuple or a dict -/
def rLenA (K : PySem.W.Frag) : List V → Hp → VK → Prop := fun xs H Q => (∃ p ys, xs = [.ref p] ∧ (SqL K H p ys ∨ SqT K H p ys) ∧ Q (.int ys.length) H) ∨ ∃ a kvs, xs = [V.ref a] ∧ H a = some (.dK kvs) ∧ Q (.int kvs.length) H
theorem call_lenA : CallR X (.builtin "len") (rLenA X.K) := by
  intro pins s σ H xs us Q I r h
  rcases h with h | h
  · exact call_len_seq pins s σ H xs us Q I r h
  · exact call_lenD pins s σ H xs us Q I r h
end
theorem use_isT {K : PySem.W.Frag} {H : Hp} {v : V} {t T : String} {b : Bool} {Q : VK} (ty : TyX K H v (.type t)) (hk : kitB t T = some b) (q : Q (.bl b) H) : rIsi K [v, .ty T] H Q := ⟨v, .ty T, _, _, b, rfl, .ty _, ty, kit_ty hk, q⟩
theorem ty_sql {K : PySem.W.Frag} {H : Hp} {a : Addr} {xs : List V} (h : SqL K H a xs) : TyX K H (.ref a) (.type "list") := by
  rcases h with (a | ⟨o, a⟩) | ⟨o, its, n, a, c, _⟩
  · exact .base (.lst a)
  · exact .base (.frz a)
  · exact .kList a c
theorem ty_sqt {K : PySem.W.Frag} {H : Hp} {a : Addr} {xs : List V} (h : SqT K H a xs) : TyX K H (.ref a) (.type "tuple") := by
  rcases h with (a | ⟨o, a⟩) | ⟨o, its, n, a, c, _⟩
  · exact .base (.tup a)
  · exact .fTuple a
  · exact .kTuple a c
end Bk

set_option Elab.async false
set_option linter.all false
set_option maxRecDepth 100000
set_option maxHeartbeats 2000000
namespace Bk
open PySem PySem.Spec PyProof.Rows L2
/-! ### zip of three lists -/
def Itz3 (K : PySem.W.Frag) (a b c : Addr) : It :=
  ⟨fun i H => ∃ (xs ys zs : List V) (x y z : V), (SqL K H a xs ∧ SqL K H b ys ∧ SqL K H c zs) ∧ xs[i]? = some x ∧ ys[i]? = some y ∧ zs[i]? = some z,
   fun i H v G => ∃ (T : Addr) (x y z : V), v = .ref T ∧ H T = none ∧ G = upd H T (.tup [x, y, z]) ∧ (∀ xs, SqL K H a xs → xs[i]? = some x) ∧ (∀ ys, SqL K H b ys → ys[i]? = some y) ∧ ∀ zs, SqL K H c zs → zs[i]? = some z,
   fun i H => ∃ xs ys zs : List V, (SqL K H a xs ∧ SqL K H b ys ∧ SqL K H c zs) ∧ i = min (min xs.length ys.length) zs.length⟩
/-- a new triple of the i-th items -/
def YTrip (xs ys zs : List V) : Nat → Hp → V → Hp → Prop := fun i H v G => ∃ T x y z, v = .ref T ∧ H T = none ∧ G = upd H T (.tup [x, y, z]) ∧ xs[i]? = some x ∧ ys[i]? = some y ∧ zs[i]? = some z
theorem walk_zip3 {K : PySem.W.Frag} {a b c : Addr} {xs ys zs : List V} {n : Nat} (hn : n = min (min xs.length ys.length) zs.length) : Walk (Itz3 K a b c) n (fun H => SqL K H a xs ∧ SqL K H b ys ∧ SqL K H c zs) (YTrip xs ys zs) := by
  subst hn
  refine ⟨fun i H hi q => ?_, fun H q => ⟨xs, ys, zs, q, rfl⟩, fun i H v G _ q y => ?_⟩
  · have h1 : i < xs.length := by omega
    have h2 : i < ys.length := by omega
    have h3 : i < zs.length := by omega
    exact ⟨xs, ys, zs, xs[i], ys[i], zs[i], q, List.getElem?_eq_getElem h1, List.getElem?_eq_getElem h2, List.getElem?_eq_getElem h3⟩
  · obtain ⟨T, x, u, z, h1, h2, h3, h4, h5, h6⟩ := y
    exact ⟨T, x, u, z, h1, h2, h3, h4 xs q.1, h5 ys q.2.1, h6 zs q.2.2⟩
theorem turn_zip3 {P : Program} {w : World} {K : PySem.W.Frag} {es : List Expr} {kk : Nat} {tp : Pos} {a b c z TI TO i1 i2 i3 : Addr} (S : ZipSep3 z TI TO i1 i2 i3 [i1, a] [i2, b] [i3, c]) :
    Turn P w K (.Tuple es kk tp) (Itz3 K a b c) [z, TI, TO, i1, i2, i3] z (fun i h => (IsZip h z TI TO .none ∧ IsTupOf3 h TI (.ref i1) (.ref i2) (.ref i3) ∧ ∃ x y u, IsTupOf3 h TO x y u) ∧ h.IsListIter i1 a i ∧ h.IsListIter i2 b i ∧ h.IsListIter i3 c i) where
  mem := List.mem_cons_self
  obj := fun i h ⟨⟨e1, e2, x, y, u, e3⟩, e4, e5, e6⟩ d hd => by
    simp only [List.mem_cons, List.not_mem_nil, or_false] at hd
    rcases hd with rfl | rfl | rfl | rfl | rfl | rfl
    · exact ⟨_, e1, fun v q => nomatch q⟩
    · exact ⟨_, e2, fun v q => nomatch q⟩
    · exact ⟨_, e3, fun v q => nomatch q⟩
    · exact (feed_list _ a #[]).has e4
    · exact (feed_list _ b #[]).has e5
    · exact (feed_list _ c #[]).has e6
  keep := fun i h g ⟨⟨e1, e2, x, y, u, e3⟩, e4, e5, e6⟩ k => ⟨⟨k z (by simp) _ e1, k TI (by simp) _ e2, x, y, u, k TO (by simp) _ e3⟩, e4.at fun o e => k i1 (by simp) o e, e5.at fun o e => k i2 (by simp) o e, e6.at fun o e => k i3 (by simp) o e⟩
  item := by
    intro X eP ew eK calm i pins s σ H E I hf st go
    subst eP ew eK
    obtain ⟨⟨e1, e2, x0, y0, u0, e3⟩, e4, e5, e6⟩ := st
    obtain ⟨xs, ys, zs, x, y, v, ⟨qx, qy, qz⟩, hx, hy, hz⟩ := go
    obtain ⟨us, ru, pu, _⟩ := I.list qx
    obtain ⟨vs, rv, pv, _⟩ := I.list qy
    obtain ⟨ws, rw', pw, _⟩ := I.list qz
    have zl : z < s.heap.objs.size := Heap.lt_size e1
    have n1 := ru.length
    have n2 := rv.length
    have n3 := rw'.length
    have l1 := (List.getElem?_eq_some_iff.mp hx).1
    have l2 := (List.getElem?_eq_some_iff.mp hy).1
    have l3 := (List.getElem?_eq_some_iff.mp hz).1
    have hh := I.ok.hd calm
    have ne1 : a ≠ i1 := fun e => by subst e; obtain ⟨o, g1, g2⟩ := e4; obtain ⟨o2, g3, g4⟩ := pu.isList; rw [g1] at g3; cases g3; rw [g2.1] at g4; exact absurd (Value.type.inj g4.1) (by decide)
    have ne2 : b ≠ i2 := fun e => by subst e; obtain ⟨o, g1, g2⟩ := e5; obtain ⟨o2, g3, g4⟩ := pv.isList; rw [g1] at g3; cases g3; rw [g2.1] at g4; exact absurd (Value.type.inj g4.1) (by decide)
    have ne3 : c ≠ i3 := fun e => by subst e; obtain ⟨o, g1, g2⟩ := e6; obtain ⟨o2, g3, g4⟩ := pw.isList; rw [g1] at g3; cases g3; rw [g2.1] at g4; exact absurd (Value.type.inj g4.1) (by decide)
    refine wpAny_pyNext_zipD3_item S (Draws.list (A := X.A.in1) hh i1 a ne1 us.toArray) (Draws.list (A := X.A.in1) hh i2 b ne2 vs.toArray) (Draws.list (A := X.A.in1) hh i3 c ne3 ws.toArray) e1 e2 e3 ⟨e4, pu.isList⟩ ⟨e5, pv.isList⟩ ⟨e6, pw.isList⟩ (by simp; omega) (by simp; omega) (by simp; omega)
      fun x1 x2 x3 g tk y1 y2 y3 z' o' a' b' c' T' n' k' => ⟨_, rfl, ?_⟩
    refine wpAny_letOwnedTupleGo_zip (s := { s with heap := g, toks := tk }) z' fun g2 z2 same => ?_
    have T2 : g2.get? s.heap.objs.size = some { cls := .type "tuple", data := .seq #[x1, x2, x3] } := (same.2 _ (Nat.ne_of_gt zl)).trans T'
    obtain ⟨u1, hu1, xu⟩ := ru.get hx
    obtain ⟨u2, hu2, yu⟩ := rv.get hy
    obtain ⟨u3, hu3, zu⟩ := rw'.get hz
    have y1 : us[i]? = some x1 := by simpa using y1
    have y2 : vs[i]? = some x2 := by simpa using y2
    have y3 : ws[i]? = some x3 := by simpa using y3
    cases Option.some.inj (hu1.symm.trans y1)
    cases Option.some.inj (hu2.symm.trans y2)
    cases Option.some.inj (hu3.symm.trans y3)
    have J : Inv X pins σ (upd H s.heap.objs.size (.tup [x, y, v])) { s with heap := g2, toks := tk } :=
      I.turnedNew (t' := tk) (ch := [z, TI, TO, i1, i2, i3]) (fun d o hb q => (same.2 d (fun e => hb (by simp [e]))).trans (k' d o (fun e => hb (by simp [e])) (fun e => hb (by simp [e])) (fun e => hb (by simp [e])) (fun e => hb (by simp [e])) (fun e => hb (by simp [e])) q)) hf (Nat.le_refl _)
        ⟨by show 3 ≤ sizeLine; decide, [x1, x2, x3], .cons xu (.cons yu (.cons zu .nil)), ⟨_, T2, rfl, _, rfl⟩⟩
    refine ⟨.ref s.heap.objs.size, _, J, rfl, ⟨_, x, y, v, rfl, I.hok.fresh (Nat.le_refl _), rfl, fun l hl => by rw [I.list_inj hl qx]; exact hx, fun l hl => by rw [I.list_inj hl qy]; exact hy, fun l hl => by rw [I.list_inj hl qz]; exact hz⟩, ?_, fun d hd => ?_⟩
    · exact ⟨⟨z2, (same.2 _ S.TIz).trans (k' _ _ S.TIz S.TITO S.TIi1 S.TIi2 S.TIi3 e2), _, _, _, (same.2 _ S.TOz).trans o'⟩, a'.1.at fun o e => (same.2 _ (fun e => S.zf1 (by simp [e]))).trans e, b'.1.at fun o e => (same.2 _ (fun e => S.zf2 (by simp [e]))).trans e, c'.1.at fun o e => (same.2 _ (fun e => S.zf3 (by simp [e]))).trans e⟩
    · have lt : d < s.heap.objs.size := by
        simp only [List.mem_cons, List.not_mem_nil, or_false] at hd
        rcases hd with rfl | rfl | rfl | rfl | rfl | rfl
        · exact zl
        · exact Heap.lt_size e2
        · exact Heap.lt_size e3
        · exact Heap.lt_size e4.choose_spec.1
        · exact Heap.lt_size e5.choose_spec.1
        · exact Heap.lt_size e6.choose_spec.1
      rw [upd_ne (Nat.ne_of_lt lt)]
      exact (hf d hd).1
  done := by
    intro X eP ew eK calm i pins s σ H E I hf st go
    subst eP ew eK
    obtain ⟨⟨e1, e2, x0, y0, u0, e3⟩, e4, e5, e6⟩ := st
    obtain ⟨xs, ys, zs, ⟨qx, qy, qz⟩, hi⟩ := go
    obtain ⟨us, ru, pu, _⟩ := I.list qx
    obtain ⟨vs, rv, pv, _⟩ := I.list qy
    obtain ⟨ws, rw', pw, _⟩ := I.list qz
    have n1 := ru.length
    have n2 := rv.length
    have n3 := rw'.length
    have hh := I.ok.hd calm
    have ne1 : a ≠ i1 := fun e => by subst e; obtain ⟨o, g1, g2⟩ := e4; obtain ⟨o2, g3, g4⟩ := pu.isList; rw [g1] at g3; cases g3; rw [g2.1] at g4; exact absurd (Value.type.inj g4.1) (by decide)
    have ne2 : b ≠ i2 := fun e => by subst e; obtain ⟨o, g1, g2⟩ := e5; obtain ⟨o2, g3, g4⟩ := pv.isList; rw [g1] at g3; cases g3; rw [g2.1] at g4; exact absurd (Value.type.inj g4.1) (by decide)
    have ne3 : c ≠ i3 := fun e => by subst e; obtain ⟨o, g1, g2⟩ := e6; obtain ⟨o2, g3, g4⟩ := pw.isList; rw [g1] at g3; cases g3; rw [g2.1] at g4; exact absurd (Value.type.inj g4.1) (by decide)
    refine wpAny_pyNext_zipD3_end S (Draws.list (A := X.A.in1) hh i1 a ne1 us.toArray) (Draws.list (A := X.A.in1) hh i2 b ne2 vs.toArray) (Draws.list (A := X.A.in1) hh i3 c ne3 ws.toArray) e1 e2 e3 ⟨e4, pu.isList⟩ ⟨e5, pv.isList⟩ ⟨e6, pw.isList⟩ (by simp; omega) (by simp; omega) (by simp; omega) (by simp; omega)
      fun g tk k' => ⟨rfl, I.turnedL (t' := tk) (ch := [z, TI, TO, i1, i2, i3]) (fun d o hb q => k' d o (fun e => hb (by simp [e])) (fun e => hb (by simp [e])) (fun e => hb (by simp [e])) (fun e => hb (by simp [e])) (fun e => hb (by simp [e])) q) hf⟩
  self := fun A i s Q E st h => wpAny_pyIter_zip st.1.1 h
def iZip3 (K : PySem.W.Frag) (ta : TA) : TI := fun σ H R => ta σ H fun vs H1 => ∃ (a b c : Addr) (xs ys zs : List V), vs = [.ref a, .ref b, .ref c] ∧ (SqL K H1 a xs ∧ SqL K H1 b ys ∧ SqL K H1 c zs) ∧ R (Itz3 K a b c) H1
theorem g_zip3 {K : PySem.W.Frag} {ta : TA} {σ : L2.St} {H : Hp} {R : It → Hp → Prop} (h : ta σ H fun vs H1 => ∃ (a b c : Addr) (xs ys zs : List V), vs = [.ref a, .ref b, .ref c] ∧ (SqL K H1 a xs ∧ SqL K H1 b ys ∧ SqL K H1 c zs) ∧ R (Itz3 K a b c) H1) : iZip3 K ta σ H R := h
theorem ne_addr {x y : Nat} (h : x ≠ y) : @Ne Addr x y := h
theorem no_addr {x y d : Nat} (h1 : x ≠ y) (h2 : x ≠ d) : ¬ @Membership.mem Addr (List Addr) _ [y, d] x := fun z => by
  rcases List.mem_cons.mp z with z | z
  · exact h1 z
  · exact h2 (List.mem_singleton.mp z)
theorem zip_sep3 {n a b c : Nat} (la : a < n) (lb : b < n) (lc : c < n) : ZipSep3 (n + 5) (n + 3) (n + 4) n (n + 1) (n + 2) [n, a] [n + 1, b] [n + 2, c] :=
  ⟨ne_addr (by omega), ne_addr (by omega), ne_addr (by omega), ne_addr (by omega), List.mem_cons_self, no_addr (by omega) (by omega), no_addr (by omega) (by omega), ne_addr (by omega), List.mem_cons_self, no_addr (by omega) (by omega), no_addr (by omega) (by omega),
    ne_addr (by omega), List.mem_cons_self, no_addr (by omega) (by omega), no_addr (by omega) (by omega), no_addr (by omega) (by omega), no_addr (by omega) (by omega), no_addr (by omega) (by omega), no_addr (by omega) (by omega), no_addr (by omega) (by omega), no_addr (by omega) (by omega)⟩
theorem pi_zip3 {X : Cx} {e e2 e3 : Expr} {ta : TA} {p pos tp : Pos} {es : List Expr} {kk : Nat} (hg : Gl X "zip") (hm : X.mg "zip" = none) (ha : PA X [e, e2, e3] ta)
    (hs : starEach [e, e2, e3] X.env = (false, eval e X.env) :: starEach [e2, e3] X.env := by rfl) (hpl : (backTo pos (starEach [e2, e3] X.env)).any (·.1) = false := by rfl) : PI X (.Tuple es kk tp) (.Call (.Name "zip" p) [e, e2, e3] [] pos) (iZip3 X.K ta) := by
  refine ⟨fun pins s σ H R I h => Call_ (ld_blt I hg hm PyProof.Rows.boot_zip (PyProof.Rows.callWith_type1 (thn (ha.run pos pins s σ H _ I h) fun us s1 ⟨vs, H1, I1, r1, a, b, c, xs, ys, zs, ev, ⟨qx, qy, qz⟩, q⟩ => ?_) hs hpl))⟩
  subst ev
  cases r1 with
  | cons ra rr =>
  cases rr with
  | cons rb rr =>
  cases rr with
  | cons rc rr =>
  cases rr
  cases ra
  cases rb
  cases rc
  obtain ⟨us, ru, pu, _⟩ := I1.list qx
  obtain ⟨vs, rv, pv, _⟩ := I1.list qy
  obtain ⟨ws, rw', pw, _⟩ := I1.list qz
  have la := pu.lt
  have lb := pv.lt
  have lc := pw.lt
  have fresh : ∀ d, d ∈ [s1.heap.objs.size + 5, s1.heap.objs.size + 3, s1.heap.objs.size + 4, s1.heap.objs.size, s1.heap.objs.size + 1, s1.heap.objs.size + 2] → FpOk X pins H1 d := fun d hd => by
    have le : s1.heap.objs.size ≤ d := by
      simp only [List.mem_cons, List.not_mem_nil, or_false] at hd
      omega
    exact I1.fpOk le (I1.hok.fresh le)
  have S := zip_sep3 (n := s1.heap.objs.size) la lb lc
  refine zip_begins3 (begins_list a us.toArray) (begins_list b vs.toArray) (begins_list c ws.toArray) pu.isList pv.isList pw.isList fun g z' t' o' a' b' c' n' k' => wpAny_pyIter_zip z' ?_
  exact ⟨s1.heap.objs.size + 5, _, _, _, H1, rfl, I1.kept (t' := s1.toks) k', turn_zip3 S, ⟨⟨z', t', _, _, _, o'⟩, ⟨_, a', rfl, rfl⟩, ⟨_, b', rfl, rfl⟩, ⟨_, c', rfl, rfl⟩⟩, fresh, q⟩
end Bk
namespace Bk
open PySem PySem.Spec PyProof.Rows L2
/-! ### a pair of whole numbers of the module -/
def pairIs : List Value → Int → Int → Bool
  | [.int a _, .int b _], i, j => decide (a = i) && decide (b = j)
  | _, _, _ => false
def pairOk (K : PySem.W.Frag) (a : Addr) (i j : Int) : Bool := match K.lookup a with
  | some ⟨.type c, _, .seq its _, _⟩ => decide (c = "tuple") && pairIs its.toList i j
  | _ => false
theorem pairOk_sq {K : PySem.W.Frag} {a : Addr} {i j : Int} (h : pairOk K a i j = true) (H : Hp) : SqT K H a [.int i, .int j] := by
  unfold pairOk at h
  split at h
  · rename_i c dd its n sl e
    rw [Bool.and_eq_true, decide_eq_true_eq] at h
    obtain ⟨h1, h2⟩ := h
    subst h1
    unfold pairIs at h2
    split at h2
    · rename_i x t y u ei
      rw [Bool.and_eq_true, decide_eq_true_eq, decide_eq_true_eq] at h2
      obtain ⟨rfl, rfl⟩ := h2
      refine .inr ⟨_, its, n, e, rfl, rfl, ?_, ?_⟩
      · have : its.size = 2 := by rw [← Array.length_toList, ei]; rfl
        rw [this]
        decide
      · rw [ei]
        exact .cons ⟨_, rfl⟩ (.cons ⟨_, rfl⟩ .nil)
    · cases h2
  · cases h
structure PairC (K : PySem.W.Frag) (mg : Str → Option Value) (n : Str) (i j : Int) (d : Addr) : Prop where
  g : mg n = some (.ref d)
  ok : pairOk K d i j = true
theorem PairC.sq {K : PySem.W.Frag} {mg : Str → Option Value} {n : Str} {i j : Int} {d : Addr} (T : PairC K mg n i j d) (H : Hp) : SqT K H d [.int i, .int j] := pairOk_sq T.ok H
end Bk
namespace Bk
open PySem PySem.Spec PyProof.Rows L2
theorem cr_sumK {X : Cx} {K : PySem.W.Frag} (h : X.K = K) (hc : X.calm = true) : CallR X (.builtin "sum") (rSum K) := by
  subst h
  exact cr_sum hc
theorem cr_minK2 {X : Cx} {K : PySem.W.Frag} (h : X.K = K) (hc : X.calm = true) : CallR X (.builtin "min") (rMin K) := by
  subst h
  exact cr_min hc
theorem cr_maxK2 {X : Cx} {K : PySem.W.Frag} (h : X.K = K) (hc : X.calm = true) : CallR X (.builtin "max") (rMax K) := by
  subst h
  exact cr_max hc
theorem call_lenK {X : Cx} {K : PySem.W.Frag} (h : X.K = K) : CallR X (.builtin "len") (fun xs H Q => ∃ p ys, xs = [.ref p] ∧ (SqL K H p ys ∨ SqT K H p ys) ∧ Q (.int ys.length) H) := by
  subst h
  exact call_len_seq
end Bk

set_option Elab.async false
set_option linter.all false
set_option maxRecDepth 100000
set_option maxHeartbeats 2000000
/-! sorted of a list of tuples of ints and texts -/
namespace Bk
open PySem PySem.Spec PyProof.Rows L2
abbrev Itm := Int ⊕ List Nat
def kItm : Key → Itm
  | .inl i => .inl i
  | .inr x => .inr x.cps.toList
def isS : Key → Bool
  | .inl _ => false
  | .inr _ => true
def kk (ks : List Key) : List Itm := ks.map kItm
/-- one row before another: item by item -/
def ltK (a b : List Key) : Bool := PyProof.Rows.lexLt itemOrd (kk a) (kk b)
theorem ltK_irr (a : List Key) : ltK a a = false := lex_irrefl (O := itemOrd) _
theorem ltK_tr {a b c : List Key} (h1 : ltK a b = true) (h2 : ltK b c = true) : ltK a c = true := lex_trans (O := itemOrd) _ _ _ h1 h2
theorem ltK_neg {a b c : List Key} (h : ltK a c = true) : ltK a b = true ∨ ltK b c = true := lex_negTrans (O := itemOrd) _ _ _ h
theorem kItm_inj {a b : Key} (h : kItm a = kItm b) : a = b := by
  cases a <;> cases b
  · exact congrArg _ (Sum.inl.inj h)
  · cases h
  · cases h
  · rename_i x y
    obtain ⟨x⟩ := x
    obtain ⟨y⟩ := y
    have := Array.ext' (Sum.inr.inj h)
    rw [show x = y from this]
theorem kk_inj : ∀ {a b : List Key}, kk a = kk b → a = b
  | [], [], _ => rfl
  | [], _ :: _, h => by cases h
  | _ :: _, [], h => by cases h
  | x :: a, y :: b, h => by
    have h : kItm x :: kk a = kItm y :: kk b := h
    obtain ⟨h1, h2⟩ := List.cons.inj h
    rw [kItm_inj h1, kk_inj h2]
theorem ltK_total {a b : List Key} (h1 : ltK a b = false) (h2 : ltK b a = false) : a = b := kk_inj (lex_total (O := itemOrd) _ _ h1 h2)
theorem ltK_swo {α : Type} (k : α → List Key) : SrtO.Swo fun x y : α => ltK (k x) (k y) := by
  refine ⟨fun x y h => ?_, fun x y z h1 h2 => ?_⟩
  · cases e : ltK (k y) (k x)
    · rfl
    · have := ltK_tr h e
      rw [ltK_irr] at this
      cases this
  · cases e : ltK (k z) (k x)
    · rfl
    · rcases ltK_neg (b := k y) e with c | c
      · rw [h2] at c; cases c
      · rw [h1] at c; cases c
/-- an object that is a tuple of these -/
def IsRow (h : Heap) (v : Value) (ks : List Key) : Prop := ∃ a o n us, v = .ref a ∧ h.get? a = some o ∧ o.cls = .type "tuple" ∧ o.data = .seq us n ∧ Vals (ks.map kV) us.toList
theorem IsRow.keeps {h h' : Heap} {v : Value} {ks : List Key} (x : IsRow h v ks) (k : ∀ b o, h.get? b = some o → o.cls = .type "tuple" → h'.get? b = some o) : IsRow h' v ks := by
  obtain ⟨a, o, n, us, e, ho, hc, hd, hv⟩ := x
  exact ⟨a, o, n, us, e, k _ _ ho hc, hc, hd, hv⟩
theorem items_at {shape : Nat → Bool} : ∀ {ks : List Key} {us : List Value} (i : Nat), Vals (ks.map kV) us → (∀ j k, ks[j]? = some k → shape (i + j) = isS k) → tupItems shape i us = some (kk ks)
  | [], _, _, .nil, _ => rfl
  | .inl n :: ks, u :: us, i, .cons r t, h => by
    obtain ⟨tk, rfl⟩ := (r : RelV (.int n) u)
    have h0 : shape i = false := h 0 (.inl n) rfl
    have ih := items_at (i + 1) t fun j k hj => by
      have := h (j + 1) k hj
      rwa [show i + (j + 1) = i + 1 + j by omega] at this
    show (if shape i = true then none else (tupItems shape (i + 1) us).map (Sum.inl n :: ·)) = _
    rw [h0, if_neg Bool.false_ne_true, ih]
    rfl
  | .inr x :: ks, u :: us, i, .cons r t, h => by
    obtain ⟨tk, rfl⟩ := (r : RelV (.str x) u)
    have h0 : shape i = true := h 0 (.inr x) rfl
    have ih := items_at (i + 1) t fun j k hj => by
      have := h (j + 1) k hj
      rwa [show i + (j + 1) = i + 1 + j by omega] at this
    show (if shape i = true then (tupItems shape (i + 1) us).map (Sum.inr x.cps.toList :: ·) else none) = _
    rw [h0, if_pos rfl, ih]
    rfl
def shp (sh : List Bool) (i : Nat) : Bool := sh.getD i false
theorem shp_at {sh : List Bool} {ks : List Key} (e : ks.map isS = sh) : ∀ j k, ks[j]? = some k → shp sh (0 + j) = isS k := fun j k h => by
  unfold shp
  rw [Nat.zero_add, ← e, List.getD_eq_getElem?_getD, List.getElem?_map, h]
  rfl
theorem IsRow.key {h : Heap} {v : Value} {ks : List Key} {sh : List Bool} (x : IsRow h v ks) (e : ks.map isS = sh) : tupKey h (shp sh) v = some (kk ks) := by
  obtain ⟨a, o, n, us, rfl, ho, hc, hd, hv⟩ := x
  unfold tupKey
  simp only [ho, hd]
  exact items_at 0 hv (shp_at e)
theorem rows_tups {h : Heap} {k : Value → List Key} {sh : List Bool} (ne : sh ≠ []) : ∀ {vs : List Value}, (∀ v ∈ vs, IsRow h v (k v) ∧ (k v).map isS = sh) → ∃ fs, fs.length = vs.length ∧ TupsOf h (shp sh) vs fs
  | [], _ => ⟨[], rfl, .nil⟩
  | v :: vs, H => by
    obtain ⟨fs, hl, r⟩ := rows_tups ne fun u hu => H u (List.mem_cons_of_mem _ hu)
    obtain ⟨⟨a, o, n, us, e, ho, hc, hd, hv⟩, hs⟩ := H v List.mem_cons_self
    generalize hkv : k v = ks at hv hs
    cases ks with
    | nil => exact absurd hs.symm ne
    | cons x ks =>
      match hus : us.toList, hv with
      | u :: us', .cons r1 t =>
        have h0 : us[0]? = some u := by rw [← Array.getElem?_toList, hus]; rfl
        have hx := shp_at hs 0 x rfl
        refine ⟨u :: fs, by rw [List.length_cons, List.length_cons, hl], .cons ⟨a, o, us, n, e, ho, hc, hd, h0, fun z => ?_, fun z => ?_⟩ r⟩
        · have hx : shp sh 0 = isS x := hx
          rw [z] at hx
          cases x with
          | inl i => exact ⟨i, (r1 : RelV (.int i) u)⟩
          | inr y => cases hx
        · have hx : shp sh 0 = isS x := hx
          rw [z] at hx
          cases x with
          | inl i => cases hx
          | inr y => exact ⟨y, (r1 : RelV (.str y) u)⟩
section
variable {prog : Program} {w : World} {A : Around} {s : Shared} {E : Value → Shared → Prop}
theorem rows_cmp {vs : List Value} {k : Value → List Key} {sh : List Bool} (hp : ∀ v ∈ vs, IsRow s.heap v (k v) ∧ (k v).map isS = sh) : SrtO.Cmp prog w A s (tuples' true) (fun p => p.1 ∈ vs) (SrtO.lt2 fun v u => ltK (k v) (k u)) := by
  intro p q hm hm'
  obtain ⟨h1, e1⟩ := hp _ hm
  obtain ⟨h2, e2⟩ := hp _ hm'
  exact tup_ltAt (shape := shp sh) true A _ p.1 q.1 (kk (k p.1)) (kk (k q.1)) (h1.key e1) (h2.key e2) ⟨rfl, rfl⟩
theorem rows_sortable {a : Addr} {vs : List Value} {k : Value → List Key} {sh : List Bool} (ne : sh ≠ []) (h0 : 0 < vs.length) (hp : ∀ v ∈ vs, IsRow s.heap v (k v) ∧ (k v).map isS = sh) (ha : ∀ o, s.heap.get? a = some o → o.cls ≠ .type "tuple") : SrtO.SortableO prog w A s a vs fun v u => ltK (k v) (k u) := by
  intro h' keep
  have hp' : ∀ v ∈ vs, IsRow h' v (k v) ∧ (k v).map isS = sh := fun v hm => ⟨(hp v hm).1.keeps fun b o e c => keep b o (fun z => by subst z; exact ha o e c) e, (hp v hm).2⟩
  obtain ⟨fs, hl, ht⟩ := rows_tups ne hp'
  exact ⟨tuples' true, fun Q E hq => tup_kind (shape := shp sh) (by omega) ht hq, rows_cmp hp'⟩
theorem sorted_rows {l : Addr} {vs : List Value} {k : Value → List Key} {sh : List Bool} {Q : Value → Shared → Prop} (ne : sh ≠ []) (hl : s.heap.IsList l vs.toArray) (hz : vs.length ≤ sizeLine) (hp : ∀ v ∈ vs, IsRow s.heap v (k v) ∧ (k v).map isS = sh)
    (h : ∀ (h' : Heap) (d : Addr) (out : List Value), SrtO.Srtd (fun v u => ltK (k v) (k u)) out → SrtO.Stb (fun v u => ltK (k v) (k u)) out vs → (∀ b o, s.heap.get? b = some o → h'.get? b = some o) → s.heap.objs.size ≤ d → (∃ n, h'.get? d = some (seqObj "list" out.toArray n)) → Q (.ref d) { s with heap := h' }) :
    wpAny (model prog w) A (call (.builtin "sorted") [.ref l]) Q E s := by
  refine SrtO.sorted_ord (ltK_swo k) hl hz (fun h2 h₁ a ha kp => ?_) fun out hs hb => ?_
  · refine rows_sortable (s := { s with heap := h₁ }) ne (by omega) (fun v hm => ⟨(hp v hm).1.keeps fun b o e _ => (kp b o e).2, (hp v hm).2⟩) fun o e => ?_
    have e' : some o = some (seqObj "list" vs.toArray 0) := e.symm.trans ha
    cases e'
    intro c
    exact absurd (Value.type.inj c) (by decide)
  · exact h _ _ out hs hb (fun b o e => PyProof.Rows.sortedAll_old e) (Nat.le_succ _) (PyProof.Rows.sortedAll_at s.heap vs out.toArray)
end
/-- sorted(xs), xs a list of tuples of ints and texts, all of one shape: a new list, sorted, equal ones in their order -/
def rSortedF (K : PySem.W.Frag) : List V → Hp → VK → Prop := fun vs H Q => ∃ (a : Addr) (xs : List V) (k : V → List Key) (sh : List Bool), vs = [V.ref a] ∧ SqL K H a xs ∧ sh ≠ [] ∧ (∀ x ∈ xs, ∃ t, x = V.ref t ∧ H t = some (.tup ((k x).map kV)) ∧ (k x).map isS = sh) ∧
  ∀ ys p, SrtO.Srtd (fun x y => ltK (k x) (k y)) ys → SrtO.Stb (fun x y => ltK (k x) (k y)) ys xs → H p = none → Q (.ref p) (upd H p (.lst ys))
theorem cr_sortedF {X : Cx} : CallR X (.builtin "sorted") (rSortedF X.K) := by
  intro pins s σ H vs us Q I r h
  obtain ⟨a, xs, k, sh, rfl, hs, ne, hx, q⟩ := h
  obtain ⟨its, rv, hl, hz⟩ := I.list hs
  obtain ⟨u, rfl, ru⟩ := vals1 r
  obtain rfl : u = Value.ref a := ru
  obtain ⟨e1, e2⟩ := refs_back rv fun x m => by
    obtain ⟨t, e, _⟩ := hx x m
    exact ⟨t, e⟩
  refine sorted_rows (k := fun u => k (backV u)) ne hl.isList (by rw [← rv.length]; exact hz) (fun v hv => ?_) fun h' d out h1 h2 kp hd hn => ?_
  · obtain ⟨t, rfl⟩ := e2 v hv
    have hm : V.ref t ∈ xs := by rw [e1]; exact List.mem_map.mpr ⟨_, hv, rfl⟩
    obtain ⟨t', e, ht, hs⟩ := hx _ hm
    cases e
    obtain ⟨_, its2, r2, o, ho, hc, n, hd⟩ := I.hok _ _ ht
    exact ⟨⟨t, o, n, _, rfl, ho, hc, hd, by show Vals ((k (V.ref t)).map kV) _; simpa using r2⟩, hs⟩
  · have h3 : ∀ u ∈ out, ∃ a, u = Value.ref a := fun u hu => e2 u (h2.perm.mem_iff.mp hu)
    obtain ⟨n, hn⟩ := hn
    have hb : SrtO.Stb (fun x y => ltK (k x) (k y)) (out.map backV) xs := by
      rw [e1]
      exact SrtO.Stb.map (ltK_swo k) backV h2
    refine ⟨.ref d, upd H d (.lst (out.map backV)), I.laid (t' := s.toks) kp hd ⟨?_, out, n, vals_back h3, hn⟩, rfl, q _ d (SrtO.srtd_map h1) hb (I.hok.fresh hd)⟩
    rw [hb.len]
    exact hz
end Bk

set_option maxHeartbeats 4000000
namespace Bk
open PySem PySem.Spec PyProof.Rows L2
local macro_rules
  | `(tactic| walk_at "go") => `(tactic| repeat (first
      | with_reducible refine g_seq ?_
      | with_reducible refine g_next ?_
      | with_reducible refine g_asg ?_
      | with_reducible refine g_name ?_
      | with_reducible refine g_ret ?_
      | with_reducible refine g_drop ?_
      | with_reducible refine g_ifs ?_
      | with_reducible refine g_if ?_
      | with_reducible refine g_c ?_
      | ((with_reducible refine (?_ : tVar _ _ _ _)); refine ⟨_, rfl, ?_⟩)
      | with_reducible refine g_op ?_
      | with_reducible refine g_un ?_
      | with_reducible refine g_I0 ?_
      | with_reducible refine g_neg ?_
      | with_reducible refine g_eqI ?_
      | with_reducible refine g_eqS ?_
      | with_reducible refine g_neI ?_
      | with_reducible refine g_neS ?_
      | with_reducible refine g_eqB ?_
      | with_reducible refine g_neB ?_
      | with_reducible refine g_test ?_
      | with_reducible refine g_b ?_
      | with_reducible refine g_and ?_
      | with_reducible refine g_or ?_
      | with_reducible refine g_not ?_
      | with_reducible refine g_andV ?_
      | with_reducible refine g_orV ?_
      | with_reducible refine g_notV ?_
      | with_reducible refine iteT ?_
      | with_reducible refine iteF ?_
      | with_reducible refine iteNF ?_
      | with_reducible refine iteNT ?_
      | with_reducible refine ⟨_, rfl, ?_⟩
      | with_reducible refine ⟨rfl, ?_⟩
      | with_reducible refine ⟨_, _, rfl, rfl, ?_⟩
      | with_reducible refine ⟨_, _, rfl, ?_⟩
      | with_reducible refine g_call ?_
      | with_reducible refine g_cb ?_
      | with_reducible refine g_cons ?_
      | with_reducible refine g_nil ?_
      | with_reducible refine g_chain ?_
      | with_reducible refine g_dget ?_
      | with_reducible refine g_dput ?_
      | with_reducible refine g_tup ?_
      | with_reducible refine g_lst ?_
      | with_reducible refine g_bm ?_
      | with_reducible refine g_disp ?_
      | with_reducible refine g_pairs0 ?_
      | with_reducible refine g_pairs ?_
      | with_reducible refine g_for ?_
      | with_reducible refine g_gcons ?_
      | with_reducible refine g_gnil ?_
      | with_reducible refine g_rng1 ?_
      | with_reducible refine g_rng2 ?_
      | with_reducible refine g_ilist ?_
      | with_reducible refine g_itup ?_
      | with_reducible refine g_lc ?_
      | with_reducible refine g_yes ?_
      | with_reducible refine g_sl ?_
      | with_reducible refine g_nopart ?_
      | with_reducible refine g_part ?_
      | with_reducible refine g_bm0 ?_
      ))

local macro_rules
  | `(tactic| walk_at "ev") => `(tactic| repeat' (first
      | exact eva_nil
      | apply eva_cons
      | exact evd_str _
      | exact evd_int _
      | exact evd_bl _
      | exact evd_non
      | exact evd_var rfl
      | apply evd_tup
      | apply evd_lst
      | apply evd_I0
      | apply evd_I
      | apply evd_neg
      | exact Nat.le_of_ble_eq_true rfl
      | decide
      | exact ⟨by decide, by decide, by decide⟩))
def topS (i : Nat) : Stmt := PySem.Challenge.pw_contractbook_k24_whole_spans_hold.main.body.getD i (.Pass ⟨0, 0, 0, 0⟩)
/-! ### the law's own drawing: what stands in the dict of the script -/
structure Cfg where
  sz : Int
  pl : Int
  tu : Int
  ta : Int
structure Cfg.Ok (c : Cfg) : Prop where
  sz1 : 1 ≤ c.sz
  sz8 : c.sz ≤ 8
  pl0 : 0 ≤ c.pl
  plz : c.pl < c.sz
  tu0 : 0 ≤ c.tu
  tuz : c.tu < 26
  ta : c.ta = 0 ∨ c.ta = 1
def sd (c : Cfg) (na nm : Addr) (n re mx : Int) : List (Key × V) :=
  [(.inr "numbers", .ref na), (.inr "at", .int n), (.inr "size", .int c.sz), (.inr "place", .int c.pl), (.inr "turn", .int c.tu), (.inr "talk", .int c.ta), (.inr "rest", .int re), (.inr "names", .ref nm), (.inr "mixed", .int mx)]
structure LS (K : PySem.W.Frag) (c : Cfg) (ns : List Int) (xs : List Str) (s na nm : Addr) (H : Hp) : Prop where
  st : ∃ n re mx : Int, H s = some (.dK (sd c na nm n re mx)) ∧ 0 ≤ n ∧ 0 ≤ re ∧ 0 ≤ mx ∧ mx < 2147483647
  num : SqL K H na (ns.map V.int)
  nms : SqL K H nm (xs.map V.str)
  ok : c.Ok
  len : ns.length ≤ 63
  few : xs.length ≤ 8
theorem LS.same {K : PySem.W.Frag} {c : Cfg} {ns : List Int} {xs : List Str} {s na nm : Addr} {H H' : Hp} (L : LS K c ns xs s na nm H) (e : Same H H') : LS K c ns xs s na nm H' := by
  obtain ⟨⟨n, re, mx, h, r⟩, h1, h2, h3, h4, h5⟩ := L
  exact ⟨⟨n, re, mx, e _ _ h, r⟩, e.seq h1, e.seq h2, h3, h4, h5⟩
theorem LS.put {K : PySem.W.Frag} {c : Cfg} {ns : List Int} {xs : List Str} {s na nm : Addr} {H : Hp} (L : LS K c ns xs s na nm H) {n re mx : Int} (h0 : 0 ≤ n) (h1 : 0 ≤ re) (h2 : 0 ≤ mx) (h3 : mx < 2147483647) :
    LS K c ns xs s na nm (upd H s (.dK (sd c na nm n re mx))) := by
  obtain ⟨⟨n', re', mx', h, r⟩, g1, g2, g3, g4, g5⟩ := L
  exact ⟨⟨n, re, mx, upd_same, h0, h1, h2, h3⟩, KB.seq KB.upd h g1, KB.seq KB.upd h g2, g3, g4, g5⟩
theorem LS.tm {K : PySem.W.Frag} {c : Cfg} {ns : List Int} {xs : List Str} {s na nm : Addr} {H H' : Hp} (L : LS K c ns xs s na nm H) (e : KB s H H') : TM K H H' := by
  obtain ⟨⟨n, re, mx, h, r⟩, _⟩ := L
  exact e.tm h
/-- a number is taken: 0 up to m -/
def spTaken (K : PySem.W.Frag) : Sp := fun vs H Q _ => ∃ (c : Cfg) (ns : List Int) (xs : List Str) (s na nm : Addr) (m : Int), vs = [.ref s, .int m] ∧ LS K c ns xs s na nm H ∧ 0 < m ∧ m ≤ 10000000000000 ∧
  ∀ (r : Int) (H' : Hp), 0 ≤ r → r < m → KB s H H' → LS K c ns xs s na nm H' → Q (.int r) H'
theorem use_taken {K : PySem.W.Frag} {c : Cfg} {ns : List Int} {xs : List Str} {s na nm : Addr} {m : Int} {H : Hp} {Q : VK} {E : XK} (L : LS K c ns xs s na nm H) (h0 : 0 < m) (h1 : m ≤ 10000000000000)
    (q : ∀ (r : Int) (H' : Hp), 0 ≤ r → r < m → KB s H H' → LS K c ns xs s na nm H' → Q (.int r) H') : spTaken K ([.ref s, .int m] ++ []) H Q E := ⟨c, ns, xs, s, na, nm, m, rfl, L, h0, h1, q⟩
theorem log_small {i m : Int} (h0 : 0 < m) (h1 : m ≤ 10000000000000) : CDivW i m := wide_div (b := 64) h0 (by omega) (by decide) (by decide)
section
variable {P : Program} {w : World} {K : PySem.W.Frag} {mg : Str → Option Value} {base : Heap}
abbrev s__law_taken : Stmt := topS 46
theorem sc__law_taken : FnScope ["_law_s", "_law_most", "_law_found", "_law_number_here"] ["_law_s", "_law_most"] (defScope s__law_taken) := ⟨rfl, rfl, rfl, by decide +kernel, rfl, by decide +kernel, by decide +kernel⟩
theorem h__law_taken {k : Nat} {f : Addr} {fd : FuncData} (O : Own K mg "_law_taken" s__law_taken ["_law_s", "_law_most"] f fd)  (m_len : mg "len" = none) (m_int : mg "int" = none) : Has P w K mg base "_law_taken" ["_law_s", "_law_most"] (k + 1) CX0 (spTaken K) f fd := by
  refine O.has (O.F.ok sc__law_taken (fun vs H Q E h => ?_) (fun cdv A outer s H vs Q E hr h => ?_))
  · obtain ⟨c, ns, xs, s, na, nm, m, rfl, _⟩ := h
    rfl
  obtain ⟨c, ns, xs, s, na, nm, m, rfl, L, h0, h1, q⟩ := h
  obtain ⟨n, re, mx, hs, g0, g1, g2, g3⟩ := L.st
  refine ⟨_, (pss_cons (ps_if (pt_cmpR op_gt (pe_dget (hu_of hr) (pv 0) pe_str (fun _ _ => rfl)) pe_int (nomark _)) (pss_cons (ps_set (i := 2) sc__law_taken.nd rfl (.inl rfl) (pe_op op_mod (pe_dget (hu_of hr) (pv 0) pe_str (fun _ _ => rfl)) (pv 1))) (pss_cons (ps_dput (hu_of hr) (pv 0) pe_str (pe_op op_fdivW (pe_dget (hu_of hr) (pv 0) pe_str (fun _ _ => rfl)) (pv 1)) (by rfl)) (pss_one (ps_ret (pv 2))))) pss_nil) (pss_cons (ps_dput (hu_of hr) (pv 0) pe_str (pe_op op_add (pe_dget (hu_of hr) (pv 0) pe_str (fun _ _ => rfl)) pe_int) (by rfl)) (pss_cons (ps_if (pt_cmpR op_le (pe_dget (hu_of hr) (pv 0) pe_str (fun _ _ => rfl)) (pe_callB call_len_seq (by rfl) m_len (by decide +kernel) (pa_cons (pe_dget (hu_of hr) (pv 0) pe_str (fun _ _ => rfl)) pa_nil)) (nomark _)) (pss_cons (ps_set (i := 3) sc__law_taken.nd rfl (.inl rfl) (pe_ix ix_list (pe_dget (hu_of hr) (pv 0) pe_str (fun _ _ => rfl)) (pe_op op_sub (pe_dget (hu_of hr) (pv 0) pe_str (fun _ _ => rfl)) pe_int) (fun _ _ => rfl))) (pss_cons (ps_dput (hu_of hr) (pv 0) pe_str (pe_op op_mul (pe_op op_fdivW (pv 3) (pv 1)) (pe_callTy call_int1 (by rfl) m_int (by decide +kernel) (pa_cons (pe_cmpR op_ge (pv 3) (pe_op op_pow pe_int pe_int) (nomark _)) pa_nil))) (by rfl)) (pss_one (ps_ret (pe_op op_mod (pv 3) (pv 1)))))) pss_nil) (pss_cons (ps_dput (hu_of hr) (pv 0) pe_str (pe_op op_mod (pe_op op_mul (pe_dget (hu_of hr) (pv 0) pe_str (fun _ _ => rfl)) pe_int) pe_int) (by rfl)) (pss_one (ps_ret (pe_ifExp (pt_cmpR op_gt (pv 1) (pe_op op_pow pe_int pe_int) (nomark _)) (pe_op op_mod (pe_op op_pow (pe_op op_fdivW (pe_dget (hu_of hr) (pv 0) pe_str (fun _ _ => rfl)) pe_int) pe_int) (pv 1)) (pe_op op_mod (pe_op op_fdivW (pe_dget (hu_of hr) (pv 0) pe_str (fun _ _ => rfl)) pe_int) (pv 1))))))))), ?_⟩
  walk_at "go"
  refine g_key hs (by rfl) ?_
  walk_at "go"
  refine ifd (fun c1 => ?_) (fun c1 => ?_)
  · walk_at "go"
    refine g_key hs (by rfl) ?_
    walk_at "go"
    refine g_I h0 ?_
    walk_at "go"
    refine g_key hs (by rfl) ?_
    walk_at "go"
    refine g_I (log_small h0 h1) ?_
    walk_at "go"
    refine g_put hs (by show 9 < sizeLine; decide) (by rfl) ?_
    walk_at "go"
    exact q _ _ (Int.emod_nonneg _ (by omega)) (Int.emod_lt_of_pos _ h0) KB.upd (L.put g0 (Int.ediv_nonneg g1 (by omega)) g2 g3)
  walk_at "go"
  refine g_key hs (by rfl) ?_
  walk_at "go"
  refine g_put hs (by show 9 < sizeLine; decide) (by rfl) ?_
  have L2 := L.put (n := n + 1) (re := re) (mx := mx) (by omega) g1 g2 g3
  have hs2 : (upd H s (.dK (sd c na nm (n + 1) re mx))) s = some (.dK (sd c na nm (n + 1) re mx)) := upd_same
  walk_at "go"
  refine g_key hs2 (by rfl) ?_
  walk_at "go"
  refine g_key hs2 (by rfl) ?_
  walk_at "go"
  refine ⟨_, _, rfl, .inl L2.num, ?_⟩
  walk_at "go"
  refine ifd (fun c2 => ?_) (fun c2 => ?_)
  · walk_at "go"
    refine g_key hs2 (by rfl) ?_
    walk_at "go"
    refine g_key hs2 (by rfl) ?_
    walk_at "go"
    rw [List.length_map] at c2
    have hk : n.toNat < ns.length := by omega
    refine ⟨_, _, _, .int ns[n.toNat], rfl, rfl, L2.num, at_of (j := n.toNat) (by omega) (by rw [List.getElem?_map, List.getElem?_eq_getElem hk]; rfl), ?_⟩
    generalize ns[n.toNat] = z
    walk_at "go"
    refine g_I (log_small h0 h1) ?_
    walk_at "go"
    refine g_I ⟨by decide, by decide, by decide⟩ ?_
    walk_at "go"
    refine .inr ⟨_, rfl, ?_⟩
    refine g_I (.inr (by split <;> decide)) ?_
    walk_at "go"
    refine g_put hs2 (by show 9 < sizeLine; decide) (by rfl) ?_
    walk_at "go"
    refine g_I h0 ?_
    rw [upd_upd]
    refine q _ _ (Int.emod_nonneg _ (by omega)) (Int.emod_lt_of_pos _ h0) KB.upd (L.put (by omega) ?_ g2 g3)
    by_cases hz : (10 : Int) ^ (18 : Int).toNat ≤ z
    · rw [decide_eq_true hz]
      have : 0 ≤ z := Int.le_trans (by decide) hz
      exact Int.mul_nonneg (Int.ediv_nonneg this (by omega)) (by decide)
    · rw [decide_eq_false hz]
      simp
  walk_at "go"
  refine g_key hs2 (by rfl) ?_
  walk_at "go"
  refine g_I (.inl (by omega)) ?_
  walk_at "go"
  refine g_I (by decide) ?_
  walk_at "go"
  refine g_put hs2 (by show 9 < sizeLine; decide) (by rfl) ?_
  rw [upd_upd]
  have b0 : 0 ≤ mx * 48271 % 2147483647 := Int.emod_nonneg _ (by decide)
  have b1 : mx * 48271 % 2147483647 < 2147483647 := Int.emod_lt_of_pos _ (by decide)
  generalize mx * 48271 % 2147483647 = my at b0 b1 ⊢
  have L3 := L.put (n := n + 1) (re := re) (mx := my) (by omega) g1 b0 b1
  have hs3 : (upd H s (.dK (sd c na nm (n + 1) re my))) s = some (.dK (sd c na nm (n + 1) re my)) := upd_same
  walk_at "go"
  refine g_I ⟨by decide, by decide, by decide⟩ ?_
  walk_at "go"
  refine ifd (fun c3 => ?_) (fun c3 => ?_)
  · walk_at "go"
    refine g_key hs3 (by rfl) ?_
    walk_at "go"
    refine g_I ⟨by decide, by decide⟩ ?_
    walk_at "go"
    refine g_I ⟨by decide, by decide, by omega⟩ ?_
    walk_at "go"
    refine g_I h0 ?_
    exact q _ _ (Int.emod_nonneg _ (by omega)) (Int.emod_lt_of_pos _ h0) KB.upd L3
  · walk_at "go"
    refine g_key hs3 (by rfl) ?_
    walk_at "go"
    refine g_I ⟨by decide, by decide⟩ ?_
    walk_at "go"
    refine g_I h0 ?_
    exact q _ _ (Int.emod_nonneg _ (by omega)) (Int.emod_lt_of_pos _ h0) KB.upd L3
end

/-! ### words, numbers -/
def wordsL : List Str := ["none", "give", "both", "turned", "later", "often", "if", "num", "read", "plus", "below", "all"]
def wd (c : Cfg) (k : Int) : Str := if c.ta = 1 ∧ k < 12 then wordsL.getD k.toNat "none" else rp 113 c.pl ++ ⟨#[97 + ((k + c.tu) % 26).toNat]⟩ ++ rp 113 (c.sz - c.pl - 1)
theorem letters_at : ∀ j : Fin 26, (Str.ofString "abcdefghijklmnopqrstuvwxyz").cps.toList[j.val]? = some (97 + j.val) := by decide +kernel
theorem app_len (a b : Str) : (a ++ b).length = a.length + b.length := by
  show (a.cps ++ b.cps).size = a.cps.size + b.cps.size
  simp
def spWord (K : PySem.W.Frag) : Sp := fun vs H Q _ => ∃ (c : Cfg) (ns : List Int) (xs : List Str) (s na nm : Addr) (k : Int), vs = [.ref s, .int k] ∧ LS K c ns xs s na nm H ∧ 0 ≤ k ∧ k ≤ 1000 ∧ ∀ H', Same H H' → Q (.str (wd c k)) H'
theorem use_word {K : PySem.W.Frag} {c : Cfg} {ns : List Int} {xs : List Str} {s na nm : Addr} {k : Int} {H : Hp} {Q : VK} {E : XK} (L : LS K c ns xs s na nm H) (h0 : 0 ≤ k) (h1 : k ≤ 1000) (q : ∀ H', Same H H' → Q (.str (wd c k)) H') :
    spWord K ([.ref s, .int k] ++ []) H Q E := ⟨c, ns, xs, s, na, nm, k, rfl, L, h0, h1, q⟩
def spNumber (K : PySem.W.Frag) : Sp := fun vs H Q _ => ∃ (c : Cfg) (ns : List Int) (xs : List Str) (s na nm : Addr), vs = [.ref s] ∧ LS K c ns xs s na nm H ∧
  ∀ (r : Int) (H' : Hp), -1000000000000 < r → r < 1000000000000 → KB s H H' → LS K c ns xs s na nm H' → Q (.int r) H'
theorem use_number {K : PySem.W.Frag} {c : Cfg} {ns : List Int} {xs : List Str} {s na nm : Addr} {H : Hp} {Q : VK} {E : XK} (L : LS K c ns xs s na nm H)
    (q : ∀ (r : Int) (H' : Hp), -1000000000000 < r → r < 1000000000000 → KB s H H' → LS K c ns xs s na nm H' → Q (.int r) H') : spNumber K ([.ref s] ++ []) H Q E := ⟨c, ns, xs, s, na, nm, rfl, L, q⟩
section
variable {P : Program} {w : World} {K : PySem.W.Frag} {mg : Str → Option Value} {base : Heap}
abbrev s__law_word : Stmt := topS 47
theorem sc__law_word : FnScope ["_law_s", "_law_k", "_law_words", "_law_sign"] ["_law_s", "_law_k"] (defScope s__law_word) := ⟨rfl, rfl, rfl, by decide +kernel, rfl, by decide +kernel, by decide +kernel⟩
theorem h__law_word {k : Nat} {f : Addr} {fd : FuncData} (O : Own K mg "_law_word" s__law_word ["_law_s", "_law_k"] f fd)  : Has P w K mg base "_law_word" ["_law_s", "_law_k"] (k + 1) CX0 (spWord K) f fd := by
  refine O.has (O.F.ok sc__law_word (fun vs H Q E h => ?_) (fun cdv A outer s H vs Q E hr h => ?_))
  · obtain ⟨c, ns, xs, s, na, nm, k, rfl, _⟩ := h
    rfl
  obtain ⟨c, ns, xs, s, na, nm, k, rfl, L, h0, h1, q⟩ := h
  obtain ⟨n, re, mx, hs, g0, g1, g2, g3⟩ := L.st
  have c0 := L.ok
  refine ⟨_, (pss_cons (ps_if (PW.pt (pw_and (pt_cmpR op_eq (pe_dget (hu_of hr) (pv 0) pe_str (fun _ _ => rfl)) pe_int (nomark _)) (pw_and1 (pt_cmpR op_lt (pv 1) pe_int (nomark _))))) (pss_cons (ps_set (i := 2) sc__law_word.nd rfl (.inl rfl) (pe_lst (pa_cons pe_str (pa_cons pe_str (pa_cons pe_str (pa_cons pe_str (pa_cons pe_str (pa_cons pe_str (pa_cons pe_str (pa_cons pe_str (pa_cons pe_str (pa_cons pe_str (pa_cons pe_str (pa_cons pe_str pa_nil)))))))))))))) (pss_one (ps_ret (pe_ix ix_list (pv 2) (pv 1) (fun _ _ => rfl))))) pss_nil) (pss_cons (ps_set (i := 3) sc__law_word.nd rfl (.inl rfl) (pe_ix ix_str pe_str (pe_op op_mod (pe_op op_add (pv 1) (pe_dget (hu_of hr) (pv 0) pe_str (fun _ _ => rfl))) pe_int) (fun _ _ => rfl))) (pss_one (ps_ret (pe_op op_add_str (pe_op op_add_str (pe_op op_rep_str pe_str (pe_dget (hu_of hr) (pv 0) pe_str (fun _ _ => rfl))) (pv 3)) (pe_op op_rep_str pe_str (pe_op op_sub (pe_op op_sub (pe_dget (hu_of hr) (pv 0) pe_str (fun _ _ => rfl)) (pe_dget (hu_of hr) (pv 0) pe_str (fun _ _ => rfl))) pe_int))))))), ?_⟩
  have tail : ∀ (H1 : Hp), Same H H1 → ¬ (c.ta = 1 ∧ k < 12) → Q (.str (rp 113 c.pl ++ ⟨#[97 + ((k + c.tu) % 26).toNat]⟩ ++ rp 113 (c.sz - c.pl - 1))) H1 := fun H1 e hc => by
    have z := q H1 e
    unfold wd at z
    rw [if_neg hc] at z
    exact z
  walk_at "go"
  refine g_key hs (by rfl) ?_
  walk_at "go"
  refine and_cut (k < 12) (fun hc => ?_) (fun c1 back => ?_)
  · walk_at "go"
    refine g_key hs (by rfl) ?_
    walk_at "go"
    refine g_I (by decide) ?_
    have b0 : 0 ≤ (k + c.tu) % 26 := Int.emod_nonneg _ (by decide)
    have b1 : (k + c.tu) % 26 < 26 := Int.emod_lt_of_pos _ (by decide)
    have bn : ((k + c.tu) % 26).toNat < 26 := by omega
    refine ⟨_, (k + c.tu) % 26, 97 + ((k + c.tu) % 26).toNat, rfl, rfl, by decide +kernel, at_any (j := ((k + c.tu) % 26).toNat) (by omega) (letters_at ⟨((k + c.tu) % 26).toNat, bn⟩), ?_⟩
    walk_at "go"
    refine g_key hs (by rfl) ?_
    have p0 := c0.pl0
    have p1 := c0.plz
    have p2 := c0.sz8
    refine ⟨113, c.pl, rfl, rfl, p0, by omega, ?_⟩
    walk_at "go"
    have e1 : (rp 113 c.pl).length ≤ 8 := by rw [rp_len]; omega
    have e2 : (⟨#[97 + ((k + c.tu) % 26).toNat]⟩ : Str).length = 1 := rfl
    have hz : (1000 : Nat) ≤ sizeLine := by decide
    refine ⟨by omega, ?_⟩
    walk_at "go"
    refine g_key hs (by rfl) ?_
    walk_at "go"
    refine g_key hs (by rfl) ?_
    walk_at "go"
    refine ⟨113, c.sz - c.pl - 1, rfl, rfl, by omega, by omega, ?_⟩
    have e3 : (rp 113 (c.sz - c.pl - 1)).length ≤ 8 := by rw [rp_len]; omega
    walk_at "go"
    refine ⟨?_, ?_⟩
    · rw [app_len]; omega
    · exact tail H (Same.refl H) hc
  · walk_at "go"
    refine ifd (fun c2 => ?_) back
    walk_at "go"
    refine ⟨by show 12 ≤ sizeLine; decide, fun p hp => ?_⟩
    walk_at "go"
    have hk : k.toNat < wordsL.length := by show k.toNat < 12; omega
    have hi : (wordsL.map V.str)[k.toNat]? = some (.str (wordsL.getD k.toNat "none")) := by
      rw [List.getElem?_map, List.getD, List.getElem?_eq_getElem hk]
      rfl
    refine ⟨_, wordsL.map V.str, _, _, rfl, rfl, sql upd_same, at_of (j := k.toNat) (by omega) hi, ?_⟩
    have z := q _ (same_new (o := .lst (wordsL.map V.str)) hp)
    unfold wd at z
    rw [if_pos ⟨c1, c2⟩] at z
    exact z
abbrev s__law_number : Stmt := topS 48
theorem sc__law_number : FnScope ["_law_s"] ["_law_s"] (defScope s__law_number) := ⟨rfl, rfl, rfl, by decide +kernel, rfl, by decide +kernel, by decide +kernel⟩
theorem h__law_number {k : Nat} {f : Addr} {fd : FuncData} (O : Own K mg "_law_number" s__law_number ["_law_s"] f fd)  {f__law_taken : Addr} {fd__law_taken : FuncData} (D__law_taken : Has P w K mg base "_law_taken" ["_law_s", "_law_most"] k CX0 (spTaken K) f__law_taken fd__law_taken) : Has P w K mg base "_law_number" ["_law_s"] (k + 1) CX0 (spNumber K) f fd := by
  refine O.has (O.F.ok sc__law_number (fun vs H Q E h => ?_) (fun cdv A outer s H vs Q E hr h => ?_))
  · obtain ⟨c, ns, xs, s, na, nm, rfl, _⟩ := h
    rfl
  obtain ⟨c, ns, xs, s, na, nm, rfl, L, q⟩ := h
  refine ⟨_, (pss_cons (ps_if (pt_cmpR op_eq (pe_call D__law_taken.G hr (by rfl) D__law_taken.g D__law_taken.k D__law_taken.b .nil pass0 (pa_cons (pv 0) (pa_cons pe_int pa_nil))) pe_int (nomark _)) (pss_one (ps_ret (pe_op op_add (pe_op op_sub (pe_call D__law_taken.G hr (by rfl) D__law_taken.g D__law_taken.k D__law_taken.b .nil pass0 (pa_cons (pv 0) (pa_cons (pe_op op_sub (pe_op op_mul pe_int (pe_op op_pow pe_int pe_int)) pe_int) pa_nil))) (pe_op op_pow pe_int pe_int)) pe_int))) pss_nil) (pss_one (ps_ret (pe_op op_sub (pe_call D__law_taken.G hr (by rfl) D__law_taken.g D__law_taken.k D__law_taken.b .nil pass0 (pa_cons (pv 0) (pa_cons pe_int pa_nil))) pe_int)))), ?_⟩
  walk_at "go"
  refine use_taken L (by decide) (by decide) fun r H1 a0 a1 e1 L1 => ?_
  walk_at "go"
  refine ifd (fun c1 => ?_) (fun c1 => ?_)
  · walk_at "go"
    refine g_I ⟨by decide, by decide, by decide⟩ ?_
    walk_at "go"
    refine g_I (.inl ⟨by decide, by decide⟩) ?_
    walk_at "go"
    refine use_taken L1 (by decide) (by decide) fun r2 H2 b0 b1 e2 L2 => ?_
    walk_at "go"
    refine g_I ⟨by decide, by decide, by decide⟩ ?_
    walk_at "go"
    have e : (10 : Int) ^ (12 : Int).toNat = 1000000000000 := by decide
    rw [e] at b1 ⊢
    exact q _ _ (by omega) (by omega) (e1.trans e2) L2
  · walk_at "go"
    refine use_taken L1 (by decide) (by decide) fun r2 H2 b0 b1 e2 L2 => ?_
    walk_at "go"
    exact q _ _ (by omega) (by omega) (e1.trans e2) L2
end

/-! ### told numbers -/
inductive Op where
  | plus | minus | times | most | least
def Op.word : Op → Str
  | .plus => "plus"
  | .minus => "minus"
  | .times => "times"
  | .most => "most"
  | .least => "least"
def Op.app : Op → Int → Int → Int
  | .plus, a, b => a + b
  | .minus, a, b => a - b
  | .times, a, b => a * b
  | .most, a, b => if b > a then b else a
  | .least, a, b => if b < a then b else a
inductive Num where
  | num (n : Int)
  | read (x : Str)
  | bin (o : Op) (a b : Num)
def Num.deep : Num → Nat
  | .num _ => 0
  | .read _ => 0
  | .bin _ a b => max a.deep b.deep + 1
def Num.In (xs : List Str) : Num → Prop
  | .num n => -1000000000000 < n ∧ n < 1000000000000
  | .read x => x ∈ xs
  | .bin _ a b => a.In xs ∧ b.In xs
/-- the value v tells the number in the heap -/
def DN (K : PySem.W.Frag) (H : Hp) : Num → V → Prop
  | .num n, v => ∃ a, v = .ref a ∧ SqT K H a [.str "num", .int n]
  | .read x, v => ∃ a, v = .ref a ∧ SqT K H a [.str "read", .str x]
  | .bin o p q, v => ∃ a u z, v = .ref a ∧ SqT K H a [.str o.word, u, z] ∧ DN K H p u ∧ DN K H q z
theorem DN.tm {K : PySem.W.Frag} {H H' : Hp} (e : TM K H H') : ∀ {t : Num} {v : V}, DN K H t v → DN K H' t v
  | .num n, v, ⟨a, h1, h2⟩ => ⟨a, h1, e _ _ h2⟩
  | .read x, v, ⟨a, h1, h2⟩ => ⟨a, h1, e _ _ h2⟩
  | .bin o p q, v, ⟨a, u, z, h1, h2, h3, h4⟩ => ⟨a, u, z, h1, e _ _ h2, DN.tm e h3, DN.tm e h4⟩
def opWords : List V := [.str "plus", .str "minus", .str "times", .str "most", .str "least"]
theorem op_at {i : Int} (h0 : 0 ≤ i) (h1 : i < 5) : ∃ o : Op, atI opWords i = some (.str o.word) := by
  have : i = 0 ∨ i = 1 ∨ i = 2 ∨ i = 3 ∨ i = 4 := by omega
  rcases this with rfl | rfl | rfl | rfl | rfl
  · exact ⟨.plus, at_any (j := 0) rfl rfl⟩
  · exact ⟨.minus, at_any (j := 1) rfl rfl⟩
  · exact ⟨.times, at_any (j := 2) rfl rfl⟩
  · exact ⟨.most, at_any (j := 3) rfl rfl⟩
  · exact ⟨.least, at_any (j := 4) rfl rfl⟩
def spTold (K : PySem.W.Frag) (n : Nat) : Sp := fun vs H Q _ => ∃ (c : Cfg) (ns : List Int) (xs : List Str) (s na nm : Addr) (d : Int), vs = [.ref s, .int d] ∧ LS K c ns xs s na nm H ∧ 0 ≤ d ∧ d < n ∧
  ∀ (v : V) (t : Num) (H' : Hp), KB s H H' → LS K c ns xs s na nm H' → DN K H' t v → t.In xs → (t.deep : Int) ≤ d → Q v H'
theorem use_told {K : PySem.W.Frag} {n : Nat} {c : Cfg} {ns : List Int} {xs : List Str} {s na nm : Addr} {d : Int} {H : Hp} {Q : VK} {E : XK} (L : LS K c ns xs s na nm H) (h0 : 0 ≤ d) (h1 : d < n)
    (q : ∀ (v : V) (t : Num) (H' : Hp), KB s H H' → LS K c ns xs s na nm H' → DN K H' t v → t.In xs → (t.deep : Int) ≤ d → Q v H') : spTold K n ([.ref s, .int d] ++ []) H Q E := ⟨c, ns, xs, s, na, nm, d, rfl, L, h0, h1, q⟩
section
variable {P : Program} {w : World} {K : PySem.W.Frag} {mg : Str → Option Value} {base : Heap}
abbrev s__law_told : Stmt := topS 49
theorem sc__law_told : FnScope ["_law_s", "_law_deep", "_law_way", "_law_one"] ["_law_s", "_law_deep"] (defScope s__law_told) := ⟨rfl, rfl, rfl, by decide +kernel, rfl, by decide +kernel, by decide +kernel⟩
theorem h__law_told {n : Nat} {k : Nat} {f : Addr} {fd : FuncData} (O : Own K mg "_law_told" s__law_told ["_law_s", "_law_deep"] f fd)  {f__law_told : Addr} {fd__law_told : FuncData} (D__law_told : Has P w K mg base "_law_told" ["_law_s", "_law_deep"] k CX0 (spTold K n) f__law_told fd__law_told) {f__law_number : Addr} {fd__law_number : FuncData} (D__law_number : Has P w K mg base "_law_number" ["_law_s"] k CX0 (spNumber K) f__law_number fd__law_number) {f__law_taken : Addr} {fd__law_taken : FuncData} (D__law_taken : Has P w K mg base "_law_taken" ["_law_s", "_law_most"] k CX0 (spTaken K) f__law_taken fd__law_taken) (m_len : mg "len" = none) : Has P w K mg base "_law_told" ["_law_s", "_law_deep"] (k + 1) CX0 (spTold K (n + 1)) f fd := by
  refine O.has (O.F.ok sc__law_told (fun vs H Q E h => ?_) (fun cdv A outer s H vs Q E hr h => ?_))
  · obtain ⟨c, ns, xs, s, na, nm, d, rfl, _⟩ := h
    rfl
  obtain ⟨c, ns, xs, s, na, nm, d, rfl, L, h0, h1, q⟩ := h
  refine ⟨_, (pss_cons (ps_set (i := 2) sc__law_told.nd rfl (.inl rfl) (pe_call D__law_taken.G hr (by rfl) D__law_taken.g D__law_taken.k D__law_taken.b .nil pass0 (pa_cons (pv 0) (pa_cons pe_int pa_nil)))) (pss_cons (ps_if (PW.pt (pw_or (pt_cmpR op_lt (pv 2) pe_int (nomark _)) (pw_or1 (pt_cmpR op_eq (pv 1) pe_int (nomark _))))) (pss_cons (ps_if (PW.pt (pw_and (pt_cmpR op_eq (pe_op op_mod (pv 2) pe_int) pe_int (nomark _)) (pw_and1 (pt_cmpR op_gt (pe_callB call_len_seq (by rfl) m_len (by decide +kernel) (pa_cons (pe_dget (hu_of hr) (pv 0) pe_str (fun _ _ => rfl)) pa_nil)) pe_int (nomark _))))) (pss_one (ps_ret (pe_tup (pa_cons pe_str (pa_cons (pe_ix ix_list (pe_dget (hu_of hr) (pv 0) pe_str (fun _ _ => rfl)) (pe_call D__law_taken.G hr (by rfl) D__law_taken.g D__law_taken.k D__law_taken.b .nil pass0 (pa_cons (pv 0) (pa_cons (pe_callB call_len_seq (by rfl) m_len (by decide +kernel) (pa_cons (pe_dget (hu_of hr) (pv 0) pe_str (fun _ _ => rfl)) pa_nil)) pa_nil))) (fun _ _ => rfl)) pa_nil))))) pss_nil) (pss_one (ps_ret (pe_tup (pa_cons pe_str (pa_cons (pe_call D__law_number.G hr (by rfl) D__law_number.g D__law_number.k D__law_number.b .nil pass0 (pa_cons (pv 0) pa_nil)) pa_nil)))))) pss_nil) (pss_cons (ps_set (i := 3) sc__law_told.nd rfl (.inl rfl) (pe_call D__law_told.G hr (by rfl) D__law_told.g D__law_told.k D__law_told.b .nil pass0 (pa_cons (pv 0) (pa_cons (pe_op op_sub (pv 1) pe_int) pa_nil)))) (pss_one (ps_ret (pe_tup (pa_cons (pe_ix ix_list (pe_lst (pa_cons pe_str (pa_cons pe_str (pa_cons pe_str (pa_cons pe_str (pa_cons pe_str pa_nil)))))) (pe_op op_sub (pv 2) pe_int) (fun _ _ => rfl)) (pa_cons (pv 3) (pa_cons (pe_call D__law_told.G hr (by rfl) D__law_told.g D__law_told.k D__law_told.b .nil pass0 (pa_cons (pv 0) (pa_cons (pe_op op_sub (pv 1) pe_int) pa_nil))) pa_nil))))))))), ?_⟩
  walk_at "go"
  refine use_taken L (by decide) (by decide) fun r H1 a0 a1 e1 L1 => ?_
  have leaf : ∀ (Hx : Hp), KB s H Hx → LS K c ns xs s na nm Hx → ∀ (m : Int) (p : Addr), -1000000000000 < m → m < 1000000000000 → Hx p = none → Q (.ref p) (upd Hx p (.tup [.str "num", .int m])) := fun Hx ex Lx m p b0 b1 np =>
    q _ (.num m) _ (ex.trans (.of (same_new np))) (Lx.same (same_new np)) ⟨p, rfl, sqt upd_same⟩ ⟨b0, b1⟩ h0
  walk_at "go"
  refine or_cut (d = 0) (fun hc => ?_) (fun c1 back => ?_)
  · walk_at "go"
    refine g_I (by decide) ?_
    walk_at "go"
    obtain ⟨n1, re1, mx1, hs1, _⟩ := L1.st
    refine and_cut (0 < (xs.length : Int)) (fun hc => ?_) (fun c1 back => ?_)
    · walk_at "go"
      refine use_number L1 fun m H2 b0 b1 e2 L2 => ?_
      walk_at "go"
      refine ⟨by show 2 ≤ sizeLine; decide, fun p np => ?_⟩
      exact leaf H2 (e1.trans e2) L2 m p b0 b1 np
    · walk_at "go"
      refine g_key hs1 (by rfl) ?_
      walk_at "go"
      refine ⟨_, _, rfl, .inl L1.nms, ?_⟩
      walk_at "go"
      rw [List.length_map]
      refine ifd (fun c2 => ?_) back
      walk_at "go"
      refine g_key hs1 (by rfl) ?_
      walk_at "go"
      refine g_key hs1 (by rfl) ?_
      walk_at "go"
      refine ⟨_, _, rfl, .inl L1.nms, ?_⟩
      walk_at "go"
      rw [List.length_map]
      have few := L1.few
      refine use_taken L1 c2 (by omega) fun j H2 b0 b1 e2 L2 => ?_
      have hj : j.toNat < xs.length := by omega
      refine ⟨_, _, _, .str xs[j.toNat], rfl, rfl, L2.nms, at_of (j := j.toNat) (by omega) (by rw [List.getElem?_map, List.getElem?_eq_getElem hj]; rfl), ?_⟩
      walk_at "go"
      refine ⟨by show 2 ≤ sizeLine; decide, fun p np => ?_⟩
      exact q _ (.read xs[j.toNat]) _ ((e1.trans e2).trans (.of (same_new np))) (L2.same (same_new np)) ⟨p, rfl, sqt upd_same⟩ (List.getElem_mem hj) h0
  · walk_at "go"
    refine ifd back (fun c2 => ?_)
    walk_at "go"
    refine use_told L1 (by omega) (by omega) fun u t1 H2 e2 L2 d1 i1 p1 => ?_
    walk_at "go"
    refine ⟨by show 5 ≤ sizeLine; decide, fun p np => ?_⟩
    walk_at "go"
    obtain ⟨o, ho⟩ := op_at (i := r - 3) (by omega) (by omega)
    refine ⟨_, opWords, _, _, rfl, rfl, sql upd_same, ho, ?_⟩
    have s3 := same_new (o := .lst opWords) np
    have L3 := L2.same s3
    walk_at "go"
    refine use_told L3 (by omega) (by omega) fun z t2 H4 e4 L4 d2 i2 p2 => ?_
    walk_at "go"
    refine ⟨by show 3 ≤ sizeLine; decide, fun p' np' => ?_⟩
    have s5 := same_new (o := .tup [.str o.word, u, z]) np'
    refine q _ (.bin o t1 t2) _ ((((e1.trans e2).trans (.of s3)).trans e4).trans (.of s5)) (L4.same s5) ⟨p', u, z, rfl, sqt upd_same, ?_, ?_⟩ ⟨i1, i2⟩ ?_
    · exact DN.tm (((TM.of s3).trans (L3.tm e4)).trans (.of s5)) d1
    · exact DN.tm (.of s5) d2
    · show ((max t1.deep t2.deep + 1 : Nat) : Int) ≤ d
      omega
theorem none_told {f : Addr} {fd : FuncData} : FnOk P w K mg base CX0 0 f fd ["_law_s", "_law_deep"] (spTold K 0) := by
  have no : ∀ vs H Q E, ¬ spTold K 0 vs H Q E := fun vs H Q E h => by
    obtain ⟨c, ns, xs, s, na, nm, d, _, _, h0, h1, _⟩ := h
    omega
  exact ⟨fun vs H Q E h => absurd h (no vs H Q E), fun A outer s H args us vs Q E _ _ _ _ h => absurd h (no vs H Q E)⟩
end

/-! ### the drawing's beginning -/
def spBegun (K : PySem.W.Frag) : Sp := fun vs H Q _ => ∃ (ns : List Int) (na : Addr), vs = [.ref na] ∧ SqL K H na (ns.map V.int) ∧ ns.length ≤ 63 ∧
  ∀ (c : Cfg) (s nm : Addr) (H' : Hp), Same H H' → H s = none → LS K c ns [] s na nm H' → Q (.ref s) H'
theorem use_begun {K : PySem.W.Frag} {ns : List Int} {na : Addr} {H : Hp} {Q : VK} {E : XK} (h : SqL K H na (ns.map V.int)) (hl : ns.length ≤ 63)
    (q : ∀ (c : Cfg) (s nm : Addr) (H' : Hp), Same H H' → H s = none → LS K c ns [] s na nm H' → Q (.ref s) H') : spBegun K ([.ref na] ++ []) H Q E := ⟨ns, na, rfl, h, hl, q⟩
def sd0 (na : Addr) : List (Key × V) :=
  [(.inr "numbers", .ref na), (.inr "at", .int 0), (.inr "size", .int 1), (.inr "place", .int 0), (.inr "turn", .int 0), (.inr "talk", .int 0), (.inr "rest", .int 0)]
def cfg0 : Cfg := ⟨1, 0, 0, 0⟩
theorem cfg0_ok : cfg0.Ok := ⟨by decide, by decide, by decide, by decide, by decide, by decide, .inl rfl⟩
/-- a number of the dict is set anew -/
theorem LS.cfg {K : PySem.W.Frag} {c c' : Cfg} {ns : List Int} {xs : List Str} {s na nm : Addr} {H : Hp} {n re mx : Int} (L : LS K c ns xs s na nm H) (h0 : 0 ≤ n) (h1 : 0 ≤ re) (h2 : 0 ≤ mx) (h3 : mx < 2147483647) (ok : c'.Ok) :
    LS K c' ns xs s na nm (upd H s (.dK (sd c' na nm n re mx))) := by
  obtain ⟨⟨n', re', mx', h, r⟩, g1, g2, g3, g4, g5⟩ := L
  exact ⟨⟨n, re, mx, upd_same, h0, h1, h2, h3⟩, KB.seq KB.upd h g1, KB.seq KB.upd h g2, ok, g4, g5⟩
theorem same_kb {s : Addr} {H H1 H2 : Hp} (a : Same H H1) (n : H s = none) (b : KB s H1 H2) : Same H H2 := fun x o h => b x o (ne_of_none h n) (a x o h)
section
variable {P : Program} {w : World} {K : PySem.W.Frag} {mg : Str → Option Value} {base : Heap}
abbrev s__law_begun : Stmt := topS 45
theorem sc__law_begun : FnScope ["_law_script", "_law_mixed", "_law_cell", "_law_s"] ["_law_script"] (defScope s__law_begun) := ⟨rfl, rfl, rfl, by decide +kernel, rfl, by decide +kernel, by decide +kernel⟩
theorem h__law_begun {k : Nat} {f : Addr} {fd : FuncData} (O : Own K mg "_law_begun" s__law_begun ["_law_script"] f fd)  {f__law_taken : Addr} {fd__law_taken : FuncData} (D__law_taken : Has P w K mg base "_law_taken" ["_law_s", "_law_most"] k CX0 (spTaken K) f__law_taken fd__law_taken) (m_int : mg "int" = none) (m_len : mg "len" = none) : Has P w K mg base "_law_begun" ["_law_script"] (k + 1) CX0 (spBegun K) f fd := by
  refine O.has (O.F.ok sc__law_begun (fun vs H Q E h => ?_) (fun cdv A outer s H vs Q E hr h => ?_))
  · obtain ⟨ns, na, rfl, _⟩ := h
    rfl
  obtain ⟨ns, na, rfl, hS, h63, q⟩ := h
  refine ⟨_, (pss_cons (ps_set (i := 1) sc__law_begun.nd rfl (.inl rfl) pe_int) (pss_cons (ps_for PassesOwn.never rfl (pi_list (pv 0)) (pg_name (i := 2) sc__law_begun.nd rfl (.inl rfl)) (pss_one (ps_set (i := 1) sc__law_begun.nd rfl (.inl rfl) (pe_op op_mod (pe_op op_add (pe_op op_add (pe_op op_mul (pv 1) pe_int) (pe_op op_mul (pv 2) pe_int)) pe_int) pe_int)))) (pss_cons (ps_set (i := 3) sc__law_begun.nd rfl (.inl rfl) (pe_disp (pps_cons pe_str (pv 0) (pps_cons pe_str pe_int (pps_cons pe_str pe_int (pps_cons pe_str pe_int (pps_cons pe_str pe_int (pps_cons pe_str pe_int (pps_cons pe_str pe_int pps_nil))))))) (by rfl) (by rfl) (fun z => by cases z) (by decide))) (pss_cons (ps_dput (hu_of hr) (pv 3) pe_str (pe_lst pa_nil) (by rfl)) (pss_cons (ps_dput (hu_of hr) (pv 3) pe_str (pe_op op_mul (pv 1) (pe_callTy call_int1 (by rfl) m_int (by decide +kernel) (pa_cons (pe_cmpR op_gt (pe_callB call_len_seq (by rfl) m_len (by decide +kernel) (pa_cons (pv 0) pa_nil)) pe_int (nomark _)) pa_nil))) (by rfl)) (pss_cons (ps_dput (hu_of hr) (pv 3) pe_str (pe_op op_add pe_int (pe_call D__law_taken.G hr (by rfl) D__law_taken.g D__law_taken.k D__law_taken.b .nil pass0 (pa_cons (pv 3) (pa_cons pe_int pa_nil)))) (by rfl)) (pss_cons (ps_dput (hu_of hr) (pv 3) pe_str (pe_call D__law_taken.G hr (by rfl) D__law_taken.g D__law_taken.k D__law_taken.b .nil pass0 (pa_cons (pv 3) (pa_cons (pe_dget (hu_of hr) (pv 3) pe_str (fun _ _ => rfl)) pa_nil))) (by rfl)) (pss_cons (ps_dput (hu_of hr) (pv 3) pe_str (pe_call D__law_taken.G hr (by rfl) D__law_taken.g D__law_taken.k D__law_taken.b .nil pass0 (pa_cons (pv 3) (pa_cons pe_int pa_nil))) (by rfl)) (pss_cons (ps_dput (hu_of hr) (pv 3) pe_str (pe_callTy call_int1 (by rfl) m_int (by decide +kernel) (pa_cons (pe_cmpR op_eq (pe_call D__law_taken.G hr (by rfl) D__law_taken.g D__law_taken.k D__law_taken.b .nil pass0 (pa_cons (pv 3) (pa_cons pe_int pa_nil))) pe_int (nomark _)) pa_nil)) (by rfl)) (pss_one (ps_ret (pv 3)))))))))))), ?_⟩
  walk_at "go"
  refine ⟨⟨_, hS⟩, for_list (xs := ns.map V.int) (fun i σ H3 => H3 = H ∧ ∃ (m : Int) (y : Option V), σ = [some (.ref na), some (.int m), y, none] ∧ 0 ≤ m ∧ m < 2147483647)
    ⟨rfl, 0, none, rfl, by decide, by decide⟩ (fun i σ H3 hi hW => ?_) (fun i x σ H3 hx hW => ?_) (fun σ H3 hW => ?_)⟩
  · obtain ⟨rfl, _⟩ := hW
    exact hS
  · obtain ⟨rfl, m, y, rfl, m0, m1⟩ := hW
    rw [List.getElem?_map] at hx
    obtain ⟨z, hz, rfl⟩ := Option.map_eq_some_iff.mp hx
    walk_at "go"
    refine g_I (.inl (by omega)) ?_
    walk_at "go"
    refine g_I (.inr (by decide)) ?_
    walk_at "go"
    refine g_I (by decide) ?_
    walk_at "go"
    exact ⟨Int.emod_nonneg _ (by decide), Int.emod_lt_of_pos _ (by decide)⟩
  obtain ⟨rfl, m, y, rfl, m0, m1⟩ := hW
  walk_at "go"
  intro s nsn
  walk_at "go"
  refine ⟨upd_same, sd0 na, rfl, by show 7 ≤ 15; decide, ?_⟩
  rw [upd_upd]
  have s1 := same_new (o := .dK (sd0 na)) nsn
  have hs1 : (upd H3 s (.dK (sd0 na))) s = some (.dK (sd0 na)) := upd_same
  show _
  walk_at "go"
  refine ⟨by show 0 ≤ sizeLine; decide, fun nm nn => ?_⟩
  walk_at "go"
  have s2 := same_new (o := .lst []) nn
  have hsn : s ≠ nm := ne_of_none hs1 nn
  refine g_put (s2 _ _ hs1) (by show 7 < sizeLine; decide) (by rfl) ?_
  walk_at "go"
  refine ⟨_, _, rfl, .inl (KB.seq KB.upd (s2 _ _ hs1) ((s1.trans s2).seq hS)), ?_⟩
  walk_at "go"
  refine .inr ⟨_, rfl, ?_⟩
  refine g_I (.inl (by omega)) ?_
  walk_at "go"
  refine g_put upd_same (by show 8 < sizeLine; decide) (by rfl) ?_
  rw [upd_upd]
  have hmx : 0 ≤ m * (if decide (2 < (((ns.map V.int).length : Nat) : Int)) = true then 1 else 0) ∧ m * (if decide (2 < (((ns.map V.int).length : Nat) : Int)) = true then 1 else 0) < 2147483647 := by
    split <;> omega
  generalize m * (if decide (2 < (((ns.map V.int).length : Nat) : Int)) = true then 1 else 0) = mx at hmx ⊢
  have L1 : LS K cfg0 ns [] s na nm (upd (upd (upd H3 s (.dK (sd0 na))) nm (.lst [])) s (.dK (sd cfg0 na nm 0 0 mx))) :=
    ⟨⟨0, 0, mx, upd_same, by decide, by decide, hmx.1, hmx.2⟩, KB.seq KB.upd (s2 _ _ hs1) ((s1.trans s2).seq hS), sql (by rw [upd_ne hsn.symm]; exact upd_same), cfg0_ok, h63, by decide⟩
  have e1 : Same H3 (upd (upd (upd H3 s (.dK (sd0 na))) nm (.lst [])) s (.dK (sd cfg0 na nm 0 0 mx))) := same_kb (s1.trans s2) nsn KB.upd
  show tSeq _ _ _ _ (upd (upd (upd H3 s (.dK (sd0 na))) nm (.lst [])) s (.dK (sd cfg0 na nm 0 0 mx)))
  generalize upd (upd (upd H3 s (.dK (sd0 na))) nm (.lst [])) s (.dK (sd cfg0 na nm 0 0 mx)) = H4 at L1 e1 ⊢
  -- size
  walk_at "go"
  refine use_taken L1 (by decide) (by decide) fun a H5 a0 a1 e5 L5 => ?_
  walk_at "go"
  obtain ⟨n5, re5, mx5, hs5, g0, g1, g2, g3⟩ := L5.st
  refine g_put hs5 (by show 9 < sizeLine; decide) (by rfl) ?_
  have L6 := L5.cfg (c' := ⟨1 + a, 0, 0, 0⟩) g0 g1 g2 g3 ⟨by show 1 ≤ 1 + a; omega, by show 1 + a ≤ 8; omega, Int.le_refl 0, by show 0 < 1 + a; omega, Int.le_refl 0, (by decide : (0 : Int) < 26), .inl rfl⟩
  have hs6 : upd H5 s (.dK (sd ⟨1 + a, 0, 0, 0⟩ na nm n5 re5 mx5)) s = some (.dK (sd ⟨1 + a, 0, 0, 0⟩ na nm n5 re5 mx5)) := upd_same
  have e6 : KB s H4 (upd H5 s (.dK (sd ⟨1 + a, 0, 0, 0⟩ na nm n5 re5 mx5))) := e5.trans KB.upd
  -- place
  walk_at "go"
  refine g_key hs6 (by rfl) ?_
  walk_at "go"
  refine use_taken L6 (by show 0 < 1 + a; omega) (by show 1 + a ≤ 10000000000000; omega) fun b H7 b0 b1 e7 L7 => ?_
  walk_at "go"
  obtain ⟨n7, re7, mx7, hs7, i0, i1, i2, i3⟩ := L7.st
  refine g_put hs7 (by show 9 < sizeLine; decide) (by rfl) ?_
  have L8 := L7.cfg (c' := ⟨1 + a, b, 0, 0⟩) i0 i1 i2 i3 ⟨by show 1 ≤ 1 + a; omega, by show 1 + a ≤ 8; omega, b0, b1, Int.le_refl 0, (by decide : (0 : Int) < 26), .inl rfl⟩
  -- turn
  walk_at "go"
  refine use_taken L8 (by decide) (by decide) fun t H9 t0 t1 e9 L9 => ?_
  walk_at "go"
  obtain ⟨n9, re9, mx9, hs9, j0, j1, j2, j3⟩ := L9.st
  refine g_put hs9 (by show 9 < sizeLine; decide) (by rfl) ?_
  have L10 := L9.cfg (c' := ⟨1 + a, b, t, 0⟩) j0 j1 j2 j3 ⟨by show 1 ≤ 1 + a; omega, by show 1 + a ≤ 8; omega, b0, b1, t0, t1, .inl rfl⟩
  -- talk
  walk_at "go"
  refine use_taken L10 (by decide) (by decide) fun u H11 u0 u1 e11 L11 => ?_
  walk_at "go"
  refine .inr ⟨_, rfl, ?_⟩
  walk_at "go"
  obtain ⟨n11, re11, mx11, hs11, k0, k1, k2, k3⟩ := L11.st
  refine g_put hs11 (by show 9 < sizeLine; decide) (by rfl) ?_
  have L12 := L11.cfg (c' := ⟨1 + a, b, t, if decide (u = 8) = true then 1 else 0⟩) k0 k1 k2 k3 ⟨by show 1 ≤ 1 + a; omega, by show 1 + a ≤ 8; omega, b0, b1, t0, t1, by
    show (if decide (u = 8) = true then (1 : Int) else 0) = 0 ∨ (if decide (u = 8) = true then (1 : Int) else 0) = 1
    split
    · exact .inr rfl
    · exact .inl rfl⟩
  walk_at "go"
  refine q _ s nm _ (same_kb e1 nsn ?_) nsn L12
  exact ((((((e6.trans e7).trans KB.upd).trans e9).trans KB.upd).trans e11).trans KB.upd)
end

/-! ### conditions -/
inductive Cond where
  | lt (a b : Num)
  | neg (a : Cond)
  | con (a b : Cond)
  | dis (a b : Cond)
def Cond.deep : Cond → Nat
  | .lt _ _ => 0
  | .neg a => a.deep + 1
  | .con a b => max a.deep b.deep + 1
  | .dis a b => max a.deep b.deep + 1
def Cond.In (xs : List Str) (m : Nat) : Cond → Prop
  | .lt a b => (a.In xs ∧ a.deep ≤ m) ∧ b.In xs ∧ b.deep ≤ m
  | .neg a => a.In xs m
  | .con a b => a.In xs m ∧ b.In xs m
  | .dis a b => a.In xs m ∧ b.In xs m
def DC (K : PySem.W.Frag) (H : Hp) : Cond → V → Prop
  | .lt p q, v => ∃ a u z, v = .ref a ∧ SqT K H a [.str "below", u, z] ∧ DN K H p u ∧ DN K H q z
  | .neg p, v => ∃ a u, v = .ref a ∧ SqT K H a [.str "not", u] ∧ DC K H p u
  | .con p q, v => ∃ a u z, v = .ref a ∧ SqT K H a [.str "all", u, z] ∧ DC K H p u ∧ DC K H q z
  | .dis p q, v => ∃ a u z, v = .ref a ∧ SqT K H a [.str "any", u, z] ∧ DC K H p u ∧ DC K H q z
theorem DC.tm {K : PySem.W.Frag} {H H' : Hp} (e : TM K H H') : ∀ {t : Cond} {v : V}, DC K H t v → DC K H' t v
  | .lt p q, v, ⟨a, u, z, h1, h2, h3, h4⟩ => ⟨a, u, z, h1, e _ _ h2, DN.tm e h3, DN.tm e h4⟩
  | .neg p, v, ⟨a, u, h1, h2, h3⟩ => ⟨a, u, h1, e _ _ h2, DC.tm e h3⟩
  | .con p q, v, ⟨a, u, z, h1, h2, h3, h4⟩ => ⟨a, u, z, h1, e _ _ h2, DC.tm e h3, DC.tm e h4⟩
  | .dis p q, v, ⟨a, u, z, h1, h2, h3, h4⟩ => ⟨a, u, z, h1, e _ _ h2, DC.tm e h3, DC.tm e h4⟩
def spAsked (K : PySem.W.Frag) (n : Nat) : Sp := fun vs H Q _ => ∃ (c : Cfg) (ns : List Int) (xs : List Str) (s na nm : Addr) (d : Int), vs = [.ref s, .int d] ∧ LS K c ns xs s na nm H ∧ 0 ≤ d ∧ d < n ∧
  ∀ (v : V) (t : Cond) (H' : Hp), KB s H H' → LS K c ns xs s na nm H' → DC K H' t v → t.In xs 1 → (t.deep : Int) ≤ d → Q v H'
theorem use_asked {K : PySem.W.Frag} {n : Nat} {c : Cfg} {ns : List Int} {xs : List Str} {s na nm : Addr} {d : Int} {H : Hp} {Q : VK} {E : XK} (L : LS K c ns xs s na nm H) (h0 : 0 ≤ d) (h1 : d < n)
    (q : ∀ (v : V) (t : Cond) (H' : Hp), KB s H H' → LS K c ns xs s na nm H' → DC K H' t v → t.In xs 1 → (t.deep : Int) ≤ d → Q v H') : spAsked K n ([.ref s, .int d] ++ []) H Q E := ⟨c, ns, xs, s, na, nm, d, rfl, L, h0, h1, q⟩
section
variable {P : Program} {w : World} {K : PySem.W.Frag} {mg : Str → Option Value} {base : Heap}
abbrev s__law_asked : Stmt := topS 50
theorem sc__law_asked : FnScope ["_law_s", "_law_deep", "_law_way", "_law_one"] ["_law_s", "_law_deep"] (defScope s__law_asked) := ⟨rfl, rfl, rfl, by decide +kernel, rfl, by decide +kernel, by decide +kernel⟩
theorem h__law_asked {n : Nat} {k : Nat} {f : Addr} {fd : FuncData} (O : Own K mg "_law_asked" s__law_asked ["_law_s", "_law_deep"] f fd)  {f__law_asked : Addr} {fd__law_asked : FuncData} (D__law_asked : Has P w K mg base "_law_asked" ["_law_s", "_law_deep"] k CX0 (spAsked K n) f__law_asked fd__law_asked) {f__law_told : Addr} {fd__law_told : FuncData} (D__law_told : Has P w K mg base "_law_told" ["_law_s", "_law_deep"] k CX0 (spTold K 4) f__law_told fd__law_told) {f__law_taken : Addr} {fd__law_taken : FuncData} (D__law_taken : Has P w K mg base "_law_taken" ["_law_s", "_law_most"] k CX0 (spTaken K) f__law_taken fd__law_taken) : Has P w K mg base "_law_asked" ["_law_s", "_law_deep"] (k + 1) CX0 (spAsked K (n + 1)) f fd := by
  refine O.has (O.F.ok sc__law_asked (fun vs H Q E h => ?_) (fun cdv A outer s H vs Q E hr h => ?_))
  · obtain ⟨c, ns, xs, s, na, nm, d, rfl, _⟩ := h
    rfl
  obtain ⟨c, ns, xs, s, na, nm, d, rfl, L, h0, h1, q⟩ := h
  refine ⟨_, (pss_cons (ps_set (i := 2) sc__law_asked.nd rfl (.inl rfl) (pe_call D__law_taken.G hr (by rfl) D__law_taken.g D__law_taken.k D__law_taken.b .nil pass0 (pa_cons (pv 0) (pa_cons pe_int pa_nil)))) (pss_cons (ps_if (PW.pt (pw_or (pt_cmpR op_lt (pv 2) pe_int (nomark _)) (pw_or1 (pt_cmpR op_eq (pv 1) pe_int (nomark _))))) (pss_cons (ps_set (i := 3) sc__law_asked.nd rfl (.inl rfl) (pe_call D__law_told.G hr (by rfl) D__law_told.g D__law_told.k D__law_told.b .nil pass0 (pa_cons (pv 0) (pa_cons pe_int pa_nil)))) (pss_one (ps_ret (pe_tup (pa_cons pe_str (pa_cons (pv 3) (pa_cons (pe_call D__law_told.G hr (by rfl) D__law_told.g D__law_told.k D__law_told.b .nil pass0 (pa_cons (pv 0) (pa_cons pe_int pa_nil))) pa_nil))))))) pss_nil) (pss_cons (ps_set (i := 3) sc__law_asked.nd rfl (.inl rfl) (pe_call D__law_asked.G hr (by rfl) D__law_asked.g D__law_asked.k D__law_asked.b .nil pass0 (pa_cons (pv 0) (pa_cons (pe_op op_sub (pv 1) pe_int) pa_nil)))) (pss_cons (ps_if (pt_cmpR op_eq (pv 2) pe_int (nomark _)) (pss_one (ps_ret (pe_tup (pa_cons pe_str (pa_cons (pv 3) pa_nil))))) pss_nil) (pss_one (ps_ret (pe_tup (pa_cons (pe_ix ix_list (pe_lst (pa_cons pe_str (pa_cons pe_str pa_nil))) (pe_op op_sub (pv 2) pe_int) (fun _ _ => rfl)) (pa_cons (pv 3) (pa_cons (pe_call D__law_asked.G hr (by rfl) D__law_asked.g D__law_asked.k D__law_asked.b .nil pass0 (pa_cons (pv 0) (pa_cons (pe_op op_sub (pv 1) pe_int) pa_nil))) pa_nil)))))))))), ?_⟩
  walk_at "go"
  refine use_taken L (by decide) (by decide) fun r H1 a0 a1 e1 L1 => ?_
  walk_at "go"
  refine or_cut (d = 0) (fun hc => ?_) (fun c1 back => ?_)
  · walk_at "go"
    refine use_told L1 (by decide) (by decide) fun u t1 H2 e2 L2 d1 i1 p1 => ?_
    walk_at "go"
    refine use_told L2 (by decide) (by decide) fun z t2 H3 e3 L3 d2 i2 p2 => ?_
    walk_at "go"
    refine ⟨by show 3 ≤ sizeLine; decide, fun p np => ?_⟩
    have s4 := same_new (o := .tup [.str "below", u, z]) np
    refine q _ (.lt t1 t2) _ (((e1.trans e2).trans e3).trans (.of s4)) (L3.same s4) ⟨p, u, z, rfl, sqt upd_same, ?_, ?_⟩ ⟨⟨i1, by omega⟩, i2, by omega⟩ h0
    · exact DN.tm ((L2.tm e3).trans (.of s4)) d1
    · exact DN.tm (.of s4) d2
  · walk_at "go"
    refine ifd back (fun c2 => ?_)
    walk_at "go"
    refine use_asked L1 (by omega) (by omega) fun u t1 H2 e2 L2 d1 i1 p1 => ?_
    walk_at "go"
    refine ifd (fun c3 => ?_) (fun c3 => ?_)
    · walk_at "go"
      refine ⟨by show 2 ≤ sizeLine; decide, fun p np => ?_⟩
      have s3 := same_new (o := .tup [.str "not", u]) np
      exact q _ (.neg t1) _ ((e1.trans e2).trans (.of s3)) (L2.same s3) ⟨p, u, rfl, sqt upd_same, DC.tm (.of s3) d1⟩ i1 (by show ((t1.deep + 1 : Nat) : Int) ≤ d; omega)
    · walk_at "go"
      refine ⟨by show 2 ≤ sizeLine; decide, fun p np => ?_⟩
      have s3 := same_new (o := .lst [.str "all", .str "any"]) np
      have L3 := L2.same s3
      walk_at "go"
      have fin : ∀ (o : Bool), atI [V.str "all", V.str "any"] (r - 4) = some (.str (if o then "all" else "any")) → _ := fun o => id
      have hw : atI [V.str "all", V.str "any"] (r - 4) = some (.str "all") ∨ atI [V.str "all", V.str "any"] (r - 4) = some (.str "any") := by
        have : r - 4 = 0 ∨ r - 4 = 1 := by omega
        rcases this with e | e
        · rw [e]; exact .inl (at_any (j := 0) rfl rfl)
        · rw [e]; exact .inr (at_any (j := 1) rfl rfl)
      rcases hw with hw | hw
      · refine ⟨_, _, _, _, rfl, rfl, sql upd_same, hw, ?_⟩
        walk_at "go"
        refine use_asked L3 (by omega) (by omega) fun z t2 H4 e4 L4 d2 i2 p2 => ?_
        walk_at "go"
        refine ⟨by show 3 ≤ sizeLine; decide, fun p' np' => ?_⟩
        have s5 := same_new (o := .tup [.str "all", u, z]) np'
        refine q _ (.con t1 t2) _ ((((e1.trans e2).trans (.of s3)).trans e4).trans (.of s5)) (L4.same s5) ⟨p', u, z, rfl, sqt upd_same, ?_, ?_⟩ ⟨i1, i2⟩ ?_
        · exact DC.tm (((TM.of s3).trans (L3.tm e4)).trans (.of s5)) d1
        · exact DC.tm (.of s5) d2
        · show ((max t1.deep t2.deep + 1 : Nat) : Int) ≤ d
          omega
      · refine ⟨_, _, _, _, rfl, rfl, sql upd_same, hw, ?_⟩
        walk_at "go"
        refine use_asked L3 (by omega) (by omega) fun z t2 H4 e4 L4 d2 i2 p2 => ?_
        walk_at "go"
        refine ⟨by show 3 ≤ sizeLine; decide, fun p' np' => ?_⟩
        have s5 := same_new (o := .tup [.str "any", u, z]) np'
        refine q _ (.dis t1 t2) _ ((((e1.trans e2).trans (.of s3)).trans e4).trans (.of s5)) (L4.same s5) ⟨p', u, z, rfl, sqt upd_same, ?_, ?_⟩ ⟨i1, i2⟩ ?_
        · exact DC.tm (((TM.of s3).trans (L3.tm e4)).trans (.of s5)) d1
        · exact DC.tm (.of s5) d2
        · show ((max t1.deep t2.deep + 1 : Nat) : Int) ≤ d
          omega
theorem none_asked {f : Addr} {fd : FuncData} : FnOk P w K mg base CX0 0 f fd ["_law_s", "_law_deep"] (spAsked K 0) := by
  have no : ∀ vs H Q E, ¬ spAsked K 0 vs H Q E := fun vs H Q E h => by
    obtain ⟨c, ns, xs, s, na, nm, d, _, _, h0, h1, _⟩ := h
    omega
  exact ⟨fun vs H Q E h => absurd h (no vs H Q E), fun A outer s H args us vs Q E _ _ _ _ h => absurd h (no vs H Q E)⟩
end

/-! ### words are words, and differ -/
def isW (x : Str) : Bool := decide (1 ≤ x.length) && (decide (x.length ≤ 8) && x.cps.toList.all fun c => decide (97 ≤ c) && decide (c ≤ 122))
theorem wd_codes {c : Cfg} {k : Int} (h : ¬ (c.ta = 1 ∧ k < 12)) : (wd c k).cps.toList = List.replicate c.pl.toNat 113 ++ (97 + ((k + c.tu) % 26).toNat) :: List.replicate (c.sz - c.pl - 1).toNat 113 := by
  unfold wd
  rw [if_neg h]
  show ((rp 113 c.pl).cps ++ #[97 + ((k + c.tu) % 26).toNat] ++ (rp 113 (c.sz - c.pl - 1)).cps).toList = _
  simp [rp]
theorem talk_words : ∀ i : Fin 12, isW (wordsL.getD i.val "none") = true := by decide +kernel
theorem talk_ne : ∀ i j : Fin 12, wordsL.getD i.val "none" = wordsL.getD j.val "none" → i = j := by decide +kernel
theorem wd_word {c : Cfg} (ok : c.Ok) {k : Int} (h0 : 0 ≤ k) : isW (wd c k) = true := by
  by_cases h : c.ta = 1 ∧ k < 12
  · unfold wd
    rw [if_pos h]
    exact talk_words ⟨k.toNat, by omega⟩
  · have e := wd_codes h
    have h1 := ok.pl0
    have h2 := ok.plz
    have h3 := ok.sz8
    have l : (wd c k).length = c.pl.toNat + (1 + (c.sz - c.pl - 1).toNat) := by
      show (wd c k).cps.size = _
      rw [← Array.length_toList, e]
      simp
      omega
    unfold isW
    rw [l, e]
    have b0 : 0 ≤ (k + c.tu) % 26 := Int.emod_nonneg _ (by decide)
    have b1 : (k + c.tu) % 26 < 26 := Int.emod_lt_of_pos _ (by decide)
    simp only [Bool.and_eq_true, decide_eq_true_eq, List.all_eq_true, List.mem_append, List.mem_cons, List.mem_replicate]
    refine ⟨by omega, by omega, fun x hx => ?_⟩
    rcases hx with hx | hx | hx <;> omega
theorem wd_ne {c : Cfg} (ok : c.Ok) {i j : Int} (h0 : 0 ≤ i) (h1 : i < 12) (h2 : 0 ≤ j) (h3 : j < 12) (h : i ≠ j) : wd c i ≠ wd c j := fun e => by
  by_cases ht : c.ta = 1
  · have e1 : wd c i = wordsL.getD i.toNat "none" := by unfold wd; rw [if_pos ⟨ht, h1⟩]
    have e2 : wd c j = wordsL.getD j.toNat "none" := by unfold wd; rw [if_pos ⟨ht, h3⟩]
    rw [e1, e2] at e
    have := talk_ne ⟨i.toNat, by omega⟩ ⟨j.toNat, by omega⟩ e
    have := congrArg Fin.val this
    simp at this
    omega
  · have q := congrArg (fun z : Str => z.cps.toList) e
    simp only [wd_codes (fun z => ht z.1)] at q
    have q2 := List.append_cancel_left q
    have q3 := (List.cons.inj q2).1
    omega
/-! ### contracts -/
inductive Con where
  | none
  | give (a b g : Str) (o : Num)
  | both (c d : Con)
  | turned (a b : Str) (c : Con)
  | later (n : Int) (c : Con)
  | often (n g : Int) (c : Con)
  | ite (q : Cond) (c d : Con)
  | whn (q : Cond) (c : Con)
  | untl (q : Cond) (c : Con)
def Con.deep : Con → Nat
  | .none => 0
  | .give _ _ _ _ => 0
  | .both c d => max c.deep d.deep + 1
  | .turned _ _ c => c.deep + 1
  | .later _ c => c.deep + 1
  | .often _ _ c => c.deep + 1
  | .ite _ c d => max c.deep d.deep + 1
  | .whn _ c => c.deep + 1
  | .untl _ c => c.deep + 1
def Con.In (xs : List Str) : Con → Prop
  | .none => True
  | .give a b g o => ((isW a = true ∧ isW b = true ∧ isW g = true) ∧ a ≠ b) ∧ o.In xs ∧ o.deep ≤ 2
  | .both c d => c.In xs ∧ d.In xs
  | .turned a b c => ((isW a = true ∧ isW b = true) ∧ a ≠ b) ∧ c.In xs
  | .later n c => (0 ≤ n ∧ n ≤ 99) ∧ c.In xs
  | .often n g c => (1 ≤ n ∧ n ≤ 9) ∧ (1 ≤ g ∧ g ≤ 99) ∧ c.In xs
  | .ite q c d => (q.In xs 1 ∧ q.deep ≤ 2) ∧ c.In xs ∧ d.In xs
  | .whn q c => (q.In xs 1 ∧ q.deep ≤ 2) ∧ c.In xs
  | .untl q c => (q.In xs 1 ∧ q.deep ≤ 2) ∧ c.In xs
def DK (K : PySem.W.Frag) (H : Hp) : Con → V → Prop
  | .none, v => ∃ p, v = .ref p ∧ SqT K H p [.str "none"]
  | .give a b g o, v => ∃ p u, v = .ref p ∧ SqT K H p [.str "give", .str a, .str b, .str g, u] ∧ DN K H o u
  | .both c d, v => ∃ p u z, v = .ref p ∧ SqT K H p [.str "both", u, z] ∧ DK K H c u ∧ DK K H d z
  | .turned a b c, v => ∃ p u, v = .ref p ∧ SqT K H p [.str "turned", .str a, .str b, u] ∧ DK K H c u
  | .later n c, v => ∃ p u, v = .ref p ∧ SqT K H p [.str "later", .int n, u] ∧ DK K H c u
  | .often n g c, v => ∃ p u, v = .ref p ∧ SqT K H p [.str "often", .int n, .int g, u] ∧ DK K H c u
  | .ite q c d, v => ∃ p x u z, v = .ref p ∧ SqT K H p [.str "if", x, u, z] ∧ DC K H q x ∧ DK K H c u ∧ DK K H d z
  | .whn q c, v => ∃ p x u, v = .ref p ∧ SqT K H p [.str "when", x, u] ∧ DC K H q x ∧ DK K H c u
  | .untl q c, v => ∃ p x u, v = .ref p ∧ SqT K H p [.str "until", x, u] ∧ DC K H q x ∧ DK K H c u
theorem DK.tm {K : PySem.W.Frag} {H H' : Hp} (e : TM K H H') : ∀ {t : Con} {v : V}, DK K H t v → DK K H' t v
  | .none, v, ⟨p, h1, h2⟩ => ⟨p, h1, e _ _ h2⟩
  | .give a b g o, v, ⟨p, u, h1, h2, h3⟩ => ⟨p, u, h1, e _ _ h2, DN.tm e h3⟩
  | .both c d, v, ⟨p, u, z, h1, h2, h3, h4⟩ => ⟨p, u, z, h1, e _ _ h2, DK.tm e h3, DK.tm e h4⟩
  | .turned a b c, v, ⟨p, u, h1, h2, h3⟩ => ⟨p, u, h1, e _ _ h2, DK.tm e h3⟩
  | .later n c, v, ⟨p, u, h1, h2, h3⟩ => ⟨p, u, h1, e _ _ h2, DK.tm e h3⟩
  | .often n g c, v, ⟨p, u, h1, h2, h3⟩ => ⟨p, u, h1, e _ _ h2, DK.tm e h3⟩
  | .ite q c d, v, ⟨p, x, u, z, h1, h2, h3, h4, h5⟩ => ⟨p, x, u, z, h1, e _ _ h2, DC.tm e h3, DK.tm e h4, DK.tm e h5⟩
  | .whn q c, v, ⟨p, x, u, h1, h2, h3, h4⟩ => ⟨p, x, u, h1, e _ _ h2, DC.tm e h3, DK.tm e h4⟩
  | .untl q c, v, ⟨p, x, u, h1, h2, h3, h4⟩ => ⟨p, x, u, h1, e _ _ h2, DC.tm e h3, DK.tm e h4⟩
theorem pick2 {α : Type} (x y : α) (b : Bool) : atI [x, y] (if b = true then 1 else 0) = some (if b = true then y else x) := by
  cases b
  · exact at_any (j := 0) rfl rfl
  · exact at_any (j := 1) rfl rfl
theorem pick3 {i : Int} (x y z : V) (h0 : 0 ≤ i) (h1 : i < 3) : atI [x, y, z] i = some x ∨ atI [x, y, z] i = some y ∨ atI [x, y, z] i = some z := by
  have : i = 0 ∨ i = 1 ∨ i = 2 := by omega
  rcases this with rfl | rfl | rfl
  · exact .inl (at_any (j := 0) rfl rfl)
  · exact .inr (.inl (at_any (j := 1) rfl rfl))
  · exact .inr (.inr (at_any (j := 2) rfl rfl))
theorem pick2i {i : Int} (x y : V) (h0 : 0 ≤ i) (h1 : i < 2) : atI [x, y] i = some x ∨ atI [x, y] i = some y := by
  have : i = 0 ∨ i = 1 := by omega
  rcases this with rfl | rfl
  · exact .inl (at_any (j := 0) rfl rfl)
  · exact .inr (at_any (j := 1) rfl rfl)
/-- two sides -/
def spSides (K : PySem.W.Frag) : Sp := fun vs H Q _ => ∃ (c : Cfg) (ns : List Int) (xs : List Str) (s na nm : Addr), vs = [.ref s] ∧ LS K c ns xs s na nm H ∧
  ∀ (p : Addr) (i j : Int) (H' : Hp), 0 ≤ i → i < 4 → 0 ≤ j → j < 4 → i ≠ j → KB s H H' → LS K c ns xs s na nm H' → SqT K H' p [.str (wd c i), .str (wd c j)] → Q (.ref p) H'
theorem use_sides {K : PySem.W.Frag} {c : Cfg} {ns : List Int} {xs : List Str} {s na nm : Addr} {H : Hp} {Q : VK} {E : XK} (L : LS K c ns xs s na nm H)
    (q : ∀ (p : Addr) (i j : Int) (H' : Hp), 0 ≤ i → i < 4 → 0 ≤ j → j < 4 → i ≠ j → KB s H H' → LS K c ns xs s na nm H' → SqT K H' p [.str (wd c i), .str (wd c j)] → Q (.ref p) H') : spSides K ([.ref s] ++ []) H Q E := ⟨c, ns, xs, s, na, nm, rfl, L, q⟩
def spGood (K : PySem.W.Frag) : Sp := fun vs H Q _ => ∃ (c : Cfg) (ns : List Int) (xs : List Str) (s na nm : Addr), vs = [.ref s] ∧ LS K c ns xs s na nm H ∧
  ∀ (i : Int) (H' : Hp), 4 ≤ i → i < 8 → KB s H H' → LS K c ns xs s na nm H' → Q (.str (wd c i)) H'
theorem use_good {K : PySem.W.Frag} {c : Cfg} {ns : List Int} {xs : List Str} {s na nm : Addr} {H : Hp} {Q : VK} {E : XK} (L : LS K c ns xs s na nm H)
    (q : ∀ (i : Int) (H' : Hp), 4 ≤ i → i < 8 → KB s H H' → LS K c ns xs s na nm H' → Q (.str (wd c i)) H') : spGood K ([.ref s] ++ []) H Q E := ⟨c, ns, xs, s, na, nm, rfl, L, q⟩
def spGive (K : PySem.W.Frag) : Sp := fun vs H Q _ => ∃ (c : Cfg) (ns : List Int) (xs : List Str) (s na nm : Addr), vs = [.ref s] ∧ LS K c ns xs s na nm H ∧
  ∀ (v : V) (t : Con) (H' : Hp), KB s H H' → LS K c ns xs s na nm H' → DK K H' t v → t.In xs → t.deep = 0 → Q v H'
theorem use_give {K : PySem.W.Frag} {c : Cfg} {ns : List Int} {xs : List Str} {s na nm : Addr} {H : Hp} {Q : VK} {E : XK} (L : LS K c ns xs s na nm H)
    (q : ∀ (v : V) (t : Con) (H' : Hp), KB s H H' → LS K c ns xs s na nm H' → DK K H' t v → t.In xs → t.deep = 0 → Q v H') : spGive K ([.ref s] ++ []) H Q E := ⟨c, ns, xs, s, na, nm, rfl, L, q⟩
section
variable {P : Program} {w : World} {K : PySem.W.Frag} {mg : Str → Option Value} {base : Heap}
abbrev s__law_sides : Stmt := topS 51
theorem sc__law_sides : FnScope ["_law_s", "_law_many", "_law_one", "_law_other"] ["_law_s"] (defScope s__law_sides) := ⟨rfl, rfl, rfl, by decide +kernel, rfl, by decide +kernel, by decide +kernel⟩
theorem h__law_sides {k : Nat} {f : Addr} {fd : FuncData} (O : Own K mg "_law_sides" s__law_sides ["_law_s"] f fd)  {f__law_word : Addr} {fd__law_word : FuncData} (D__law_word : Has P w K mg base "_law_word" ["_law_s", "_law_k"] k CX0 (spWord K) f__law_word fd__law_word) {f__law_taken : Addr} {fd__law_taken : FuncData} (D__law_taken : Has P w K mg base "_law_taken" ["_law_s", "_law_most"] k CX0 (spTaken K) f__law_taken fd__law_taken) : Has P w K mg base "_law_sides" ["_law_s"] (k + 1) CX0 (spSides K) f fd := by
  refine O.has (O.F.ok sc__law_sides (fun vs H Q E h => ?_) (fun cdv A outer s H vs Q E hr h => ?_))
  · obtain ⟨c, ns, xs, s, na, nm, rfl, _⟩ := h
    rfl
  obtain ⟨c, ns, xs, s, na, nm, rfl, L, q⟩ := h
  refine ⟨_, (pss_cons (ps_set (i := 1) sc__law_sides.nd rfl (.inl rfl) (pe_ix ix_list (pe_lst (pa_cons pe_int (pa_cons pe_int (pa_cons pe_int pa_nil)))) (pe_call D__law_taken.G hr (by rfl) D__law_taken.g D__law_taken.k D__law_taken.b .nil pass0 (pa_cons (pv 0) (pa_cons pe_int pa_nil))) (fun _ _ => rfl))) (pss_cons (ps_set (i := 2) sc__law_sides.nd rfl (.inl rfl) (pe_call D__law_taken.G hr (by rfl) D__law_taken.g D__law_taken.k D__law_taken.b .nil pass0 (pa_cons (pv 0) (pa_cons (pv 1) pa_nil)))) (pss_cons (ps_set (i := 3) sc__law_sides.nd rfl (.inl rfl) (pe_op op_mod (pe_op op_add (pe_op op_add (pv 2) pe_int) (pe_call D__law_taken.G hr (by rfl) D__law_taken.g D__law_taken.k D__law_taken.b .nil pass0 (pa_cons (pv 0) (pa_cons (pe_op op_sub (pv 1) pe_int) pa_nil)))) (pv 1))) (pss_one (ps_ret (pe_tup (pa_cons (pe_call D__law_word.G hr (by rfl) D__law_word.g D__law_word.k D__law_word.b .nil pass0 (pa_cons (pv 0) (pa_cons (pv 2) pa_nil))) (pa_cons (pe_call D__law_word.G hr (by rfl) D__law_word.g D__law_word.k D__law_word.b .nil pass0 (pa_cons (pv 0) (pa_cons (pv 3) pa_nil))) pa_nil)))))))), ?_⟩
  walk_at "go"
  refine ⟨by show 3 ≤ sizeLine; decide, fun p0 np0 => ?_⟩
  have s0 := same_new (o := .lst [.int 3, .int 3, .int 4]) np0
  have L0 := L.same s0
  walk_at "go"
  refine use_taken L0 (by decide) (by decide) fun r H1 a0 a1 e1 L1 => ?_
  obtain ⟨n0, re0, mx0, hs0, _⟩ := L0.st
  have hp0 : H1 p0 = some (.lst [.int 3, .int 3, .int 4]) := e1 _ _ (fun z => by rw [← z, upd_same] at hs0; cases hs0) upd_same
  have hm : ∃ m : Int, atI [V.int 3, V.int 3, V.int 4] r = some (.int m) ∧ 3 ≤ m ∧ m ≤ 4 := by
    rcases pick3 (.int 3) (.int 3) (.int 4) a0 a1 with z | z | z
    · exact ⟨3, z, by decide, by decide⟩
    · exact ⟨3, z, by decide, by decide⟩
    · exact ⟨4, z, by decide, by decide⟩
  obtain ⟨m, hm, m0, m1⟩ := hm
  refine ⟨_, _, _, _, rfl, rfl, sql hp0, hm, ?_⟩
  walk_at "go"
  refine use_taken L1 (by omega) (by omega) fun i H2 b0 b1 e2 L2 => ?_
  walk_at "go"
  refine use_taken L2 (by omega) (by omega) fun j H3 c0 c1 e3 L3 => ?_
  walk_at "go"
  refine g_I (by omega) ?_
  have d0 : 0 ≤ (i + 1 + j) % m := Int.emod_nonneg _ (by omega)
  have d1 : (i + 1 + j) % m < m := Int.emod_lt_of_pos _ (by omega)
  have d2 : (i + 1 + j) % m ≠ i := by
    have hm3 : m = 3 ∨ m = 4 := by omega
    rcases hm3 with rfl | rfl <;> omega
  generalize (i + 1 + j) % m = o at d0 d1 d2 ⊢
  walk_at "go"
  refine use_word L3 b0 (by omega) fun H4 e4 => ?_
  walk_at "go"
  refine use_word (L3.same e4) d0 (by omega) fun H5 e5 => ?_
  refine ⟨by show 2 ≤ sizeLine; decide, fun p np => ?_⟩
  have s6 := (e4.trans e5).trans (same_new (o := .tup [.str (wd c i), .str (wd c o)]) np)
  exact q p i o _ b0 (by omega) d0 (by omega) d2.symm (((((KB.of s0).trans e1).trans e2).trans e3).trans (.of s6)) (L3.same s6) (sqt upd_same)
abbrev s__law_good : Stmt := topS 52
theorem sc__law_good : FnScope ["_law_s"] ["_law_s"] (defScope s__law_good) := ⟨rfl, rfl, rfl, by decide +kernel, rfl, by decide +kernel, by decide +kernel⟩
theorem h__law_good {k : Nat} {f : Addr} {fd : FuncData} (O : Own K mg "_law_good" s__law_good ["_law_s"] f fd)  {f__law_word : Addr} {fd__law_word : FuncData} (D__law_word : Has P w K mg base "_law_word" ["_law_s", "_law_k"] k CX0 (spWord K) f__law_word fd__law_word) {f__law_taken : Addr} {fd__law_taken : FuncData} (D__law_taken : Has P w K mg base "_law_taken" ["_law_s", "_law_most"] k CX0 (spTaken K) f__law_taken fd__law_taken) : Has P w K mg base "_law_good" ["_law_s"] (k + 1) CX0 (spGood K) f fd := by
  refine O.has (O.F.ok sc__law_good (fun vs H Q E h => ?_) (fun cdv A outer s H vs Q E hr h => ?_))
  · obtain ⟨c, ns, xs, s, na, nm, rfl, _⟩ := h
    rfl
  obtain ⟨c, ns, xs, s, na, nm, rfl, L, q⟩ := h
  refine ⟨_, (pss_one (ps_ret (pe_call D__law_word.G hr (by rfl) D__law_word.g D__law_word.k D__law_word.b .nil pass0 (pa_cons (pv 0) (pa_cons (pe_op op_add pe_int (pe_call D__law_taken.G hr (by rfl) D__law_taken.g D__law_taken.k D__law_taken.b .nil pass0 (pa_cons (pv 0) (pa_cons (pe_ix ix_list (pe_lst (pa_cons pe_int (pa_cons pe_int (pa_cons pe_int pa_nil)))) (pe_call D__law_taken.G hr (by rfl) D__law_taken.g D__law_taken.k D__law_taken.b .nil pass0 (pa_cons (pv 0) (pa_cons pe_int pa_nil))) (fun _ _ => rfl)) pa_nil)))) pa_nil))))), ?_⟩
  walk_at "go"
  refine ⟨by show 3 ≤ sizeLine; decide, fun p0 np0 => ?_⟩
  have s0 := same_new (o := .lst [.int 2, .int 2, .int 4]) np0
  have L0 := L.same s0
  walk_at "go"
  refine use_taken L0 (by decide) (by decide) fun r H1 a0 a1 e1 L1 => ?_
  obtain ⟨n0, re0, mx0, hs0, _⟩ := L0.st
  have hp0 : H1 p0 = some (.lst [.int 2, .int 2, .int 4]) := e1 _ _ (fun z => by rw [← z, upd_same] at hs0; cases hs0) upd_same
  have hm : ∃ m : Int, atI [V.int 2, V.int 2, V.int 4] r = some (.int m) ∧ 2 ≤ m ∧ m ≤ 4 := by
    rcases pick3 (.int 2) (.int 2) (.int 4) a0 a1 with z | z | z
    · exact ⟨2, z, by decide, by decide⟩
    · exact ⟨2, z, by decide, by decide⟩
    · exact ⟨4, z, by decide, by decide⟩
  obtain ⟨m, hm, m0, m1⟩ := hm
  refine ⟨_, _, _, _, rfl, rfl, sql hp0, hm, ?_⟩
  walk_at "go"
  refine use_taken L1 (by omega) (by omega) fun i H2 b0 b1 e2 L2 => ?_
  walk_at "go"
  refine use_word L2 (by omega) (by omega) fun H3 e3 => ?_
  exact q (4 + i) _ (by omega) (by omega) ((((KB.of s0).trans e1).trans e2).trans (.of e3)) (L2.same e3)
abbrev s__law_give : Stmt := topS 53
theorem sc__law_give : FnScope ["_law_s", "_law_one", "_law_other", "_law_good_here"] ["_law_s"] (defScope s__law_give) := ⟨rfl, rfl, rfl, by decide +kernel, rfl, by decide +kernel, by decide +kernel⟩
theorem h__law_give {k : Nat} {f : Addr} {fd : FuncData} (O : Own K mg "_law_give" s__law_give ["_law_s"] f fd)  {f__law_told : Addr} {fd__law_told : FuncData} (D__law_told : Has P w K mg base "_law_told" ["_law_s", "_law_deep"] k CX0 (spTold K 4) f__law_told fd__law_told) {f__law_good : Addr} {fd__law_good : FuncData} (D__law_good : Has P w K mg base "_law_good" ["_law_s"] k CX0 (spGood K) f__law_good fd__law_good) {f__law_sides : Addr} {fd__law_sides : FuncData} (D__law_sides : Has P w K mg base "_law_sides" ["_law_s"] k CX0 (spSides K) f__law_sides fd__law_sides) : Has P w K mg base "_law_give" ["_law_s"] (k + 1) CX0 (spGive K) f fd := by
  refine O.has (O.F.ok sc__law_give (fun vs H Q E h => ?_) (fun cdv A outer s H vs Q E hr h => ?_))
  · obtain ⟨c, ns, xs, s, na, nm, rfl, _⟩ := h
    rfl
  obtain ⟨c, ns, xs, s, na, nm, rfl, L, q⟩ := h
  refine ⟨_, (pss_cons (ps_asg (pe_call D__law_sides.G hr (by rfl) D__law_sides.g D__law_sides.k D__law_sides.b .nil pass0 (pa_cons (pv 0) pa_nil)) (pg_tup rfl (pgs_cons (pg_name (i := 1) sc__law_give.nd rfl (.inl rfl)) (pgs_cons (pg_name (i := 2) sc__law_give.nd rfl (.inl rfl)) pgs_nil)))) (pss_cons (ps_set (i := 3) sc__law_give.nd rfl (.inl rfl) (pe_call D__law_good.G hr (by rfl) D__law_good.g D__law_good.k D__law_good.b .nil pass0 (pa_cons (pv 0) pa_nil))) (pss_one (ps_ret (pe_tup (pa_cons pe_str (pa_cons (pv 1) (pa_cons (pv 2) (pa_cons (pv 3) (pa_cons (pe_call D__law_told.G hr (by rfl) D__law_told.g D__law_told.k D__law_told.b .nil pass0 (pa_cons (pv 0) (pa_cons pe_int pa_nil))) pa_nil)))))))))), ?_⟩
  walk_at "go"
  refine use_sides L fun p i j H1 i0 i1 j0 j1 ij e1 L1 hp => ?_
  refine g_gtup hp rfl ?_
  walk_at "go"
  refine use_good L1 fun g H2 g0 g1 e2 L2 => ?_
  walk_at "go"
  refine use_told L2 (by decide) (by decide) fun u t H3 e3 L3 d3 i3 p3 => ?_
  walk_at "go"
  refine ⟨by show 5 ≤ sizeLine; decide, fun p' np => ?_⟩
  have s4 := same_new (o := .tup [.str "give", .str (wd c i), .str (wd c j), .str (wd c g), u]) np
  have ok := L.ok
  exact q _ (.give (wd c i) (wd c j) (wd c g) t) _ (((e1.trans e2).trans e3).trans (.of s4)) (L3.same s4) ⟨p', u, rfl, sqt upd_same, DN.tm (.of s4) d3⟩
    ⟨⟨⟨wd_word ok i0, wd_word ok j0, wd_word ok (by omega)⟩, wd_ne ok i0 (by omega) j0 (by omega) ij⟩, i3, by omega⟩ rfl
end

/-- the dict's names are set anew -/
theorem LS.names {K : PySem.W.Frag} {c : Cfg} {ns : List Int} {xs ys : List Str} {s na nm l : Addr} {H : Hp} {n re mx : Int} (L : LS K c ns xs s na nm H) (h0 : 0 ≤ n) (h1 : 0 ≤ re) (h2 : 0 ≤ mx) (h3 : mx < 2147483647) (hl : H l = some (.lst (ys.map V.str))) (hy : ys.length ≤ 8) :
    LS K c ns ys s na l (upd H s (.dK (sd c na l n re mx))) := by
  obtain ⟨⟨n', re', mx', h, r⟩, g1, g2, g3, g4, g5⟩ := L
  exact ⟨⟨n, re, mx, upd_same, h0, h1, h2, h3⟩, KB.seq KB.upd h g1, KB.seq KB.upd h (sql hl), g3, g4, hy⟩
/-- a list that was made while the drawing stood is changed -/
theorem LS.push {K : PySem.W.Frag} {c : Cfg} {ns : List Int} {xs : List Str} {s na nm D : Addr} {H2 H4 : Hp} {zs : List V} {o : HO} (L2 : LS K c ns xs s na nm H2) (nD : H2 D = none) (L4 : LS K c ns xs s na nm H4) (hD : H4 D = some (.lst zs)) :
    LS K c ns xs s na nm (upd H4 D o) := by
  obtain ⟨n, re, mx, hs, bd⟩ := L4.st
  have hDs : D ≠ s := ne_of hD hs (fun z => by cases z)
  have hlp : ∀ a u, a ≠ D → H4 a = some u → upd H4 D o a = some u := fun a u n h => by rw [upd_ne n]; exact h
  have ap : ∀ {b : Addr} {zs : List V}, SqL K H2 b zs → SqL K H4 b zs → SqL K (upd H4 D o) b zs := fun {b zs} y z => by
    have far : b ≠ D → SqL K (upd H4 D o) b zs := fun ne => by
      rcases z with (z | ⟨u, z⟩) | z
      · exact .inl (.inl (hlp _ _ ne z))
      · exact .inl (.inr ⟨u, hlp _ _ ne z⟩)
      · exact .inr z
    rcases y with (y | ⟨u, y⟩) | y
    · exact far (ne_of_none y nD)
    · exact far (ne_of_none y nD)
    · exact .inr y
  exact ⟨⟨n, re, mx, hlp _ _ hDs.symm hs, bd⟩, ap L2.num L4.num, ap L2.nms L4.nms, L4.ok, L4.len, L4.few⟩

def spContract (K : PySem.W.Frag) (n : Nat) : Sp := fun vs H Q _ => ∃ (c : Cfg) (ns : List Int) (xs : List Str) (s na nm : Addr) (d : Int), vs = [.ref s, .int d] ∧ LS K c ns xs s na nm H ∧ 0 ≤ d ∧ d < n ∧
  ∀ (v : V) (t : Con) (H' : Hp), KB s H H' → LS K c ns xs s na nm H' → DK K H' t v → t.In xs → (t.deep : Int) ≤ d → Q v H'
theorem use_contract {K : PySem.W.Frag} {n : Nat} {c : Cfg} {ns : List Int} {xs : List Str} {s na nm : Addr} {d : Int} {H : Hp} {Q : VK} {E : XK} (L : LS K c ns xs s na nm H) (h0 : 0 ≤ d) (h1 : d < n)
    (q : ∀ (v : V) (t : Con) (H' : Hp), KB s H H' → LS K c ns xs s na nm H' → DK K H' t v → t.In xs → (t.deep : Int) ≤ d → Q v H') : spContract K n ([.ref s, .int d] ++ []) H Q E := ⟨c, ns, xs, s, na, nm, d, rfl, L, h0, h1, q⟩
theorem none_contract {P : Program} {w : World} {K : PySem.W.Frag} {mg : Str → Option Value} {base : Heap} {f : Addr} {fd : FuncData} {ps : List Str} : FnOk P w K mg base CX0 0 f fd ps (spContract K 0) := by
  have no : ∀ vs H Q E, ¬ spContract K 0 vs H Q E := fun vs H Q E h => by
    obtain ⟨c, ns, xs, s, na, nm, d, _, _, h0, h1, _⟩ := h
    omega
  exact ⟨fun vs H Q E h => absurd h (no vs H Q E), fun A outer s H args us vs Q E _ _ _ _ h => absurd h (no vs H Q E)⟩
/-- a tuple told by two tuples put together -/
theorem cat2 {K : PySem.W.Frag} {H : Hp} {Q : VK} {a b : Addr} {xs ys : List V} (h1 : SqT K H a xs) (h2 : SqT K H b ys) (n1 : xs ≠ []) (n2 : ys ≠ []) (hl : xs.length + ys.length ≤ 1000) (q : ∀ p, H p = none → Q (.ref p) (upd H p (.tup (xs ++ ys)))) :
    rCatA K (.ref a) (.ref b) H Q := ⟨a, b, xs, ys, rfl, rfl, h1, h2, sz hl, fun z => absurd z n1, fun _ z => absurd z n2, fun _ _ => q⟩
section
variable {P : Program} {w : World} {K : PySem.W.Frag} {mg : Str → Option Value} {base : Heap}
abbrev s__law_contract : Stmt := topS 54
theorem sc__law_contract : FnScope ["_law_s", "_law_deep", "_law_way", "_law_one", "_law_hours", "_law_many", "_law_asked_here"] ["_law_s", "_law_deep"] (defScope s__law_contract) := ⟨rfl, rfl, rfl, by decide +kernel, rfl, by decide +kernel, by decide +kernel⟩
theorem h__law_contract {n : Nat} {k : Nat} {f : Addr} {fd : FuncData} (O : Own K mg "_law_contract" s__law_contract ["_law_s", "_law_deep"] f fd)  {f__law_contract : Addr} {fd__law_contract : FuncData} (D__law_contract : Has P w K mg base "_law_contract" ["_law_s", "_law_deep"] k CX0 (spContract K n) f__law_contract fd__law_contract) {f__law_asked : Addr} {fd__law_asked : FuncData} (D__law_asked : Has P w K mg base "_law_asked" ["_law_s", "_law_deep"] k CX0 (spAsked K 4) f__law_asked fd__law_asked) {f__law_taken : Addr} {fd__law_taken : FuncData} (D__law_taken : Has P w K mg base "_law_taken" ["_law_s", "_law_most"] k CX0 (spTaken K) f__law_taken fd__law_taken) {f__law_sides : Addr} {fd__law_sides : FuncData} (D__law_sides : Has P w K mg base "_law_sides" ["_law_s"] k CX0 (spSides K) f__law_sides fd__law_sides) {f__law_give : Addr} {fd__law_give : FuncData} (D__law_give : Has P w K mg base "_law_give" ["_law_s"] k CX0 (spGive K) f__law_give fd__law_give) (m_int : mg "int" = none) : Has P w K mg base "_law_contract" ["_law_s", "_law_deep"] (k + 1) CX0 (spContract K (n + 1)) f fd := by
  refine O.has (O.F.ok sc__law_contract (fun vs H Q E h => ?_) (fun cdv A outer s H vs Q E hr h => ?_))
  · obtain ⟨c, ns, xs, s, na, nm, d, rfl, _⟩ := h
    rfl
  obtain ⟨c, ns, xs, s, na, nm, d, rfl, L, h0, h1, q⟩ := h
  refine ⟨_, (pss_cons (ps_set (i := 2) sc__law_contract.nd rfl (.inl rfl) (pe_call D__law_taken.G hr (by rfl) D__law_taken.g D__law_taken.k D__law_taken.b .nil pass0 (pa_cons (pv 0) (pa_cons pe_int pa_nil)))) (pss_cons (ps_if (PW.pt (pw_or (pt_cmpR op_eq (pv 1) pe_int (nomark _)) (pw_or1 (pt_cmpR op_lt (pv 2) pe_int (nomark _))))) (pss_one (ps_ret (pe_call D__law_give.G hr (by rfl) D__law_give.g D__law_give.k D__law_give.b .nil pass0 (pa_cons (pv 0) pa_nil)))) pss_nil) (pss_cons (ps_if (pt_cmpR op_eq (pv 2) pe_int (nomark _)) (pss_one (ps_ret (pe_tup (pa_cons pe_str pa_nil)))) pss_nil) (pss_cons (ps_if (pt_cmpR op_lt (pv 2) pe_int (nomark _)) (pss_cons (ps_set (i := 3) sc__law_contract.nd rfl (.inl rfl) (pe_call D__law_contract.G hr (by rfl) D__law_contract.g D__law_contract.k D__law_contract.b .nil pass0 (pa_cons (pv 0) (pa_cons (pe_op op_sub (pv 1) pe_int) pa_nil)))) (pss_one (ps_ret (pe_tup (pa_cons pe_str (pa_cons (pv 3) (pa_cons (pe_call D__law_contract.G hr (by rfl) D__law_contract.g D__law_contract.k D__law_contract.b .nil pass0 (pa_cons (pv 0) (pa_cons (pe_op op_sub (pv 1) pe_int) pa_nil))) pa_nil))))))) pss_nil) (pss_cons (ps_if (pt_cmpR op_eq (pv 2) pe_int (nomark _)) (pss_one (ps_ret (pe_op op_catA (pe_op op_catA (pe_tup (pa_cons pe_str pa_nil)) (pe_call D__law_sides.G hr (by rfl) D__law_sides.g D__law_sides.k D__law_sides.b .nil pass0 (pa_cons (pv 0) pa_nil))) (pe_tup (pa_cons (pe_call D__law_contract.G hr (by rfl) D__law_contract.g D__law_contract.k D__law_contract.b .nil pass0 (pa_cons (pv 0) (pa_cons (pe_op op_sub (pv 1) pe_int) pa_nil))) pa_nil))))) pss_nil) (pss_cons (ps_if (pt_cmpR op_eq (pv 2) pe_int (nomark _)) (pss_cons (ps_set (i := 4) sc__law_contract.nd rfl (.inl rfl) (pe_ix ix_list (pe_lst (pa_cons (pe_call D__law_taken.G hr (by rfl) D__law_taken.g D__law_taken.k D__law_taken.b .nil pass0 (pa_cons (pv 0) (pa_cons pe_int pa_nil))) (pa_cons (pe_call D__law_taken.G hr (by rfl) D__law_taken.g D__law_taken.k D__law_taken.b .nil pass0 (pa_cons (pv 0) (pa_cons pe_int pa_nil))) pa_nil))) (pe_callTy call_int1 (by rfl) m_int (by decide +kernel) (pa_cons (pe_cmpR op_eq (pe_call D__law_taken.G hr (by rfl) D__law_taken.g D__law_taken.k D__law_taken.b .nil pass0 (pa_cons (pv 0) (pa_cons pe_int pa_nil))) pe_int (nomark _)) pa_nil)) (fun _ _ => rfl))) (pss_one (ps_ret (pe_tup (pa_cons pe_str (pa_cons (pv 4) (pa_cons (pe_call D__law_contract.G hr (by rfl) D__law_contract.g D__law_contract.k D__law_contract.b .nil pass0 (pa_cons (pv 0) (pa_cons (pe_op op_sub (pv 1) pe_int) pa_nil))) pa_nil))))))) pss_nil) (pss_cons (ps_if (pt_cmpR op_eq (pv 2) pe_int (nomark _)) (pss_cons (ps_set (i := 5) sc__law_contract.nd rfl (.inl rfl) (pe_ix ix_list (pe_lst (pa_cons (pe_op op_add pe_int (pe_call D__law_taken.G hr (by rfl) D__law_taken.g D__law_taken.k D__law_taken.b .nil pass0 (pa_cons (pv 0) (pa_cons pe_int pa_nil)))) (pa_cons (pe_op op_add pe_int (pe_call D__law_taken.G hr (by rfl) D__law_taken.g D__law_taken.k D__law_taken.b .nil pass0 (pa_cons (pv 0) (pa_cons pe_int pa_nil)))) pa_nil))) (pe_callTy call_int1 (by rfl) m_int (by decide +kernel) (pa_cons (pe_cmpR op_eq (pe_call D__law_taken.G hr (by rfl) D__law_taken.g D__law_taken.k D__law_taken.b .nil pass0 (pa_cons (pv 0) (pa_cons pe_int pa_nil))) pe_int (nomark _)) pa_nil)) (fun _ _ => rfl))) (pss_one (ps_ret (pe_tup (pa_cons pe_str (pa_cons (pv 5) (pa_cons (pe_op op_add pe_int (pe_call D__law_taken.G hr (by rfl) D__law_taken.g D__law_taken.k D__law_taken.b .nil pass0 (pa_cons (pv 0) (pa_cons pe_int pa_nil)))) (pa_cons (pe_call D__law_contract.G hr (by rfl) D__law_contract.g D__law_contract.k D__law_contract.b .nil pass0 (pa_cons (pv 0) (pa_cons (pe_op op_sub (pv 1) pe_int) pa_nil))) pa_nil)))))))) pss_nil) (pss_cons (ps_set (i := 6) sc__law_contract.nd rfl (.inl rfl) (pe_call D__law_asked.G hr (by rfl) D__law_asked.g D__law_asked.k D__law_asked.b .nil pass0 (pa_cons (pv 0) (pa_cons pe_int pa_nil)))) (pss_cons (ps_if (pt_cmpR op_eq (pv 2) pe_int (nomark _)) (pss_cons (ps_set (i := 3) sc__law_contract.nd rfl (.inl rfl) (pe_call D__law_contract.G hr (by rfl) D__law_contract.g D__law_contract.k D__law_contract.b .nil pass0 (pa_cons (pv 0) (pa_cons (pe_op op_sub (pv 1) pe_int) pa_nil)))) (pss_one (ps_ret (pe_tup (pa_cons pe_str (pa_cons (pv 6) (pa_cons (pv 3) (pa_cons (pe_call D__law_contract.G hr (by rfl) D__law_contract.g D__law_contract.k D__law_contract.b .nil pass0 (pa_cons (pv 0) (pa_cons (pe_op op_sub (pv 1) pe_int) pa_nil))) pa_nil)))))))) pss_nil) (pss_one (ps_ret (pe_tup (pa_cons (pe_ix ix_list (pe_lst (pa_cons pe_str (pa_cons pe_str pa_nil))) (pe_op op_sub (pv 2) pe_int) (fun _ _ => rfl)) (pa_cons (pv 6) (pa_cons (pe_call D__law_contract.G hr (by rfl) D__law_contract.g D__law_contract.k D__law_contract.b .nil pass0 (pa_cons (pv 0) (pa_cons (pe_op op_sub (pv 1) pe_int) pa_nil))) pa_nil))))))))))))))), ?_⟩
  have ok := L.ok
  walk_at "go"
  refine use_taken L (by decide) (by decide) fun r H1 a0 a1 e1 L1 => ?_
  walk_at "go"
  refine or_cut (r < 3) (fun hc => ?_) (fun c1 back => ?_)
  · walk_at "go"
    refine use_give L1 fun v t H2 e2 L2 d2 i2 p2 => ?_
    exact q v t H2 (e1.trans e2) L2 d2 i2 (by omega)
  walk_at "go"
  refine ifd back (fun c2 => ?_)
  walk_at "go"
  refine ifd (fun c3 => ?_) (fun c3 => ?_)
  · walk_at "go"
    refine ⟨by show 1 ≤ sizeLine; decide, fun p np => ?_⟩
    have s2 := same_new (o := .tup [.str "none"]) np
    exact q _ .none _ (e1.trans (.of s2)) (L1.same s2) ⟨p, rfl, sqt upd_same⟩ trivial h0
  walk_at "go"
  refine ifd (fun c4 => ?_) (fun c4 => ?_)
  · walk_at "go"
    refine use_contract L1 (by omega) (by omega) fun u t1 H2 e2 L2 d1 i1 p1 => ?_
    walk_at "go"
    refine use_contract L2 (by omega) (by omega) fun z t2 H3 e3 L3 d2 i2 p2 => ?_
    walk_at "go"
    refine ⟨by show 3 ≤ sizeLine; decide, fun p np => ?_⟩
    have s4 := same_new (o := .tup [.str "both", u, z]) np
    refine q _ (.both t1 t2) _ (((e1.trans e2).trans e3).trans (.of s4)) (L3.same s4) ⟨p, u, z, rfl, sqt upd_same, DK.tm ((L2.tm e3).trans (.of s4)) d1, DK.tm (.of s4) d2⟩ ⟨i1, i2⟩ ?_
    show ((max t1.deep t2.deep + 1 : Nat) : Int) ≤ d
    omega
  walk_at "go"
  refine ifd (fun c5 => ?_) (fun c5 => ?_)
  · walk_at "go"
    refine ⟨by show 1 ≤ sizeLine; decide, fun p1 np1 => ?_⟩
    have s2 := same_new (o := .tup [.str "turned"]) np1
    have h2 : SqT K (upd H1 p1 (.tup [.str "turned"])) p1 [.str "turned"] := sqt upd_same
    have L2 := L1.same s2
    walk_at "go"
    refine use_sides L2 fun p i j H3 i0 i1 j0 j1 ij e3 L3 hp => ?_
    refine cat2 (L2.tm e3 _ _ h2) hp (by simp) (by simp) (by show 3 ≤ 1000; decide) fun p4 np4 => ?_
    have s4 := same_new (o := .tup ([V.str "turned"] ++ [.str (wd c i), .str (wd c j)])) np4
    have L4 := L3.same s4
    have h4 : SqT K (upd H3 p4 (.tup ([V.str "turned"] ++ [.str (wd c i), .str (wd c j)]))) p4 [.str "turned", .str (wd c i), .str (wd c j)] := sqt upd_same
    walk_at "go"
    refine use_contract L4 (by omega) (by omega) fun u t1 H5 e5 L5 d1 i5 p5 => ?_
    walk_at "go"
    refine ⟨by show 1 ≤ sizeLine; decide, fun p6 np6 => ?_⟩
    have s6 := same_new (o := .tup [u]) np6
    refine cat2 (SqT.same s6 (L4.tm e5 _ _ h4)) (sqt upd_same) (by simp) (by simp) (by show 4 ≤ 1000; decide) fun p7 np7 => ?_
    have s7 := s6.trans (same_new (o := .tup ([V.str "turned", .str (wd c i), .str (wd c j)] ++ [u])) np7)
    refine q _ (.turned (wd c i) (wd c j) t1) _ (((((e1.trans (.of s2)).trans e3).trans (.of s4)).trans e5).trans (.of s7)) (L5.same s7) ⟨p7, u, rfl, sqt upd_same, DK.tm (.of s7) d1⟩ ⟨⟨⟨wd_word ok i0, wd_word ok j0⟩, wd_ne ok i0 (by omega) j0 (by omega) ij⟩, i5⟩ ?_
    show ((t1.deep + 1 : Nat) : Int) ≤ d
    omega
  walk_at "go"
  refine ifd (fun c6 => ?_) (fun c6 => ?_)
  · walk_at "go"
    refine use_taken L1 (by decide) (by decide) fun x H2 x0 x1 e2 L2 => ?_
    walk_at "go"
    refine use_taken L2 (by decide) (by decide) fun y H3 y0 y1 e3 L3 => ?_
    walk_at "go"
    refine ⟨by show 2 ≤ sizeLine; decide, fun p4 np4 => ?_⟩
    have s4 := same_new (o := .lst [.int x, .int y]) np4
    have L4 := L3.same s4
    walk_at "go"
    refine use_taken L4 (by decide) (by decide) fun z H5 z0 z1 e5 L5 => ?_
    walk_at "go"
    refine .inr ⟨_, rfl, ?_⟩
    have h5 : SqL K H5 p4 [.int x, .int y] := KB.seq e5 (L4.st.choose_spec.choose_spec.choose_spec.1) (sql upd_same)
    refine ⟨_, _, _, _, rfl, rfl, h5, pick2 _ _ _, ?_⟩
    have hn : ∃ m : Int, (if decide (z = 7) = true then V.int y else V.int x) = .int m ∧ 0 ≤ m ∧ m ≤ 99 := by
      split
      · exact ⟨y, rfl, y0, by omega⟩
      · exact ⟨x, rfl, x0, by omega⟩
    obtain ⟨m, hm, m0, m1⟩ := hn
    rw [hm]
    walk_at "go"
    refine use_contract L5 (by omega) (by omega) fun u t1 H6 e6 L6 d1 i1 p1 => ?_
    walk_at "go"
    refine ⟨by show 3 ≤ sizeLine; decide, fun p7 np7 => ?_⟩
    have s7 := same_new (o := .tup [.str "later", .int m, u]) np7
    refine q _ (.later m t1) _ ((((((e1.trans e2).trans e3).trans (.of s4)).trans e5).trans e6).trans (.of s7)) (L6.same s7) ⟨p7, u, rfl, sqt upd_same, DK.tm (.of s7) d1⟩ ⟨⟨m0, m1⟩, i1⟩ ?_
    show ((t1.deep + 1 : Nat) : Int) ≤ d
    omega
  walk_at "go"
  refine ifd (fun c7 => ?_) (fun c7 => ?_)
  · walk_at "go"
    refine use_taken L1 (by decide) (by decide) fun x H2 x0 x1 e2 L2 => ?_
    walk_at "go"
    refine use_taken L2 (by decide) (by decide) fun y H3 y0 y1 e3 L3 => ?_
    walk_at "go"
    refine ⟨by show 2 ≤ sizeLine; decide, fun p4 np4 => ?_⟩
    have s4 := same_new (o := .lst [.int (1 + x), .int (1 + y)]) np4
    have L4 := L3.same s4
    walk_at "go"
    refine use_taken L4 (by decide) (by decide) fun z H5 z0 z1 e5 L5 => ?_
    walk_at "go"
    refine .inr ⟨_, rfl, ?_⟩
    have h5 : SqL K H5 p4 [.int (1 + x), .int (1 + y)] := KB.seq e5 (L4.st.choose_spec.choose_spec.choose_spec.1) (sql upd_same)
    refine ⟨_, _, _, _, rfl, rfl, h5, pick2 _ _ _, ?_⟩
    have hn : ∃ m : Int, (if decide (z = 7) = true then V.int (1 + y) else V.int (1 + x)) = .int m ∧ 1 ≤ m ∧ m ≤ 9 := by
      split
      · exact ⟨1 + y, rfl, by omega, by omega⟩
      · exact ⟨1 + x, rfl, by omega, by omega⟩
    obtain ⟨m, hm, m0, m1⟩ := hn
    rw [hm]
    walk_at "go"
    refine use_taken L5 (by decide) (by decide) fun g H6 g0 g1 e6 L6 => ?_
    walk_at "go"
    refine use_contract L6 (by omega) (by omega) fun u t1 H7 e7 L7 d1 i1 p1 => ?_
    walk_at "go"
    refine ⟨by show 4 ≤ sizeLine; decide, fun p8 np8 => ?_⟩
    have s8 := same_new (o := .tup [.str "often", .int m, .int (1 + g), u]) np8
    refine q _ (.often m (1 + g) t1) _ (((((((e1.trans e2).trans e3).trans (.of s4)).trans e5).trans e6).trans e7).trans (.of s8)) (L7.same s8) ⟨p8, u, rfl, sqt upd_same, DK.tm (.of s8) d1⟩ ⟨⟨m0, m1⟩, ⟨by omega, by omega⟩, i1⟩ ?_
    show ((t1.deep + 1 : Nat) : Int) ≤ d
    omega
  walk_at "go"
  refine use_asked L1 (by decide) (by decide) fun x qq H2 e2 L2 dq iq pq => ?_
  walk_at "go"
  refine ifd (fun c8 => ?_) (fun c8 => ?_)
  · walk_at "go"
    refine use_contract L2 (by omega) (by omega) fun u t1 H3 e3 L3 d1 i1 p1 => ?_
    walk_at "go"
    refine use_contract L3 (by omega) (by omega) fun z t2 H4 e4 L4 d2 i2 p2 => ?_
    walk_at "go"
    refine ⟨by show 4 ≤ sizeLine; decide, fun p np => ?_⟩
    have s5 := same_new (o := .tup [.str "if", x, u, z]) np
    refine q _ (.ite qq t1 t2) _ ((((e1.trans e2).trans e3).trans e4).trans (.of s5)) (L4.same s5)
      ⟨p, x, u, z, rfl, sqt upd_same, DC.tm (((L2.tm e3).trans (L3.tm e4)).trans (.of s5)) dq, DK.tm ((L3.tm e4).trans (.of s5)) d1, DK.tm (.of s5) d2⟩ ⟨⟨iq, by omega⟩, i1, i2⟩ ?_
    show ((max t1.deep t2.deep + 1 : Nat) : Int) ≤ d
    omega
  · walk_at "go"
    refine ⟨by show 2 ≤ sizeLine; decide, fun p np => ?_⟩
    have s3 := same_new (o := .lst [.str "when", .str "until"]) np
    have L3 := L2.same s3
    walk_at "go"
    rcases pick2i (.str "when") (.str "until") (i := r - 10) (by omega) (by omega) with hw | hw
    · refine ⟨_, _, _, _, rfl, rfl, sql upd_same, hw, ?_⟩
      walk_at "go"
      refine use_contract L3 (by omega) (by omega) fun u t1 H4 e4 L4 d1 i1 p1 => ?_
      walk_at "go"
      refine ⟨by show 3 ≤ sizeLine; decide, fun p' np' => ?_⟩
      have s5 := same_new (o := .tup [.str "when", x, u]) np'
      refine q _ (.whn qq t1) _ ((((e1.trans e2).trans (.of s3)).trans e4).trans (.of s5)) (L4.same s5) ⟨p', x, u, rfl, sqt upd_same, DC.tm (((TM.of s3).trans (L3.tm e4)).trans (.of s5)) dq, DK.tm (.of s5) d1⟩ ⟨⟨iq, by omega⟩, i1⟩ ?_
      show ((t1.deep + 1 : Nat) : Int) ≤ d
      omega
    · refine ⟨_, _, _, _, rfl, rfl, sql upd_same, hw, ?_⟩
      walk_at "go"
      refine use_contract L3 (by omega) (by omega) fun u t1 H4 e4 L4 d1 i1 p1 => ?_
      walk_at "go"
      refine ⟨by show 3 ≤ sizeLine; decide, fun p' np' => ?_⟩
      have s5 := same_new (o := .tup [.str "until", x, u]) np'
      refine q _ (.untl qq t1) _ ((((e1.trans e2).trans (.of s3)).trans e4).trans (.of s5)) (L4.same s5) ⟨p', x, u, rfl, sqt upd_same, DC.tm (((TM.of s3).trans (L3.tm e4)).trans (.of s5)) dq, DK.tm (.of s5) d1⟩ ⟨⟨iq, by omega⟩, i1⟩ ?_
      show ((t1.deep + 1 : Nat) : Int) ≤ d
      omega
end

/-- the names that are drawn -/
def nmsN (c : Cfg) (m : Nat) : List Str := (List.range m).map fun (i : Nat) => wd c (8 + (0 + (i : Int)))
theorem nms_len {c : Cfg} {m : Nat} : (nmsN c m).length = m := by unfold nmsN; rw [List.length_map, List.length_range]
theorem nms_snoc {c : Cfg} {m : Nat} : nmsN c (m + 1) = nmsN c m ++ [wd c (8 + (0 + (m : Int)))] := by
  unfold nmsN
  rw [List.range_succ, List.map_append]
  rfl
def spDrawn (K : PySem.W.Frag) : Sp := fun vs H Q _ => ∃ (c : Cfg) (ns : List Int) (xs : List Str) (s na nm : Addr) (m : Nat), vs = [.ref s, .int m] ∧ LS K c ns xs s na nm H ∧ m ≤ 3 ∧
  ∀ (v : V) (t : Con) (nm' : Addr) (H' : Hp), KB s H H' → LS K c ns (nmsN c m) s na nm' H' → DK K H' t v → t.In (nmsN c m) → t.deep ≤ 5 → Q v H'
theorem use_drawn {K : PySem.W.Frag} {c : Cfg} {ns : List Int} {xs : List Str} {s na nm : Addr} {m : Nat} {j : Int} {H : Hp} {Q : VK} {E : XK} (L : LS K c ns xs s na nm H) (hj : j = m) (hm : m ≤ 3)
    (q : ∀ (v : V) (t : Con) (nm' : Addr) (H' : Hp), KB s H H' → LS K c ns (nmsN c m) s na nm' H' → DK K H' t v → t.In (nmsN c m) → t.deep ≤ 5 → Q v H') :
    spDrawn K ([.ref s, .int j] ++ []) H Q E := ⟨c, ns, xs, s, na, nm, m, by rw [hj]; rfl, L, hm, q⟩
section
variable {P : Program} {w : World} {K : PySem.W.Frag} {mg : Str → Option Value} {base : Heap}
abbrev s__law_drawn : Stmt := topS 55
theorem sc__law_drawn : FnScope ["_law_s", "_law_many", "_law_k", "_law_contract_here", "_law_way"] ["_law_s", "_law_many"] (defScope s__law_drawn) := ⟨rfl, rfl, rfl, by decide +kernel, rfl, by decide +kernel, by decide +kernel⟩
theorem h__law_drawn {k : Nat} {f : Addr} {fd : FuncData} (O : Own K mg "_law_drawn" s__law_drawn ["_law_s", "_law_many"] f fd)  {f__law_taken : Addr} {fd__law_taken : FuncData} (D__law_taken : Has P w K mg base "_law_taken" ["_law_s", "_law_most"] k CX0 (spTaken K) f__law_taken fd__law_taken) {f__law_sides : Addr} {fd__law_sides : FuncData} (D__law_sides : Has P w K mg base "_law_sides" ["_law_s"] k CX0 (spSides K) f__law_sides fd__law_sides) {f__law_asked : Addr} {fd__law_asked : FuncData} (D__law_asked : Has P w K mg base "_law_asked" ["_law_s", "_law_deep"] k CX0 (spAsked K 4) f__law_asked fd__law_asked) {f__law_told : Addr} {fd__law_told : FuncData} (D__law_told : Has P w K mg base "_law_told" ["_law_s", "_law_deep"] k CX0 (spTold K 4) f__law_told fd__law_told) {f__law_good : Addr} {fd__law_good : FuncData} (D__law_good : Has P w K mg base "_law_good" ["_law_s"] k CX0 (spGood K) f__law_good fd__law_good) {f__law_contract : Addr} {fd__law_contract : FuncData} (D__law_contract : Has P w K mg base "_law_contract" ["_law_s", "_law_deep"] k CX0 (spContract K 4) f__law_contract fd__law_contract) {f__law_word : Addr} {fd__law_word : FuncData} (D__law_word : Has P w K mg base "_law_word" ["_law_s", "_law_k"] k CX0 (spWord K) f__law_word fd__law_word) (m_range : mg "range" = none) : Has P w K mg base "_law_drawn" ["_law_s", "_law_many"] (k + 1) CX0 (spDrawn K) f fd := by
  refine O.has (O.F.ok sc__law_drawn (fun vs H Q E h => ?_) (fun cdv A outer s H vs Q E hr h => ?_))
  · obtain ⟨c, ns, xs, s, na, nm, m, rfl, _⟩ := h
    rfl
  obtain ⟨c, ns, xs0, s, na, nm, m, rfl, L, hm, q⟩ := h
  refine ⟨_, (pss_cons (ps_dput (hu_of hr) (pv 0) pe_str (pe_lc (own := [("_law_k", 2)]) (g := gName 2) rfl sc__law_drawn.nd (pi_range1 (by rfl) m_range (pa_cons (pv 1) pa_nil)) (blkOk_by (own := [("_law_k", 2)]) (N := ["_law_s", "_law_many", "_law_k", "_law_contract_here", "_law_way"]) (sc := defScope s__law_drawn) (by decide +kernel)) (fun _ _ _ _ _ => pg_name (i := 2) sc__law_drawn.nd rfl (.inl rfl)) (fun _ _ _ _ _ => pts_nil) (fun _ _ _ _ _ => (pe_call D__law_word.G hr (by rfl) D__law_word.g D__law_word.k D__law_word.b .nil pass0 (pa_cons (pv 0) (pa_cons (pe_op op_add pe_int (pv 2)) pa_nil))))) (by rfl)) (pss_cons (ps_if (pt_cmpR op_lt (pe_call D__law_taken.G hr (by rfl) D__law_taken.g D__law_taken.k D__law_taken.b .nil pass0 (pa_cons (pv 0) (pa_cons pe_int pa_nil))) pe_int (nomark _)) (pss_one (ps_ret (pe_call D__law_contract.G hr (by rfl) D__law_contract.g D__law_contract.k D__law_contract.b .nil pass0 (pa_cons (pv 0) (pa_cons pe_int pa_nil))))) pss_nil) (pss_cons (ps_set (i := 3) sc__law_drawn.nd rfl (.inl rfl) (pe_op op_catA (pe_op op_catA (pe_tup (pa_cons pe_str pa_nil)) (pe_call D__law_sides.G hr (by rfl) D__law_sides.g D__law_sides.k D__law_sides.b .nil pass0 (pa_cons (pv 0) pa_nil))) (pe_tup (pa_cons (pe_call D__law_good.G hr (by rfl) D__law_good.g D__law_good.k D__law_good.b .nil pass0 (pa_cons (pv 0) pa_nil)) (pa_cons (pe_call D__law_told.G hr (by rfl) D__law_told.g D__law_told.k D__law_told.b .nil pass0 (pa_cons (pv 0) (pa_cons pe_int pa_nil))) pa_nil))))) (pss_cons (ps_for PassesOwn.never rfl (pi_range1 (by rfl) m_range (pa_cons pe_int pa_nil)) (pg_name (i := 2) sc__law_drawn.nd rfl (.inl rfl)) (pss_cons (ps_set (i := 4) sc__law_drawn.nd rfl (.inl rfl) (pe_call D__law_taken.G hr (by rfl) D__law_taken.g D__law_taken.k D__law_taken.b .nil pass0 (pa_cons (pv 0) (pa_cons pe_int pa_nil)))) (pss_one (ps_if (pt_cmpR op_eq (pv 4) pe_int (nomark _)) (pss_one (ps_set (i := 3) sc__law_drawn.nd rfl (.inl rfl) (pe_tup (pa_cons pe_str (pa_cons (pe_call D__law_taken.G hr (by rfl) D__law_taken.g D__law_taken.k D__law_taken.b .nil pass0 (pa_cons (pv 0) (pa_cons pe_int pa_nil))) (pa_cons (pv 3) pa_nil)))))) (pss_one (ps_if (pt_cmpR op_eq (pv 4) pe_int (nomark _)) (pss_one (ps_set (i := 3) sc__law_drawn.nd rfl (.inl rfl) (pe_op op_catA (pe_op op_catA (pe_tup (pa_cons pe_str pa_nil)) (pe_call D__law_sides.G hr (by rfl) D__law_sides.g D__law_sides.k D__law_sides.b .nil pass0 (pa_cons (pv 0) pa_nil))) (pe_tup (pa_cons (pv 3) pa_nil))))) (pss_one (ps_if (pt_cmpR op_eq (pv 4) pe_int (nomark _)) (pss_one (ps_set (i := 3) sc__law_drawn.nd rfl (.inl rfl) (pe_tup (pa_cons pe_str (pa_cons (pe_op op_add pe_int (pe_call D__law_taken.G hr (by rfl) D__law_taken.g D__law_taken.k D__law_taken.b .nil pass0 (pa_cons (pv 0) (pa_cons pe_int pa_nil)))) (pa_cons (pe_op op_add pe_int (pe_call D__law_taken.G hr (by rfl) D__law_taken.g D__law_taken.k D__law_taken.b .nil pass0 (pa_cons (pv 0) (pa_cons pe_int pa_nil)))) (pa_cons (pv 3) pa_nil))))))) (pss_one (ps_set (i := 3) sc__law_drawn.nd rfl (.inl rfl) (pe_tup (pa_cons (pe_ix ix_list (pe_lst (pa_cons pe_str (pa_cons pe_str pa_nil))) (pe_op op_sub (pv 4) pe_int) (fun _ _ => rfl)) (pa_cons (pe_call D__law_asked.G hr (by rfl) D__law_asked.g D__law_asked.k D__law_asked.b .nil pass0 (pa_cons (pv 0) (pa_cons pe_int pa_nil))) (pa_cons (pv 3) pa_nil)))))))))))))) (pss_one (ps_ret (pv 3))))))), ?_⟩
  have ok := L.ok
  walk_at "go"
  refine ⟨by omega, by omega, fun D nD => lc_range (lo := 0) (n := m) (fun i H3 => H3 D = some (.lst ((nmsN c i).map V.str)) ∧ LS K c ns xs0 s na nm H3 ∧ Same H H3) ⟨upd_same, L.same (same_new nD), same_new nD⟩ (fun i H3 hi hW => ?_) (fun H3 hW => ?_)⟩
  · obtain ⟨hD, L3, e3⟩ := hW
    walk_at "go"
    refine use_word L3 (by omega) (by omega) fun H4 e4 => ?_
    have hD4 := e4 _ _ hD
    refine ⟨_, hD4, by rw [List.length_map, nms_len]; exact small1000 (by omega), ?_, L.push nD (L3.same e4) hD4, fun a o h => ?_⟩
    · rw [upd_same, nms_snoc, List.map_append]
      rfl
    · rw [upd_ne (ne_of_none h nD)]
      exact e4 _ _ (e3 _ _ h)
  obtain ⟨hD, L3, e3⟩ := hW
  obtain ⟨n, re, mx, hs3, g0, g1, g2, g3⟩ := L3.st
  walk_at "go"
  refine g_put (kvs' := sd c na D n re mx) hs3 (by show 9 < sizeLine; decide) (by rfl) ?_
  have L4 := L3.names g0 g1 g2 g3 hD (by rw [nms_len]; omega)
  have k4 : KB s H (upd H3 s (.dK (sd c na D n re mx))) := (KB.of e3).trans KB.upd
  generalize upd H3 s (.dK (sd c na D n re mx)) = H4 at L4 k4 ⊢
  generalize nmsN c m = xs at L4 q
  walk_at "go"
  refine use_taken L4 (by decide) (by decide) fun r H5 a0 a1 e5 L5 => ?_
  walk_at "go"
  refine ifd (fun c1 => ?_) (fun c1 => ?_)
  · walk_at "go"
    refine use_contract L5 (by decide) (by decide) fun v t H6 e6 L6 d6 i6 p6 => ?_
    exact q v t D H6 ((k4.trans e5).trans e6) L6 d6 i6 (by omega)
  walk_at "go"
  refine ⟨by show 1 ≤ sizeLine; decide, fun p1 np1 => ?_⟩
  have s6 := same_new (o := .tup [.str "give"]) np1
  have h6 : SqT K (upd H5 p1 (.tup [.str "give"])) p1 [.str "give"] := sqt upd_same
  have L6 := L5.same s6
  walk_at "go"
  refine use_sides L6 fun p i j H7 i0 i1 j0 j1 ij e7 L7 hp => ?_
  refine cat2 (L6.tm e7 _ _ h6) hp (by simp) (by simp) (by show 3 ≤ 1000; decide) fun p8 np8 => ?_
  have s8 := same_new (o := .tup ([V.str "give"] ++ [.str (wd c i), .str (wd c j)])) np8
  have L8 := L7.same s8
  have h8 : SqT K (upd H7 p8 (.tup ([V.str "give"] ++ [.str (wd c i), .str (wd c j)]))) p8 [.str "give", .str (wd c i), .str (wd c j)] := sqt upd_same
  walk_at "go"
  refine use_good L8 fun g H9 g0 g1 e9 L9 => ?_
  walk_at "go"
  refine use_told L9 (by decide) (by decide) fun u t H10 e10 L10 d10 i10 p10 => ?_
  walk_at "go"
  refine ⟨by show 2 ≤ sizeLine; decide, fun p11 np11 => ?_⟩
  have s11 := same_new (o := .tup [.str (wd c g), u]) np11
  refine cat2 (SqT.same s11 (L9.tm e10 _ _ (L8.tm e9 _ _ h8))) (sqt upd_same) (by simp) (by simp) (by show 5 ≤ 1000; decide) fun p12 np12 => ?_
  have s12 := s11.trans (same_new (o := .tup ([V.str "give", .str (wd c i), .str (wd c j)] ++ [.str (wd c g), u])) np12)
  have L12 := L10.same s12
  have k12 := ((((((k4.trans e5).trans (.of s6)).trans e7).trans (.of s8)).trans e9).trans e10).trans (KB.of s12)
  have d12 : DK K (upd (upd H10 p11 (.tup [.str (wd c g), u])) p12 (.tup ([V.str "give", .str (wd c i), .str (wd c j)] ++ [.str (wd c g), u]))) (.give (wd c i) (wd c j) (wd c g) t) (.ref p12) := ⟨p12, u, rfl, sqt upd_same, DN.tm (.of s12) d10⟩
  have i12 : (Con.give (wd c i) (wd c j) (wd c g) t).In xs := ⟨⟨⟨wd_word ok i0, wd_word ok j0, wd_word ok (by omega)⟩, wd_ne ok i0 (by omega) j0 (by omega) ij⟩, i10, by omega⟩
  generalize (upd (upd H10 p11 (.tup [.str (wd c g), u])) p12 (.tup ([V.str "give", .str (wd c i), .str (wd c j)] ++ [.str (wd c g), u]))) = H12 at L12 k12 d12 ⊢
  walk_at "go"
  refine ⟨by decide, by decide, for_range (lo := 0) (n := 5) (fun l σ H13 => ∃ y3 y4 : Option V, ∃ (v : V) (t : Con), σ = [some (.ref s), some (.int m), y3, some v, y4] ∧ DK K H13 t v ∧ t.In xs ∧ t.deep ≤ l ∧ KB s H H13 ∧ LS K c ns xs s na D H13)
    ⟨none, none, _, _, rfl, d12, i12, Nat.le_refl 0, k12, L12⟩ (fun l σ H13 hl hW => ?_) (fun σ H13 hW => ?_)⟩
  · obtain ⟨y3, y4, v, t0, rfl, dt, it, pt, k13, L13⟩ := hW
    walk_at "go"
    refine use_taken L13 (by decide) (by decide) fun way H14 w0 w1 e14 L14 => ?_
    have dt14 := DK.tm (L13.tm e14) dt
    have k14 := k13.trans e14
    walk_at "go"
    refine ifd (fun c2 => ?_) (fun c2 => ?_)
    · walk_at "go"
      refine use_taken L14 (by decide) (by decide) fun z H15 z0 z1 e15 L15 => ?_
      walk_at "go"
      refine ⟨by show 3 ≤ sizeLine; decide, fun p np => ?_⟩
      have s16 := same_new (o := .tup [.str "later", .int z, v]) np
      refine ⟨_, _, _, .later z t0, rfl, ⟨p, v, rfl, sqt upd_same, DK.tm ((L14.tm e15).trans (.of s16)) dt14⟩, ⟨⟨z0, by omega⟩, it⟩, ?_, (k14.trans e15).trans (.of s16), L15.same s16⟩
      show t0.deep + 1 ≤ l + 1
      omega
    walk_at "go"
    refine ifd (fun c3 => ?_) (fun c3 => ?_)
    · walk_at "go"
      refine ⟨by show 1 ≤ sizeLine; decide, fun q1 nq1 => ?_⟩
      have s15 := same_new (o := .tup [.str "turned"]) nq1
      have h15 : SqT K (upd H14 q1 (.tup [.str "turned"])) q1 [.str "turned"] := sqt upd_same
      have L15 := L14.same s15
      walk_at "go"
      refine use_sides L15 fun pp a b H16 a0 a1 b0 b1 ab e16 L16 hpp => ?_
      refine cat2 (L15.tm e16 _ _ h15) hpp (by simp) (by simp) (by show 3 ≤ 1000; decide) fun q2 nq2 => ?_
      have s17 := same_new (o := .tup ([V.str "turned"] ++ [.str (wd c a), .str (wd c b)])) nq2
      have h17 : SqT K (upd H16 q2 (.tup ([V.str "turned"] ++ [.str (wd c a), .str (wd c b)]))) q2 [.str "turned", .str (wd c a), .str (wd c b)] := sqt upd_same
      have L17 := L16.same s17
      walk_at "go"
      refine ⟨by show 1 ≤ sizeLine; decide, fun q3 nq3 => ?_⟩
      have s18 := same_new (o := .tup [v]) nq3
      refine cat2 (SqT.same s18 h17) (sqt upd_same) (by simp) (by simp) (by show 4 ≤ 1000; decide) fun q4 nq4 => ?_
      have s19 := s18.trans (same_new (o := .tup ([V.str "turned", .str (wd c a), .str (wd c b)] ++ [v])) nq4)
      refine ⟨_, _, _, .turned (wd c a) (wd c b) t0, rfl, ⟨q4, v, rfl, sqt upd_same, DK.tm ((((TM.of s15).trans (L15.tm e16)).trans (.of s17)).trans (.of s19)) dt14⟩, ⟨⟨⟨wd_word ok a0, wd_word ok b0⟩, wd_ne ok a0 (by omega) b0 (by omega) ab⟩, it⟩, ?_, (((k14.trans (.of s15)).trans e16).trans (.of s17)).trans (.of s19), L17.same s19⟩
      show t0.deep + 1 ≤ l + 1
      omega
    walk_at "go"
    refine ifd (fun c4 => ?_) (fun c4 => ?_)
    · walk_at "go"
      refine use_taken L14 (by decide) (by decide) fun z H15 z0 z1 e15 L15 => ?_
      walk_at "go"
      refine use_taken L15 (by decide) (by decide) fun y H16 y0 y1 e16 L16 => ?_
      walk_at "go"
      refine ⟨by show 4 ≤ sizeLine; decide, fun p np => ?_⟩
      have s17 := same_new (o := .tup [.str "often", .int (1 + z), .int (1 + y), v]) np
      refine ⟨_, _, _, .often (1 + z) (1 + y) t0, rfl, ⟨p, v, rfl, sqt upd_same, DK.tm (((L14.tm e15).trans (L15.tm e16)).trans (.of s17)) dt14⟩, ⟨⟨by omega, by omega⟩, ⟨by omega, by omega⟩, it⟩, ?_, ((k14.trans e15).trans e16).trans (.of s17), L16.same s17⟩
      show t0.deep + 1 ≤ l + 1
      omega
    · walk_at "go"
      refine ⟨by show 2 ≤ sizeLine; decide, fun q1 nq1 => ?_⟩
      have s15 := same_new (o := .lst [.str "when", .str "until"]) nq1
      have L15 := L14.same s15
      walk_at "go"
      rcases pick2i (.str "when") (.str "until") (i := way - 3) (by omega) (by omega) with hw | hw
      · refine ⟨_, _, _, _, rfl, rfl, sql upd_same, hw, ?_⟩
        walk_at "go"
        refine use_asked L15 (by decide) (by decide) fun x qq H16 e16 L16 dq iq pq => ?_
        walk_at "go"
        refine ⟨by show 3 ≤ sizeLine; decide, fun p np => ?_⟩
        have s17 := same_new (o := .tup [.str "when", x, v]) np
        refine ⟨_, _, _, .whn qq t0, rfl, ⟨p, x, v, rfl, sqt upd_same, DC.tm (.of s17) dq, DK.tm (((TM.of s15).trans (L15.tm e16)).trans (.of s17)) dt14⟩, ⟨⟨iq, by omega⟩, it⟩, ?_, ((k14.trans (.of s15)).trans e16).trans (.of s17), L16.same s17⟩
        show t0.deep + 1 ≤ l + 1
        omega
      · refine ⟨_, _, _, _, rfl, rfl, sql upd_same, hw, ?_⟩
        walk_at "go"
        refine use_asked L15 (by decide) (by decide) fun x qq H16 e16 L16 dq iq pq => ?_
        walk_at "go"
        refine ⟨by show 3 ≤ sizeLine; decide, fun p np => ?_⟩
        have s17 := same_new (o := .tup [.str "until", x, v]) np
        refine ⟨_, _, _, .untl qq t0, rfl, ⟨p, x, v, rfl, sqt upd_same, DC.tm (.of s17) dq, DK.tm (((TM.of s15).trans (L15.tm e16)).trans (.of s17)) dt14⟩, ⟨⟨iq, by omega⟩, it⟩, ?_, ((k14.trans (.of s15)).trans e16).trans (.of s17), L16.same s17⟩
        show t0.deep + 1 ≤ l + 1
        omega
  · obtain ⟨y3, y4, v, t0, rfl, dt, it, pt, k13, L13⟩ := hW
    walk_at "go"
    exact q v t0 D H13 k13 L13 dt it pt
end

/-! ### words and whole numbers -/
def isWh : PyData → Bool
  | .int _ => true
  | _ => false
def spIsWord (K : PySem.W.Frag) (PT : Addr) : Sp := fun vs H Q _ => ∃ (v : V) (d : PyData), vs = [v] ∧ Dp K H v d ∧ szOk d = true ∧ GxR.TabG H PT ∧ ∀ H', Tb PT H H' → Q (.bl (isW' d)) H'
def spWhole (K : PySem.W.Frag) : Sp := fun vs H Q _ => ∃ (v : V) (d : PyData), vs = [v] ∧ Dp K H v d ∧ Q (.bl (isWh d)) H
def spBetween (K : PySem.W.Frag) : Sp := fun vs H Q _ => ∃ (v : V) (d : PyData) (lo hi : Int), vs = [v, .int lo, .int hi] ∧ Dp K H v d ∧ Q (.bl (inB lo hi d)) H
def spAmount (K : PySem.W.Frag) : Sp := fun vs H Q _ => ∃ (v : V) (d : PyData), vs = [v] ∧ Dp K H v d ∧ Q (.bl (inB (-999999999999) 999999999999 d)) H
theorem in_letters (c : Nat) : decide (c ∈ (Str.ofString "abcdefghijklmnopqrstuvwxyz").cps.toList) = (decide (97 ≤ c) && decide (c ≤ 122)) := by
  have e : (Str.ofString "abcdefghijklmnopqrstuvwxyz").cps.toList = (List.range 26).map (97 + ·) := by decide +kernel
  rw [e, Bool.eq_iff_iff]
  simp only [decide_eq_true_eq, List.mem_map, List.mem_range, Bool.and_eq_true]
  constructor
  · rintro ⟨i, h, rfl⟩
    omega
  · intro h
    exact ⟨c - 97, by omega, by omega⟩
theorem use_whole {K : PySem.W.Frag} {H : Hp} {v : V} {d : PyData} {Q : VK} {E : XK} (h : Dp K H v d) (q : Q (.bl (isWh d)) H) : spWhole K ([v] ++ []) H Q E := ⟨v, d, rfl, h, q⟩
theorem use_isWord {K : PySem.W.Frag} {PT : Addr} {H : Hp} {v : V} {d : PyData} {Q : VK} {E : XK} (h : Dp K H v d) (z : szOk d = true) (t : GxR.TabG H PT) (q : ∀ H', Tb PT H H' → Q (.bl (isW' d)) H') : spIsWord K PT ([v] ++ []) H Q E := ⟨v, d, rfl, h, z, t, q⟩
theorem use_between {K : PySem.W.Frag} {H : Hp} {v : V} {d : PyData} {lo hi : Int} {Q : VK} {E : XK} (h : Dp K H v d) (q : Q (.bl (inB lo hi d)) H) : spBetween K ([v, .int lo, .int hi] ++ []) H Q E := ⟨v, d, lo, hi, rfl, h, q⟩
theorem use_amount {K : PySem.W.Frag} {H : Hp} {v : V} {d : PyData} {Q : VK} {E : XK} (h : Dp K H v d) (q : Q (.bl (inB (-999999999999) 999999999999 d)) H) : spAmount K ([v] ++ []) H Q E := ⟨v, d, rfl, h, q⟩
theorem thousand : (1000 : Nat) ≤ sizeLine := by decide
section
variable {P : Program} {w : World} {K : PySem.W.Frag} {mg : Str → Option Value} {base : Heap}
abbrev s_is_word : Stmt := topS 9
theorem sc_is_word : FnScope ["told"] ["told"] (defScope s_is_word) := ⟨rfl, rfl, rfl, by decide +kernel, rfl, by decide +kernel, by decide +kernel⟩
theorem h_is_word {cT PT : Addr} (tb : GxR.TabB base mg cT PT) {k : Nat} {f : Addr} {fd : FuncData} (O : OwnC cT K mg "is_word" s_is_word ["told"] f fd)  (m_all : mg "all" = none) {t_LETTERS : Tok} (m_LETTERS : mg "LETTERS" = some (.str "abcdefghijklmnopqrstuvwxyz" t_LETTERS)) (m_len : mg "len" = none) {t_LONGEST_WORD : Tok} (m_LONGEST_WORD : mg "LONGEST_WORD" = some (.int 8 t_LONGEST_WORD)) (m_isinstance : mg "isinstance" = none) (m_str : mg "str" = none) : Has P w K mg base "is_word" ["told"] (k + 1) CX0 (spIsWord K PT) f fd := by
  refine O.has (O.F.ok sc_is_word (fun vs H Q E h => ?_) (fun A outer s H vs Q E hr h => ?_))
  · obtain ⟨v, d, rfl, _⟩ := h
    rfl
  obtain ⟨v, d, rfl, hd, hz, ht, q⟩ := h
  refine ⟨_, (pss_cons (ps_if (PW.pt (pw_or (pt_not (pt_val (pe_callB call_isi (by rfl) m_isinstance (by decide +kernel) (pa_cons (pv 0) (pa_cons (pe_bltn (v := .ty "str") (by rfl) m_str (by decide +kernel) rfl) pa_nil))))) (pw_or1 (pt_not (pt_chain op_le op_le pe_int (pe_callB call_len_str (by rfl) m_len (by decide +kernel) (pa_cons (pv 0) pa_nil)) (pe_glob (v := .int (8)) (by rfl) m_LONGEST_WORD ⟨_, rfl⟩)))))) (pss_one (ps_ret pe_bl)) pss_nil) (pss_one (ps_ret (pe_allG hr rfl m_all (by decide +kernel) tb rfl ⟨rfl, rfl, by decide +kernel, rfl, rfl, fun y hy hf => absurd hf ((by decide +kernel : ∀ z ∈ _, z.2 ≠ NameKind.free) y hy)⟩ (pv 0) (elm_in rfl rfl rfl m_LETTERS) (fun _ => rfl))))), ?_⟩
  walk_at "go"
  refine use_isStr hd ?_
  cases hd with
  | str x =>
    have e : ∀ H', Tb PT H H' → isW' (.str x) = false → Q (.bl false) H' := fun H' t e => by
      have z := q H' t
      rw [e] at z
      exact z
    have hz : x.length ≤ 1000 := of_decide_eq_true hz
    dsimp only [isStr]
    walk_at "go"
    refine ⟨Nat.le_trans hz thousand, ?_⟩
    walk_at "go"
    refine ifd (fun c => ?_) (fun c => ?_)
    · walk_at "go"
      refine ifdn (fun c2 => ?_) (fun c2 => ?_)
      · walk_at "go"
        refine ⟨_, rfl, x, rfl, ht, fun H2 t => ?_⟩
        have z := q H2 (.grown t)
        have e : (fun c => decide (c ∈ (Str.ofString "abcdefghijklmnopqrstuvwxyz").cps.toList)) = fun c => decide (97 ≤ c) && decide (c ≤ 122) := funext in_letters
        rw [e]
        have e1 : isW' (.str x) = (x.cps.toList.all fun c => decide (97 ≤ c) && decide (c ≤ 122)) := by
          dsimp only [isW']
          rw [decide_eq_true (show 1 ≤ x.length by omega), decide_eq_true (show x.length ≤ 8 by omega)]
          rfl
        rw [e1] at z
        exact z
      · walk_at "go"
        refine e _ (.refl ht) ?_
        dsimp only [isW']
        rw [decide_eq_false (show ¬ x.length ≤ 8 by omega)]
        simp
    · walk_at "go"
      refine e _ (.refl ht) ?_
      dsimp only [isW']
      rw [decide_eq_false (show ¬ 1 ≤ x.length by omega)]
      rfl
  | _ =>
    dsimp only [isStr]
    walk_at "go"
    exact q _ (.refl ht)
abbrev s_is_whole : Stmt := topS 10
theorem sc_is_whole : FnScope ["told"] ["told"] (defScope s_is_whole) := ⟨rfl, rfl, rfl, by decide +kernel, rfl, by decide +kernel, by decide +kernel⟩
theorem h_is_whole {k : Nat} {f : Addr} {fd : FuncData} (O : Own K mg "is_whole" s_is_whole ["told"] f fd)  (m_isinstance : mg "isinstance" = none) (m_bool : mg "bool" = none) (m_int : mg "int" = none) : Has P w K mg base "is_whole" ["told"] (k + 1) CX0 (spWhole K) f fd := by
  refine O.has (O.F.ok sc_is_whole (fun vs H Q E h => ?_) (fun cdv A outer s H vs Q E hr h => ?_))
  · obtain ⟨v, d, rfl, _⟩ := h
    rfl
  obtain ⟨v, d, rfl, hd, q⟩ := h
  refine ⟨_, (pss_one (ps_ret (pe_and (pe_callB call_isi (by rfl) m_isinstance (by decide +kernel) (pa_cons (pv 0) (pa_cons (pe_bltn (v := .ty "int") (by rfl) m_int (by decide +kernel) rfl) pa_nil))) (pe_one (pe_not (pe_callB call_isi (by rfl) m_isinstance (by decide +kernel) (pa_cons (pv 0) (pa_cons (pe_bltn (v := .ty "bool") (by rfl) m_bool (by decide +kernel) rfl) pa_nil)))))))), ?_⟩
  walk_at "go"
  refine use_isInt hd ?_
  refine ⟨_, rfl, ?_⟩
  cases hd with
  | int i =>
    dsimp only [isInt]
    refine iteT ?_
    walk_at "go"
    refine use_isBool (.int i) ?_
    walk_at "go"
    exact q
  | bl i =>
    dsimp only [isInt]
    refine iteT ?_
    walk_at "go"
    refine use_isBool (.bl i) ?_
    walk_at "go"
    exact q
  | _ =>
    dsimp only [isInt]
    walk_at "go"
    exact q
abbrev s_is_between : Stmt := topS 11
theorem sc_is_between : FnScope ["told", "low", "high"] ["told", "low", "high"] (defScope s_is_between) := ⟨rfl, rfl, rfl, by decide +kernel, rfl, by decide +kernel, by decide +kernel⟩
theorem h_is_between {k : Nat} {f : Addr} {fd : FuncData} (O : Own K mg "is_between" s_is_between ["told", "low", "high"] f fd)  {f_is_whole : Addr} {fd_is_whole : FuncData} (D_is_whole : Has P w K mg base "is_whole" ["told"] k CX0 (spWhole K) f_is_whole fd_is_whole) : Has P w K mg base "is_between" ["told", "low", "high"] (k + 1) CX0 (spBetween K) f fd := by
  refine O.has (O.F.ok sc_is_between (fun vs H Q E h => ?_) (fun cdv A outer s H vs Q E hr h => ?_))
  · obtain ⟨v, d, lo, hi, rfl, _⟩ := h
    rfl
  obtain ⟨v, d, lo, hi, rfl, hd, q⟩ := h
  refine ⟨_, (pss_one (ps_ret (pe_and (pe_call D_is_whole.G hr (by rfl) D_is_whole.g D_is_whole.k D_is_whole.b .nil pass0 (pa_cons (pv 0) pa_nil)) (pe_one (pe_chain op_le op_le (pv 1) (pv 0) (pv 2)))))), ?_⟩
  walk_at "go"
  refine use_whole hd ?_
  refine ⟨_, rfl, ?_⟩
  cases hd with
  | int i =>
    have e : inB lo hi (.int i) = (decide (lo ≤ i) && decide (i ≤ hi)) := rfl
    rw [e] at q
    dsimp only [isWh]
    refine iteT ?_
    walk_at "go"
    refine ifd (fun c => ?_) (fun c => ?_)
    · rw [decide_eq_true c] at q
      walk_at "go"
      exact q
    · rw [decide_eq_false c] at q
      exact q
  | _ =>
    dsimp only [isWh]
    refine iteF ?_
    exact q
abbrev s_is_amount : Stmt := topS 12
theorem sc_is_amount : FnScope ["told"] ["told"] (defScope s_is_amount) := ⟨rfl, rfl, rfl, by decide +kernel, rfl, by decide +kernel, by decide +kernel⟩
theorem h_is_amount {k : Nat} {f : Addr} {fd : FuncData} (O : Own K mg "is_amount" s_is_amount ["told"] f fd)  {f_is_whole : Addr} {fd_is_whole : FuncData} (D_is_whole : Has P w K mg base "is_whole" ["told"] k CX0 (spWhole K) f_is_whole fd_is_whole) {t_TOO_LARGE : Tok} (m_TOO_LARGE : mg "TOO_LARGE" = some (.int 1000000000000 t_TOO_LARGE)) : Has P w K mg base "is_amount" ["told"] (k + 1) CX0 (spAmount K) f fd := by
  refine O.has (O.F.ok sc_is_amount (fun vs H Q E h => ?_) (fun cdv A outer s H vs Q E hr h => ?_))
  · obtain ⟨v, d, rfl, _⟩ := h
    rfl
  obtain ⟨v, d, rfl, hd, q⟩ := h
  refine ⟨_, (pss_one (ps_ret (pe_and (pe_call D_is_whole.G hr (by rfl) D_is_whole.g D_is_whole.k D_is_whole.b .nil pass0 (pa_cons (pv 0) pa_nil)) (pe_one (pe_chain op_lt op_lt (pe_un un_neg (pe_glob (v := .int (1000000000000)) (by rfl) m_TOO_LARGE ⟨_, rfl⟩)) (pv 0) (pe_glob (v := .int (1000000000000)) (by rfl) m_TOO_LARGE ⟨_, rfl⟩)))))), ?_⟩
  walk_at "go"
  refine use_whole hd ?_
  refine ⟨_, rfl, ?_⟩
  cases hd with
  | int i =>
    have e : inB (-999999999999) 999999999999 (.int i) = (decide (-1000000000000 < i) && decide (i < 1000000000000)) := by
      unfold inB
      rw [Bool.eq_iff_iff]
      simp only [Bool.and_eq_true, decide_eq_true_eq]
      omega
    rw [e] at q
    dsimp only [isWh]
    refine iteT ?_
    walk_at "go"
    refine ifd (fun c => ?_) (fun c => ?_)
    · have c : -1000000000000 < i := c
      rw [decide_eq_true c] at q
      walk_at "go"
      exact q
    · have c : ¬ -1000000000000 < i := c
      rw [decide_eq_false c] at q
      exact q
  | _ =>
    dsimp only [isWh]
    refine iteF ?_
    exact q
end

/-! ### what a market is -/
def amt (d : PyData) : Bool := inB (-999999999999) 999999999999 d
def okStep : PyData → Bool
  | .tuple [a, b] => amt a && inB 1 999 b
  | _ => false
def byOf : PyData → Int
  | .tuple (.int i :: _) => i
  | _ => 0
def okSteps : PyData → Bool
  | .list ds => decide (1 ≤ ds.length) && (decide (ds.length ≤ 4) && (ds.all okStep && decide (ds.map byOf).Nodup))
  | _ => false
def wordOf : PyData → Str
  | .tuple (.str x :: _) => x
  | _ => Str.empty
def okName : PyData → Bool
  | .tuple [n, b, s] => isW' n && (amt b && okSteps s)
  | _ => false
def okNames : PyData → Bool
  | .list ds => decide (ds.length ≤ 3) && (ds.all okName && decide (ds.map wordOf).Nodup)
  | _ => false
def okMk (l n : PyData) : Bool := inB 0 12 l && okNames n
theorem okStep_tup {d : PyData} (h : okStep d = true) : ∃ i b, d = .tuple [.int i, b] := by
  unfold okStep at h
  split at h
  · rename_i a b
    rw [Bool.and_eq_true] at h
    cases a with
    | int i => exact ⟨i, b, rfl⟩
    | _ => cases h.1
  · cases h
theorem isW_str {d : PyData} (h : isW' d = true) : ∃ x, d = .str x := by
  cases d with
  | str x => exact ⟨x, rfl⟩
  | _ => cases h
theorem okName_tup {d : PyData} (h : okName d = true) : ∃ x b s, d = .tuple [.str x, b, s] ∧ okSteps s = true := by
  unfold okName at h
  split at h
  · rename_i a b s
    rw [Bool.and_eq_true, Bool.and_eq_true] at h
    obtain ⟨x, rfl⟩ := isW_str h.1
    exact ⟨x, b, s, rfl, h.2.2⟩
  · cases h
theorem okSteps_lst {d : PyData} (h : okSteps d = true) : ∃ ds, d = .list ds ∧ ds.length ≤ 4 := by
  unfold okSteps at h
  split at h
  · rename_i ds
    simp only [Bool.and_eq_true, decide_eq_true_eq] at h
    exact ⟨ds, rfl, h.2.1⟩
  · cases h
theorem all_take {f : PyData → Bool} {ds : List PyData} {i : Nat} {d : PyData} (h : ds[i]? = some d) (ok : f d = true) (al : (ds.take i).all f = true) : (ds.take (i + 1)).all f = true := by
  rw [List.take_add_one, h, List.all_append, al]
  simp [ok]
theorem all_no {f : PyData → Bool} {ds : List PyData} {i : Nat} {d : PyData} (h : ds[i]? = some d) (no : f d = false) : ds.all f = false := by
  cases e : ds.all f with
  | false => rfl
  | true => rw [List.all_eq_true.mp e d (List.mem_of_getElem? h)] at no; cases no
def spNSteps (K : PySem.W.Frag) (C : Addr) : Sp := fun vs H Q E => ∃ (v : V) (d : PyData), vs = [v] ∧ Dp K H v d ∧ (okSteps d = true → ∀ H', Same H H' → Q .non H') ∧ (okSteps d = false → ∀ H', Same H H' → E (.ref C) none H')
theorem use_nsteps {K : PySem.W.Frag} {C : Addr} {v : V} {d : PyData} {H : Hp} {Q : VK} {E : XK} (h : Dp K H v d) (q0 : okSteps d = true → ∀ H', Same H H' → Q .non H') (q1 : okSteps d = false → ∀ H', Same H H' → E (.ref C) none H') : spNSteps K C ([v] ++ []) H Q E := ⟨v, d, rfl, h, q0, q1⟩
theorem g_lenU {K : PySem.W.Frag} {ta : TE} {σ : L2.St} {H : Hp} {Q : VK} (h : ta σ H fun x H1 => ∃ l, x = .ref l ∧
  ((∃ ns : List Int, SqL K H1 l (ns.map V.int) ∧ ns.length ≤ 4000 ∧ BkS.Unlike ns fun v => Q v H1) ∨ (∃ xs : List Str, SqL K H1 l (xs.map V.str) ∧ xs.length ≤ 4000 ∧ BkS.Unlike xs fun v => Q v H1))) : BkS.tLenU K ta σ H Q := h
section
variable {P : Program} {w : World} {K : PySem.W.Frag} {mg : Str → Option Value} {base : Heap}
abbrev s__need_steps : Stmt := topS 43
theorem sc__need_steps : FnScope ["steps", "told", "number", "weight"] ["steps"] (defScope s__need_steps) := ⟨rfl, rfl, rfl, by decide +kernel, rfl, by decide +kernel, by decide +kernel⟩
theorem h__need_steps {k : Nat} {f : Addr} {fd : FuncData} (O : Own K mg "_need_steps" s__need_steps ["steps"] f fd) {C_BadMarket : Addr} (X_BadMarket : ExcT K mg "BadMarket" C_BadMarket)  {f_is_between : Addr} {fd_is_between : FuncData} (D_is_between : Has P w K mg base "is_between" ["told", "low", "high"] k CX0 (spBetween K) f_is_between fd_is_between) {f_is_amount : Addr} {fd_is_amount : FuncData} (D_is_amount : Has P w K mg base "is_amount" ["told"] k CX0 (spAmount K) f_is_amount fd_is_amount) (m_len : mg "len" = none) (m_set : mg "set" = none) {t_MOST_WEIGHT : Tok} (m_MOST_WEIGHT : mg "MOST_WEIGHT" = some (.int 999 t_MOST_WEIGHT)) (m_isinstance : mg "isinstance" = none) (m_tuple : mg "tuple" = none) {t_MOST_STEPS : Tok} (m_MOST_STEPS : mg "MOST_STEPS" = some (.int 4 t_MOST_STEPS)) (m_list : mg "list" = none) : Has P w K mg base "_need_steps" ["steps"] (k + 1) (L2.CX P w) (spNSteps K C_BadMarket) f fd := by
  refine O.has (O.F.okX sc__need_steps (fun vs H Q E h => ?_) (fun cdv A outer s H vs Q E hr h => ?_))
  · obtain ⟨v, d, rfl, _⟩ := h
    rfl
  obtain ⟨v, d, rfl, hd, q0, q1⟩ := h
  refine ⟨_, (pss_cons (ps_if (PW.pt (pw_or (pt_not (pt_val (pe_callB call_isi (by rfl) m_isinstance (by decide +kernel) (pa_cons (pv 0) (pa_cons (pe_bltn (v := .ty "list") (by rfl) m_list (by decide +kernel) rfl) pa_nil))))) (pw_or1 (pt_not (pt_chain op_le op_le pe_int (pe_callB call_len_seq (by rfl) m_len (by decide +kernel) (pa_cons (pv 0) pa_nil)) (pe_glob (v := .int (4)) (by rfl) m_MOST_STEPS ⟨_, rfl⟩)))))) (pss_one (ps_raise rfl (takes_of rfl rfl rfl rfl) (pmk_own PySem.F.excBase_ValueError X_BadMarket.x X_BadMarket.g X_BadMarket.k (raises_own X_BadMarket.s X_BadMarket.t) rfl))) pss_nil) (pss_cons (ps_for (passes_of rfl) rfl (pi_list (pv 0)) (pg_name (i := 1) sc__need_steps.nd rfl (.inl rfl)) (pss_cons (ps_if (PW.pt (pw_or (pt_not (pt_val (pe_callB call_isi (by rfl) m_isinstance (by decide +kernel) (pa_cons (pv 1) (pa_cons (pe_bltn (v := .ty "tuple") (by rfl) m_tuple (by decide +kernel) rfl) pa_nil))))) (pw_or1 (pt_cmpR op_ne (pe_callB call_len_seq (by rfl) m_len (by decide +kernel) (pa_cons (pv 1) pa_nil)) pe_int (nomark _))))) (pss_one (ps_raise rfl (takes_of rfl rfl rfl rfl) (pmk_own PySem.F.excBase_ValueError X_BadMarket.x X_BadMarket.g X_BadMarket.k (raises_own X_BadMarket.s X_BadMarket.t) rfl))) pss_nil) (pss_cons (ps_asg (pv 1) (pg_tup rfl (pgs_cons (pg_name (i := 2) sc__need_steps.nd rfl (.inl rfl)) (pgs_cons (pg_name (i := 3) sc__need_steps.nd rfl (.inl rfl)) pgs_nil)))) (pss_one (ps_if (PW.pt (pw_or (pt_not (pt_val (pe_call D_is_amount.G hr (by rfl) D_is_amount.g D_is_amount.k D_is_amount.b .nil pass0 (pa_cons (pv 2) pa_nil)))) (pw_or1 (pt_not (pt_val (pe_call D_is_between.G hr (by rfl) D_is_between.g D_is_between.k D_is_between.b .nil pass0 (pa_cons (pv 3) (pa_cons pe_int (pa_cons (pe_glob (v := .int (999)) (by rfl) m_MOST_WEIGHT ⟨_, rfl⟩) pa_nil))))))))) (pss_one (ps_raise rfl (takes_of rfl rfl rfl rfl) (pmk_own PySem.F.excBase_ValueError X_BadMarket.x X_BadMarket.g X_BadMarket.k (raises_own X_BadMarket.s X_BadMarket.t) rfl))) pss_nil))))) (pss_one (ps_if (pt_cmpR op_lt (BkS.pe_lenU rfl (by rfl) m_len (by rfl) m_set (pe_lc (own := [("told", 1)]) (g := gName 1) rfl sc__need_steps.nd (pi_list (pv 0)) (blkOk_by (own := [("told", 1)]) (N := ["steps", "told", "number", "weight"]) (sc := defScope s__need_steps) (by decide +kernel)) (fun _ _ _ _ _ => pg_name (i := 1) sc__need_steps.nd rfl (.inl rfl)) (fun _ _ _ _ _ => pts_nil) (fun _ _ _ _ _ => (pe_ix (r := rIxT K) ix_tup (pv 1) pe_int (fun _ _ => rfl))))) (pe_callB call_len_seq (by rfl) m_len (by decide +kernel) (pa_cons (pv 0) pa_nil)) (nomark _)) (pss_one (ps_raise rfl (takes_of rfl rfl rfl rfl) (pmk_own PySem.F.excBase_ValueError X_BadMarket.x X_BadMarket.g X_BadMarket.k (raises_own X_BadMarket.s X_BadMarket.t) rfl))) pss_nil)))), ?_⟩
  walk_at "go"
  refine use_isLst hd ?_
  cases hd with
  | @lst a vs ds ha hall =>
    dsimp only [isLst]
    have hlen := DpAll.len hall
    have bad : ∀ {H'}, okSteps (.list ds) = false → Same H H' → E (.ref C_BadMarket) none H' := fun e s => q1 e _ s
    refine ⟨_, rfl, iteNT ?_⟩
    walk_at "go"
    refine ⟨_, _, rfl, .inl ha, ?_⟩
    walk_at "go"
    refine ifd (fun c1 => ?_) (fun c1 => ?_)
    · walk_at "go"
      refine ifdn (fun c2 => ?_) (fun c2 => ?_)
      · walk_at "go"
        refine ⟨⟨_, ha⟩, for_list (xs := vs) (fun i σ H2 => ∃ y1 y2 y3, σ = [some (.ref a), y1, y2, y3] ∧ Same H H2 ∧ (ds.take i).all okStep = true) ⟨_, _, _, rfl, .refl _, rfl⟩ (fun i σ H2 _ h => by
          obtain ⟨_, _, _, _, s2, _⟩ := h
          exact s2.seq ha) (fun i x σ H2 hx h => ?_) (fun σ H2 h => ?_)⟩
        · obtain ⟨y1, y2, y3, rfl, s2, al⟩ := h
          have hi : i < ds.length := by have := (List.getElem?_eq_some_iff.mp hx).1; omega
          have hdi : ds[i]? = some ds[i] := List.getElem?_eq_getElem hi
          obtain ⟨x', hx', hD⟩ := DpAll.at hall hdi
          obtain rfl : x' = x := Option.some.inj (hx'.symm.trans hx)
          have no : okStep ds[i] = false → okSteps (.list ds) = false := fun e => by
            dsimp only [okSteps]
            rw [all_no hdi e]
            simp
          have yes := fun e => all_take (f := okStep) hdi e al
          generalize ds[i] = di at hD no yes
          replace hD := Dp.dm (.of s2) hD
          walk_at "go"
          refine use_isTup hD ?_
          cases hD with
          | @tup b us es hb he =>
            dsimp only [isTup]
            refine ⟨_, rfl, iteNT ?_⟩
            walk_at "go"
            refine ⟨_, _, rfl, .inr hb, ?_⟩
            walk_at "go"
            have le := DpAll.len he
            refine ifdn (fun c3 => ?_) (fun c3 => ?_)
            · obtain ⟨n, m, rfl⟩ : ∃ n m, us = [n, m] := by
                match us, (show us.length = 2 by have := c3; omega) with
                | [n, m], _ => exact ⟨n, m, rfl⟩
              cases he with
              | @cons _ _ d1 _ h1 he =>
              cases he with
              | @cons _ _ d2 _ h2 he =>
              cases he
              walk_at "go"
              refine g_gtup hb rfl ?_
              walk_at "go"
              refine use_amount h1 ?_
              walk_at "go"
              have e1 : okStep (.tuple [d1, d2]) = (amt d1 && inB 1 999 d2) := rfl
              refine ifn (fun c4 => ?_) (fun c4 => ?_)
              · walk_at "go"
                refine use_between h2 ?_
                walk_at "go"
                refine ifn (fun c5 => ?_) (fun c5 => ?_)
                · walk_at "go"
                  exact ⟨_, _, _, rfl, s2, yes (by rw [e1, c5]; unfold amt; rw [c4]; rfl)⟩
                · walk_at "go"
                  exact bad (no (by rw [e1, c5]; simp)) s2
              · walk_at "go"
                exact bad (no (by rw [e1]; unfold amt; rw [c4]; rfl)) s2
            · walk_at "go"
              refine bad (no ?_) s2
              unfold okStep
              split
              · rename_i u v e
                obtain rfl : es = [u, v] := by injection e
                exact absurd (show (us.length : Int) = 2 by rw [le]; rfl) c3
              · rfl
          | _ =>
            dsimp only [isTup]
            walk_at "go"
            exact bad (no rfl) s2
        · obtain ⟨y1, y2, y3, rfl, s2, al⟩ := h
          rw [hlen, List.take_length] at al
          walk_at "go"
          refine g_lenU ?_
          walk_at "go"
          refine ⟨⟨_, s2.seq ha⟩, fun D nD => lc_list (xs := vs) (Comp H2 D (fun j y H' => ∃ d, ds[j]? = some d ∧ y = .int (byOf d))) (.start nD) (fun i H' _ c => (s2.trans c.e).seq ha) (fun i x H' hx c => ?_) (fun H' c => ?_)⟩
          · have hi : i < ds.length := by have := (List.getElem?_eq_some_iff.mp hx).1; omega
            have hdi : ds[i]? = some ds[i] := List.getElem?_eq_getElem hi
            obtain ⟨x', hx', hD⟩ := DpAll.at hall hdi
            obtain rfl : x' = x := Option.some.inj (hx'.symm.trans hx)
            obtain ⟨n, b, ed⟩ := okStep_tup (List.all_eq_true.mp al _ (List.getElem_mem hi))
            rw [ed] at hdi hD
            replace hD := Dp.dm (.of (s2.trans c.e)) hD
            cases hD with
            | @tup b us es hb he =>
            cases he with
            | @cons _ _ d1 _ h1 he =>
            cases h1
            walk_at "go"
            refine ⟨_, _, _, _, rfl, rfl, hb, at_any (j := 0) rfl rfl, ?_⟩
            exact c.next (fun j y Ha Hb h _ => h) (.refl _) (by omega) ⟨_, hdi, rfl⟩
          · obtain ⟨e3, _, ys, hy, ly, ry⟩ := c
            have ey : ys = (ds.map byOf).map V.int := List.ext_getElem? fun j => by
              rcases Nat.lt_or_ge j ys.length with lt | ge
              · obtain ⟨d, hd1, e⟩ := ry j _ (List.getElem?_eq_getElem lt)
                rw [List.getElem?_eq_getElem lt, e, List.getElem?_map, List.getElem?_map, hd1]
                rfl
              · rw [List.getElem?_eq_none ge, List.getElem?_eq_none (by simp; omega)]
            rw [ey] at hy
            have s4 := s2.trans e3
            refine ⟨_, rfl, .inl ⟨ds.map byOf, sql hy, by rw [List.length_map]; omega, fun m u1 u2 => ?_⟩⟩
            rw [List.length_map] at u1 u2
            walk_at "go"
            refine ⟨_, _, rfl, .inl (s4.seq ha), ?_⟩
            walk_at "go"
            have okd : okSteps (.list ds) = decide (ds.map byOf).Nodup := by
              dsimp only [okSteps]
              rw [decide_eq_true (show 1 ≤ ds.length by omega), decide_eq_true (show ds.length ≤ 4 by omega), al]
              rfl
            by_cases nd : (ds.map byOf).Nodup
            · refine ifd (fun c6 => ?_) (fun c6 => ?_)
              · have := u1 nd
                omega
              · walk_at "go"
                exact q0 (by rw [okd]; exact decide_eq_true nd) _ s4
            · refine ifd (fun c6 => ?_) (fun c6 => ?_)
              · walk_at "go"
                exact bad (by rw [okd]; exact decide_eq_false nd) s4
              · have := u2 nd
                omega
      · walk_at "go"
        refine bad ?_ (.refl _)
        dsimp only [okSteps]
        rw [decide_eq_false (show ¬ ds.length ≤ 4 by omega)]
        simp
    · walk_at "go"
      refine bad ?_ (.refl _)
      dsimp only [okSteps]
      rw [decide_eq_false (show ¬ 1 ≤ ds.length by omega)]
      rfl
  | _ =>
    dsimp only [isLst]
    walk_at "go"
    exact q1 rfl _ (.refl _)
end
def spNNames (K : PySem.W.Frag) (C PT : Addr) : Sp := fun vs H Q E => ∃ (v : V) (d : PyData), vs = [v] ∧ Dp K H v d ∧ szOk d = true ∧ GxR.TabG H PT ∧ (okNames d = true → ∀ H', Tb PT H H' → Q .non H') ∧ (okNames d = false → ∀ H', Tb PT H H' → E (.ref C) none H')
theorem use_nnames {K : PySem.W.Frag} {C PT : Addr} {v : V} {d : PyData} {H : Hp} {Q : VK} {E : XK} (h : Dp K H v d) (z : szOk d = true) (t : GxR.TabG H PT) (q0 : okNames d = true → ∀ H', Tb PT H H' → Q .non H') (q1 : okNames d = false → ∀ H', Tb PT H H' → E (.ref C) none H') :
    spNNames K C PT ([v] ++ []) H Q E := ⟨v, d, rfl, h, z, t, q0, q1⟩
section
variable {P : Program} {w : World} {K : PySem.W.Frag} {mg : Str → Option Value} {base : Heap}
abbrev s__need_names : Stmt := topS 42
theorem sc__need_names : FnScope ["names", "told", "name", "number", "steps"] ["names"] (defScope s__need_names) := ⟨rfl, rfl, rfl, by decide +kernel, rfl, by decide +kernel, by decide +kernel⟩
theorem h__need_names {PT : Addr} {k : Nat} {f : Addr} {fd : FuncData} (O : Own K mg "_need_names" s__need_names ["names"] f fd) {C_BadMarket : Addr} (X_BadMarket : ExcT K mg "BadMarket" C_BadMarket)  {f__need_steps : Addr} {fd__need_steps : FuncData} (D__need_steps : Has P w K mg base "_need_steps" ["steps"] k (L2.CX P w) (spNSteps K C_BadMarket) f__need_steps fd__need_steps) {f_is_amount : Addr} {fd_is_amount : FuncData} (D_is_amount : Has P w K mg base "is_amount" ["told"] k CX0 (spAmount K) f_is_amount fd_is_amount) {f_is_word : Addr} {fd_is_word : FuncData} (D_is_word : Has P w K mg base "is_word" ["told"] k CX0 (spIsWord K PT) f_is_word fd_is_word) (m_len : mg "len" = none) (m_set : mg "set" = none) (m_isinstance : mg "isinstance" = none) (m_tuple : mg "tuple" = none) {t_MOST_NAMES : Tok} (m_MOST_NAMES : mg "MOST_NAMES" = some (.int 3 t_MOST_NAMES)) (m_list : mg "list" = none) : Has P w K mg base "_need_names" ["names"] (k + 1) (L2.CX P w) (spNNames K C_BadMarket PT) f fd := by
  refine O.has (O.F.okX sc__need_names (fun vs H Q E h => ?_) (fun cdv A outer s H vs Q E hr h => ?_))
  · obtain ⟨v, d, rfl, _⟩ := h
    rfl
  obtain ⟨v, d, rfl, hd, hz, ht, q0, q1⟩ := h
  refine ⟨_, (pss_cons (ps_if (PW.pt (pw_or (pt_not (pt_val (pe_callB call_isi (by rfl) m_isinstance (by decide +kernel) (pa_cons (pv 0) (pa_cons (pe_bltn (v := .ty "list") (by rfl) m_list (by decide +kernel) rfl) pa_nil))))) (pw_or1 (pt_cmpR op_gt (pe_callB call_len_seq (by rfl) m_len (by decide +kernel) (pa_cons (pv 0) pa_nil)) (pe_glob (v := .int (3)) (by rfl) m_MOST_NAMES ⟨_, rfl⟩) (nomark _))))) (pss_one (ps_raise rfl (takes_of rfl rfl rfl rfl) (pmk_own PySem.F.excBase_ValueError X_BadMarket.x X_BadMarket.g X_BadMarket.k (raises_own X_BadMarket.s X_BadMarket.t) rfl))) pss_nil) (pss_cons (ps_for (passes_of rfl) rfl (pi_list (pv 0)) (pg_name (i := 1) sc__need_names.nd rfl (.inl rfl)) (pss_cons (ps_if (PW.pt (pw_or (pt_not (pt_val (pe_callB call_isi (by rfl) m_isinstance (by decide +kernel) (pa_cons (pv 1) (pa_cons (pe_bltn (v := .ty "tuple") (by rfl) m_tuple (by decide +kernel) rfl) pa_nil))))) (pw_or1 (pt_cmpR op_ne (pe_callB call_len_seq (by rfl) m_len (by decide +kernel) (pa_cons (pv 1) pa_nil)) pe_int (nomark _))))) (pss_one (ps_raise rfl (takes_of rfl rfl rfl rfl) (pmk_own PySem.F.excBase_ValueError X_BadMarket.x X_BadMarket.g X_BadMarket.k (raises_own X_BadMarket.s X_BadMarket.t) rfl))) pss_nil) (pss_cons (ps_asg (pv 1) (pg_tup rfl (pgs_cons (pg_name (i := 2) sc__need_names.nd rfl (.inl rfl)) (pgs_cons (pg_name (i := 3) sc__need_names.nd rfl (.inl rfl)) (pgs_cons (pg_name (i := 4) sc__need_names.nd rfl (.inl rfl)) pgs_nil))))) (pss_cons (ps_if (PW.pt (pw_or (pt_not (pt_val (pe_call D_is_word.G hr (by rfl) D_is_word.g D_is_word.k D_is_word.b .nil pass0 (pa_cons (pv 2) pa_nil)))) (pw_or1 (pt_not (pt_val (pe_call D_is_amount.G hr (by rfl) D_is_amount.g D_is_amount.k D_is_amount.b .nil pass0 (pa_cons (pv 3) pa_nil))))))) (pss_one (ps_raise rfl (takes_of rfl rfl rfl rfl) (pmk_own PySem.F.excBase_ValueError X_BadMarket.x X_BadMarket.g X_BadMarket.k (raises_own X_BadMarket.s X_BadMarket.t) rfl))) pss_nil) (pss_one (ps_expr (pe_call D__need_steps.G hr (by rfl) D__need_steps.g D__need_steps.k D__need_steps.b .nil (passes_call (takes_of rfl rfl rfl rfl) (fun _ _ _ _ h => h)) (pa_cons (pv 4) pa_nil)))))))) (pss_one (ps_if (pt_cmpR op_lt (BkS.pe_lenU rfl (by rfl) m_len (by rfl) m_set (pe_lc (own := [("told", 1)]) (g := gName 1) rfl sc__need_names.nd (pi_list (pv 0)) (blkOk_by (own := [("told", 1)]) (N := ["names", "told", "name", "number", "steps"]) (sc := defScope s__need_names) (by decide +kernel)) (fun _ _ _ _ _ => pg_name (i := 1) sc__need_names.nd rfl (.inl rfl)) (fun _ _ _ _ _ => pts_nil) (fun _ _ _ _ _ => (pe_ix (r := rIxT K) ix_tup (pv 1) pe_int (fun _ _ => rfl))))) (pe_callB call_len_seq (by rfl) m_len (by decide +kernel) (pa_cons (pv 0) pa_nil)) (nomark _)) (pss_one (ps_raise rfl (takes_of rfl rfl rfl rfl) (pmk_own PySem.F.excBase_ValueError X_BadMarket.x X_BadMarket.g X_BadMarket.k (raises_own X_BadMarket.s X_BadMarket.t) rfl))) pss_nil)))), ?_⟩
  walk_at "go"
  refine use_isLst hd ?_
  cases hd with
  | @lst a vs ds ha hall =>
    dsimp only [isLst]
    have hlen := DpAll.len hall
    have bad : ∀ {H'}, okNames (.list ds) = false → Tb PT H H' → E (.ref C_BadMarket) none H' := fun e s => q1 e _ s
    have hzs : szAll ds = true := hz
    refine ⟨_, rfl, iteNT ?_⟩
    walk_at "go"
    refine ⟨_, _, rfl, .inl ha, ?_⟩
    walk_at "go"
    refine ifd (fun c1 => ?_) (fun c1 => ?_)
    · walk_at "go"
      refine bad ?_ (.refl ht)
      dsimp only [okNames]
      rw [decide_eq_false (show ¬ ds.length ≤ 3 by omega)]
      rfl
    walk_at "go"
    refine ⟨⟨_, ha⟩, for_list (xs := vs) (fun i σ H2 => ∃ y1 y2 y3 y4, σ = [some (.ref a), y1, y2, y3, y4] ∧ Tb PT H H2 ∧ (ds.take i).all okName = true) ⟨_, _, _, _, rfl, .refl ht, rfl⟩ (fun i σ H2 _ h => by
      obtain ⟨_, _, _, _, _, t2, _⟩ := h
      exact (t2.dm ht).l _ _ ha) (fun i x σ H2 hx h => ?_) (fun σ H2 h => ?_)⟩
    · obtain ⟨y1, y2, y3, y4, rfl, t2, al⟩ := h
      have hi : i < ds.length := by have := (List.getElem?_eq_some_iff.mp hx).1; omega
      have hdi : ds[i]? = some ds[i] := List.getElem?_eq_getElem hi
      obtain ⟨x', hx', hD⟩ := DpAll.at hall hdi
      obtain rfl : x' = x := Option.some.inj (hx'.symm.trans hx)
      have no : okName ds[i] = false → okNames (.list ds) = false := fun e => by
        dsimp only [okNames]
        rw [all_no hdi e]
        simp
      have yes := fun e => all_take (f := okName) hdi e al
      have hzi := szAll_at hzs hdi
      generalize ds[i] = di at hD no yes hzi
      replace hD := Dp.dm (t2.dm ht) hD
      walk_at "go"
      refine use_isTup hD ?_
      cases hD with
      | @tup b us es hb he =>
        dsimp only [isTup]
        refine ⟨_, rfl, iteNT ?_⟩
        walk_at "go"
        refine ⟨_, _, rfl, .inr hb, ?_⟩
        walk_at "go"
        have le := DpAll.len he
        refine ifdn (fun c3 => ?_) (fun c3 => ?_)
        · obtain ⟨n, m, r, rfl⟩ : ∃ n m r, us = [n, m, r] := by
            match us, (show us.length = 3 by have := c3; omega) with
            | [n, m, r], _ => exact ⟨n, m, r, rfl⟩
          cases he with
          | @cons _ _ d1 _ h1 he =>
          cases he with
          | @cons _ _ d2 _ h2 he =>
          cases he with
          | @cons _ _ d3 _ h3 he =>
          cases he
          have e1 : okName (.tuple [d1, d2, d3]) = (isW' d1 && (amt d2 && okSteps d3)) := rfl
          have hz1 : szOk d1 = true := by
            have z : (szOk d1 && szAll [d2, d3]) = true := hzi
            exact (Bool.and_eq_true_iff.mp z).1
          walk_at "go"
          refine g_gtup hb rfl ?_
          walk_at "go"
          refine use_isWord h1 hz1 t2.g fun H3 t3 => ?_
          have d23 : DM K H2 H3 := t3.dm t2.g
          have t23 := t2.trans t3
          walk_at "go"
          refine ifn (fun c4 => ?_) (fun c4 => ?_)
          · walk_at "go"
            refine use_amount (Dp.dm d23 h2) ?_
            walk_at "go"
            refine ifn (fun c5 => ?_) (fun c5 => ?_)
            · walk_at "go"
              refine use_nsteps (Dp.dm d23 h3) (fun c6 H4 s4 => ?_) (fun c6 H4 s4 => ?_)
              · exact ⟨_, _, _, _, rfl, t23.trans (.of t23.g s4), yes (by rw [e1, c4, c6]; unfold amt; rw [c5]; rfl)⟩
              · exact bad (no (by rw [e1, c6]; simp)) (t23.trans (.of t23.g s4))
            · walk_at "go"
              exact bad (no (by rw [e1]; unfold amt; rw [c5]; simp)) t23
          · walk_at "go"
            exact bad (no (by rw [e1, c4]; rfl)) t23
        · walk_at "go"
          refine bad (no ?_) t2
          unfold okName
          split
          · rename_i u v x e
            obtain rfl : es = [u, v, x] := by injection e
            exact absurd (show (us.length : Int) = 3 by rw [le]; rfl) c3
          · rfl
      | _ =>
        dsimp only [isTup]
        walk_at "go"
        exact bad (no rfl) t2
    · obtain ⟨y1, y2, y3, y4, rfl, t2, al⟩ := h
      rw [hlen, List.take_length] at al
      have ha2 : SqL K H2 a vs := (t2.dm ht).l _ _ ha
      walk_at "go"
      refine g_lenU ?_
      walk_at "go"
      refine ⟨⟨_, ha2⟩, fun D nD => lc_list (xs := vs) (Comp H2 D (fun j y H' => ∃ d, ds[j]? = some d ∧ y = .str (wordOf d))) (.start nD) (fun i H' _ c => c.e.seq ha2) (fun i x H' hx c => ?_) (fun H' c => ?_)⟩
      · have hi : i < ds.length := by have := (List.getElem?_eq_some_iff.mp hx).1; omega
        have hdi : ds[i]? = some ds[i] := List.getElem?_eq_getElem hi
        obtain ⟨x', hx', hD⟩ := DpAll.at hall hdi
        obtain rfl : x' = x := Option.some.inj (hx'.symm.trans hx)
        obtain ⟨n, b1, b2, ed, _⟩ := okName_tup (List.all_eq_true.mp al _ (List.getElem_mem hi))
        rw [ed] at hdi hD
        replace hD := Dp.dm ((t2.dm ht).trans (.of c.e)) hD
        cases hD with
        | @tup b us es hb he =>
        cases he with
        | @cons _ _ d1 _ h1 he =>
        cases h1
        walk_at "go"
        refine ⟨_, _, _, _, rfl, rfl, hb, at_any (j := 0) rfl rfl, ?_⟩
        exact c.next (fun j y Ha Hb h _ => h) (.refl _) (by omega) ⟨_, hdi, rfl⟩
      · obtain ⟨e3, _, ys, hy, ly, ry⟩ := c
        have ey : ys = (ds.map wordOf).map V.str := List.ext_getElem? fun j => by
          rcases Nat.lt_or_ge j ys.length with lt | ge
          · obtain ⟨d, hd1, e⟩ := ry j _ (List.getElem?_eq_getElem lt)
            rw [List.getElem?_eq_getElem lt, e, List.getElem?_map, List.getElem?_map, hd1]
            rfl
          · rw [List.getElem?_eq_none ge, List.getElem?_eq_none (by simp; omega)]
        rw [ey] at hy
        have t4 := t2.trans (.of t2.g e3)
        refine ⟨_, rfl, .inr ⟨ds.map wordOf, sql hy, by rw [List.length_map]; omega, fun m u1 u2 => ?_⟩⟩
        rw [List.length_map] at u1 u2
        walk_at "go"
        refine ⟨_, _, rfl, .inl (e3.seq ha2), ?_⟩
        walk_at "go"
        have okd : okNames (.list ds) = decide (ds.map wordOf).Nodup := by
          dsimp only [okNames]
          rw [decide_eq_true (show ds.length ≤ 3 by omega), al]
          rfl
        by_cases nd : (ds.map wordOf).Nodup
        · refine ifd (fun c6 => ?_) (fun c6 => ?_)
          · have := u1 nd
            omega
          · walk_at "go"
            exact q0 (by rw [okd]; exact decide_eq_true nd) _ t4
        · refine ifd (fun c6 => ?_) (fun c6 => ?_)
          · walk_at "go"
            exact bad (by rw [okd]; exact decide_eq_false nd) t4
          · have := u2 nd
            omega
  | _ =>
    dsimp only [isLst]
    walk_at "go"
    exact q1 rfl _ (.refl ht)
end

/-! ### a drawn market -/
/-- the heap without what stands at p -/
def er (p : Addr) (H : Hp) : Hp := fun b => if b = p then none else H b
theorem er_ne {p b : Addr} {H : Hp} (h : b ≠ p) : er p H b = H b := if_neg h
theorem er_sub {p : Addr} {H : Hp} : Same (er p H) H := fun b o h => by
  unfold er at h
  split at h
  · cases h
  · exact h
theorem er_new {p : Addr} {H : Hp} (n : H p = none) : er p H = H := funext fun b => by
  unfold er
  split
  · rename_i e
    rw [e, n]
  · rfl
theorem er_upd {p : Addr} {H : Hp} {o : HO} : er p (upd H p o) = er p H := funext fun b => by
  unfold er
  split
  · rfl
  · rename_i h
    exact upd_ne h
theorem er_same {p : Addr} {H H' : Hp} (e : Same H H') : Same (er p H) (er p H') := fun b o h => by
  unfold er at h ⊢
  split at h
  · cases h
  · rename_i n
    rw [if_neg n]
    exact e _ _ h
theorem er_kb {p s : Addr} {H H' : Hp} (e : KB s H H') : KB s (er p H) (er p H') := fun b o n h => by
  unfold er at h ⊢
  split at h
  · cases h
  · rename_i n2
    rw [if_neg n2]
    exact e _ _ n h
/-- the drawing's dict and its lists stand apart from p -/
theorem LS.er {K : PySem.W.Frag} {c : Cfg} {ns : List Int} {xs : List Str} {s na nm p : Addr} {H H' : Hp} (L : LS K c ns xs s na nm (er p H)) (e : KB s H H') (L' : LS K c ns xs s na nm H') : LS K c ns xs s na nm (er p H') := by
  obtain ⟨⟨n, re, mx, h, _⟩, h1, h2, h3, h4, h5⟩ := L
  obtain ⟨⟨n', re', mx', h', r'⟩, _⟩ := L'
  have np : s ≠ p := fun z => by
    rw [z] at h
    unfold Bk.er at h
    rw [if_pos rfl] at h
    cases h
  exact ⟨⟨n', re', mx', (er_ne np).trans h', r'⟩, KB.seq (er_kb e) h h1, KB.seq (er_kb e) h h2, h3, h4, h5⟩
theorem LS.dm {K : PySem.W.Frag} {c : Cfg} {ns : List Int} {xs : List Str} {s na nm : Addr} {H H' : Hp} (L : LS K c ns xs s na nm H) (e : KB s H H') : DM K H H' := by
  obtain ⟨⟨n, re, mx, h, _⟩, _⟩ := L
  exact e.dm h
theorem inV_int {b : Int} {ns : List Int} : inV (.int b) (ns.map V.int) = decide (b ∈ ns) := by
  unfold inV
  rw [List.any_map, Bool.eq_iff_iff, List.any_eq_true, decide_eq_true_eq]
  constructor
  · rintro ⟨x, hx, e⟩
    have e' : (x == b) = true := by
      first
        | exact e
        | (have z : (b == x) = true := e; simpa [eq_comm] using z)
    rw [← eq_of_beq e']
    exact hx
  · intro h
    refine ⟨b, h, ?_⟩
    show (b == b) = true
    simp
structure StOk (ds : List PyData) : Prop where
  a : ds.all okStep = true
  n : (ds.map byOf).Nodup
theorem StOk.snoc {ds : List PyData} {b w : Int} (h : StOk ds) (hb : -4 < b) (hb2 : b < 4) (h0 : 1 ≤ w) (h1 : w ≤ 5) (hn : b ∉ ds.map byOf) : StOk (ds ++ [.tuple [.int b, .int w]]) := by
  refine ⟨?_, ?_⟩
  · rw [List.all_append, h.a]
    have e : okStep (.tuple [.int b, .int w]) = true := by
      show ((decide (-999999999999 ≤ b) && decide (b ≤ 999999999999)) && (decide (1 ≤ w) && decide (w ≤ 999))) = true
      simp only [Bool.and_eq_true, decide_eq_true_eq]
      omega
    simp [e]
  · rw [List.map_append]
    refine List.nodup_append.mpr ⟨h.n, by simp, fun a ha c hc => ?_⟩
    simp at hc
    subst hc
    exact fun e => hn (by rw [← e]; exact ha)
theorem StOk.sz : ∀ {ds : List PyData}, ds.all okStep = true → szAll ds = true
  | [], _ => rfl
  | d :: ds, h => by
    rw [List.all_cons, Bool.and_eq_true] at h
    show (szOk d && szAll ds) = true
    rw [StOk.sz h.2, Bool.and_true]
    have h1 := h.1
    unfold okStep at h1
    split at h1
    · rename_i a b
      rw [Bool.and_eq_true] at h1
      cases a with
      | int i =>
        cases b with
        | int j => rfl
        | _ => cases h1.2
      | _ => cases h1.1
    · cases h1
def spSteps (K : PySem.W.Frag) : Sp := fun vs H Q _ => ∃ (c : Cfg) (ns : List Int) (xs : List Str) (s na nm : Addr), vs = [.ref s] ∧ LS K c ns xs s na nm H ∧
  ∀ (p : Addr) (ds : List PyData) (H' : Hp), H p = none → KB s H H' → LS K c ns xs s na nm H' → Dp K H' (.ref p) (.list ds) → okSteps (.list ds) = true → Q (.ref p) H'
theorem use_steps {K : PySem.W.Frag} {c : Cfg} {ns : List Int} {xs : List Str} {s na nm : Addr} {H : Hp} {Q : VK} {E : XK} (L : LS K c ns xs s na nm H)
    (q : ∀ (p : Addr) (ds : List PyData) (H' : Hp), H p = none → KB s H H' → LS K c ns xs s na nm H' → Dp K H' (.ref p) (.list ds) → okSteps (.list ds) = true → Q (.ref p) H') : spSteps K ([.ref s] ++ []) H Q E := ⟨c, ns, xs, s, na, nm, rfl, L, q⟩
section
variable {P : Program} {w : World} {K : PySem.W.Frag} {mg : Str → Option Value} {base : Heap}
abbrev s__law_steps : Stmt := topS 62
theorem sc__law_steps : FnScope ["_law_s", "_law_steps_here", "_law_k", "_law_by", "_law_step"] ["_law_s"] (defScope s__law_steps) := ⟨rfl, rfl, rfl, by decide +kernel, rfl, by decide +kernel, by decide +kernel⟩
theorem h__law_steps {k : Nat} {f : Addr} {fd : FuncData} (O : Own K mg "_law_steps" s__law_steps ["_law_s"] f fd)  {f__law_taken : Addr} {fd__law_taken : FuncData} (D__law_taken : Has P w K mg base "_law_taken" ["_law_s", "_law_most"] k CX0 (spTaken K) f__law_taken fd__law_taken) (m_range : mg "range" = none) : Has P w K mg base "_law_steps" ["_law_s"] (k + 1) CX0 (spSteps K) f fd := by
  refine O.has (O.F.ok sc__law_steps (fun vs H Q E h => ?_) (fun cdv A outer s H vs Q E hr h => ?_))
  · obtain ⟨c, ns, xs, s, na, nm, rfl, _⟩ := h
    rfl
  obtain ⟨c, ns, xs, s, na, nm, rfl, L, q⟩ := h
  refine ⟨_, (pss_cons (ps_set (i := 1) sc__law_steps.nd rfl (.inl rfl) (pe_lst pa_nil)) (pss_cons (ps_for PassesOwn.never rfl (pi_range1 (by rfl) m_range (pa_cons (pe_op op_add pe_int (pe_call D__law_taken.G hr (by rfl) D__law_taken.g D__law_taken.k D__law_taken.b .nil pass0 (pa_cons (pv 0) (pa_cons pe_int pa_nil)))) pa_nil)) (pg_name (i := 2) sc__law_steps.nd rfl (.inl rfl)) (pss_cons (ps_set (i := 3) sc__law_steps.nd rfl (.inl rfl) (pe_op op_sub (pe_call D__law_taken.G hr (by rfl) D__law_taken.g D__law_taken.k D__law_taken.b .nil pass0 (pa_cons (pv 0) (pa_cons pe_int pa_nil))) pe_int)) (pss_one (ps_if (pt_cmpR op_notIn_seq (pv 3) (pe_lc (own := [("_law_step", 4)]) (g := gName 4) rfl sc__law_steps.nd (pi_list (pv 1)) (blkOk_by (own := [("_law_step", 4)]) (N := ["_law_s", "_law_steps_here", "_law_k", "_law_by", "_law_step"]) (sc := defScope s__law_steps) (by decide +kernel)) (fun _ _ _ _ _ => pg_name (i := 4) sc__law_steps.nd rfl (.inl rfl)) (fun _ _ _ _ _ => pts_nil) (fun _ _ _ _ _ => (pe_ix (r := rIxT K) ix_tup (pv 4) pe_int (fun _ _ => rfl)))) (by rfl)) (pss_one (ps_expr (pe_bm PySem.F.plainAttrs_list PySem.F.slot_list_append PySem.F.type_list_append mt_append (pv 1) (pa_cons (pe_tup (pa_cons (pv 3) (pa_cons (pe_op op_add pe_int (pe_call D__law_taken.G hr (by rfl) D__law_taken.g D__law_taken.k D__law_taken.b .nil pass0 (pa_cons (pv 0) (pa_cons pe_int pa_nil)))) pa_nil))) pa_nil)))) pss_nil)))) (pss_one (ps_ret (pv 1))))), ?_⟩
  walk_at "go"
  refine ⟨by show 0 ≤ sizeLine; decide, fun p np => ?_⟩
  have s1 := same_new (o := .lst []) np
  have L1 := L.same s1
  have hp1 : upd H p (.lst []) p = some (.lst []) := upd_same
  have E1 : er p (upd H p (.lst [])) = H := er_upd.trans (er_new np)
  walk_at "go"
  refine use_taken L1 (by decide) (by decide) fun r H2 r0 r1 e2 L2 => ?_
  have nps : p ≠ s := fun z => by
    obtain ⟨n, re, mx, h, _⟩ := L.st
    rw [z, h] at np
    cases np
  have hp2 := e2 _ _ nps hp1
  have F2 : LS K c ns xs s na nm (er p H2) := LS.er (by rw [E1]; exact L) e2 L2
  have k2 : KB s H (er p H2) := by
    have z := er_kb (p := p) e2
    rw [E1] at z
    exact z
  walk_at "go"
  refine ⟨by omega, by omega, for_range (lo := 0) (n := (1 + r).toNat) (fun i σ H3 => ∃ y2 y3, σ = [some (.ref s), some (.ref p), y2, y3, none] ∧ ∃ vs ds, H3 p = some (.lst vs) ∧ vs.length ≤ i ∧ DpAll K (er p H3) vs ds ∧ StOk ds ∧ (0 < i → ds ≠ []) ∧ LS K c ns xs s na nm (er p H3) ∧ KB s H (er p H3))
    ⟨_, _, rfl, [], [], hp2, Nat.le_refl _, .nil, ⟨rfl, List.nodup_nil⟩, fun h => absurd h (by decide), F2, k2⟩ (fun i σ H3 hi hW => ?_) (fun σ H3 hW => ?_)⟩
  · obtain ⟨y2, y3, rfl, vs, ds, hp3, hl3, D3, ok3, ne3, F3, k3⟩ := hW
    have L3 := F3.same er_sub
    walk_at "go"
    refine use_taken L3 (by decide) (by decide) fun b H4 b0 b1 e4 L4 => ?_
    have hp4 := e4 _ _ nps hp3
    have F4 := F3.er e4 L4
    have D4 := DpAll.dm (F3.dm (er_kb e4)) D3
    have k4 := k3.trans (er_kb e4)
    walk_at "go"
    have dl4 := DpAll.len D4
    refine ⟨⟨_, sql hp4⟩, fun D nD => lc_list (xs := vs) (Comp H4 D (fun j y H' => ∃ d, ds[j]? = some d ∧ y = .int (byOf d))) (.start nD) (fun i H' _ c => c.e.seq (sql hp4)) (fun j x H' hx c => ?_) (fun H5 c => ?_)⟩
    · have hj : j < ds.length := by have := (List.getElem?_eq_some_iff.mp hx).1; omega
      have hdj : ds[j]? = some ds[j] := List.getElem?_eq_getElem hj
      obtain ⟨x', hx', hD⟩ := DpAll.at D4 hdj
      obtain rfl : x' = x := Option.some.inj (hx'.symm.trans hx)
      obtain ⟨n, m, ed⟩ := okStep_tup (List.all_eq_true.mp ok3.a _ (List.getElem_mem hj))
      rw [ed] at hdj hD
      replace hD := Dp.dm (.of (er_sub.trans c.e)) hD
      cases hD with
      | @tup t us es ht he =>
      cases he with
      | @cons _ _ d1 _ h1 he =>
      cases h1
      walk_at "go"
      refine ⟨_, _, _, _, rfl, rfl, ht, at_any (j := 0) rfl rfl, ?_⟩
      exact c.next (fun j y Ha Hb h _ => h) (.refl _) (by omega) ⟨_, hdj, rfl⟩
    obtain ⟨e5, _, ys, hy, ly, ry⟩ := c
    have ey : ys = (ds.map byOf).map V.int := List.ext_getElem? fun j => by
      rcases Nat.lt_or_ge j ys.length with lt | ge
      · obtain ⟨d, hd1, e⟩ := ry j _ (List.getElem?_eq_getElem lt)
        rw [List.getElem?_eq_getElem lt, e, List.getElem?_map, List.getElem?_map, hd1]
        rfl
      · rw [List.getElem?_eq_none ge, List.getElem?_eq_none (by simp; omega)]
    rw [ey] at hy
    have hp5 := e5 _ _ hp4
    have F5 := F4.same (er_same e5)
    have D5 := DpAll.dm (.of (er_same e5)) D4
    have k5 := k4.trans (.of (er_same e5))
    have L5 := F5.same er_sub
    refine ⟨D, _, rfl, .inl (sql hy), rfl, by simp [flatV], ?_⟩
    rw [inV_int]
    refine ⟨_, rfl, ifdn (fun mem => ?_) (fun mem => ?_)⟩
    · walk_at "go"
      refine ⟨vs, ds, hp5, by omega, D5, ok3, fun _ z => ?_, F5, k5⟩
      rw [z] at mem
      cases mem
    · walk_at "go"
      refine ⟨.inl ⟨rfl, _, sql hp5⟩, ?_⟩
      walk_at "go"
      refine use_taken L5 (by decide) (by decide) fun w H6 w0 w1 e6 L6 => ?_
      have hp6 := e6 _ _ nps hp5
      have F6 := F5.er e6 L6
      have D6 := DpAll.dm (F5.dm (er_kb e6)) D5
      have k6 := k5.trans (er_kb e6)
      walk_at "go"
      refine ⟨by show 2 ≤ sizeLine; decide, fun t nt => ?_⟩
      have s7 := same_new (o := .tup [.int (b - 3), .int (1 + w)]) nt
      have npt : t ≠ p := fun z => by rw [z, hp6] at nt; cases nt
      have dt : Dp K (er p (upd H6 t (.tup [.int (b - 3), .int (1 + w)]))) (.ref t) (.tuple [.int (b - 3), .int (1 + w)]) := .tup (sqt ((er_ne npt).trans upd_same)) (.cons (.int _) (.cons (.int _) .nil))
      have hp7 := s7 _ _ hp6
      have F7 := F6.same (er_same s7)
      have D7 := DpAll.dm (.of (er_same s7)) D6
      have k7 := k6.trans (.of (er_same s7))
      generalize upd H6 t (.tup [.int (b - 3), .int (1 + w)]) = H7 at dt hp7 F7 D7 k7 ⊢
      walk_at "go"
      refine ⟨p, _, _, rfl, rfl, hp7, small1000 (by omega), ?_⟩
      refine ⟨_, _, rfl, _, _, upd_same, by rw [List.length_append]; show vs.length + 1 ≤ i + 1; omega, by rw [er_upd]; exact DpAll.app D7 (.cons dt .nil), ok3.snoc (by omega) (by omega) (by omega) (by omega) mem, fun _ z => by simp at z, by rw [er_upd]; exact F7, by rw [er_upd]; exact k7⟩
  · obtain ⟨y2, y3, rfl, vs, ds, hp3, hl3, D3, ok3, ne3, F3, k3⟩ := hW
    walk_at "go"
    have dl := DpAll.len D3
    refine q p ds H3 np (k3.trans (.of er_sub)) (F3.same er_sub) (.lst (sql hp3) (DpAll.dm (.of er_sub) D3)) ?_
    dsimp only [okSteps]
    have := List.length_pos_iff.mpr (ne3 (by omega))
    rw [decide_eq_true (show 1 ≤ ds.length by omega), decide_eq_true (show ds.length ≤ 4 by omega), ok3.a, decide_eq_true ok3.n]
    rfl
end

theorem okStep_ii {d : PyData} (h : okStep d = true) : ∃ i j, d = .tuple [.int i, .int j] := by
  unfold okStep at h
  split at h
  · rename_i a b
    rw [Bool.and_eq_true] at h
    cases a with
    | int i =>
      cases b with
      | int j => exact ⟨i, j, rfl⟩
      | _ => cases h.2
    | _ => cases h.1
  · cases h
theorem steps_lay : ∀ {es : List PyData}, es.all okStep = true → PyData.canLayAll0 es = true ∧ PyData.depthAll es ≤ 1
  | [], _ => ⟨rfl, by show 0 ≤ 1; decide⟩
  | d :: es, h => by
    rw [List.all_cons, Bool.and_eq_true] at h
    obtain ⟨i, j, rfl⟩ := okStep_ii h.1
    obtain ⟨a, b⟩ := steps_lay h.2
    exact ⟨by show (true && PyData.canLayAll0 es) = true; rw [a]; rfl, by show max 1 (PyData.depthAll es) ≤ 1; omega⟩
theorem word_lay {x : Str} (h : isW' (.str x) = true) : PyData.canLay0 (.str x) = true ∧ szOk (.str x) = true := by
  have z : (decide (1 ≤ x.length) && (decide (x.length ≤ 8) && x.cps.toList.all fun c => decide (97 ≤ c) && decide (c ≤ 122))) = true := h
  simp only [Bool.and_eq_true, decide_eq_true_eq, List.all_eq_true] at z
  refine ⟨?_, decide_eq_true (by omega)⟩
  show PyData.strOk x = true
  unfold PyData.strOk
  rw [Array.all_eq_true_iff_forall_mem]
  intro c hc
  have := z.2.2 c (by simpa using hc)
  exact decide_eq_true (by omega)
theorem okName_lay {d : PyData} (h : okName d = true) : PyData.canLay0 d = true ∧ PyData.depth d ≤ 3 ∧ szOk d = true := by
  unfold okName at h
  split at h
  · rename_i a b s
    simp only [Bool.and_eq_true] at h
    obtain ⟨h1, h2, h3⟩ := h
    obtain ⟨x, rfl⟩ := isW_str h1
    obtain ⟨es, rfl, _⟩ := okSteps_lst h3
    cases b with
    | int n =>
      dsimp only [okSteps] at h3
      simp only [Bool.and_eq_true] at h3
      obtain ⟨l1, l2⟩ := steps_lay h3.2.2.1
      obtain ⟨w1, w2⟩ := word_lay h1
      have sz := StOk.sz h3.2.2.1
      refine ⟨?_, ?_, ?_⟩
      · show (PyData.canLay0 (.str x) && (true && (PyData.canLayAll0 es && true))) = true
        rw [w1, l1]; rfl
      · show max 0 (max 0 (max (PyData.depthAll es + 1) 0)) + 1 ≤ 3
        omega
      · show (szOk (.str x) && (true && (szAll es && true))) = true
        rw [w2, sz]; rfl
    | _ => cases h2
  · cases h
theorem names_lay : ∀ {ds : List PyData}, ds.all okName = true → PyData.canLayAll0 ds = true ∧ PyData.depthAll ds ≤ 3 ∧ szAll ds = true
  | [], _ => ⟨rfl, by show 0 ≤ 3; decide, rfl⟩
  | d :: es, h => by
    rw [List.all_cons, Bool.and_eq_true] at h
    obtain ⟨a, b, c⟩ := okName_lay h.1
    obtain ⟨a', b', c'⟩ := names_lay h.2
    exact ⟨by show (PyData.canLay0 d && PyData.canLayAll0 es) = true; rw [a, a']; rfl, by show max (PyData.depth d) (PyData.depthAll es) ≤ 3; omega, by show (szOk d && szAll es) = true; rw [c, c']; rfl⟩
theorem names_shaped {ds : List PyData} (h : ds.all okName = true) : SeqAt.shaped (.list ds) = true := by
  obtain ⟨a, b, _⟩ := names_lay h
  unfold SeqAt.shaped
  rw [Bool.and_eq_true, decide_eq_true_eq]
  exact ⟨a, by show PyData.depthAll ds + 1 ≤ 64; omega⟩
theorem er_rd {p a : Addr} {H : Hp} {u : HO} (h : Rd H a u) (n : a ≠ p) : Rd (er p H) a u := by
  rcases h with h | ⟨o, h⟩
  · exact .inl ((er_ne n).trans h)
  · exact .inr ⟨o, (er_ne n).trans h⟩
theorem er_sqt {K : PySem.W.Frag} {p t : Addr} {H : Hp} {vs xs : List V} (hp : H p = some (.lst vs)) (h : SqT K H t xs) : SqT K (er p H) t xs := by
  rcases h with h | h
  · refine .inl (er_rd h fun z => ?_)
    rw [z] at h
    rcases h with h | ⟨o, h⟩ <;> rw [hp] at h <;> cases h
  · exact .inr h
theorem er_steps {K : PySem.W.Frag} {p : Addr} {H : Hp} {vs : List V} (hp : H p = some (.lst vs)) : ∀ {es : List PyData} {us : List V}, es.all okStep = true → DpAll K H us es → DpAll K (er p H) us es
  | [], _, _, .nil => .nil
  | d :: es, _, h, .cons hd hr => by
    rw [List.all_cons, Bool.and_eq_true] at h
    obtain ⟨i, j, rfl⟩ := okStep_ii h.1
    cases hd with
    | tup ht he =>
    cases he with
    | cons h1 he =>
    cases he with
    | cons h2 he =>
    cases he
    cases h1
    cases h2
    exact .cons (.tup (er_sqt hp ht) (.cons (.int _) (.cons (.int _) .nil))) (er_steps hp h.2 hr)
theorem er_stepsL {K : PySem.W.Frag} {p u : Addr} {H : Hp} {vs : List V} {es : List PyData} (hp : H p = some (.lst vs)) (n : u ≠ p) (h : Dp K H (.ref u) (.list es)) (ok : okSteps (.list es) = true) : Dp K (er p H) (.ref u) (.list es) := by
  have al : es.all okStep = true := by
    dsimp only [okSteps] at ok
    simp only [Bool.and_eq_true] at ok
    exact ok.2.2.1
  cases h with
  | lst hl ha =>
    refine .lst ?_ (er_steps hp al ha)
    rcases hl with hl | hl
    · exact .inl (er_rd hl n)
    · exact .inr hl
structure NmOk (c : Cfg) (i : Nat) (ds : List PyData) : Prop where
  a : ds.all okName = true
  n : (ds.map wordOf).Nodup
  w : ∀ x ∈ ds.map wordOf, ∃ j : Nat, j < i ∧ x = wd c (8 + (0 + (j : Int)))
  l : ds.map wordOf = nmsN c i
theorem NmOk.snoc {c : Cfg} {i : Nat} {ds : List PyData} {n : Int} {es : List PyData} (ok : c.Ok) (h : NmOk c i ds) (hi : i < 3) (h0 : -1000000000000 < n) (h1 : n < 1000000000000) (he : okSteps (.list es) = true) :
    NmOk c (i + 1) (ds ++ [.tuple [.str (wd c (8 + (0 + (i : Int)))), .int n, .list es]]) := by
  have hw : isW' (.str (wd c (8 + (0 + (i : Int))))) = true := wd_word ok (by omega)
  refine ⟨?_, ?_, fun x hx => ?_, by rw [List.map_append, h.l, nms_snoc]; rfl⟩
  · rw [List.all_append, h.a]
    have e : okName (.tuple [.str (wd c (8 + (0 + (i : Int)))), .int n, .list es]) = true := by
      show (isW' (.str (wd c (8 + (0 + (i : Int))))) && ((decide (-999999999999 ≤ n) && decide (n ≤ 999999999999)) && okSteps (.list es))) = true
      rw [hw, he, decide_eq_true (show -999999999999 ≤ n by omega), decide_eq_true (show n ≤ 999999999999 by omega)]
      rfl
    rw [List.all_cons, e]
    rfl
  · rw [List.map_append]
    refine List.nodup_append.mpr ⟨h.n, by simp, fun a ha b hb => ?_⟩
    simp only [List.map_cons, List.map_nil, List.mem_singleton] at hb
    subst hb
    obtain ⟨j, hj, rfl⟩ := h.w a ha
    exact wd_ne ok (by omega) (by omega) (by omega) (by omega) (by omega)
  · rw [List.map_append, List.mem_append] at hx
    rcases hx with hx | hx
    · obtain ⟨j, hj, e⟩ := h.w x hx
      exact ⟨j, by omega, e⟩
    · simp only [List.map_cons, List.map_nil, List.mem_singleton] at hx
      exact ⟨i, by omega, hx⟩
def spMarket (K : PySem.W.Frag) : Sp := fun vs H Q _ => ∃ (c : Cfg) (ns : List Int) (xs : List Str) (s na nm : Addr) (m : Nat), vs = [.ref s, .int m] ∧ LS K c ns xs s na nm H ∧ m ≤ 3 ∧
  ∀ (t p : Addr) (la : Int) (ds : List PyData) (H' : Hp), KB s H H' → LS K c ns xs s na nm H' → SqT K H' t [.int la, .ref p] → 0 ≤ la → (la < 9 ∧ la < [9, 5, 3, 2].getD m 0 ∧ ds.length = m ∧ ds.map wordOf = nmsN c m) → Dp K H' (.ref p) (.list ds) → ds.all okName = true → okNames (.list ds) = true → Q (.ref t) H'
theorem use_market {K : PySem.W.Frag} {c : Cfg} {ns : List Int} {xs : List Str} {s na nm : Addr} {m : Int} {H : Hp} {Q : VK} {E : XK} (L : LS K c ns xs s na nm H) (h0 : 0 ≤ m) (h1 : m < 4)
    (q : ∀ (t p : Addr) (la : Int) (ds : List PyData) (H' : Hp), KB s H H' → LS K c ns xs s na nm H' → SqT K H' t [.int la, .ref p] → 0 ≤ la → (la < 9 ∧ la < [9, 5, 3, 2].getD m.toNat 0 ∧ ds.length = m.toNat ∧ ds.map wordOf = nmsN c m.toNat) → Dp K H' (.ref p) (.list ds) → ds.all okName = true → okNames (.list ds) = true → Q (.ref t) H') :
    spMarket K ([.ref s, .int m] ++ []) H Q E := ⟨c, ns, xs, s, na, nm, m.toNat, by rw [Int.toNat_of_nonneg h0]; rfl, L, by omega, q⟩
section
variable {P : Program} {w : World} {K : PySem.W.Frag} {mg : Str → Option Value} {base : Heap}
abbrev s__law_market : Stmt := topS 63
theorem sc__law_market : FnScope ["_law_s", "_law_many", "_law_names", "_law_k", "_law_begun_here"] ["_law_s", "_law_many"] (defScope s__law_market) := ⟨rfl, rfl, rfl, by decide +kernel, rfl, by decide +kernel, by decide +kernel⟩
theorem h__law_market {k : Nat} {f : Addr} {fd : FuncData} (O : Own K mg "_law_market" s__law_market ["_law_s", "_law_many"] f fd)  {f__law_taken : Addr} {fd__law_taken : FuncData} (D__law_taken : Has P w K mg base "_law_taken" ["_law_s", "_law_most"] k CX0 (spTaken K) f__law_taken fd__law_taken) {f__law_steps : Addr} {fd__law_steps : FuncData} (D__law_steps : Has P w K mg base "_law_steps" ["_law_s"] k CX0 (spSteps K) f__law_steps fd__law_steps) {f__law_word : Addr} {fd__law_word : FuncData} (D__law_word : Has P w K mg base "_law_word" ["_law_s", "_law_k"] k CX0 (spWord K) f__law_word fd__law_word) {f__law_number : Addr} {fd__law_number : FuncData} (D__law_number : Has P w K mg base "_law_number" ["_law_s"] k CX0 (spNumber K) f__law_number fd__law_number) (m_range : mg "range" = none) (m_max : mg "max" = none) (m_min : mg "min" = none) : Has P w K mg base "_law_market" ["_law_s", "_law_many"] (k + 1) CX0 (spMarket K) f fd := by
  refine O.has (O.F.ok sc__law_market (fun vs H Q E h => ?_) (fun cdv A outer s H vs Q E hr h => ?_))
  · obtain ⟨c, ns, xs, s, na, nm, m, rfl, _⟩ := h
    rfl
  obtain ⟨c, ns, xs, s, na, nm, m, rfl, L, hm, q⟩ := h
  refine ⟨_, (pss_cons (ps_set (i := 2) sc__law_market.nd rfl (.inl rfl) (pe_lst pa_nil)) (pss_cons (ps_for PassesOwn.never rfl (pi_range1 (by rfl) m_range (pa_cons (pv 1) pa_nil)) (pg_name (i := 3) sc__law_market.nd rfl (.inl rfl)) (pss_cons (ps_set (i := 4) sc__law_market.nd rfl (.inl rfl) (pe_callB (call_max2 rfl) (by rfl) m_max (by decide +kernel) (pa_cons (pe_op op_sub pe_int (pe_op op_pow pe_int pe_int)) (pa_cons (pe_callB (call_min2 rfl) (by rfl) m_min (by decide +kernel) (pa_cons (pe_op op_sub (pe_op op_pow pe_int pe_int) pe_int) (pa_cons (pe_call D__law_number.G hr (by rfl) D__law_number.g D__law_number.k D__law_number.b .nil pass0 (pa_cons (pv 0) pa_nil)) pa_nil))) pa_nil)))) (pss_one (ps_expr (pe_bm PySem.F.plainAttrs_list PySem.F.slot_list_append PySem.F.type_list_append mt_append (pv 2) (pa_cons (pe_tup (pa_cons (pe_call D__law_word.G hr (by rfl) D__law_word.g D__law_word.k D__law_word.b .nil pass0 (pa_cons (pv 0) (pa_cons (pe_op op_add pe_int (pv 3)) pa_nil))) (pa_cons (pv 4) (pa_cons (pe_call D__law_steps.G hr (by rfl) D__law_steps.g D__law_steps.k D__law_steps.b .nil pass0 (pa_cons (pv 0) pa_nil)) pa_nil)))) pa_nil)))))) (pss_one (ps_ret (pe_tup (pa_cons (pe_call D__law_taken.G hr (by rfl) D__law_taken.g D__law_taken.k D__law_taken.b .nil pass0 (pa_cons (pv 0) (pa_cons (pe_ix ix_list (pe_lst (pa_cons pe_int (pa_cons pe_int (pa_cons pe_int (pa_cons pe_int pa_nil))))) (pv 1) (fun _ _ => rfl)) pa_nil))) (pa_cons (pv 2) pa_nil))))))), ?_⟩
  have ok := L.ok
  walk_at "go"
  refine ⟨by show 0 ≤ sizeLine; decide, fun p np => ?_⟩
  have hp1 : upd H p (.lst []) p = some (.lst []) := upd_same
  have E1 : er p (upd H p (.lst [])) = H := er_upd.trans (er_new np)
  have nps : p ≠ s := fun z => by
    obtain ⟨n, re, mx, h, _⟩ := L.st
    rw [z, h] at np
    cases np
  walk_at "go"
  refine ⟨by omega, by omega, for_range (lo := 0) (n := m) (fun i σ H3 => ∃ y3 y4, σ = [some (.ref s), some (.int m), some (.ref p), y3, y4] ∧ ∃ vs ds, H3 p = some (.lst vs) ∧ ds.length = i ∧ DpAll K (er p H3) vs ds ∧ NmOk c i ds ∧ LS K c ns xs s na nm (er p H3) ∧ KB s H (er p H3))
    ⟨_, _, rfl, [], [], hp1, rfl, .nil, ⟨rfl, List.nodup_nil, fun x h => (by cases h), rfl⟩, by rw [E1]; exact L, by rw [E1]; exact .refl _ _⟩ (fun i σ H3 hi hW => ?_) (fun σ H3 hW => ?_)⟩
  · obtain ⟨y3, y4, rfl, vs, ds, hp3, hl3, D3, ok3, F3, k3⟩ := hW
    have dl3 := DpAll.len D3
    have L3 := F3.same er_sub
    walk_at "go"
    refine g_I ⟨by decide, by decide, by decide⟩ ?_
    walk_at "go"
    refine g_I ⟨by decide, by decide, by decide⟩ ?_
    walk_at "go"
    refine use_number L3 fun r H4 b0 b1 e4 L4 => ?_
    have hp4 := e4 _ _ nps hp3
    have F4 := F3.er e4 L4
    have D4 := DpAll.dm (F3.dm (er_kb e4)) D3
    have k4 := k3.trans (er_kb e4)
    walk_at "go"
    have e10 : (10 : Int) ^ (12 : Int).toNat = 1000000000000 := by decide
    rw [e10]
    have hv : ∃ v : Int, (if (if r < 1000000000000 - 100 then r else 1000000000000 - 100) > 100 - 1000000000000 then (if r < 1000000000000 - 100 then r else 1000000000000 - 100) else 100 - 1000000000000) = v ∧ -1000000000000 < v ∧ v < 1000000000000 := ⟨_, rfl, by split <;> (try split) <;> omega, by split <;> (try split) <;> omega⟩
    obtain ⟨v, ev, v0, v1⟩ := hv
    rw [ev]
    walk_at "go"
    refine ⟨.inl ⟨rfl, _, sql hp4⟩, ?_⟩
    walk_at "go"
    refine use_word L4 (by omega) (by omega) fun H5 e5 => ?_
    have hp5 := e5 _ _ hp4
    have F5 := F4.same (er_same e5)
    have D5 := DpAll.dm (.of (er_same e5)) D4
    have k5 := k4.trans (.of (er_same e5))
    have L5 := L4.same e5
    walk_at "go"
    refine use_steps L5 fun u es H6 nu e6 L6 du oku => ?_
    have hp6 := e6 _ _ nps hp5
    have npu : u ≠ p := fun z => by rw [z, hp5] at nu; cases nu
    have F6 := F5.er e6 L6
    have D6 := DpAll.dm (F5.dm (er_kb e6)) D5
    have k6 := k5.trans (er_kb e6)
    walk_at "go"
    refine ⟨by show 3 ≤ sizeLine; decide, fun t nt => ?_⟩
    have s7 := same_new (o := .tup [.str (wd c (8 + (0 + (i : Int)))), .int v, .ref u]) nt
    have npt : t ≠ p := fun z => by rw [z, hp6] at nt; cases nt
    have du6 := er_stepsL hp6 npu du oku
    have dt : Dp K (er p (upd H6 t (.tup [.str (wd c (8 + (0 + (i : Int)))), .int v, .ref u]))) (.ref t) (.tuple [.str (wd c (8 + (0 + (i : Int)))), .int v, .list es]) :=
      .tup (sqt ((er_ne npt).trans upd_same)) (.cons (.str _) (.cons (.int _) (.cons (Dp.dm (.of (er_same s7)) du6) .nil)))
    have hp7 := s7 _ _ hp6
    have F7 := F6.same (er_same s7)
    have D7 := DpAll.dm (.of (er_same s7)) D6
    have k7 := k6.trans (.of (er_same s7))
    generalize upd H6 t (.tup [.str (wd c (8 + (0 + (i : Int)))), .int v, .ref u]) = H7 at dt hp7 F7 D7 k7 ⊢
    walk_at "go"
    refine ⟨p, _, _, rfl, rfl, hp7, small1000 (by omega), ?_⟩
    exact ⟨_, _, rfl, _, _, upd_same, by rw [List.length_append, hl3]; rfl, by rw [er_upd]; exact DpAll.app D7 (.cons dt .nil), ok3.snoc ok (by omega) v0 v1 oku, by rw [er_upd]; exact F7, by rw [er_upd]; exact k7⟩
  · obtain ⟨y3, y4, rfl, vs, ds, hp3, hl3, D3, ok3, F3, k3⟩ := hW
    have dl3 := DpAll.len D3
    have L3 := F3.same er_sub
    have k9 := k3.trans (.of er_sub)
    have d9 : Dp K H3 (.ref p) (.list ds) := .lst (sql hp3) (DpAll.dm (.of er_sub) D3)
    have okd : okNames (.list ds) = true := by
      dsimp only [okNames]
      rw [decide_eq_true (show ds.length ≤ 3 by omega), ok3.a, decide_eq_true ok3.n]
      rfl
    walk_at "go"
    refine ⟨by show 4 ≤ sizeLine; decide, fun l nl => ?_⟩
    have s4 := same_new (o := .lst [.int 9, .int 5, .int 3, .int 2]) nl
    obtain ⟨z, hz, z0, z1, z2⟩ : ∃ z : Int, [V.int 9, V.int 5, V.int 3, V.int 2][m]? = some (.int z) ∧ 0 < z ∧ z ≤ 9 ∧ z = [9, 5, 3, 2].getD m 0 := by
      match m, hm with
      | 0, _ => exact ⟨9, rfl, by decide, by decide, rfl⟩
      | 1, _ => exact ⟨5, rfl, by decide, by decide, rfl⟩
      | 2, _ => exact ⟨3, rfl, by decide, by decide, rfl⟩
      | 3, _ => exact ⟨2, rfl, by decide, by decide, rfl⟩
    walk_at "go"
    refine ⟨_, _, _, _, rfl, rfl, sql upd_same, at_any (j := m) rfl hz, ?_⟩
    have L4 := L3.same s4
    have k4 := k9.trans (.of s4)
    have d4 := Dp.dm (.of s4) d9
    generalize upd H3 l (.lst [.int 9, .int 5, .int 3, .int 2]) = H4 at L4 k4 d4 ⊢
    walk_at "go"
    refine use_taken L4 (by omega) (by omega) fun r H5 r0 r1 e5 L5 => ?_
    have d5 := Dp.dm (L4.dm e5) d4
    have k5 := k4.trans e5
    walk_at "go"
    refine ⟨by show 2 ≤ sizeLine; decide, fun t nt => ?_⟩
    have s6 := same_new (o := .tup [.int r, .ref p]) nt
    exact q t p r ds _ (k5.trans (.of s6)) (L5.same s6) (sqt upd_same) r0 ⟨by omega, by omega, hl3, ok3.l⟩ (Dp.dm (.of s6) d5) ok3.a okd
end

/-! ### a market is made -/
/-- all stays but a def's table and the object at p -/
structure Tx (PT p : Addr) (H H' : Hp) : Prop where
  g : GxR.TabG H' PT
  k : ∀ b o, b ≠ p → b ≠ PT → H b = some o → H' b = some o
theorem g_fld {K : PySem.W.Frag} {ta tv : TE} {f : Str} {D : Ends} {σ : L2.St} {H : Hp} (h : tv σ H fun y H1 => ta σ H1 fun x H2 => ∃ a C dx fs, x = .ref a ∧ H2 a = some (.ins C dx fs) ∧ Cls K C ∧ NoAttr K C f ∧ fs.length < 1000 ∧ D.nx σ (upd H2 a (.ins C dx (putF f y fs)))) : sFld K ta tv f D σ H := h
theorem ins_dm {K : PySem.W.Frag} {H H' : Hp} {p C dx : Addr} {fs : List (Str × V)} (hp : H p = some (.ins C dx fs)) (k : ∀ b o, b ≠ p → H b = some o → H' b = some o) : DM K H H' := by
  have rd : ∀ {a : Addr} {u : HO}, (∀ C dx fs, u ≠ .ins C dx fs) → Rd H a u → Rd H' a u := fun hu h => by
    rcases h with h | ⟨o, h⟩
    · exact .inl (k _ _ (fun z => by rw [z, hp] at h; exact hu _ _ _ (Option.some.inj h).symm) h)
    · exact .inr ⟨o, k _ _ (fun z => by rw [z, hp] at h; cases h) h⟩
  refine ⟨fun a xs h => ?_, fun a xs h => ?_⟩
  · rcases h with h | h
    · exact .inl (rd (fun _ _ _ z => by cases z) h)
    · exact .inr h
  · rcases h with h | h
    · exact .inl (rd (fun _ _ _ z => by cases z) h)
    · exact .inr h
theorem Tx.of {PT p : Addr} {H H' : Hp} (t : Tb PT H H') : Tx PT p H H' := ⟨t.g, fun b o _ n h => t.k b o n h⟩
/-! ### a market's object -/
structure Nm where
  x : Str
  b : Int
  st : List (Int × Int)
def DSt (K : PySem.W.Frag) (H : Hp) (s : Int × Int) (v : V) : Prop := ∃ p, v = .ref p ∧ SqT K H p [.int s.1, .int s.2]
def DNm (K : PySem.W.Frag) (H : Hp) (n : Nm) (v : V) : Prop := ∃ p q us, v = .ref p ∧ SqT K H p [.str n.x, .int n.b, .ref q] ∧ SqT K H q us ∧ All2 (DSt K H) n.st us
theorem DSt.tm {K : PySem.W.Frag} {H H' : Hp} (e : TM K H H') : ∀ s v, DSt K H s v → DSt K H' s v := fun _ _ ⟨p, h1, h2⟩ => ⟨p, h1, e _ _ h2⟩
theorem DNm.tm {K : PySem.W.Frag} {H H' : Hp} (e : TM K H H') : ∀ n v, DNm K H n v → DNm K H' n v := fun _ _ ⟨p, q, us, h1, h2, h3, h4⟩ => ⟨p, q, us, h1, e _ _ h2, e _ _ h3, h4.mono (DSt.tm e)⟩
def DMk (K : PySem.W.Frag) (C : Addr) (H : Hp) (la : Int) (ns : List Nm) (a : Addr) : Prop := ∃ dx t us, H a = some (.ins C dx [("last", .int la), ("names", .ref t)]) ∧ SqT K H t us ∧ All2 (DNm K H) ns us
theorem DMk.same {K : PySem.W.Frag} {C : Addr} {H H' : Hp} {la : Int} {ns : List Nm} {a : Addr} (e : Same H H') (h : DMk K C H la ns a) : DMk K C H' la ns a := by
  obtain ⟨dx, t, us, h1, h2, h3⟩ := h
  exact ⟨dx, t, us, e _ _ h1, SqT.same e h2, h3.mono (DNm.tm (.of e))⟩
def stOf : PyData → Int × Int
  | .tuple [.int i, .int j] => (i, j)
  | _ => (0, 0)
def nmOf : PyData → Nm
  | .tuple [.str x, .int b, .list es] => ⟨x, b, es.map stOf⟩
  | _ => ⟨"", 0, []⟩
theorem okStep_ij {d : PyData} (h : okStep d = true) : ∃ i j, d = .tuple [.int i, .int j] := by
  unfold okStep at h
  split at h
  · rename_i a b
    rw [Bool.and_eq_true] at h
    cases a with
    | int i =>
      cases b with
      | int j => exact ⟨i, j, rfl⟩
      | _ => cases h.2
    | _ => cases h.1
  · cases h
theorem okName_parts {d : PyData} (h : okName d = true) : ∃ x b es, d = .tuple [.str x, .int b, .list es] ∧ es.all okStep = true ∧ isW' (.str x) = true := by
  unfold okName at h
  split at h
  · rename_i a b s
    simp only [Bool.and_eq_true] at h
    obtain ⟨h1, h2, h3⟩ := h
    obtain ⟨x, rfl⟩ := isW_str h1
    obtain ⟨es, rfl, _⟩ := okSteps_lst h3
    cases b with
    | int n =>
      dsimp only [okSteps] at h3
      simp only [Bool.and_eq_true] at h3
      exact ⟨x, n, es, rfl, h3.2.2.1, h1⟩
    | _ => cases h2
  · cases h
theorem steps_all2 {K : PySem.W.Frag} {H : Hp} : ∀ {es : List PyData} {vs : List V}, DpAll K H vs es → es.all okStep = true → All2 (DSt K H) (es.map stOf) vs
  | [], _, .nil, _ => trivial
  | e :: es, v :: vs, .cons h r, ok => by
    rw [List.all_cons, Bool.and_eq_true] at ok
    obtain ⟨i, j, rfl⟩ := okStep_ij ok.1
    refine ⟨?_, steps_all2 r ok.2⟩
    cases h with
    | tup ht he =>
    cases he with
    | cons h1 he =>
    cases he with
    | cons h2 he =>
    cases he
    cases h1
    cases h2
    exact ⟨_, rfl, ht⟩
def spMk (K : PySem.W.Frag) (X PT C : Addr) : Sp := fun vs H Q E => ∃ (p dx : Addr) (l n : V) (dl dn : PyData), vs = [.ref p, l, n] ∧ H p = some (.ins C dx []) ∧ Dp K H l dl ∧ Dp K H n dn ∧ szOk dn = true ∧ GxR.TabG H PT ∧
  (okMk dl dn = true → ∀ H', Tx PT p H H' → (∀ la ds, dl = .int la → dn = .list ds → DMk K C H' la (ds.map nmOf) p) → Q .non H') ∧ (okMk dl dn = false → ∀ H', Tx PT p H H' → E (.ref X) none H')
section
variable {P : Program} {w : World} {K : PySem.W.Frag} {mg : Str → Option Value} {base : Heap}
abbrev s_Market : Stmt := inClass (topS 41) 0
theorem sc_Market : FnScope ["self", "last", "names", "name", "number", "steps"] ["self", "last", "names"] (defScope s_Market) := ⟨rfl, rfl, rfl, by decide +kernel, rfl, by decide +kernel, by decide +kernel⟩
theorem h_Market {PT : Addr} {k : Nat} {C_Market f : Addr} {fd : FuncData} (T : ClsT K mg "Market" C_Market f) (O : OwnM K "__init__" "Market.__init__" s_Market ["self", "last", "names"] f fd) (n_last : NoAttr K C_Market "last") (n_names : NoAttr K C_Market "names") {C_BadMarket : Addr} (X_BadMarket : ExcT K mg "BadMarket" C_BadMarket)  {f__need_names : Addr} {fd__need_names : FuncData} (D__need_names : Has P w K mg base "_need_names" ["names"] k (L2.CX P w) (spNNames K C_BadMarket PT) f__need_names fd__need_names) {f_is_between : Addr} {fd_is_between : FuncData} (D_is_between : Has P w K mg base "is_between" ["told", "low", "high"] k CX0 (spBetween K) f_is_between fd_is_between) (m_tuple : mg "tuple" = none) {t_LAST_HOUR : Tok} (m_LAST_HOUR : mg "LAST_HOUR" = some (.int 12 t_LAST_HOUR)) : HasM P w K mg base "Market" ["self", "last", "names"] (k + 2) (L2.CX P w) (spMk K C_BadMarket PT C_Market) C_Market f fd := by
  refine HasM.of T O (O.F.okX sc_Market (fun vs H Q E h => ?_) (fun cdv A outer s H vs Q E hr h => ?_))
  · obtain ⟨p, dx, l, n, dl, dn, rfl, _⟩ := h
    rfl
  obtain ⟨p, dx, l, n, dl, dn, rfl, hp, hl, hn, hz, ht, q0, q1⟩ := h
  refine ⟨_, (pss_cons (ps_if (pt_not (pt_val (pe_call D_is_between.G hr (by rfl) D_is_between.g D_is_between.k D_is_between.b .nil pass0 (pa_cons (pv 1) (pa_cons pe_int (pa_cons (pe_glob (v := .int (12)) (by rfl) m_LAST_HOUR ⟨_, rfl⟩) pa_nil)))))) (pss_one (ps_raise rfl (takes_of rfl rfl rfl rfl) (pmk_own PySem.F.excBase_ValueError X_BadMarket.x X_BadMarket.g X_BadMarket.k (raises_own X_BadMarket.s X_BadMarket.t) rfl))) pss_nil) (pss_cons (ps_expr (pe_call D__need_names.G hr (by rfl) D__need_names.g D__need_names.k D__need_names.b .nil (passes_call (takes_of rfl rfl rfl rfl) (fun _ _ _ _ h => h)) (pa_cons (pv 2) pa_nil))) (pss_cons (ps_fld (pv 0) (pv 1) rfl) (pss_one (ps_fld (pv 0) (pe_callTy call_tuple_of (by rfl) m_tuple (by decide +kernel) (pa_cons (pe_lc (own := [("name", 3), ("number", 4), ("steps", 5)]) (g := gTup K 3 (gCons (gName 3) (gCons (gName 4) (gCons (gName 5) gNil)))) rfl sc_Market.nd (pi_list (pv 2)) (blkOk_by (own := [("name", 3), ("number", 4), ("steps", 5)]) (N := ["self", "last", "names", "name", "number", "steps"]) (sc := defScope s_Market) (by decide +kernel)) (fun _ _ _ _ _ => pg_tup rfl (pgs_cons (pg_name (i := 3) sc_Market.nd rfl (.inl rfl)) (pgs_cons (pg_name (i := 4) sc_Market.nd rfl (.inl rfl)) (pgs_cons (pg_name (i := 5) sc_Market.nd rfl (.inl rfl)) pgs_nil)))) (fun _ _ _ _ _ => pts_nil) (fun _ _ _ _ _ => (pe_tup (pa_cons (pv 3) (pa_cons (pv 4) (pa_cons (pe_callTy (r := rTupOf K) callTupOf (by rfl) m_tuple (by decide +kernel) (pa_cons (pv 5) pa_nil)) pa_nil)))))) pa_nil)) rfl))))), ?_⟩
  walk_at "go"
  refine use_between hl ?_
  walk_at "go"
  refine ifn (fun c1 => ?_) (fun c1 => ?_)
  · walk_at "go"
    refine use_nnames hn hz ht (fun c2 H2 t2 => ?_) (fun c2 H2 t2 => ?_)
    · walk_at "go"
      have np : p ≠ PT := fun z => by
        obtain ⟨ps, e, _⟩ := ht
        rw [← z, hp] at e
        cases e
      have hp2 := t2.k _ _ np hp
      unfold okMk at q0
      rw [c1, c2] at q0
      have q0 := q0 rfl
      refine ⟨_, rfl, _, rfl, p, C_Market, dx, [], rfl, hp2, T.cl, n_last, by decide, ?_⟩
      have k3 : ∀ b o, b ≠ p → H2 b = some o → upd H2 p (.ins C_Market dx (putF "last" l [])) b = some o := fun b o hb z => by rw [upd_ne hb]; exact z
      have hp3 : upd H2 p (.ins C_Market dx (putF "last" l [])) p = some (.ins C_Market dx (putF "last" l [])) := upd_same
      have m3 : DM K H2 (upd H2 p (.ins C_Market dx (putF "last" l []))) := ins_dm hp2 k3
      have x3 : Tx PT p H (upd H2 p (.ins C_Market dx (putF "last" l []))) := by
        obtain ⟨ps, e, z⟩ := t2.g
        exact ⟨⟨ps, k3 _ _ (fun z => np z.symm) e, z⟩, fun b o h1 h2 h => k3 b o h1 (t2.k b o h2 h)⟩
      generalize upd H2 p (.ins C_Market dx (putF "last" l [])) = H3 at k3 hp3 m3 x3 ⊢
      have hn3 : Dp K H3 n dn := Dp.dm ((t2.dm ht).trans m3) hn
      cases hn3 with
      | @lst a vs ds ha hall =>
        have hlen := DpAll.len hall
        obtain ⟨hd3, hal⟩ : ds.length ≤ 3 ∧ ds.all okName = true := by
          dsimp only [okNames] at c2
          simp only [Bool.and_eq_true, decide_eq_true_eq] at c2
          exact ⟨c2.1, c2.2.1⟩
        dsimp only [L2.start]
        refine g_fld ?_
        walk_at "go"
        refine ⟨⟨_, ha⟩, fun D nD => lc_list (xs := vs) (fun i H' => ∃ ys, H' D = some (.lst ys) ∧ ys.length = i ∧ All2 (DNm K H') ((ds.take i).map nmOf) ys ∧ Same H3 H') ⟨[], upd_same, rfl, trivial, same_new nD⟩ (fun i H' _ ⟨_, _, _, _, e⟩ => e.seq ha) (fun i x H' hx hW => ?_) (fun H' hW => ?_)⟩
        · obtain ⟨ys, hD, ly, hys, eD⟩ := hW
          have hi : i < ds.length := by have := (List.getElem?_eq_some_iff.mp hx).1; omega
          have hdi : ds[i]? = some ds[i] := List.getElem?_eq_getElem hi
          obtain ⟨x', hx', dx'⟩ := DpAll.at hall hdi
          obtain rfl : x' = x := Option.some.inj (hx'.symm.trans hx)
          obtain ⟨n1, b1, es1, ed, e2, _⟩ := okName_parts (List.all_eq_true.mp hal _ (List.getElem_mem hi))
          have tm := take_map_snoc (f := nmOf) hdi
          rw [ed] at dx' tm
          replace dx' := Dp.dm (.of eD) dx'
          cases dx' with
          | @tup b us es hb he =>
          cases he with
          | @cons y1 _ _ _ h1 he =>
          cases he with
          | @cons y2 _ _ _ h2 he =>
          cases he with
          | @cons y3 _ _ _ h3 he =>
          cases he
          cases h1
          cases h2
          cases h3 with
          | @lst a3 vs3 _ ha3 hs3 =>
          have st3 := steps_all2 hs3 e2
          refine g_gtup hb rfl ?_
          walk_at "go"
          refine ⟨a3, vs3, rfl, .inl ⟨ha3, fun t nt => ?_⟩⟩
          walk_at "go"
          refine ⟨by show 3 ≤ sizeLine; decide, fun q nq => ?_⟩
          have sq := (same_new (o := .tup vs3) nt).trans (same_new (o := .tup [.str n1, .int b1, .ref t]) nq)
          have hq : SqT K (upd (upd H' t (.tup vs3)) q (.tup [.str n1, .int b1, .ref t])) q [.str n1, .int b1, .ref t] := sqt upd_same
          have htt : SqT K (upd (upd H' t (.tup vs3)) q (.tup [.str n1, .int b1, .ref t])) t vs3 := SqT.same (same_new nq) (sqt upd_same)
          have hDq := sq _ _ hD
          generalize upd (upd H' t (.tup vs3)) q (.tup [.str n1, .int b1, .ref t]) = Hq at sq hq htt hDq ⊢
          refine ⟨ys, hDq, small1000 (by omega), ys ++ [.ref q], upd_same, by rw [List.length_append, ly]; rfl, ?_, fun c o h => by rw [upd_ne (ne_of_none h nD)]; exact sq _ _ (eD _ _ h)⟩
          rw [tm]
          have tl : TM K Hq (upd Hq D (.lst (ys ++ [.ref q]))) := tm_lst hDq
          exact All2.snoc (hys.mono (DNm.tm ((TM.of sq).trans tl))) ⟨q, t, vs3, rfl, tl _ _ hq, tl _ _ htt, st3.mono (DSt.tm ((TM.of sq).trans tl))⟩
        · obtain ⟨ys, hy, ly, hys, e4⟩ := hW
          rw [List.take_of_length_le (by omega)] at hys
          walk_at "go"
          refine ⟨D, ys, rfl, .inl ⟨sql hy, fun t nt => ?_⟩⟩
          have st := same_new (o := .tup ys) nt
          have e5 := e4.trans st
          have ht5 : SqT K (upd H' t (.tup ys)) t ys := sqt upd_same
          have hy5 := hys.mono (DNm.tm (TM.of st))
          generalize upd H' t (.tup ys) = H5 at e5 ht5 hy5 ⊢
          have hp5 := e5 _ _ hp3
          refine ⟨_, rfl, p, C_Market, dx, _, rfl, hp5, T.cl, n_names, by show 1 < 1000; decide, ?_⟩
          have k6 : ∀ b o, b ≠ p → H5 b = some o → upd H5 p (.ins C_Market dx (putF "names" (.ref t) (putF "last" l []))) b = some o := fun b o hb z => by rw [upd_ne hb]; exact z
          have m6 : DM K H5 (upd H5 p (.ins C_Market dx (putF "names" (.ref t) (putF "last" l [])))) := ins_dm hp5 k6
          have hp6 : upd H5 p (.ins C_Market dx (putF "names" (.ref t) (putF "last" l []))) p = some (.ins C_Market dx (putF "names" (.ref t) (putF "last" l []))) := upd_same
          have x5 : Tx PT p H (upd H5 p (.ins C_Market dx (putF "names" (.ref t) (putF "last" l [])))) := by
            obtain ⟨ps, e, z⟩ := x3.g
            exact ⟨⟨ps, by rw [upd_ne (fun z => np z.symm)]; exact e5 _ _ e, z⟩, fun b o h1 h2 h => by rw [upd_ne h1]; exact e5 _ _ (x3.k b o h1 h2 h)⟩
          refine q0 _ x5 fun la ds' el en => ?_
          cases en
          subst el
          cases hl
          exact ⟨dx, t, ys, hp6, m6.t _ _ ht5, hy5.mono (DNm.tm m6.t)⟩
      | _ => cases c2
    · walk_at "go"
      exact q1 (by unfold okMk; rw [c2]; simp) _ (.of t2)
  · walk_at "go"
    exact q1 (by unfold okMk; rw [c1]; rfl) _ (.of (.refl ht))
end
theorem use_mk {K : PySem.W.Frag} {X PT C : Addr} {v1 v2 : V} {d1 d2 : PyData} {H : Hp} {Q : VK} {E : XK} (h1 : Dp K H v1 d1) (h2 : Dp K H v2 d2) (hz : szOk d2 = true) (ht : GxR.TabG H PT)
    (q0 : okMk d1 d2 = true → ∀ a H', H a = none → Tb PT H H' → (∀ la ds, d1 = .int la → d2 = .list ds → DMk K C H' la (ds.map nmOf) a) → Q (.ref a) H') (q1 : okMk d1 d2 = false → ∀ H', Tb PT H H' → E (.ref X) none H') : spNew C (spMk K X PT C) [v1, v2] H Q E := by
  intro a dx na ndx nax
  have s1 : Same H (upd (upd H dx (.own a)) a (.ins C dx [])) := fun b o h => by
    rw [upd_ne (fun z => by rw [z, na] at h; cases h), upd_ne (fun z => by rw [z, ndx] at h; cases h)]
    exact h
  have tb : ∀ {H'}, Tx PT a (upd (upd H dx (.own a)) a (.ins C dx [])) H' → Tb PT H H' := fun x => ⟨x.g, fun b o n h => x.k b o (fun z => by rw [z, na] at h; cases h) n (s1 b o h)⟩
  exact ⟨a, dx, v1, v2, d1, d2, rfl, upd_same, Dp.dm (.of s1) h1, Dp.dm (.of s1) h2, hz, tab_same ht s1, fun e H' x o => ⟨rfl, q0 e a H' na (tb x) o⟩, fun e H' x => q1 e H' (tb x)⟩

/-! ### a contract's parts -/
inductive Part where
  | str (x : Str)
  | int (i : Int)
  | num (o : Num)
  | cond (q : Cond)
def DP (K : PySem.W.Frag) (H : Hp) : Part → V → Prop
  | .str x, v => v = .str x
  | .int i, v => v = .int i
  | .num o, v => DN K H o v
  | .cond q, v => DC K H q v
theorem DP.tm {K : PySem.W.Frag} {H H' : Hp} (e : TM K H H') : ∀ (p : Part) (v : V), DP K H p v → DP K H' p v
  | .str _, _, h => h
  | .int _, _, h => h
  | .num _, _, h => DN.tm e h
  | .cond _, _, h => DC.tm e h
def Con.word : Con → Str
  | .none => "none"
  | .give _ _ _ _ => "give"
  | .both _ _ => "both"
  | .turned _ _ _ => "turned"
  | .later _ _ => "later"
  | .often _ _ _ => "often"
  | .ite _ _ _ => "if"
  | .whn _ _ => "when"
  | .untl _ _ => "until"
/-- what stands ahead of the contracts within -/
def Con.pre : Con → List Part
  | .none => []
  | .give a b g o => [.str a, .str b, .str g, .num o]
  | .both _ _ => []
  | .turned a b _ => [.str a, .str b]
  | .later n _ => [.int n]
  | .often n g _ => [.int n, .int g]
  | .ite q _ _ => [.cond q]
  | .whn q _ => [.cond q]
  | .untl q _ => [.cond q]
def Con.ins : Con → List Con
  | .none => []
  | .give _ _ _ _ => []
  | .both c d => [c, d]
  | .turned _ _ c => [c]
  | .later _ c => [c]
  | .often _ _ c => [c]
  | .ite _ c d => [c, d]
  | .whn _ c => [c]
  | .untl _ c => [c]
/-- others in their place -/
def Con.wth : Con → List Con → Con
  | .both _ _, [c, d] => .both c d
  | .turned a b _, [c] => .turned a b c
  | .later n _, [c] => .later n c
  | .often n g _, [c] => .often n g c
  | .ite q _ _, [c, d] => .ite q c d
  | .whn q _, [c] => .whn q c
  | .untl q _, [c] => .untl q c
  | t, _ => t
def Con.pk : Con → List Str
  | .none => []
  | .give _ _ _ _ => ["side", "side", "good", "number"]
  | .both _ _ => []
  | .turned _ _ _ => ["side", "side"]
  | .later _ _ => ["wait"]
  | .often _ _ _ => ["times", "gap"]
  | .ite _ _ _ => ["condition"]
  | .whn _ _ => ["condition"]
  | .untl _ _ => ["condition"]
theorem Con.form : ∀ t : Con, formOf ctrForms t.word = some (t.pk ++ List.replicate t.ins.length ("contract" : Str))
  | .none => by decide +kernel
  | .give _ _ _ _ => (by decide +kernel : formOf ctrForms "give" = some ((["side", "side", "good", "number"] : List Str) ++ List.replicate 0 ("contract" : Str)))
  | .both _ _ => (by decide +kernel : formOf ctrForms "both" = some ([] ++ List.replicate 2 ("contract" : Str)))
  | .turned _ _ _ => (by decide +kernel : formOf ctrForms "turned" = some ((["side", "side"] : List Str) ++ List.replicate 1 ("contract" : Str)))
  | .later _ _ => (by decide +kernel : formOf ctrForms "later" = some ((["wait"] : List Str) ++ List.replicate 1 ("contract" : Str)))
  | .often _ _ _ => (by decide +kernel : formOf ctrForms "often" = some ((["times", "gap"] : List Str) ++ List.replicate 1 ("contract" : Str)))
  | .ite _ _ _ => (by decide +kernel : formOf ctrForms "if" = some ((["condition"] : List Str) ++ List.replicate 2 ("contract" : Str)))
  | .whn _ _ => (by decide +kernel : formOf ctrForms "when" = some ((["condition"] : List Str) ++ List.replicate 1 ("contract" : Str)))
  | .untl _ _ => (by decide +kernel : formOf ctrForms "until" = some ((["condition"] : List Str) ++ List.replicate 1 ("contract" : Str)))
theorem Con.pk_no (t : Con) : ∀ k ∈ t.pk, ¬ k = ("contract" : Str) := by
  have a : ∀ k ∈ (["side", "side", "good", "number"] : List Str), ¬ k = ("contract" : Str) := by decide +kernel
  have b : ∀ k ∈ (["side", "side"] : List Str), ¬ k = ("contract" : Str) := by decide +kernel
  have c : ∀ k ∈ (["wait"] : List Str), ¬ k = ("contract" : Str) := by decide +kernel
  have d : ∀ k ∈ (["times", "gap"] : List Str), ¬ k = ("contract" : Str) := by decide +kernel
  have e : ∀ k ∈ (["condition"] : List Str), ¬ k = ("contract" : Str) := by decide +kernel
  have f : ∀ k ∈ ([] : List Str), ¬ k = ("contract" : Str) := by decide +kernel
  cases t
  · exact f
  · exact a
  · exact f
  · exact b
  · exact c
  · exact d
  · exact e
  · exact e
  · exact e
theorem Con.pk_len (t : Con) : t.pk.length = t.pre.length := by cases t <;> rfl
theorem Con.pre_few (t : Con) : t.pre.length ≤ 4 := by cases t <;> exact Nat.le_of_ble_eq_true rfl
theorem Con.ins_few (t : Con) : t.ins.length ≤ 2 := by cases t <;> exact Nat.le_of_ble_eq_true rfl
theorem Con.wth_word (t : Con) (cs : List Con) : (t.wth cs).word = t.word := by
  cases t <;> match cs with
    | [] => rfl
    | [_] => rfl
    | [_, _] => rfl
    | _ :: _ :: _ :: _ => rfl
theorem Con.wth_pre (t : Con) (cs : List Con) : (t.wth cs).pre = t.pre := by
  cases t <;> match cs with
    | [] => rfl
    | [_] => rfl
    | [_, _] => rfl
    | _ :: _ :: _ :: _ => rfl
theorem Con.wth_ins {t : Con} {cs : List Con} (h : cs.length = t.ins.length) : (t.wth cs).ins = cs := by
  cases t <;> match cs, h with
    | [], h => first | rfl | (simp [Con.ins] at h)
    | [_], h => first | rfl | (simp [Con.ins] at h)
    | [_, _], h => first | rfl | (simp [Con.ins] at h)
    | _ :: _ :: _ :: _, h => simp [Con.ins] at h
theorem Con.ins_deep {t c : Con} (h : c ∈ t.ins) : c.deep + 1 ≤ t.deep := by
  cases t <;> simp only [Con.ins, List.mem_cons, List.not_mem_nil, or_false] at h
  · rcases h with rfl | rfl <;> (simp only [Con.deep]; omega)
  · subst h; simp [Con.deep]
  · subst h; simp [Con.deep]
  · subst h; simp [Con.deep]
  · rcases h with rfl | rfl <;> (simp only [Con.deep]; omega)
  · subst h; simp [Con.deep]
  · subst h; simp [Con.deep]
theorem DK.parts {K : PySem.W.Frag} {H : Hp} {t : Con} {v : V} (h : DK K H t v) : ∃ p vs us, v = .ref p ∧ SqT K H p (.str t.word :: (vs ++ us)) ∧ All2 (DP K H) t.pre vs ∧ All2 (DK K H) t.ins us := by
  cases t with
  | none => obtain ⟨p, e, h⟩ := h; exact ⟨p, [], [], e, h, trivial, trivial⟩
  | give a b g o => obtain ⟨p, u, e, h, h1⟩ := h; exact ⟨p, [.str a, .str b, .str g, u], [], e, h, ⟨rfl, rfl, rfl, h1, trivial⟩, trivial⟩
  | both c d => obtain ⟨p, u, z, e, h, h1, h2⟩ := h; exact ⟨p, [], [u, z], e, h, trivial, h1, h2, trivial⟩
  | turned a b c => obtain ⟨p, u, e, h, h1⟩ := h; exact ⟨p, [.str a, .str b], [u], e, h, ⟨rfl, rfl, trivial⟩, h1, trivial⟩
  | later n c => obtain ⟨p, u, e, h, h1⟩ := h; exact ⟨p, [.int n], [u], e, h, ⟨rfl, trivial⟩, h1, trivial⟩
  | often n g c => obtain ⟨p, u, e, h, h1⟩ := h; exact ⟨p, [.int n, .int g], [u], e, h, ⟨rfl, rfl, trivial⟩, h1, trivial⟩
  | ite q c d => obtain ⟨p, x, u, z, e, h, h0, h1, h2⟩ := h; exact ⟨p, [x], [u, z], e, h, ⟨h0, trivial⟩, h1, h2, trivial⟩
  | whn q c => obtain ⟨p, x, u, e, h, h0, h1⟩ := h; exact ⟨p, [x], [u], e, h, ⟨h0, trivial⟩, h1, trivial⟩
  | untl q c => obtain ⟨p, x, u, e, h, h0, h1⟩ := h; exact ⟨p, [x], [u], e, h, ⟨h0, trivial⟩, h1, trivial⟩
theorem DK.of {K : PySem.W.Frag} {H : Hp} {t : Con} {p : Addr} {vs us : List V} (h : SqT K H p (.str t.word :: (vs ++ us))) (h1 : All2 (DP K H) t.pre vs) (h2 : All2 (DK K H) t.ins us) : DK K H t (.ref p) := by
  cases t with
  | none =>
    cases All2.nil_r h1
    cases All2.nil_r h2
    exact ⟨p, rfl, h⟩
  | give a b g o =>
    cases All2.nil_r h2
    match vs, h1 with
    | [_, _, _, u], ⟨rfl, rfl, rfl, h3, _⟩ => exact ⟨p, u, rfl, h, h3⟩
  | both c d =>
    cases All2.nil_r h1
    match us, h2 with
    | [u, z], ⟨h3, h4, _⟩ => exact ⟨p, u, z, rfl, h, h3, h4⟩
  | turned a b c =>
    match vs, h1, us, h2 with
    | [_, _], ⟨rfl, rfl, _⟩, [u], ⟨h3, _⟩ => exact ⟨p, u, rfl, h, h3⟩
  | later n c =>
    match vs, h1, us, h2 with
    | [_], ⟨rfl, _⟩, [u], ⟨h3, _⟩ => exact ⟨p, u, rfl, h, h3⟩
  | often n g c =>
    match vs, h1, us, h2 with
    | [_, _], ⟨rfl, rfl, _⟩, [u], ⟨h3, _⟩ => exact ⟨p, u, rfl, h, h3⟩
  | ite q c d =>
    match vs, h1, us, h2 with
    | [x], ⟨h0, _⟩, [u, z], ⟨h3, h4, _⟩ => exact ⟨p, x, u, z, rfl, h, h0, h3, h4⟩
  | whn q c =>
    match vs, h1, us, h2 with
    | [x], ⟨h0, _⟩, [u], ⟨h3, _⟩ => exact ⟨p, x, u, rfl, h, h0, h3⟩
  | untl q c =>
    match vs, h1, us, h2 with
    | [x], ⟨h0, _⟩, [u], ⟨h3, _⟩ => exact ⟨p, x, u, rfl, h, h0, h3⟩
/-! ### contracts within, and others in their place -/
def spCIn (K : PySem.W.Frag) : Sp := fun vs H Q _ => ∃ (v : V) (t : Con), vs = [v] ∧ DK K H t v ∧ ∀ D us H', Same H H' → H D = none → H' D = some (.lst us) → All2 (DK K H') t.ins us → Q (.ref D) H'
theorem use_cin {K : PySem.W.Frag} {v : V} {t : Con} {H : Hp} {Q : VK} {E : XK} (h : DK K H t v) (q : ∀ D us H', Same H H' → H D = none → H' D = some (.lst us) → All2 (DK K H') t.ins us → Q (.ref D) H') : spCIn K ([v] ++ []) H Q E := ⟨v, t, rfl, h, q⟩
def spWth (K : PySem.W.Frag) : Sp := fun vs H Q _ => ∃ (v : V) (t : Con) (l : Addr) (us : List V) (cs : List Con), vs = [v, .ref l] ∧ DK K H t v ∧ SqL K H l us ∧ All2 (DK K H) cs us ∧ cs.length = t.ins.length ∧ ∀ v' H', Same H H' → DK K H' (t.wth cs) v' → Q v' H'
theorem use_wth {K : PySem.W.Frag} {v : V} {t : Con} {l : Addr} {us : List V} {cs : List Con} {H : Hp} {Q : VK} {E : XK} (h : DK K H t v) (h1 : SqL K H l us) (h2 : All2 (DK K H) cs us) (h3 : cs.length = t.ins.length) (q : ∀ v' H', Same H H' → DK K H' (t.wth cs) v' → Q v' H') :
    spWth K ([v, .ref l] ++ []) H Q E := ⟨v, t, l, us, cs, rfl, h, h1, h2, h3, q⟩
def tsd (s one other : Str) : Str := if s = one then other else if s = other then one else s
def spTsd : Sp := fun vs H Q _ => ∃ (s a b : Str), vs = [.str s, .str a, .str b] ∧ Q (.str (tsd s a b)) H
section
variable {P : Program} {w : World} {K : PySem.W.Frag} {mg : Str → Option Value} {base : Heap}
abbrev s_turned_side : Stmt := topS 16
theorem sc_turned_side : FnScope ["side", "one", "other"] ["side", "one", "other"] (defScope s_turned_side) := ⟨rfl, rfl, rfl, by decide +kernel, rfl, by decide +kernel, by decide +kernel⟩
theorem h_turned_side {k : Nat} {f : Addr} {fd : FuncData} (O : Own K mg "turned_side" s_turned_side ["side", "one", "other"] f fd)  : Has P w K mg base "turned_side" ["side", "one", "other"] (k + 1) CX0 spTsd f fd := by
  refine O.has (O.F.ok sc_turned_side (fun vs H Q E h => ?_) (fun cdv A outer s H vs Q E hr h => ?_))
  · obtain ⟨s, a, b, rfl, _⟩ := h
    rfl
  obtain ⟨s, a, b, rfl, q⟩ := h
  refine ⟨_, (pss_cons (ps_if (pt_cmpR op_eq (pv 0) (pv 1) (nomark _)) (pss_one (ps_ret (pv 2))) pss_nil) (pss_cons (ps_if (pt_cmpR op_eq (pv 0) (pv 2) (nomark _)) (pss_one (ps_ret (pv 1))) pss_nil) (pss_one (ps_ret (pv 0))))), ?_⟩
  unfold tsd at q
  walk_at "go"
  refine ifd (fun c => ?_) (fun c => ?_)
  · rw [if_pos c] at q
    walk_at "go"
    exact q
  rw [if_neg c] at q
  walk_at "go"
  refine ifd (fun c => ?_) (fun c => ?_)
  · rw [if_pos c] at q
    walk_at "go"
    exact q
  rw [if_neg c] at q
  walk_at "go"
  exact q
abbrev s_contracts_in : Stmt := topS 15
theorem sc_contracts_in : FnScope ["contract", "kinds", "kind", "part"] ["contract"] (defScope s_contracts_in) := ⟨rfl, rfl, rfl, by decide +kernel, rfl, by decide +kernel, by decide +kernel⟩
theorem h_contracts_in {k : Nat} {f : Addr} {fd : FuncData} (O : Own K mg "contracts_in" s_contracts_in ["contract"] f fd)  (m_zip : mg "zip" = none) {d_CONTRACTS : Addr} (F_CONTRACTS : FTab K w mg "CONTRACTS" ctrForms d_CONTRACTS) : Has P w K mg base "contracts_in" ["contract"] (k + 1) CX0 (spCIn K) f fd := by
  refine O.has (O.F.ok sc_contracts_in (fun vs H Q E h => ?_) (fun cdv A outer s H vs Q E hr h => ?_))
  · obtain ⟨v, t, rfl, _⟩ := h
    rfl
  obtain ⟨v, t, rfl, hd, q⟩ := h
  refine ⟨_, (pss_cons (ps_set (i := 1) sc_contracts_in.nd rfl (.inl rfl) (pe_ix ix_kdict (pe_glob (v := .ref d_CONTRACTS) (by rfl) F_CONTRACTS.g rfl) (pe_ix ix_tup (pv 0) pe_int (fun _ _ => rfl)) (fun _ _ => rfl))) (pss_one (ps_ret (pe_lc (own := [("kind", 2), ("part", 3)]) (g := gTup K 2 (gCons (gName 2) (gCons (gName 3) gNil))) rfl sc_contracts_in.nd (RZ.pi_zipA (by rfl) m_zip (pa_cons (pv 1) (pa_cons (pe_slice sl_tup (pv 0) (po_some pe_int) po_none) pa_nil))) (blkOk_by (own := [("kind", 2), ("part", 3)]) (N := ["contract", "kinds", "kind", "part"]) (sc := defScope s_contracts_in) (by decide +kernel)) (fun _ _ _ _ _ => pg_tup rfl (pgs_cons (pg_name (i := 2) sc_contracts_in.nd rfl (.inl rfl)) (pgs_cons (pg_name (i := 3) sc_contracts_in.nd rfl (.inl rfl)) pgs_nil))) (fun _ _ _ _ _ => pts_one (pt_cmpR op_eq (pv 2) pe_str (nomark _))) (fun _ _ _ _ _ => (pv 3)))))), ?_⟩
  obtain ⟨p, vs, us, rfl, hp, h1, h2⟩ := hd.parts
  obtain ⟨a, ka, sa⟩ := F_CONTRACTS.at t.form
  have lv := h1.len
  have lu := h2.len
  have lf := t.pre_few
  have li := t.ins_few
  walk_at "go"
  refine ⟨_, _, _, _, rfl, rfl, hp, at_any (j := 0) rfl rfl, ?_⟩
  refine ⟨_, _, _, rfl, rfl, ka, ?_⟩
  walk_at "go"
  refine g_zipA ?_
  walk_at "go"
  refine ⟨_, _, rfl, hp, not_whole1 _ _, fun b nb => ?_⟩
  rw [cut1]
  have s1 := same_new (o := .tup (vs ++ us)) nb
  have hb : SqT K (upd H b (.tup (vs ++ us))) b (vs ++ us) := sqt upd_same
  walk_at "go"
  refine ⟨_, _, _, _, rfl, .inr ⟨sa _, hb, fun D nD => ?_⟩⟩
  have nb' : b ≠ D := fun z => by rw [z] at hb; rw [z, upd_same] at nD; cases nD
  refine lc_it (walk_zipT (n := (vs ++ us).length) (by rw [List.length_map, List.length_append, List.length_append, List.length_replicate, t.pk_len]; omega)) (fun i H3 => H3 D = some (.lst (us.take (i - vs.length))) ∧ Same (upd H b (.tup (vs ++ us))) H3)
    ⟨by rw [upd_same, Nat.zero_sub]; rfl, same_new nD⟩ (fun i H3 _ hW => ⟨sa _, SqT.same hW.2 hb⟩) (fun i x H3 H4 hi hW hy => ?_) (fun H3 hW => ?_)
  · obtain ⟨hD, e3⟩ := hW
    obtain ⟨T, kx, y, rfl, nT, rfl, hx, hy⟩ := hy
    have hx : ((t.pk ++ List.replicate t.ins.length ("contract" : Str)).map V.str)[i]? = some kx := hx
    have hy : (vs ++ us)[i]? = some y := hy
    rw [List.getElem?_map] at hx
    obtain ⟨k, hk, rfl⟩ := Option.map_eq_some_iff.mp hx
    have s4 := same_new (o := .tup [.str k, y]) nT
    refine g_gtup (sqt upd_same) rfl ?_
    have hD4 := s4 _ _ hD
    have e4 := e3.trans s4
    generalize upd H3 T (.tup [.str k, y]) = H4 at hD4 e4 ⊢
    walk_at "go"
    have hc : k = ("contract" : Str) ↔ ¬ i < vs.length := by
      refine ⟨fun e z => ?_, fun z => ?_⟩
      · rw [List.getElem?_append_left (by rw [t.pk_len]; omega)] at hk
        exact t.pk_no k (List.mem_of_getElem? hk) e
      · rw [List.getElem?_append_right (by rw [t.pk_len]; omega)] at hk
        exact (List.mem_replicate.mp (List.mem_of_getElem? hk)).2
    refine ifd (fun c => ?_) (fun c => ?_)
    · have c := hc.mp c
      rw [List.getElem?_append_right (by omega)] at hy
      walk_at "go"
      refine ⟨_, hD4, ?_, ?_, fun x o h => by rw [upd_ne (ne_of_none h nD)]; exact e4 _ _ h⟩
      · rw [List.length_take]
        exact small1000 (by omega)
      · rw [upd_same, show i + 1 - vs.length = (i - vs.length) + 1 by omega, List.take_succ, hy]
        rfl
    · have c : i < vs.length := Decidable.byContradiction fun z => c (hc.mpr z)
      rw [show i - vs.length = 0 by omega] at hD4
      rw [show i + 1 - vs.length = 0 by omega]
      exact ⟨hD4, e4⟩
  · obtain ⟨hD, e3⟩ := hW
    rw [List.length_append, Nat.add_sub_cancel_left, List.take_length] at hD
    walk_at "go"
    refine q D us H3 (s1.trans e3) ?_ hD (h2.mono fun c u => DK.tm (.of (s1.trans e3)))
    exact (by rw [upd_ne (fun z => nb' z.symm)] at nD; exact nD)
end

/-! ### spans, plainly -/
abbrev S2 := Int × Int
def mn : List Int → Int
  | [] => 0
  | [x] => x
  | x :: y :: r => min x (mn (y :: r))
def mx : List Int → Int
  | [] => 0
  | [x] => x
  | x :: y :: r => max x (mx (y :: r))
theorem mn_is : ∀ {l : List Int}, l ≠ [] → mn l ∈ l ∧ ∀ y ∈ l, mn l ≤ y
  | [x], _ => ⟨List.mem_cons_self, fun y hy => by rw [List.mem_singleton.mp hy]; exact Int.le_refl _⟩
  | x :: y :: r, _ => by
    obtain ⟨a, b⟩ := mn_is (l := y :: r) (by simp)
    show min x (mn (y :: r)) ∈ _ ∧ ∀ z ∈ _, min x (mn (y :: r)) ≤ z
    refine ⟨?_, fun z hz => ?_⟩
    · by_cases h : x ≤ mn (y :: r)
      · rw [Int.min_eq_left h]; exact List.mem_cons_self
      · rw [Int.min_eq_right (by omega)]; exact List.mem_cons_of_mem _ a
    · rcases List.mem_cons.mp hz with rfl | hz
      · omega
      · have := b z hz; omega
theorem mx_is : ∀ {l : List Int}, l ≠ [] → mx l ∈ l ∧ ∀ y ∈ l, y ≤ mx l
  | [x], _ => ⟨List.mem_cons_self, fun y hy => by rw [List.mem_singleton.mp hy]; exact Int.le_refl _⟩
  | x :: y :: r, _ => by
    obtain ⟨a, b⟩ := mx_is (l := y :: r) (by simp)
    show max x (mx (y :: r)) ∈ _ ∧ ∀ z ∈ _, z ≤ max x (mx (y :: r))
    refine ⟨?_, fun z hz => ?_⟩
    · by_cases h : x ≤ mx (y :: r)
      · rw [Int.max_eq_right h]; exact List.mem_cons_of_mem _ a
      · rw [Int.max_eq_left (by omega)]; exact List.mem_cons_self
    · rcases List.mem_cons.mp hz with rfl | hz
      · omega
      · have := b z hz; omega
theorem mn_eq {l : List Int} {m : Int} (h1 : m ∈ l) (h2 : ∀ y ∈ l, m ≤ y) : m = mn l := by
  obtain ⟨a, b⟩ := mn_is (l := l) (fun z => by rw [z] at h1; cases h1)
  have := h2 _ a
  have := b _ h1
  omega
theorem mx_eq {l : List Int} {m : Int} (h1 : m ∈ l) (h2 : ∀ y ∈ l, y ≤ m) : m = mx l := by
  obtain ⟨a, b⟩ := mx_is (l := l) (fun z => by rw [z] at h1; cases h1)
  have := h2 _ a
  have := b _ h1
  omega
theorem min2 (i j : Int) : (if j < i then j else i) = min i j := by split <;> omega
theorem max2 (i j : Int) : (if j > i then j else i) = max i j := by split <;> omega
theorem mn_cons {x : Int} {l : List Int} (h : l ≠ []) : mn (x :: l) = min x (mn l) := by
  cases l with
  | nil => exact absurd rfl h
  | cons y r => rfl
theorem mx_cons {x : Int} {l : List Int} (h : l ≠ []) : mx (x :: l) = max x (mx l) := by
  cases l with
  | nil => exact absurd rfl h
  | cons y r => rfl
/-- what two spans' ends come to -/
def o4 (o : Op) (a b : S2) : List Int := [o.app a.1 b.1, o.app a.1 b.2, o.app a.2 b.1, o.app a.2 b.2]
def Num.span (R : Str → S2) : Num → S2
  | .num n => (n, n)
  | .read x => R x
  | .bin o a b => (mn (o4 o (a.span R) (b.span R)), mx (o4 o (a.span R) (b.span R)))
def Cond.can (R : Str → S2) : Cond → Bool × Bool
  | .lt a b => (decide ((a.span R).1 < (b.span R).2), decide ((a.span R).2 ≥ (b.span R).1))
  | .neg a => ((a.can R).2, (a.can R).1)
  | .con a b => ((a.can R).1 && (b.can R).1, (a.can R).2 || (b.can R).2)
  | .dis a b => ((a.can R).1 || (b.can R).1, (a.can R).2 && (b.can R).2)
def RowL (R : Str → S2) : Prop := ∀ x, (R x).1 ≤ (R x).2
theorem Num.span_le {R : Str → S2} (h : RowL R) : ∀ t : Num, (t.span R).1 ≤ (t.span R).2
  | .num n => Int.le_refl _
  | .read x => h x
  | .bin o a b => by
    show mn (o4 _ _ _) ≤ mx (o4 _ _ _)
    have a1 := (mn_is (l := o4 o (a.span R) (b.span R)) (by simp [o4])).1
    exact (mx_is (l := o4 o (a.span R) (b.span R)) (by simp [o4])).2 _ a1
theorem Cond.can_one {R : Str → S2} (h : RowL R) : ∀ q : Cond, ((q.can R).1 || (q.can R).2) = true
  | .lt a b => by
    show (decide ((a.span R).1 < (b.span R).2) || decide ((a.span R).2 ≥ (b.span R).1)) = true
    have := a.span_le h
    have := b.span_le h
    rw [Bool.or_eq_true, decide_eq_true_eq, decide_eq_true_eq]
    omega
  | .neg a => by
    show ((a.can R).2 || (a.can R).1) = true
    rw [Bool.or_comm]
    exact Cond.can_one h a
  | .con a b => by
    have p := Cond.can_one h a
    have q := Cond.can_one h b
    show (((a.can R).1 && (b.can R).1) || ((a.can R).2 || (b.can R).2)) = true
    revert p q
    cases (a.can R).1 <;> cases (a.can R).2 <;> cases (b.can R).1 <;> cases (b.can R).2 <;> simp
  | .dis a b => by
    have p := Cond.can_one h a
    have q := Cond.can_one h b
    show (((a.can R).1 || (b.can R).1) || ((a.can R).2 && (b.can R).2)) = true
    revert p q
    cases (a.can R).1 <;> cases (a.can R).2 <;> cases (b.can R).1 <;> cases (b.can R).2 <;> simp
abbrev Crs := List S2
def cover (a b : S2) : S2 := (min a.1 b.1, max a.2 b.2)
def noth (n : Nat) : Crs := List.replicate n (0, 0)
def at2 (c : Crs) (k : Nat) : S2 := c.getD k (0, 0)
def sumC (n : Nat) (cs : List Crs) : Crs := (List.range n).map fun k => ((cs.map fun c => (at2 c k).1).sum, (cs.map fun c => (at2 c k).2).sum)
def covL (n : Nat) (cs : List Crs) : Crs := (List.range n).map fun k => (mn (cs.map fun c => (at2 c k).1), mx (cs.map fun c => (at2 c k).2))
def covC (a b : Crs) : Crs := List.zipWith cover a b
def chosen (n : Nat) (can : Bool × Bool) (a b : Crs) : Crs := if (can.1 && can.2) = true then covC a b else if can.1 = true then a else b
theorem at2_noth (n k : Nat) : at2 (noth n) k = (0, 0) := by
  unfold at2 noth
  rw [List.getD_eq_getElem?_getD, List.getElem?_replicate]
  split <;> rfl
theorem crs_ext {a b : Crs} {n : Nat} (ha : a.length = n) (hb : b.length = n) (h : ∀ k < n, at2 a k = at2 b k) : a = b := by
  refine List.ext_getElem (ha.trans hb.symm) fun k h1 h2 => ?_
  have z := h k (by omega)
  unfold at2 at z
  rw [List.getD_eq_getElem?_getD, List.getD_eq_getElem?_getD, List.getElem?_eq_getElem h1, List.getElem?_eq_getElem h2] at z
  exact z
theorem at2_map {n k : Nat} {f : Nat → S2} (h : k < n) : at2 ((List.range n).map f) k = f k := by
  unfold at2
  rw [List.getD_eq_getElem?_getD, List.getElem?_map, List.getElem?_range h]
  rfl
theorem sumC_len {n : Nat} {cs : List Crs} : (sumC n cs).length = n := by unfold sumC; rw [List.length_map, List.length_range]
theorem covL_len {n : Nat} {cs : List Crs} : (covL n cs).length = n := by unfold covL; rw [List.length_map, List.length_range]
theorem noth_len {n : Nat} : (noth n).length = n := List.length_replicate
theorem sumC_one {n : Nat} {c : Crs} (h : c.length = n) : sumC n [c] = c := crs_ext sumC_len h fun k hk => by
  unfold sumC
  rw [at2_map hk]
  simp
theorem sumC_nil {n : Nat} : sumC n [] = noth n := crs_ext sumC_len noth_len fun k hk => by
  unfold sumC
  rw [at2_map hk, at2_noth]
  rfl
theorem covC_len {a b : Crs} {n : Nat} (ha : a.length = n) (hb : b.length = n) : (covC a b).length = n := by unfold covC; rw [List.length_zipWith]; omega
theorem at2_covC {a b : Crs} {n k : Nat} (ha : a.length = n) (hb : b.length = n) (hk : k < n) : at2 (covC a b) k = cover (at2 a k) (at2 b k) := by
  unfold covC at2
  rw [List.getD_eq_getElem?_getD, List.getD_eq_getElem?_getD, List.getD_eq_getElem?_getD, List.getElem?_zipWith, List.getElem?_eq_getElem (show k < a.length by omega), List.getElem?_eq_getElem (show k < b.length by omega)]
  rfl
theorem chosen_len {n : Nat} {can : Bool × Bool} {a b : Crs} (ha : a.length = n) (hb : b.length = n) : (chosen n can a b).length = n := by
  unfold chosen
  split
  · exact covC_len ha hb
  · split <;> assumption
theorem covL_one {n : Nat} {c : Crs} (h : c.length = n) : covL n [c] = c := crs_ext covL_len h fun k hk => by
  unfold covL
  rw [at2_map hk]
  rfl
theorem covL_cons {n : Nat} {c : Crs} {cs : List Crs} (h : c.length = n) (hc : cs ≠ []) : covL n (c :: cs) = covC c (covL n cs) := crs_ext covL_len (covC_len h covL_len) fun k hk => by
  rw [at2_covC h covL_len hk]
  unfold covL
  rw [at2_map hk, at2_map hk, List.map_cons, List.map_cons, mn_cons (fun z => hc (List.map_eq_nil_iff.mp z)), mx_cons (fun z => hc (List.map_eq_nil_iff.mp z))]
  rfl
section
variable (n : Nat) (R : Nat → Str → S2) (good : Str)
/-- the spans of a contract that begins at an hour, hour by hour -/
def cw : Con → Str → Nat → Crs
  | .none, _, _ => noth n
  | .give a b g o, s, k => if k ≥ n then noth n else if g = good ∧ (s = a ∨ s = b) then (noth n).set k (if s = b then o.span (R k) else (-(o.span (R k)).2, -(o.span (R k)).1)) else noth n
  | .both c d, s, k => if k ≥ n then noth n else sumC n [cw c s k, cw d s k]
  | .turned a b c, s, k => if k ≥ n then noth n else cw c (tsd s a b) k
  | .later j c, s, k => if k ≥ n then noth n else cw c s (k + j.toNat)
  | .often t g c, s, k => if k ≥ n then noth n else sumC n ((List.range t.toNat).map fun j => cw c s (k + j * g.toNat))
  | .ite q c d, s, k => if k ≥ n then noth n else chosen n (q.can (R k)) (cw c s k) (cw d s k)
  | .whn q c, s, k => (List.range' k (n - k)).foldr (fun j r => chosen n (q.can (R j)) (cw c s j) r) (noth n)
  | .untl q c, s, k => if k ≥ n then noth n else (List.range n).map fun j =>
      if ((List.range' k (j + 1 - k)).map fun i => !(q.can (R i)).2).any id = true then (0, 0)
      else if ((List.range' k (j + 1 - k)).map fun i => (q.can (R i)).1).any id = true then cover (at2 (cw c s k) j) (0, 0) else at2 (cw c s k) j
end
section
variable {n : Nat} {R : Nat → Str → S2} {good : Str}
theorem fold_len {n : Nat} {g : Nat → Bool × Bool} {f : Nat → Crs} (h : ∀ j, (f j).length = n) : ∀ l : List Nat, (l.foldr (fun j r => chosen n (g j) (f j) r) (noth n)).length = n
  | [] => noth_len
  | j :: l => chosen_len (h j) (fold_len h l)
theorem cw_len : ∀ (t : Con) (s : Str) (k : Nat), (cw n R good t s k).length = n
  | .none, _, _ => noth_len
  | .give a b g o, s, k => by
    unfold cw
    split
    · exact noth_len
    · split
      · rw [List.length_set]; exact noth_len
      · exact noth_len
  | .both c d, s, k => by unfold cw; split; exact noth_len; exact sumC_len
  | .turned a b c, s, k => by unfold cw; split; exact noth_len; exact cw_len c _ _
  | .later j c, s, k => by unfold cw; split; exact noth_len; exact cw_len c _ _
  | .often t g c, s, k => by unfold cw; split; exact noth_len; exact sumC_len
  | .ite q c d, s, k => by unfold cw; split; exact noth_len; exact chosen_len (cw_len c _ _) (cw_len d _ _)
  | .whn q c, s, k => by unfold cw; exact fold_len (fun j => cw_len c s j) _
  | .untl q c, s, k => by unfold cw; split; exact noth_len; rw [List.length_map, List.length_range]
theorem cw_late : ∀ (t : Con) (s : Str) {k : Nat}, n ≤ k → cw n R good t s k = noth n
  | .none, _, _, _ => rfl
  | .give a b g o, s, k, h => by unfold cw; rw [if_pos h]
  | .both c d, s, k, h => by unfold cw; rw [if_pos h]
  | .turned a b c, s, k, h => by unfold cw; rw [if_pos h]
  | .later j c, s, k, h => by unfold cw; rw [if_pos h]
  | .often t g c, s, k, h => by unfold cw; rw [if_pos h]
  | .ite q c d, s, k, h => by unfold cw; rw [if_pos h]
  | .whn q c, s, k, h => by unfold cw; rw [show n - k = 0 by omega]; rfl
  | .untl q c, s, k, h => by unfold cw; rw [if_pos h]
/-- what begins at hours beyond the last adds nothing -/
theorem sum_late {f : Nat → Crs} (h : ∀ k, n ≤ k → f k = noth n) : ∀ hs : List Nat, sumC n (hs.map f) = sumC n ((hs.filter fun k => decide (k < n)).map f) := fun hs => crs_ext sumC_len sumC_len fun k hk => by
  unfold sumC
  rw [at2_map hk, at2_map hk]
  induction hs with
  | nil => rfl
  | cons j hs ih =>
    have ih1 := congrArg Prod.fst ih
    have ih2 := congrArg Prod.snd ih
    dsimp only at ih1 ih2
    by_cases c : j < n
    · rw [List.filter_cons_of_pos (by simpa using c)]
      simp only [List.map_cons, List.sum_cons, ih1, ih2]
    · rw [List.filter_cons_of_neg (by simpa using c)]
      simp only [List.map_cons, List.sum_cons, ih1, ih2, h j (by omega), at2_noth]
      simp
/-- the law's rows of what may begin -/
def begL (n : Nat) (g : Nat → Bool × Bool) (f : Nat → Crs) : List Nat → List Crs
  | [] => [noth n]
  | j :: l => (if (g j).1 = true then [f j] else []) ++ (if (g j).2 = true then begL n g f l else [])
theorem begL_cov {g : Nat → Bool × Bool} {f : Nat → Crs} (h : ∀ j, (f j).length = n) (one : ∀ j, ((g j).1 || (g j).2) = true) : ∀ l : List Nat, begL n g f l ≠ [] ∧ covL n (begL n g f l) = l.foldr (fun j r => chosen n (g j) (f j) r) (noth n)
  | [] => ⟨by simp [begL], covL_one noth_len⟩
  | j :: l => by
    obtain ⟨a, b⟩ := begL_cov h one l
    have o := one j
    rw [List.foldr_cons, ← b, show begL n g f (j :: l) = (if (g j).1 = true then [f j] else []) ++ (if (g j).2 = true then begL n g f l else []) from rfl]
    unfold chosen
    cases e1 : (g j).1 <;> cases e2 : (g j).2
    · rw [e1, e2] at o; cases o
    · simp [a]
    · simp [covL_one (h j)]
    · simp [covL_cons (h j) a]
end

/-! ### spans, as they lie in the heap -/
theorem app_bits {o : Op} {a b : Int} {n : Nat} (h0 : 0 < n) (ha : a.natAbs < 2 ^ n) (hb : b.natAbs < 2 ^ n) : (o.app a b).natAbs < 2 ^ (n + n) := by
  have h2 : 2 ^ (n + 1) ≤ 2 ^ (n + n) := Nat.pow_le_pow_right (by decide) (by omega)
  have h3 : 2 ^ (n + 1) = 2 * 2 ^ n := by rw [Nat.pow_succ]; omega
  have h4 : 2 ^ n ≤ 2 ^ (n + 1) := Nat.pow_le_pow_right (by decide) (by omega)
  cases o with
  | plus => show (a + b).natAbs < _; omega
  | minus => show (a - b).natAbs < _; omega
  | times => exact wide_lt ha hb
  | most => show (if b > a then b else a).natAbs < _; split <;> omega
  | least => show (if b < a then b else a).natAbs < _; split <;> omega
def SpR (K : PySem.W.Frag) (H : Hp) (s : S2) (v : V) : Prop := ∃ p, v = .ref p ∧ SqT K H p [.int s.1, .int s.2]
def BpR (K : PySem.W.Frag) (H : Hp) (s : Bool × Bool) (v : V) : Prop := ∃ p, v = .ref p ∧ SqT K H p [.bl s.1, .bl s.2]
theorem SpR.same {K : PySem.W.Frag} {H H' : Hp} (e : Same H H') : ∀ s v, SpR K H s v → SpR K H' s v := fun _ _ ⟨p, h1, h2⟩ => ⟨p, h1, SqT.same e h2⟩
theorem BpR.same {K : PySem.W.Frag} {H H' : Hp} (e : Same H H') : ∀ s v, BpR K H s v → BpR K H' s v := fun _ _ ⟨p, h1, h2⟩ => ⟨p, h1, SqT.same e h2⟩
theorem SqT.er {K : PySem.W.Frag} {H : Hp} {D p : Addr} {ws xs : List V} (hD : H D = some (.lst ws)) (h : SqT K H p xs) : SqT K (er D H) p xs := by
  rcases h with (h | ⟨o, h⟩) | h
  · exact .inl (.inl (by rw [er_ne (fun z => by rw [z, hD] at h; cases h)]; exact h))
  · exact .inl (.inr ⟨o, by rw [er_ne (fun z => by rw [z, hD] at h; cases h)]; exact h⟩)
  · exact .inr h
theorem SqL.er {K : PySem.W.Frag} {H : Hp} {D p : Addr} {xs : List V} (n : p ≠ D) (h : SqL K H p xs) : SqL K (er D H) p xs := by
  rcases h with (h | ⟨o, h⟩) | h
  · exact .inl (.inl (by rw [er_ne n]; exact h))
  · exact .inl (.inr ⟨o, by rw [er_ne n]; exact h⟩)
  · exact .inr h
theorem SpR.er {K : PySem.W.Frag} {H : Hp} {D : Addr} {ws : List V} (hD : H D = some (.lst ws)) {s : S2} {v : V} (h : SpR K H s v) : SpR K (er D H) s v := by
  obtain ⟨p, h1, h2⟩ := h
  exact ⟨p, h1, SqT.er hD h2⟩
theorem BpR.er {K : PySem.W.Frag} {H : Hp} {D : Addr} {ws : List V} (hD : H D = some (.lst ws)) {s : Bool × Bool} {v : V} (h : BpR K H s v) : BpR K (er D H) s v := by
  obtain ⟨p, h1, h2⟩ := h
  exact ⟨p, h1, SqT.er hD h2⟩
/-- a course whose list was laid since H0 -/
def CrN (K : PySem.W.Frag) (H0 H : Hp) (c : Crs) (v : V) : Prop := ∃ p vs, v = .ref p ∧ H0 p = none ∧ SqL K H p vs ∧ All2 (SpR K H) c vs
theorem CrN.same {K : PySem.W.Frag} {H0 H H' : Hp} (e : Same H H') : ∀ c v, CrN K H0 H c v → CrN K H0 H' c v := fun _ _ ⟨p, vs, h1, h2, h3, h4⟩ => ⟨p, vs, h1, h2, e.seq h3, h4.mono (SpR.same e)⟩
theorem CrN.less {K : PySem.W.Frag} {H0 H1 H : Hp} (e : Same H0 H1) {c : Crs} {v : V} (h : CrN K H1 H c v) : CrN K H0 H c v := by
  obtain ⟨p, vs, h1, h2, h3⟩ := h
  exact ⟨p, vs, h1, fresh_same e h2, h3⟩
/-- what a call gave while the list at D was being filled -/
theorem CrN.er {K : PySem.W.Frag} {H0 Hc H : Hp} {D : Addr} {ws us : List V} (e : Same H0 (er D Hc)) (hc : Hc D = some (.lst us)) (hD : H D = some (.lst ws)) {c : Crs} {v : V} (h : CrN K Hc H c v) : CrN K H0 (er D H) c v := by
  obtain ⟨p, vs, h1, h2, h3, h4⟩ := h
  have n : p ≠ D := fun z => by rw [z, hc] at h2; cases h2
  exact ⟨p, vs, h1, fresh_same (e.trans er_sub) h2, SqL.er n h3, h4.mono fun _ _ => SpR.er hD⟩
/-- a list that is being filled -/
structure Fl {α : Type} (Rel : Hp → α → V → Prop) (H0 : Hp) (D : Addr) (as : List α) (H : Hp) : Prop where
  l : ∃ ys, H D = some (.lst ys) ∧ All2 (Rel (er D H)) as ys
  e : Same H0 (er D H)
theorem Fl.start {α : Type} {Rel : Hp → α → V → Prop} {H0 : Hp} {D : Addr} (n : H0 D = none) : Fl Rel H0 D [] (upd H0 D (.lst [])) := ⟨⟨[], upd_same, trivial⟩, by rw [er_upd, er_new n]; exact .refl _⟩
theorem Fl.sub {α : Type} {Rel : Hp → α → V → Prop} {H0 H : Hp} {D : Addr} {as : List α} (f : Fl Rel H0 D as H) : Same H0 H := f.e.trans er_sub
theorem Fl.step {α : Type} {Rel : Hp → α → V → Prop} (mono : ∀ {H H' : Hp}, Same H H' → ∀ a v, Rel H a v → Rel H' a v) {H0 H H' : Hp} {D : Addr} {as : List α} (f : Fl Rel H0 D as H) (e : Same H H') {a : α} {y : V} (h : ∀ ys, H' D = some (.lst ys) → Rel (er D H') a y) (hl : as.length < 4000) :
    ∃ acc, H' D = some (.lst acc) ∧ acc.length < sizeLine ∧ Fl Rel H0 D (as ++ [a]) (upd H' D (.lst (acc ++ [y]))) := by
  obtain ⟨⟨ys, hD, hys⟩, e0⟩ := f
  have ln := hys.len
  refine ⟨ys, e _ _ hD, Nat.lt_of_lt_of_le (show ys.length < 4000 by omega) (by decide), ⟨ys ++ [y], upd_same, ?_⟩, by rw [er_upd]; exact e0.trans (er_same e)⟩
  rw [er_upd]
  exact All2.snoc (hys.mono (mono (er_same e))) (h ys (e _ _ hD))
theorem Fl.fin {α : Type} {Rel : Hp → α → V → Prop} (mono : ∀ {H H' : Hp}, Same H H' → ∀ a v, Rel H a v → Rel H' a v) {H0 H : Hp} {D : Addr} {as : List α} (f : Fl Rel H0 D as H) : ∃ ys, H D = some (.lst ys) ∧ All2 (Rel H) as ys ∧ Same H0 H := by
  obtain ⟨⟨ys, hD, hys⟩, e0⟩ := f
  exact ⟨ys, hD, hys.mono (mono er_sub), e0.trans er_sub⟩
theorem range_snoc {α : Type} {f : Nat → α} {i : Nat} : (List.range (i + 1)).map f = (List.range i).map f ++ [f i] := by rw [List.range_succ, List.map_append]; rfl
theorem CrN.at2 {K : PySem.W.Frag} {H : Hp} {c : Crs} {vs : List V} (h : All2 (SpR K H) c vs) {k : Nat} (hk : k < c.length) : ∃ p, vs[k]? = some (.ref p) ∧ SqT K H p [.int (at2 c k).1, .int (at2 c k).2] := by
  have hc : c[k]? = some c[k] := List.getElem?_eq_getElem hk
  obtain ⟨v, hv, p, rfl, hp⟩ := h.at hc
  have e : Bk.at2 c k = c[k] := by unfold Bk.at2; rw [List.getD_eq_getElem?_getD, hc]; rfl
  rw [e]
  exact ⟨p, hv, hp⟩
theorem g_zipL {K : PySem.W.Frag} {ta : TA} {σ : L2.St} {H : Hp} {R : It → Hp → Prop} (h : ta σ H fun vs H1 => ∃ a b xs ys, vs = [.ref a, .ref b] ∧ SqL K H1 a xs ∧ SqL K H1 b ys ∧ R (Itz K a b) H1) : iZip K ta σ H R := h
def spReck : Sp := fun vs H Q _ => ∃ (o : Op) (i j : Int), vs = [.str o.word, .int i, .int j] ∧ CMulW i j ∧ Q (.int (o.app i j)) H
def spCover (K : PySem.W.Frag) : Sp := fun vs H Q _ => ∃ (v u : V) (a b : S2), vs = [v, u] ∧ SpR K H a v ∧ SpR K H b u ∧ ∀ w H', Same H H' → SpR K H' (cover a b) w → Q w H'
def spCovering (K : PySem.W.Frag) : Sp := fun vs H Q _ => ∃ (v u : V) (a b : Crs) (H0 : Hp), vs = [v, u] ∧ CrN K H0 H a v ∧ CrN K H0 H b u ∧ a.length ≤ 100 ∧ a.length = b.length ∧ ∀ w H', Same H H' → CrN K H H' (covC a b) w → Q w H'
def spNothing (K : PySem.W.Frag) : Sp := fun vs H Q _ => ∃ (l : Addr) (xs : List V), vs = [.ref l] ∧ SqL K H l xs ∧ xs.length ≤ 100 ∧ ∀ w H', Same H H' → (∃ p ys, w = .ref p ∧ H p = none ∧ H' p = some (.lst ys) ∧ All2 (SpR K H') (noth xs.length) ys) → Q w H'
def spSummed (K : PySem.W.Frag) : Sp := fun vs H Q _ => ∃ (l r : Addr) (us xs : List V) (cs : List Crs) (H0 : Hp), vs = [.ref l, .ref r] ∧ SqL K H l us ∧ All2 (CrN K H0 H) cs us ∧ SqL K H r xs ∧ xs.length ≤ 100 ∧ cs.length ≤ 100 ∧ (∀ c ∈ cs, c.length = xs.length) ∧
  ∀ w H', Same H H' → CrN K H H' (sumC xs.length cs) w → Q w H'
def spChosen (K : PySem.W.Frag) : Sp := fun vs H Q _ => ∃ (x v u : V) (can : Bool × Bool) (a b : Crs) (H0 : Hp), vs = [x, v, u] ∧ BpR K H can x ∧ CrN K H0 H a v ∧ CrN K H0 H b u ∧ a.length ≤ 100 ∧ a.length = b.length ∧
  ((can.1 && can.2) = true → ∀ w H', Same H H' → CrN K H H' (covC a b) w → Q w H') ∧ ((can.1 && can.2) = false → Q (if can.1 = true then v else u) H)
section
variable {P : Program} {w : World} {K : PySem.W.Frag} {mg : Str → Option Value} {base : Heap}
abbrev s_reckoned : Stmt := topS 18
theorem sc_reckoned : FnScope ["word", "first", "second"] ["word", "first", "second"] (defScope s_reckoned) := ⟨rfl, rfl, rfl, by decide +kernel, rfl, by decide +kernel, by decide +kernel⟩
theorem h_reckoned {k : Nat} {f : Addr} {fd : FuncData} (O : Own K mg "reckoned" s_reckoned ["word", "first", "second"] f fd)  (m_min : mg "min" = none) (m_max : mg "max" = none) : Has P w K mg base "reckoned" ["word", "first", "second"] (k + 1) CX0 spReck f fd := by
  refine O.has (O.F.ok sc_reckoned (fun vs H Q E h => ?_) (fun cdv A outer s H vs Q E hr h => ?_))
  · obtain ⟨o, i, j, rfl, _⟩ := h
    rfl
  obtain ⟨o, i, j, rfl, hm, q⟩ := h
  refine ⟨_, (pss_cons (ps_if (pt_cmpR op_eq (pv 0) pe_str (nomark _)) (pss_one (ps_ret (pe_op op_add (pv 1) (pv 2)))) pss_nil) (pss_cons (ps_if (pt_cmpR op_eq (pv 0) pe_str (nomark _)) (pss_one (ps_ret (pe_op op_sub (pv 1) (pv 2)))) pss_nil) (pss_cons (ps_if (pt_cmpR op_eq (pv 0) pe_str (nomark _)) (pss_one (ps_ret (pe_op op_mulW (pv 1) (pv 2)))) pss_nil) (pss_cons (ps_if (pt_cmpR op_eq (pv 0) pe_str (nomark _)) (pss_one (ps_ret (pe_callB (call_max2 rfl) (by rfl) m_max (by decide +kernel) (pa_cons (pv 1) (pa_cons (pv 2) pa_nil))))) pss_nil) (pss_one (ps_ret (pe_callB (call_min2 rfl) (by rfl) m_min (by decide +kernel) (pa_cons (pv 1) (pa_cons (pv 2) pa_nil))))))))), ?_⟩
  cases o <;> (walk_at "go")
  · refine ifd (fun c => ?_) (fun c => absurd rfl c)
    walk_at "go"
    exact q
  · refine ifd (fun c => absurd c (by decide)) (fun c => ?_)
    walk_at "go"
    refine ifd (fun c => ?_) (fun c => absurd rfl c)
    walk_at "go"
    exact q
  · refine ifd (fun c => absurd c (by decide)) (fun c => ?_)
    walk_at "go"
    refine ifd (fun c => absurd c (by decide)) (fun c => ?_)
    walk_at "go"
    refine ifd (fun c => ?_) (fun c => absurd rfl c)
    walk_at "go"
    refine g_I hm ?_
    exact q
  · refine ifd (fun c => absurd c (by decide)) (fun c => ?_)
    walk_at "go"
    refine ifd (fun c => absurd c (by decide)) (fun c => ?_)
    walk_at "go"
    refine ifd (fun c => absurd c (by decide)) (fun c => ?_)
    walk_at "go"
    refine ifd (fun c => ?_) (fun c => absurd rfl c)
    walk_at "go"
    exact q
  · refine ifd (fun c => absurd c (by decide)) (fun c => ?_)
    walk_at "go"
    refine ifd (fun c => absurd c (by decide)) (fun c => ?_)
    walk_at "go"
    refine ifd (fun c => absurd c (by decide)) (fun c => ?_)
    walk_at "go"
    refine ifd (fun c => absurd c (by decide)) (fun c => ?_)
    walk_at "go"
    exact q
abbrev s__cover : Stmt := topS 32
theorem sc__cover : FnScope ["one", "other"] ["one", "other"] (defScope s__cover) := ⟨rfl, rfl, rfl, by decide +kernel, rfl, by decide +kernel, by decide +kernel⟩
theorem h__cover {k : Nat} {f : Addr} {fd : FuncData} (O : Own K mg "_cover" s__cover ["one", "other"] f fd)  (m_max : mg "max" = none) (m_min : mg "min" = none) : Has P w K mg base "_cover" ["one", "other"] (k + 1) CX0 (spCover K) f fd := by
  refine O.has (O.F.ok sc__cover (fun vs H Q E h => ?_) (fun cdv A outer s H vs Q E hr h => ?_))
  · obtain ⟨v, u, a, b, rfl, _⟩ := h
    rfl
  obtain ⟨v, u, a, b, rfl, ⟨p, rfl, hp⟩, ⟨r, rfl, hr'⟩, q⟩ := h
  refine ⟨_, (pss_one (ps_ret (pe_tup (pa_cons (pe_callB (call_min2 rfl) (by rfl) m_min (by decide +kernel) (pa_cons (pe_ix ix_tup (pv 0) pe_int (fun _ _ => rfl)) (pa_cons (pe_ix ix_tup (pv 1) pe_int (fun _ _ => rfl)) pa_nil))) (pa_cons (pe_callB (call_max2 rfl) (by rfl) m_max (by decide +kernel) (pa_cons (pe_ix ix_tup (pv 0) pe_int (fun _ _ => rfl)) (pa_cons (pe_ix ix_tup (pv 1) pe_int (fun _ _ => rfl)) pa_nil))) pa_nil))))), ?_⟩
  walk_at "go"
  refine ⟨_, _, _, _, rfl, rfl, hp, at_any (j := 0) rfl rfl, ?_⟩
  walk_at "go"
  refine ⟨_, _, _, _, rfl, rfl, hr', at_any (j := 0) rfl rfl, ?_⟩
  walk_at "go"
  refine ⟨_, _, _, _, rfl, rfl, hp, at_any (j := 1) rfl rfl, ?_⟩
  walk_at "go"
  refine ⟨_, _, _, _, rfl, rfl, hr', at_any (j := 1) rfl rfl, ?_⟩
  walk_at "go"
  rw [min2, max2]
  refine ⟨by show 2 ≤ sizeLine; decide, fun d nd => ?_⟩
  have s := same_new (o := .tup [.int (min a.1 b.1), .int (max a.2 b.2)]) nd
  exact q _ _ s ⟨d, rfl, sqt upd_same⟩
abbrev s__covering : Stmt := topS 31
theorem sc__covering : FnScope ["one", "other", "first", "second"] ["one", "other"] (defScope s__covering) := ⟨rfl, rfl, rfl, by decide +kernel, rfl, by decide +kernel, by decide +kernel⟩
theorem h__covering {k : Nat} {f : Addr} {fd : FuncData} (O : Own K mg "_covering" s__covering ["one", "other"] f fd)  {f__cover : Addr} {fd__cover : FuncData} (D__cover : Has P w K mg base "_cover" ["one", "other"] k CX0 (spCover K) f__cover fd__cover) (m_zip : mg "zip" = none) : Has P w K mg base "_covering" ["one", "other"] (k + 1) CX0 (spCovering K) f fd := by
  refine O.has (O.F.ok sc__covering (fun vs H Q E h => ?_) (fun cdv A outer s H vs Q E hr h => ?_))
  · obtain ⟨v, u, a, b, H0, rfl, _⟩ := h
    rfl
  obtain ⟨v, u, a, b, H0, rfl, ⟨p, xs, rfl, _, hp, hxs⟩, ⟨r, ys, rfl, _, hr', hys⟩, la, lb, q⟩ := h
  refine ⟨_, (pss_one (ps_ret (pe_lc (own := [("first", 2), ("second", 3)]) (g := gTup K 2 (gCons (gName 2) (gCons (gName 3) gNil))) rfl sc__covering.nd (pi_zip (by rfl) m_zip (pa_cons (pv 0) (pa_cons (pv 1) pa_nil))) (blkOk_by (own := [("first", 2), ("second", 3)]) (N := ["one", "other", "first", "second"]) (sc := defScope s__covering) (by decide +kernel)) (fun _ _ _ _ _ => pg_tup rfl (pgs_cons (pg_name (i := 2) sc__covering.nd rfl (.inl rfl)) (pgs_cons (pg_name (i := 3) sc__covering.nd rfl (.inl rfl)) pgs_nil))) (fun _ _ _ _ _ => pts_nil) (fun _ _ _ _ _ => (pe_call D__cover.G hr (by rfl) D__cover.g D__cover.k D__cover.b .nil pass0 (pa_cons (pv 2) (pa_cons (pv 3) pa_nil))))))), ?_⟩
  have lx := hxs.len
  have ly := hys.len
  walk_at "go"
  refine g_zipL ?_
  walk_at "go"
  refine ⟨_, _, _, _, rfl, hp, hr', fun D nD => ?_⟩
  refine lc_it (walk_zip (n := a.length) (by omega)) (fun i Hc => Fl (SpR K) H D ((covC a b).take i) Hc) (Fl.start nD) (fun i Hc _ f => ⟨f.sub.seq hp, f.sub.seq hr'⟩) (fun i x Hc Hd hi f hy => ?_) (fun Hc f => ?_)
  · obtain ⟨T, x, y, rfl, nT, rfl, hx, hy⟩ := hy
    have hx : xs[i]? = some x := hx
    have hy : ys[i]? = some y := hy
    have ha : a[i]? = some a[i] := List.getElem?_eq_getElem hi
    have hb : b[i]? = some (b[i]'(by omega)) := List.getElem?_eq_getElem (by omega)
    have hab : (covC a b)[i]? = some (cover a[i] (b[i]'(by omega))) := by
      unfold covC
      rw [List.getElem?_zipWith, ha, hb]
    obtain ⟨x', hx', sx⟩ := hxs.at ha
    obtain ⟨y', hy', sy⟩ := hys.at hb
    cases Option.some.inj (hx'.symm.trans hx)
    cases Option.some.inj (hy'.symm.trans hy)
    generalize a[i] = ai at sx hab
    generalize b[i]'(by omega) = bi at sy hab
    have s4 := same_new (o := .tup [x, y]) nT
    refine g_gtup (sqt upd_same) rfl ?_
    walk_at "go"
    refine ⟨x, y, ai, bi, rfl, SpR.same (f.sub.trans s4) _ _ sx, SpR.same (f.sub.trans s4) _ _ sy, fun w2 H5 e5 hw => ?_⟩
    have tk : (covC a b).take (i + 1) = (covC a b).take i ++ [cover ai bi] := by rw [List.take_succ, hab]; rfl
    rw [tk]
    exact f.step SpR.same (s4.trans e5) (fun zs hz => SpR.er hz hw) (by rw [List.length_take]; omega)
  · obtain ⟨zs, hD, hzs, e⟩ := f.fin SpR.same
    have lc : (covC a b).length = a.length := covC_len rfl lb.symm
    rw [List.take_of_length_le (by omega)] at hzs
    walk_at "go"
    exact q _ Hc e ⟨D, zs, rfl, nD, sql hD, hzs⟩
abbrev s__nothing : Stmt := topS 24
theorem sc__nothing : FnScope ["rows", "_"] ["rows"] (defScope s__nothing) := ⟨rfl, rfl, rfl, by decide +kernel, rfl, by decide +kernel, by decide +kernel⟩
theorem h__nothing {k : Nat} {f : Addr} {fd : FuncData} (O : Own K mg "_nothing" s__nothing ["rows"] f fd)  {d_NOTHING : Addr} (F_NOTHING : PairC K mg "NOTHING" 0 0 d_NOTHING) : Has P w K mg base "_nothing" ["rows"] (k + 1) CX0 (spNothing K) f fd := by
  refine O.has (O.F.ok sc__nothing (fun vs H Q E h => ?_) (fun cdv A outer s H vs Q E hr h => ?_))
  · obtain ⟨l, xs, rfl, _⟩ := h
    rfl
  obtain ⟨l, xs, rfl, hl, lx, q⟩ := h
  refine ⟨_, (pss_one (ps_ret (pe_lc (own := [("_", 1)]) (g := gName 1) rfl sc__nothing.nd (pi_list (pv 0)) (blkOk_by (own := [("_", 1)]) (N := ["rows", "_"]) (sc := defScope s__nothing) (by decide +kernel)) (fun _ _ _ _ _ => pg_name (i := 1) sc__nothing.nd rfl (.inl rfl)) (fun _ _ _ _ _ => pts_nil) (fun _ _ _ _ _ => (pe_glob (v := .ref d_NOTHING) (by rfl) F_NOTHING.g rfl))))), ?_⟩
  walk_at "go"
  refine ⟨⟨_, hl⟩, fun D nD => lc_list (xs := xs) (fun i Hc => Fl (SpR K) H D (noth i) Hc) (Fl.start nD) (fun i Hc _ f => f.sub.seq hl) (fun i x Hc hx f => ?_) (fun Hc f => ?_)⟩
  · have hi := (List.getElem?_eq_some_iff.mp hx).1
    walk_at "go"
    have e : noth (i + 1) = noth i ++ [(0, 0)] := by unfold noth; rw [List.replicate_succ']
    rw [e]
    exact f.step SpR.same (.refl _) (fun zs hz => ⟨d_NOTHING, rfl, F_NOTHING.sq _⟩) (by rw [noth_len]; omega)
  · obtain ⟨zs, hD, hzs, e⟩ := f.fin SpR.same
    walk_at "go"
    exact q _ Hc e ⟨D, zs, rfl, nD, hD, hzs⟩
abbrev s__chosen : Stmt := topS 27
theorem sc__chosen : FnScope ["can", "one", "other", "can_hold", "can_fail"] ["can", "one", "other"] (defScope s__chosen) := ⟨rfl, rfl, rfl, by decide +kernel, rfl, by decide +kernel, by decide +kernel⟩
theorem h__chosen {k : Nat} {f : Addr} {fd : FuncData} (O : Own K mg "_chosen" s__chosen ["can", "one", "other"] f fd)  {f__covering : Addr} {fd__covering : FuncData} (D__covering : Has P w K mg base "_covering" ["one", "other"] k CX0 (spCovering K) f__covering fd__covering) : Has P w K mg base "_chosen" ["can", "one", "other"] (k + 1) CX0 (spChosen K) f fd := by
  refine O.has (O.F.ok sc__chosen (fun vs H Q E h => ?_) (fun cdv A outer s H vs Q E hr h => ?_))
  · obtain ⟨x, v, u, can, a, b, H0, rfl, _⟩ := h
    rfl
  obtain ⟨x, v, u, ⟨c1, c2⟩, a, b, H0, rfl, ⟨p, rfl, hp⟩, ha, hb, la, lb, q0, q1⟩ := h
  refine ⟨_, (pss_cons (ps_asg (pv 0) (pg_tup rfl (pgs_cons (pg_name (i := 3) sc__chosen.nd rfl (.inl rfl)) (pgs_cons (pg_name (i := 4) sc__chosen.nd rfl (.inl rfl)) pgs_nil)))) (pss_cons (ps_if (PW.pt (pw_and (pt_val (pv 3)) (pw_and1 (pt_val (pv 4))))) (pss_one (ps_ret (pe_call D__covering.G hr (by rfl) D__covering.g D__covering.k D__covering.b .nil pass0 (pa_cons (pv 1) (pa_cons (pv 2) pa_nil))))) pss_nil) (pss_one (ps_ret (pe_ifExp (pt_val (pv 3)) (pv 1) (pv 2)))))), ?_⟩
  walk_at "go"
  refine g_gtup hp rfl ?_
  walk_at "go"
  cases c1
  · refine iteF ?_
    walk_at "go"
    exact q1 rfl
  · refine iteT ?_
    walk_at "go"
    cases c2
    · refine iteF ?_
      walk_at "go"
      exact q1 rfl
    · refine iteT ?_
      walk_at "go"
      exact ⟨v, u, a, b, H0, rfl, ha, hb, la, lb, fun w H' e h => q0 rfl w H' e h⟩
end

/-! ### sums of courses; spans of numbers; what conditions can do -/
/-- a row of spans -/
def RwR (H : Hp) (xs : List Str) (K : PySem.W.Frag) (R : Str → S2) (r : Addr) : Prop := ∃ kvs, H r = some (.dK kvs) ∧ ∀ x ∈ xs, ∃ p, valV kvs (.inr x) = some (.ref p) ∧ SqT K H p [.int (R x).1, .int (R x).2]
theorem RwR.same {K : PySem.W.Frag} {H H' : Hp} {xs : List Str} {R : Str → S2} {r : Addr} (e : Same H H') (h : RwR H xs K R r) : RwR H' xs K R r := by
  obtain ⟨kvs, h1, h2⟩ := h
  exact ⟨kvs, e _ _ h1, fun x hx => let ⟨p, a, b⟩ := h2 x hx; ⟨p, a, SqT.same e b⟩⟩
def RowB (R : Str → S2) : Prop := ∀ x, (R x).1.natAbs < 2 ^ 44 ∧ (R x).2.natAbs < 2 ^ 44
theorem o4_bits {o : Op} {a b : S2} {n : Nat} (h0 : 0 < n) (a1 : a.1.natAbs < 2 ^ n) (a2 : a.2.natAbs < 2 ^ n) (b1 : b.1.natAbs < 2 ^ n) (b2 : b.2.natAbs < 2 ^ n) : ∀ y ∈ o4 o a b, y.natAbs < 2 ^ (n + n) := fun y hy => by
  unfold o4 at hy
  simp only [List.mem_cons, List.not_mem_nil, or_false] at hy
  rcases hy with rfl | rfl | rfl | rfl
  · exact app_bits h0 a1 b1
  · exact app_bits h0 a1 b2
  · exact app_bits h0 a2 b1
  · exact app_bits h0 a2 b2
theorem span_bits {xs : List Str} {R : Str → S2} (h : RowB R) : ∀ {t : Num} {d : Nat}, t.In xs → t.deep ≤ d → (t.span R).1.natAbs < 2 ^ (44 * 2 ^ d) ∧ (t.span R).2.natAbs < 2 ^ (44 * 2 ^ d)
  | .num n, d, i, _ => by
    have : 44 * 2 ^ 0 ≤ 44 * 2 ^ d := Nat.mul_le_mul (Nat.le_refl _) (Nat.pow_le_pow_right (by decide) (Nat.zero_le d))
    have h1 : 2 ^ 44 ≤ 2 ^ (44 * 2 ^ d) := Nat.pow_le_pow_right (by decide) this
    have i : -1000000000000 < n ∧ n < 1000000000000 := i
    show n.natAbs < _ ∧ n.natAbs < _
    omega
  | .read x, d, i, _ => by
    have : 44 * 2 ^ 0 ≤ 44 * 2 ^ d := Nat.mul_le_mul (Nat.le_refl _) (Nat.pow_le_pow_right (by decide) (Nat.zero_le d))
    have h1 : 2 ^ 44 ≤ 2 ^ (44 * 2 ^ d) := Nat.pow_le_pow_right (by decide) this
    exact ⟨Nat.lt_of_lt_of_le (h x).1 h1, Nat.lt_of_lt_of_le (h x).2 h1⟩
  | .bin o a b, 0, i, p => absurd p (by show ¬ max a.deep b.deep + 1 ≤ 0; omega)
  | .bin o a b, d + 1, i, p => by
    have p : max a.deep b.deep + 1 ≤ d + 1 := p
    obtain ⟨a1, a2⟩ := span_bits h i.1 (show a.deep ≤ d by omega)
    obtain ⟨b1, b2⟩ := span_bits h i.2 (show b.deep ≤ d by omega)
    have q := o4_bits (o := o) (n := 44 * 2 ^ d) (Nat.mul_pos (by decide) (Nat.pow_pos (by decide))) a1 a2 b1 b2
    have e : 44 * 2 ^ d + 44 * 2 ^ d = 44 * 2 ^ (d + 1) := by rw [Nat.pow_succ]; omega
    rw [e] at q
    exact ⟨q _ (mn_is (by simp [o4])).1, q _ (mx_is (by simp [o4])).1⟩
theorem span_mul {xs : List Str} {R : Str → S2} (h : RowB R) {a b : Num} {d : Nat} (ia : a.In xs) (ib : b.In xs) (pa : a.deep ≤ d) (pb : b.deep ≤ d) (hd : d ≤ 12) :
    CMulW (a.span R).1 (b.span R).1 ∧ CMulW (a.span R).1 (b.span R).2 ∧ CMulW (a.span R).2 (b.span R).1 ∧ CMulW (a.span R).2 (b.span R).2 := by
  have z : 0 < 44 * 2 ^ d := Nat.mul_pos (by decide) (Nat.pow_pos (by decide))
  have y : 44 * 2 ^ d ≤ 44 * 2 ^ 12 := Nat.mul_le_mul (Nat.le_refl _) (Nat.pow_le_pow_right (by decide) hd)
  obtain ⟨a1, a2⟩ := span_bits h ia pa
  obtain ⟨b1, b2⟩ := span_bits h ib pb
  exact ⟨wide_mul a1 b1 z z (by omega), wide_mul a1 b2 z z (by omega), wide_mul a2 b1 z z (by omega), wide_mul a2 b2 z z (by omega)⟩
theorem g_par {i j : Nat} {ta : TA} {D : Ends} {σ : L2.St} {H : Hp} (h : ta σ H fun vs H1 => ∃ v w, vs = [v, w] ∧ D.nx ((σ.set i (some v)).set j (some w)) H1) : tPar i j ta D σ H := h
def spSpan (K : PySem.W.Frag) (n : Nat) : Sp := fun vs H Q _ => ∃ (v : V) (r : Addr) (t : Num) (xs : List Str) (R : Str → S2), vs = [v, .ref r] ∧ DN K H t v ∧ RwR H xs K R r ∧ RowB R ∧ t.In xs ∧ t.deep < n ∧ t.deep ≤ 12 ∧ ∀ w H', Same H H' → SpR K H' (t.span R) w → Q w H'
theorem use_span {K : PySem.W.Frag} {n : Nat} {v : V} {r : Addr} {t : Num} {xs : List Str} {R : Str → S2} {H : Hp} {Q : VK} {E : XK} (h1 : DN K H t v) (h2 : RwR H xs K R r) (h3 : RowB R) (h4 : t.In xs) (h5 : t.deep < n) (h6 : t.deep ≤ 12)
    (q : ∀ w H', Same H H' → SpR K H' (t.span R) w → Q w H') : spSpan K n ([v, .ref r] ++ []) H Q E := ⟨v, r, t, xs, R, rfl, h1, h2, h3, h4, h5, h6, q⟩
theorem none_span {P : Program} {w : World} {K : PySem.W.Frag} {mg : Str → Option Value} {base : Heap} {f : Addr} {fd : FuncData} {ps : List Str} : FnOk P w K mg base CX0 0 f fd ps (spSpan K 0) := by
  have no : ∀ vs H Q E, ¬ spSpan K 0 vs H Q E := fun vs H Q E h => by
    obtain ⟨v, r, t, xs, R, _, _, _, _, _, h5, _⟩ := h
    exact absurd h5 (Nat.not_lt_zero _)
  exact ⟨fun vs H Q E h => absurd h (no vs H Q E), fun A outer s H args us vs Q E _ _ _ _ h => absurd h (no vs H Q E)⟩
def spCan (K : PySem.W.Frag) (n : Nat) : Sp := fun vs H Q _ => ∃ (v : V) (r : Addr) (t : Cond) (xs : List Str) (R : Str → S2), vs = [v, .ref r] ∧ DC K H t v ∧ RwR H xs K R r ∧ RowB R ∧ t.In xs 1 ∧ t.deep < n ∧ ∀ w H', Same H H' → BpR K H' (t.can R) w → Q w H'
theorem use_can {K : PySem.W.Frag} {n : Nat} {v : V} {r : Addr} {t : Cond} {xs : List Str} {R : Str → S2} {H : Hp} {Q : VK} {E : XK} (h1 : DC K H t v) (h2 : RwR H xs K R r) (h3 : RowB R) (h4 : t.In xs 1) (h5 : t.deep < n)
    (q : ∀ w H', Same H H' → BpR K H' (t.can R) w → Q w H') : spCan K n ([v, .ref r] ++ []) H Q E := ⟨v, r, t, xs, R, rfl, h1, h2, h3, h4, h5, q⟩
theorem none_can {P : Program} {w : World} {K : PySem.W.Frag} {mg : Str → Option Value} {base : Heap} {f : Addr} {fd : FuncData} {ps : List Str} : FnOk P w K mg base CX0 0 f fd ps (spCan K 0) := by
  have no : ∀ vs H Q E, ¬ spCan K 0 vs H Q E := fun vs H Q E h => by
    obtain ⟨v, r, t, xs, R, _, _, _, _, _, h5, _⟩ := h
    exact absurd h5 (Nat.not_lt_zero _)
  exact ⟨fun vs H Q E h => absurd h (no vs H Q E), fun A outer s H args us vs Q E _ _ _ _ h => absurd h (no vs H Q E)⟩
section
variable {P : Program} {w : World} {K : PySem.W.Frag} {mg : Str → Option Value} {base : Heap}
abbrev s__summed : Stmt := topS 30
theorem sc__summed : FnScope ["courses", "rows", "hour", "course"] ["courses", "rows"] (defScope s__summed) := ⟨rfl, rfl, rfl, by decide +kernel, rfl, by decide +kernel, by decide +kernel⟩
theorem h__summed {k : Nat} {f : Addr} {fd : FuncData} (O : Own K mg "_summed" s__summed ["courses", "rows"] f fd)  (m_range : mg "range" = none) (m_len : mg "len" = none) (m_sum : mg "sum" = none) : Has P w K mg base "_summed" ["courses", "rows"] (k + 1) CX0 (spSummed K) f fd := by
  refine O.has (O.F.ok sc__summed (fun vs H Q E h => ?_) (fun cdv A outer s H vs Q E hr h => ?_))
  · obtain ⟨l, r, us, xs, cs, H0, rfl, _⟩ := h
    rfl
  obtain ⟨l, r, us, xs, cs, H0, rfl, hl, hcs, hx, lx, lc, al, q⟩ := h
  refine ⟨_, (pss_one (ps_ret (pe_lc (own := [("hour", 2)]) (g := gName 2) rfl sc__summed.nd (pi_range1 (by rfl) m_range (pa_cons (pe_callB call_len_seq (by rfl) m_len (by decide +kernel) (pa_cons (pv 1) pa_nil)) pa_nil)) (blkOk_by (own := [("hour", 2)]) (N := ["courses", "rows", "hour", "course"]) (sc := defScope s__summed) (by decide +kernel)) (fun _ _ _ _ _ => pg_name (i := 2) sc__summed.nd rfl (.inr rfl)) (fun _ _ _ _ _ => pts_nil) (fun _ _ _ _ _ => (pe_tup (pa_cons (pe_callB (cr_sumK (K := K) rfl rfl) (by rfl) m_sum (by decide +kernel) (pa_cons (pe_lc (own := [("course", 3)]) (g := gName 3) rfl sc__summed.nd (pi_listK (K := K) rfl (pv 0)) (blkOk_by (own := [("course", 3)]) (N := ["courses", "rows", "hour", "course"]) (sc := { kind := ScopeKind.function, names := [(".0", NameKind.local), ("hour", NameKind.cell), ("sum", NameKind.globalImplicit), ("courses", NameKind.cell)], isGenerator := false, isCoroutine := false }) (by decide +kernel)) (fun _ _ _ _ _ => pg_name (i := 3) sc__summed.nd rfl (.inl rfl)) (fun _ _ _ _ _ => pts_nil) (fun _ _ _ _ _ => (pe_ix (r := rIxT K) ix_tup (pe_ix (r := rIxL K) ix_list (pv 3) (pv 2) (fun _ _ => rfl)) pe_int (fun _ _ => rfl)))) pa_nil)) (pa_cons (pe_callB (cr_sumK (K := K) rfl rfl) (by rfl) m_sum (by decide +kernel) (pa_cons (pe_lc (own := [("course", 3)]) (g := gName 3) rfl sc__summed.nd (pi_listK (K := K) rfl (pv 0)) (blkOk_by (own := [("course", 3)]) (N := ["courses", "rows", "hour", "course"]) (sc := { kind := ScopeKind.function, names := [(".0", NameKind.local), ("hour", NameKind.cell), ("sum", NameKind.globalImplicit), ("courses", NameKind.cell)], isGenerator := false, isCoroutine := false }) (by decide +kernel)) (fun _ _ _ _ _ => pg_name (i := 3) sc__summed.nd rfl (.inl rfl)) (fun _ _ _ _ _ => pts_nil) (fun _ _ _ _ _ => (pe_ix (r := rIxT K) ix_tup (pe_ix (r := rIxL K) ix_list (pv 3) (pv 2) (fun _ _ => rfl)) pe_int (fun _ _ => rfl)))) pa_nil)) pa_nil))))))), ?_⟩
  have lu := hcs.len
  walk_at "go"
  refine ⟨_, _, rfl, .inl hx, ?_⟩
  walk_at "go"
  refine ⟨by omega, by omega, fun D nD => lc_range (lo := 0) (n := xs.length) (fun i Hc => Fl (SpR K) H D ((List.range i).map fun k => ((cs.map fun c => (at2 c k).1).sum, (cs.map fun c => (at2 c k).2).sum)) Hc) (Fl.start nD) (fun i Hc hi f => ?_) (fun Hc f => ?_)⟩
  · walk_at "go"
    refine ⟨⟨_, f.sub.seq hl⟩, fun D2 nD2 => lc_list (xs := us) (fun j Hd => Hd D2 = some (.lst (((cs.take j).map fun c => (at2 c i).1).map V.int)) ∧ Same Hc Hd) ⟨upd_same, same_new nD2⟩ (fun j Hd _ hW => (f.sub.trans hW.2).seq hl) (fun j x Hd hx2 hW => ?_) (fun Hd hW => ?_)⟩
    · obtain ⟨hD2, e⟩ := hW
      have hj : j < cs.length := by have := (List.getElem?_eq_some_iff.mp hx2).1; omega
      have hcj : cs[j]? = some cs[j] := List.getElem?_eq_getElem hj
      obtain ⟨x', hx', p, vs, rfl, _, hp, hvs⟩ := hcs.at hcj
      cases Option.some.inj (hx'.symm.trans hx2)
      obtain ⟨t, ht, st⟩ := CrN.at2 hvs (k := i) (by rw [al _ (List.getElem_mem hj)]; omega)
      have tk := take_map_snoc (f := fun c : Crs => (at2 c i).1) hcj
      walk_at "go"
      refine ⟨_, _, _, _, rfl, rfl, (f.sub.trans e).seq hp, at_any (j := i) (by omega) ht, ?_⟩
      walk_at "go"
      refine ⟨_, _, _, _, rfl, rfl, SqT.same (f.sub.trans e) st, at_any (j := 0) rfl rfl, ?_⟩
      refine ⟨_, hD2, by rw [List.length_map, List.length_map, List.length_take]; exact small1000 (by omega), ?_, fun b o h => by rw [upd_ne (ne_of_none h nD2)]; exact e _ _ h⟩
      rw [upd_same, tk, List.map_append]
      rfl
    obtain ⟨hD2, e⟩ := hW
    rw [show cs.take us.length = cs from List.take_of_length_le (by omega)] at hD2
    walk_at "go"
    refine ⟨D2, _, rfl, sql hD2, ?_⟩
    walk_at "go"
    refine ⟨⟨_, (f.sub.trans e).seq hl⟩, fun D3 nD3 => lc_list (xs := us) (fun j He => He D3 = some (.lst (((cs.take j).map fun c => (at2 c i).2).map V.int)) ∧ Same Hd He) ⟨upd_same, same_new nD3⟩ (fun j He _ hW => ((f.sub.trans e).trans hW.2).seq hl) (fun j x He hx2 hW => ?_) (fun He hW => ?_)⟩
    · obtain ⟨hD3, e2⟩ := hW
      have hj : j < cs.length := by have := (List.getElem?_eq_some_iff.mp hx2).1; omega
      have hcj : cs[j]? = some cs[j] := List.getElem?_eq_getElem hj
      obtain ⟨x', hx', p, vs, rfl, _, hp, hvs⟩ := hcs.at hcj
      cases Option.some.inj (hx'.symm.trans hx2)
      obtain ⟨t, ht, st⟩ := CrN.at2 hvs (k := i) (by rw [al _ (List.getElem_mem hj)]; omega)
      have tk := take_map_snoc (f := fun c : Crs => (at2 c i).2) hcj
      have ee := (f.sub.trans e).trans e2
      walk_at "go"
      refine ⟨_, _, _, _, rfl, rfl, ee.seq hp, at_any (j := i) (by omega) ht, ?_⟩
      walk_at "go"
      refine ⟨_, _, _, _, rfl, rfl, SqT.same ee st, at_any (j := 1) rfl rfl, ?_⟩
      refine ⟨_, hD3, by rw [List.length_map, List.length_map, List.length_take]; exact small1000 (by omega), ?_, fun b o h => by rw [upd_ne (ne_of_none h nD3)]; exact e2 _ _ h⟩
      rw [upd_same, tk, List.map_append]
      rfl
    obtain ⟨hD3, e2⟩ := hW
    rw [show cs.take us.length = cs from List.take_of_length_le (by omega)] at hD3
    walk_at "go"
    refine ⟨D3, _, rfl, sql hD3, ?_⟩
    walk_at "go"
    refine ⟨by show 2 ≤ sizeLine; decide, fun t nt => ?_⟩
    have s4 := same_new (o := .tup [.int ((cs.map fun c => (at2 c i).1).sum), .int ((cs.map fun c => (at2 c i).2).sum)]) nt
    rw [range_snoc]
    exact f.step SpR.same ((e.trans e2).trans s4) (fun zs hz => SpR.er hz ⟨t, rfl, sqt upd_same⟩) (by rw [List.length_map, List.length_range]; omega)
  · obtain ⟨zs, hD, hzs, e⟩ := f.fin SpR.same
    walk_at "go"
    exact q _ Hc e ⟨D, zs, rfl, nD, sql hD, hzs⟩
abbrev s__span_of : Stmt := topS 34
theorem sc__span_of : FnScope ["told", "row", "word", "one", "other", "ends", "first", "second"] ["told", "row"] (defScope s__span_of) := ⟨rfl, rfl, rfl, by decide +kernel, rfl, by decide +kernel, by decide +kernel⟩
theorem h__span_of {n : Nat} {k : Nat} {f : Addr} {fd : FuncData} (O : Own K mg "_span_of" s__span_of ["told", "row"] f fd)  {f_reckoned : Addr} {fd_reckoned : FuncData} (D_reckoned : Has P w K mg base "reckoned" ["word", "first", "second"] k CX0 spReck f_reckoned fd_reckoned) {f__span_of : Addr} {fd__span_of : FuncData} (D__span_of : Has P w K mg base "_span_of" ["told", "row"] k CX0 (spSpan K n) f__span_of fd__span_of) (m_max : mg "max" = none) (m_min : mg "min" = none) : Has P w K mg base "_span_of" ["told", "row"] (k + 1) CX0 (spSpan K (n + 1)) f fd := by
  refine O.has (O.F.ok sc__span_of (fun vs H Q E h => ?_) (fun cdv A outer s H vs Q E hr h => ?_))
  · obtain ⟨v, r, t, xs, R, rfl, _⟩ := h
    rfl
  obtain ⟨v, r, t, xs, R, rfl, hd, hr', hb, hi, hn, h12, q⟩ := h
  refine ⟨_, (pss_cons (ps_set (i := 2) sc__span_of.nd rfl (.inr rfl) (pe_ix ix_tup (pv 0) pe_int (fun _ _ => rfl))) (pss_cons (ps_if (pt_cmpR op_eq (pv 2) pe_str (nomark _)) (pss_one (ps_ret (pe_tup (pa_cons (pe_ix ix_tup (pv 0) pe_int (fun _ _ => rfl)) (pa_cons (pe_ix ix_tup (pv 0) pe_int (fun _ _ => rfl)) pa_nil))))) pss_nil) (pss_cons (ps_if (pt_cmpR op_eq (pv 2) pe_str (nomark _)) (pss_one (ps_ret (pe_dget (hu_of hr) (pv 1) (pe_ix ix_tup (pv 0) pe_int (fun _ _ => rfl)) (fun _ _ => rfl)))) pss_nil) (pss_cons (ps_asg (pe_tup (pa_cons (pe_call D__span_of.G hr (by rfl) D__span_of.g D__span_of.k D__span_of.b .nil pass0 (pa_cons (pe_ix ix_tup (pv 0) pe_int (fun _ _ => rfl)) (pa_cons (pv 1) pa_nil))) (pa_cons (pe_call D__span_of.G hr (by rfl) D__span_of.g D__span_of.k D__span_of.b .nil pass0 (pa_cons (pe_ix ix_tup (pv 0) pe_int (fun _ _ => rfl)) (pa_cons (pv 1) pa_nil))) pa_nil))) (pg_tup rfl (pgs_cons (pg_name (i := 3) sc__span_of.nd rfl (.inl rfl)) (pgs_cons (pg_name (i := 4) sc__span_of.nd rfl (.inr rfl)) pgs_nil)))) (pss_cons (ps_setLc2 (i := 5) (own := [("first", 6), ("second", 7)]) (vs1 := [7]) (g := gName 6) (g1 := gName 7) rfl sc__span_of.nd rfl rfl (sw_true rfl rfl rfl (by decide +kernel)) (pi_tup (pv 3)) (blkOk_by (own := [("first", 6), ("second", 7)]) (N := ["told", "row", "word", "one", "other", "ends", "first", "second"]) (sc := defScope s__span_of) (by decide +kernel)) (by decide) (fun _ _ _ _ _ => pg_name (i := 6) sc__span_of.nd rfl (.inl rfl)) (fun _ _ _ _ _ => pts_nil) (fun _ _ _ _ _ => (pi_tupK (K := K) rfl (pv 4))) (fun _ _ _ _ _ => pg_name (i := 7) sc__span_of.nd rfl (.inl rfl)) (fun _ _ _ _ _ => pts_nil) (fun _ _ _ _ _ => (pe_call D_reckoned.G hr (by rfl) D_reckoned.g D_reckoned.k D_reckoned.b .nil pass0 (pa_cons (pv 2) (pa_cons (pv 6) (pa_cons (pv 7) pa_nil)))))) (pss_one (ps_ret (pe_tup (pa_cons (pe_callB (cr_min rfl) (by rfl) m_min (by decide +kernel) (pa_cons (pv 5) pa_nil)) (pa_cons (pe_callB (cr_max rfl) (by rfl) m_max (by decide +kernel) (pa_cons (pv 5) pa_nil)) pa_nil)))))))))), ?_⟩
  cases t with
  | num k =>
    obtain ⟨a, rfl, ha⟩ := hd
    walk_at "go"
    refine ⟨_, _, _, _, rfl, rfl, ha, at_any (j := 0) rfl rfl, ?_⟩
    walk_at "go"
    refine ifd (fun c => ?_) (fun c => absurd rfl c)
    walk_at "go"
    refine ⟨_, _, _, _, rfl, rfl, ha, at_any (j := 1) rfl rfl, ?_⟩
    walk_at "go"
    refine ⟨_, _, _, _, rfl, rfl, ha, at_any (j := 1) rfl rfl, ?_⟩
    walk_at "go"
    refine ⟨by show 2 ≤ sizeLine; decide, fun t nt => ?_⟩
    exact q _ _ (same_new nt) ⟨t, rfl, sqt upd_same⟩
  | read x =>
    obtain ⟨a, rfl, ha⟩ := hd
    obtain ⟨kvs, hk, hx⟩ := hr'
    obtain ⟨p, hp, sp⟩ := hx x hi
    walk_at "go"
    refine ⟨_, _, _, _, rfl, rfl, ha, at_any (j := 0) rfl rfl, ?_⟩
    walk_at "go"
    refine ifd (fun c => absurd c (by decide)) (fun c => ?_)
    walk_at "go"
    refine ifd (fun c => ?_) (fun c => absurd rfl c)
    walk_at "go"
    refine ⟨_, _, _, _, rfl, rfl, ha, at_any (j := 1) rfl rfl, ?_⟩
    walk_at "go"
    refine g_key hk hp ?_
    walk_at "go"
    exact q _ _ (Same.refl _) ⟨p, rfl, sp⟩
  | bin o a b =>
    obtain ⟨c, u, z, rfl, hc, du, dz⟩ := hd
    have hn : max a.deep b.deep + 1 < n + 1 := hn
    have h12 : max a.deep b.deep + 1 ≤ 12 := h12
    have wn : ¬ o.word = "num" := by cases o <;> decide
    have wr : ¬ o.word = "read" := by cases o <;> decide
    walk_at "go"
    refine ⟨_, _, _, _, rfl, rfl, hc, at_any (j := 0) rfl rfl, ?_⟩
    walk_at "go"
    refine ifd (fun c => absurd c wn) (fun _ => ?_)
    walk_at "go"
    refine ifd (fun c => absurd c wr) (fun _ => ?_)
    walk_at "go"
    refine ⟨_, _, _, _, rfl, rfl, hc, at_any (j := 1) rfl rfl, ?_⟩
    walk_at "go"
    refine use_span du hr' hb hi.1 (by omega) (by omega) fun w1 H1 e1 s1 => ?_
    walk_at "go"
    refine ⟨_, _, _, _, rfl, rfl, SqT.same e1 hc, at_any (j := 2) rfl rfl, ?_⟩
    walk_at "go"
    refine use_span (DN.tm (.of e1) dz) (hr'.same e1) hb hi.2 (by omega) (by omega) fun w2 H2 e2 s2 => ?_
    obtain ⟨p1, rfl, s1⟩ := s1
    obtain ⟨p2, rfl, s2⟩ := s2
    have s1 := SqT.same e2 s1
    obtain ⟨m11, m12, m21, m22⟩ := span_mul (d := 11) hb hi.1 hi.2 (by omega) (by omega) (by decide)
    generalize ha : a.span R = sa at s1 m11 m12 m21 m22
    generalize hbb : b.span R = sb at s2 m11 m12 m21 m22
    walk_at "go"
    refine ⟨by show 2 ≤ sizeLine; decide, fun T nT => ?_⟩
    have eT := same_new (o := .tup [V.ref p1, V.ref p2]) nT
    refine g_gtup (sqt upd_same) rfl ?_
    replace s1 := SqT.same eT s1
    replace s2 := SqT.same eT s2
    have e0 := (e1.trans e2).trans eT
    generalize upd H2 T (.tup [V.ref p1, V.ref p2]) = H3 at s1 s2 e0 ⊢
    walk_at "go"
    refine g_lc2 ?_
    walk_at "go"
    refine ⟨⟨_, s1⟩, fun D nD => ?_⟩
    refine lc2_it (walk_tup (xs := [V.int sa.1, V.int sa.2])) (fun c Hc => Hc D = some (.lst (((o4 o sa sb).take (2 * c)).map V.int)) ∧ Same H3 Hc) ⟨upd_same, same_new nD⟩ (fun c Hc _ hC => SqT.same hC.2 s1) (fun c x Hc Hc' hc hC hy => ?_) (fun Hc hC => ?_)
    · obtain ⟨hD, eC⟩ := hC
      obtain ⟨rfl, hx⟩ := hy
      have hc : c < 2 := hc
      obtain ⟨i, rfl, mi1, mi2, t1, t2⟩ : ∃ i, x = V.int i ∧ CMulW i sb.1 ∧ CMulW i sb.2 ∧ (o4 o sa sb).take (2 * c + 1) = (o4 o sa sb).take (2 * c) ++ [o.app i sb.1] ∧ (o4 o sa sb).take (2 * c + 2) = (o4 o sa sb).take (2 * c + 1) ++ [o.app i sb.2] := by
        have : c = 0 ∨ c = 1 := by omega
        rcases this with rfl | rfl
        · cases Option.some.inj hx
          exact ⟨_, rfl, m11, m12, rfl, rfl⟩
        · cases Option.some.inj hx
          exact ⟨_, rfl, m21, m22, rfl, rfl⟩
      walk_at "go"
      refine ⟨⟨_, SqT.same eC s2⟩, ?_⟩
      refine lc2_in (walk_tup (xs := [V.int sb.1, V.int sb.2])) (fun d Hd => Hd D = some (.lst (((o4 o sa sb).take (2 * c + d)).map V.int)) ∧ Same H3 Hd) ⟨hD, eC⟩ (fun d Hd _ hV => SqT.same hV.2 s2) (fun d y Hd Hd' hd hV hy => ?_) (fun Hd hV => hV)
      obtain ⟨hD, eD⟩ := hV
      obtain ⟨rfl, hy⟩ := hy
      have hd : d < 2 := hd
      obtain ⟨j, rfl, mj, tj⟩ : ∃ j, y = V.int j ∧ CMulW i j ∧ (o4 o sa sb).take (2 * c + (d + 1)) = (o4 o sa sb).take (2 * c + d) ++ [o.app i j] := by
        have : d = 0 ∨ d = 1 := by omega
        rcases this with rfl | rfl
        · cases Option.some.inj hy
          exact ⟨_, rfl, mi1, t1⟩
        · cases Option.some.inj hy
          exact ⟨_, rfl, mi2, t2⟩
      walk_at "go"
      refine ⟨o, i, j, rfl, mj, ?_⟩
      refine ⟨_, hD, by rw [List.length_map, List.length_take]; exact small1000 (by unfold o4; simp; omega), ?_, fun b u h => by rw [upd_ne (ne_of_none h nD)]; exact eD _ _ h⟩
      rw [upd_same, tj, List.map_append]
      rfl
    · obtain ⟨hD, eC⟩ := hC
      have hD : Hc D = some (.lst ((o4 o sa sb).map V.int)) := hD
      walk_at "go"
      refine ⟨D, o4 o sa sb, rfl, sql hD, by unfold o4; simp, fun m m1 m2 => ?_⟩
      walk_at "go"
      refine ⟨D, o4 o sa sb, rfl, sql hD, by unfold o4; simp, fun m' m1' m2' => ?_⟩
      walk_at "go"
      refine ⟨by show 2 ≤ sizeLine; decide, fun t nt => ?_⟩
      refine q _ _ ((e0.trans eC).trans (same_new nt)) ⟨t, rfl, ?_⟩
      have ev : (Num.bin o a b).span R = (mn (o4 o sa sb), mx (o4 o sa sb)) := by
        show (mn (o4 o (a.span R) (b.span R)), mx (o4 o (a.span R) (b.span R))) = _
        rw [ha, hbb]
      rw [ev, ← mn_eq m1 m2, ← mx_eq m1' m2']
      exact sqt upd_same
abbrev s__can : Stmt := topS 33
theorem sc__can : FnScope ["asked", "row", "word", "one", "other", "can_hold", "can_fail", "other_holds", "other_fails"] ["asked", "row"] (defScope s__can) := ⟨rfl, rfl, rfl, by decide +kernel, rfl, by decide +kernel, by decide +kernel⟩
theorem h__can {n : Nat} {k : Nat} {f : Addr} {fd : FuncData} (O : Own K mg "_can" s__can ["asked", "row"] f fd)  {f__can : Addr} {fd__can : FuncData} (D__can : Has P w K mg base "_can" ["asked", "row"] k CX0 (spCan K n) f__can fd__can) {f__span_of : Addr} {fd__span_of : FuncData} (D__span_of : Has P w K mg base "_span_of" ["told", "row"] k CX0 (spSpan K 4) f__span_of fd__span_of) : Has P w K mg base "_can" ["asked", "row"] (k + 1) CX0 (spCan K (n + 1)) f fd := by
  refine O.has (O.F.ok sc__can (fun vs H Q E h => ?_) (fun cdv A outer s H vs Q E hr h => ?_))
  · obtain ⟨v, r, t, xs, R, rfl, _⟩ := h
    rfl
  obtain ⟨v, r, t, xs, R, rfl, hd, hr', hb, hi, hn, q⟩ := h
  refine ⟨_, (pss_cons (ps_set (i := 2) sc__can.nd rfl (.inl rfl) (pe_ix ix_tup (pv 0) pe_int (fun _ _ => rfl))) (pss_cons (ps_if (pt_cmpR op_eq (pv 2) pe_str (nomark _)) (pss_cons (ps_par (i := 3) (j := 4) (by rfl) sc__can.nd rfl rfl (by decide) rfl rfl (pa_cons (pe_call D__span_of.G hr (by rfl) D__span_of.g D__span_of.k D__span_of.b .nil pass0 (pa_cons (pe_ix ix_tup (pv 0) pe_int (fun _ _ => rfl)) (pa_cons (pv 1) pa_nil))) (pa_cons (pe_call D__span_of.G hr (by rfl) D__span_of.g D__span_of.k D__span_of.b .nil pass0 (pa_cons (pe_ix ix_tup (pv 0) pe_int (fun _ _ => rfl)) (pa_cons (pv 1) pa_nil))) pa_nil)) (by rfl)) (pss_one (ps_ret (pe_tup (pa_cons (pe_cmpR op_lt (pe_ix ix_tup (pv 3) pe_int (fun _ _ => rfl)) (pe_ix ix_tup (pv 4) pe_int (fun _ _ => rfl)) (nomark _)) (pa_cons (pe_cmpR op_ge (pe_ix ix_tup (pv 3) pe_int (fun _ _ => rfl)) (pe_ix ix_tup (pv 4) pe_int (fun _ _ => rfl)) (nomark _)) pa_nil)))))) pss_nil) (pss_cons (ps_asg (pe_call D__can.G hr (by rfl) D__can.g D__can.k D__can.b .nil pass0 (pa_cons (pe_ix ix_tup (pv 0) pe_int (fun _ _ => rfl)) (pa_cons (pv 1) pa_nil))) (pg_tup rfl (pgs_cons (pg_name (i := 5) sc__can.nd rfl (.inl rfl)) (pgs_cons (pg_name (i := 6) sc__can.nd rfl (.inl rfl)) pgs_nil)))) (pss_cons (ps_if (pt_cmpR op_eq (pv 2) pe_str (nomark _)) (pss_one (ps_ret (pe_tup (pa_cons (pv 6) (pa_cons (pv 5) pa_nil))))) pss_nil) (pss_cons (ps_asg (pe_call D__can.G hr (by rfl) D__can.g D__can.k D__can.b .nil pass0 (pa_cons (pe_ix ix_tup (pv 0) pe_int (fun _ _ => rfl)) (pa_cons (pv 1) pa_nil))) (pg_tup rfl (pgs_cons (pg_name (i := 7) sc__can.nd rfl (.inl rfl)) (pgs_cons (pg_name (i := 8) sc__can.nd rfl (.inl rfl)) pgs_nil)))) (pss_cons (ps_if (pt_cmpR op_eq (pv 2) pe_str (nomark _)) (pss_one (ps_ret (pe_tup (pa_cons (pe_and (pv 5) (pe_one (pv 7))) (pa_cons (pe_or (pv 6) (pe_one (pv 8))) pa_nil))))) pss_nil) (pss_one (ps_ret (pe_tup (pa_cons (pe_or (pv 5) (pe_one (pv 7))) (pa_cons (pe_and (pv 6) (pe_one (pv 8))) pa_nil))))))))))), ?_⟩
  cases t with
  | lt a b =>
    obtain ⟨c, u, z, rfl, hc, du, dz⟩ := hd
    obtain ⟨⟨ia, pa⟩, ib, pb⟩ := hi
    walk_at "go"
    refine ⟨_, _, _, _, rfl, rfl, hc, at_any (j := 0) rfl rfl, ?_⟩
    walk_at "go"
    refine ifd (fun c => ?_) (fun c => absurd rfl c)
    walk_at "go"
    refine g_par ?_
    walk_at "go"
    refine ⟨_, _, _, _, rfl, rfl, hc, at_any (j := 1) rfl rfl, ?_⟩
    walk_at "go"
    refine use_span du hr' hb ia (by omega) (by omega) fun w1 H1 e1 s1 => ?_
    walk_at "go"
    refine ⟨_, _, _, _, rfl, rfl, SqT.same e1 hc, at_any (j := 2) rfl rfl, ?_⟩
    walk_at "go"
    refine use_span (DN.tm (.of e1) dz) (hr'.same e1) hb ib (by omega) (by omega) fun w2 H2 e2 s2 => ?_
    obtain ⟨p1, rfl, s1⟩ := s1
    obtain ⟨p2, rfl, s2⟩ := s2
    have s1 := SqT.same e2 s1
    walk_at "go"
    refine ⟨_, _, _, _, rfl, rfl, s1, at_any (j := 0) rfl rfl, ?_⟩
    walk_at "go"
    refine ⟨_, _, _, _, rfl, rfl, s2, at_any (j := 1) rfl rfl, ?_⟩
    walk_at "go"
    refine ⟨_, _, _, _, rfl, rfl, s1, at_any (j := 1) rfl rfl, ?_⟩
    walk_at "go"
    refine ⟨_, _, _, _, rfl, rfl, s2, at_any (j := 0) rfl rfl, ?_⟩
    walk_at "go"
    refine ⟨by show 2 ≤ sizeLine; decide, fun t nt => ?_⟩
    exact q _ _ ((e1.trans e2).trans (same_new nt)) ⟨t, rfl, sqt upd_same⟩
  | neg a =>
    obtain ⟨c, u, rfl, hc, du⟩ := hd
    have hn : a.deep + 1 < n + 1 := hn
    walk_at "go"
    refine ⟨_, _, _, _, rfl, rfl, hc, at_any (j := 0) rfl rfl, ?_⟩
    walk_at "go"
    refine ifd (fun c => absurd c (by decide)) (fun c => ?_)
    walk_at "go"
    refine ⟨_, _, _, _, rfl, rfl, hc, at_any (j := 1) rfl rfl, ?_⟩
    walk_at "go"
    refine use_can du hr' hb hi (by omega) fun w1 H1 e1 s1 => ?_
    obtain ⟨p1, rfl, s1⟩ := s1
    refine g_gtup s1 rfl ?_
    walk_at "go"
    refine ifd (fun c => ?_) (fun c => absurd rfl c)
    walk_at "go"
    refine ⟨by show 2 ≤ sizeLine; decide, fun t nt => ?_⟩
    exact q _ _ (e1.trans (same_new nt)) ⟨t, rfl, sqt upd_same⟩
  | con a b =>
    obtain ⟨c, u, z, rfl, hc, du, dz⟩ := hd
    have hn : max a.deep b.deep + 1 < n + 1 := hn
    walk_at "go"
    refine ⟨_, _, _, _, rfl, rfl, hc, at_any (j := 0) rfl rfl, ?_⟩
    walk_at "go"
    refine ifd (fun c => absurd c (by decide)) (fun c => ?_)
    walk_at "go"
    refine ⟨_, _, _, _, rfl, rfl, hc, at_any (j := 1) rfl rfl, ?_⟩
    walk_at "go"
    refine use_can du hr' hb hi.1 (by omega) fun w1 H1 e1 s1 => ?_
    obtain ⟨p1, rfl, s1⟩ := s1
    refine g_gtup s1 rfl ?_
    walk_at "go"
    refine ifd (fun c => absurd c (by decide)) (fun c => ?_)
    walk_at "go"
    refine ⟨_, _, _, _, rfl, rfl, SqT.same e1 hc, at_any (j := 2) rfl rfl, ?_⟩
    walk_at "go"
    refine use_can (DC.tm (.of e1) dz) (hr'.same e1) hb hi.2 (by omega) fun w2 H2 e2 s2 => ?_
    obtain ⟨p2, rfl, s2⟩ := s2
    refine g_gtup s2 rfl ?_
    walk_at "go"
    refine ifd (fun c => ?_) (fun c => absurd rfl c)
    walk_at "go"
    have fin : ∀ b1 b2, b1 = ((Cond.con a b).can R).1 → b2 = ((Cond.con a b).can R).2 → ([V.bl b1, V.bl b2].length ≤ sizeLine ∧ ∀ p, H2 p = none → Q (.ref p) (upd H2 p (.tup [.bl b1, .bl b2]))) := fun b1 b2 h1 h2 => ⟨by show 2 ≤ sizeLine; decide, fun t nt => by
      subst h1 h2
      exact q _ _ ((e1.trans e2).trans (same_new nt)) ⟨t, rfl, sqt upd_same⟩⟩
    have e1' : ((Cond.con a b).can R).1 = ((a.can R).1 && (b.can R).1) := rfl
    have e2' : ((Cond.con a b).can R).2 = ((a.can R).2 || (b.can R).2) := rfl
    rw [e1', e2'] at fin
    generalize (a.can R).1 = x1 at fin ⊢
    generalize (a.can R).2 = x2 at fin ⊢
    generalize (b.can R).1 = y1 at fin ⊢
    generalize (b.can R).2 = y2 at fin ⊢
    cases x1 <;> cases x2 <;> (walk_at "go") <;> exact fin _ _ rfl rfl
  | dis a b =>
    obtain ⟨c, u, z, rfl, hc, du, dz⟩ := hd
    have hn : max a.deep b.deep + 1 < n + 1 := hn
    walk_at "go"
    refine ⟨_, _, _, _, rfl, rfl, hc, at_any (j := 0) rfl rfl, ?_⟩
    walk_at "go"
    refine ifd (fun c => absurd c (by decide)) (fun c => ?_)
    walk_at "go"
    refine ⟨_, _, _, _, rfl, rfl, hc, at_any (j := 1) rfl rfl, ?_⟩
    walk_at "go"
    refine use_can du hr' hb hi.1 (by omega) fun w1 H1 e1 s1 => ?_
    obtain ⟨p1, rfl, s1⟩ := s1
    refine g_gtup s1 rfl ?_
    walk_at "go"
    refine ifd (fun c => absurd c (by decide)) (fun c => ?_)
    walk_at "go"
    refine ⟨_, _, _, _, rfl, rfl, SqT.same e1 hc, at_any (j := 2) rfl rfl, ?_⟩
    walk_at "go"
    refine use_can (DC.tm (.of e1) dz) (hr'.same e1) hb hi.2 (by omega) fun w2 H2 e2 s2 => ?_
    obtain ⟨p2, rfl, s2⟩ := s2
    refine g_gtup s2 rfl ?_
    walk_at "go"
    refine ifd (fun c => absurd c (by decide)) (fun c => ?_)
    walk_at "go"
    have fin : ∀ b1 b2, b1 = ((Cond.dis a b).can R).1 → b2 = ((Cond.dis a b).can R).2 → ([V.bl b1, V.bl b2].length ≤ sizeLine ∧ ∀ p, H2 p = none → Q (.ref p) (upd H2 p (.tup [.bl b1, .bl b2]))) := fun b1 b2 h1 h2 => ⟨by show 2 ≤ sizeLine; decide, fun t nt => by
      subst h1 h2
      exact q _ _ ((e1.trans e2).trans (same_new nt)) ⟨t, rfl, sqt upd_same⟩⟩
    have e1' : ((Cond.dis a b).can R).1 = ((a.can R).1 || (b.can R).1) := rfl
    have e2' : ((Cond.dis a b).can R).2 = ((a.can R).2 && (b.can R).2) := rfl
    rw [e1', e2'] at fin
    generalize (a.can R).1 = x1 at fin ⊢
    generalize (a.can R).2 = x2 at fin ⊢
    generalize (b.can R).1 = y1 at fin ⊢
    generalize (b.can R).2 = y2 at fin ⊢
    cases x1 <;> cases x2 <;> (walk_at "go") <;> exact fin _ _ rfl rfl
end

/-! ### courses of gives, of what begins later, when, until -/
def RsR (H : Hp) (xs : List Str) (K : PySem.W.Frag) (n : Nat) (R : Nat → Str → S2) (as : List V) : Prop := as.length = n ∧ ∀ k < n, ∃ r, as[k]? = some (.ref r) ∧ RwR H xs K (R k) r
theorem RsR.same {K : PySem.W.Frag} {H H' : Hp} {xs : List Str} {n : Nat} {R : Nat → Str → S2} {as : List V} (e : Same H H') (h : RsR H xs K n R as) : RsR H' xs K n R as := ⟨h.1, fun k hk => let ⟨r, a, b⟩ := h.2 k hk; ⟨r, a, b.same e⟩⟩
theorem ixN_at {n j : Nat} {i : Int} (e : i = (j : Int)) (h : j < n) : ixN n i = some j := by
  unfold ixN
  rw [if_pos (by omega), if_pos (by omega), e]
  rfl
theorem All2.set {α β : Type} {Rel : α → β → Prop} {a : α} {b : β} (r : Rel a b) : ∀ {as : List α} {bs : List β} (i : Nat), All2 Rel as bs → All2 Rel (as.set i a) (bs.set i b)
  | [], [], _, _ => trivial
  | _ :: _, _ :: _, 0, h => ⟨r, h.2⟩
  | _ :: _, _ :: _, i + 1, h => ⟨h.1, All2.set r i h.2⟩
  | [], _ :: _, _, h => h.elim
  | _ :: _, [], _, h => h.elim
theorem g_sub {to ti : TE} {t : TSet} {v : V} {σ : L2.St} {H : Hp} {Q : L2.St → Hp → Prop} (h : to σ H fun o H1 => ti σ H1 fun i H2 => t o i v H2 fun H3 => Q σ H3) : gSub to ti t v σ H Q := h
theorem cut_take (xs : List V) (j : Nat) : cutV xs none (some (j : Int)) = xs.take j := by
  unfold cutV
  rw [HT.sIx_none, HT.sIx_nat, List.drop_zero, Nat.sub_zero]
  rcases Nat.le_total j xs.length with h | h
  · rw [Nat.min_eq_left h]
  · rw [Nat.min_eq_right h, List.take_length, List.take_of_length_le h]
theorem cut_drop (xs : List V) (j : Nat) : cutV xs (some (j : Int)) none = xs.drop j := by
  unfold cutV
  rw [HT.sIx_none, HT.sIx_nat]
  rcases Nat.le_total j xs.length with h | h
  · rw [Nat.min_eq_left h]
    exact List.take_of_length_le (by rw [List.length_drop]; exact Nat.le_refl _)
  · rw [Nat.min_eq_right h, List.drop_length, List.drop_of_length_le h]
    exact List.take_nil
theorem All2.take {α β : Type} {R : α → β → Prop} : ∀ {as : List α} {bs : List β} (n : Nat), All2 R as bs → All2 R (as.take n) (bs.take n)
  | _, _, 0, _ => trivial
  | [], [], _ + 1, _ => trivial
  | _ :: _, _ :: _, n + 1, h => ⟨h.1, All2.take n h.2⟩
  | [], _ :: _, _, h => h.elim
  | _ :: _, [], _, h => h.elim
theorem Fl.mono {α : Type} {Rel : Hp → α → V → Prop} (mono : ∀ {H H' : Hp}, Same H H' → ∀ a v, Rel H a v → Rel H' a v) {H0 H H' : Hp} {D : Addr} {as : List α} (f : Fl Rel H0 D as H) (e : Same H H') : Fl Rel H0 D as H' := by
  obtain ⟨⟨ys, hD, hys⟩, e0⟩ := f
  exact ⟨⟨ys, e _ _ hD, hys.mono (mono (er_same e))⟩, e0.trans (er_same e)⟩
theorem any_snoc (f : Nat → Bool) (b i : Nat) : ((List.range' b (i + 1)).map f).any id = (((List.range' b i).map f).any id || f (b + i)) := by
  rw [List.range'_concat, List.map_append, List.any_append]
  simp
theorem g_revR {tr : L2.St → Hp → (Int → Int → Hp → Prop) → Prop} {σ : L2.St} {H : Hp} {R : It → Hp → Prop} (h : tr σ H fun a b H1 => -(2 ^ 62) ≤ a ∧ a < 2 ^ 62 ∧ -(2 ^ 62) ≤ b ∧ b < 2 ^ 62 ∧ R (Itc (a + (((b - a).toNat : Nat) : Int) - 1) (-1) (b - a).toNat) H1) : iRevR tr σ H R := h
theorem g_trg1 {t : TE} {σ : L2.St} {H : Hp} {R : Int → Int → Hp → Prop} (h : t σ H fun v H1 => ∃ n, v = .int n ∧ R 0 n H1) : tRg1 t σ H R := h
theorem All2.reverse {α β : Type} {Rel : α → β → Prop} : ∀ {as : List α} {bs : List β}, All2 Rel as bs → All2 Rel as.reverse bs.reverse
  | [], [], _ => trivial
  | a :: as, b :: bs, h => by
    rw [List.reverse_cons, List.reverse_cons]
    exact All2.snoc (All2.reverse h.2) h.1
  | [], _ :: _, h => h.elim
  | _ :: _, [], h => h.elim
theorem rev_range {α : Type} {f : Nat → α} {n : Nat} : ((List.range n).map fun j => f (n - 1 - j)).reverse = (List.range n).map f := by
  refine List.ext_getElem (by simp) fun i h1 h2 => ?_
  rw [List.length_map, List.length_range] at h2
  rw [List.getElem_reverse, List.getElem_map, List.getElem_map, List.getElem_range, List.getElem_range]
  congr 1
  rw [List.length_map, List.length_range]
  omega
def spGiven (K : PySem.W.Frag) : Sp := fun vs H Q _ => ∃ (v : V) (l : Addr) (as : List V) (h n : Nat) (s gd a b g : Str) (o : Num) (xs : List Str) (R : Nat → Str → S2), vs = [v, .ref l, .int h, .str s, .str gd] ∧ DK K H (.give a b g o) v ∧ SqL K H l as ∧ RsR H xs K n R as ∧ h < n ∧ n ≤ 100 ∧ a ≠ b ∧ o.In xs ∧ o.deep ≤ 2 ∧ RowB (R h) ∧
  ∀ w H', Same H H' → CrN K H H' (cw n R gd (.give a b g o) s h) w → Q w H'
def repL (n : Nat) (hs : List Nat) (cs : List Crs) : List Crs := (List.range n).map fun b => sumC n ((hs.filter fun h => decide (b + h < n)).map fun h => cs.getD (b + h) [])
def spRep (K : PySem.W.Frag) : Sp := fun vs H Q _ => ∃ (t w g n : Nat) (l : Addr) (us : List V) (cs : List Crs) (H0 : Hp), vs = [.int t, .int w, .int g, .ref l] ∧ SqL K H l us ∧ All2 (CrN K H0 H) cs us ∧ cs.length = n ∧ n ≤ 100 ∧ (∀ c ∈ cs, c.length = n) ∧ t ≤ 9 ∧ w ≤ 99 ∧ g ≤ 99 ∧
  ∀ D ys H', Same H H' → H D = none → H' D = some (.lst ys) → All2 (CrN K H H') (repL n ((List.range t).map fun k => w + k * g) cs) ys → Q (.ref D) H'
def awF (n : Nat) (cans : List (Bool × Bool)) (cs : List Crs) (k : Nat) : Crs := (List.range' k (n - k)).foldr (fun j r => chosen n (cans.getD j (false, false)) (cs.getD j []) r) (noth n)
theorem awF_step {n : Nat} {cans : List (Bool × Bool)} {cs : List Crs} {k : Nat} (h : k < n) : awF n cans cs k = chosen n (cans.getD k (false, false)) (cs.getD k []) (awF n cans cs (k + 1)) := by
  unfold awF
  rw [show n - k = (n - (k + 1)) + 1 by omega, List.range'_succ, List.foldr_cons]
theorem awF_end {n : Nat} {cans : List (Bool × Bool)} {cs : List Crs} : awF n cans cs n = noth n := by
  unfold awF
  rw [Nat.sub_self]
  rfl
theorem awF_len {n : Nat} {cans : List (Bool × Bool)} {cs : List Crs} (hl : ∀ j < n, (cs.getD j []).length = n) (k : Nat) : (awF n cans cs k).length = n := by
  unfold awF
  have : ∀ l : List Nat, (∀ j ∈ l, j < n) → (l.foldr (fun j r => chosen n (cans.getD j (false, false)) (cs.getD j []) r) (noth n)).length = n := fun l => by
    induction l with
    | nil => exact fun _ => noth_len
    | cons j l ih => exact fun h => chosen_len (hl j (h j List.mem_cons_self)) (ih fun i hi => h i (List.mem_cons_of_mem _ hi))
  refine this _ fun j hj => ?_
  have := List.mem_range'_1.mp hj
  omega
def spAwt (K : PySem.W.Frag) : Sp := fun vs H Q _ => ∃ (l1 l2 : Addr) (xs us : List V) (cans : List (Bool × Bool)) (cs : List Crs) (n : Nat) (H0 : Hp), vs = [.ref l1, .ref l2] ∧ SqL K H l1 xs ∧ All2 (BpR K H) cans xs ∧ SqL K H l2 us ∧ All2 (CrN K H0 H) cs us ∧ Same H0 H ∧ cans.length = n ∧ cs.length = n ∧ n ≤ 100 ∧ (∀ c ∈ cs, c.length = n) ∧
  ∀ D ys H', Same H H' → H D = none → H' D = some (.lst ys) → All2 (CrN K H0 H') ((List.range n).map (awF n cans cs)) ys → Q (.ref D) H'
def endC (n b : Nat) (can : Nat → Bool × Bool) (c : Crs) (j : Nat) : S2 :=
  if ((List.range' b (j + 1 - b)).map fun i => !(can i).2).any id = true then (0, 0)
  else if ((List.range' b (j + 1 - b)).map fun i => (can i).1).any id = true then cover (at2 c j) (0, 0) else at2 c j
def spEnd (K : PySem.W.Frag) : Sp := fun vs H Q _ => ∃ (l1 l2 : Addr) (xs us : List V) (can : Nat → Bool × Bool) (c : Crs) (b n : Nat), vs = [.ref l1, .int b, .ref l2] ∧ SqL K H l1 xs ∧ xs.length = n - b ∧ (∀ j, b + j < n → ∃ v, xs[j]? = some v ∧ BpR K H (can (b + j)) v) ∧ SqL K H l2 us ∧ All2 (SpR K H) c us ∧ c.length = n ∧ b ≤ n ∧ n ≤ 100 ∧
  ∀ w H', Same H H' → CrN K H H' ((List.range n).map (endC n b can c)) w → Q w H'
section
variable {P : Program} {w : World} {K : PySem.W.Frag} {mg : Str → Option Value} {base : Heap}
abbrev s__given : Stmt := topS 25
theorem sc__given : FnScope ["give", "rows", "hour", "side", "good", "course", "low", "high"] ["give", "rows", "hour", "side", "good"] (defScope s__given) := ⟨rfl, rfl, rfl, by decide +kernel, rfl, by decide +kernel, by decide +kernel⟩
theorem h__given {k : Nat} {f : Addr} {fd : FuncData} (O : Own K mg "_given" s__given ["give", "rows", "hour", "side", "good"] f fd)  {f__span_of : Addr} {fd__span_of : FuncData} (D__span_of : Has P w K mg base "_span_of" ["told", "row"] k CX0 (spSpan K 4) f__span_of fd__span_of) {f__nothing : Addr} {fd__nothing : FuncData} (D__nothing : Has P w K mg base "_nothing" ["rows"] k CX0 (spNothing K) f__nothing fd__nothing) : Has P w K mg base "_given" ["give", "rows", "hour", "side", "good"] (k + 1) CX0 (spGiven K) f fd := by
  refine O.has (O.F.ok sc__given (fun vs H Q E h => ?_) (fun cdv A outer s H vs Q E hr h => ?_))
  · obtain ⟨v, l, as, h, n, s, gd, a, b, g, o, xs, R, rfl, _⟩ := h
    rfl
  obtain ⟨v, l, as, h, n, s, gd, a, b, g, o, xs, R, rfl, ⟨p, u, rfl, hp, hu⟩, hl, ⟨la, hrs⟩, hn, n100, ab, oi, od, rb, q⟩ := h
  refine ⟨_, (pss_cons (ps_set (i := 5) sc__given.nd rfl (.inl rfl) (pe_call D__nothing.G hr (by rfl) D__nothing.g D__nothing.k D__nothing.b .nil pass0 (pa_cons (pv 1) pa_nil))) (pss_cons (ps_if (PW.pt (pw_and (pt_cmpR op_eq (pe_ix ix_tup (pv 0) pe_int (fun _ _ => rfl)) (pv 4) (nomark _)) (pw_and1 (pt_cmpR op_in_seq (pv 3) (pe_tup (pa_cons (pe_ix ix_tup (pv 0) pe_int (fun _ _ => rfl)) (pa_cons (pe_ix ix_tup (pv 0) pe_int (fun _ _ => rfl)) pa_nil))) (by rfl))))) (pss_cons (ps_asg (pe_call D__span_of.G hr (by rfl) D__span_of.g D__span_of.k D__span_of.b .nil pass0 (pa_cons (pe_ix ix_tup (pv 0) pe_int (fun _ _ => rfl)) (pa_cons (pe_ix ix_list (pv 1) (pv 2) (fun _ _ => rfl)) pa_nil))) (pg_tup rfl (pgs_cons (pg_name (i := 6) sc__given.nd rfl (.inl rfl)) (pgs_cons (pg_name (i := 7) sc__given.nd rfl (.inl rfl)) pgs_nil)))) (pss_one (ps_asg (pe_ifExp (pt_cmpR op_eq (pv 3) (pe_ix ix_tup (pv 0) pe_int (fun _ _ => rfl)) (nomark _)) (pe_tup (pa_cons (pv 6) (pa_cons (pv 7) pa_nil))) (pe_tup (pa_cons (pe_un un_neg (pv 7)) (pa_cons (pe_un un_neg (pv 6)) pa_nil)))) (pg_sub (pv 5) (pv 2) set_list)))) pss_nil) (pss_one (ps_ret (pv 5))))), ?_⟩
  walk_at "go"
  refine ⟨l, as, rfl, hl, by omega, fun w1 H1 e1 hw => ?_⟩
  obtain ⟨d, ys, rfl, nd, hd, hys⟩ := hw
  have hp1 := SqT.same e1 hp
  have no : ¬ h ≥ n := by omega
  walk_at "go"
  refine ⟨_, _, _, _, rfl, rfl, hp1, at_any (j := 3) rfl rfl, ?_⟩
  walk_at "go"
  have off : ¬ (g = gd ∧ (s = a ∨ s = b)) → Q (.ref d) H1 := fun z => by
    refine q _ _ e1 ⟨d, ys, rfl, nd, sql hd, ?_⟩
    have : cw n R gd (.give a b g o) s h = noth n := by
      unfold cw
      rw [if_neg no, if_neg z]
    rw [this, ← la]
    exact hys
  refine and_cut (s = a ∨ s = b) (fun z => ?_) (fun cg back => ?_)
  · walk_at "go"
    exact off z
  walk_at "go"
  refine ⟨_, _, _, _, rfl, rfl, hp1, at_any (j := 1) rfl rfl, ?_⟩
  walk_at "go"
  refine ⟨_, _, _, _, rfl, rfl, hp1, at_any (j := 2) rfl rfl, ?_⟩
  walk_at "go"
  refine ⟨by show 2 ≤ sizeLine; decide, fun p4 np4 => ?_⟩
  have e4 := same_new (o := .tup [V.str a, V.str b]) np4
  refine ⟨p4, _, rfl, .inr (sqt upd_same), rfl, rfl, ?_⟩
  rw [if_neg Bool.false_ne_true, inTwo]
  have e14 := e1.trans e4
  have hd4 := e4 _ _ hd
  replace hys := hys.mono (SpR.same e4)
  replace hp1 := SqT.same e4 hp1
  have off4 : ¬ (g = gd ∧ (s = a ∨ s = b)) → Q (.ref d) (upd H1 p4 (.tup [V.str a, V.str b])) := fun z => by
    refine q _ _ e14 ⟨d, ys, rfl, nd, sql hd4, ?_⟩
    have : cw n R gd (.give a b g o) s h = noth n := by
      unfold cw
      rw [if_neg no, if_neg z]
    rw [this, ← la]
    exact hys
  generalize upd H1 p4 (.tup [V.str a, V.str b]) = H4 at e4 e14 hd4 hys hp1 off4 ⊢
  refine ⟨_, rfl, ifd (fun cs => ?_) (fun cs => ?_)⟩
  rotate_left
  · walk_at "go"
    exact off4 fun z => cs z.2
  walk_at "go"
  refine ⟨_, _, _, _, rfl, rfl, hp1, at_any (j := 4) rfl rfl, ?_⟩
  walk_at "go"
  obtain ⟨r, hr1, hr2⟩ := hrs h hn
  refine ⟨_, _, _, _, rfl, rfl, e14.seq hl, at_any (j := h) rfl hr1, ?_⟩
  walk_at "go"
  refine ⟨u, r, o, xs, R h, rfl, DN.tm (.of e14) hu, hr2.same e14, rb, oi, by omega, by omega, fun w5 H5 e5 hs5 => ?_⟩
  obtain ⟨p5, rfl, hs5⟩ := hs5
  refine g_gtup hs5 rfl ?_
  have hd5 := e5 _ _ hd4
  replace hys := hys.mono (SpR.same e5)
  replace hp1 := SqT.same e5 hp1
  have e15 := e14.trans e5
  have lys : ys.length = n := by have := hys.len; rw [noth_len] at this; omega
  have fin : ∀ (T : Addr) (x : S2) (H6 : Hp), Same H5 H6 → H5 T = none → SqT K H6 T [.int x.1, .int x.2] → x = (if s = b then o.span (R h) else (-(o.span (R h)).2, -(o.span (R h)).1)) → Q (.ref d) (upd H6 d (.lst (ys.set h (.ref T)))) := fun T x H6 e6 nT hT hx => by
    have hd6 := e6 _ _ hd5
    have tm := tm_lst (K := K) (ys := ys.set h (.ref T)) hd6
    refine q _ _ (fun c oo hc => ?_) ⟨d, _, rfl, nd, sql upd_same, ?_⟩
    · rw [upd_ne (fun z => by rw [z, nd] at hc; cases hc)]
      exact e6 _ _ (e15 _ _ hc)
    · have ev : cw n R gd (.give a b g o) s h = (noth n).set h x := by
        unfold cw
        rw [if_neg no, if_pos ⟨cg, cs⟩, hx]
      rw [ev, ← la]
      exact All2.set ⟨T, rfl, tm _ _ hT⟩ h (hys.mono fun _ _ ⟨z, z1, z2⟩ => ⟨z, z1, tm _ _ (SqT.same e6 z2)⟩)
  walk_at "go"
  refine ⟨_, _, _, _, rfl, rfl, hp1, at_any (j := 2) rfl rfl, ?_⟩
  walk_at "go"
  refine ifd (fun c2 => ?_) (fun c2 => ?_)
  · rw [if_pos c2] at fin
    walk_at "go"
    refine ⟨by show 2 ≤ sizeLine; decide, fun T nT => ?_⟩
    have e6 := same_new (o := .tup [V.int (o.span (R h)).1, V.int (o.span (R h)).2]) nT
    refine g_sub ?_
    walk_at "go"
    refine ⟨d, ys, h, h, rfl, rfl, e6 _ _ hd5, ixN_at rfl (by omega), ?_⟩
    walk_at "go"
    exact fin T _ _ e6 nT (sqt upd_same) rfl
  · rw [if_neg c2] at fin
    walk_at "go"
    refine ⟨by show 2 ≤ sizeLine; decide, fun T nT => ?_⟩
    have e6 := same_new (o := .tup [V.int (-(o.span (R h)).2), V.int (-(o.span (R h)).1)]) nT
    refine g_sub ?_
    walk_at "go"
    refine ⟨d, ys, h, h, rfl, rfl, e6 _ _ hd5, ixN_at rfl (by omega), ?_⟩
    walk_at "go"
    exact fin T (-(o.span (R h)).2, -(o.span (R h)).1) _ e6 nT (sqt upd_same) rfl
abbrev s__repeated : Stmt := topS 26
theorem sc__repeated : FnScope ["times", "wait", "gap", "courses", "hours", "more", "begin", "hour"] ["times", "wait", "gap", "courses"] (defScope s__repeated) := ⟨rfl, rfl, rfl, by decide +kernel, rfl, by decide +kernel, by decide +kernel⟩
theorem h__repeated {k : Nat} {f : Addr} {fd : FuncData} (O : Own K mg "_repeated" s__repeated ["times", "wait", "gap", "courses"] f fd)  {f__summed : Addr} {fd__summed : FuncData} (D__summed : Has P w K mg base "_summed" ["courses", "rows"] k CX0 (spSummed K) f__summed fd__summed) (m_range : mg "range" = none) (m_len : mg "len" = none) (m_max : mg "max" = none) : Has P w K mg base "_repeated" ["times", "wait", "gap", "courses"] (k + 1) CX0 (spRep K) f fd := by
  refine O.has (O.F.ok sc__repeated (fun vs H Q E h => ?_) (fun cdv A outer s H vs Q E hr h => ?_))
  · obtain ⟨t, w, g, n, l, us, cs, H0, rfl, _⟩ := h
    rfl
  obtain ⟨t, wt, g, n, l, us, cs, H0, rfl, hl, hcs, ln, n100, al, t9, w99, g99, q⟩ := h
  refine ⟨_, (pss_cons (ps_set (i := 4) sc__repeated.nd rfl (.inr rfl) (pe_lc (own := [("more", 5)]) (g := gName 5) rfl sc__repeated.nd (pi_range1 (by rfl) m_range (pa_cons (pv 0) pa_nil)) (blkOk_by (own := [("more", 5)]) (N := ["times", "wait", "gap", "courses", "hours", "more", "begin", "hour"]) (sc := defScope s__repeated) (by decide +kernel)) (fun _ _ _ _ _ => pg_name (i := 5) sc__repeated.nd rfl (.inl rfl)) (fun _ _ _ _ _ => pts_nil) (fun _ _ _ _ _ => (pe_op op_add (pe_callB (call_max2 rfl) (by rfl) m_max (by decide +kernel) (pa_cons pe_int (pa_cons (pv 1) pa_nil))) (pe_op op_mul (pv 5) (pe_callB (call_max2 rfl) (by rfl) m_max (by decide +kernel) (pa_cons pe_int (pa_cons (pv 2) pa_nil)))))))) (pss_one (ps_ret (pe_lc (own := [("begin", 6)]) (g := gName 6) rfl sc__repeated.nd (pi_range1 (by rfl) m_range (pa_cons (pe_callB call_len_seq (by rfl) m_len (by decide +kernel) (pa_cons (pv 3) pa_nil)) pa_nil)) (blkOk_by (own := [("begin", 6)]) (N := ["times", "wait", "gap", "courses", "hours", "more", "begin", "hour"]) (sc := defScope s__repeated) (by decide +kernel)) (fun _ _ _ _ _ => pg_name (i := 6) sc__repeated.nd rfl (.inr rfl)) (fun _ _ _ _ _ => pts_nil) (fun _ _ _ _ _ => (pe_call D__summed.G hr (by rfl) D__summed.g D__summed.k D__summed.b .nil pass0 (pa_cons (pe_lc (own := [("hour", 7)]) (g := gName 7) rfl sc__repeated.nd (pi_listK (K := K) rfl (pv 4)) (blkOk_by (own := [("hour", 7)]) (N := ["times", "wait", "gap", "courses", "hours", "more", "begin", "hour"]) (sc := { kind := ScopeKind.function, names := [(".0", NameKind.local), ("begin", NameKind.cell), ("_summed", NameKind.globalImplicit), ("courses", NameKind.cell), ("hours", NameKind.cell)], isGenerator := false, isCoroutine := false }) (by decide +kernel)) (fun _ _ _ _ _ => pg_name (i := 7) sc__repeated.nd rfl (.inl rfl)) (fun _ _ _ _ _ => pts_one (pt_cmpR op_lt (pe_op op_add (pv 6) (pv 7)) (pe_callB (call_lenK (K := K) rfl) (by rfl) m_len (by decide +kernel) (pa_cons (pv 3) pa_nil)) (nomark _))) (fun _ _ _ _ _ => (pe_ix (r := rIxL K) ix_list (pv 3) (pe_op op_add (pv 6) (pv 7)) (fun _ _ => rfl)))) (pa_cons (pv 3) pa_nil)))))))), ?_⟩
  have lu := hcs.len
  walk_at "go"
  refine ⟨by omega, by omega, fun D0 nD0 => lc_range (lo := 0) (n := t) (fun i Hc => Hc D0 = some (.lst (((List.range i).map fun k => wt + k * g).map fun h : Nat => V.int h)) ∧ Same H Hc) ⟨upd_same, same_new nD0⟩ (fun i Hc hi hW => ?_) (fun Hc0 hW => ?_)⟩
  · obtain ⟨hD, e⟩ := hW
    walk_at "go"
    rw [max2, max2]
    refine g_I (.inr ⟨by omega, by omega⟩) ?_
    walk_at "go"
    refine ⟨_, hD, by rw [List.length_map, List.length_map, List.length_range]; exact small1000 (by omega), ?_, fun b o h => by rw [upd_ne (ne_of_none h nD0)]; exact e _ _ h⟩
    have ev : max 0 (wt : Int) + (0 + (i : Int)) * max 0 (g : Int) = ((wt + i * g : Nat) : Int) := by
      rw [Int.max_eq_right (by omega), Int.max_eq_right (by omega), Int.zero_add]
      push_cast
      rfl
    rw [upd_same, range_snoc, List.map_append, ev]
    rfl
  obtain ⟨hD0, e0⟩ := hW
  generalize hhs : (List.range t).map (fun k => wt + k * g) = hs at hD0 q
  have lhs : hs.length ≤ 9 := by rw [← hhs, List.length_map, List.length_range]; exact t9
  walk_at "go"
  refine ⟨_, _, rfl, .inl (e0.seq hl), ?_⟩
  walk_at "go"
  refine ⟨by omega, by omega, fun D nD => lc_range (lo := 0) (n := us.length) (fun b Hc => Fl (CrN K H) Hc0 D ((List.range b).map fun b => sumC n ((hs.filter fun h => decide (b + h < n)).map fun h => cs.getD (b + h) [])) Hc) (Fl.start nD) (fun b Hc hb f => ?_) (fun Hc f => ?_)⟩
  · have fs := e0.trans f.sub
    walk_at "go"
    refine ⟨⟨_, f.sub.seq (sql hD0)⟩, fun D2 nD2 => lc_list (xs := hs.map fun h : Nat => V.int h) (fun j Hd => ∃ ws, Hd D2 = some (.lst ws) ∧ All2 (CrN K H0 Hc) (((hs.take j).filter fun h => decide (b + h < n)).map fun h => cs.getD (b + h) []) ws ∧ ws.length ≤ j ∧ Same Hc Hd) ⟨[], upd_same, trivial, Nat.le_refl _, same_new nD2⟩ (fun j Hd _ ⟨_, _, _, _, e⟩ => (f.sub.trans e).seq (sql hD0)) (fun j x Hd hx hW => ?_) (fun Hd hW => ?_)⟩
    · obtain ⟨ws, hD2, hws, lw, e⟩ := hW
      rw [List.getElem?_map] at hx
      obtain ⟨h, hh, rfl⟩ := Option.map_eq_some_iff.mp hx
      have hj := (List.getElem?_eq_some_iff.mp hh).1
      have tk : (hs.take (j + 1)).filter (fun h => decide (b + h < n)) = (hs.take j).filter (fun h => decide (b + h < n)) ++ [h].filter (fun h => decide (b + h < n)) := by
        rw [List.take_succ, hh, List.filter_append]
        rfl
      walk_at "go"
      refine ⟨_, _, rfl, .inl ((fs.trans e).seq hl), ?_⟩
      walk_at "go"
      refine ifd (fun c => ?_) (fun c => ?_)
      · have c : b + h < n := by omega
        have hc : cs[b + h]? = some (cs[b + h]'(by omega)) := List.getElem?_eq_getElem (by omega)
        obtain ⟨x, hx, px⟩ := hcs.at hc
        have ex : cs.getD (b + h) [] = cs[b + h]'(by omega) := by rw [List.getD_eq_getElem?_getD, hc]; rfl
        walk_at "go"
        refine ⟨_, _, _, _, rfl, rfl, (fs.trans e).seq hl, at_any (j := b + h) (by push_cast; omega) hx, ?_⟩
        refine ⟨ws, hD2, small1000 (by omega), ws ++ [x], upd_same, ?_, by rw [List.length_append]; show ws.length + 1 ≤ j + 1; omega, fun c o h => by rw [upd_ne (ne_of_none h nD2)]; exact e _ _ h⟩
        rw [tk, List.filter_cons_of_pos (by simpa using c), List.filter_nil, List.map_append]
        refine All2.snoc hws ?_
        show CrN K H0 Hc (cs.getD (b + h) []) x
        rw [ex]
        exact CrN.same fs _ _ px
      · have c : ¬ b + h < n := by omega
        rw [tk, List.filter_cons_of_neg (by simpa using c), List.filter_nil, List.append_nil]
        exact ⟨ws, hD2, hws, by omega, e⟩
    · obtain ⟨ws, hD2, hws, lw, e⟩ := hW
      rw [show hs.take (hs.map fun h : Nat => V.int h).length = hs from List.take_of_length_le (by rw [List.length_map]; omega)] at hws
      have lw2 : ws.length ≤ 9 := by rw [List.length_map] at lw; omega
      have lws := hws.len
      walk_at "go"
      obtain ⟨ys0, hD, _⟩ := f.l
      refine ⟨D2, l, ws, us, _, H0, rfl, sql hD2, hws.mono (CrN.same e), (fs.trans e).seq hl, by omega, by omega, fun c hc => ?_, fun w5 H5 e5 hw5 => ?_⟩
      · obtain ⟨h, hh, rfl⟩ := List.mem_map.mp hc
        have hh := (List.mem_filter.mp hh).2
        have hh : b + h < n := by simpa using hh
        have z : (cs.getD (b + h) []).length = n := by
          rw [List.getD_eq_getElem?_getD, List.getElem?_eq_getElem (by omega)]
          exact al _ (List.getElem_mem _)
        show (cs.getD (b + h) []).length = us.length
        omega
      · rw [range_snoc]
        rw [← lu, ln] at hw5
        have eHc : Same H (er D Hd) := (e0.trans f.e).trans (er_same e)
        exact f.step CrN.same (e.trans e5) (fun zs hz => CrN.er eHc (e _ _ hD) hz hw5) (by rw [List.length_map, List.length_range]; omega)
  · obtain ⟨zs, hD, hzs, e⟩ := f.fin CrN.same
    walk_at "go"
    refine q D zs Hc (e0.trans e) (fresh_same e0 nD) hD ?_
    unfold repL
    rw [← lu, ln] at hzs
    exact hzs
abbrev s__awaited : Stmt := topS 28
theorem sc__awaited : FnScope ["cans", "courses", "found", "course", "hour"] ["cans", "courses"] (defScope s__awaited) := ⟨rfl, rfl, rfl, by decide +kernel, rfl, by decide +kernel, by decide +kernel⟩
theorem h__awaited {k : Nat} {f : Addr} {fd : FuncData} (O : Own K mg "_awaited" s__awaited ["cans", "courses"] f fd)  {f__chosen : Addr} {fd__chosen : FuncData} (D__chosen : Has P w K mg base "_chosen" ["can", "one", "other"] k CX0 (spChosen K) f__chosen fd__chosen) {f__nothing : Addr} {fd__nothing : FuncData} (D__nothing : Has P w K mg base "_nothing" ["rows"] k CX0 (spNothing K) f__nothing fd__nothing) (m_reversed : mg "reversed" = none) (m_range : mg "range" = none) (m_len : mg "len" = none) : Has P w K mg base "_awaited" ["cans", "courses"] (k + 1) CX0 (spAwt K) f fd := by
  refine O.has (O.F.ok sc__awaited (fun vs H Q E h => ?_) (fun cdv A outer s H vs Q E hr h => ?_))
  · obtain ⟨l1, l2, xs, us, cans, cs, n, H0, rfl, _⟩ := h
    rfl
  obtain ⟨l1, l2, xs, us, cans, cs, n, H0, rfl, h1, hxs, h2, hcs, e0, lc, ln, n100, al, q⟩ := h
  refine ⟨_, (pss_cons (ps_set (i := 2) sc__awaited.nd rfl (.inl rfl) (pe_lst pa_nil)) (pss_cons (ps_set (i := 3) sc__awaited.nd rfl (.inl rfl) (pe_call D__nothing.G hr (by rfl) D__nothing.g D__nothing.k D__nothing.b .nil pass0 (pa_cons (pv 1) pa_nil))) (pss_cons (ps_for PassesOwn.never rfl (pi_revR (by rfl) m_reversed (prg_1 (by rfl) m_range (pe_callB call_len_seq (by rfl) m_len (by decide +kernel) (pa_cons (pv 1) pa_nil)))) (pg_name (i := 4) sc__awaited.nd rfl (.inl rfl)) (pss_cons (ps_set (i := 3) sc__awaited.nd rfl (.inl rfl) (pe_call D__chosen.G hr (by rfl) D__chosen.g D__chosen.k D__chosen.b .nil pass0 (pa_cons (pe_ix ix_list (pv 0) (pv 4) (fun _ _ => rfl)) (pa_cons (pe_ix ix_list (pv 1) (pv 4) (fun _ _ => rfl)) (pa_cons (pv 3) pa_nil))))) (pss_one (ps_expr (pe_bm PySem.F.plainAttrs_list PySem.F.slot_list_append PySem.F.type_list_append mt_append (pv 2) (pa_cons (pv 3) pa_nil)))))) (pss_one (ps_ret (pe_revL (pv 2))))))), ?_⟩
  have lu := hcs.len
  have lx := hxs.len
  walk_at "go"
  refine ⟨by decide, fun D nD => ?_⟩
  walk_at "go"
  have s1 := same_new (o := .lst []) nD
  refine ⟨l2, us, rfl, s1.seq h2, by omega, fun w1 H1 e1 hw => ?_⟩
  obtain ⟨d, ys, rfl, nd, hd, hys⟩ := hw
  have hys : All2 (SpR K H1) (awF n cans cs n) ys := by
    rw [awF_end]
    rw [lu.symm.trans ln] at hys
    exact hys
  have dD : d ≠ D := fun z => by rw [z, upd_same] at nd; cases nd
  have nd0 : H d = none := fresh_same s1 nd
  have f1 : Fl (CrN K H0) H D [] H1 := ⟨⟨[], e1 _ _ upd_same, trivial⟩, by
    have := er_same (p := D) e1
    rw [er_upd, er_new nD] at this
    exact this⟩
  have c1 : CrN K H0 (er D H1) (awF n cans cs (n - 0)) (.ref d) := ⟨d, ys, rfl, fresh_same e0 nd0, SqL.er dD (sql hd), hys.mono fun _ _ => SpR.er (e1 _ _ upd_same)⟩
  walk_at "go"
  refine g_revR (g_trg1 ?_)
  walk_at "go"
  refine ⟨_, _, rfl, .inl (e1.seq (s1.seq h2)), ?_⟩
  walk_at "go"
  refine ⟨by omega, by omega, by omega, by omega, ?_⟩
  walk_at "go"
  refine for_it (n := us.length) (walk_rangeC (n := ((us.length : Int) - 0).toNat)) (fun i σ Hc => ∃ v y4, σ = [some (.ref l1), some (.ref l2), some (.ref D), some v, y4] ∧ Fl (CrN K H0) H D ((List.range i).map fun j => awF n cans cs (n - 1 - j)) Hc ∧ CrN K H0 (er D Hc) (awF n cans cs (n - i)) v) ⟨_, _, rfl, f1, c1⟩ (fun _ _ _ _ _ => trivial) (fun i x σ Hc Hc' hi hW hy => ?_) (fun σ Hc hW => ?_)
  · obtain ⟨v, y4, rfl, f, cv⟩ := hW
    obtain ⟨rfl, rfl⟩ := hy
    have hcs' : cs[n - 1 - i]? = some (cs[n - 1 - i]'(by omega)) := List.getElem?_eq_getElem (by omega)
    have hca : cans[n - 1 - i]? = some (cans[n - 1 - i]'(by omega)) := List.getElem?_eq_getElem (by omega)
    obtain ⟨u, hu, cu⟩ := hcs.at hcs'
    obtain ⟨x, hx, bx⟩ := hxs.at hca
    have st := awF_step (n := n) (cans := cans) (cs := cs) (k := n - 1 - i) (by omega)
    rw [List.getD_eq_getElem?_getD, List.getD_eq_getElem?_getD, hcs', hca] at st
    have st : awF n cans cs (n - 1 - i) = chosen n (cans[n - 1 - i]'(by omega)) (cs[n - 1 - i]'(by omega)) (awF n cans cs (n - 1 - i + 1)) := st
    rw [show n - 1 - i + 1 = n - i by omega] at st
    have lcu : (cs[n - 1 - i]'(by omega)).length = n := al _ (List.getElem_mem _)
    have law : (awF n cans cs (n - i)).length = n := awF_len (fun j hj => by
      rw [List.getD_eq_getElem?_getD, List.getElem?_eq_getElem (by omega)]
      exact al _ (List.getElem_mem _)) _
    generalize cs[n - 1 - i]'(by omega) = ci at cu lcu st
    generalize cans[n - 1 - i]'(by omega) = ki at bx st
    walk_at "go"
    refine ⟨_, _, _, _, rfl, rfl, f.sub.seq h1, at_any (j := n - 1 - i) (by push_cast; omega) hx, ?_⟩
    walk_at "go"
    refine ⟨_, _, _, _, rfl, rfl, f.sub.seq h2, at_any (j := n - 1 - i) (by push_cast; omega) hu, ?_⟩
    walk_at "go"
    have fin : ∀ w2 H5, Same Hc' H5 → (∀ zs, H5 D = some (.lst zs) → CrN K H0 (er D H5) (awF n cans cs (n - 1 - i)) w2) → ∃ acc, H5 D = some (.lst acc) ∧ acc.length < sizeLine ∧ (Fl (CrN K H0) H D ((List.range (i + 1)).map fun j => awF n cans cs (n - 1 - j)) (upd H5 D (.lst (acc ++ [w2]))) ∧ CrN K H0 (er D (upd H5 D (.lst (acc ++ [w2])))) (awF n cans cs (n - (i + 1))) w2) := fun w2 H5 e5 hw2 => by
      obtain ⟨acc, hD, la, f'⟩ := f.step CrN.same e5 hw2 (by rw [List.length_map, List.length_range]; omega)
      refine ⟨acc, hD, la, ?_, ?_⟩
      · rw [range_snoc]
        exact f'
      · rw [er_upd, show n - (i + 1) = n - 1 - i by omega]
        exact hw2 _ hD
    refine ⟨x, u, v, ki, ci, _, H0, rfl, BpR.same f.sub _ _ bx, CrN.same f.sub _ _ cu, CrN.same er_sub _ _ cv, by omega, by omega, fun cc w2 H5 e5 hw2 => ?_, fun cc => ?_⟩
    · have hD0 := f.l
      obtain ⟨ys0, hD0, _⟩ := hD0
      obtain ⟨acc, hD, la, f', c'⟩ := fin w2 H5 e5 (fun zs hz => by
        rw [st]
        unfold chosen
        rw [if_pos cc]
        exact CrN.er (e0.trans f.e) hD0 hz hw2)
      walk_at "go"
      exact ⟨.inl ⟨rfl, _, sql hD⟩, _, rfl, D, acc, _, rfl, rfl, hD, la, _, _, rfl, f', c'⟩
    · obtain ⟨acc, hD, la, f', c'⟩ := fin _ Hc' (.refl _) (fun zs hz => by
        rw [st]
        unfold chosen
        rw [if_neg (by rw [cc]; decide)]
        show CrN K H0 (er D Hc') (if ki.1 = true then ci else awF n cans cs (n - i)) (if ki.1 = true then u else v)
        split
        · exact CrN.same f.e _ _ cu
        · exact cv)
      walk_at "go"
      exact ⟨.inl ⟨rfl, _, sql hD⟩, _, rfl, D, acc, _, rfl, rfl, hD, la, _, _, rfl, f', c'⟩
  · obtain ⟨v, y4, rfl, f, cv⟩ := hW
    obtain ⟨ys, hD, hys, e⟩ := f.fin CrN.same
    have hr := hys.reverse
    rw [← lu, ln, rev_range] at hr
    walk_at "go"
    refine ⟨_, rfl, D, ys, rfl, sql hD, fun p np => ?_⟩
    have s3 := same_new (o := .lst ys.reverse) np
    exact q p _ _ (e.trans s3) (fresh_same e np) upd_same (hr.mono (CrN.same s3))
abbrev s__ended : Stmt := topS 29
theorem sc__ended : FnScope ["cans", "begin", "course", "found", "may_end", "must_end", "can_hold", "can_fail", "span"] ["cans", "begin", "course"] (defScope s__ended) := ⟨rfl, rfl, rfl, by decide +kernel, rfl, by decide +kernel, by decide +kernel⟩
theorem h__ended {k : Nat} {f : Addr} {fd : FuncData} (O : Own K mg "_ended" s__ended ["cans", "begin", "course"] f fd)  {f__cover : Addr} {fd__cover : FuncData} (D__cover : Has P w K mg base "_cover" ["one", "other"] k CX0 (spCover K) f__cover fd__cover) (m_zip : mg "zip" = none) {d_NOTHING : Addr} (F_NOTHING : PairC K mg "NOTHING" 0 0 d_NOTHING) : Has P w K mg base "_ended" ["cans", "begin", "course"] (k + 1) CX0 (spEnd K) f fd := by
  refine O.has (O.F.ok sc__ended (fun vs H Q E h => ?_) (fun cdv A outer s H vs Q E hr h => ?_))
  · obtain ⟨l1, l2, xs, us, can, c, b, n, rfl, _⟩ := h
    rfl
  obtain ⟨l1, l2, xs, us, can, c, b, n, rfl, h1, lx, hxs, h2, hus, lc, bn, n100, q⟩ := h
  refine ⟨_, (pss_cons (ps_set (i := 3) sc__ended.nd rfl (.inl rfl) (pe_slice sl_list (pv 2) po_none (po_some (pv 1)))) (pss_cons (ps_asg (pe_tup (pa_cons pe_bl (pa_cons pe_bl pa_nil))) (pg_tup rfl (pgs_cons (pg_name (i := 4) sc__ended.nd rfl (.inl rfl)) (pgs_cons (pg_name (i := 5) sc__ended.nd rfl (.inl rfl)) pgs_nil)))) (pss_cons (ps_for PassesOwn.never rfl (pi_zip (by rfl) m_zip (pa_cons (pv 0) (pa_cons (pe_slice sl_list (pv 2) (po_some (pv 1)) po_none) pa_nil))) (pg_tup rfl (pgs_cons (pg_tup rfl (pgs_cons (pg_name (i := 6) sc__ended.nd rfl (.inl rfl)) (pgs_cons (pg_name (i := 7) sc__ended.nd rfl (.inl rfl)) pgs_nil))) (pgs_cons (pg_name (i := 8) sc__ended.nd rfl (.inl rfl)) pgs_nil))) (pss_cons (ps_set (i := 4) sc__ended.nd rfl (.inl rfl) (pe_or (pv 4) (pe_one (pv 6)))) (pss_cons (ps_set (i := 5) sc__ended.nd rfl (.inl rfl) (pe_or (pv 5) (pe_one (pe_not (pv 7))))) (pss_one (ps_if (pt_val (pv 5)) (pss_one (ps_expr (pe_bm PySem.F.plainAttrs_list PySem.F.slot_list_append PySem.F.type_list_append mt_append (pv 3) (pa_cons (pe_glob (v := .ref d_NOTHING) (by rfl) F_NOTHING.g rfl) pa_nil)))) (pss_one (ps_expr (pe_bm PySem.F.plainAttrs_list PySem.F.slot_list_append PySem.F.type_list_append mt_append (pv 3) (pa_cons (pe_ifExp (pt_val (pv 4)) (pe_call D__cover.G hr (by rfl) D__cover.g D__cover.k D__cover.b .nil pass0 (pa_cons (pv 8) (pa_cons (pe_glob (v := .ref d_NOTHING) (by rfl) F_NOTHING.g rfl) pa_nil))) (pv 8)) pa_nil))))))))) (pss_one (ps_ret (pv 3)))))), ?_⟩
  have lu := hus.len
  have at1 : ∀ j, j < n → ∃ v, us[j]? = some v ∧ SpR K H (at2 c j) v := fun j hj => by
    obtain ⟨v, hv, sv⟩ := hus.at (List.getElem?_eq_getElem (show j < c.length by omega))
    refine ⟨v, hv, ?_⟩
    rw [show at2 c j = c[j]'(by omega) by unfold at2; rw [List.getD_eq_getElem?_getD, List.getElem?_eq_getElem (show j < c.length by omega)]; rfl]
    exact sv
  walk_at "go"
  refine ⟨l2, us, rfl, h2, fun D nD => ?_⟩
  rw [cut_take]
  have f0 : Fl (SpR K) H D ((List.range (b + 0)).map (endC n b can c)) (upd H D (.lst (us.take b))) := ⟨⟨_, upd_same, by
    rw [er_upd, er_new nD]
    have ev : (List.range (b + 0)).map (endC n b can c) = c.take b := by
      refine List.ext_getElem (by rw [List.length_map, List.length_range, List.length_take]; omega) fun i h1 h2 => ?_
      rw [List.length_map, List.length_range] at h1
      rw [List.getElem_map, List.getElem_range, List.getElem_take]
      unfold endC
      rw [show i + 1 - b = 0 by omega]
      show at2 c i = _
      unfold at2
      rw [List.getD_eq_getElem?_getD, List.getElem?_eq_getElem (show i < c.length by omega)]
      rfl
    rw [ev]
    exact hus.take b⟩, by rw [er_upd, er_new nD]; exact .refl _⟩
  have s1 := same_new (o := .lst (us.take b)) nD
  generalize upd H D (.lst (us.take b)) = H1 at f0 s1 ⊢
  walk_at "go"
  refine ⟨by decide, fun p np => g_gtup (sqt upd_same) rfl ?_⟩
  have s2 := same_new (o := .tup [V.bl false, V.bl false]) np
  replace f0 := f0.mono SpR.same s2
  replace s1 := s1.trans s2
  generalize upd H1 p (.tup [V.bl false, V.bl false]) = H2 at f0 s1 ⊢
  walk_at "go"
  refine g_zipL ?_
  walk_at "go"
  refine ⟨l2, us, rfl, s1.seq h2, fun E nE => ?_⟩
  have f00 := f0
  rw [cut_drop]
  have s3 := same_new (o := .lst (us.drop b)) nE
  replace f0 := f0.mono SpR.same s3
  replace s1 := s1.trans s3
  have hE : SqL K (upd H2 E (.lst (us.drop b))) E (us.drop b) := sql upd_same
  have nED : E ≠ D := fun z => by
    obtain ⟨_, z2, _⟩ := f00.l
    rw [z, z2] at nE
    cases nE
  have hE' := SqL.er (D := D) nED hE
  generalize upd H2 E (.lst (us.drop b)) = H3 at f0 s1 hE hE' ⊢
  walk_at "go"
  refine ⟨_, _, _, _, rfl, s1.seq h1, hE, ?_⟩
  walk_at "go"
  refine for_it (walk_zip (xs := xs) (ys := us.drop b) (n := n - b) (by rw [List.length_drop]; omega)) (fun i σ Hc => ∃ y6 y7 y8, σ = [some (.ref l1), some (.int b), some (.ref l2), some (.ref D), some (.bl (((List.range' b i).map fun i => (can i).1).any id)), some (.bl (((List.range' b i).map fun i => !(can i).2).any id)), y6, y7, y8] ∧ Fl (SpR K) H D ((List.range (b + i)).map (endC n b can c)) Hc ∧ Same (er D H3) (er D Hc)) ⟨_, _, _, rfl, f0, .refl _⟩ (fun i σ Hc _ hW => ?_) (fun i x σ Hc Hc' hi hW hy => ?_) (fun σ Hc hW => ?_)
  · obtain ⟨_, _, _, _, f, e⟩ := hW
    exact ⟨f.sub.seq h1, (e.trans er_sub).seq hE'⟩
  · obtain ⟨y6, y7, y8, rfl, f, e⟩ := hW
    obtain ⟨T, x, y, rfl, nT, rfl, hx, hy⟩ := hy
    have hx : xs[i]? = some x := hx
    have hy : us[b + i]? = some y := by rw [← List.getElem?_drop]; exact hy
    obtain ⟨x', hx', pb, rfl, hb⟩ := hxs i (by omega)
    cases Option.some.inj (hx'.symm.trans hx)
    obtain ⟨y', hy', sy⟩ := at1 (b + i) (by omega)
    cases Option.some.inj (hy'.symm.trans hy)
    have s4 := same_new (o := .tup [V.ref pb, y]) nT
    replace f := f.mono SpR.same s4
    refine g_gtup (sqt upd_same) rfl ?_
    replace e := e.trans (er_same s4)
    generalize upd Hc T (.tup [V.ref pb, y]) = H4 at f e ⊢
    have a1 := any_snoc (fun i => (can i).1) b i
    have a2 := any_snoc (fun i => !(can i).2) b i
    have ev : endC n b can c (b + i) = if ((List.range' b (i + 1)).map fun i => !(can i).2).any id = true then (0, 0)
      else if ((List.range' b (i + 1)).map fun i => (can i).1).any id = true then cover (at2 c (b + i)) (0, 0) else at2 c (b + i) := by
      unfold endC
      rw [show b + i + 1 - b = i + 1 by omega]
    have fin : ∀ w5 H5, Same H4 H5 → SpR K H5 (endC n b can c (b + i)) w5 → ∃ acc, H5 D = some (.lst acc) ∧ acc.length < sizeLine ∧ Fl (SpR K) H D ((List.range (b + (i + 1))).map (endC n b can c)) (upd H5 D (.lst (acc ++ [w5]))) ∧ Same (er D H3) (er D (upd H5 D (.lst (acc ++ [w5])))) := fun w5 H5 e5 hw5 => by
      obtain ⟨acc, hD, la, f'⟩ := f.step SpR.same e5 (fun zs hz => SpR.er hz hw5) (by rw [List.length_map, List.length_range]; omega)
      refine ⟨acc, hD, la, ?_, ?_⟩
      · rw [show b + (i + 1) = b + i + 1 by omega, range_snoc]
        exact f'
      · rw [er_upd]
        exact e.trans (er_same e5)
    replace hb := SqT.same (f.sub) hb
    walk_at "go"
    refine g_gtup hb rfl ?_
    rw [a1, a2] at ev
    have a1 : ((List.range' b (i + 1)).map fun i => (can i).1).any id = (((List.range' b i).map fun i => (can i).1).any id || (can (b + i)).1) := a1
    have a2 : ((List.range' b (i + 1)).map fun i => !(can i).2).any id = (((List.range' b i).map fun i => !(can i).2).any id || !(can (b + i)).2) := a2
    have ev : endC n b can c (b + i) = if ((((List.range' b i).map fun i => !(can i).2).any id || !(can (b + i)).2)) = true then (0, 0) else if (((List.range' b i).map fun i => (can i).1).any id || (can (b + i)).1) = true then cover (at2 c (b + i)) (0, 0) else at2 c (b + i) := ev
    generalize ((List.range' b i).map fun i => (can i).1).any id = my at a1 ev ⊢
    generalize ((List.range' b i).map fun i => !(can i).2).any id = mu at a2 ev ⊢
    generalize (can (b + i)).1 = c1 at a1 ev ⊢
    generalize (can (b + i)).2 = c2 at a2 ev ⊢
    walk_at "go"
    obtain ⟨acc4, hD4, _⟩ := f.l
    have sy4 := SpR.same f.sub _ _ sy
    have nt : ∀ H, SpR K H (0, 0) (.ref d_NOTHING) := fun H => ⟨d_NOTHING, rfl, F_NOTHING.sq _⟩
    cases my <;> cases mu <;> cases c1 <;> cases c2 <;> (walk_at "go") <;> refine ⟨.inl ⟨rfl, _, sql hD4⟩, ?_⟩ <;> (walk_at "go") <;> first
      | (obtain ⟨acc, hD, la, f', e'⟩ := fin (.ref d_NOTHING) H4 (.refl _) (by rw [ev]; exact nt _)
         exact ⟨D, acc, _, rfl, rfl, hD, la, _, _, _, by rw [a1, a2]; rfl, f', e'⟩)
      | (obtain ⟨acc, hD, la, f', e'⟩ := fin y H4 (.refl _) (by rw [ev]; exact sy4)
         exact ⟨D, acc, _, rfl, rfl, hD, la, _, _, _, by rw [a1, a2]; rfl, f', e'⟩)
      | (refine ⟨y, .ref d_NOTHING, at2 c (b + i), (0, 0), rfl, sy4, nt _, fun w5 H5 e5 hw5 => ?_⟩
         obtain ⟨acc, hD, la, f', e'⟩ := fin w5 H5 e5 (by rw [ev]; exact hw5)
         exact ⟨D, acc, _, rfl, rfl, hD, la, _, _, _, by rw [a1, a2]; rfl, f', e'⟩)
  · obtain ⟨y6, y7, y8, rfl, f, e⟩ := hW
    rw [show b + (n - b) = n by omega] at f
    obtain ⟨ys, hD, hys, e'⟩ := f.fin SpR.same
    walk_at "go"
    exact q _ Hc e' ⟨D, ys, rfl, nD, sql hD, hys⟩
end

/-! ### rows of spans of a market -/
def nmSp (h : Int) (n : Nm) : S2 := (n.b + h * mn (n.st.map (·.1)), n.b + h * mx (n.st.map (·.1)))
def rowS (ns : List Nm) (h : Int) (x : Str) : S2 := match ns.find? (fun n => decide (n.x = x)) with | some n => nmSp h n | none => (0, 0)
def stOkN (ns : List Nm) : Prop := ∀ n ∈ ns, -1000000000000 < n.b ∧ n.b < 1000000000000 ∧ n.st.length ≤ 4 ∧ 1 ≤ n.st.length ∧ ∀ s ∈ n.st, -1000000000000 ≤ s.1 ∧ s.1 ≤ 1000000000000
theorem rowS_at {ns : List Nm} {h : Int} (nd : (ns.map (·.x)).Nodup) {n : Nm} (hn : n ∈ ns) : rowS ns h n.x = nmSp h n := by
  unfold rowS
  have : ns.find? (fun m => decide (m.x = n.x)) = some n := by
    induction ns with
    | nil => cases hn
    | cons m ms ih =>
      rw [List.map_cons, List.nodup_cons] at nd
      rw [List.find?_cons]
      by_cases e : m.x = n.x
      · rw [decide_eq_true e]
        rcases List.mem_cons.mp hn with rfl | hn
        · rfl
        · exact absurd (List.mem_map.mpr ⟨n, hn, e.symm⟩) nd.1
      · rw [decide_eq_false e]
        rcases List.mem_cons.mp hn with rfl | hn
        · exact absurd rfl e
        · exact ih nd.2 hn
  rw [this]
theorem mn_le {l : List Int} : mn l ≤ mx l := by
  cases l with
  | nil => exact Int.le_refl _
  | cons x r => exact (mx_is (l := x :: r) (by simp)).2 _ (mn_is (l := x :: r) (by simp)).1
theorem mul3 {h a : Int} (h0 : 0 ≤ h) (h1 : h ≤ 12) (a0 : -1000000000000 ≤ a) (a1 : a ≤ 1000000000000) : -12000000000000 ≤ h * a ∧ h * a ≤ 12000000000000 := by
  have : h = 0 ∨ h = 1 ∨ h = 2 ∨ h = 3 ∨ h = 4 ∨ h = 5 ∨ h = 6 ∨ h = 7 ∨ h = 8 ∨ h = 9 ∨ h = 10 ∨ h = 11 ∨ h = 12 := by omega
  rcases this with rfl | rfl | rfl | rfl | rfl | rfl | rfl | rfl | rfl | rfl | rfl | rfl | rfl <;> omega
theorem st_mn {n : Nm} (h : 1 ≤ n.st.length ∧ ∀ s ∈ n.st, -1000000000000 ≤ s.1 ∧ s.1 ≤ 1000000000000) : (-1000000000000 ≤ mn (n.st.map (·.1)) ∧ mn (n.st.map (·.1)) ≤ 1000000000000) ∧ (-1000000000000 ≤ mx (n.st.map (·.1)) ∧ mx (n.st.map (·.1)) ≤ 1000000000000) := by
  have ne : n.st.map (·.1) ≠ [] := fun z => by
    have := congrArg List.length z
    rw [List.length_map] at this
    simp at this
    rw [this] at h
    simp at h
  obtain ⟨s, hs, e⟩ := List.mem_map.mp (mn_is ne).1
  obtain ⟨t, ht, e2⟩ := List.mem_map.mp (mx_is ne).1
  rw [← e, ← e2]
  exact ⟨h.2 s hs, h.2 t ht⟩
theorem rowS_b {ns : List Nm} (ok : stOkN ns) {h : Int} (h0 : 0 ≤ h) (h1 : h ≤ 12) : RowB (rowS ns h) := fun x => by
  unfold rowS
  split
  · rename_i n e
    have hn := List.mem_of_find?_eq_some e
    obtain ⟨b0, b1, _, l1, s⟩ := ok n hn
    obtain ⟨⟨a1, a2⟩, a3, a4⟩ := st_mn ⟨l1, s⟩
    have := mul3 h0 h1 a1 a2
    have := mul3 h0 h1 a3 a4
    unfold nmSp
    constructor <;> (dsimp only; omega)
  · exact ⟨by decide, by decide⟩
theorem rowS_l {ns : List Nm} {h : Int} (h0 : 0 ≤ h) : RowL (rowS ns h) := fun x => by
  unfold rowS
  split
  · rename_i n e
    have := Int.mul_le_mul_of_nonneg_left (mn_le (l := n.st.map (·.1))) h0
    unfold nmSp
    dsimp only
    omega
  · exact Int.le_refl _
theorem sqt_erD {K : PySem.W.Frag} {H : Hp} {D p : Addr} {ws : List (Key × V)} {xs : List V} (hD : H D = some (.dK ws)) (h : SqT K H p xs) : SqT K (er D H) p xs := by
  rcases h with (h | ⟨o, h⟩) | h
  · exact .inl (.inl (by rw [er_ne (fun z => by rw [z, hD] at h; cases h)]; exact h))
  · exact .inl (.inr ⟨o, by rw [er_ne (fun z => by rw [z, hD] at h; cases h)]; exact h⟩)
  · exact .inr h
def spRowOf (K : PySem.W.Frag) (C : Addr) : Sp := fun vs H Q _ => ∃ (a : Addr) (la h : Int) (ns : List Nm), vs = [.ref a, .int h] ∧ DMk K C H la ns a ∧ ns.length ≤ 3 ∧ (ns.map (·.x)).Nodup ∧ stOkN ns ∧ 0 ≤ h ∧ h ≤ 12 ∧
  ∀ r H', Same H H' → H r = none → RwR H' (ns.map (·.x)) K (rowS ns h) r → Q (.ref r) H'
section
variable {P : Program} {w : World} {K : PySem.W.Frag} {mg : Str → Option Value} {base : Heap}
abbrev s__row_of : Stmt := topS 22
theorem sc__row_of : FnScope ["market", "hour", "row", "name", "number", "steps", "moves", "step", "weight"] ["market", "hour"] (defScope s__row_of) := ⟨rfl, rfl, rfl, by decide +kernel, rfl, by decide +kernel, by decide +kernel⟩
theorem h__row_of {k : Nat} {f : Addr} {fd : FuncData} (O : Own K mg "_row_of" s__row_of ["market", "hour"] f fd)  {C_Market : Addr} (cl_Market : Cls K C_Market) (n_Market_names : NoAttr K C_Market "names") (m_max : mg "max" = none) (m_min : mg "min" = none) : Has P w K mg base "_row_of" ["market", "hour"] (k + 1) CX0 (spRowOf K C_Market) f fd := by
  refine O.has (O.F.ok sc__row_of (fun vs H Q E h => ?_) (fun cdv A outer s H vs Q E hr h => ?_))
  · obtain ⟨a, la, h, ns, rfl, _⟩ := h
    rfl
  obtain ⟨a, la, h, ns, rfl, ⟨dx, t, us, ha, ht, hn⟩, hl, nd, ok, h0, h1, q⟩ := h
  refine ⟨_, (pss_cons (ps_set (i := 2) sc__row_of.nd rfl (.inl rfl) pe_dnewK) (pss_cons (ps_for PassesOwn.never rfl (pi_tup (pe_fld (pv 0) rfl)) (pg_tup rfl (pgs_cons (pg_name (i := 3) sc__row_of.nd rfl (.inl rfl)) (pgs_cons (pg_name (i := 4) sc__row_of.nd rfl (.inl rfl)) (pgs_cons (pg_name (i := 5) sc__row_of.nd rfl (.inl rfl)) pgs_nil)))) (pss_cons (ps_setLc (i := 6) (own := [("step", 7), ("weight", 8)]) (g := gTup K 2 (gCons (gName 7) (gCons (gName 8) gNil))) rfl sc__row_of.nd rfl rfl (sw_true rfl rfl rfl (by decide +kernel)) (pi_tup (pv 5)) (blkOk_by (own := [("step", 7), ("weight", 8)]) (N := ["market", "hour", "row", "name", "number", "steps", "moves", "step", "weight"]) (sc := defScope s__row_of) (by decide +kernel)) (fun _ _ _ _ _ => pg_tup rfl (pgs_cons (pg_name (i := 7) sc__row_of.nd rfl (.inl rfl)) (pgs_cons (pg_name (i := 8) sc__row_of.nd rfl (.inl rfl)) pgs_nil))) (fun _ _ _ _ _ => pts_nil) (fun _ _ _ _ _ => (pv 7))) (pss_one (ps_dput (hu_of hr) (pv 2) (pv 3) (pe_tup (pa_cons (pe_op op_add (pv 4) (pe_op op_mul (pv 1) (pe_callB (cr_min rfl) (by rfl) m_min (by decide +kernel) (pa_cons (pv 6) pa_nil)))) (pa_cons (pe_op op_add (pv 4) (pe_op op_mul (pv 1) (pe_callB (cr_max rfl) (by rfl) m_max (by decide +kernel) (pa_cons (pv 6) pa_nil)))) pa_nil))) (by rfl))))) (pss_one (ps_ret (pv 2))))), ?_⟩
  have ln := hn.len
  walk_at "go"
  intro D nD
  walk_at "go"
  have s1 := same_new (o := .dK []) nD
  refine g_rfld ?_
  walk_at "go"
  refine ⟨_, _, _, _, _, rfl, s1 _ _ ha, cl_Market, n_Market_names, rfl, ?_⟩
  walk_at "go"
  refine ⟨⟨_, SqT.same s1 ht⟩, for_it (walk_tup (xs := us)) (fun i σ Hc => ∃ y3 y4 y5 y6 y7 y8 kvs, σ = [some (.ref a), some (.int h), some (.ref D), y3, y4, y5, y6, y7, y8] ∧ Hc D = some (.dK kvs) ∧ kvs.length ≤ i ∧ (∀ j n, j < i → ns[j]? = some n → ∃ p, valV kvs (.inr n.x) = some (.ref p) ∧ SqT K (er D Hc) p [.int (nmSp h n).1, .int (nmSp h n).2]) ∧ Same H (er D Hc))
    ⟨_, _, _, _, _, _, [], rfl, upd_same, Nat.le_refl _, fun j n hj => absurd hj (by omega), by rw [er_upd, er_new nD]; exact .refl _⟩ (fun i σ Hc _ hW => ?_) (fun i x σ Hc Hc' hi hW hy => ?_) (fun σ Hc hW => ?_)⟩
  · obtain ⟨_, _, _, _, _, _, _, _, _, _, _, e⟩ := hW
    exact SqT.same (e.trans er_sub) ht
  · obtain ⟨y3, y4, y5, y6, y7, y8, kvs, rfl, hD, lk, hk, e⟩ := hW
    obtain ⟨rfl, hx⟩ := hy
    have lt : i < ns.length := by omega
    have hni : ns[i]? = some ns[i] := List.getElem?_eq_getElem lt
    obtain ⟨x', hx', p, q', vs, rfl, hp, hq', hst⟩ := hn.at hni
    cases Option.some.inj (hx'.symm.trans hx)
    have hmem := List.getElem_mem lt
    obtain ⟨b0, b1, l4, l1, sb⟩ := ok _ hmem
    obtain ⟨⟨m1, m2⟩, m3, m4⟩ := st_mn ⟨l1, sb⟩
    have em := e.trans er_sub
    have uniq : ∀ j n, j < i → ns[j]? = some n → n.x ≠ ns[i].x := fun j n hj hn2 z => by
      have ne := List.pairwise_iff_getElem.mp nd j i (by rw [List.length_map]; omega) (by rw [List.length_map]; exact lt) hj
      simp only [List.getElem_map] at ne
      obtain ⟨_, e3⟩ := List.getElem?_eq_some_iff.mp hn2
      rw [e3] at ne
      exact ne z
    have hnext : ∀ n : Nm, ns[i]? = some n → n = ns[i] := fun n z => Option.some.inj (z.symm.trans hni)
    have ls := hst.len
    generalize hnm : ns[i] = nm at hp hst hmem l4 l1 sb b0 b1 m1 m2 m3 m4 uniq hnext ls
    refine g_gtup (SqT.same em hp) rfl ?_
    walk_at "go"
    refine ⟨⟨_, SqT.same em hq'⟩, fun M nM => lc_tup (xs := vs) (fun k Hd => Hd M = some (.lst (((nm.st.take k).map (·.1)).map V.int)) ∧ Same Hc' Hd) ⟨upd_same, same_new nM⟩ (fun k Hd _ hV => SqT.same (em.trans hV.2) hq') (fun k x Hd hx2 hV => ?_) (fun Hd hV => ?_)⟩
    · obtain ⟨hM, eM⟩ := hV
      have hk2 : k < nm.st.length := by have := (List.getElem?_eq_some_iff.mp hx2).1; omega
      have hsk : nm.st[k]? = some nm.st[k] := List.getElem?_eq_getElem hk2
      obtain ⟨x', hx', ps, rfl, hps⟩ := hst.at hsk
      cases Option.some.inj (hx'.symm.trans hx2)
      refine g_gtup (SqT.same (em.trans eM) hps) rfl ?_
      walk_at "go"
      refine ⟨_, hM, by rw [List.length_map, List.length_map, List.length_take]; exact small1000 (by omega), ?_, fun b o h => by rw [upd_ne (ne_of_none h nM)]; exact eM _ _ h⟩
      rw [upd_same, List.take_succ, hsk, List.map_append, List.map_append]
      rfl
    · obtain ⟨hM, eM⟩ := hV
      rw [List.take_of_length_le (by omega)] at hM
      walk_at "go"
      have ne : nm.st.map (·.1) ≠ [] := fun z => by
        have := congrArg List.length z
        rw [List.length_map] at this
        rw [this] at l1
        simp at l1
      refine ⟨M, nm.st.map (·.1), rfl, sql hM, List.length_pos_iff.mpr ne, fun a1 a2 a3 => ?_⟩
      obtain rfl := mn_eq a2 a3
      have u1 := mul3 h0 h1 m1 m2
      have u2 := mul3 h0 h1 m3 m4
      refine g_I (.inr ⟨by omega, by omega⟩) ?_
      walk_at "go"
      refine ⟨M, nm.st.map (·.1), rfl, sql hM, List.length_pos_iff.mpr ne, fun a1 a2 a3 => ?_⟩
      obtain rfl := mx_eq a2 a3
      refine g_I (.inr ⟨by omega, by omega⟩) ?_
      walk_at "go"
      refine ⟨by show 2 ≤ sizeLine; decide, fun T nT => ?_⟩
      have s4 := same_new (o := .tup [.int (nm.b + h * mn (nm.st.map (·.1))), .int (nm.b + h * mx (nm.st.map (·.1)))]) nT
      have hT : SqT K (upd Hd T (.tup [.int (nm.b + h * mn (nm.st.map (·.1))), .int (nm.b + h * mx (nm.st.map (·.1)))])) T [.int (nmSp h nm).1, .int (nmSp h nm).2] := sqt upd_same
      have e4 := eM.trans s4
      generalize upd Hd T (.tup [.int (nm.b + h * mn (nm.st.map (·.1))), .int (nm.b + h * mx (nm.st.map (·.1)))]) = H4 at e4 hT ⊢
      walk_at "go"
      refine g_put (e4 _ _ hD) (small1000 (by omega)) rfl ?_
      refine ⟨_, _, _, _, _, _, _, rfl, upd_same, Nat.le_trans (length_putK _ _ _) (by omega), fun j n hj hn2 => ?_, by rw [er_upd]; exact e.trans (er_same e4)⟩
      rw [er_upd, valV_put]
      by_cases c : j = i
      · subst c
        obtain rfl := hnext n hn2
        rw [if_pos rfl]
        exact ⟨T, rfl, sqt_erD (e4 _ _ hD) hT⟩
      · obtain ⟨p2, hp2, sp2⟩ := hk j n (by omega) hn2
        rw [if_neg (fun z => uniq j n (by omega) hn2 (Sum.inr.inj z))]
        exact ⟨p2, hp2, SqT.same (er_same e4) sp2⟩
  · obtain ⟨y3, y4, y5, y6, y7, y8, kvs, rfl, hD, lk, hk, e⟩ := hW
    walk_at "go"
    refine q D Hc (e.trans er_sub) nD ⟨kvs, hD, fun x hx => ?_⟩
    obtain ⟨n, hn2, rfl⟩ := List.mem_map.mp hx
    obtain ⟨j, hj, e3⟩ := List.getElem_of_mem hn2
    obtain ⟨p, hp, sp⟩ := hk j n (by omega) (by rw [List.getElem?_eq_getElem hj, e3])
    rw [rowS_at nd hn2]
    exact ⟨p, hp, SqT.same er_sub sp⟩
end

/-! ### the courses of a contract -/
theorem Con.is_none : ∀ t : Con, t.word = "none" → t = .none := fun t h => by
  cases t <;> first | rfl | exact absurd h (by dsimp only [Con.word]; decide +kernel)
theorem Con.is_give : ∀ t : Con, t.word = "give" → ∃ a b g o, t = .give a b g o := fun t h => by
  cases t <;> first | exact ⟨_, _, _, _, rfl⟩ | exact absurd h (by dsimp only [Con.word]; decide +kernel)
theorem Con.is_turned : ∀ t : Con, t.word = "turned" → ∃ a b c, t = .turned a b c := fun t h => by
  cases t <;> first | exact ⟨_, _, _, rfl⟩ | exact absurd h (by dsimp only [Con.word]; decide +kernel)
theorem Con.is_both : ∀ t : Con, t.word = "both" → ∃ c d, t = .both c d := fun t h => by
  cases t <;> first | exact ⟨_, _, rfl⟩ | exact absurd h (by dsimp only [Con.word]; decide +kernel)
theorem Con.is_later : ∀ t : Con, t.word = "later" → ∃ n c, t = .later n c := fun t h => by
  cases t <;> first | exact ⟨_, _, rfl⟩ | exact absurd h (by dsimp only [Con.word]; decide +kernel)
theorem Con.is_often : ∀ t : Con, t.word = "often" → ∃ n g c, t = .often n g c := fun t h => by
  cases t <;> first | exact ⟨_, _, _, rfl⟩ | exact absurd h (by dsimp only [Con.word]; decide +kernel)
theorem foldr_congr {α β : Type} {f g : α → β → β} {b : β} : ∀ {l : List α}, (∀ a r, a ∈ l → f a r = g a r) → l.foldr f b = l.foldr g b
  | [], _ => rfl
  | a :: l, h => by
    rw [List.foldr_cons, List.foldr_cons, foldr_congr fun a r ha => h a r (List.mem_cons_of_mem _ ha)]
    exact h _ _ List.mem_cons_self
theorem Con.asks (t : Con) (h : ¬ t.word = "none" ∧ ¬ t.word = "give" ∧ ¬ t.word = "turned" ∧ ¬ t.word = "both" ∧ ¬ t.word = "later" ∧ ¬ t.word = "often") : ∃ q, t.pre = [.cond q] ∧ ((t.word = "if" ∧ ∃ c d, t = .ite q c d) ∨ (t.word = "when" ∧ ∃ c, t = .whn q c) ∨ (t.word = "until" ∧ ∃ c, t = .untl q c)) := by
  obtain ⟨a, b, c, d, e, f⟩ := h
  cases t with
  | none => exact absurd rfl a
  | give _ _ _ _ => exact absurd rfl b
  | turned _ _ _ => exact absurd rfl c
  | both _ _ => exact absurd rfl d
  | later _ _ => exact absurd rfl e
  | often _ _ _ => exact absurd rfl f
  | ite q c d => exact ⟨q, rfl, .inl ⟨rfl, _, _, rfl⟩⟩
  | whn q c => exact ⟨q, rfl, .inr (.inl ⟨rfl, _, rfl⟩)⟩
  | untl q c => exact ⟨q, rfl, .inr (.inr ⟨rfl, _, rfl⟩)⟩
theorem All2.two_inv {α β : Type} {Rel : α → β → Prop} {a b : α} : ∀ {zs : List β}, All2 Rel [a, b] zs → ∃ x y, zs = [x, y] ∧ Rel a x ∧ Rel b y
  | [_, _], h => ⟨_, _, rfl, h.1, h.2.1⟩
  | [], h => h.elim
  | [_], h => h.2.elim
  | _ :: _ :: _ :: _, h => h.2.2.elim
theorem All2.one_inv {α β : Type} {Rel : α → β → Prop} {a : α} : ∀ {zs : List β}, All2 Rel [a] zs → ∃ x, zs = [x] ∧ Rel a x
  | [_], h => ⟨_, rfl, h.1⟩
  | [], h => h.elim
  | _ :: _ :: _, h => h.2.elim
theorem repL_all {m : Nat} {f : Nat → Crs} (late : ∀ k, m ≤ k → f k = noth m) (hs : List Nat) : repL m hs ((List.range m).map f) = (List.range m).map fun b => sumC m (hs.map fun h => f (b + h)) := by
  unfold repL
  refine List.map_congr_left fun b hb => ?_
  have e := sum_late (n := m) (f := f) late (hs.map fun h => b + h)
  rw [List.map_map, List.filter_map, List.map_map] at e
  have e : sumC m (hs.map fun h => f (b + h)) = sumC m ((hs.filter fun h => decide (b + h < m)).map fun h => f (b + h)) := e
  rw [e]
  refine congrArg (sumC m) (List.map_congr_left fun h hh => ?_)
  have := of_decide_eq_true (List.mem_filter.mp hh).2
  rw [List.getD_eq_getElem?_getD, List.getElem?_map, List.getElem?_range this]
  rfl
/-- the courses of a contract, by the hours at which it begins; all was laid since H0 -/
def LcN (K : PySem.W.Frag) (H0 : Hp) (n : Nat) (f : Con → Nat → Crs) (H : Hp) (c : Con) (v : V) : Prop := ∃ p ys, v = .ref p ∧ H0 p = none ∧ SqL K H p ys ∧ All2 (CrN K H0 H) ((List.range n).map (f c)) ys
theorem LcN.same {K : PySem.W.Frag} {H0 : Hp} {n : Nat} {f : Con → Nat → Crs} {H H' : Hp} (e : Same H H') : ∀ c v, LcN K H0 n f H c v → LcN K H0 n f H' c v := fun _ _ ⟨p, ys, h1, h2, h3, h4⟩ => ⟨p, ys, h1, h2, e.seq h3, h4.mono (CrN.same e)⟩
theorem LcN.er {K : PySem.W.Frag} {H0 Hc H : Hp} {n : Nat} {f : Con → Nat → Crs} {D : Addr} {ws us : List V} (e : Same H0 (er D Hc)) (hc : Hc D = some (.lst us)) (hD : H D = some (.lst ws)) {c : Con} {v : V} (h : LcN K Hc n f H c v) : LcN K H0 n f (Bk.er D H) c v := by
  obtain ⟨p, ys, h1, h2, h3, h4⟩ := h
  have ne : p ≠ D := fun z => by rw [z, hc] at h2; cases h2
  exact ⟨p, ys, h1, fresh_same (e.trans er_sub) h2, SqL.er ne h3, h4.mono fun _ _ => CrN.er e hc hD⟩
theorem Fl.call {K : PySem.W.Frag} {H H0 Hc H5 : Hp} {D : Addr} {as : List Crs} {c : Crs} {w : V} (h0 : Same H H0) (f : Fl (CrN K H) H0 D as Hc) (e5 : Same Hc H5) (hw : CrN K Hc H5 c w) (hl : as.length < 4000) :
    ∃ acc, H5 D = some (.lst acc) ∧ acc.length < sizeLine ∧ Fl (CrN K H) H0 D (as ++ [c]) (upd H5 D (.lst (acc ++ [w]))) := by
  obtain ⟨us, hc, _⟩ := f.l
  exact f.step CrN.same e5 (fun zs hz => CrN.er (h0.trans f.e) hc hz hw) hl
theorem sl_listK {X : Cx} {K : PySem.W.Frag} (h : X.K = K) : SlR X (rSlL K) := by
  subst h
  exact sl_list
theorem g_enumL {K : PySem.W.Frag} {ta : TA} {σ : L2.St} {H : Hp} {R : It → Hp → Prop} (h : ta σ H fun vs H1 => ∃ a xs, vs = [.ref a] ∧ SqL K H1 a xs ∧ R (Ite K a) H1) : iEnum K ta σ H R := h
def spCrs (K : PySem.W.Frag) (N : Nat) : Sp := fun vs H Q _ => ∃ (v : V) (t : Con) (l : Addr) (as : List V) (n : Nat) (s gd : Str) (xs : List Str) (R : Nat → Str → S2), vs = [v, .ref l, .str s, .str gd] ∧ DK K H t v ∧ SqL K H l as ∧ RsR H xs K n R as ∧ n ≤ 100 ∧ t.In xs ∧ t.deep < N ∧ (∀ k < n, RowB (R k)) ∧
  ∀ D ys H', Same H H' → H D = none → H' D = some (.lst ys) → All2 (CrN K H H') ((List.range n).map (cw n R gd t s)) ys → Q (.ref D) H'
theorem use_crs {K : PySem.W.Frag} {N : Nat} {v : V} {t : Con} {l : Addr} {as : List V} {n : Nat} {s gd : Str} {xs : List Str} {R : Nat → Str → S2} {H : Hp} {Q : VK} {E : XK} (h1 : DK K H t v) (h2 : SqL K H l as) (h3 : RsR H xs K n R as) (h4 : n ≤ 100) (h5 : t.In xs) (h6 : t.deep < N) (h7 : ∀ k < n, RowB (R k))
    (q : ∀ D ys H', Same H H' → H D = none → H' D = some (.lst ys) → All2 (CrN K H H') ((List.range n).map (cw n R gd t s)) ys → Q (.ref D) H') : spCrs K N ([v, .ref l, .str s, .str gd] ++ []) H Q E := ⟨v, t, l, as, n, s, gd, xs, R, rfl, h1, h2, h3, h4, h5, h6, h7, q⟩
theorem none_crs {P : Program} {w : World} {K : PySem.W.Frag} {mg : Str → Option Value} {base : Heap} {f : Addr} {fd : FuncData} {ps : List Str} : FnOk P w K mg base CX0 0 f fd ps (spCrs K 0) := by
  have no : ∀ vs H Q E, ¬ spCrs K 0 vs H Q E := fun vs H Q E h => by
    obtain ⟨v, t, l, as, n, s, gd, xs, R, _, _, _, _, _, _, h1, _⟩ := h
    omega
  exact ⟨fun vs H Q E h => absurd h (no vs H Q E), fun A outer s H args us vs Q E _ _ _ _ h => absurd h (no vs H Q E)⟩
section
variable {P : Program} {w : World} {K : PySem.W.Frag} {mg : Str → Option Value} {base : Heap}
abbrev s__courses : Stmt := topS 23
theorem sc__courses : FnScope ["contract", "rows", "side", "good", "word", "inner", "cans", "part", "row", "hour", "course", "_", "one", "other", "can"] ["contract", "rows", "side", "good"] (defScope s__courses) := ⟨rfl, rfl, rfl, by decide +kernel, rfl, by decide +kernel, by decide +kernel⟩
theorem h__courses {n : Nat} {k : Nat} {f : Addr} {fd : FuncData} (O : Own K mg "_courses" s__courses ["contract", "rows", "side", "good"] f fd)  {f__ended : Addr} {fd__ended : FuncData} (D__ended : Has P w K mg base "_ended" ["cans", "begin", "course"] k CX0 (spEnd K) f__ended fd__ended) {f__awaited : Addr} {fd__awaited : FuncData} (D__awaited : Has P w K mg base "_awaited" ["cans", "courses"] k CX0 (spAwt K) f__awaited fd__awaited) {f__chosen : Addr} {fd__chosen : FuncData} (D__chosen : Has P w K mg base "_chosen" ["can", "one", "other"] k CX0 (spChosen K) f__chosen fd__chosen) {f__can : Addr} {fd__can : FuncData} (D__can : Has P w K mg base "_can" ["asked", "row"] k CX0 (spCan K 4) f__can fd__can) {f__repeated : Addr} {fd__repeated : FuncData} (D__repeated : Has P w K mg base "_repeated" ["times", "wait", "gap", "courses"] k CX0 (spRep K) f__repeated fd__repeated) {f__summed : Addr} {fd__summed : FuncData} (D__summed : Has P w K mg base "_summed" ["courses", "rows"] k CX0 (spSummed K) f__summed fd__summed) {f_contracts_in : Addr} {fd_contracts_in : FuncData} (D_contracts_in : Has P w K mg base "contracts_in" ["contract"] k CX0 (spCIn K) f_contracts_in fd_contracts_in) {f__courses : Addr} {fd__courses : FuncData} (D__courses : Has P w K mg base "_courses" ["contract", "rows", "side", "good"] k CX0 (spCrs K n) f__courses fd__courses) {f_turned_side : Addr} {fd_turned_side : FuncData} (D_turned_side : Has P w K mg base "turned_side" ["side", "one", "other"] k CX0 spTsd f_turned_side fd_turned_side) {f__given : Addr} {fd__given : FuncData} (D__given : Has P w K mg base "_given" ["give", "rows", "hour", "side", "good"] k CX0 (spGiven K) f__given fd__given) {f__nothing : Addr} {fd__nothing : FuncData} (D__nothing : Has P w K mg base "_nothing" ["rows"] k CX0 (spNothing K) f__nothing fd__nothing) (m_enumerate : mg "enumerate" = none) (m_zip : mg "zip" = none) (m_range : mg "range" = none) (m_len : mg "len" = none) : Has P w K mg base "_courses" ["contract", "rows", "side", "good"] (k + 1) CX0 (spCrs K (n + 1)) f fd := by
  refine O.has (O.F.ok sc__courses (fun vs H Q E h => ?_) (fun cdv A outer s H vs Q E hr h => ?_))
  · obtain ⟨v, t, l, as, n, s, gd, xs, R, rfl, _⟩ := h
    rfl
  obtain ⟨v, t, l, as, m, s, gd, xs, R, rfl, hd, hl, hrs, m100, ti, td, rb, q⟩ := h
  refine ⟨_, (pss_cons (ps_set (i := 4) sc__courses.nd rfl (.inl rfl) (pe_ix ix_tup (pv 0) pe_int (fun _ _ => rfl))) (pss_cons (ps_if (pt_cmpR op_eq (pv 4) pe_str (nomark _)) (pss_one (ps_ret (pe_lc (own := [("_", 11)]) (g := gName 11) rfl sc__courses.nd (pi_list (pv 1)) (blkOk_by (own := [("_", 11)]) (N := ["contract", "rows", "side", "good", "word", "inner", "cans", "part", "row", "hour", "course", "_", "one", "other", "can"]) (sc := defScope s__courses) (by decide +kernel)) (fun _ _ _ _ _ => pg_name (i := 11) sc__courses.nd rfl (.inl rfl)) (fun _ _ _ _ _ => pts_nil) (fun _ _ _ _ _ => (pe_call D__nothing.G hr (by rfl) D__nothing.g D__nothing.k D__nothing.b .nil pass0 (pa_cons (pv 1) pa_nil)))))) pss_nil) (pss_cons (ps_if (pt_cmpR op_eq (pv 4) pe_str (nomark _)) (pss_one (ps_ret (pe_lc (own := [("hour", 9)]) (g := gName 9) rfl sc__courses.nd (pi_range1 (by rfl) m_range (pa_cons (pe_callB call_len_seq (by rfl) m_len (by decide +kernel) (pa_cons (pv 1) pa_nil)) pa_nil)) (blkOk_by (own := [("hour", 9)]) (N := ["contract", "rows", "side", "good", "word", "inner", "cans", "part", "row", "hour", "course", "_", "one", "other", "can"]) (sc := defScope s__courses) (by decide +kernel)) (fun _ _ _ _ _ => pg_name (i := 9) sc__courses.nd rfl (.inl rfl)) (fun _ _ _ _ _ => pts_nil) (fun _ _ _ _ _ => (pe_call D__given.G hr (by rfl) D__given.g D__given.k D__given.b .nil pass0 (pa_cons (pv 0) (pa_cons (pv 1) (pa_cons (pv 9) (pa_cons (pv 2) (pa_cons (pv 3) pa_nil)))))))))) pss_nil) (pss_cons (ps_if (pt_cmpR op_eq (pv 4) pe_str (nomark _)) (pss_one (ps_ret (pe_call D__courses.G hr (by rfl) D__courses.g D__courses.k D__courses.b .nil pass0 (pa_cons (pe_ix ix_tup (pv 0) pe_int (fun _ _ => rfl)) (pa_cons (pv 1) (pa_cons (pe_call D_turned_side.G hr (by rfl) D_turned_side.g D_turned_side.k D_turned_side.b .nil pass0 (pa_cons (pv 2) (pa_cons (pe_ix ix_tup (pv 0) pe_int (fun _ _ => rfl)) (pa_cons (pe_ix ix_tup (pv 0) pe_int (fun _ _ => rfl)) pa_nil)))) (pa_cons (pv 3) pa_nil))))))) pss_nil) (pss_cons (ps_setLc (i := 5) (own := [("part", 7)]) (g := gName 7) rfl sc__courses.nd rfl rfl (sw_true rfl rfl rfl (by decide +kernel)) (pi_list (pe_call D_contracts_in.G hr (by rfl) D_contracts_in.g D_contracts_in.k D_contracts_in.b .nil pass0 (pa_cons (pv 0) pa_nil))) (blkOk_by (own := [("part", 7)]) (N := ["contract", "rows", "side", "good", "word", "inner", "cans", "part", "row", "hour", "course", "_", "one", "other", "can"]) (sc := defScope s__courses) (by decide +kernel)) (fun _ _ _ _ _ => pg_name (i := 7) sc__courses.nd rfl (.inl rfl)) (fun _ _ _ _ _ => pts_nil) (fun _ _ _ _ _ => (pe_call D__courses.G hr (by rfl) D__courses.g D__courses.k D__courses.b .nil pass0 (pa_cons (pv 7) (pa_cons (pv 1) (pa_cons (pv 2) (pa_cons (pv 3) pa_nil))))))) (pss_cons (ps_if (pt_cmpR op_eq (pv 4) pe_str (nomark _)) (pss_one (ps_ret (pe_lc (own := [("one", 12), ("other", 13)]) (g := gTup K 2 (gCons (gName 12) (gCons (gName 13) gNil))) rfl sc__courses.nd (pi_zip (by rfl) m_zip (pa_cons (pe_ix ix_list (pv 5) pe_int (fun _ _ => rfl)) (pa_cons (pe_ix ix_list (pv 5) pe_int (fun _ _ => rfl)) pa_nil))) (blkOk_by (own := [("one", 12), ("other", 13)]) (N := ["contract", "rows", "side", "good", "word", "inner", "cans", "part", "row", "hour", "course", "_", "one", "other", "can"]) (sc := defScope s__courses) (by decide +kernel)) (fun _ _ _ _ _ => pg_tup rfl (pgs_cons (pg_name (i := 12) sc__courses.nd rfl (.inl rfl)) (pgs_cons (pg_name (i := 13) sc__courses.nd rfl (.inl rfl)) pgs_nil))) (fun _ _ _ _ _ => pts_nil) (fun _ _ _ _ _ => (pe_call D__summed.G hr (by rfl) D__summed.g D__summed.k D__summed.b .nil pass0 (pa_cons (pe_lst (pa_cons (pv 12) (pa_cons (pv 13) pa_nil))) (pa_cons (pv 1) pa_nil))))))) pss_nil) (pss_cons (ps_if (pt_cmpR op_eq (pv 4) pe_str (nomark _)) (pss_one (ps_ret (pe_call D__repeated.G hr (by rfl) D__repeated.g D__repeated.k D__repeated.b .nil pass0 (pa_cons pe_int (pa_cons (pe_ix ix_tup (pv 0) pe_int (fun _ _ => rfl)) (pa_cons pe_int (pa_cons (pe_ix ix_list (pv 5) pe_int (fun _ _ => rfl)) pa_nil))))))) pss_nil) (pss_cons (ps_if (pt_cmpR op_eq (pv 4) pe_str (nomark _)) (pss_one (ps_ret (pe_call D__repeated.G hr (by rfl) D__repeated.g D__repeated.k D__repeated.b .nil pass0 (pa_cons (pe_ix ix_tup (pv 0) pe_int (fun _ _ => rfl)) (pa_cons pe_int (pa_cons (pe_ix ix_tup (pv 0) pe_int (fun _ _ => rfl)) (pa_cons (pe_ix ix_list (pv 5) pe_int (fun _ _ => rfl)) pa_nil))))))) pss_nil) (pss_cons (ps_set (i := 6) sc__courses.nd rfl (.inr rfl) (pe_lc (own := [("row", 8)]) (g := gName 8) rfl sc__courses.nd (pi_list (pv 1)) (blkOk_by (own := [("row", 8)]) (N := ["contract", "rows", "side", "good", "word", "inner", "cans", "part", "row", "hour", "course", "_", "one", "other", "can"]) (sc := defScope s__courses) (by decide +kernel)) (fun _ _ _ _ _ => pg_name (i := 8) sc__courses.nd rfl (.inl rfl)) (fun _ _ _ _ _ => pts_nil) (fun _ _ _ _ _ => (pe_call D__can.G hr (by rfl) D__can.g D__can.k D__can.b .nil pass0 (pa_cons (pe_ix (r := rIxT K) ix_tup (pv 0) pe_int (fun _ _ => rfl)) (pa_cons (pv 8) pa_nil)))))) (pss_cons (ps_if (pt_cmpR op_eq (pv 4) pe_str (nomark _)) (pss_one (ps_ret (pe_lc (own := [("can", 14), ("one", 12), ("other", 13)]) (g := gTup K 3 (gCons (gName 14) (gCons (gName 12) (gCons (gName 13) gNil)))) rfl sc__courses.nd (pi_zip3 (by rfl) m_zip (pa_cons (pv 6) (pa_cons (pe_ix ix_list (pv 5) pe_int (fun _ _ => rfl)) (pa_cons (pe_ix ix_list (pv 5) pe_int (fun _ _ => rfl)) pa_nil)))) (blkOk_by (own := [("can", 14), ("one", 12), ("other", 13)]) (N := ["contract", "rows", "side", "good", "word", "inner", "cans", "part", "row", "hour", "course", "_", "one", "other", "can"]) (sc := defScope s__courses) (by decide +kernel)) (fun _ _ _ _ _ => pg_tup rfl (pgs_cons (pg_name (i := 14) sc__courses.nd rfl (.inl rfl)) (pgs_cons (pg_name (i := 12) sc__courses.nd rfl (.inl rfl)) (pgs_cons (pg_name (i := 13) sc__courses.nd rfl (.inl rfl)) pgs_nil)))) (fun _ _ _ _ _ => pts_nil) (fun _ _ _ _ _ => (pe_call D__chosen.G hr (by rfl) D__chosen.g D__chosen.k D__chosen.b .nil pass0 (pa_cons (pv 14) (pa_cons (pv 12) (pa_cons (pv 13) pa_nil)))))))) pss_nil) (pss_cons (ps_if (pt_cmpR op_eq (pv 4) pe_str (nomark _)) (pss_one (ps_ret (pe_call D__awaited.G hr (by rfl) D__awaited.g D__awaited.k D__awaited.b .nil pass0 (pa_cons (pv 6) (pa_cons (pe_ix ix_list (pv 5) pe_int (fun _ _ => rfl)) pa_nil))))) pss_nil) (pss_one (ps_ret (pe_lc (own := [("hour", 9), ("course", 10)]) (g := gTup K 2 (gCons (gName 9) (gCons (gName 10) gNil))) rfl sc__courses.nd (pi_enum (by rfl) m_enumerate (pa_cons (pe_ix ix_list (pv 5) pe_int (fun _ _ => rfl)) pa_nil)) (blkOk_by (own := [("hour", 9), ("course", 10)]) (N := ["contract", "rows", "side", "good", "word", "inner", "cans", "part", "row", "hour", "course", "_", "one", "other", "can"]) (sc := defScope s__courses) (by decide +kernel)) (fun _ _ _ _ _ => pg_tup rfl (pgs_cons (pg_name (i := 9) sc__courses.nd rfl (.inl rfl)) (pgs_cons (pg_name (i := 10) sc__courses.nd rfl (.inl rfl)) pgs_nil))) (fun _ _ _ _ _ => pts_nil) (fun _ _ _ _ _ => (pe_call D__ended.G hr (by rfl) D__ended.g D__ended.k D__ended.b .nil pass0 (pa_cons (pe_slice (sl_listK (K := K) rfl) (pv 6) (po_some (pv 9)) po_none) (pa_cons (pv 9) (pa_cons (pv 10) pa_nil))))))))))))))))))), ?_⟩
  have la := hrs.1
  obtain ⟨p, vs, us, rfl, hp, h1, h2⟩ := hd.parts
  walk_at "go"
  refine ⟨_, _, _, _, rfl, rfl, hp, at_any (j := 0) rfl rfl, ?_⟩
  walk_at "go"
  refine ifd (fun c1 => ?_) (fun c1 => ?_)
  · obtain rfl := t.is_none c1
    walk_at "go"
    refine ⟨⟨_, hl⟩, fun D nD => lc_list (xs := as) (fun i Hc => Fl (CrN K H) H D ((List.range i).map (cw m R gd .none s)) Hc) (Fl.start nD) (fun i Hc _ f => f.sub.seq hl) (fun i x Hc hx f => ?_) (fun Hc f => ?_)⟩
    · have hi := (List.getElem?_eq_some_iff.mp hx).1
      walk_at "go"
      refine ⟨l, as, rfl, f.sub.seq hl, by omega, fun w1 H5 e5 hw => ?_⟩
      obtain ⟨p5, ys, rfl, n5, hp5, hys⟩ := hw
      rw [la] at hys
      rw [range_snoc]
      exact Fl.call (.refl _) f e5 ⟨p5, ys, rfl, n5, sql hp5, hys⟩ (by rw [List.length_map, List.length_range]; omega)
    · obtain ⟨ys, hD, hys, e⟩ := f.fin CrN.same
      rw [la] at hys
      walk_at "go"
      exact q D ys Hc e nD hD hys
  walk_at "go"
  refine ifd (fun c2 => ?_) (fun c2 => ?_)
  · obtain ⟨a, b, g, o, rfl⟩ := t.is_give c2
    obtain ⟨⟨_, ab⟩, oi, od⟩ := ti
    walk_at "go"
    refine ⟨_, _, rfl, .inl hl, ?_⟩
    walk_at "go"
    refine ⟨by omega, by omega, fun D nD => lc_range (lo := 0) (n := as.length) (fun i Hc => Fl (CrN K H) H D ((List.range i).map (cw m R gd (.give a b g o) s)) Hc) (Fl.start nD) (fun i Hc hi f => ?_) (fun Hc f => ?_)⟩
    · walk_at "go"
      refine ⟨_, l, as, i, m, s, gd, a, b, g, o, xs, R, by rw [Int.zero_add]; rfl, DK.tm (.of f.sub) hd, f.sub.seq hl, ⟨la, fun k hk => (hrs.same f.sub).2 k hk⟩, by omega, m100, ab, oi, od, rb i (by omega), fun w1 H5 e5 hw => ?_⟩
      rw [range_snoc]
      exact Fl.call (.refl _) f e5 hw (by rw [List.length_map, List.length_range]; omega)
    · obtain ⟨ys, hD, hys, e⟩ := f.fin CrN.same
      rw [la] at hys
      walk_at "go"
      exact q D ys Hc e nD hD hys
  walk_at "go"
  refine ifd (fun c3 => ?_) (fun c3 => ?_)
  · obtain ⟨a, b, d, rfl⟩ := t.is_turned c3
    obtain ⟨p', u, ep, hp', hu⟩ := hd
    cases ep
    have td : d.deep + 1 < n + 1 := td
    walk_at "go"
    refine ⟨_, _, _, _, rfl, rfl, hp', at_any (j := 3) rfl rfl, ?_⟩
    walk_at "go"
    refine ⟨_, _, _, _, rfl, rfl, hp', at_any (j := 1) rfl rfl, ?_⟩
    walk_at "go"
    refine ⟨_, _, _, _, rfl, rfl, hp', at_any (j := 2) rfl rfl, ?_⟩
    walk_at "go"
    refine ⟨s, a, b, rfl, ?_⟩
    walk_at "go"
    refine use_crs hu hl hrs m100 ti.2 (by omega) rb fun D ys H' e nD hD hys => ?_
    refine q D ys H' e nD hD ?_
    have ev : (List.range m).map (cw m R gd (.turned a b d) s) = (List.range m).map (cw m R gd d (tsd s a b)) := List.map_congr_left fun k hk => by
      have := List.mem_range.mp hk
      show (if k ≥ m then noth m else cw m R gd d (tsd s a b) k) = _
      rw [if_neg (by omega)]
    rw [ev]
    exact hys
  walk_at "go"
  refine use_cin hd fun D1 us1 H1 e1 n1 hD1 hus1 => ?_
  have lus := hus1.len
  have lin := t.ins_few
  have tin : ∀ c ∈ t.ins, c.In xs := fun c hc => by
    cases t <;> simp only [Con.ins, List.mem_cons, List.not_mem_nil, or_false] at hc
    · rcases hc with rfl | rfl
      · exact ti.1
      · exact ti.2
    · subst hc; exact ti.2
    · subst hc; exact ti.2
    · subst hc; exact ti.2.2
    · rcases hc with rfl | rfl
      · exact ti.2.1
      · exact ti.2.2
    · subst hc; exact ti.2
    · subst hc; exact ti.2
  walk_at "go"
  refine ⟨⟨_, sql hD1⟩, fun D nD => lc_list (xs := us1) (fun i Hc => Fl (LcN K H m fun c => cw m R gd c s) H1 D (t.ins.take i) Hc) (Fl.start nD) (fun i Hc _ f => f.sub.seq (sql hD1)) (fun i x Hc hx f => ?_) (fun Hc f => ?_)⟩
  · have hi := (List.getElem?_eq_some_iff.mp hx).1
    have hci : t.ins[i]? = some (t.ins[i]'(by omega)) := List.getElem?_eq_getElem (by omega)
    obtain ⟨x', hx', dx⟩ := hus1.at hci
    cases Option.some.inj (hx'.symm.trans hx)
    have mem : t.ins[i]'(by omega) ∈ t.ins := List.getElem_mem _
    rw [List.take_succ, hci]
    generalize t.ins[i]'(by omega) = ci at dx mem ⊢
    have dp := Con.ins_deep mem
    walk_at "go"
    refine use_crs (DK.tm (.of f.sub) dx) ((e1.trans f.sub).seq hl) (hrs.same (e1.trans f.sub)) m100 (tin _ mem) (by omega) rb fun D2 ys H5 e5 nD2 hD2 hys => ?_
    obtain ⟨us0, hc0, _⟩ := f.l
    exact f.step LcN.same e5 (fun zs hz => LcN.er (e1.trans f.e) hc0 hz ⟨D2, ys, rfl, nD2, sql hD2, hys⟩) (by rw [List.length_take]; omega)
  obtain ⟨zs, hD, hzs, e2⟩ := f.fin LcN.same
  rw [List.take_of_length_le (by omega)] at hzs
  replace e2 := e1.trans e2
  clear e1 n1 hD1 hus1 f nD
  have fin : ∀ E Hd, Hc E = none → Fl (CrN K H) Hc E ((List.range m).map (cw m R gd t s)) Hd → Q (.ref E) Hd := fun E Hd nE f => by
    obtain ⟨ys, hE, hys, e⟩ := f.fin CrN.same
    exact q E ys Hd (e2.trans e) (fresh_same e2 nE) hE hys
  walk_at "go"
  refine ifd (fun c4 => ?_) (fun c4 => ?_)
  · obtain ⟨c, d, rfl⟩ := t.is_both c4
    obtain ⟨z1, z2, rfl, ⟨p1, y1, rfl, f1, s1, g1⟩, ⟨p2, y2, rfl, f2, s2, g2⟩⟩ := All2.two_inv hzs
    have l1 := g1.len
    have l2 := g2.len
    rw [List.length_map, List.length_range] at l1 l2
    walk_at "go"
    refine g_zipL ?_
    walk_at "go"
    refine ⟨_, _, _, _, rfl, rfl, sql hD, at_any (j := 0) rfl rfl, ?_⟩
    walk_at "go"
    refine ⟨_, _, _, _, rfl, rfl, sql hD, at_any (j := 1) rfl rfl, ?_⟩
    walk_at "go"
    refine ⟨_, _, _, _, rfl, s1, s2, fun E nE => ?_⟩
    refine lc_it (walk_zip (xs := y1) (ys := y2) (n := m) (by omega)) (fun i Hd => Fl (CrN K H) Hc E ((List.range i).map (cw m R gd (.both c d) s)) Hd) (Fl.start nE) (fun i Hd _ f => ⟨f.sub.seq s1, f.sub.seq s2⟩) (fun i x Hd He hi f hy => ?_) (fun Hd f => ?_)
    · obtain ⟨T, x, y, rfl, nT, rfl, hx, hy⟩ := hy
      have hx : y1[i]? = some x := hx
      have hy : y2[i]? = some y := hy
      obtain ⟨x', hx', kx⟩ := g1.at (i := i) (by rw [List.getElem?_map, List.getElem?_range hi]; rfl)
      obtain ⟨y', hy', ky⟩ := g2.at (i := i) (by rw [List.getElem?_map, List.getElem?_range hi]; rfl)
      cases Option.some.inj (hx'.symm.trans hx)
      cases Option.some.inj (hy'.symm.trans hy)
      have s4 := same_new (o := .tup [x, y]) nT
      have f4 := Fl.mono CrN.same f s4
      refine g_gtup (sqt upd_same) rfl ?_
      generalize upd Hd T (.tup [x, y]) = H4 at f4 ⊢
      walk_at "go"
      refine ⟨by show 2 ≤ sizeLine; decide, fun L2 nL2 => ?_⟩
      have s5 := same_new (o := .lst [x, y]) nL2
      have f5 := Fl.mono CrN.same f4 s5
      have hL2 : SqL K (upd H4 L2 (.lst [x, y])) L2 [x, y] := sql upd_same
      generalize upd H4 L2 (.lst [x, y]) = H5 at f5 hL2 ⊢
      walk_at "go"
      refine ⟨L2, l, [x, y], as, [cw m R gd c s i, cw m R gd d s i], H, rfl, hL2, ⟨CrN.same f5.sub _ _ kx, CrN.same f5.sub _ _ ky, trivial⟩, (e2.trans f5.sub).seq hl, by omega, by show 2 ≤ 100; decide, fun c hc => ?_, fun w6 H6 e6 hw => ?_⟩
      · simp only [List.mem_cons, List.not_mem_nil, or_false] at hc
        rcases hc with rfl | rfl <;> rw [cw_len, la]
      · rw [range_snoc]
        have ev : cw m R gd (.both c d) s i = sumC as.length [cw m R gd c s i, cw m R gd d s i] := by
          rw [la]
          show (if i ≥ m then _ else _) = _
          rw [if_neg (by omega)]
        rw [ev]
        exact Fl.call e2 f5 e6 hw (by rw [List.length_map, List.length_range]; omega)
    · exact fin E Hd nE f
  walk_at "go"
  refine ifd (fun c5 => ?_) (fun c5 => ?_)
  · obtain ⟨j, c, rfl⟩ := t.is_later c5
    obtain ⟨z1, rfl, ⟨p1, y1, rfl, f1, s1, g1⟩⟩ := All2.one_inv hzs
    obtain ⟨⟨j0, j1⟩, _⟩ := ti
    obtain ⟨p', u, ep, hp', hu⟩ := hd
    cases ep
    walk_at "go"
    refine ⟨_, _, _, _, rfl, rfl, SqT.same e2 hp', at_any (j := 1) rfl rfl, ?_⟩
    walk_at "go"
    refine ⟨_, _, _, _, rfl, rfl, sql hD, at_any (j := 0) rfl rfl, ?_⟩
    walk_at "go"
    refine ⟨1, j.toNat, 0, m, p1, y1, _, H, by rw [Int.toNat_of_nonneg j0]; rfl, s1, g1, by rw [List.length_map, List.length_range], m100, fun c' hc => ?_, by decide, by omega, by decide, fun E ys H5 e5 nE hE hys => ?_⟩
    · obtain ⟨k, _, rfl⟩ := List.mem_map.mp hc
      exact cw_len _ _ _
    · refine q E ys H5 (e2.trans e5) (fresh_same e2 nE) hE ?_
      rw [repL_all fun k hk => cw_late _ _ hk] at hys
      have ev : (List.range m).map (cw m R gd (.later j c) s) = (List.range m).map fun b => sumC m ((List.range 1).map (fun k => j.toNat + k * 0) |>.map fun h => cw m R gd c s (b + h)) := List.map_congr_left fun b hb => by
        have := List.mem_range.mp hb
        show (if b ≥ m then _ else _) = sumC m [cw m R gd c s (b + (j.toNat + 0 * 0))]
        rw [if_neg (by omega), sumC_one (cw_len _ _ _)]
        rfl
      rw [ev]
      exact hys.mono fun _ _ => CrN.less e2
  walk_at "go"
  refine ifd (fun c6 => ?_) (fun c6 => ?_)
  · obtain ⟨j, g, c, rfl⟩ := t.is_often c6
    obtain ⟨z1, rfl, ⟨p1, y1, rfl, f1, s1, g1⟩⟩ := All2.one_inv hzs
    obtain ⟨⟨j0, j1⟩, ⟨g0, g99⟩, _⟩ := ti
    obtain ⟨p', u, ep, hp', hu⟩ := hd
    cases ep
    walk_at "go"
    refine ⟨_, _, _, _, rfl, rfl, SqT.same e2 hp', at_any (j := 1) rfl rfl, ?_⟩
    walk_at "go"
    refine ⟨_, _, _, _, rfl, rfl, SqT.same e2 hp', at_any (j := 2) rfl rfl, ?_⟩
    walk_at "go"
    refine ⟨_, _, _, _, rfl, rfl, sql hD, at_any (j := 0) rfl rfl, ?_⟩
    walk_at "go"
    refine ⟨j.toNat, 0, g.toNat, m, p1, y1, _, H, by rw [Int.toNat_of_nonneg (by omega), Int.toNat_of_nonneg (by omega)]; rfl, s1, g1, by rw [List.length_map, List.length_range], m100, fun c' hc => ?_, by omega, by decide, by omega, fun E ys H5 e5 nE hE hys => ?_⟩
    · obtain ⟨k, _, rfl⟩ := List.mem_map.mp hc
      exact cw_len _ _ _
    · refine q E ys H5 (e2.trans e5) (fresh_same e2 nE) hE ?_
      rw [repL_all fun k hk => cw_late _ _ hk] at hys
      have ev : (List.range m).map (cw m R gd (.often j g c) s) = (List.range m).map fun b => sumC m ((List.range j.toNat).map (fun k => 0 + k * g.toNat) |>.map fun h => cw m R gd c s (b + h)) := List.map_congr_left fun b hb => by
        have := List.mem_range.mp hb
        show (if b ≥ m then _ else _) = _
        rw [if_neg (by omega), List.map_map]
        refine congrArg (sumC m) (List.map_congr_left fun k _ => ?_)
        show _ = cw m R gd c s (b + (0 + k * g.toNat))
        rw [Nat.zero_add]
      rw [ev]
      exact hys.mono fun _ _ => CrN.less e2
  obtain ⟨q', hq, hforms⟩ := t.asks ⟨c1, c2, c3, c4, c5, c6⟩
  rw [hq] at h1
  obtain ⟨x, rfl, hx⟩ := All2.one_inv h1
  have hx : DC K H q' x := hx
  have qi : q'.In xs 1 ∧ q'.deep ≤ 2 := by
    rcases hforms with ⟨_, c, d, rfl⟩ | ⟨_, c, rfl⟩ | ⟨_, c, rfl⟩
    · have hq : [Part.cond _] = [Part.cond q'] := hq
      cases hq
      exact ti.1
    · have hq : [Part.cond _] = [Part.cond q'] := hq
      cases hq
      exact ti.1
    · have hq : [Part.cond _] = [Part.cond q'] := hq
      cases hq
      exact ti.1
  walk_at "go"
  refine ⟨⟨_, e2.seq hl⟩, fun B nB => lc_list (xs := as) (fun i Hd => Fl (BpR K) Hc B ((List.range i).map fun k => q'.can (R k)) Hd) (Fl.start nB) (fun i Hd _ f => f.sub.seq (e2.seq hl)) (fun i y Hd hy f => ?_) (fun Hd f => ?_)⟩
  · have hi := (List.getElem?_eq_some_iff.mp hy).1
    obtain ⟨r, hr1, hr2⟩ := hrs.2 i (by omega)
    cases Option.some.inj (hr1.symm.trans hy)
    walk_at "go"
    refine ⟨_, _, _, _, rfl, rfl, SqT.same (e2.trans f.sub) hp, at_any (j := 1) rfl rfl, ?_⟩
    walk_at "go"
    refine use_can (DC.tm (.of (e2.trans f.sub)) hx) (hr2.same (e2.trans f.sub)) (rb i (by omega)) qi.1 (by omega) fun w5 H5 e5 hw => ?_
    rw [range_snoc]
    exact f.step BpR.same e5 (fun zs hz => BpR.er hz hw) (by rw [List.length_map, List.length_range]; omega)
  obtain ⟨bs, hB, hbs, e3⟩ := f.fin BpR.same
  rw [la] at hbs
  clear f
  have hzs3 := hzs.mono (LcN.same e3)
  have hD3 := e3 _ _ hD
  have e23 := e2.trans e3
  walk_at "go"
  refine ifd (fun c7 => ?_) (fun c7 => ?_)
  · obtain ⟨c, d, rfl⟩ : ∃ c d, t = .ite q' c d := by
      rcases hforms with ⟨_, h⟩ | ⟨h, _⟩ | ⟨h, _⟩
      · exact h
      · rw [h] at c7; exact absurd c7 (by decide)
      · rw [h] at c7; exact absurd c7 (by decide)
    obtain ⟨z1, z2, rfl, ⟨p1, y1, rfl, f1, s1, g1⟩, ⟨p2, y2, rfl, f2, s2, g2⟩⟩ := All2.two_inv hzs3
    have l1 := g1.len
    have l2 := g2.len
    have l3 := hbs.len
    rw [List.length_map, List.length_range] at l1 l2 l3
    walk_at "go"
    refine g_zip3 ?_
    walk_at "go"
    refine ⟨_, _, _, _, rfl, rfl, sql hD3, at_any (j := 0) rfl rfl, ?_⟩
    walk_at "go"
    refine ⟨_, _, _, _, rfl, rfl, sql hD3, at_any (j := 1) rfl rfl, ?_⟩
    walk_at "go"
    refine ⟨B, p1, p2, bs, y1, y2, rfl, ⟨sql hB, s1, s2⟩, fun E nE => ?_⟩
    refine lc_it (walk_zip3 (xs := bs) (ys := y1) (zs := y2) (n := m) (by omega)) (fun i He => Fl (CrN K H) Hd E ((List.range i).map (cw m R gd (.ite q' c d) s)) He) (Fl.start nE) (fun i He _ f => ⟨f.sub.seq (sql hB), f.sub.seq s1, f.sub.seq s2⟩) (fun i x He Hf hi f hy => ?_) (fun He f => ?_)
    · obtain ⟨T, x, y, z, rfl, nT, rfl, hx, hy, hz⟩ := hy
      have hx : bs[i]? = some x := hx
      have hy : y1[i]? = some y := hy
      have hz : y2[i]? = some z := hz
      obtain ⟨x', hx', kx⟩ := hbs.at (i := i) (by rw [List.getElem?_map, List.getElem?_range hi]; rfl)
      obtain ⟨y', hy', ky⟩ := g1.at (i := i) (by rw [List.getElem?_map, List.getElem?_range hi]; rfl)
      obtain ⟨z', hz', kz⟩ := g2.at (i := i) (by rw [List.getElem?_map, List.getElem?_range hi]; rfl)
      cases Option.some.inj (hx'.symm.trans hx)
      cases Option.some.inj (hy'.symm.trans hy)
      cases Option.some.inj (hz'.symm.trans hz)
      have s4 := same_new (o := .tup [x, y, z]) nT
      have f4 := Fl.mono CrN.same f s4
      refine g_gtup (sqt upd_same) rfl ?_
      generalize upd He T (.tup [x, y, z]) = H4 at f4 ⊢
      walk_at "go"
      have ev : cw m R gd (.ite q' c d) s i = chosen m (q'.can (R i)) (cw m R gd c s i) (cw m R gd d s i) := by
        show (if i ≥ m then _ else _) = _
        rw [if_neg (by omega)]
      refine ⟨x, y, z, q'.can (R i), cw m R gd c s i, cw m R gd d s i, H, rfl, BpR.same f4.sub _ _ kx, CrN.same f4.sub _ _ ky, CrN.same f4.sub _ _ kz, by rw [cw_len]; exact m100, by rw [cw_len, cw_len], fun cc w5 H5 e5 hw => ?_, fun cc => ?_⟩
      · rw [range_snoc, ev]
        unfold chosen
        rw [if_pos cc]
        exact Fl.call e23 f4 e5 hw (by rw [List.length_map, List.length_range]; omega)
      · rw [range_snoc, ev]
        unfold chosen
        rw [if_neg (by rw [cc]; decide)]
        refine f4.step CrN.same (.refl _) (fun zs hz => ?_) (by rw [List.length_map, List.length_range]; omega)
        by_cases c9 : (q'.can (R i)).1 = true
        · rw [if_pos c9, if_pos c9]
          exact CrN.same f4.e _ _ ky
        · rw [if_neg c9, if_neg c9]
          exact CrN.same f4.e _ _ kz
    · obtain ⟨ys, hE, hys, e⟩ := f.fin CrN.same
      exact q E ys He (e23.trans e) (fresh_same e23 nE) hE hys
  walk_at "go"
  refine ifd (fun c8 => ?_) (fun c8 => ?_)
  · obtain ⟨c, rfl⟩ : ∃ c, t = .whn q' c := by
      rcases hforms with ⟨h, _⟩ | ⟨_, h⟩ | ⟨h, _⟩
      · exact absurd h c7
      · exact h
      · rw [h] at c8; exact absurd c8 (by decide)
    obtain ⟨z1, rfl, ⟨p1, y1, rfl, f1, s1, g1⟩⟩ := All2.one_inv hzs3
    walk_at "go"
    refine ⟨_, _, _, _, rfl, rfl, sql hD3, at_any (j := 0) rfl rfl, ?_⟩
    walk_at "go"
    refine ⟨B, p1, bs, y1, _, _, m, H, rfl, sql hB, hbs, s1, g1, e23, by rw [List.length_map, List.length_range], by rw [List.length_map, List.length_range], m100, fun c' hc => ?_, fun E ys H5 e5 nE hE hys => ?_⟩
    · obtain ⟨k, _, rfl⟩ := List.mem_map.mp hc
      exact cw_len _ _ _
    · refine q E ys H5 (e23.trans e5) (fresh_same e23 nE) hE ?_
      have ev : (List.range m).map (cw m R gd (.whn q' c) s) = (List.range m).map (awF m ((List.range m).map fun k => q'.can (R k)) ((List.range m).map (cw m R gd c s))) := List.map_congr_left fun b hb => by
        have := List.mem_range.mp hb
        show (List.range' b (m - b)).foldr (fun j r => chosen m (q'.can (R j)) (cw m R gd c s j) r) (noth m) = (List.range' b (m - b)).foldr _ (noth m)
        refine foldr_congr fun j r hj => ?_
        have hj := List.mem_range'_1.mp hj
        rw [List.getD_eq_getElem?_getD, List.getD_eq_getElem?_getD, List.getElem?_map, List.getElem?_map, List.getElem?_range (by omega)]
        rfl
      rw [ev]
      exact hys
  obtain ⟨c, rfl⟩ : ∃ c, t = .untl q' c := by
    rcases hforms with ⟨h, _⟩ | ⟨h, _⟩ | ⟨_, h⟩
    · exact absurd h c7
    · exact absurd h c8
    · exact h
  obtain ⟨z1, rfl, ⟨p1, y1, rfl, f1, s1, g1⟩⟩ := All2.one_inv hzs3
  have l1 := g1.len
  have l3 := hbs.len
  rw [List.length_map, List.length_range] at l1 l3
  walk_at "go"
  refine g_enumL ?_
  walk_at "go"
  refine ⟨_, _, _, _, rfl, rfl, sql hD3, at_any (j := 0) rfl rfl, ?_⟩
  walk_at "go"
  refine ⟨p1, y1, rfl, s1, fun E nE => ?_⟩
  refine lc_it (walk_enum (xs := y1)) (fun i He => Fl (CrN K H) Hd E ((List.range i).map (cw m R gd (.untl q' c) s)) He) (Fl.start nE) (fun i He _ f => f.sub.seq s1) (fun i x He Hf hi f hy => ?_) (fun He f => ?_)
  · obtain ⟨T, x, y, rfl, nT, rfl, hx, hy⟩ := hy
    have hx : some (V.int (i : Nat)) = some x := hx
    cases hx
    have hy : y1[i]? = some y := hy
    obtain ⟨y', hy', p2, us2, rfl, f2, s2, g2⟩ := g1.at (i := i) (by rw [List.getElem?_map, List.getElem?_range (by omega)]; rfl)
    cases Option.some.inj (hy'.symm.trans hy)
    have s4 := same_new (o := .tup [.int (i : Nat), .ref p2]) nT
    have f4 := Fl.mono CrN.same f s4
    refine g_gtup (sqt upd_same) rfl ?_
    generalize upd He T (.tup [.int (i : Nat), .ref p2]) = H4 at f4 ⊢
    walk_at "go"
    refine ⟨B, bs, rfl, f4.sub.seq (sql hB), fun L2 nL2 => ?_⟩
    rw [cut_drop]
    have s5 := same_new (o := .lst (bs.drop i)) nL2
    have f5 := Fl.mono CrN.same f4 s5
    have hL2 : SqL K (upd H4 L2 (.lst (bs.drop i))) L2 (bs.drop i) := sql upd_same
    generalize upd H4 L2 (.lst (bs.drop i)) = H5 at f5 hL2 ⊢
    walk_at "go"
    refine ⟨L2, p2, bs.drop i, us2, fun k => q'.can (R k), cw m R gd c s i, i, m, rfl, hL2, by rw [List.length_drop]; omega, fun j hj => ?_, f5.sub.seq s2, g2.mono (SpR.same f5.sub), cw_len _ _ _, by omega, m100, fun w6 H6 e6 hw => ?_⟩
    · rw [List.getElem?_drop]
      obtain ⟨v, hv, bv⟩ := hbs.at (i := i + j) (by rw [List.getElem?_map, List.getElem?_range hj]; rfl)
      exact ⟨v, hv, BpR.same f5.sub _ _ bv⟩
    · have ev : cw m R gd (.untl q' c) s i = (List.range m).map (endC m i (fun k => q'.can (R k)) (cw m R gd c s i)) := by
        show (if i ≥ m then _ else _) = _
        rw [if_neg (by omega)]
        rfl
      rw [range_snoc, ev]
      exact Fl.call e23 f5 e6 hw (by rw [List.length_map, List.length_range]; omega)
  · obtain ⟨ys, hE, hys, e⟩ := f.fin CrN.same
    rw [← l1] at hys
    exact q E ys He (e23.trans e) (fresh_same e23 nE) hE hys
end

/-! ### spans -/
def RwV (K : PySem.W.Frag) (xs : List Str) (ns : List Nm) (H : Hp) (k : Nat) (v : V) : Prop := ∃ r, v = .ref r ∧ RwR H xs K (rowS ns k) r
theorem RwV.same {K : PySem.W.Frag} {xs : List Str} {ns : List Nm} {H H' : Hp} (e : Same H H') : ∀ k v, RwV K xs ns H k v → RwV K xs ns H' k v := fun _ _ ⟨r, h1, h2⟩ => ⟨r, h1, h2.same e⟩
theorem RwR.er {K : PySem.W.Frag} {H : Hp} {xs : List Str} {R : Str → S2} {r D : Addr} {ws : List V} (hD : H D = some (.lst ws)) (h : RwR H xs K R r) : RwR (Bk.er D H) xs K R r := by
  obtain ⟨kvs, h1, h2⟩ := h
  refine ⟨kvs, ?_, fun x hx => ?_⟩
  · rw [er_ne (fun z => by rw [z, hD] at h1; cases h1)]
    exact h1
  · obtain ⟨p, a, b⟩ := h2 x hx
    exact ⟨p, a, SqT.er hD b⟩
def spSpans (K : PySem.W.Frag) (C : Addr) : Sp := fun vs H Q _ => ∃ (v : V) (t : Con) (a : Addr) (la : Int) (ns : List Nm) (s gd : Str), vs = [v, .ref a, .str s, .str gd] ∧ DK K H t v ∧ DMk K C H la ns a ∧ ns.length ≤ 3 ∧ (ns.map (·.x)).Nodup ∧ stOkN ns ∧ 0 ≤ la ∧ la ≤ 12 ∧ t.In (ns.map (·.x)) ∧ t.deep < 7 ∧
  ∀ p ys H', Same H H' → H' p = some (.lst ys) → All2 (SpR K H') (cw (la.toNat + 1) (fun k => rowS ns k) gd t s 0) ys → Q (.ref p) H'
section
variable {P : Program} {w : World} {K : PySem.W.Frag} {mg : Str → Option Value} {base : Heap}
abbrev s_spans : Stmt := topS 21
theorem sc_spans : FnScope ["contract", "market", "side", "good", "rows", "hour"] ["contract", "market", "side", "good"] (defScope s_spans) := ⟨rfl, rfl, rfl, by decide +kernel, rfl, by decide +kernel, by decide +kernel⟩
theorem h_spans {k : Nat} {f : Addr} {fd : FuncData} (O : Own K mg "spans" s_spans ["contract", "market", "side", "good"] f fd)  {C_Market : Addr} (cl_Market : Cls K C_Market) (n_Market_last : NoAttr K C_Market "last") {f__courses : Addr} {fd__courses : FuncData} (D__courses : Has P w K mg base "_courses" ["contract", "rows", "side", "good"] k CX0 (spCrs K 7) f__courses fd__courses) {f__row_of : Addr} {fd__row_of : FuncData} (D__row_of : Has P w K mg base "_row_of" ["market", "hour"] k CX0 (spRowOf K C_Market) f__row_of fd__row_of) (m_list : mg "list" = none) (m_range : mg "range" = none) : Has P w K mg base "spans" ["contract", "market", "side", "good"] (k + 1) CX0 (spSpans K C_Market) f fd := by
  refine O.has (O.F.ok sc_spans (fun vs H Q E h => ?_) (fun cdv A outer s H vs Q E hr h => ?_))
  · obtain ⟨v, t, a, la, ns, s, gd, rfl, _⟩ := h
    rfl
  obtain ⟨v, t, a, la, ns, s, gd, rfl, hd, hm, hl, nd, ok, l0, l1, ti, td, q⟩ := h
  refine ⟨_, (pss_cons (ps_setLc (i := 4) (own := [("hour", 5)]) (g := gName 5) rfl sc_spans.nd rfl rfl (sw_true rfl rfl rfl (by decide +kernel)) (pi_range1 (by rfl) m_range (pa_cons (pe_op op_add (pe_fld (pv 1) rfl) pe_int) pa_nil)) (blkOk_by (own := [("hour", 5)]) (N := ["contract", "market", "side", "good", "rows", "hour"]) (sc := defScope s_spans) (by decide +kernel)) (fun _ _ _ _ _ => pg_name (i := 5) sc_spans.nd rfl (.inl rfl)) (fun _ _ _ _ _ => pts_nil) (fun _ _ _ _ _ => (pe_call D__row_of.G hr (by rfl) D__row_of.g D__row_of.k D__row_of.b .nil pass0 (pa_cons (pv 1) (pa_cons (pv 5) pa_nil))))) (pss_one (ps_ret (pe_callTy call_list_of (by rfl) m_list (by decide +kernel) (pa_cons (pe_ix ix_list (pe_call D__courses.G hr (by rfl) D__courses.g D__courses.k D__courses.b .nil pass0 (pa_cons (pv 0) (pa_cons (pv 4) (pa_cons (pv 2) (pa_cons (pv 3) pa_nil))))) pe_int (fun _ _ => rfl)) pa_nil))))), ?_⟩
  have hm0 := hm
  obtain ⟨dx, tt, us, ha, _⟩ := hm0
  walk_at "go"
  refine g_rfld ?_
  walk_at "go"
  refine ⟨_, _, _, _, _, rfl, ha, cl_Market, n_Market_last, rfl, ?_⟩
  walk_at "go"
  refine ⟨by omega, by omega, fun D nD => lc_range (lo := 0) (n := (la + 1).toNat) (fun i Hc => Fl (RwV K (ns.map (·.x)) ns) H D (List.range i) Hc) (Fl.start nD) (fun i Hc hi f => ?_) (fun Hc f => ?_)⟩
  · walk_at "go"
    refine ⟨a, la, _, ns, rfl, hm.same f.sub, hl, nd, ok, by omega, by omega, fun r H5 e5 nr hr => ?_⟩
    rw [List.range_succ]
    refine f.step RwV.same e5 (fun zs hz => ⟨r, rfl, ?_⟩) (by rw [List.length_range]; omega)
    rw [Int.zero_add] at hr
    exact RwR.er hz hr
  · obtain ⟨as, hD, has, e⟩ := f.fin RwV.same
    have las := has.len
    rw [List.length_range] at las
    have en : (la + 1).toNat = la.toNat + 1 := by omega
    rw [en] at las has
    walk_at "go"
    refine use_crs (DK.tm (.of e) hd) (sql hD) (xs := ns.map (·.x)) (n := la.toNat + 1) (R := fun k => rowS ns k) ⟨las.symm, fun k hk => ?_⟩ (by omega) ti td (fun k hk => rowS_b ok (by omega) (by omega)) fun D2 ys H5 e5 nD2 hD2 hys => ?_
    · obtain ⟨v, hv, r, rfl, hr⟩ := has.at (i := k) (a := k) (List.getElem?_range hk)
      exact ⟨r, hv, hr⟩
    · obtain ⟨x, hx, p2, us2, rfl, f2, s2, g2⟩ := hys.at (i := 0) (by rw [List.getElem?_map, List.getElem?_range (by omega)]; rfl)
      walk_at "go"
      refine ⟨_, _, _, _, rfl, rfl, sql hD2, at_any (j := 0) rfl hx, ?_⟩
      walk_at "go"
      refine ⟨p2, us2, rfl, .inl s2, fun L nL => ?_⟩
      have s6 := same_new (o := .lst us2) nL
      exact q L us2 _ ((e.trans e5).trans s6) upd_same (g2.mono (SpR.same s6))
end

/-! ### what is owed, plainly, and that it lies within the spans -/
def Num.ev (f : Str → Int) : Num → Int
  | .num n => n
  | .read x => f x
  | .bin o a b => o.app (a.ev f) (b.ev f)
def Cond.ev (f : Str → Int) : Cond → Bool
  | .lt a b => decide (a.ev f < b.ev f)
  | .neg a => !a.ev f
  | .con a b => a.ev f && b.ev f
  | .dis a b => a.ev f || b.ev f
def InS (s : S2) (i : Int) : Prop := s.1 ≤ i ∧ i ≤ s.2
theorem mul_mono_cases {x a b : Int} (y : Int) (h1 : a ≤ x) (h2 : x ≤ b) : (a * y ≤ x * y ∧ x * y ≤ b * y) ∨ (b * y ≤ x * y ∧ x * y ≤ a * y) := by
  rcases Int.le_total 0 y with h | h
  · exact .inl ⟨Int.mul_le_mul_of_nonneg_right h1 h, Int.mul_le_mul_of_nonneg_right h2 h⟩
  · exact .inr ⟨Int.mul_le_mul_of_nonpos_right h2 h, Int.mul_le_mul_of_nonpos_right h1 h⟩
theorem o4_mem {o : Op} {a b : S2} : o.app a.1 b.1 ∈ o4 o a b ∧ o.app a.1 b.2 ∈ o4 o a b ∧ o.app a.2 b.1 ∈ o4 o a b ∧ o.app a.2 b.2 ∈ o4 o a b := by
  unfold o4
  simp
theorem app_in {o : Op} {a b : S2} {x y : Int} (hx : InS a x) (hy : InS b y) : InS (mn (o4 o a b), mx (o4 o a b)) (o.app x y) := by
  obtain ⟨m1, m2, m3, m4⟩ := o4_mem (o := o) (a := a) (b := b)
  have lo := (mn_is (l := o4 o a b) (by simp [o4])).2
  have hi := (mx_is (l := o4 o a b) (by simp [o4])).2
  have l1 := lo _ m1
  have l2 := lo _ m2
  have l3 := lo _ m3
  have l4 := lo _ m4
  have h1 := hi _ m1
  have h2 := hi _ m2
  have h3 := hi _ m3
  have h4 := hi _ m4
  generalize mn (o4 o a b) = A at l1 l2 l3 l4 ⊢
  generalize mx (o4 o a b) = B at h1 h2 h3 h4 ⊢
  obtain ⟨a1, a2⟩ := a
  obtain ⟨b1, b2⟩ := b
  obtain ⟨p1, p2⟩ := hx
  obtain ⟨q1, q2⟩ := hy
  dsimp only at *
  show A ≤ _ ∧ _ ≤ B
  cases o with
  | plus =>
    simp only [Op.app] at *
    omega
  | minus =>
    simp only [Op.app] at *
    omega
  | times =>
    simp only [Op.app] at *
    have c1 := mul_mono_cases y p1 p2
    have c2 := mul_mono_cases a1 q1 q2
    have c3 := mul_mono_cases a2 q1 q2
    rw [Int.mul_comm b1 a1, Int.mul_comm b2 a1, Int.mul_comm y a1] at c2
    rw [Int.mul_comm b1 a2, Int.mul_comm b2 a2, Int.mul_comm y a2] at c3
    omega
  | most =>
    simp only [Op.app, max2] at *
    omega
  | least =>
    simp only [Op.app, min2] at *
    omega
theorem ev_in {S : Str → S2} {f : Str → Int} (h : ∀ x, InS (S x) (f x)) : ∀ t : Num, InS (t.span S) (t.ev f)
  | .num n => ⟨Int.le_refl _, Int.le_refl _⟩
  | .read x => h x
  | .bin o a b => app_in (ev_in h a) (ev_in h b)
theorem can_ev {S : Str → S2} {f : Str → Int} (h : ∀ x, InS (S x) (f x)) : ∀ q : Cond, (q.ev f = true → (q.can S).1 = true) ∧ (q.ev f = false → (q.can S).2 = true)
  | .lt a b => by
    have h1 := ev_in h a
    have h2 := ev_in h b
    unfold InS at h1 h2
    refine ⟨fun e => ?_, fun e => ?_⟩
    · have e : a.ev f < b.ev f := of_decide_eq_true e
      exact decide_eq_true (by omega)
    · have e : ¬ a.ev f < b.ev f := of_decide_eq_false e
      exact decide_eq_true (by omega)
  | .neg a => by
    obtain ⟨h1, h2⟩ := can_ev h a
    refine ⟨fun e => h2 ?_, fun e => h1 ?_⟩
    · have e : (!a.ev f) = true := e
      simpa using e
    · have e : (!a.ev f) = false := e
      simpa using e
  | .con a b => by
    obtain ⟨h1, h2⟩ := can_ev h a
    obtain ⟨h3, h4⟩ := can_ev h b
    show ((a.ev f && b.ev f) = true → ((a.can S).1 && (b.can S).1) = true) ∧ ((a.ev f && b.ev f) = false → ((a.can S).2 || (b.can S).2) = true)
    cases e1 : a.ev f <;> cases e2 : b.ev f <;> simp_all
  | .dis a b => by
    obtain ⟨h1, h2⟩ := can_ev h a
    obtain ⟨h3, h4⟩ := can_ev h b
    show ((a.ev f || b.ev f) = true → ((a.can S).1 || (b.can S).1) = true) ∧ ((a.ev f || b.ev f) = false → ((a.can S).2 && (b.can S).2) = true)
    cases e1 : a.ev f <;> cases e2 : b.ev f <;> simp_all
theorem cover_l {a b : S2} {i : Int} (h : InS a i) : InS (cover a b) i := by
  unfold InS cover at *
  dsimp only
  omega
theorem cover_r {a b : S2} {i : Int} (h : InS b i) : InS (cover a b) i := by
  unfold InS cover at *
  dsimp only
  omega
theorem chosen_l {m : Nat} {k : Bool × Bool} {a b : Crs} {h : Nat} {i : Int} (la : a.length = m) (lb : b.length = m) (hh : h < m) (k1 : k.1 = true) (hi : InS (at2 a h) i) : InS (at2 (chosen m k a b) h) i := by
  unfold chosen
  rw [k1]
  cases k.2
  · exact hi
  · show InS (at2 (covC a b) h) i
    rw [at2_covC la lb hh]
    exact cover_l hi
theorem chosen_r {m : Nat} {k : Bool × Bool} {a b : Crs} {h : Nat} {i : Int} (la : a.length = m) (lb : b.length = m) (hh : h < m) (k2 : k.2 = true) (hi : InS (at2 b h) i) : InS (at2 (chosen m k a b) h) i := by
  unfold chosen
  rw [k2]
  cases k.1
  · exact hi
  · show InS (at2 (covC a b) h) i
    rw [at2_covC la lb hh]
    exact cover_r hi
/-- no give is from a side to itself -/
def Con.Sd : Con → Prop
  | .none => True
  | .give a b _ _ => a ≠ b
  | .both c d => c.Sd ∧ d.Sd
  | .turned _ _ c => c.Sd
  | .later _ c => c.Sd
  | .often _ _ c => c.Sd
  | .ite _ c d => c.Sd ∧ d.Sd
  | .whn _ c => c.Sd
  | .untl _ c => c.Sd
section
variable (n : Nat) (F : Nat → Str → Int) (good : Str)
/-- what a side comes to at an hour by a contract that begins at an hour -/
def nw : Con → Str → Nat → Nat → Int
  | .none, _, _, _ => 0
  | .give a b g o, s, k, h => if k < n ∧ h = k ∧ g = good then o.ev (F k) * ((if s = b then 1 else 0) - (if s = a then 1 else 0)) else 0
  | .both c d, s, k, h => nw c s k h + nw d s k h
  | .turned a b c, s, k, h => nw c (tsd s a b) k h
  | .later j c, s, k, h => nw c s (k + j.toNat) h
  | .often t g c, s, k, h => ((List.range t.toNat).map fun i => nw c s (k + i * g.toNat) h).sum
  | .ite q c d, s, k, h => if k < n then (if q.ev (F k) = true then nw c s k h else nw d s k h) else 0
  | .whn q c, s, k, h => match (List.range' k (n - k)).find? (fun j => q.ev (F j)) with
    | some j => nw c s j h
    | none => 0
  | .untl q c, s, k, h => if (List.range' k (h + 1 - k)).any (fun j => q.ev (F j)) = true then 0 else nw c s k h
end
section
variable {n : Nat} {F : Nat → Str → Int} {good : Str}
theorem sum_zero : ∀ {l : List Int}, (∀ x ∈ l, x = 0) → l.sum = 0
  | [], _ => rfl
  | x :: l, h => by
    rw [List.sum_cons, h x List.mem_cons_self, sum_zero fun y hy => h y (List.mem_cons_of_mem _ hy)]
    rfl
/-- nothing is owed ahead of its begin -/
theorem nw_early : ∀ (t : Con) (s : Str) {k h : Nat}, h < k → nw n F good t s k h = 0
  | .none, _, _, _, _ => rfl
  | .give a b g o, s, k, h, lt => by
    show (if _ then _ else _) = _
    rw [if_neg (by omega)]
  | .both c d, s, k, h, lt => by
    show nw n F good c s k h + nw n F good d s k h = 0
    rw [nw_early c s lt, nw_early d s lt]
    rfl
  | .turned a b c, s, k, h, lt => nw_early c _ lt
  | .later j c, s, k, h, lt => nw_early c s (by omega)
  | .often t g c, s, k, h, lt => sum_zero fun x hx => by
    obtain ⟨i, _, rfl⟩ := List.mem_map.mp hx
    exact nw_early c s (Nat.lt_of_lt_of_le lt (Nat.le_add_right _ _))
  | .ite q c d, s, k, h, lt => by
    show (if k < n then (if q.ev (F k) = true then _ else _) else _) = _
    rw [nw_early c s lt, nw_early d s lt]
    split
    · split <;> rfl
    · rfl
  | .whn q c, s, k, h, lt => by
    unfold nw
    split
    · rename_i j e
      have := List.mem_range'_1.mp (List.mem_of_find?_eq_some e)
      exact nw_early c s (by omega)
    · rfl
  | .untl q c, s, k, h, lt => by
    show (if _ then 0 else nw n F good c s k h) = 0
    rw [nw_early c s lt]
    split <;> rfl
/-- nor by what begins behind the last hour -/
theorem nw_late : ∀ (t : Con) (s : Str) {k h : Nat}, n ≤ k → nw n F good t s k h = 0
  | .none, _, _, _, _ => rfl
  | .give a b g o, s, k, h, le => by
    show (if _ then _ else _) = _
    rw [if_neg (by omega)]
  | .both c d, s, k, h, le => by
    show nw n F good c s k h + nw n F good d s k h = 0
    rw [nw_late c s le, nw_late d s le]
    rfl
  | .turned a b c, s, k, h, le => nw_late c _ le
  | .later j c, s, k, h, le => nw_late c s (by omega)
  | .often t g c, s, k, h, le => sum_zero fun x hx => by
    obtain ⟨i, _, rfl⟩ := List.mem_map.mp hx
    exact nw_late c s (Nat.le_trans le (Nat.le_add_right _ _))
  | .ite q c d, s, k, h, le => by
    show (if k < n then _ else 0) = 0
    rw [if_neg (by omega)]
  | .whn q c, s, k, h, le => by
    unfold nw
    rw [show n - k = 0 by omega]
    rfl
  | .untl q c, s, k, h, le => by
    show (if _ then 0 else nw n F good c s k h) = 0
    rw [nw_late c s le]
    split <;> rfl
theorem find_fold {p : Nat → Bool} {g : Nat → Bool × Bool} {cr : Nat → Crs} {v : Nat → Int} {h : Nat} (hh : h < n) (hc : ∀ j, (cr j).length = n) (hp : ∀ j, j < n → (p j = true → (g j).1 = true) ∧ (p j = false → (g j).2 = true)) (hv : ∀ j, InS (at2 (cr j) h) (v j)) :
    ∀ l : List Nat, (∀ j ∈ l, j < n) → InS (at2 (l.foldr (fun j r => chosen n (g j) (cr j) r) (noth n)) h) (match l.find? p with | some j => v j | none => 0)
  | [], _ => by
    rw [show ([] : List Nat).foldr (fun j r => chosen n (g j) (cr j) r) (noth n) = noth n from rfl, at2_noth]
    exact ⟨Int.le_refl _, Int.le_refl _⟩
  | j :: l, hl => by
    rw [List.foldr_cons, List.find?_cons]
    have hj := hp j (hl j List.mem_cons_self)
    have lr : (l.foldr (fun j r => chosen n (g j) (cr j) r) (noth n)).length = n := fold_len hc l
    cases e : p j
    · exact chosen_r (hc j) lr hh (hj.2 e) (find_fold hh hc hp hv l fun i hi => hl i (List.mem_cons_of_mem _ hi))
    · exact chosen_l (hc j) lr hh (hj.1 e) (hv j)
theorem sum_in {m : Nat} {cr : Nat → Crs} {v : Nat → Int} {h : Nat} (hh : h < n) (hv : ∀ j, InS (at2 (cr j) h) (v j)) (hs : List Nat) : InS (at2 (sumC n (hs.map cr)) h) ((hs.map v).sum) := by
  unfold sumC
  rw [at2_map hh]
  induction hs with
  | nil => exact ⟨Int.le_refl _, Int.le_refl _⟩
  | cons j hs ih =>
    have := hv j
    unfold InS at this ih ⊢
    simp only [List.map_cons, List.sum_cons] at ih ⊢
    omega
end
/-- what is owed lies within the spans -/
theorem nw_in {n : Nat} {F : Nat → Str → Int} {S : Nat → Str → S2} {good : Str} (hF : ∀ j, j < n → ∀ x, InS (S j x) (F j x)) : ∀ (t : Con) (s : Str) (k : Nat) {h : Nat}, t.Sd → h < n → InS (at2 (cw n S good t s k) h) (nw n F good t s k h)
  | .none, s, k, h, _, hh => by
    show InS (at2 (noth n) h) 0
    rw [at2_noth]
    exact ⟨Int.le_refl _, Int.le_refl _⟩
  | .give a b g o, s, k, h, sd, hh => by
    have sd : a ≠ b := sd
    show InS (at2 (if k ≥ n then noth n else if g = good ∧ (s = a ∨ s = b) then (noth n).set k (if s = b then o.span (S k) else (-(o.span (S k)).2, -(o.span (S k)).1)) else noth n) h) (if k < n ∧ h = k ∧ g = good then o.ev (F k) * ((if s = b then 1 else 0) - (if s = a then 1 else 0)) else 0)
    have zero : InS (at2 (noth n) h) 0 := by
      rw [at2_noth]
      exact ⟨Int.le_refl _, Int.le_refl _⟩
    by_cases c : k ≥ n
    · rw [if_pos c, if_neg (show ¬ (k < n ∧ h = k ∧ g = good) from fun z => absurd z.1 (by omega))]
      exact zero
    rw [if_neg c]
    have hk := hF k (by omega)
    have ev := ev_in hk o
    by_cases c2 : g = good ∧ (s = a ∨ s = b)
    · rw [if_pos c2]
      by_cases c3 : h = k
      · subst c3
        rw [if_pos (show h < n ∧ h = h ∧ g = good from ⟨by omega, rfl, c2.1⟩)]
        have e : ∀ y : S2, at2 ((noth n).set h y) h = y := fun y => by
          unfold at2
          rw [List.getD_eq_getElem?_getD, List.getElem?_set_self (by rw [noth_len]; omega)]
          rfl
        rw [e]
        unfold InS at ev ⊢
        by_cases c4 : s = b
        · have na : ¬ s = a := fun z => sd (z.symm.trans c4)
          rw [if_pos c4, if_pos c4, if_neg na]
          simpa using ev
        · have sa : s = a := c2.2.resolve_right c4
          rw [if_neg c4, if_neg c4, if_pos sa]
          dsimp only
          omega
      · rw [if_neg (show ¬ (k < n ∧ h = k ∧ g = good) from fun z => c3 z.2.1)]
        have e : ∀ y : S2, at2 ((noth n).set k y) h = (0, 0) := fun y => by
          rw [← at2_noth n h]
          unfold at2
          rw [List.getD_eq_getElem?_getD, List.getD_eq_getElem?_getD, List.getElem?_set_ne (by omega)]
        rw [e]
        exact ⟨Int.le_refl _, Int.le_refl _⟩
    · rw [if_neg c2]
      by_cases c3 : k < n ∧ h = k ∧ g = good
      · rw [if_pos c3]
        have nb : ¬ s = b := fun z => c2 ⟨c3.2.2, .inr z⟩
        have na : ¬ s = a := fun z => c2 ⟨c3.2.2, .inl z⟩
        rw [if_neg nb, if_neg na]
        simpa using zero
      · rw [if_neg c3]
        exact zero
  | .both c d, s, k, h, sd, hh => by
    by_cases ck : k ≥ n
    · rw [cw_late _ _ ck, nw_late _ _ ck, at2_noth]
      exact ⟨Int.le_refl _, Int.le_refl _⟩
    show InS (at2 (if k ≥ n then noth n else sumC n [cw n S good c s k, cw n S good d s k]) h) (nw n F good c s k h + nw n F good d s k h)
    rw [if_neg ck]
    unfold sumC
    rw [at2_map hh]
    have h1 := nw_in (good := good) hF c s k sd.1 hh
    have h2 := nw_in (good := good) hF d s k sd.2 hh
    unfold InS at *
    simp only [List.map_cons, List.map_nil, List.sum_cons, List.sum_nil]
    omega
  | .turned a b c, s, k, h, sd, hh => by
    by_cases ck : k ≥ n
    · rw [cw_late _ _ ck, nw_late _ _ ck, at2_noth]
      exact ⟨Int.le_refl _, Int.le_refl _⟩
    show InS (at2 (if k ≥ n then noth n else cw n S good c (tsd s a b) k) h) (nw n F good c (tsd s a b) k h)
    rw [if_neg ck]
    exact nw_in hF c _ k sd hh
  | .later j c, s, k, h, sd, hh => by
    by_cases ck : k ≥ n
    · rw [cw_late _ _ ck, nw_late _ _ ck, at2_noth]
      exact ⟨Int.le_refl _, Int.le_refl _⟩
    show InS (at2 (if k ≥ n then noth n else cw n S good c s (k + j.toNat)) h) (nw n F good c s (k + j.toNat) h)
    rw [if_neg ck]
    exact nw_in hF c _ _ sd hh
  | .often t g c, s, k, h, sd, hh => by
    by_cases ck : k ≥ n
    · rw [cw_late _ _ ck, nw_late _ _ ck, at2_noth]
      exact ⟨Int.le_refl _, Int.le_refl _⟩
    show InS (at2 (if k ≥ n then noth n else sumC n ((List.range t.toNat).map fun j => cw n S good c s (k + j * g.toNat))) h) (((List.range t.toNat).map fun i => nw n F good c s (k + i * g.toNat) h).sum)
    rw [if_neg ck]
    exact sum_in (m := 0) hh (fun j => nw_in hF c s (k + j * g.toNat) sd hh) _
  | .ite q c d, s, k, h, sd, hh => by
    by_cases ck : k ≥ n
    · rw [cw_late _ _ ck, nw_late _ _ ck, at2_noth]
      exact ⟨Int.le_refl _, Int.le_refl _⟩
    show InS (at2 (if k ≥ n then noth n else chosen n (q.can (S k)) (cw n S good c s k) (cw n S good d s k)) h) (if k < n then (if q.ev (F k) = true then nw n F good c s k h else nw n F good d s k h) else 0)
    rw [if_neg ck, if_pos (by omega)]
    obtain ⟨h1, h2⟩ := can_ev (hF k (by omega)) q
    cases e : q.ev (F k)
    · rw [if_neg Bool.false_ne_true]
      exact chosen_r (cw_len _ _ _) (cw_len _ _ _) hh (h2 e) (nw_in hF d s k sd.2 hh)
    · rw [if_pos rfl]
      exact chosen_l (cw_len _ _ _) (cw_len _ _ _) hh (h1 e) (nw_in hF c s k sd.1 hh)
  | .whn q c, s, k, h, sd, hh =>
    find_fold (p := fun j => q.ev (F j)) (g := fun j => q.can (S j)) (cr := fun j => cw n S good c s j) (v := fun j => nw n F good c s j h) hh (fun j => cw_len _ _ _) (fun j hj => can_ev (hF j hj) q) (fun j => nw_in hF c s j sd hh) (List.range' k (n - k)) fun j hj => by
      have := List.mem_range'_1.mp hj
      omega
  | .untl q c, s, k, h, sd, hh => by
    by_cases ck : k ≥ n
    · rw [cw_late _ _ ck, nw_late _ _ ck, at2_noth]
      exact ⟨Int.le_refl _, Int.le_refl _⟩
    have ih := nw_in (good := good) hF c s k sd hh
    have ev : cw n S good (.untl q c) s k = (List.range n).map (fun j => if ((List.range' k (j + 1 - k)).map fun i => !(q.can (S i)).2).any id = true then (0, 0) else if ((List.range' k (j + 1 - k)).map fun i => (q.can (S i)).1).any id = true then cover (at2 (cw n S good c s k) j) (0, 0) else at2 (cw n S good c s k) j) := by
      show (if k ≥ n then _ else _) = _
      rw [if_neg ck]
    rw [ev, at2_map hh]
    show InS _ (if (List.range' k (h + 1 - k)).any (fun j => q.ev (F j)) = true then 0 else nw n F good c s k h)
    have lt : ∀ j ∈ List.range' k (h + 1 - k), j < n := fun j hj => by
      have := List.mem_range'_1.mp hj
      omega
    have z : InS (0, 0) 0 := ⟨Int.le_refl _, Int.le_refl _⟩
    by_cases e : (List.range' k (h + 1 - k)).any (fun j => q.ev (F j)) = true
    · rw [if_pos e]
      obtain ⟨j, hj, ej⟩ := List.any_eq_true.mp e
      have c1 : ((List.range' k (h + 1 - k)).map fun i => (q.can (S i)).1).any id = true := List.any_eq_true.mpr ⟨_, List.mem_map.mpr ⟨j, hj, rfl⟩, (can_ev (hF j (lt j hj)) q).1 ej⟩
      rw [c1]
      split
      · exact z
      · exact cover_r z
    · rw [if_neg e]
      have no : ¬ ((List.range' k (h + 1 - k)).map fun i => !(q.can (S i)).2).any id = true := fun y => by
        obtain ⟨b, hb, eb⟩ := List.any_eq_true.mp y
        obtain ⟨j, hj, rfl⟩ := List.mem_map.mp hb
        have ej : q.ev (F j) = false := by
          cases e2 : q.ev (F j)
          · rfl
          · exact absurd (List.any_eq_true.mpr ⟨j, hj, e2⟩) e
        have := (can_ev (hF j (lt j hj)) q).2 ej
        rw [this] at eb
        cases eb
      rw [if_neg no]
      split
      · exact cover_l ih
      · exact ih

/-! ### flows, plainly: what is owed by hour, two sides and a good -/
abbrev Fls := List (List Key × Int)
def kvF (fl : Fls) : List (List Key × V) := fl.map fun e => (e.1, V.int e.2)
def keysF (fl : Fls) : List (List Key) := fl.map (·.1)
def getF (fl : Fls) (k : List Key) : Int := match fl.find? (fun e => decide (e.1 = k)) with | some e => e.2 | none => 0
def putF : Fls → List Key → Int → Fls
  | [], k, m => [(k, m)]
  | (k', v) :: r, k, m => if k' = k then (k', v + m) :: r else (k', v) :: putF r k m
def cfF (s : Str) : List Key → Int
  | [_, .inr o, .inr t, _] => (if s = t then 1 else 0) - (if s = o then 1 else 0)
  | _ => 0
def atF (h : Nat) (gd : Str) : List Key → Bool
  | [.inl i, _, _, .inr g] => decide (i = (h : Int)) && decide (g = gd)
  | _ => false
def netF (fl : Fls) (gd s : Str) (h : Nat) : Int := (fl.map fun e => if atF h gd e.1 = true then e.2 * cfF s e.1 else 0).sum
theorem get_val (fl : Fls) (k : List Key) : (valV (kvF fl) k).getD (.int 0) = .int (getF fl k) := by
  unfold valV kvF getF
  rw [List.find?_map]
  have e : ((fun p : List Key × V => decide (p.1 = k)) ∘ fun e : List Key × Int => (e.1, V.int e.2)) = fun e => decide (e.1 = k) := rfl
  rw [e]
  cases fl.find? (fun e => decide (e.1 = k)) <;> rfl
theorem putF_keys : ∀ (fl : Fls) (k : List Key) (m : Int), (k ∈ keysF fl → keysF (putF fl k m) = keysF fl) ∧ (k ∉ keysF fl → keysF (putF fl k m) = keysF fl ++ [k])
  | [], k, m => ⟨fun h => (by cases h), fun _ => rfl⟩
  | (k', v) :: r, k, m => by
    obtain ⟨h1, h2⟩ := putF_keys r k m
    show (k ∈ k' :: keysF r → keysF (if k' = k then (k', v + m) :: r else (k', v) :: putF r k m) = k' :: keysF r) ∧ (k ∉ k' :: keysF r → keysF (if k' = k then (k', v + m) :: r else (k', v) :: putF r k m) = k' :: keysF r ++ [k])
    by_cases c : k' = k
    · rw [if_pos c]
      exact ⟨fun _ => rfl, fun z => absurd (by rw [c]; exact List.mem_cons_self) z⟩
    · rw [if_neg c]
      refine ⟨fun z => ?_, fun z => ?_⟩
      · rcases List.mem_cons.mp z with z | z
        · exact absurd z.symm c
        · show k' :: keysF (putF r k m) = _
          rw [h1 z]
      · show k' :: keysF (putF r k m) = _
        rw [h2 fun y => z (List.mem_cons_of_mem _ y)]
        rfl
theorem putF_nodup {fl : Fls} (nd : (keysF fl).Nodup) (k : List Key) (m : Int) : (keysF (putF fl k m)).Nodup := by
  obtain ⟨h1, h2⟩ := putF_keys fl k m
  by_cases c : k ∈ keysF fl
  · rw [h1 c]
    exact nd
  · rw [h2 c]
    refine List.nodup_append.mpr ⟨nd, by simp, fun a ha b hb => ?_⟩
    rw [List.mem_singleton.mp hb]
    exact fun z => c (z ▸ ha)
theorem getF_cons {k' k : List Key} {v : Int} {r : Fls} : getF ((k', v) :: r) k = if k' = k then v else getF r k := by
  unfold getF
  rw [List.find?_cons]
  by_cases c : k' = k
  · rw [if_pos c, decide_eq_true c]
  · rw [if_neg c, decide_eq_false c]
theorem putF_kv : ∀ {fl : Fls} (k : List Key) (m : Int), (keysF fl).Nodup → putK (kvF fl) k (.int (getF fl k + m)) = kvF (putF fl k m)
  | [], k, m, _ => by
    show [(k, V.int (0 + m))] = [(k, V.int m)]
    rw [Int.zero_add]
  | (k', v) :: r, k, m, nd => by
    have nd : (k' :: keysF r).Nodup := nd
    obtain ⟨n1, n2⟩ := List.nodup_cons.mp nd
    have ih := putF_kv (fl := r) k m n2
    rw [getF_cons]
    show putK ((k', V.int v) :: kvF r) k _ = kvF (if k' = k then (k', v + m) :: r else (k', v) :: putF r k m)
    by_cases c : k' = k
    · rw [if_pos c, if_pos c]
      unfold putK
      rw [if_pos (by rw [List.any_cons, decide_eq_true c]; rfl), List.map_cons, if_pos c]
      show (k', _) :: _ = (k', V.int (v + m)) :: kvF r
      congr 1
      refine (List.map_congr_left fun e he => ?_).trans (List.map_id _)
      rw [if_neg]
      · rfl
      · intro z
        obtain ⟨e', he', rfl⟩ := List.mem_map.mp he
        exact n1 (List.mem_map.mpr ⟨e', he', z.trans c.symm⟩)
    · rw [if_neg c, if_neg c]
      show _ = (k', V.int v) :: kvF (putF r k m)
      rw [← ih]
      unfold putK
      rw [List.any_cons, decide_eq_false c, Bool.false_or]
      split
      · rw [List.map_cons, if_neg c]
      · rfl
theorem netF_put (gd s : Str) (h : Nat) (k : List Key) (m : Int) : ∀ fl : Fls, netF (putF fl k m) gd s h = netF fl gd s h + (if atF h gd k = true then m * cfF s k else 0)
  | [] => by
    show (if atF h gd k = true then m * cfF s k else 0) + 0 = 0 + _
    omega
  | (k', v) :: r => by
    have ih := netF_put gd s h k m r
    show netF (if k' = k then (k', v + m) :: r else (k', v) :: putF r k m) gd s h = ((if atF h gd k' = true then v * cfF s k' else 0) + netF r gd s h) + _
    by_cases c : k' = k
    · rw [if_pos c]
      subst c
      show (if atF h gd k' = true then (v + m) * cfF s k' else 0) + netF r gd s h = _
      split
      · rw [Int.add_mul]
        omega
      · omega
    · rw [if_neg c]
      show (if atF h gd k' = true then v * cfF s k' else 0) + netF (putF r k m) gd s h = _
      rw [ih]
      omega
/-- the key of a flow, and the sign by which it stands there -/
def ltStr (a b : Str) : Bool := decide (a.cps.toList < b.cps.toList)
def keyF (h : Int) (one other g : Str) : List Key := if ltStr other one = true then [.inl h, .inr other, .inr one, .inr g] else [.inl h, .inr one, .inr other, .inr g]
def sgnF (one other : Str) (m : Int) : Int := if ltStr other one = true then 0 - m else m
theorem key_net (gd s : Str) (h' : Nat) (h : Int) (one other g : Str) (m : Int) : (if atF h' gd (keyF h one other g) = true then sgnF one other m * cfF s (keyF h one other g) else 0) = if h = (h' : Int) ∧ g = gd then m * ((if s = other then 1 else 0) - (if s = one then 1 else 0)) else 0 := by
  unfold keyF sgnF
  have e : ∀ x y : Str, atF h' gd [.inl h, .inr x, .inr y, .inr g] = (decide (h = (h' : Int)) && decide (g = gd)) := fun _ _ => rfl
  by_cases c : ltStr other one = true
  · rw [if_pos c, if_pos c, e]
    show (if _ then (0 - m) * ((if s = one then 1 else 0) - (if s = other then 1 else 0)) else 0) = _
    by_cases c2 : h = (h' : Int) ∧ g = gd
    · rw [if_pos c2, if_pos (by rw [decide_eq_true c2.1, decide_eq_true c2.2]; rfl)]
      rw [Int.sub_mul, Int.zero_mul, Int.mul_sub, Int.mul_sub]
      omega
    · rw [if_neg c2, if_neg (fun z => c2 (by
        rw [Bool.and_eq_true, decide_eq_true_eq, decide_eq_true_eq] at z
        exact z))]
  · rw [if_neg c, if_neg c, e]
    show (if _ then m * ((if s = other then 1 else 0) - (if s = one then 1 else 0)) else 0) = _
    by_cases c2 : h = (h' : Int) ∧ g = gd
    · rw [if_pos c2, if_pos (by rw [decide_eq_true c2.1, decide_eq_true c2.2]; rfl)]
    · rw [if_neg c2, if_neg (fun z => c2 (by
        rw [Bool.and_eq_true, decide_eq_true_eq, decide_eq_true_eq] at z
        exact z))]
/-- the keys that may come to stand there -/
def lvK (one other g : Str) : List Key := if ltStr other one = true then [.inr other, .inr one, .inr g] else [.inr one, .inr other, .inr g]
def swpK (a b : Str) : List Key → List Key
  | [.inr o, .inr t, .inr g] => lvK (tsd o a b) (tsd t a b) g
  | k => k
def lvs : Con → List (List Key)
  | .none => []
  | .give a b g _ => [lvK a b g]
  | .both c d => lvs c ++ lvs d
  | .turned a b c => (lvs c).map (swpK a b)
  | .later _ c => lvs c
  | .often _ _ c => lvs c
  | .ite _ c d => lvs c ++ lvs d
  | .whn _ c => lvs c
  | .untl _ c => lvs c
theorem lvs_len : ∀ t : Con, (lvs t).length ≤ 2 ^ t.deep
  | .none => Nat.zero_le _
  | .give _ _ _ _ => Nat.le_refl _
  | .both c d => by
    have h1 := lvs_len c
    have h2 := lvs_len d
    have l1 : 2 ^ c.deep ≤ 2 ^ (max c.deep d.deep) := Nat.pow_le_pow_right (by decide) (by omega)
    have l2 : 2 ^ d.deep ≤ 2 ^ (max c.deep d.deep) := Nat.pow_le_pow_right (by decide) (by omega)
    show (lvs c ++ lvs d).length ≤ 2 ^ (max c.deep d.deep + 1)
    rw [List.length_append, Nat.pow_succ]
    omega
  | .turned a b c => by
    have h1 := lvs_len c
    show ((lvs c).map (swpK a b)).length ≤ 2 ^ (c.deep + 1)
    rw [List.length_map, Nat.pow_succ]
    omega
  | .later _ c => Nat.le_trans (lvs_len c) (Nat.pow_le_pow_right (by decide) (Nat.le_succ _))
  | .often _ _ c => Nat.le_trans (lvs_len c) (Nat.pow_le_pow_right (by decide) (Nat.le_succ _))
  | .ite _ c d => by
    have h1 := lvs_len c
    have h2 := lvs_len d
    have l1 : 2 ^ c.deep ≤ 2 ^ (max c.deep d.deep) := Nat.pow_le_pow_right (by decide) (by omega)
    have l2 : 2 ^ d.deep ≤ 2 ^ (max c.deep d.deep) := Nat.pow_le_pow_right (by decide) (by omega)
    show (lvs c ++ lvs d).length ≤ 2 ^ (max c.deep d.deep + 1)
    rw [List.length_append, Nat.pow_succ]
    omega
  | .whn _ c => Nat.le_trans (lvs_len c) (Nat.pow_le_pow_right (by decide) (Nat.le_succ _))
  | .untl _ c => Nat.le_trans (lvs_len c) (Nat.pow_le_pow_right (by decide) (Nat.le_succ _))
def unK (n : Nat) (t : Con) : List (List Key) := (List.range n).flatMap fun (h : Nat) => (lvs t).map fun l => .inl (h : Int) :: l
theorem unK_len (n : Nat) (t : Con) : (unK n t).length = n * (lvs t).length := by
  unfold unK
  rw [List.length_flatMap, List.map_congr_left (g := fun _ => (lvs t).length) (fun (h : Nat) _ => List.length_map _)]
  induction n with
  | zero => simp
  | succ n ih => rw [List.range_succ, List.map_append, List.sum_append, ih, Nat.succ_mul]; simp
theorem keyF_lv (h : Int) (one other g : Str) : keyF h one other g = .inl h :: lvK one other g := by
  unfold keyF lvK
  split <;> rfl

/-! ### the law's value of a number, and whether a condition holds, by a row -/
def RdF (H : Hp) (xs : List Str) (f : Str → Int) (d : Addr) : Prop := ∃ kvs, H d = some (.dK kvs) ∧ ∀ x ∈ xs, valV kvs (.inr x) = some (.int (f x))
theorem RdF.same {H H' : Hp} {xs : List Str} {f : Str → Int} {d : Addr} (h : RdF H xs f d) (e : Same H H') : RdF H' xs f d := by
  obtain ⟨kvs, h1, h2⟩ := h
  exact ⟨kvs, e _ _ h1, h2⟩
def FB (f : Str → Int) : Prop := ∀ x, (f x).natAbs < 2 ^ 44
theorem ev_bits {xs : List Str} {f : Str → Int} (h : FB f) : ∀ {t : Num} {d : Nat}, t.In xs → t.deep ≤ d → (t.ev f).natAbs < 2 ^ (44 * 2 ^ d)
  | .num n, d, i, _ => by
    have : 44 * 2 ^ 0 ≤ 44 * 2 ^ d := Nat.mul_le_mul (Nat.le_refl _) (Nat.pow_le_pow_right (by decide) (Nat.zero_le d))
    have h1 : 2 ^ 44 ≤ 2 ^ (44 * 2 ^ d) := Nat.pow_le_pow_right (by decide) this
    have i : -1000000000000 < n ∧ n < 1000000000000 := i
    show n.natAbs < _
    omega
  | .read x, d, i, _ => by
    have : 44 * 2 ^ 0 ≤ 44 * 2 ^ d := Nat.mul_le_mul (Nat.le_refl _) (Nat.pow_le_pow_right (by decide) (Nat.zero_le d))
    have h1 : 2 ^ 44 ≤ 2 ^ (44 * 2 ^ d) := Nat.pow_le_pow_right (by decide) this
    exact Nat.lt_of_lt_of_le (h x) h1
  | .bin o a b, 0, i, p => absurd p (by show ¬ max a.deep b.deep + 1 ≤ 0; omega)
  | .bin o a b, d + 1, i, p => by
    have p : max a.deep b.deep + 1 ≤ d + 1 := p
    have q := app_bits (o := o) (n := 44 * 2 ^ d) (Nat.mul_pos (by decide) (Nat.pow_pos (by decide))) (ev_bits h i.1 (show a.deep ≤ d by omega)) (ev_bits h i.2 (show b.deep ≤ d by omega))
    have e : 44 * 2 ^ d + 44 * 2 ^ d = 44 * 2 ^ (d + 1) := by rw [Nat.pow_succ]; omega
    rw [e] at q
    exact q
theorem ev_mul {xs : List Str} {f : Str → Int} (h : FB f) {a b : Num} {d : Nat} (ia : a.In xs) (ib : b.In xs) (pa : a.deep ≤ d) (pb : b.deep ≤ d) (hd : d ≤ 12) : CMulW (a.ev f) (b.ev f) := by
  have z : 0 < 44 * 2 ^ d := Nat.mul_pos (by decide) (Nat.pow_pos (by decide))
  have y : 44 * 2 ^ d ≤ 44 * 2 ^ 12 := Nat.mul_le_mul (Nat.le_refl _) (Nat.pow_le_pow_right (by decide) hd)
  exact wide_mul (ev_bits h ia pa) (ev_bits h ib pb) z z (by omega)
theorem op_ne1 (o : Op) : o.word ≠ "num" ∧ o.word ≠ "read" := by cases o <;> exact ⟨by decide, by decide⟩
def spLVl (K : PySem.W.Frag) (n : Nat) : Sp := fun vs H Q _ => ∃ (v : V) (d : Addr) (t : Num) (xs : List Str) (f : Str → Int), vs = [v, .ref d] ∧ DN K H t v ∧ RdF H xs f d ∧ FB f ∧ t.In xs ∧ t.deep < n ∧ t.deep ≤ 12 ∧ ∀ H', Same H H' → Q (.int (t.ev f)) H'
theorem use_lvl {K : PySem.W.Frag} {n : Nat} {v : V} {d : Addr} {t : Num} {xs : List Str} {f : Str → Int} {H : Hp} {Q : VK} {E : XK} (h1 : DN K H t v) (h2 : RdF H xs f d) (h3 : FB f) (h4 : t.In xs) (h5 : t.deep < n) (h6 : t.deep ≤ 12)
    (q : ∀ H', Same H H' → Q (.int (t.ev f)) H') : spLVl K n ([v, .ref d] ++ []) H Q E := ⟨v, d, t, xs, f, rfl, h1, h2, h3, h4, h5, h6, q⟩
theorem none_lvl {P : Program} {w : World} {K : PySem.W.Frag} {mg : Str → Option Value} {base : Heap} {f : Addr} {fd : FuncData} {ps : List Str} : FnOk P w K mg base CX0 0 f fd ps (spLVl K 0) := by
  have no : ∀ vs H Q E, ¬ spLVl K 0 vs H Q E := fun vs H Q E h => by
    obtain ⟨v, d, t, xs, f, _, _, _, _, _, h5, _⟩ := h
    exact absurd h5 (Nat.not_lt_zero _)
  exact ⟨fun vs H Q E h => absurd h (no vs H Q E), fun A outer s H args us vs Q E _ _ _ _ h => absurd h (no vs H Q E)⟩
def spLHl (K : PySem.W.Frag) (n : Nat) : Sp := fun vs H Q _ => ∃ (v : V) (d : Addr) (t : Cond) (xs : List Str) (f : Str → Int), vs = [v, .ref d] ∧ DC K H t v ∧ RdF H xs f d ∧ FB f ∧ t.In xs 1 ∧ t.deep < n ∧ ∀ H', Same H H' → Q (.bl (t.ev f)) H'
theorem use_lhl {K : PySem.W.Frag} {n : Nat} {v : V} {d : Addr} {t : Cond} {xs : List Str} {f : Str → Int} {H : Hp} {Q : VK} {E : XK} (h1 : DC K H t v) (h2 : RdF H xs f d) (h3 : FB f) (h4 : t.In xs 1) (h5 : t.deep < n)
    (q : ∀ H', Same H H' → Q (.bl (t.ev f)) H') : spLHl K n ([v, .ref d] ++ []) H Q E := ⟨v, d, t, xs, f, rfl, h1, h2, h3, h4, h5, q⟩
theorem none_lhl {P : Program} {w : World} {K : PySem.W.Frag} {mg : Str → Option Value} {base : Heap} {f : Addr} {fd : FuncData} {ps : List Str} : FnOk P w K mg base CX0 0 f fd ps (spLHl K 0) := by
  have no : ∀ vs H Q E, ¬ spLHl K 0 vs H Q E := fun vs H Q E h => by
    obtain ⟨v, d, t, xs, f, _, _, _, _, _, h5, _⟩ := h
    exact absurd h5 (Nat.not_lt_zero _)
  exact ⟨fun vs H Q E h => absurd h (no vs H Q E), fun A outer s H args us vs Q E _ _ _ _ h => absurd h (no vs H Q E)⟩
section
variable {P : Program} {w : World} {K : PySem.W.Frag} {mg : Str → Option Value} {base : Heap}
abbrev s__law_value : Stmt := topS 56
theorem sc__law_value : FnScope ["_law_told_here", "_law_row", "_law_word_here", "_law_one", "_law_other"] ["_law_told_here", "_law_row"] (defScope s__law_value) := ⟨rfl, rfl, rfl, by decide +kernel, rfl, by decide +kernel, by decide +kernel⟩
theorem h__law_value {n : Nat} {k : Nat} {f : Addr} {fd : FuncData} (O : Own K mg "_law_value" s__law_value ["_law_told_here", "_law_row"] f fd)  {f__law_value : Addr} {fd__law_value : FuncData} (D__law_value : Has P w K mg base "_law_value" ["_law_told_here", "_law_row"] k CX0 (spLVl K n) f__law_value fd__law_value) (m_max : mg "max" = none) (m_min : mg "min" = none) (m_int : mg "int" = none) : Has P w K mg base "_law_value" ["_law_told_here", "_law_row"] (k + 1) CX0 (spLVl K (n + 1)) f fd := by
  refine O.has (O.F.ok sc__law_value (fun vs H Q E h => ?_) (fun cdv A outer s H vs Q E hr h => ?_))
  · obtain ⟨v, d, t, xs, kvs, rfl, _⟩ := h
    rfl
  obtain ⟨v, d, t, xs, kvs, rfl, hv, hd, hr0, hi, h5, h6, q⟩ := h
  refine ⟨_, (pss_cons (ps_set (i := 2) sc__law_value.nd rfl (.inl rfl) (pe_ix ix_tup (pv 0) pe_int (fun _ _ => rfl))) (pss_cons (ps_if (pt_cmpR op_eq (pv 2) pe_str (nomark _)) (pss_one (ps_ret (pe_ix ix_tup (pv 0) pe_int (fun _ _ => rfl)))) pss_nil) (pss_cons (ps_if (pt_cmpR op_eq (pv 2) pe_str (nomark _)) (pss_one (ps_ret (pe_dget (hu_of hr) (pv 1) (pe_ix ix_tup (pv 0) pe_int (fun _ _ => rfl)) (fun _ _ => rfl)))) pss_nil) (pss_cons (ps_set (i := 3) sc__law_value.nd rfl (.inl rfl) (pe_call D__law_value.G hr (by rfl) D__law_value.g D__law_value.k D__law_value.b .nil pass0 (pa_cons (pe_ix ix_tup (pv 0) pe_int (fun _ _ => rfl)) (pa_cons (pv 1) pa_nil)))) (pss_cons (ps_set (i := 4) sc__law_value.nd rfl (.inl rfl) (pe_call D__law_value.G hr (by rfl) D__law_value.g D__law_value.k D__law_value.b .nil pass0 (pa_cons (pe_ix ix_tup (pv 0) pe_int (fun _ _ => rfl)) (pa_cons (pv 1) pa_nil)))) (pss_cons (ps_if (pt_cmpR op_eq (pv 2) pe_str (nomark _)) (pss_one (ps_ret (pe_op op_add (pv 3) (pv 4)))) pss_nil) (pss_cons (ps_if (pt_cmpR op_eq (pv 2) pe_str (nomark _)) (pss_one (ps_ret (pe_op op_sub (pv 3) (pv 4)))) pss_nil) (pss_cons (ps_if (pt_cmpR op_eq (pv 2) pe_str (nomark _)) (pss_one (ps_ret (pe_op op_mulW (pv 3) (pv 4)))) pss_nil) (pss_one (ps_ret (pe_ix ix_list (pe_lst (pa_cons (pe_callB (call_min2 rfl) (by rfl) m_min (by decide +kernel) (pa_cons (pv 3) (pa_cons (pv 4) pa_nil))) (pa_cons (pe_callB (call_max2 rfl) (by rfl) m_max (by decide +kernel) (pa_cons (pv 3) (pa_cons (pv 4) pa_nil))) pa_nil))) (pe_callTy call_int1 (by rfl) m_int (by decide +kernel) (pa_cons (pe_cmpR op_eq (pv 2) pe_str (nomark _)) pa_nil)) (fun _ _ => rfl)))))))))))), ?_⟩
  cases t with
  | num m =>
    obtain ⟨a, rfl, ha⟩ := hv
    walk_at "go"
    refine ⟨_, _, _, _, rfl, rfl, ha, at_any (j := 0) rfl rfl, ?_⟩
    walk_at "go"
    refine ifd (fun c => ?_) (fun c => absurd rfl c)
    walk_at "go"
    refine ⟨_, _, _, _, rfl, rfl, ha, at_any (j := 1) rfl rfl, ?_⟩
    exact q H (Same.refl H)
  | read x =>
    obtain ⟨a, rfl, ha⟩ := hv
    walk_at "go"
    refine ⟨_, _, _, _, rfl, rfl, ha, at_any (j := 0) rfl rfl, ?_⟩
    walk_at "go"
    refine ifd (fun c => absurd c (by decide)) (fun c => ?_)
    walk_at "go"
    refine ifd (fun c => ?_) (fun c => absurd rfl c)
    walk_at "go"
    refine ⟨_, _, _, _, rfl, rfl, ha, at_any (j := 1) rfl rfl, ?_⟩
    obtain ⟨kv, hk, hx⟩ := hd
    refine g_key hk (hx x hi) ?_
    exact q H (Same.refl H)
  | bin o t1 t2 =>
    obtain ⟨a, u, z, rfl, ha, hu, hz⟩ := hv
    have p5 : max t1.deep t2.deep + 1 < n + 1 := h5
    have p6 : max t1.deep t2.deep + 1 ≤ 12 := h6
    obtain ⟨hi1, hi2⟩ := hi
    have q0 : ∀ H', Same H H' → Q (.int (o.app (t1.ev kvs) (t2.ev kvs))) H' := q
    walk_at "go"
    refine ⟨_, _, _, _, rfl, rfl, ha, at_any (j := 0) rfl rfl, ?_⟩
    walk_at "go"
    refine ifd (fun c => absurd c (op_ne1 o).1) (fun c => ?_)
    walk_at "go"
    refine ifd (fun c => absurd c (op_ne1 o).2) (fun c => ?_)
    walk_at "go"
    refine ⟨_, _, _, _, rfl, rfl, ha, at_any (j := 1) rfl rfl, ?_⟩
    walk_at "go"
    refine use_lvl hu hd hr0 hi1 (by omega) (by omega) fun H1 e1 => ?_
    walk_at "go"
    refine ⟨_, _, _, _, rfl, rfl, SqT.same e1 ha, at_any (j := 2) rfl rfl, ?_⟩
    walk_at "go"
    refine use_lvl (DN.tm (.of e1) hz) (hd.same e1) hr0 hi2 (by omega) (by omega) fun H2 e2 => ?_
    have hm := ev_mul (d := 11) hr0 hi1 hi2 (by omega) (by omega) (by decide)
    have e12 := e1.trans e2
    generalize t1.ev kvs = x at hm q0 ⊢
    generalize t2.ev kvs = y at hm q0 ⊢
    cases o <;> (walk_at "go")
    · refine ifd (fun c => ?_) (fun c => absurd rfl c)
      walk_at "go"
      exact q0 H2 e12
    · refine ifd (fun c => absurd c (by decide)) (fun c => ?_)
      walk_at "go"
      refine ifd (fun c => ?_) (fun c => absurd rfl c)
      walk_at "go"
      exact q0 H2 e12
    · refine ifd (fun c => absurd c (by decide)) (fun c => ?_)
      walk_at "go"
      refine ifd (fun c => absurd c (by decide)) (fun c => ?_)
      walk_at "go"
      refine ifd (fun c => ?_) (fun c => absurd rfl c)
      walk_at "go"
      refine g_I hm ?_
      exact q0 H2 e12
    · refine ifd (fun c => absurd c (by decide)) (fun c => ?_)
      walk_at "go"
      refine ifd (fun c => absurd c (by decide)) (fun c => ?_)
      walk_at "go"
      refine ifd (fun c => absurd c (by decide)) (fun c => ?_)
      walk_at "go"
      refine ⟨by show 2 ≤ sizeLine; decide, fun p np => ?_⟩
      walk_at "go"
      refine .inr ⟨_, rfl, ?_⟩
      refine ⟨_, _, _, _, rfl, rfl, sql upd_same, at_any (j := 1) rfl rfl, ?_⟩
      exact q0 _ (e12.trans (same_new np))
    · refine ifd (fun c => absurd c (by decide)) (fun c => ?_)
      walk_at "go"
      refine ifd (fun c => absurd c (by decide)) (fun c => ?_)
      walk_at "go"
      refine ifd (fun c => absurd c (by decide)) (fun c => ?_)
      walk_at "go"
      refine ⟨by show 2 ≤ sizeLine; decide, fun p np => ?_⟩
      walk_at "go"
      refine .inr ⟨_, rfl, ?_⟩
      refine ⟨_, _, _, _, rfl, rfl, sql upd_same, at_any (j := 0) rfl rfl, ?_⟩
      exact q0 _ (e12.trans (same_new np))
abbrev s__law_holds : Stmt := topS 57
theorem sc__law_holds : FnScope ["_law_asked_here", "_law_row", "_law_word_here"] ["_law_asked_here", "_law_row"] (defScope s__law_holds) := ⟨rfl, rfl, rfl, by decide +kernel, rfl, by decide +kernel, by decide +kernel⟩
theorem h__law_holds {n : Nat} {k : Nat} {f : Addr} {fd : FuncData} (O : Own K mg "_law_holds" s__law_holds ["_law_asked_here", "_law_row"] f fd)  {f__law_holds : Addr} {fd__law_holds : FuncData} (D__law_holds : Has P w K mg base "_law_holds" ["_law_asked_here", "_law_row"] k CX0 (spLHl K n) f__law_holds fd__law_holds) {f__law_value : Addr} {fd__law_value : FuncData} (D__law_value : Has P w K mg base "_law_value" ["_law_told_here", "_law_row"] k CX0 (spLVl K 4) f__law_value fd__law_value) : Has P w K mg base "_law_holds" ["_law_asked_here", "_law_row"] (k + 1) CX0 (spLHl K (n + 1)) f fd := by
  refine O.has (O.F.ok sc__law_holds (fun vs H Q E h => ?_) (fun cdv A outer s H vs Q E hr h => ?_))
  · obtain ⟨v, d, t, xs, kvs, rfl, _⟩ := h
    rfl
  obtain ⟨v, d, t, xs, kvs, rfl, hv, hd, hr0, hi, h5, q⟩ := h
  refine ⟨_, (pss_cons (ps_set (i := 2) sc__law_holds.nd rfl (.inl rfl) (pe_ix ix_tup (pv 0) pe_int (fun _ _ => rfl))) (pss_cons (ps_if (pt_cmpR op_eq (pv 2) pe_str (nomark _)) (pss_one (ps_ret (pe_cmpR op_lt (pe_call D__law_value.G hr (by rfl) D__law_value.g D__law_value.k D__law_value.b .nil pass0 (pa_cons (pe_ix ix_tup (pv 0) pe_int (fun _ _ => rfl)) (pa_cons (pv 1) pa_nil))) (pe_call D__law_value.G hr (by rfl) D__law_value.g D__law_value.k D__law_value.b .nil pass0 (pa_cons (pe_ix ix_tup (pv 0) pe_int (fun _ _ => rfl)) (pa_cons (pv 1) pa_nil))) (nomark _)))) pss_nil) (pss_cons (ps_if (pt_cmpR op_eq (pv 2) pe_str (nomark _)) (pss_one (ps_ret (pe_not (pe_call D__law_holds.G hr (by rfl) D__law_holds.g D__law_holds.k D__law_holds.b .nil pass0 (pa_cons (pe_ix ix_tup (pv 0) pe_int (fun _ _ => rfl)) (pa_cons (pv 1) pa_nil)))))) pss_nil) (pss_cons (ps_if (pt_cmpR op_eq (pv 2) pe_str (nomark _)) (pss_one (ps_ret (pe_and (pe_call D__law_holds.G hr (by rfl) D__law_holds.g D__law_holds.k D__law_holds.b .nil pass0 (pa_cons (pe_ix ix_tup (pv 0) pe_int (fun _ _ => rfl)) (pa_cons (pv 1) pa_nil))) (pe_one (pe_call D__law_holds.G hr (by rfl) D__law_holds.g D__law_holds.k D__law_holds.b .nil pass0 (pa_cons (pe_ix ix_tup (pv 0) pe_int (fun _ _ => rfl)) (pa_cons (pv 1) pa_nil))))))) pss_nil) (pss_one (ps_ret (pe_or (pe_call D__law_holds.G hr (by rfl) D__law_holds.g D__law_holds.k D__law_holds.b .nil pass0 (pa_cons (pe_ix ix_tup (pv 0) pe_int (fun _ _ => rfl)) (pa_cons (pv 1) pa_nil))) (pe_one (pe_call D__law_holds.G hr (by rfl) D__law_holds.g D__law_holds.k D__law_holds.b .nil pass0 (pa_cons (pe_ix ix_tup (pv 0) pe_int (fun _ _ => rfl)) (pa_cons (pv 1) pa_nil))))))))))), ?_⟩
  cases t with
  | lt t1 t2 =>
    obtain ⟨a, u, z, rfl, ha, hu, hz⟩ := hv
    obtain ⟨⟨i1, p1⟩, i2, p2⟩ := hi
    walk_at "go"
    refine ⟨_, _, _, _, rfl, rfl, ha, at_any (j := 0) rfl rfl, ?_⟩
    walk_at "go"
    refine ifd (fun c => ?_) (fun c => absurd rfl c)
    walk_at "go"
    refine ⟨_, _, _, _, rfl, rfl, ha, at_any (j := 1) rfl rfl, ?_⟩
    walk_at "go"
    refine use_lvl hu hd hr0 i1 (by omega) (by omega) fun H1 e1 => ?_
    walk_at "go"
    refine ⟨_, _, _, _, rfl, rfl, SqT.same e1 ha, at_any (j := 2) rfl rfl, ?_⟩
    walk_at "go"
    refine use_lvl (DN.tm (.of e1) hz) (hd.same e1) hr0 i2 (by omega) (by omega) fun H2 e2 => ?_
    walk_at "go"
    exact q H2 (e1.trans e2)
  | neg t1 =>
    obtain ⟨a, u, rfl, ha, hu⟩ := hv
    have p5 : t1.deep + 1 < n + 1 := h5
    have hi : t1.In xs 1 := hi
    walk_at "go"
    refine ⟨_, _, _, _, rfl, rfl, ha, at_any (j := 0) rfl rfl, ?_⟩
    walk_at "go"
    refine ifd (fun c => absurd c (by decide)) (fun c => ?_)
    walk_at "go"
    refine ifd (fun c => ?_) (fun c => absurd rfl c)
    walk_at "go"
    refine ⟨_, _, _, _, rfl, rfl, ha, at_any (j := 1) rfl rfl, ?_⟩
    walk_at "go"
    refine use_lhl hu hd hr0 hi (by omega) fun H1 e1 => ?_
    walk_at "go"
    exact q H1 e1
  | con t1 t2 =>
    obtain ⟨a, u, z, rfl, ha, hu, hz⟩ := hv
    have p5 : max t1.deep t2.deep + 1 < n + 1 := h5
    have q0 : ∀ H', Same H H' → Q (.bl (t1.ev kvs && t2.ev kvs)) H' := q
    obtain ⟨i1, i2⟩ := hi
    walk_at "go"
    refine ⟨_, _, _, _, rfl, rfl, ha, at_any (j := 0) rfl rfl, ?_⟩
    walk_at "go"
    refine ifd (fun c => absurd c (by decide)) (fun c => ?_)
    walk_at "go"
    refine ifd (fun c => absurd c (by decide)) (fun c => ?_)
    walk_at "go"
    refine ifd (fun c => ?_) (fun c => absurd rfl c)
    walk_at "go"
    refine ⟨_, _, _, _, rfl, rfl, ha, at_any (j := 1) rfl rfl, ?_⟩
    walk_at "go"
    refine use_lhl hu hd hr0 i1 (by omega) fun H1 e1 => ?_
    refine ⟨_, rfl, ifb (fun c1 => ?_) (fun c1 => ?_)⟩
    · walk_at "go"
      refine ⟨_, _, _, _, rfl, rfl, SqT.same e1 ha, at_any (j := 2) rfl rfl, ?_⟩
      walk_at "go"
      refine use_lhl (DC.tm (.of e1) hz) (hd.same e1) hr0 i2 (by omega) fun H2 e2 => ?_
      have z := q0 H2 (e1.trans e2)
      rw [c1] at z
      exact z
    · have z := q0 H1 e1
      rw [c1] at z
      exact z
  | dis t1 t2 =>
    obtain ⟨a, u, z, rfl, ha, hu, hz⟩ := hv
    have p5 : max t1.deep t2.deep + 1 < n + 1 := h5
    have q0 : ∀ H', Same H H' → Q (.bl (t1.ev kvs || t2.ev kvs)) H' := q
    obtain ⟨i1, i2⟩ := hi
    walk_at "go"
    refine ⟨_, _, _, _, rfl, rfl, ha, at_any (j := 0) rfl rfl, ?_⟩
    walk_at "go"
    refine ifd (fun c => absurd c (by decide)) (fun c => ?_)
    walk_at "go"
    refine ifd (fun c => absurd c (by decide)) (fun c => ?_)
    walk_at "go"
    refine ifd (fun c => absurd c (by decide)) (fun c => ?_)
    walk_at "go"
    refine ⟨_, _, _, _, rfl, rfl, ha, at_any (j := 1) rfl rfl, ?_⟩
    walk_at "go"
    refine use_lhl hu hd hr0 i1 (by omega) fun H1 e1 => ?_
    refine ⟨_, rfl, ifb (fun c1 => ?_) (fun c1 => ?_)⟩
    · have z := q0 H1 e1
      rw [c1] at z
      exact z
    · walk_at "go"
      refine ⟨_, _, _, _, rfl, rfl, SqT.same e1 ha, at_any (j := 2) rfl rfl, ?_⟩
      walk_at "go"
      refine use_lhl (DC.tm (.of e1) hz) (hd.same e1) hr0 i2 (by omega) fun H2 e2 => ?_
      have z := q0 H2 (e1.trans e2)
      rw [c1] at z
      exact z
end

/-! ### the law's flows -/
theorem g_dget2 {td ty tx : TE} {σ : L2.St} {H : Hp} {Q : VK} (h : td σ H fun x H1 => ∃ a, x = .ref a ∧ IsD H1 a ∧ ty σ H1 fun y H2 => tx σ H2 fun z H3 => ∃ o, DGet H3 a y o ∧ Q (o.getD z) H3) : tDGet2 td ty tx σ H Q := h
theorem g_par3 {i j l : Nat} {ta : TA} {D : Ends} {σ : L2.St} {H : Hp} (h : ta σ H fun vs H1 => ∃ u v w, vs = [u, v, w] ∧ D.nx (((σ.set i (some u)).set j (some v)).set l (some w)) H1) : tPar3 i j l ta D σ H := h
def spPut (K : PySem.W.Frag) : Sp := fun vs H Q _ => ∃ (D : Addr) (h m : Int) (one other g : Str) (fl : Fls), vs = [.ref D, .int h, .str one, .str other, .str g, .int m] ∧ H D = some (.dT (kvF fl)) ∧ (keysF fl).Nodup ∧ fl.length ≤ 4000 ∧
  ∀ H', Same (er D H) (er D H') → H' D = some (.dT (kvF (putF fl (keyF h one other g) (sgnF one other m)))) → Q .non H'
section
variable {P : Program} {w : World} {K : PySem.W.Frag} {mg : Str → Option Value} {base : Heap}
abbrev s__law_put : Stmt := topS 58
theorem sc__law_put : FnScope ["_law_flows_here", "_law_hour", "_law_one", "_law_other", "_law_good_here", "_law_many"] ["_law_flows_here", "_law_hour", "_law_one", "_law_other", "_law_good_here", "_law_many"] (defScope s__law_put) := ⟨rfl, rfl, rfl, by decide +kernel, rfl, by decide +kernel, by decide +kernel⟩
theorem h__law_put {k : Nat} {f : Addr} {fd : FuncData} (O : Own K mg "_law_put" s__law_put ["_law_flows_here", "_law_hour", "_law_one", "_law_other", "_law_good_here", "_law_many"] f fd)  : Has P w K mg base "_law_put" ["_law_flows_here", "_law_hour", "_law_one", "_law_other", "_law_good_here", "_law_many"] (k + 1) CX0 (spPut K) f fd := by
  refine O.has (O.F.ok sc__law_put (fun vs H Q E h => ?_) (fun cdv A outer s H vs Q E hr h => ?_))
  · obtain ⟨D, h, m, one, other, g, fl, rfl, _⟩ := h
    rfl
  obtain ⟨D, h, m, one, other, g, fl, rfl, hD, nd, hl, q⟩ := h
  refine ⟨_, (pss_cons (ps_if (pt_cmpR op_lt_str (pv 3) (pv 2) (nomark _)) (pss_one (ps_par3 (i := 2) (j := 3) (l := 5) (by rfl) sc__law_put.nd rfl rfl rfl (by decide) (by decide) (by decide) rfl rfl rfl (pa_cons (pv 3) (pa_cons (pv 2) (pa_cons (pe_op op_sub pe_int (pv 5)) pa_nil))) (by rfl))) pss_nil) (pss_one (ps_dput (hu_of hr) (pv 0) (pe_tup (pa_cons (pv 1) (pa_cons (pv 2) (pa_cons (pv 3) (pa_cons (pv 4) pa_nil))))) (pe_op op_add (pe_dget2 (hu_of hr) (pv 0) (pe_tup (pa_cons (pv 1) (pa_cons (pv 2) (pa_cons (pv 3) (pa_cons (pv 4) pa_nil))))) pe_int ⟨rfl, rfl, rfl, rfl⟩) (pv 5)) (by rfl)))), ?_⟩
  walk_at "go"
  have rest : ∀ (k : List Key) (m2 : Int), keyF h one other g = k → sgnF one other m = m2 → ∀ H', Same (er D H) (er D H') → H' D = some (.dT (kvF (putF fl k m2))) → Q .non H' := fun k m2 e1 e2 H' e d => q H' e (by rw [e1, e2]; exact d)
  refine ifd (fun c => ?_) (fun c => ?_)
  · have e1 : keyF h one other g = [.inl h, .inr other, .inr one, .inr g] := by
      unfold keyF ltStr
      rw [if_pos (decide_eq_true c)]
    have e2 : sgnF one other m = 0 - m := by
      unfold sgnF ltStr
      rw [if_pos (decide_eq_true c)]
    replace rest := rest _ _ e1 e2
    walk_at "go"
    refine g_par3 ?_
    walk_at "go"
    refine ⟨_, _, _, rfl, ?_⟩
    walk_at "go"
    refine g_dget2 ?_
    walk_at "go"
    refine ⟨.inr ⟨_, .inl hD⟩, ?_⟩
    walk_at "go"
    refine ⟨by show 4 ≤ sizeLine; decide, fun T1 n1 => ?_⟩
    have s1 := same_new (o := .tup [V.int h, V.str other, V.str one, V.str g]) n1
    have hT1 : upd H T1 (.tup [V.int h, V.str other, V.str one, V.str g]) T1 = some (.tup (([.inl h, .inr other, .inr one, .inr g] : List Key).map kV)) := upd_same
    have hD1 := s1 _ _ hD
    generalize upd H T1 (.tup [V.int h, V.str other, V.str one, V.str g]) = H1 at s1 hT1 hD1 ⊢
    walk_at "go"
    refine ⟨_, .inr ⟨_, [.inl h, .inr other, .inr one, .inr g], T1, .inl hD1, rfl, hT1, rfl⟩, ?_⟩
    rw [get_val]
    walk_at "go"
    refine ⟨by show 4 ≤ sizeLine; decide, fun T2 n2 => ?_⟩
    have s2 := same_new (o := .tup [V.int h, V.str other, V.str one, V.str g]) n2
    have hT2 : upd H1 T2 (.tup [V.int h, V.str other, V.str one, V.str g]) T2 = some (.tup (([.inl h, .inr other, .inr one, .inr g] : List Key).map kV)) := upd_same
    have hD2 := s2 _ _ hD1
    have s12 := s1.trans s2
    generalize upd H1 T2 (.tup [V.int h, V.str other, V.str one, V.str g]) = H2 at s12 hT2 hD2 ⊢
    walk_at "go"
    refine ⟨D, _, rfl, .inr ⟨_, [.inl h, .inr other, .inr one, .inr g], T2, hD2, rfl, hT2, by unfold kvF; rw [List.length_map]; exact Nat.lt_of_le_of_lt hl (by decide), rfl⟩, ?_⟩
    rw [putF_kv _ _ nd]
    exact rest _ (by rw [er_upd]; exact er_same s12) upd_same
  · have e1 : keyF h one other g = [.inl h, .inr one, .inr other, .inr g] := by
      unfold keyF ltStr
      rw [if_neg (by rw [decide_eq_false c]; exact Bool.false_ne_true)]
    have e2 : sgnF one other m = m := by
      unfold sgnF ltStr
      rw [if_neg (by rw [decide_eq_false c]; exact Bool.false_ne_true)]
    replace rest := rest _ _ e1 e2
    walk_at "go"
    refine g_dget2 ?_
    walk_at "go"
    refine ⟨.inr ⟨_, .inl hD⟩, ?_⟩
    walk_at "go"
    refine ⟨by show 4 ≤ sizeLine; decide, fun T1 n1 => ?_⟩
    have s1 := same_new (o := .tup [V.int h, V.str one, V.str other, V.str g]) n1
    have hT1 : upd H T1 (.tup [V.int h, V.str one, V.str other, V.str g]) T1 = some (.tup (([.inl h, .inr one, .inr other, .inr g] : List Key).map kV)) := upd_same
    have hD1 := s1 _ _ hD
    generalize upd H T1 (.tup [V.int h, V.str one, V.str other, V.str g]) = H1 at s1 hT1 hD1 ⊢
    walk_at "go"
    refine ⟨_, .inr ⟨_, [.inl h, .inr one, .inr other, .inr g], T1, .inl hD1, rfl, hT1, rfl⟩, ?_⟩
    rw [get_val]
    walk_at "go"
    refine ⟨by show 4 ≤ sizeLine; decide, fun T2 n2 => ?_⟩
    have s2 := same_new (o := .tup [V.int h, V.str one, V.str other, V.str g]) n2
    have hT2 : upd H1 T2 (.tup [V.int h, V.str one, V.str other, V.str g]) T2 = some (.tup (([.inl h, .inr one, .inr other, .inr g] : List Key).map kV)) := upd_same
    have hD2 := s2 _ _ hD1
    have s12 := s1.trans s2
    generalize upd H1 T2 (.tup [V.int h, V.str one, V.str other, V.str g]) = H2 at s12 hT2 hD2 ⊢
    walk_at "go"
    refine ⟨D, _, rfl, .inr ⟨_, [.inl h, .inr one, .inr other, .inr g], T2, hD2, rfl, hT2, by unfold kvF; rw [List.length_map]; exact Nat.lt_of_le_of_lt hl (by decide), rfl⟩, ?_⟩
    rw [putF_kv _ _ nd]
    exact rest _ (by rw [er_upd]; exact er_same s12) upd_same
end

/-! ### the law's flows of a contract -/
def RwF (H : Hp) (xs : List Str) (n : Nat) (F : Nat → Str → Int) (as : List V) : Prop := as.length = n ∧ ∀ k < n, ∃ r, as[k]? = some (.ref r) ∧ RdF H xs (F k) r
theorem RwF.same {H H' : Hp} {xs : List Str} {n : Nat} {F : Nat → Str → Int} {as : List V} (e : Same H H') (h : RwF H xs n F as) : RwF H' xs n F as := ⟨h.1, fun k hk => let ⟨r, a, b⟩ := h.2 k hk; ⟨r, a, b.same e⟩⟩
theorem turn_get {s a b : Str} (h : a ≠ b) : (valV (mergeK ([] : List (Key × V)) ([(Sum.inr a, V.str b), (Sum.inr b, V.str a)] : List (Key × V))) (Sum.inr s : Key)).getD (.str s) = .str (tsd s a b) := by
  show (valV (putK (putK ([] : List (Key × V)) (Sum.inr a) (V.str b)) (Sum.inr b) (V.str a)) (Sum.inr s : Key)).getD (V.str s) = _
  rw [valV_put, valV_put]
  unfold tsd
  by_cases c1 : s = a
  · rw [if_pos c1, if_neg (fun z => h (c1.symm.trans (Sum.inr.inj z))), if_pos (by rw [c1])]
    rfl
  · rw [if_neg c1]
    by_cases c2 : s = b
    · rw [if_pos c2, if_pos (by rw [c2])]
      rfl
    · rw [if_neg c2, if_neg (fun z => c2 (Sum.inr.inj z)), if_neg (fun z => c1 (Sum.inr.inj z))]
      rfl
theorem tsd_tsd {a b : Str} (ab : a ≠ b) (x : Str) : tsd (tsd x a b) a b = x := by
  unfold tsd
  by_cases c1 : x = a
  · rw [if_pos c1, if_neg (fun z => ab z.symm), if_pos rfl, c1]
  · rw [if_neg c1]
    by_cases c2 : x = b
    · rw [if_pos c2, if_pos rfl, c2]
    · rw [if_neg c2, if_neg c1, if_neg c2]
theorem tsd_iff {a b : Str} (ab : a ≠ b) (s t : Str) : s = tsd t a b ↔ tsd s a b = t := ⟨fun h => by rw [h, tsd_tsd ab], fun h => by rw [← h, tsd_tsd ab]⟩
theorem fl_at : ∀ {fl : Fls} {i : Nat} {k : List Key} {m : Int}, (keysF fl).Nodup → fl[i]? = some (k, m) → valV (kvF fl) k = some (.int m)
  | [], i, k, m, _, h => by simp at h
  | (k', v) :: r, 0, k, m, _, h => by
    cases Option.some.inj (show some (k', v) = some (k, m) from h)
    exact valV_pos rfl
  | (k', v) :: r, i + 1, k, m, nd, h => by
    have h : r[i]? = some (k, m) := h
    have nd : (k' :: keysF r).Nodup := nd
    obtain ⟨n1, n2⟩ := List.nodup_cons.mp nd
    refine (valV_neg (fun z => n1 ?_)).trans (fl_at n2 h)
    have z : k' = k := z
    rw [z]
    exact List.mem_map.mpr ⟨_, List.mem_of_getElem? h, rfl⟩
theorem netF_take {fl : Fls} {i : Nat} {k : List Key} {m : Int} (h : fl[i]? = some (k, m)) (gd s : Str) (t : Nat) : netF (fl.take (i + 1)) gd s t = netF (fl.take i) gd s t + (if atF t gd k = true then m * cfF s k else 0) := by
  unfold netF
  rw [List.take_succ, h, List.map_append, List.sum_append]
  simp
theorem g_lockS {t : TS} {D : Ends} {σ : L2.St} {H : Hp} (h : ∃ d u, H d = some u ∧ Mut (some u) ∧ ∀ od, t ⟨fun σ' H' => H' d = some (.frz od u) ∧ D.nx σ' (upd H' d u), fun v H' => H' d = some (.frz od u) ∧ D.rt v (upd H' d u), fun σ' H' => H' d = some (.frz od u) ∧ D.bk σ' (upd H' d u), fun σ' H' => H' d = some (.frz od u) ∧ D.ct σ' (upd H' d u)⟩ σ (upd H d (.frz od u))) : tLock t D σ H := h
theorem g_ikeysK {td : TE} {σ : L2.St} {H : Hp} {R : It → Hp → Prop} (h : td σ H fun x H1 => ∃ d o, x = .ref d ∧ ((∃ kvs, H1 d = some (.frz o (.dK kvs)) ∧ R (Itk d o kvs) H1) ∨ ∃ kvs, H1 d = some (.frz o (.dT kvs)) ∧ R (Itkt d o kvs) H1)) : iKeys td σ H R := h
theorem unK_shape {n : Nat} {t : Con} {k : List Key} (h : k ∈ unK n t) : ∃ (j : Nat) (l : List Key), j < n ∧ l ∈ lvs t ∧ k = .inl (j : Int) :: l := by
  obtain ⟨j, hj, h⟩ := List.mem_flatMap.mp h
  obtain ⟨l, hl, rfl⟩ := List.mem_map.mp h
  exact ⟨j, l, List.mem_range.mp hj, hl, rfl⟩
theorem lvs_shape : ∀ {t : Con} {l : List Key}, l ∈ lvs t → ∃ x y g, l = [.inr x, .inr y, .inr g]
  | .none, l, h => by cases h
  | .give a b g o, l, h => by
    rw [show lvs (.give a b g o) = [lvK a b g] from rfl, List.mem_singleton] at h
    subst h
    unfold lvK
    split
    · exact ⟨_, _, _, rfl⟩
    · exact ⟨_, _, _, rfl⟩
  | .both c d, l, h => (List.mem_append.mp h).elim (lvs_shape (t := c)) (lvs_shape (t := d))
  | .turned a b c, l, h => by
    obtain ⟨k, hk, rfl⟩ := List.mem_map.mp (show l ∈ (lvs c).map (swpK a b) from h)
    obtain ⟨x, y, g, rfl⟩ := lvs_shape hk
    show ∃ x' y' g', lvK (tsd x a b) (tsd y a b) g = _
    unfold lvK
    split
    · exact ⟨_, _, _, rfl⟩
    · exact ⟨_, _, _, rfl⟩
  | .later _ c, l, h => lvs_shape (t := c) h
  | .often _ _ c, l, h => lvs_shape (t := c) h
  | .ite _ c d, l, h => (List.mem_append.mp h).elim (lvs_shape (t := c)) (lvs_shape (t := d))
  | .whn _ c, l, h => lvs_shape (t := c) h
  | .untl _ c, l, h => lvs_shape (t := c) h
/-- what stands told of the heap but for the dict that is being filled -/
structure FlA (K : PySem.W.Frag) (H : Hp) (D : Addr) (fl : Fls) (X : List (List Key)) : Prop where
  d : H D = some (.dT (kvF fl))
  n : (keysF fl).Nodup
  x : ∀ k ∈ keysF fl, k ∈ X
  l : X.length ≤ 4000
theorem FlA.len {K : PySem.W.Frag} {H : Hp} {D : Addr} {fl : Fls} {X : List (List Key)} (f : FlA K H D fl X) : fl.length ≤ 4000 := by
  have h := List.Nodup.length_le_of_subset f.n (l₂ := X) f.x
  unfold keysF at h
  rw [List.length_map] at h
  exact Nat.le_trans h f.l
theorem find_head {p : Nat → Bool} (l : List Nat) : (l.filter p).head? = l.find? p := by
  induction l with
  | nil => rfl
  | cons x l ih =>
    rw [List.find?_cons]
    cases e : p x
    · rw [List.filter_cons_of_neg (by rw [e]; decide)]
      exact ih
    · rw [List.filter_cons_of_pos e]
      rfl
theorem range_two {k e m : Nat} (h1 : k ≤ e) (h2 : e ≤ m) : List.range' k (m - k) = List.range' k (e - k) ++ List.range' e (m - e) := by
  rw [show m - k = (e - k) + (m - e) by omega, ← List.range'_append_1, show k + (e - k) = e by omega]
/-- a contract that begins when: up to an end -/
theorem nw_when {m : Nat} {F : Nat → Str → Int} {gd : Str} {q : Cond} {c : Con} {s : Str} {k e h : Nat} (ke : k ≤ e) (em : e ≤ m) (he : h < e) : nw m F gd (.whn q c) s k h = match ((List.range' k (e - k)).filter fun j => q.ev (F j)).head? with | some j => nw m F gd c s j h | none => 0 := by
  show (match (List.range' k (m - k)).find? (fun j => q.ev (F j)) with | some j => nw m F gd c s j h | none => 0) = _
  rw [find_head, range_two ke em, List.find?_append]
  cases c1 : (List.range' k (e - k)).find? (fun j => q.ev (F j)) with
  | some j => rfl
  | none =>
    show (match (List.range' e (m - e)).find? (fun j => q.ev (F j)) with | some j => nw m F gd c s j h | none => 0) = 0
    cases c2 : (List.range' e (m - e)).find? (fun j => q.ev (F j)) with
    | none => rfl
    | some j =>
      have := List.mem_range'_1.mp (List.mem_of_find?_eq_some c2)
      exact nw_early c s (by omega)
/-- what is ended: an end may stand ahead of the end -/
theorem nw_until {m : Nat} {F : Nat → Str → Int} {gd : Str} {q : Cond} {c : Con} {s : Str} {k e e' h : Nat} (ke : k ≤ e) (h1 : e' = e ∨ (k ≤ e' ∧ e' < e ∧ q.ev (F e') = true)) (h2 : ∀ j, k ≤ j → j < e → q.ev (F j) = true → e' ≤ j) : (if h < e' then nw m F gd c s k h else 0) = if h < e then nw m F gd (.untl q c) s k h else 0 := by
  have e1 : nw m F gd (.untl q c) s k h = if (List.range' k (h + 1 - k)).any (fun j => q.ev (F j)) = true then 0 else nw m F gd c s k h := rfl
  by_cases c1 : h < e'
  · have he : h < e := by omega
    rw [if_pos c1, if_pos he, e1, if_neg]
    intro z
    obtain ⟨j, hj, ej⟩ := List.any_eq_true.mp z
    have := List.mem_range'_1.mp hj
    have := h2 j (by omega) (by omega) ej
    omega
  · rw [if_neg c1]
    split
    · rename_i he
      rcases h1 with h1 | ⟨a1, a2, a3⟩
      · omega
      · rw [e1, if_pos]
        exact List.any_eq_true.mpr ⟨e', List.mem_range'_1.mpr (by omega), a3⟩
    · rfl
def spFlw (K : PySem.W.Frag) (N : Nat) : Sp := fun vs H Q _ => ∃ (v : V) (t : Con) (l D : Addr) (as : List V) (n k e : Nat) (xs : List Str) (F : Nat → Str → Int) (fl : Fls) (X : List (List Key)), vs = [v, .int k, .ref l, .int e, .ref D] ∧ DK K (er D H) t v ∧ SqL K (er D H) l as ∧ RwF (er D H) xs n F as ∧ n ≤ 100 ∧ e ≤ n ∧ t.In xs ∧ t.deep < N ∧ (∀ j < n, FB (F j)) ∧ FlA K H D fl X ∧ (∀ h < n, ∀ q ∈ lvs t, (Sum.inl (h : Int) :: q) ∈ X) ∧ n * (lvs t).length ≤ 4000 ∧
  ∀ fl' H', Same (er D H) (er D H') → FlA K H' D fl' X → (∀ gd s h, netF fl' gd s h = netF fl gd s h + (if h < e then nw n F gd t s k h else 0)) → Q .non H'
theorem use_flw {K : PySem.W.Frag} {N : Nat} {v : V} {t : Con} {l D : Addr} {as : List V} {n k e : Nat} {i j : Int} {xs : List Str} {F : Nat → Str → Int} {fl : Fls} {X : List (List Key)} {H : Hp} {Q : VK} {E : XK} (hi : i = k) (hj : j = e) (h1 : DK K (er D H) t v) (h2 : SqL K (er D H) l as) (h3 : RwF (er D H) xs n F as) (h4 : n ≤ 100) (h5 : e ≤ n) (h6 : t.In xs) (h7 : t.deep < N) (h8 : ∀ j < n, FB (F j)) (h9 : FlA K H D fl X) (h10 : ∀ h < n, ∀ q ∈ lvs t, (Sum.inl (h : Int) :: q) ∈ X) (h11 : n * (lvs t).length ≤ 4000)
    (q : ∀ fl' H', Same (er D H) (er D H') → FlA K H' D fl' X → (∀ gd s h, netF fl' gd s h = netF fl gd s h + (if h < e then nw n F gd t s k h else 0)) → Q .non H') : spFlw K N ([v, .int i, .ref l, .int j, .ref D] ++ []) H Q E := ⟨v, t, l, D, as, n, k, e, xs, F, fl, X, by rw [hi, hj]; rfl, h1, h2, h3, h4, h5, h6, h7, h8, h9, h10, h11, q⟩
theorem none_flw {P : Program} {w : World} {K : PySem.W.Frag} {mg : Str → Option Value} {base : Heap} {f : Addr} {fd : FuncData} {ps : List Str} : FnOk P w K mg base CX0 0 f fd ps (spFlw K 0) := by
  have no : ∀ vs H Q E, ¬ spFlw K 0 vs H Q E := fun vs H Q E h => by
    obtain ⟨v, t, l, D, as, n, k, e, xs, F, fl, X, _, _, _, _, _, _, _, h1, _⟩ := h
    exact absurd h1 (Nat.not_lt_zero _)
  exact ⟨fun vs H Q E h => absurd h (no vs H Q E), fun A outer s H args us vs Q E _ _ _ _ h => absurd h (no vs H Q E)⟩
section
variable {P : Program} {w : World} {K : PySem.W.Frag} {mg : Str → Option Value} {base : Heap}
abbrev s__law_flows : Stmt := topS 59
theorem sc__law_flows : FnScope ["_law_contract_here", "_law_begin", "_law_rows", "_law_end", "_law_flows_here", "_law_word_here", "_law_inner", "_law_place", "_law_hour", "_law_one", "_law_other", "_law_good_here", "_law_many", "_law_k", "_law_hours"] ["_law_contract_here", "_law_begin", "_law_rows", "_law_end", "_law_flows_here"] (defScope s__law_flows) := ⟨rfl, rfl, rfl, by decide +kernel, rfl, by decide +kernel, by decide +kernel⟩
theorem h__law_flows {n : Nat} {k : Nat} {f : Addr} {fd : FuncData} (O : Own K mg "_law_flows" s__law_flows ["_law_contract_here", "_law_begin", "_law_rows", "_law_end", "_law_flows_here"] f fd)  {f__law_put : Addr} {fd__law_put : FuncData} (D__law_put : Has P w K mg base "_law_put" ["_law_flows_here", "_law_hour", "_law_one", "_law_other", "_law_good_here", "_law_many"] k CX0 (spPut K) f__law_put fd__law_put) {f__law_value : Addr} {fd__law_value : FuncData} (D__law_value : Has P w K mg base "_law_value" ["_law_told_here", "_law_row"] k CX0 (spLVl K 4) f__law_value fd__law_value) {f__law_flows : Addr} {fd__law_flows : FuncData} (D__law_flows : Has P w K mg base "_law_flows" ["_law_contract_here", "_law_begin", "_law_rows", "_law_end", "_law_flows_here"] k CX0 (spFlw K n) f__law_flows fd__law_flows) {f__law_holds : Addr} {fd__law_holds : FuncData} (D__law_holds : Has P w K mg base "_law_holds" ["_law_asked_here", "_law_row"] k CX0 (spLHl K 4) f__law_holds fd__law_holds) (m_range : mg "range" = none) (m_int : mg "int" = none) (m_min : mg "min" = none) (m_len : mg "len" = none) : Has P w K mg base "_law_flows" ["_law_contract_here", "_law_begin", "_law_rows", "_law_end", "_law_flows_here"] (k + 1) CX0 (spFlw K (n + 1)) f fd := by
  refine O.has (O.F.ok sc__law_flows (fun vs H Q E h => ?_) (fun cdv A outer s H vs Q E hr h => ?_))
  · obtain ⟨v, t, l, D, as, m, k, e, xs, F, fl, X, rfl, _⟩ := h
    rfl
  obtain ⟨v, t, l, D, as, m, k, e, xs, F, fl, X, rfl, hd, hl, hrs, m100, em, ti, td, fb, fa, ux, ml, q⟩ := h
  refine ⟨_, (pss_cons (ps_set (i := 5) sc__law_flows.nd rfl (.inl rfl) (pe_ix ix_tup (pv 0) pe_int (fun _ _ => rfl))) (pss_cons (ps_if (PW.pt (pw_or (pt_cmpR op_eq (pv 5) pe_str (nomark _)) (pw_or1 (pt_cmpR op_ge (pv 1) (pv 3) (nomark _))))) (pss_one ps_retN) pss_nil) (pss_one (ps_if (pt_cmpR op_eq (pv 5) pe_str (nomark _)) (pss_one (ps_expr (pe_call D__law_put.G hr (by rfl) D__law_put.g D__law_put.k D__law_put.b .nil pass0 (pa_cons (pv 4) (pa_cons (pv 1) (pa_cons (pe_ix ix_tup (pv 0) pe_int (fun _ _ => rfl)) (pa_cons (pe_ix ix_tup (pv 0) pe_int (fun _ _ => rfl)) (pa_cons (pe_ix ix_tup (pv 0) pe_int (fun _ _ => rfl)) (pa_cons (pe_call D__law_value.G hr (by rfl) D__law_value.g D__law_value.k D__law_value.b .nil pass0 (pa_cons (pe_ix ix_tup (pv 0) pe_int (fun _ _ => rfl)) (pa_cons (pe_ix ix_list (pv 2) (pv 1) (fun _ _ => rfl)) pa_nil))) pa_nil))))))))) (pss_one (ps_if (pt_cmpR op_eq (pv 5) pe_str (nomark _)) (pss_cons (ps_expr (pe_call D__law_flows.G hr (by rfl) D__law_flows.g D__law_flows.k D__law_flows.b .nil pass0 (pa_cons (pe_ix ix_tup (pv 0) pe_int (fun _ _ => rfl)) (pa_cons (pv 1) (pa_cons (pv 2) (pa_cons (pv 3) (pa_cons (pv 4) pa_nil))))))) (pss_one (ps_expr (pe_call D__law_flows.G hr (by rfl) D__law_flows.g D__law_flows.k D__law_flows.b .nil pass0 (pa_cons (pe_ix ix_tup (pv 0) pe_int (fun _ _ => rfl)) (pa_cons (pv 1) (pa_cons (pv 2) (pa_cons (pv 3) (pa_cons (pv 4) pa_nil))))))))) (pss_one (ps_if (pt_cmpR op_eq (pv 5) pe_str (nomark _)) (pss_cons (ps_set (i := 6) sc__law_flows.nd rfl (.inl rfl) pe_dnewT) (pss_cons (ps_expr (pe_call D__law_flows.G hr (by rfl) D__law_flows.g D__law_flows.k D__law_flows.b .nil pass0 (pa_cons (pe_ix ix_tup (pv 0) pe_int (fun _ _ => rfl)) (pa_cons (pv 1) (pa_cons (pv 2) (pa_cons (pv 3) (pa_cons (pv 6) pa_nil))))))) (pss_cons (ps_set (i := 7) sc__law_flows.nd rfl (.inl rfl) (pe_disp (pps_cons (pe_ix ix_tup (pv 0) pe_int (fun _ _ => rfl)) (pe_ix ix_tup (pv 0) pe_int (fun _ _ => rfl)) (pps_cons (pe_ix ix_tup (pv 0) pe_int (fun _ _ => rfl)) (pe_ix ix_tup (pv 0) pe_int (fun _ _ => rfl)) pps_nil)) (by rfl) (by rfl) (fun z => by cases z) (by decide))) (pss_one (ps_lock (ps_for PassesOwn.never rfl (pi_keys (pv 6)) (pg_tup rfl (pgs_cons (pg_name (i := 8) sc__law_flows.nd rfl (.inl rfl)) (pgs_cons (pg_name (i := 9) sc__law_flows.nd rfl (.inl rfl)) (pgs_cons (pg_name (i := 10) sc__law_flows.nd rfl (.inl rfl)) (pgs_cons (pg_name (i := 11) sc__law_flows.nd rfl (.inl rfl)) pgs_nil))))) (pss_cons (ps_set (i := 12) sc__law_flows.nd rfl (.inl rfl) (pe_dget (hu_of hr) (pv 6) (pe_tup (pa_cons (pv 8) (pa_cons (pv 9) (pa_cons (pv 10) (pa_cons (pv 11) pa_nil))))) (fun _ _ => rfl))) (pss_one (ps_expr (pe_call D__law_put.G hr (by rfl) D__law_put.g D__law_put.k D__law_put.b .nil pass0 (pa_cons (pv 4) (pa_cons (pv 8) (pa_cons (pe_dget2 (hu_of hr) (pv 7) (pv 9) (pv 9) ⟨rfl, rfl, rfl, rfl⟩) (pa_cons (pe_dget2 (hu_of hr) (pv 7) (pv 10) (pv 10) ⟨rfl, rfl, rfl, rfl⟩) (pa_cons (pv 11) (pa_cons (pv 12) pa_nil)))))))))))))))) (pss_one (ps_if (pt_cmpR op_eq (pv 5) pe_str (nomark _)) (pss_one (ps_expr (pe_call D__law_flows.G hr (by rfl) D__law_flows.g D__law_flows.k D__law_flows.b .nil pass0 (pa_cons (pe_ix ix_tup (pv 0) pe_int (fun _ _ => rfl)) (pa_cons (pe_op op_add (pv 1) (pe_ix ix_tup (pv 0) pe_int (fun _ _ => rfl))) (pa_cons (pv 2) (pa_cons (pv 3) (pa_cons (pv 4) pa_nil)))))))) (pss_one (ps_if (pt_cmpR op_eq (pv 5) pe_str (nomark _)) (pss_one (ps_for PassesOwn.never rfl (pi_range1 (by rfl) m_range (pa_cons (pe_ix ix_tup (pv 0) pe_int (fun _ _ => rfl)) pa_nil)) (pg_name (i := 13) sc__law_flows.nd rfl (.inl rfl)) (pss_one (ps_expr (pe_call D__law_flows.G hr (by rfl) D__law_flows.g D__law_flows.k D__law_flows.b .nil pass0 (pa_cons (pe_ix ix_tup (pv 0) pe_int (fun _ _ => rfl)) (pa_cons (pe_op op_add (pv 1) (pe_op op_mul (pv 13) (pe_ix ix_tup (pv 0) pe_int (fun _ _ => rfl)))) (pa_cons (pv 2) (pa_cons (pv 3) (pa_cons (pv 4) pa_nil)))))))))) (pss_one (ps_if (pt_cmpR op_eq (pv 5) pe_str (nomark _)) (pss_one (ps_expr (pe_call D__law_flows.G hr (by rfl) D__law_flows.g D__law_flows.k D__law_flows.b .nil pass0 (pa_cons (pe_ix ix_tup (pv 0) (pe_op op_add pe_int (pe_callTy call_int1 (by rfl) m_int (by decide +kernel) (pa_cons (pe_not (pe_call D__law_holds.G hr (by rfl) D__law_holds.g D__law_holds.k D__law_holds.b .nil pass0 (pa_cons (pe_ix ix_tup (pv 0) pe_int (fun _ _ => rfl)) (pa_cons (pe_ix ix_list (pv 2) (pv 1) (fun _ _ => rfl)) pa_nil)))) pa_nil))) (fun _ _ => rfl)) (pa_cons (pv 1) (pa_cons (pv 2) (pa_cons (pv 3) (pa_cons (pv 4) pa_nil)))))))) (pss_cons (ps_setLc (i := 14) (own := [("_law_k", 13)]) (g := gName 13) rfl sc__law_flows.nd rfl rfl (sw_true rfl rfl rfl (by decide +kernel)) (pi_range2 (by rfl) m_range (pa_cons (pv 1) (pa_cons (pv 3) pa_nil))) (blkOk_by (own := [("_law_k", 13)]) (N := ["_law_contract_here", "_law_begin", "_law_rows", "_law_end", "_law_flows_here", "_law_word_here", "_law_inner", "_law_place", "_law_hour", "_law_one", "_law_other", "_law_good_here", "_law_many", "_law_k", "_law_hours"]) (sc := defScope s__law_flows) (by decide +kernel)) (fun _ _ _ _ _ => pg_name (i := 13) sc__law_flows.nd rfl (.inl rfl)) (fun _ _ _ _ _ => pts_one (pt_val (pe_call D__law_holds.G hr (by rfl) D__law_holds.g D__law_holds.k D__law_holds.b .nil pass0 (pa_cons (pe_ix (r := rIxT K) ix_tup (pv 0) pe_int (fun _ _ => rfl)) (pa_cons (pe_ix (r := rIxL K) ix_list (pv 2) (pv 13) (fun _ _ => rfl)) pa_nil))))) (fun _ _ _ _ _ => (pv 13))) (pss_cons (ps_if (PW.pt (pw_and (pt_cmpR op_eq (pv 5) pe_str (nomark _)) (pw_and1 (pt_cmpR op_gt (pe_callB call_len_seq (by rfl) m_len (by decide +kernel) (pa_cons (pv 14) pa_nil)) pe_int (nomark _))))) (pss_one (ps_expr (pe_call D__law_flows.G hr (by rfl) D__law_flows.g D__law_flows.k D__law_flows.b .nil pass0 (pa_cons (pe_ix ix_tup (pv 0) pe_int (fun _ _ => rfl)) (pa_cons (pe_ix ix_list (pv 14) pe_int (fun _ _ => rfl)) (pa_cons (pv 2) (pa_cons (pv 3) (pa_cons (pv 4) pa_nil)))))))) pss_nil) (pss_one (ps_if (pt_cmpR op_eq (pv 5) pe_str (nomark _)) (pss_one (ps_expr (pe_call D__law_flows.G hr (by rfl) D__law_flows.g D__law_flows.k D__law_flows.b .nil pass0 (pa_cons (pe_ix ix_tup (pv 0) pe_int (fun _ _ => rfl)) (pa_cons (pv 1) (pa_cons (pv 2) (pa_cons (pe_callB (cr_min rfl) (by rfl) m_min (by decide +kernel) (pa_cons (pe_op op_cat (pv 14) (pe_lst (pa_cons (pv 3) pa_nil))) pa_nil)) (pa_cons (pv 4) pa_nil)))))))) pss_nil)))))))))))))))))), ?_⟩
  obtain ⟨p, vs, us, rfl, hp, h1, h2⟩ := hd.parts
  have hpH := SqT.same er_sub hp
  walk_at "go"
  refine ⟨_, _, _, _, rfl, rfl, hpH, at_any (j := 0) rfl rfl, ?_⟩
  walk_at "go"
  have fin0 : (∀ gd s h, h < e → nw m F gd t s k h = 0) → Q .non H := fun z => q fl H (.refl _) fa fun gd s h => by
    by_cases c : h < e
    · rw [if_pos c, z gd s h c, Int.add_zero]
    · rw [if_neg c, Int.add_zero]
  refine or_cut ((e : Int) ≤ (k : Int)) (fun hc => ?_) (fun c1 back => ?_)
  · walk_at "go"
    refine fin0 fun gd s h hh => ?_
    rcases hc with hc | hc
    · obtain rfl := t.is_none hc
      rfl
    · exact nw_early _ _ (by omega)
  walk_at "go"
  refine ifd back (fun hb => ?_)
  have ke : k < e := by omega
  have km : k < m := by omega
  clear back fin0
  obtain ⟨r, hr1, hr2⟩ := hrs.2 k km
  have hlH := er_sub.seq hl
  walk_at "go"
  refine ifd (fun c2 => ?_) (fun c2 => ?_)
  · obtain ⟨x1, x2, g, o, rfl⟩ := t.is_give c2
    obtain ⟨_, oi, od⟩ := ti
    obtain ⟨p', u, ep, hp', hu⟩ := hd
    cases ep
    replace hp' := SqT.same er_sub hp'
    walk_at "go"
    refine ⟨_, _, _, _, rfl, rfl, hp', at_any (j := 1) rfl rfl, ?_⟩
    walk_at "go"
    refine ⟨_, _, _, _, rfl, rfl, hp', at_any (j := 2) rfl rfl, ?_⟩
    walk_at "go"
    refine ⟨_, _, _, _, rfl, rfl, hp', at_any (j := 3) rfl rfl, ?_⟩
    walk_at "go"
    refine ⟨_, _, _, _, rfl, rfl, hp', at_any (j := 4) rfl rfl, ?_⟩
    walk_at "go"
    refine ⟨_, _, _, _, rfl, rfl, hlH, at_any (j := k) rfl hr1, ?_⟩
    walk_at "go"
    refine use_lvl (DN.tm (.of er_sub) hu) (hr2.same er_sub) (fb k km) oi (by omega) (by omega) fun H1 e1 => ?_
    refine ⟨D, k, o.ev (F k), x1, x2, g, fl, rfl, e1 _ _ fa.d, fa.n, fa.len, fun H2 e2 h2 => ?_⟩
    walk_at "go"
    refine q _ H2 ((er_same e1).trans e2) ⟨h2, putF_nodup fa.n _ _, fun q' hq => ?_, fa.l⟩ fun gd s h => ?_
    · obtain ⟨a1, a2⟩ := putF_keys fl (keyF k x1 x2 g) (sgnF x1 x2 (o.ev (F k)))
      by_cases c : keyF k x1 x2 g ∈ keysF fl
      · rw [a1 c] at hq
        exact fa.x _ hq
      · rw [a2 c] at hq
        rcases List.mem_append.mp hq with hq | hq
        · exact fa.x _ hq
        · rw [List.mem_singleton.mp hq, keyF_lv]
          exact ux k km _ List.mem_cons_self
    · rw [netF_put, key_net]
      congr 1
      show (if (k : Int) = (h : Int) ∧ g = gd then o.ev (F k) * ((if s = x2 then 1 else 0) - (if s = x1 then 1 else 0)) else 0) = if h < e then (if k < m ∧ h = k ∧ g = gd then o.ev (F k) * ((if s = x2 then 1 else 0) - (if s = x1 then 1 else 0)) else 0) else 0
      by_cases c : h = k ∧ g = gd
      · rw [if_pos (show (k : Int) = (h : Int) ∧ g = gd from ⟨by omega, c.2⟩), if_pos (show h < e by omega), if_pos (show k < m ∧ h = k ∧ g = gd from ⟨km, c.1, c.2⟩)]
      · rw [if_neg (show ¬ ((k : Int) = (h : Int) ∧ g = gd) from fun z => c ⟨by omega, z.2⟩), if_neg (show ¬ (k < m ∧ h = k ∧ g = gd) from fun z => c ⟨z.2.1, z.2.2⟩)]
        split <;> rfl
  walk_at "go"
  refine ifd (fun c3 => ?_) (fun c3 => ?_)
  · obtain ⟨c, d, rfl⟩ := t.is_both c3
    obtain ⟨p', u, z, ep, hp', hu, hz⟩ := hd
    cases ep
    have td : max c.deep d.deep + 1 < n + 1 := td
    have lcd : (lvs c ++ lvs d).length = (lvs c).length + (lvs d).length := List.length_append
    have ml0 : m * ((lvs c).length + (lvs d).length) ≤ 4000 := by rw [← lcd]; exact ml
    rw [Nat.mul_add] at ml0
    have ml1 : m * (lvs c).length ≤ 4000 := by omega
    have ml2 : m * (lvs d).length ≤ 4000 := by omega
    walk_at "go"
    refine ⟨_, _, _, _, rfl, rfl, SqT.same er_sub hp', at_any (j := 1) rfl rfl, ?_⟩
    walk_at "go"
    refine use_flw (k := k) (e := e) rfl rfl hu hl hrs m100 em ti.1 (by omega) fb fa (fun h hh q' hq => ux h hh q' (List.mem_append_left _ hq)) ml1 fun fl1 H1 e1 fa1 n1 => ?_
    walk_at "go"
    refine ⟨_, _, _, _, rfl, rfl, SqT.same (e1.trans er_sub) hp', at_any (j := 2) rfl rfl, ?_⟩
    walk_at "go"
    refine use_flw (k := k) (e := e) rfl rfl (DK.tm (.of e1) hz) (e1.seq hl) (hrs.same e1) m100 em ti.2 (by omega) fb fa1 (fun h hh q' hq => ux h hh q' (List.mem_append_right _ hq)) ml2 fun fl2 H2 e2 fa2 n2 => ?_
    walk_at "go"
    refine q fl2 H2 (e1.trans e2) fa2 fun gd s h => ?_
    rw [n2, n1]
    show _ = netF fl gd s h + (if h < e then nw m F gd c s k h + nw m F gd d s k h else 0)
    split <;> omega
  walk_at "go"
  refine ifd (fun c4 => ?_) (fun c4 => ?_)
  · obtain ⟨a, a2, d, rfl⟩ := t.is_turned c4
    obtain ⟨p', u, ep, hp', hu⟩ := hd
    cases ep
    have hp0 := hp'
    have td : d.deep + 1 < n + 1 := td
    obtain ⟨⟨_, ab⟩, ti⟩ := ti
    have ml' : m * (lvs d).length ≤ 4000 := by
      have : (lvs (.turned a a2 d)).length = (lvs d).length := List.length_map _
      rw [← this]
      exact ml
    walk_at "go"
    intro C nC
    have s1 := same_new (o := .dT []) nC
    have hC0 : upd H C (.dT []) C = some (.dT (kvF [])) := upd_same
    have e0 : er C (upd H C (.dT [])) = H := er_upd.trans (er_new nC)
    have nCD : C ≠ D := fun z => by rw [z, fa.d] at nC; cases nC
    generalize upd H C (.dT []) = H1 at s1 hC0 e0 ⊢
    walk_at "go"
    refine ⟨_, _, _, _, rfl, rfl, SqT.same (er_sub.trans s1) hp', at_any (j := 3) rfl rfl, ?_⟩
    walk_at "go"
    refine use_flw (D := C) (fl := []) (X := unK m d) (k := k) (e := e) rfl rfl (DK.tm (.of (by rw [e0]; exact er_sub)) hu) (by rw [e0]; exact hlH) (by rw [e0]; exact hrs.same er_sub) m100 em ti (by omega) fb ⟨hC0, List.nodup_nil, fun z hz => (by cases hz), by rw [unK_len]; exact ml'⟩ (fun h hh q' hq => List.mem_flatMap.mpr ⟨h, List.mem_range.mpr hh, List.mem_map.mpr ⟨q', hq, rfl⟩⟩) ml' fun fi H2 e2 fai ni => ?_
    rw [e0] at e2
    have hD2 := e2.trans er_sub
    walk_at "go"
    intro Pl nPl
    have s3 := same_new (o := .dK []) nPl
    have eH2 : Same (er D H) H2 := (er_sub (p := D)).trans hD2
    have hp3 := SqT.same (eH2.trans s3) (SqT.same (show Same (er D H) (er D H) from .refl _) hp0)
    refine g_pairs ?_
    walk_at "go"
    refine ⟨_, _, _, _, rfl, rfl, hp3, at_any (j := 1) rfl rfl, ?_⟩
    walk_at "go"
    refine ⟨_, _, _, _, rfl, rfl, hp3, at_any (j := 2) rfl rfl, ?_⟩
    refine g_pairs ?_
    walk_at "go"
    refine ⟨_, _, _, _, rfl, rfl, hp3, at_any (j := 2) rfl rfl, ?_⟩
    walk_at "go"
    refine ⟨_, _, _, _, rfl, rfl, hp3, at_any (j := 1) rfl rfl, ?_⟩
    walk_at "go"
    refine ⟨upd_same, ([(Sum.inr a, V.str a2), (Sum.inr a2, V.str a)] : List (Key × V)), rfl, by show 2 ≤ 15; decide, ?_⟩
    have sx : Same H2 (upd (upd H2 Pl (.dK [])) Pl (.dK (mergeK [] ([(Sum.inr a, V.str a2), (Sum.inr a2, V.str a)] : List (Key × V))))) := fun c o h => by rw [upd_ne (ne_of_none h nPl), upd_ne (ne_of_none h nPl)]; exact h
    have hPl : upd (upd H2 Pl (.dK [])) Pl (.dK (mergeK [] ([(Sum.inr a, V.str a2), (Sum.inr a2, V.str a)] : List (Key × V)))) Pl = some (.dK (mergeK [] ([(Sum.inr a, V.str a2), (Sum.inr a2, V.str a)] : List (Key × V)))) := upd_same
    generalize upd (upd H2 Pl (.dK [])) Pl (.dK (mergeK [] ([(Sum.inr a, V.str a2), (Sum.inr a2, V.str a)] : List (Key × V)))) = H3 at sx hPl ⊢
    walk_at "go"
    have e3 := e2.trans (er_same (p := C) sx)
    have hC3 : H3 C = some (.dT (kvF fi)) := sx _ _ fai.d
    have hD3 : H3 D = some (.dT (kvF fl)) := sx _ _ (hD2 _ _ fa.d)
    refine g_lockS ⟨C, .dT (kvF fi), hC3, trivial, fun od => ?_⟩
    have hCL : upd H3 C (.frz od (.dT (kvF fi))) C = some (.frz od (.dT (kvF fi))) := upd_same
    have back : ∀ {H'}, Same (er D (upd H3 C (.frz od (.dT (kvF fi))))) (er D H') → Same (er D H) (er D (upd H' C (.dT (kvF fi)))) := fun {H'} ee c o hc => by
      have cD : c ≠ D := fun z => by rw [z] at hc; unfold er at hc; rw [if_pos rfl] at hc; cases hc
      rw [er_ne cD] at hc ⊢
      have cC : c ≠ C := fun z => by rw [z, nC] at hc; cases hc
      rw [upd_ne cC]
      have z3 : H3 c = some o := sx _ _ (hD2 _ _ hc)
      have := ee c o (by rw [er_ne cD, upd_ne cC]; exact z3)
      rwa [er_ne cD] at this
    have PC : Pl ≠ C := fun z => by rw [z, fai.d] at nPl; cases nPl
    have PD : Pl ≠ D := fun z => by rw [z, hD2 _ _ fa.d] at nPl; cases nPl
    have hPL : upd H3 C (.frz od (.dT (kvF fi))) Pl = some (.dK (mergeK [] ([(Sum.inr a, V.str a2), (Sum.inr a2, V.str a)] : List (Key × V)))) := by rw [upd_ne PC]; exact hPl
    have hDL : upd H3 C (.frz od (.dT (kvF fi))) D = some (.dT (kvF fl)) := by rw [upd_ne (fun z => nCD z.symm)]; exact hD3
    generalize upd H3 C (.frz od (.dT (kvF fi))) = HL at hCL back hPL hDL ⊢
    walk_at "go"
    refine g_ikeysK ?_
    walk_at "go"
    refine ⟨C, od, rfl, .inr ⟨kvF fi, hCL, ?_⟩⟩
    refine for_it walk_keysT (fun i σ Hc => ∃ y8 y9 y10 y11 y12 fli, σ = [some (.ref p), some (.int k), some (.ref l), some (.int e), some (.ref D), some (.str "turned"), some (.ref C), some (.ref Pl), y8, y9, y10, y11, y12, none, none] ∧ Same (er D HL) (er D Hc) ∧ FlA K Hc D fli X ∧ ∀ gd s h, netF fli gd s h = netF fl gd s h + netF (fi.take i) gd (tsd s a a2) h) ⟨_, _, _, _, _, fl, rfl, .refl _, ⟨hDL, fa.n, fa.x, fa.l⟩, fun gd s h => by rw [List.take_zero]; exact (Int.add_zero _).symm⟩ (fun i σ Hc _ hW => ?_) (fun i x σ Hc Hc' hi hW hy => ?_) (fun σ Hc hW => ?_)
    · obtain ⟨_, _, _, _, _, _, _, ee, _⟩ := hW
      have := ee C _ (by rw [er_ne nCD]; exact hCL)
      rwa [er_ne nCD] at this
    · obtain ⟨y8, y9, y10, y11, y12, fli, rfl, ee, fb1, nn⟩ := hW
      obtain ⟨rfl, kq, vq, qa, hkv, rfl, hqa⟩ := hy
      unfold kvF at hkv
      rw [List.getElem?_map] at hkv
      obtain ⟨⟨k1, mq⟩, hfi, hkv⟩ := Option.map_eq_some_iff.mp hkv
      cases hkv
      have kin : k1 ∈ keysF fi := List.mem_map.mpr ⟨_, List.mem_of_getElem? hfi, rfl⟩
      obtain ⟨j, lq, hj, hlq, rfl⟩ := unK_shape (fai.x _ kin)
      obtain ⟨kx, ky, kg, rfl⟩ := lvs_shape hlq
      have hval := fl_at fai.n hfi
      have hCc : Hc' C = some (.frz od (.dT (kvF fi))) := by
        have := ee C _ (by rw [er_ne nCD]; exact hCL)
        rwa [er_ne nCD] at this
      have hPc : Hc' Pl = some (.dK (mergeK [] ([(Sum.inr a, V.str a2), (Sum.inr a2, V.str a)] : List (Key × V)))) := by
        have := ee Pl _ (by rw [er_ne PD]; exact hPL)
        rwa [er_ne PD] at this
      have hqa : Hc' qa = some (.tup [V.int (j : Int), V.str kx, V.str ky, V.str kg]) := hqa
      refine g_gtup (sqt hqa) rfl ?_
      walk_at "go"
      refine ⟨by show 4 ≤ sizeLine; decide, fun T nT => ?_⟩
      have s4 := same_new (o := .tup [V.int (j : Int), V.str kx, V.str ky, V.str kg]) nT
      have hT : upd Hc' T (.tup [V.int (j : Int), V.str kx, V.str ky, V.str kg]) T = some (.tup (([.inl (j : Int), .inr kx, .inr ky, .inr kg] : List Key).map kV)) := upd_same
      generalize upd Hc' T (.tup [V.int (j : Int), V.str kx, V.str ky, V.str kg]) = H5 at s4 hT ⊢
      walk_at "go"
      refine ⟨_, _, rfl, .inr ⟨kvF fi, [.inl (j : Int), .inr kx, .inr ky, .inr kg], T, .inr ⟨od, s4 _ _ hCc⟩, rfl, hT, hval.symm⟩, ?_⟩
      walk_at "go"
      refine g_dget2 ?_
      walk_at "go"
      refine ⟨.inl ⟨_, .inl (s4 _ _ hPc)⟩, ?_⟩
      walk_at "go"
      refine ⟨_, .inl ⟨_, Sum.inr kx, .inl (s4 _ _ hPc), rfl, rfl⟩, ?_⟩
      rw [turn_get ab]
      walk_at "go"
      refine g_dget2 ?_
      walk_at "go"
      refine ⟨.inl ⟨_, .inl (s4 _ _ hPc)⟩, ?_⟩
      walk_at "go"
      refine ⟨_, .inl ⟨_, Sum.inr ky, .inl (s4 _ _ hPc), rfl, rfl⟩, ?_⟩
      rw [turn_get ab]
      walk_at "go"
      refine ⟨D, j, mq, tsd kx a a2, tsd ky a a2, kg, fli, rfl, s4 _ _ fb1.d, fb1.n, fb1.len, fun H6 e6 h6 => ?_⟩
      walk_at "go"
      refine ⟨_, _, _, _, _, _, rfl, ee.trans ((er_same s4).trans e6), ⟨h6, putF_nodup fb1.n _ _, fun z hz => ?_, fb1.l⟩, fun gd s h => ?_⟩
      · obtain ⟨a1, a3⟩ := putF_keys fli (keyF j (tsd kx a a2) (tsd ky a a2) kg) (sgnF (tsd kx a a2) (tsd ky a a2) mq)
        by_cases c : keyF j (tsd kx a a2) (tsd ky a a2) kg ∈ keysF fli
        · rw [a1 c] at hz
          exact fb1.x _ hz
        · rw [a3 c] at hz
          rcases List.mem_append.mp hz with hz | hz
          · exact fb1.x _ hz
          · rw [List.mem_singleton.mp hz, keyF_lv]
            exact ux j hj _ (List.mem_map.mpr ⟨_, hlq, rfl⟩)
      · rw [netF_put, key_net, nn, netF_take hfi, Int.add_assoc]
        congr 2
        have e7 : atF h gd [.inl (j : Int), .inr kx, .inr ky, .inr kg] = (decide ((j : Int) = (h : Int)) && decide (kg = gd)) := rfl
        rw [e7]
        show _ = if _ then mq * ((if tsd s a a2 = ky then 1 else 0) - (if tsd s a a2 = kx then 1 else 0)) else 0
        have i1 : (if s = tsd ky a a2 then (1 : Int) else 0) = if tsd s a a2 = ky then 1 else 0 := by
          by_cases c : s = tsd ky a a2
          · rw [if_pos c, if_pos ((tsd_iff ab s ky).mp c)]
          · rw [if_neg c, if_neg fun z => c ((tsd_iff ab s ky).mpr z)]
        have i2 : (if s = tsd kx a a2 then (1 : Int) else 0) = if tsd s a a2 = kx then 1 else 0 := by
          by_cases c : s = tsd kx a a2
          · rw [if_pos c, if_pos ((tsd_iff ab s kx).mp c)]
          · rw [if_neg c, if_neg fun z => c ((tsd_iff ab s kx).mpr z)]
        rw [i1, i2]
        by_cases c : (j : Int) = (h : Int) ∧ kg = gd
        · have cb : (decide ((j : Int) = (h : Int)) && decide (kg = gd)) = true := by rw [decide_eq_true c.1, decide_eq_true c.2]; rfl
          rw [if_pos c, if_pos cb]
        · have cb : ¬ (decide ((j : Int) = (h : Int)) && decide (kg = gd)) = true := fun z => c (by
            rw [Bool.and_eq_true, decide_eq_true_eq, decide_eq_true_eq] at z
            exact z)
          rw [if_neg c, if_neg cb]
    · obtain ⟨y8, y9, y10, y11, y12, fli, rfl, ee, fb1, nn⟩ := hW
      have hCc : Hc C = some (.frz od (.dT (kvF fi))) := by
        have := ee C _ (by rw [er_ne nCD]; exact hCL)
        rwa [er_ne nCD] at this
      refine ⟨hCc, ?_⟩
      walk_at "go"
      refine q fli _ (back ee) ⟨by rw [upd_ne (fun z => nCD z.symm)]; exact fb1.d, fb1.n, fb1.x, fb1.l⟩ fun gd s h => ?_
      rw [nn]
      have lk : (kvF fi).length = fi.length := List.length_map _
      rw [lk, List.take_length, ni]
      show _ + (0 + _) = _
      rw [Int.zero_add]
      rfl
  walk_at "go"
  refine ifd (fun c5 => ?_) (fun c5 => ?_)
  · obtain ⟨j, d, rfl⟩ := t.is_later c5
    obtain ⟨p', u, ep, hp', hu⟩ := hd
    cases ep
    have td : d.deep + 1 < n + 1 := td
    obtain ⟨⟨j0, j1⟩, ti⟩ := ti
    walk_at "go"
    refine ⟨_, _, _, _, rfl, rfl, SqT.same er_sub hp', at_any (j := 2) rfl rfl, ?_⟩
    walk_at "go"
    refine ⟨_, _, _, _, rfl, rfl, SqT.same er_sub hp', at_any (j := 1) rfl rfl, ?_⟩
    walk_at "go"
    refine use_flw (k := k + j.toNat) (e := e) (by push_cast; omega) rfl hu hl hrs m100 em ti (by omega) fb fa ux ml fun fl1 H1 e1 fa1 n1 => ?_
    walk_at "go"
    exact q fl1 H1 e1 fa1 n1
  walk_at "go"
  refine ifd (fun c6 => ?_) (fun c6 => ?_)
  · obtain ⟨j, g, d, rfl⟩ := t.is_often c6
    obtain ⟨p', u, ep, hp', hu⟩ := hd
    cases ep
    have td : d.deep + 1 < n + 1 := td
    obtain ⟨⟨j0, j1⟩, ⟨g0, g1⟩, ti⟩ := ti
    walk_at "go"
    refine ⟨_, _, _, _, rfl, rfl, SqT.same er_sub hp', at_any (j := 1) rfl rfl, ?_⟩
    walk_at "go"
    refine ⟨by omega, by omega, for_range (lo := 0) (n := j.toNat) (fun i σ Hc => ∃ y13 fli, σ = [some (.ref p), some (.int k), some (.ref l), some (.int e), some (.ref D), some (.str "often"), none, none, none, none, none, none, none, y13, none] ∧ Same (er D H) (er D Hc) ∧ FlA K Hc D fli X ∧ ∀ gd s h, netF fli gd s h = netF fl gd s h + (if h < e then ((List.range i).map fun x => nw m F gd d s (k + x * g.toNat) h).sum else 0)) ⟨_, fl, rfl, .refl _, fa, fun gd s h => by simp⟩ (fun i σ Hc hi hW => ?_) (fun σ Hc hW => ?_)⟩
    · obtain ⟨y13, fli, rfl, e1, fa1, n1⟩ := hW
      have es := e1.trans er_sub
      walk_at "go"
      refine ⟨_, _, _, _, rfl, rfl, SqT.same es hp', at_any (j := 3) rfl rfl, ?_⟩
      walk_at "go"
      refine ⟨_, _, _, _, rfl, rfl, SqT.same es hp', at_any (j := 2) rfl rfl, ?_⟩
      walk_at "go"
      refine g_I (.inr ⟨by omega, by omega⟩) ?_
      walk_at "go"
      have evi : (k : Int) + (0 + (i : Int)) * g = ((k + i * g.toNat : Nat) : Int) := by
        rw [Int.zero_add]
        push_cast
        rw [Int.toNat_of_nonneg (by omega)]
      refine use_flw (k := k + i * g.toNat) (e := e) evi rfl (DK.tm (.of e1) hu) (e1.seq hl) (hrs.same e1) m100 em ti (by omega) fb fa1 ux ml fun fl2 H2 e2 fa2 n2 => ?_
      walk_at "go"
      refine ⟨_, fl2, rfl, e1.trans e2, fa2, fun gd s h => ?_⟩
      rw [n2, n1, range_snoc, List.sum_append]
      simp only [List.sum_cons, List.sum_nil]
      split <;> omega
    · obtain ⟨y13, fli, rfl, e1, fa1, n1⟩ := hW
      walk_at "go"
      exact q fli Hc e1 fa1 n1
  obtain ⟨q', hq, hforms⟩ := t.asks ⟨fun z => c1 z, c2, c4, c3, c5, c6⟩
  rw [hq] at h1
  obtain ⟨x, rfl, hx⟩ := All2.one_inv h1
  have hx : DC K (er D H) q' x := hx
  have qi : q'.In xs 1 ∧ q'.deep ≤ 2 := by
    rcases hforms with ⟨_, c, d, rfl⟩ | ⟨_, c, rfl⟩ | ⟨_, c, rfl⟩
    · have hq : [Part.cond _] = [Part.cond q'] := hq
      cases hq
      exact ti.1
    · have hq : [Part.cond _] = [Part.cond q'] := hq
      cases hq
      exact ti.1
    · have hq : [Part.cond _] = [Part.cond q'] := hq
      cases hq
      exact ti.1
  walk_at "go"
  refine ifd (fun c7 => ?_) (fun c7 => ?_)
  · obtain ⟨c, d, rfl⟩ : ∃ c d, t = .ite q' c d := by
      rcases hforms with ⟨_, c, d, rfl⟩ | ⟨h, _⟩ | ⟨h, _⟩
      · have hq : [Part.cond _] = [Part.cond q'] := hq
        cases hq
        exact ⟨c, d, rfl⟩
      · rw [h] at c7; exact absurd c7 (by decide)
      · rw [h] at c7; exact absurd c7 (by decide)
    obtain ⟨p', x', u, z, ep, hp', hx', hu, hz⟩ := hd
    cases ep
    have td : max c.deep d.deep + 1 < n + 1 := td
    have lcd : (lvs c ++ lvs d).length = (lvs c).length + (lvs d).length := List.length_append
    have ml0 : m * ((lvs c).length + (lvs d).length) ≤ 4000 := by rw [← lcd]; exact ml
    rw [Nat.mul_add] at ml0
    have ml1 : m * (lvs c).length ≤ 4000 := by omega
    have ml2 : m * (lvs d).length ≤ 4000 := by omega
    walk_at "go"
    refine ⟨_, _, _, _, rfl, rfl, SqT.same er_sub hp', at_any (j := 1) rfl rfl, ?_⟩
    walk_at "go"
    refine ⟨_, _, _, _, rfl, rfl, hlH, at_any (j := k) rfl hr1, ?_⟩
    walk_at "go"
    refine use_lhl (DC.tm (.of er_sub) hx') (hr2.same er_sub) (fb k km) qi.1 (by omega) fun H1 e1 => ?_
    have nwe : ∀ gd s h, nw m F gd (.ite q' c d) s k h = if q'.ev (F k) = true then nw m F gd c s k h else nw m F gd d s k h := fun gd s h => by
      show (if k < m then _ else 0) = _
      rw [if_pos km]
    have fa1 : FlA K H1 D fl X := ⟨e1 _ _ fa.d, fa.n, fa.x, fa.l⟩
    have e1' := er_same (p := D) e1
    generalize q'.ev (F k) = b at nwe ⊢
    cases b
    · walk_at "go"
      refine .inr ⟨_, rfl, ?_⟩
      walk_at "go"
      refine ⟨_, _, _, _, rfl, rfl, SqT.same (e1'.trans er_sub) hp', at_any (j := 3) rfl rfl, ?_⟩
      walk_at "go"
      refine use_flw (k := k) (e := e) rfl rfl (DK.tm (.of e1') hz) (e1'.seq hl) (hrs.same e1') m100 em ti.2.2 (by omega) fb fa1 (fun h hh q' hq => ux h hh q' (List.mem_append_right _ hq)) ml2 fun fl2 H2 e2 fa2 n2 => ?_
      walk_at "go"
      refine q fl2 H2 (e1'.trans e2) fa2 fun gd s h => ?_
      rw [n2, nwe, if_neg Bool.false_ne_true]
    · walk_at "go"
      refine .inr ⟨_, rfl, ?_⟩
      walk_at "go"
      refine ⟨_, _, _, _, rfl, rfl, SqT.same (e1'.trans er_sub) hp', at_any (j := 2) rfl rfl, ?_⟩
      walk_at "go"
      refine use_flw (k := k) (e := e) rfl rfl (DK.tm (.of e1') hu) (e1'.seq hl) (hrs.same e1') m100 em ti.2.1 (by omega) fb fa1 (fun h hh q' hq => ux h hh q' (List.mem_append_left _ hq)) ml1 fun fl2 H2 e2 fa2 n2 => ?_
      walk_at "go"
      refine q fl2 H2 (e1'.trans e2) fa2 fun gd s h => ?_
      rw [n2, nwe, if_pos rfl]
  walk_at "go"
  refine ⟨⟨by omega, by omega, by omega, by omega⟩, fun B nB => lc_range (lo := (k : Int)) (n := ((e : Int) - (k : Int)).toNat) (fun i Hd => Hd B = some (.lst ((((List.range' k i).filter fun j => q'.ev (F j)).map fun j : Nat => V.int j))) ∧ Same H Hd) ⟨upd_same, same_new nB⟩ (fun i Hd hi hV => ?_) (fun Hd hV => ?_)⟩
  · obtain ⟨hB, e1⟩ := hV
    have ki : k + i < m := by omega
    obtain ⟨ri, hri1, hri2⟩ := hrs.2 (k + i) ki
    have es := (er_sub (p := D)).trans e1
    have lf := List.length_filter_le (fun j => q'.ev (F j)) (List.range' k i)
    rw [List.length_range'] at lf
    walk_at "go"
    refine ⟨_, _, _, _, rfl, rfl, SqT.same e1 hpH, at_any (j := 1) rfl rfl, ?_⟩
    walk_at "go"
    refine ⟨_, _, _, _, rfl, rfl, e1.seq hlH, at_any (j := k + i) (by push_cast; omega) hri1, ?_⟩
    walk_at "go"
    refine use_lhl (DC.tm (.of es) hx) (hri2.same es) (fb _ ki) qi.1 (by omega) fun H3 e3 => ?_
    refine ⟨_, rfl, ?_⟩
    have rr : List.range' k (i + 1) = List.range' k i ++ [k + i] := by rw [List.range'_concat, Nat.one_mul]
    cases ce : q'.ev (F (k + i))
    · rw [if_neg Bool.false_ne_true]
      refine ⟨?_, e1.trans e3⟩
      rw [rr, List.filter_append, List.filter_cons_of_neg (by rw [ce]; decide), List.filter_nil, List.append_nil]
      exact e3 _ _ hB
    · rw [if_pos rfl]
      walk_at "go"
      refine ⟨_, e3 _ _ hB, by rw [List.length_map]; exact small1000 (by omega), ?_, fun c o h => by rw [upd_ne (ne_of_none h nB)]; exact e3 _ _ (e1 _ _ h)⟩
      rw [upd_same, rr, List.filter_append, List.filter_cons_of_pos (p := fun j => q'.ev (F j)) ce, List.filter_nil, List.map_append]
      rfl
  obtain ⟨hB, e1⟩ := hV
  rw [show ((e : Int) - (k : Int)).toNat = e - k by omega] at hB
  have e1' := er_same (p := D) e1
  have fa1 : FlA K Hd D fl X := ⟨e1 _ _ fa.d, fa.n, fa.x, fa.l⟩
  have hd1 := DK.tm (.of e1') hd
  have hl1 := e1'.seq hl
  have hrs1 := hrs.same e1'
  have lf := List.length_filter_le (fun j => q'.ev (F j)) (List.range' k (e - k))
  rw [List.length_range'] at lf
  walk_at "go"
  rcases hforms with ⟨h, _⟩ | ⟨_, d, rfl⟩ | ⟨_, d, rfl⟩
  · exact absurd h c7
  · have hq : [Part.cond _] = [Part.cond q'] := hq
    cases hq
    obtain ⟨p', x', u, ep, hp', hx', hu⟩ := hd1
    cases ep
    have td : d.deep + 1 < n + 1 := td
    replace hp' := SqT.same er_sub hp'
    have hw := fun gd s h (he : h < e) => nw_when (m := m) (F := F) (gd := gd) (q := q') (c := d) (s := s) (k := k) (e := e) (h := h) (by omega) em he
    have mem : ∀ j ∈ (List.range' k (e - k)).filter fun j => q'.ev (F j), j < e := fun j hj => by
      have := List.mem_range'_1.mp (List.mem_filter.mp hj).1
      omega
    generalize (List.range' k (e - k)).filter (fun j => q'.ev (F j)) = hs at hB lf hw mem
    refine ifd (fun _ => ?_) (fun z => absurd rfl z)
    walk_at "go"
    refine ⟨_, _, rfl, .inl (sql hB), ?_⟩
    walk_at "go"
    cases hs with
    | nil =>
      refine ifd (fun z => absurd z (by simp)) (fun _ => ?_)
      walk_at "go"
      refine ifd (fun z => absurd (show ("when" : Str) = "until" from z) (by decide)) (fun _ => ?_)
      walk_at "go"
      refine q fl Hd e1' fa1 fun gd s h => ?_
      by_cases c : h < e
      · rw [if_pos c, hw gd s h c]
        exact (Int.add_zero _).symm
      · rw [if_neg c, Int.add_zero]
    | cons j0 js =>
      refine ifd (fun _ => ?_) (fun z => absurd (by rw [List.length_map, List.length_cons]; omega) z)
      walk_at "go"
      refine ⟨_, _, _, _, rfl, rfl, hp', at_any (j := 2) rfl rfl, ?_⟩
      walk_at "go"
      refine ⟨_, _, _, _, rfl, rfl, sql hB, at_any (j := 0) rfl rfl, ?_⟩
      walk_at "go"
      refine use_flw (k := j0) (e := e) rfl rfl hu hl1 hrs1 m100 em ti.2 (by omega) fb fa1 ux ml fun fl2 H2 e2 fa2 n2 => ?_
      walk_at "go"
      refine ifd (fun z => absurd (show ("when" : Str) = "until" from z) (by decide)) (fun _ => ?_)
      walk_at "go"
      refine q fl2 H2 (e1'.trans e2) fa2 fun gd s h => ?_
      rw [n2]
      by_cases c : h < e
      · rw [if_pos c, if_pos c, hw gd s h c]
        rfl
      · rw [if_neg c, if_neg c]
  · have hq : [Part.cond _] = [Part.cond q'] := hq
    cases hq
    obtain ⟨p', x', u, ep, hp', hx', hu⟩ := hd1
    cases ep
    have td : d.deep + 1 < n + 1 := td
    have hpp := SqT.same er_sub hp'
    refine ifd (fun z => absurd (show ("until" : Str) = "when" from z) (by decide)) (fun _ => ?_)
    walk_at "go"
    refine ifd (fun _ => ?_) (fun z => absurd rfl z)
    walk_at "go"
    refine ⟨_, _, _, _, rfl, rfl, hpp, at_any (j := 2) rfl rfl, ?_⟩
    walk_at "go"
    refine ⟨by show 1 ≤ sizeLine; decide, fun L nL => ?_⟩
    have s1 := same_new (o := .lst [V.int e]) nL
    have hL : upd Hd L (.lst [V.int e]) L = some (.lst [V.int e]) := upd_same
    have hB1 := s1 _ _ hB
    generalize upd Hd L (.lst [V.int e]) = H4 at s1 hL hB1 ⊢
    walk_at "go"
    refine ⟨B, L, _, _, rfl, rfl, hB1, hL, Nat.le_trans (show _ + 1 ≤ 4000 by rw [List.length_map]; omega) (by decide), fun M nM => ?_⟩
    have hM : upd H4 M (.lst ((((List.range' k (e - k)).filter fun j => q'.ev (F j)).map fun j : Nat => V.int j) ++ [V.int e])) M = some (.lst (((((List.range' k (e - k)).filter fun j => q'.ev (F j)) ++ [e]).map fun j : Nat => (j : Int)).map V.int)) := by
      rw [upd_same, List.map_append, List.map_append, List.map_map]
      rfl
    have s2 := same_new (o := .lst ((((List.range' k (e - k)).filter fun j => q'.ev (F j)).map fun j : Nat => V.int j) ++ [V.int e])) nM
    have s12 := s1.trans s2
    generalize upd H4 M (.lst ((((List.range' k (e - k)).filter fun j => q'.ev (F j)).map fun j : Nat => V.int j) ++ [V.int e])) = H5 at s12 hM ⊢
    walk_at "go"
    refine ⟨M, _, rfl, sql hM, by rw [List.length_map, List.length_append]; show 0 < _ + 1; omega, fun a1 a2 a3 => ?_⟩
    obtain ⟨e', he', rfl⟩ := List.mem_map.mp a2
    have g1 : e' = e ∨ (k ≤ e' ∧ e' < e ∧ q'.ev (F e') = true) := by
      rcases List.mem_append.mp he' with z | z
      · obtain ⟨z1, z2⟩ := List.mem_filter.mp z
        have := List.mem_range'_1.mp z1
        exact .inr ⟨by omega, by omega, z2⟩
      · exact .inl (List.mem_singleton.mp z)
    have g2 : ∀ j, k ≤ j → j < e → q'.ev (F j) = true → e' ≤ j := fun j x1 x2 x3 => by
      have := a3 (j : Int) (List.mem_map.mpr ⟨j, List.mem_append_left _ (List.mem_filter.mpr ⟨List.mem_range'_1.mpr (by omega), x3⟩), rfl⟩)
      omega
    have s12' := er_same (p := D) s12
    walk_at "go"
    refine use_flw (k := k) (e := e') rfl rfl (DK.tm (.of s12') hu) (s12'.seq hl1) (hrs1.same s12') m100 (by omega) ti.2 (by omega) fb ⟨s12 _ _ fa1.d, fa1.n, fa1.x, fa1.l⟩ ux ml fun fl2 H2 e2 fa2 n2 => ?_
    walk_at "go"
    refine q fl2 H2 ((e1'.trans s12').trans e2) fa2 fun gd s h => ?_
    rw [n2, nw_until (by omega) g1 g2]
end

/-! ### what the law says is owed, and a side's net of it -/
/-- rows as they lie in the heap -/
def RwT (H : Hp) (ks : List Key) (v : V) : Prop := ∃ t, v = .ref t ∧ H t = some (.tup (ks.map kV))
theorem RwT.same {H H' : Hp} (e : Same H H') : ∀ ks v, RwT H ks v → RwT H' ks v := fun _ _ ⟨t, h1, h2⟩ => ⟨t, h1, e _ _ h2⟩
def toK : V → Key
  | .int i => .inl i
  | .str x => .inr x
  | _ => .inl 0
def keyOf (H : Hp) : V → List Key
  | .ref t => match H t with
    | some (.tup vs) => vs.map toK
    | _ => []
  | _ => []
theorem keyOf_at {H : Hp} {ks : List Key} {v : V} (h : RwT H ks v) : keyOf H v = ks := by
  obtain ⟨t, rfl, h⟩ := h
  unfold keyOf
  simp only [h]
  rw [List.map_map]
  refine (List.map_congr_left fun k _ => ?_).trans (List.map_id _)
  cases k <;> rfl
/-- rows of five: hour, from, to, good, how many -/
def is5 : List Key → Prop
  | [.inl _, .inr _, .inr _, .inr _, .inl _] => True
  | _ => False
def cf5 (gd s : Str) (h : Nat) : List Key → Int
  | [.inl i, .inr o, .inr t, .inr g, .inl m] => if i = (h : Int) ∧ g = gd then m * ((if s = t then 1 else 0) - (if s = o then 1 else 0)) else 0
  | _ => 0
def netO (ow : List (List Key)) (gd s : Str) (h : Nat) : Int := (ow.map (cf5 gd s h)).sum
theorem sum_perm {l m : List Int} (h : l.Perm m) : l.sum = m.sum := by
  induction h with
  | nil => rfl
  | cons x _ ih => rw [List.sum_cons, List.sum_cons, ih]
  | swap x y l => rw [List.sum_cons, List.sum_cons, List.sum_cons, List.sum_cons]; omega
  | trans _ _ ih1 ih2 => exact ih1.trans ih2
/-- the rows of a flow -/
def row5 : List Key × Int → List (List Key)
  | ([.inl i, .inr o, .inr t, .inr g], m) => (if m > 0 then [[.inl i, .inr o, .inr t, .inr g, .inl m]] else []) ++ (if m < 0 then [[.inl i, .inr t, .inr o, .inr g, .inl (0 - m)]] else [])
  | _ => []
theorem row5_is (e : List Key × Int) : ∀ r ∈ row5 e, is5 r := fun r hr => by
  unfold row5 at hr
  split at hr
  · rcases List.mem_append.mp hr with hr | hr
    · split at hr
      · rw [List.mem_singleton.mp hr]
        exact trivial
      · cases hr
    · split at hr
      · rw [List.mem_singleton.mp hr]
        exact trivial
      · cases hr
  · cases hr
theorem row5_len (e : List Key × Int) : (row5 e).length ≤ 1 := by
  unfold row5
  split
  · rename_i i o t g m
    by_cases c : m > 0
    · rw [if_pos c, if_neg (by omega)]
      exact Nat.le_refl _
    · rw [if_neg c]
      split
      · exact Nat.le_refl _
      · exact Nat.zero_le _
  · exact Nat.zero_le _
theorem row5_net (gd s : Str) (h : Nat) (i : Int) (o t g : Str) (m : Int) : netO (row5 ([.inl i, .inr o, .inr t, .inr g], m)) gd s h = if atF h gd [.inl i, .inr o, .inr t, .inr g] = true then m * cfF s [.inl i, .inr o, .inr t, .inr g] else 0 := by
  have e : atF h gd [.inl i, .inr o, .inr t, .inr g] = (decide (i = (h : Int)) && decide (g = gd)) := rfl
  rw [e]
  show netO ((if m > 0 then [[.inl i, .inr o, .inr t, .inr g, .inl m]] else []) ++ (if m < 0 then [[.inl i, .inr t, .inr o, .inr g, .inl (0 - m)]] else [])) gd s h = if _ then m * ((if s = t then 1 else 0) - (if s = o then 1 else 0)) else 0
  unfold netO
  by_cases c : i = (h : Int) ∧ g = gd
  · have cb : (decide (i = (h : Int)) && decide (g = gd)) = true := by rw [decide_eq_true c.1, decide_eq_true c.2]; rfl
    rw [if_pos cb]
    by_cases c1 : m > 0
    · rw [if_pos c1, if_neg (show ¬ m < 0 by omega), List.append_nil]
      show (if i = (h : Int) ∧ g = gd then _ else 0) + 0 = _
      rw [if_pos c, Int.add_zero]
    · rw [if_neg c1, List.nil_append]
      by_cases c2 : m < 0
      · rw [if_pos c2]
        show (if i = (h : Int) ∧ g = gd then (0 - m) * ((if s = o then 1 else 0) - (if s = t then 1 else 0)) else 0) + 0 = _
        rw [if_pos c, Int.add_zero, Int.sub_mul, Int.zero_mul, Int.mul_sub, Int.mul_sub]
        omega
      · rw [if_neg c2]
        have : m = 0 := by omega
        rw [this, Int.zero_mul]
        rfl
  · have cb : ¬ (decide (i = (h : Int)) && decide (g = gd)) = true := fun z => c (by
      rw [Bool.and_eq_true, decide_eq_true_eq, decide_eq_true_eq] at z
      exact z)
    rw [if_neg cb]
    by_cases c1 : m > 0
    · rw [if_pos c1, if_neg (show ¬ m < 0 by omega), List.append_nil]
      show (if i = (h : Int) ∧ g = gd then _ else 0) + 0 = _
      rw [if_neg c]
      rfl
    · rw [if_neg c1, List.nil_append]
      by_cases c2 : m < 0
      · rw [if_pos c2]
        show (if i = (h : Int) ∧ g = gd then _ else 0) + 0 = _
        rw [if_neg c]
        rfl
      · rw [if_neg c2]
        rfl
theorem netO_app (a b : List (List Key)) (gd s : Str) (h : Nat) : netO (a ++ b) gd s h = netO a gd s h + netO b gd s h := by
  unfold netO
  rw [List.map_append, List.sum_append]
theorem rows_len : ∀ l : Fls, (l.flatMap row5).length ≤ l.length
  | [] => Nat.le_refl _
  | e :: l => by
    have h1 := row5_len e
    have h2 := rows_len l
    rw [List.flatMap_cons, List.length_append, List.length_cons]
    omega
theorem netO_flat (gd s : Str) (h : Nat) : ∀ fl : Fls, (∀ k ∈ keysF fl, ∃ (j : Int) (x y g : Str), k = [.inl j, .inr x, .inr y, .inr g]) → netO (fl.flatMap row5) gd s h = netF fl gd s h
  | [], _ => rfl
  | (k, m) :: l, hk => by
    obtain ⟨j, x, y, g, e⟩ := hk k List.mem_cons_self
    subst e
    rw [List.flatMap_cons, netO_app, row5_net, netO_flat gd s h l fun k hk2 => hk k (List.mem_cons_of_mem _ hk2)]
    rfl
theorem is5_shape {k : List Key} (h : is5 k) : k.map isS = [false, true, true, true, false] := by
  unfold is5 at h
  split at h
  · rfl
  · exact h.elim
theorem rows_map {H : Hp} : ∀ {ow : List (List Key)} {ys : List V}, All2 (RwT H) ow ys → ys.map (keyOf H) = ow
  | [], [], _ => rfl
  | _ :: _, _ :: _, h => by rw [List.map_cons, keyOf_at h.1, rows_map h.2]
  | [], _ :: _, h => h.elim
  | _ :: _, [], h => h.elim
theorem rows_mem {H : Hp} : ∀ {ow : List (List Key)} {ys : List V}, All2 (RwT H) ow ys → ∀ y ∈ ys, ∃ k ∈ ow, RwT H k y
  | [], [], _, y, hy => by cases hy
  | k :: ow, z :: ys, h, y, hy => by
    rcases List.mem_cons.mp hy with rfl | hy
    · exact ⟨k, List.mem_cons_self, h.1⟩
    · obtain ⟨k', h1, h2⟩ := rows_mem h.2 y hy
      exact ⟨k', List.mem_cons_of_mem _ h1, h2⟩
  | [], _ :: _, h, _, _ => h.elim
  | _ :: _, [], h, _, _ => h.elim
theorem rows_of {H : Hp} {f : V → List Key} : ∀ {zs : List V}, (∀ z ∈ zs, RwT H (f z) z) → All2 (RwT H) (zs.map f) zs
  | [], _ => trivial
  | z :: zs, h => ⟨h z List.mem_cons_self, rows_of fun y hy => h y (List.mem_cons_of_mem _ hy)⟩
theorem RwT.new {H : Hp} {D T : Addr} {zs : List V} {ks : List Key} (hD : H D = some (.lst zs)) (nT : H T = none) : RwT (er D (upd H T (.tup (ks.map kV)))) ks (.ref T) := by
  refine ⟨T, rfl, ?_⟩
  rw [er_ne (fun z => by rw [z, hD] at nT; cases nT)]
  exact upd_same
def spOwed (K : PySem.W.Frag) : Sp := fun vs H Q _ => ∃ (v : V) (t : Con) (l : Addr) (as : List V) (n : Nat) (xs : List Str) (F : Nat → Str → Int), vs = [v, .ref l] ∧ DK K H t v ∧ SqL K H l as ∧ RwF H xs n F as ∧ n ≤ 100 ∧ t.In xs ∧ t.deep < 7 ∧ (∀ j < n, FB (F j)) ∧ n * (lvs t).length ≤ 4000 ∧
  ∀ D ys ow H', Same H H' → H D = none → H' D = some (.lst ys) → All2 (RwT H') ow ys → (∀ r ∈ ow, is5 r) → ow.length ≤ 4000 → (∀ gd s h, h < n → netO ow gd s h = nw n F gd t s 0 h) → Q (.ref D) H'
section
variable {P : Program} {w : World} {K : PySem.W.Frag} {mg : Str → Option Value} {base : Heap}
abbrev s__law_owed : Stmt := topS 60
theorem sc__law_owed : FnScope ["_law_contract_here", "_law_rows", "_law_flows_here", "_law_found", "_law_hour", "_law_one", "_law_other", "_law_good_here", "_law_many"] ["_law_contract_here", "_law_rows"] (defScope s__law_owed) := ⟨rfl, rfl, rfl, by decide +kernel, rfl, by decide +kernel, by decide +kernel⟩
theorem h__law_owed {k : Nat} {f : Addr} {fd : FuncData} (O : Own K mg "_law_owed" s__law_owed ["_law_contract_here", "_law_rows"] f fd)  {f__law_flows : Addr} {fd__law_flows : FuncData} (D__law_flows : Has P w K mg base "_law_flows" ["_law_contract_here", "_law_begin", "_law_rows", "_law_end", "_law_flows_here"] k CX0 (spFlw K 7) f__law_flows fd__law_flows) (m_sorted : mg "sorted" = none) (m_len : mg "len" = none) : Has P w K mg base "_law_owed" ["_law_contract_here", "_law_rows"] (k + 1) CX0 (spOwed K) f fd := by
  refine O.has (O.F.ok sc__law_owed (fun vs H Q E h => ?_) (fun cdv A outer s H vs Q E hr h => ?_))
  · obtain ⟨v, t, l, as, n, xs, F, rfl, _⟩ := h
    rfl
  obtain ⟨v, t, l, as, n, xs, F, rfl, hd, hl, hrs, n100, ti, td, fb, ml, q⟩ := h
  refine ⟨_, (pss_cons (ps_set (i := 2) sc__law_owed.nd rfl (.inl rfl) pe_dnewT) (pss_cons (ps_expr (pe_call D__law_flows.G hr (by rfl) D__law_flows.g D__law_flows.k D__law_flows.b .nil pass0 (pa_cons (pv 0) (pa_cons pe_int (pa_cons (pv 1) (pa_cons (pe_callB call_len_seq (by rfl) m_len (by decide +kernel) (pa_cons (pv 1) pa_nil)) (pa_cons (pv 2) pa_nil))))))) (pss_cons (ps_set (i := 3) sc__law_owed.nd rfl (.inl rfl) (pe_lst pa_nil)) (pss_cons (ps_lock (ps_for PassesOwn.never rfl (pi_keys (pv 2)) (pg_tup rfl (pgs_cons (pg_name (i := 4) sc__law_owed.nd rfl (.inl rfl)) (pgs_cons (pg_name (i := 5) sc__law_owed.nd rfl (.inl rfl)) (pgs_cons (pg_name (i := 6) sc__law_owed.nd rfl (.inl rfl)) (pgs_cons (pg_name (i := 7) sc__law_owed.nd rfl (.inl rfl)) pgs_nil))))) (pss_cons (ps_set (i := 8) sc__law_owed.nd rfl (.inl rfl) (pe_dget (hu_of hr) (pv 2) (pe_tup (pa_cons (pv 4) (pa_cons (pv 5) (pa_cons (pv 6) (pa_cons (pv 7) pa_nil))))) (fun _ _ => rfl))) (pss_cons (ps_if (pt_cmpR op_gt (pv 8) pe_int (nomark _)) (pss_one (ps_expr (pe_bm PySem.F.plainAttrs_list PySem.F.slot_list_append PySem.F.type_list_append mt_append (pv 3) (pa_cons (pe_tup (pa_cons (pv 4) (pa_cons (pv 5) (pa_cons (pv 6) (pa_cons (pv 7) (pa_cons (pv 8) pa_nil)))))) pa_nil)))) pss_nil) (pss_one (ps_if (pt_cmpR op_lt (pv 8) pe_int (nomark _)) (pss_one (ps_expr (pe_bm PySem.F.plainAttrs_list PySem.F.slot_list_append PySem.F.type_list_append mt_append (pv 3) (pa_cons (pe_tup (pa_cons (pv 4) (pa_cons (pv 6) (pa_cons (pv 5) (pa_cons (pv 7) (pa_cons (pe_op op_sub pe_int (pv 8)) pa_nil)))))) pa_nil)))) pss_nil)))))) (pss_one (ps_ret (pe_callB cr_sortedF (by rfl) m_sorted (by decide +kernel) (pa_cons (pv 3) pa_nil)))))))), ?_⟩
  have la := hrs.1
  walk_at "go"
  intro C nC
  have s1 := same_new (o := .dT []) nC
  have hC0 : upd H C (.dT []) C = some (.dT (kvF [])) := upd_same
  have e0 : er C (upd H C (.dT [])) = H := er_upd.trans (er_new nC)
  generalize upd H C (.dT []) = H1 at s1 hC0 e0 ⊢
  walk_at "go"
  refine ⟨_, _, rfl, .inl (s1.seq hl), ?_⟩
  walk_at "go"
  refine use_flw (D := C) (fl := []) (X := unK n t) (k := 0) (e := n) rfl (by rw [la]) (by rw [e0]; exact hd) (by rw [e0]; exact hl) (by rw [e0]; exact hrs) n100 (Nat.le_refl _) ti td fb ⟨hC0, List.nodup_nil, fun z hz => (by cases hz), by rw [unK_len]; exact ml⟩ (fun h hh q' hq => List.mem_flatMap.mpr ⟨h, List.mem_range.mpr hh, List.mem_map.mpr ⟨q', hq, rfl⟩⟩) ml fun fi H2 e2 fai ni => ?_
  rw [e0] at e2
  walk_at "go"
  refine ⟨by decide, fun D nD => ?_⟩
  have s2 := same_new (o := .lst []) nD
  have hD0 : upd H2 D (.lst []) D = some (.lst []) := upd_same
  have hC2 : upd H2 D (.lst []) C = some (.dT (kvF fi)) := s2 _ _ fai.d
  have nCD : C ≠ D := fun z => by rw [z] at hC2; rw [hD0] at hC2; cases hC2
  have hHD : H D = none := fresh_same (e2.trans er_sub) nD
  have eH3 : Same H (er C (upd H2 D (.lst []))) := e2.trans (er_same s2)
  generalize upd H2 D (.lst []) = H3 at hD0 hC2 eH3 ⊢
  walk_at "go"
  refine g_lockS ⟨C, .dT (kvF fi), hC2, trivial, fun od => ?_⟩
  have hCL : upd H3 C (.frz od (.dT (kvF fi))) C = some (.frz od (.dT (kvF fi))) := upd_same
  have hDL : upd H3 C (.frz od (.dT (kvF fi))) D = some (.lst []) := by rw [upd_ne (fun z => nCD z.symm)]; exact hD0
  have back : ∀ {H'}, Same (er D (upd H3 C (.frz od (.dT (kvF fi))))) H' → Same H (upd H' C (.dT (kvF fi))) := fun {H'} ee c o hc => by
    have cC : c ≠ C := fun z => by rw [z, nC] at hc; cases hc
    have cD : c ≠ D := fun z => by rw [z, hHD] at hc; cases hc
    rw [upd_ne cC]
    have z3 := eH3 c o hc
    rw [er_ne cC] at z3
    exact ee c o (by rw [er_ne cD, upd_ne cC]; exact z3)
  generalize upd H3 C (.frz od (.dT (kvF fi))) = HL at hCL hDL back ⊢
  walk_at "go"
  refine g_ikeysK ?_
  walk_at "go"
  refine ⟨C, od, rfl, .inr ⟨kvF fi, hCL, ?_⟩⟩
  refine for_it walk_keysT (fun i σ Hc => ∃ y4 y5 y6 y7 y8, σ = [some v, some (.ref l), some (.ref C), some (.ref D), y4, y5, y6, y7, y8] ∧ Fl RwT (er D HL) D ((fi.take i).flatMap row5) Hc) ⟨_, _, _, _, _, rfl, ⟨⟨[], hDL, trivial⟩, .refl _⟩⟩ (fun i σ Hc _ hW => ?_) (fun i x σ Hc Hc' hi hW hy => ?_) (fun σ Hc hW => ?_)
  · obtain ⟨_, _, _, _, _, _, f⟩ := hW
    exact f.sub C _ (by rw [er_ne nCD]; exact hCL)
  · obtain ⟨y4, y5, y6, y7, y8, rfl, f⟩ := hW
    obtain ⟨rfl, kq, vq, qa, hkv, rfl, hqa⟩ := hy
    unfold kvF at hkv
    rw [List.getElem?_map] at hkv
    obtain ⟨⟨k1, mq⟩, hfi, hkv⟩ := Option.map_eq_some_iff.mp hkv
    cases hkv
    have kin : k1 ∈ keysF fi := List.mem_map.mpr ⟨_, List.mem_of_getElem? hfi, rfl⟩
    obtain ⟨j, lq, hj, hlq, rfl⟩ := unK_shape (fai.x _ kin)
    obtain ⟨kx, ky, kg, rfl⟩ := lvs_shape hlq
    have hval := fl_at fai.n hfi
    have hCc : Hc' C = some (.frz od (.dT (kvF fi))) := f.sub C _ (by rw [er_ne nCD]; exact hCL)
    have hqa : Hc' qa = some (.tup [V.int (j : Int), V.str kx, V.str ky, V.str kg]) := hqa
    have tk : (fi.take (i + 1)).flatMap row5 = (fi.take i).flatMap row5 ++ row5 ([.inl (j : Int), .inr kx, .inr ky, .inr kg], mq) := by
      rw [List.take_succ, hfi, List.flatMap_append]
      simp
    have lt1 : ((fi.take i).flatMap row5).length ≤ 3999 := by
      have h1 := rows_len (fi.take i)
      have h2 := (List.getElem?_eq_some_iff.mp hfi).1
      have h3 := fai.len
      rw [List.length_take] at h1
      omega
    refine g_gtup (sqt hqa) rfl ?_
    walk_at "go"
    refine ⟨by show 4 ≤ sizeLine; decide, fun T nT => ?_⟩
    have s4 := same_new (o := .tup [V.int (j : Int), V.str kx, V.str ky, V.str kg]) nT
    have hT : upd Hc' T (.tup [V.int (j : Int), V.str kx, V.str ky, V.str kg]) T = some (.tup (([.inl (j : Int), .inr kx, .inr ky, .inr kg] : List Key).map kV)) := upd_same
    have f4 := f.mono RwT.same s4
    generalize upd Hc' T (.tup [V.int (j : Int), V.str kx, V.str ky, V.str kg]) = H5 at s4 hT f4 ⊢
    walk_at "go"
    refine ⟨_, _, rfl, .inr ⟨kvF fi, [.inl (j : Int), .inr kx, .inr ky, .inr kg], T, .inr ⟨od, s4 _ _ hCc⟩, rfl, hT, hval.symm⟩, ?_⟩
    walk_at "go"
    obtain ⟨acc0, hD5, _⟩ := f4.l
    rw [tk]
    have r5 : row5 ([.inl (j : Int), .inr kx, .inr ky, .inr kg], mq) = (if mq > 0 then [[.inl (j : Int), .inr kx, .inr ky, .inr kg, .inl mq]] else []) ++ (if mq < 0 then [[.inl (j : Int), .inr ky, .inr kx, .inr kg, .inl (0 - mq)]] else []) := rfl
    rw [r5]
    clear r5
    refine ifd (fun c => ?_) (fun c => ?_)
    · walk_at "go"
      refine ⟨.inl ⟨rfl, _, sql hD5⟩, ?_⟩
      walk_at "go"
      refine ⟨by show 5 ≤ sizeLine; decide, fun T2 n2 => ?_⟩
      obtain ⟨acc, hA, lA, f6⟩ := f4.step RwT.same (a := [.inl (j : Int), .inr kx, .inr ky, .inr kg, .inl mq]) (y := .ref T2) (same_new (o := .tup [V.int (j : Int), V.str kx, V.str ky, V.str kg, V.int mq]) n2) (fun zs hz => RwT.new (ks := [.inl (j : Int), .inr kx, .inr ky, .inr kg, .inl mq]) hD5 n2) (by omega)
      walk_at "go"
      refine ⟨D, acc, _, rfl, rfl, hA, lA, ?_⟩
      walk_at "go"
      refine ifd (fun z => absurd z (by omega)) (fun _ => ?_)
      rw [if_pos (show mq > 0 from c), if_neg (show ¬ mq < 0 by omega), List.append_nil]
      exact ⟨_, _, _, _, _, rfl, f6⟩
    · walk_at "go"
      rw [if_neg (show ¬ mq > 0 from c), List.nil_append]
      refine ifd (fun c2 => ?_) (fun c2 => ?_)
      · walk_at "go"
        refine ⟨.inl ⟨rfl, _, sql hD5⟩, ?_⟩
        walk_at "go"
        refine ⟨by show 5 ≤ sizeLine; decide, fun T2 n2 => ?_⟩
        obtain ⟨acc, hA, lA, f6⟩ := f4.step RwT.same (a := [.inl (j : Int), .inr ky, .inr kx, .inr kg, .inl (0 - mq)]) (y := .ref T2) (same_new (o := .tup [V.int (j : Int), V.str ky, V.str kx, V.str kg, V.int (0 - mq)]) n2) (fun zs hz => RwT.new (ks := [.inl (j : Int), .inr ky, .inr kx, .inr kg, .inl (0 - mq)]) hD5 n2) (by omega)
        walk_at "go"
        refine ⟨D, acc, _, rfl, rfl, hA, lA, ?_⟩
        rw [if_pos c2]
        exact ⟨_, _, _, _, _, rfl, f6⟩
      · rw [if_neg c2, List.append_nil]
        exact ⟨_, _, _, _, _, rfl, f4⟩
  · obtain ⟨y4, y5, y6, y7, y8, rfl, f⟩ := hW
    obtain ⟨ys, hD, hys, _⟩ := f.fin RwT.same
    have hCc : Hc C = some (.frz od (.dT (kvF fi))) := f.sub C _ (by rw [er_ne nCD]; exact hCL)
    have lk : (kvF fi).length = fi.length := List.length_map _
    rw [lk, List.take_length] at hys
    have eb := back f.sub
    refine ⟨hCc, ?_⟩
    have hys' : All2 (RwT (upd Hc C (.dT (kvF fi)))) (fi.flatMap row5) ys := hys.mono fun k y hky => by
      obtain ⟨T, e1, e3⟩ := hky
      exact ⟨T, e1, by rw [upd_ne (fun z => by rw [z, hCc] at e3; cases e3)]; exact e3⟩
    have hD' : upd Hc C (.dT (kvF fi)) D = some (.lst ys) := by rw [upd_ne (fun z => nCD z.symm)]; exact hD
    generalize upd Hc C (.dT (kvF fi)) = Hn at eb hys' hD' ⊢
    have all5 : ∀ r ∈ fi.flatMap row5, is5 r := fun r hr => by
      obtain ⟨e, _, hr⟩ := List.mem_flatMap.mp hr
      exact row5_is e r hr
    have lys := hys'.len
    have l4 : (fi.flatMap row5).length ≤ 4000 := Nat.le_trans (rows_len fi) fai.len
    have shp5 : ∀ k ∈ keysF fi, ∃ (j : Int) (x y g : Str), k = [.inl j, .inr x, .inr y, .inr g] := fun k hk => by
      obtain ⟨j, lq, _, hlq, rfl⟩ := unK_shape (fai.x _ hk)
      obtain ⟨x, y, g, rfl⟩ := lvs_shape hlq
      exact ⟨j, x, y, g, rfl⟩
    walk_at "go"
    refine ⟨D, ys, keyOf Hn, [false, true, true, true, false], rfl, sql hD', by simp, fun x hx => ?_, fun zs p _ stb np => ?_⟩
    · obtain ⟨k, hk, hr⟩ := rows_mem hys' x hx
      obtain ⟨T, e1, e3⟩ := id hr
      exact ⟨T, e1, by rw [keyOf_at hr]; exact e3, by rw [keyOf_at hr]; exact is5_shape (all5 k hk)⟩
    · have sn := same_new (o := .lst zs) np
      have hz : ∀ z ∈ zs, ∃ k ∈ fi.flatMap row5, RwT Hn k z := fun z hz => rows_mem hys' z (stb.perm.mem_iff.mp hz)
      have pm : (zs.map (keyOf Hn)).Perm (fi.flatMap row5) := by
        have := stb.perm.map (keyOf Hn)
        rwa [rows_map hys'] at this
      refine q p zs (zs.map (keyOf Hn)) _ (eb.trans sn) (fresh_same eb np) upd_same (rows_of fun z hz2 => ?_) (fun r hr => all5 r (pm.mem_iff.mp hr)) (by rw [pm.length_eq]; exact l4) fun gd s h hh => ?_
      · obtain ⟨k, _, hr⟩ := hz z hz2
        rw [keyOf_at hr]
        exact RwT.same sn _ _ hr
      · have e9 : netO (zs.map (keyOf Hn)) gd s h = netO (fi.flatMap row5) gd s h := sum_perm (pm.map _)
        rw [e9, netO_flat gd s h fi shp5, ni, if_pos hh]
        show 0 + _ = _
        rw [Int.zero_add]
end

/-! ### a side's net -/
def cfN (gd s : Str) : List Key → Int
  | [.inl _, .inr o, .inr t, .inr g, .inl m] => if g = gd then m * ((if s = t then 1 else 0) - (if s = o then 1 else 0)) else 0
  | _ => 0
def netN (ow : List (List Key)) (gd s : Str) : Int := (ow.map (cfN gd s)).sum
def hour5 : List Key → Int
  | [.inl i, _, _, _, _] => i
  | _ => 0
theorem netN_hour (gd s : Str) (h : Nat) : ∀ ow : List (List Key), (∀ r ∈ ow, is5 r) → netN (ow.filter fun r => decide (hour5 r = (h : Int))) gd s = netO ow gd s h
  | [], _ => rfl
  | r :: ow, h5 => by
    have ih := netN_hour gd s h ow fun x hx => h5 x (List.mem_cons_of_mem _ hx)
    have hr := h5 r List.mem_cons_self
    unfold is5 at hr
    split at hr
    · rename_i i o t g m
      show _ = (if i = (h : Int) ∧ g = gd then m * ((if s = t then 1 else 0) - (if s = o then 1 else 0)) else 0) + netO ow gd s h
      rw [← ih]
      by_cases c : i = (h : Int)
      · rw [List.filter_cons_of_pos (p := fun r : List Key => decide (hour5 r = (h : Int))) (a := [.inl i, .inr o, .inr t, .inr g, .inl m]) (show decide (i = (h : Int)) = true from decide_eq_true c)]
        show (if g = gd then m * ((if s = t then 1 else 0) - (if s = o then 1 else 0)) else 0) + netN _ gd s = _
        congr 1
        by_cases c2 : g = gd
        · rw [if_pos c2, if_pos (show i = (h : Int) ∧ g = gd from ⟨c, c2⟩)]
        · rw [if_neg c2, if_neg (show ¬ (i = (h : Int) ∧ g = gd) from fun z => c2 z.2)]
      · rw [List.filter_cons_of_neg (p := fun r : List Key => decide (hour5 r = (h : Int))) (a := [.inl i, .inr o, .inr t, .inr g, .inl m]) (show ¬ decide (i = (h : Int)) = true from fun z => c (of_decide_eq_true z)), if_neg (show ¬ (i = (h : Int) ∧ g = gd) from fun z => c z.1), Int.zero_add]
    · exact hr.elim
def spNet (K : PySem.W.Frag) : Sp := fun vs H Q _ => ∃ (l : Addr) (s gd : Str) (ys : List V) (ow : List (List Key)), vs = [.ref l, .str s, .str gd] ∧ SqL K H l ys ∧ All2 (RwT H) ow ys ∧ (∀ r ∈ ow, is5 r) ∧ Q (.int (netN ow gd s)) H
section
variable {P : Program} {w : World} {K : PySem.W.Frag} {mg : Str → Option Value} {base : Heap}
abbrev s__law_net : Stmt := topS 61
theorem sc__law_net : FnScope ["_law_told_here", "_law_side", "_law_good_here", "_law_found", "_law_hour", "_law_one", "_law_other", "_law_what", "_law_many"] ["_law_told_here", "_law_side", "_law_good_here"] (defScope s__law_net) := ⟨rfl, rfl, rfl, by decide +kernel, rfl, by decide +kernel, by decide +kernel⟩
theorem h__law_net {k : Nat} {f : Addr} {fd : FuncData} (O : Own K mg "_law_net" s__law_net ["_law_told_here", "_law_side", "_law_good_here"] f fd)  (m_int : mg "int" = none) : Has P w K mg base "_law_net" ["_law_told_here", "_law_side", "_law_good_here"] (k + 1) CX0 (spNet K) f fd := by
  refine O.has (O.F.ok sc__law_net (fun vs H Q E h => ?_) (fun cdv A outer s H vs Q E hr h => ?_))
  · obtain ⟨l, s, gd, ys, ow, rfl, _⟩ := h
    rfl
  obtain ⟨l, s, gd, ys, ow, rfl, hl, hys, h5, q⟩ := h
  refine ⟨_, (pss_cons (ps_set (i := 3) sc__law_net.nd rfl (.inl rfl) pe_int) (pss_cons (ps_for PassesOwn.never rfl (pi_list (pv 0)) (pg_tup rfl (pgs_cons (pg_name (i := 4) sc__law_net.nd rfl (.inl rfl)) (pgs_cons (pg_name (i := 5) sc__law_net.nd rfl (.inl rfl)) (pgs_cons (pg_name (i := 6) sc__law_net.nd rfl (.inl rfl)) (pgs_cons (pg_name (i := 7) sc__law_net.nd rfl (.inl rfl)) (pgs_cons (pg_name (i := 8) sc__law_net.nd rfl (.inl rfl)) pgs_nil)))))) (pss_one (ps_if (pt_cmpR op_eq (pv 7) (pv 2) (nomark _)) (pss_one (ps_set (i := 3) sc__law_net.nd rfl (.inl rfl) (pe_op op_add (pv 3) (pe_op op_mul (pv 8) (pe_op op_sub (pe_callTy call_int1 (by rfl) m_int (by decide +kernel) (pa_cons (pe_cmpR op_eq (pv 6) (pv 1) (nomark _)) pa_nil)) (pe_callTy call_int1 (by rfl) m_int (by decide +kernel) (pa_cons (pe_cmpR op_eq (pv 5) (pv 1) (nomark _)) pa_nil))))))) pss_nil))) (pss_one (ps_ret (pv 3))))), ?_⟩
  have ln := hys.len
  walk_at "go"
  refine ⟨⟨_, hl⟩, for_it (walk_list (xs := ys)) (fun i σ Hc => ∃ y4 y5 y6 y7 y8, σ = [some (.ref l), some (.str s), some (.str gd), some (.int (netN (ow.take i) gd s)), y4, y5, y6, y7, y8] ∧ Hc = H) ⟨_, _, _, _, _, rfl, rfl⟩ (fun i σ Hc _ hW => ?_) (fun i x σ Hc Hc' hi hW hy => ?_) (fun σ Hc hW => ?_)⟩
  · obtain ⟨_, _, _, _, _, _, rfl⟩ := hW
    exact hl
  · obtain ⟨y4, y5, y6, y7, y8, rfl, eh⟩ := hW
    obtain ⟨eh2, hx⟩ := hy
    subst eh eh2
    have hoi : ow[i]? = some (ow[i]'(by omega)) := List.getElem?_eq_getElem (by omega)
    obtain ⟨x', hx', hr⟩ := hys.at hoi
    cases Option.some.inj (hx'.symm.trans hx)
    have r5 := h5 _ (List.getElem_mem (show i < ow.length by omega))
    have tk : netN (ow.take (i + 1)) gd s = netN (ow.take i) gd s + cfN gd s (ow[i]'(by omega)) := by
      unfold netN
      rw [List.take_succ, hoi, List.map_append, List.sum_append]
      simp
    generalize ow[i]'(by omega) = row at hr r5 tk
    unfold is5 at r5
    split at r5
    · rename_i i0 o t g m
      obtain ⟨T, rfl, hT⟩ := hr
      have cf : cfN gd s [.inl i0, .inr o, .inr t, .inr g, .inl m] = if g = gd then m * ((if s = t then 1 else 0) - (if s = o then 1 else 0)) else 0 := rfl
      rw [cf] at tk
      refine g_gtup (xs := [V.int i0, V.str o, V.str t, V.str g, V.int m]) (sqt hT) rfl ?_
      walk_at "go"
      refine ifd (fun c => ?_) (fun c => ?_)
      · rw [if_pos c] at tk
        walk_at "go"
        refine .inr ⟨_, rfl, ?_⟩
        walk_at "go"
        refine .inr ⟨_, rfl, ?_⟩
        walk_at "go"
        have e1 : (if decide (t = s) = true then (1 : Int) else 0) = if s = t then 1 else 0 := by
          by_cases z : s = t
          · rw [if_pos z, if_pos (decide_eq_true z.symm)]
          · rw [if_neg z, if_neg (fun y => z (of_decide_eq_true y).symm)]
        have e2 : (if decide (o = s) = true then (1 : Int) else 0) = if s = o then 1 else 0 := by
          by_cases z : s = o
          · rw [if_pos z, if_pos (decide_eq_true z.symm)]
          · rw [if_neg z, if_neg (fun y => z (of_decide_eq_true y).symm)]
        rw [e1, e2]
        refine g_I (.inr ⟨by split <;> split <;> omega, by split <;> split <;> omega⟩) ?_
        walk_at "go"
        exact ⟨_, _, _, _, _, by rw [tk]; rfl, rfl⟩
      · rw [if_neg c, Int.add_zero] at tk
        exact ⟨_, _, _, _, _, by rw [tk]; rfl, rfl⟩
    · exact r5.elim
  · obtain ⟨y4, y5, y6, y7, y8, rfl, rfl⟩ := hW
    rw [List.take_of_length_le (by omega)]
    walk_at "go"
    exact q
end

/-! ### rows -/
abbrev Row := List (Str × Int)
def dk (R : Row) : List (Key × V) := R.map fun p => (.inr p.1, .int p.2)
theorem dk_int (R : Row) : IntVals (dk R) := fun p h => by
  obtain ⟨q, _, rfl⟩ := List.mem_map.mp h
  exact ⟨q.2, rfl⟩
theorem dk_len (R : Row) : (dk R).length = R.length := by unfold dk; rw [List.length_map]
theorem dk_val (x : Str) : ∀ R : Row, valV (dk R) (.inr x) = (R.lookup x).map V.int
  | [] => rfl
  | (y, i) :: R => by
    have ih := dk_val x R
    unfold valV at ih ⊢
    rw [show dk ((y, i) :: R) = (.inr y, .int i) :: dk R from rfl, List.find?_cons, List.lookup_cons]
    by_cases h : y = x
    · subst h
      simp
    · have e1 : decide ((.inr y : Key) = .inr x) = false := decide_eq_false (fun z => h (Sum.inr.inj z))
      have e2 : (x == y) = false := by rw [beq_eq_false_iff_ne]; exact fun z => h z.symm
      dsimp only
      rw [e1, e2]
      exact ih
def val (R : Row) (x : Str) : Int := (R.lookup x).getD 0
/-- a market's first row -/
def row0 (ns : List Nm) : Row := ns.map fun n => (n.x, n.b)
def hasN (ns : List Nm) (R : Row) : Bool := decide (R.length = ns.length) && (ns.map fun n => (R.lookup n.x).isSome).all id
def leadN (ns : List Nm) (R S : Row) : Bool := (ns.map fun n => decide (val S n.x - val R n.x ∈ n.st.map (·.1))).all id
theorem hasN_at {ns : List Nm} {R : Row} (h : hasN ns R = true) {n : Nm} (hn : n ∈ ns) : R.lookup n.x = some (val R n.x) := by
  unfold hasN at h
  rw [Bool.and_eq_true, List.all_map, List.all_eq_true] at h
  have := h.2 n hn
  unfold val
  cases e : R.lookup n.x with
  | none =>
    rw [show (id ∘ fun n => (R.lookup n.x).isSome) n = (R.lookup n.x).isSome from rfl, e] at this
    cases this
  | some i => rfl
/-- the rows at these addresses -/
def RsAt (H : Hp) (as : List V) (rs : List Row) : Prop := All2 (fun R v => ∃ a, v = .ref a ∧ H a = some (.dK (dk R))) rs as
theorem RsAt.same {H H' : Hp} (e : Same H H') {as : List V} {rs : List Row} (h : RsAt H as rs) : RsAt H' as rs := All2.mono (fun _ _ ⟨a, h1, h2⟩ => ⟨a, h1, e _ _ h2⟩) h
theorem putR_new {x : Str} {v : V} {kvs : List (Key × V)} (h : ∀ p ∈ kvs, p.1 ≠ .inr x) : putK kvs (.inr x) v = kvs ++ [(.inr x, v)] := by
  unfold putK
  rw [if_neg]
  intro z
  obtain ⟨p, hp, e⟩ := List.any_eq_true.mp z
  exact h p hp (of_decide_eq_true e)

/-! ### the futures of a market, plainly -/
theorem fm_take {α β : Type} {f : α → List β} {l : List α} {i : Nat} {a : α} (h : l[i]? = some a) : (l.take (i + 1)).flatMap f = (l.take i).flatMap f ++ f a := by
  rw [List.take_succ, h, List.flatMap_append]
  simp
def mvS (ways : List (List Int × Int)) (p : Nm × Int) : List (List Int × Int) := ways.flatMap fun a => p.1.st.map fun s => (a.1 ++ [p.2 + s.1], a.2 * s.2)
def mv (ps : List (Nm × Int)) : List (List Int × Int) := ps.foldl mvS [([], 1)]
def wOk (ns : List Nm) : Prop := ∀ n ∈ ns, n.st.length ≤ 4 ∧ 1 ≤ n.st.length ∧ ∀ s ∈ n.st, 0 ≤ s.2 ∧ s.2 ≤ 999
def prodN (ns : List Nm) : Nat := ns.foldl (fun c n => c * n.st.length) 1
def cntN (la : Int) (ns : List Nm) : Nat := prodN ns ^ la.toNat
theorem sum_const {α : Type} (c : Nat) : ∀ l : List α, (l.map fun _ => c).sum = l.length * c
  | [] => by simp
  | _ :: l => by rw [List.map_cons, List.sum_cons, sum_const c l, List.length_cons, Nat.add_mul]; omega
theorem prod_from (ns : List Nm) : ∀ c : Nat, ns.foldl (fun c n => c * n.st.length) c = c * prodN ns := by
  unfold prodN
  induction ns with
  | nil => intro c; simp
  | cons n ns ih =>
    intro c
    rw [List.foldl_cons, List.foldl_cons, ih, ih (1 * n.st.length)]
    simp [Nat.mul_assoc]
theorem prodN_cons (n : Nm) (ns : List Nm) : prodN (n :: ns) = n.st.length * prodN ns := by
  show ns.foldl (fun c n => c * n.st.length) (1 * n.st.length) = _
  rw [prod_from, Nat.one_mul]
theorem prod_pos {ns : List Nm} (h : wOk ns) : 0 < prodN ns ∧ prodN ns ≤ 4 ^ ns.length := by
  unfold prodN
  induction ns with
  | nil => simp
  | cons n ns ih =>
    have a := ih fun m hm => h m (List.mem_cons_of_mem _ hm)
    have b := h n List.mem_cons_self
    rw [List.foldl_cons, prod_from]
    unfold prodN
    refine ⟨Nat.mul_pos (by omega) a.1, ?_⟩
    rw [List.length_cons, Nat.pow_succ, Nat.one_mul, Nat.mul_comm]
    exact Nat.mul_le_mul a.2 b.1
theorem mvS_len {ws : List (List Int × Int)} {p : Nm × Int} : (mvS ws p).length = ws.length * p.1.st.length := by
  unfold mvS
  rw [List.length_flatMap, List.map_congr_left (g := fun _ => p.1.st.length) (fun a _ => List.length_map _), sum_const]
theorem mv_from_len (ps : List (Nm × Int)) : ∀ ws, (ps.foldl mvS ws).length = ws.length * prodN (ps.map (·.1)) := by
  induction ps with
  | nil => intro ws; simp [prodN]
  | cons p ps ih =>
    intro ws
    rw [List.foldl_cons, ih, mvS_len, List.map_cons, prodN_cons, Nat.mul_assoc]
theorem mv_from_ok (ps : List (Nm × Int)) : ∀ (ws : List (List Int × Int)) (B : Int) (k : Nat), (∀ p ∈ ps, ∀ s ∈ p.1.st, 0 ≤ s.2 ∧ s.2 ≤ 999) → (∀ w ∈ ws, (0 ≤ w.2 ∧ w.2 ≤ B) ∧ w.1.length = k) → ∀ w ∈ ps.foldl mvS ws, (0 ≤ w.2 ∧ w.2 ≤ B * 999 ^ ps.length) ∧ w.1.length = k + ps.length := by
  induction ps with
  | nil =>
    intro ws B k _ h w hw
    simpa using h w hw
  | cons p ps ih =>
    intro ws B k hp h w hw
    rw [List.foldl_cons] at hw
    have z := ih (mvS ws p) (B * 999) (k + 1) (fun q hq => hp q (List.mem_cons_of_mem _ hq)) (fun v hv => by
      unfold mvS at hv
      obtain ⟨a, ha, hv⟩ := List.mem_flatMap.mp hv
      obtain ⟨s, hs, rfl⟩ := List.mem_map.mp hv
      obtain ⟨⟨a0, a1⟩, a2⟩ := h a ha
      obtain ⟨s0, s1⟩ := hp p List.mem_cons_self s hs
      refine ⟨⟨Int.mul_nonneg a0 s0, Int.mul_le_mul a1 s1 s0 (by omega)⟩, by simp [a2]⟩) w hw
    rw [List.length_cons]
    refine ⟨⟨z.1.1, ?_⟩, by omega⟩
    have e : B * 999 ^ (ps.length + 1) = B * 999 * 999 ^ ps.length := by
      rw [Int.pow_succ, Int.mul_assoc, Int.mul_comm 999]
    rw [e]
    exact z.1.2
theorem mv_ok {ns : List Nm} {is : List Int} (h : wOk ns) (hl : is.length = ns.length) (h3 : ns.length ≤ 3) : (mv (ns.zip is)).length = prodN ns ∧ ∀ w ∈ mv (ns.zip is), (0 ≤ w.2 ∧ w.2 ≤ 997002999) ∧ w.1.length = ns.length := by
  have zl : (ns.zip is).length = ns.length := by rw [List.length_zip]; omega
  have zf : (ns.zip is).map (·.1) = ns := by rw [List.map_fst_zip]; omega
  refine ⟨by unfold mv; rw [mv_from_len, zf]; simp, fun w hw => ?_⟩
  have z := mv_from_ok (ns.zip is) [([], 1)] 1 0 (fun p hp s hs => (h p.1 (List.of_mem_zip (a := p.1) (b := p.2) hp).1).2.2 s hs) (fun w hw => by rw [List.mem_singleton.mp hw]; decide) w hw
  rw [zl] at z
  refine ⟨⟨z.1.1, Int.le_trans z.1.2 ?_⟩, by omega⟩
  have : ns.length = 0 ∨ ns.length = 1 ∨ ns.length = 2 ∨ ns.length = 3 := by omega
  rcases this with e | e | e | e <;> rw [e] <;> decide
theorem mv_take {ns : List Nm} {is : List Int} (h : wOk ns) (hl : is.length = ns.length) (h3 : ns.length ≤ 3) (i : Nat) : (mv ((ns.zip is).take i)).length ≤ 64 ∧ ∀ w ∈ mv ((ns.zip is).take i), (0 ≤ w.2 ∧ w.2 ≤ 997002999) ∧ w.1.length ≤ 3 := by
  have e : (ns.zip is).take i = (ns.take i).zip (is.take i) := List.take_zipWith
  have a := mv_ok (ns := ns.take i) (is := is.take i) (fun n hn => h n (List.mem_of_mem_take hn)) (by rw [List.length_take, List.length_take]; omega) (by rw [List.length_take]; omega)
  have b := (prod_pos (ns := ns.take i) (fun n hn => h n (List.mem_of_mem_take hn))).2
  have c : (ns.take i).length ≤ 3 := by rw [List.length_take]; omega
  have d : 4 ^ (ns.take i).length ≤ 4 ^ 3 := Nat.pow_le_pow_right (by decide) c
  rw [e]
  refine ⟨by rw [a.1]; omega, fun w hw => ⟨(a.2 w hw).1, by rw [(a.2 w hw).2]; exact c⟩⟩
def lastL (w : List (List Int)) : List Int := w.getLast?.getD []
def fuS (ns : List Nm) (ws : List (List (List Int) × Int)) : List (List (List Int) × Int) := ws.flatMap fun a => (mv (ns.zip (lastL a.1))).map fun b => (a.1 ++ [b.1], a.2 * b.2)
def fu (ns : List Nm) : Nat → List (List (List Int) × Int)
  | 0 => [([ns.map (·.b)], 1)]
  | h + 1 => fuS ns (fu ns h)
theorem lastL_snoc (w : List (List Int)) (x : List Int) : lastL (w ++ [x]) = x := by
  unfold lastL
  simp
theorem fu_ok {ns : List Nm} (h : wOk ns) (h3 : ns.length ≤ 3) : ∀ k, (fu ns k).length = prodN ns ^ k ∧ ∀ w ∈ fu ns k, (∃ u x, w.1 = u ++ [x]) ∧ w.1.length = k + 1 ∧ ∀ is ∈ w.1, is.length = ns.length
  | 0 => by
    refine ⟨by simp [fu], fun w hw => ?_⟩
    rw [show fu ns 0 = [([ns.map (·.b)], 1)] from rfl, List.mem_singleton] at hw
    subst hw
    exact ⟨⟨[], _, rfl⟩, rfl, fun is hi => by rw [List.mem_singleton.mp hi, List.length_map]⟩
  | k + 1 => by
    obtain ⟨a, b⟩ := fu_ok h h3 k
    have lst : ∀ w ∈ fu ns k, (lastL w.1).length = ns.length := fun w hw => by
      obtain ⟨⟨u, x, e⟩, _, c⟩ := b w hw
      rw [e, lastL_snoc]
      exact c x (by rw [e]; simp)
    refine ⟨?_, fun w hw => ?_⟩
    · show (fuS ns (fu ns k)).length = _
      unfold fuS
      rw [List.length_flatMap, List.map_congr_left (g := fun _ => prodN ns) (fun w hw => by rw [List.length_map]; exact (mv_ok h (lst w hw) h3).1), sum_const, a, Nat.pow_succ]
    · have hw : w ∈ fuS ns (fu ns k) := hw
      unfold fuS at hw
      obtain ⟨c, hc, hw⟩ := List.mem_flatMap.mp hw
      obtain ⟨d, hd, rfl⟩ := List.mem_map.mp hw
      obtain ⟨_, e2, e3⟩ := b c hc
      refine ⟨⟨_, _, rfl⟩, by simp [e2], fun is hi => ?_⟩
      rcases List.mem_append.mp hi with hi | hi
      · exact e3 is hi
      · rw [List.mem_singleton.mp hi]
        exact ((mv_ok h (lst c hc) h3).2 d hd).2
/-! ### as they lie in the heap -/
def IsR (H : Hp) (is : List Int) (v : V) : Prop := ∃ b, v = .ref b ∧ H b = some (.lst (is.map V.int))
def MvR (K : PySem.W.Frag) (H0 H : Hp) (w : List Int × Int) (v : V) : Prop := ∃ p b, v = .ref p ∧ SqT K H p [.ref b, .int w.2] ∧ H b = some (.lst (w.1.map V.int)) ∧ H0 b = none
def WyR (K : PySem.W.Frag) (H : Hp) (w : List (List Int) × Int) (v : V) : Prop := ∃ p l vs, v = .ref p ∧ SqT K H p [.ref l, .int w.2] ∧ H l = some (.lst vs) ∧ All2 (IsR H) w.1 vs
theorem IsR.same {H H' : Hp} (e : Same H H') : ∀ is v, IsR H is v → IsR H' is v := fun _ _ ⟨b, h1, h2⟩ => ⟨b, h1, e _ _ h2⟩
theorem MvR.same {K : PySem.W.Frag} {H0 H H' : Hp} (e : Same H H') : ∀ w v, MvR K H0 H w v → MvR K H0 H' w v := fun _ _ ⟨p, b, h1, h2, h3, h4⟩ => ⟨p, b, h1, SqT.same e h2, e _ _ h3, h4⟩
theorem WyR.same {K : PySem.W.Frag} {H H' : Hp} (e : Same H H') : ∀ w v, WyR K H w v → WyR K H' w v := fun _ _ ⟨p, l, vs, h1, h2, h3, h4⟩ => ⟨p, l, vs, h1, SqT.same e h2, e _ _ h3, h4.mono (IsR.same e)⟩
theorem All2.one {α β : Type} {R : α → β → Prop} {a : α} {b : β} (h : R a b) : All2 R [a] [b] := ⟨h, trivial⟩
theorem All2.append {α β : Type} {R : α → β → Prop} : ∀ {as cs : List α} {bs ds : List β}, All2 R as bs → All2 R cs ds → All2 R (as ++ cs) (bs ++ ds)
  | [], _, [], _, _, h => h
  | _ :: _, _, _ :: _, _, h, g => ⟨h.1, All2.append h.2 g⟩
  | [], _, _ :: _, _, h, _ => h.elim
  | _ :: _, _, [], _, h, _ => h.elim

/-! ### all futures are told -/
def FR (K : PySem.W.Frag) (H : Hp) (w : List Row × Int) (t : Addr × Addr × List Addr) : Prop := SqT K H t.1 [.ref t.2.1, .int w.2] ∧ H t.2.1 = some (.lst (t.2.2.map V.ref)) ∧ All2 (fun R r => H r = some (.dK (dk R))) w.1 t.2.2
theorem FR.same {K : PySem.W.Frag} {H H' : Hp} (e : Same H H') : ∀ w t, FR K H w t → FR K H' w t := fun _ _ ⟨h1, h2, h3⟩ => ⟨SqT.same e h1, e _ _ h2, h3.mono fun _ _ h => e _ _ h⟩
def flatA (ts : List (Addr × Addr × List Addr)) : List Addr := ts.flatMap (·.2.2)
def rowsW (ns : List Nm) (w : List (List Int) × Int) : List Row × Int := (w.1.map fun is => (ns.map (·.x)).zip is, w.2)
def fuR (la : Int) (ns : List Nm) : List (List Row × Int) := (fu ns la.toNat).map (rowsW ns)
theorem rows_live {H : Hp} : ∀ {rs : List Row} {as : List Addr}, All2 (fun R r => H r = some (.dK (dk R))) rs as → ∀ r ∈ as, ∃ o, H r = some o
  | R :: rs, a :: as, h, r, hr => by
    rcases List.mem_cons.mp hr with rfl | hr
    · exact ⟨_, h.1⟩
    · exact rows_live h.2 r hr
  | [], [], _, r, hr => by cases hr
  | [], _ :: _, h, _, _ => h.elim
theorem FR_live {K : PySem.W.Frag} {H : Hp} : ∀ {ws : List (List Row × Int)} {ts : List (Addr × Addr × List Addr)}, All2 (FR K H) ws ts → ∀ r ∈ flatA ts, ∃ o, H r = some o
  | w :: ws, t :: ts, h, r, hr => by
    unfold flatA at hr
    rw [List.flatMap_cons, List.mem_append] at hr
    rcases hr with hr | hr
    · exact rows_live h.1.2.2 r hr
    · exact FR_live h.2 r hr
  | [], [], _, r, hr => by cases hr
  | [], _ :: _, h, _, _ => h.elim
theorem fm_pre {α β : Type} {f : α → List β} {l : List α} {c d : Nat} {a : α} (h : l[c]? = some a) : ((l.take c).flatMap f ++ (f a).take d).length ≤ (l.flatMap f).length := by
  have e : l = l.take c ++ a :: l.drop (c + 1) := by
    obtain ⟨lt, rfl⟩ := List.getElem?_eq_some_iff.mp h
    rw [← List.drop_eq_getElem_cons, List.take_append_drop]
  have z : (l.flatMap f).length = ((l.take c).flatMap f).length + ((f a).length + ((l.drop (c + 1)).flatMap f).length) := by
    conv => lhs; rw [e]
    rw [List.flatMap_append, List.flatMap_cons, List.length_append, List.length_append]
  rw [z, List.length_append, List.length_take]
  omega
theorem cnt_le {ns : List Nm} {la : Int} (h : wOk ns) (hc : cntN la ns ≤ 2000) {k : Nat} (hk : k ≤ la.toNat) : prodN ns ^ k ≤ 2000 := by
  unfold cntN at hc
  exact Nat.le_trans (Nat.pow_le_pow_right (prod_pos h).1 hk) hc
theorem All2.snoc_inv {α β : Type} {R : α → β → Prop} {a : α} : ∀ {as : List α} {bs : List β}, All2 R (as ++ [a]) bs → ∃ bs1 b, bs = bs1 ++ [b] ∧ All2 R as bs1 ∧ R a b
  | [], [b], h => ⟨[], b, rfl, trivial, h.1⟩
  | _ :: as, b :: bs, h => by
    obtain ⟨bs1, c, e, h1, h2⟩ := All2.snoc_inv (as := as) h.2
    exact ⟨b :: bs1, c, by rw [e]; rfl, ⟨h.1, h1⟩, h2⟩
  | [], [], h => h.elim
  | [], _ :: _ :: _, h => h.2.elim
  | _ :: _, [], h => h.elim

/-! ### the law's own futures -/
theorem zip_snoc : ∀ {xs : List Str} {ys : List Int} {x : Str} {y : Int}, xs[ys.length]? = some x → xs.zip (ys ++ [y]) = xs.zip ys ++ [(x, y)]
  | [], ys, x, y, h => by simp at h
  | z :: xs, [], x, y, h => by
    simp only [List.length_nil, List.getElem?_cons_zero, Option.some.injEq] at h
    subst h
    simp
  | z :: xs, w :: ys, x, y, h => by
    rw [List.cons_append, List.zip_cons_cons, List.zip_cons_cons, List.cons_append, zip_snoc (by simpa using h)]
theorem zip_ne : ∀ {xs : List Str} {ys : List Int} {x : Str}, xs.Nodup → xs[ys.length]? = some x → ∀ q ∈ xs.zip ys, q.1 ≠ x
  | [], ys, x, _, h => by simp at h
  | z :: xs, [], x, _, _ => fun q hq => by simp at hq
  | z :: xs, w :: ys, x, nd, h => fun q hq => by
    rw [List.nodup_cons] at nd
    have h : xs[ys.length]? = some x := by simpa using h
    rw [List.zip_cons_cons] at hq
    rcases List.mem_cons.mp hq with rfl | hq
    · exact fun e => nd.1 (by rw [show z = x from e]; exact List.mem_of_getElem? h)
    · exact zip_ne nd.2 h q hq
theorem zip_look : ∀ {xs : List Str} {ys : List Int} {i : Nat} {x : Str} {y : Int}, xs.Nodup → xs[i]? = some x → ys[i]? = some y → (xs.zip ys).lookup x = some y
  | [], ys, i, x, y, _, h, _ => by simp at h
  | z :: xs, [], i, x, y, _, _, h => by simp at h
  | z :: xs, w :: ys, 0, x, y, _, h, g => by
    simp only [List.getElem?_cons_zero, Option.some.injEq] at h g
    subst h g
    rw [List.zip_cons_cons, List.lookup_cons, beq_self_eq_true]
  | z :: xs, w :: ys, i + 1, x, y, nd, h, g => by
    rw [List.nodup_cons] at nd
    have h : xs[i]? = some x := by simpa using h
    have g : ys[i]? = some y := by simpa using g
    have e : (x == z) = false := by
      rw [beq_eq_false_iff_ne]
      exact fun e => nd.1 (by rw [← e]; exact List.mem_of_getElem? h)
    rw [List.zip_cons_cons, List.lookup_cons, e]
    exact zip_look nd.2 h g
theorem mv_takeL {ns : List Nm} {is : List Int} (h : wOk ns) (hl : is.length = ns.length) (h3 : ns.length ≤ 3) {i : Nat} (hi : i ≤ ns.length) : ∀ w ∈ mv ((ns.zip is).take i), w.1.length = i := by
  have e : (ns.zip is).take i = (ns.take i).zip (is.take i) := List.take_zipWith
  have a := mv_ok (ns := ns.take i) (is := is.take i) (fun n hn => h n (List.mem_of_mem_take hn)) (by rw [List.length_take, List.length_take]; omega) (by rw [List.length_take]; omega)
  rw [e]
  intro w hw
  rw [(a.2 w hw).2, List.length_take]
  omega
def nxW (ns : List Nm) (w : List Int × Int) : Row × Int := ((ns.map (·.x)).zip w.1, w.2)
def NxR (K : PySem.W.Frag) (H0 H : Hp) (w : Row × Int) (v : V) : Prop := ∃ p b, v = .ref p ∧ SqT K H p [.ref b, .int w.2] ∧ H b = some (.dK (dk w.1)) ∧ H0 b = none
theorem NxR.same {K : PySem.W.Frag} {H0 H H' : Hp} (e : Same H H') : ∀ w v, NxR K H0 H w v → NxR K H0 H' w v := fun _ _ ⟨p, b, h1, h2, h3, h4⟩ => ⟨p, b, h1, SqT.same e h2, e _ _ h3, h4⟩
theorem names_nd {ds : List PyData} (hnd : (ds.map wordOf).Nodup) (h : ds.all okName = true) : ((ds.map nmOf).map (·.x)).Nodup := by
  have e : (ds.map nmOf).map (·.x) = ds.map wordOf := by
    rw [List.map_map]
    refine List.map_congr_left fun d hd => ?_
    obtain ⟨x, b, es, rfl, _⟩ := okName_parts (List.all_eq_true.mp h d hd)
    rfl
  rw [e]
  exact hnd
def spNexts (K : PySem.W.Frag) : Sp := fun vs H Q _ => ∃ (p r : Addr) (ds : List PyData) (is : List Int), vs = [.ref p, .ref r] ∧ Dp K H (.ref p) (.list ds) ∧ ds.all okName = true ∧ ds.length ≤ 3 ∧ ((ds.map nmOf).map (·.x)).Nodup ∧ wOk (ds.map nmOf) ∧ is.length = ds.length ∧
  H r = some (.dK (dk (((ds.map nmOf).map (·.x)).zip is))) ∧ ∀ D vs H', Same H H' → H D = none → H' D = some (.lst vs) → All2 (NxR K H H') ((mv ((ds.map nmOf).zip is)).map (nxW (ds.map nmOf))) vs → Q (.ref D) H'
section
variable {P : Program} {w : World} {K : PySem.W.Frag} {mg : Str → Option Value} {base : Heap}
abbrev s__law_nexts : Stmt := topS 64
theorem sc__law_nexts : FnScope ["_law_names", "_law_row", "_law_found", "_law_name", "_law_begun_here", "_law_steps_here", "_law_longer", "_law_told_here", "_law_weight", "_law_by", "_law_more", "_law_one"] ["_law_names", "_law_row"] (defScope s__law_nexts) := ⟨rfl, rfl, rfl, by decide +kernel, rfl, by decide +kernel, by decide +kernel⟩
theorem h__law_nexts {k : Nat} {f : Addr} {fd : FuncData} (O : Own K mg "_law_nexts" s__law_nexts ["_law_names", "_law_row"] f fd)  (m_dict : mg "dict" = none) : Has P w K mg base "_law_nexts" ["_law_names", "_law_row"] (k + 1) CX0 (spNexts K) f fd := by
  refine O.has (O.F.ok sc__law_nexts (fun vs H Q E h => ?_) (fun cdv A outer s H vs Q E hr h => ?_))
  · obtain ⟨p, r, ds, is, rfl, _⟩ := h
    rfl
  obtain ⟨p, r, ds, is, rfl, hds, okd, ld, nd, hw, li, hr', q⟩ := h
  refine ⟨_, (pss_cons (ps_set (i := 2) sc__law_nexts.nd rfl (.inl rfl) (pe_lst (pa_cons (pe_tup (pa_cons pe_dnewK (pa_cons pe_int pa_nil))) pa_nil))) (pss_cons (ps_for PassesOwn.never rfl (pi_list (pv 0)) (pg_tup rfl (pgs_cons (pg_name (i := 3) sc__law_nexts.nd rfl (.inl rfl)) (pgs_cons (pg_name (i := 4) sc__law_nexts.nd rfl (.inl rfl)) (pgs_cons (pg_name (i := 5) sc__law_nexts.nd rfl (.inl rfl)) pgs_nil)))) (pss_cons (ps_set (i := 6) sc__law_nexts.nd rfl (.inl rfl) (pe_lst pa_nil)) (pss_cons (ps_for PassesOwn.never rfl (pi_list (pv 2)) (pg_tup rfl (pgs_cons (pg_name (i := 7) sc__law_nexts.nd rfl (.inl rfl)) (pgs_cons (pg_name (i := 8) sc__law_nexts.nd rfl (.inl rfl)) pgs_nil))) (pss_one (ps_for PassesOwn.never rfl (pi_list (pv 5)) (pg_tup rfl (pgs_cons (pg_name (i := 9) sc__law_nexts.nd rfl (.inl rfl)) (pgs_cons (pg_name (i := 10) sc__law_nexts.nd rfl (.inl rfl)) pgs_nil))) (pss_cons (ps_set (i := 11) sc__law_nexts.nd rfl (.inl rfl) (pe_callTy call_dictD (by rfl) m_dict (by decide +kernel) (pa_cons (pv 7) pa_nil))) (pss_cons (ps_dput (hu_of hr) (pv 11) (pv 3) (pe_op op_add (pe_dget (hu_of hr) (pv 1) (pv 3) (fun _ _ => rfl)) (pv 9)) (by rfl)) (pss_one (ps_expr (pe_bm PySem.F.plainAttrs_list PySem.F.slot_list_append PySem.F.type_list_append mt_append (pv 6) (pa_cons (pe_tup (pa_cons (pv 11) (pa_cons (pe_op op_mul (pv 8) (pv 10)) pa_nil))) pa_nil))))))))) (pss_one (ps_set (i := 2) sc__law_nexts.nd rfl (.inl rfl) (pv 6)))))) (pss_one (ps_ret (pv 2))))), ?_⟩
  cases hds with
  | @lst _ us _ hu hall =>
  have lu := DpAll.len hall
  have ln : (ds.map nmOf).length = ds.length := List.length_map _
  generalize hns : ds.map nmOf = ns at nd hw hr' q ln
  have l3 : ns.length ≤ 3 := by omega
  walk_at "go"
  intro d0 m0
  have s1 := same_new (o := .dK []) m0
  have hd1 : (upd H d0 (.dK [])) d0 = some (.dK (dk [])) := upd_same
  generalize upd H d0 (.dK []) = H1 at s1 hd1 ⊢
  walk_at "go"
  refine ⟨by show 2 ≤ sizeLine; decide, fun p0 k0 => ?_⟩
  have s2 := same_new (o := .tup [.ref d0, .int 1]) k0
  have hp2 : SqT K (upd H1 p0 (.tup [.ref d0, .int 1])) p0 [.ref d0, .int 1] := sqt upd_same
  have hd2 := s2 _ _ hd1
  replace s2 := s1.trans s2
  generalize upd H1 p0 (.tup [.ref d0, .int 1]) = H2 at s2 hd2 hp2 ⊢
  walk_at "go"
  refine ⟨by show 1 ≤ sizeLine; decide, fun W0 j0 => ?_⟩
  have s3 := same_new (o := .lst [.ref p0]) j0
  have hW3 : (upd H2 W0 (.lst [.ref p0])) W0 = some (.lst [.ref p0]) := upd_same
  have hd3 := s3 _ _ hd2
  have hp3 := SqT.same s3 hp2
  replace s3 := s2.trans s3
  have nW0 : H W0 = none := fresh_same s2 j0
  generalize upd H2 W0 (.lst [.ref p0]) = H3 at s3 hd3 hp3 hW3 ⊢
  walk_at "go"
  refine ⟨⟨_, s3.seq hu⟩, for_it (walk_list (xs := us)) (fun i σ H4 => ∃ W y3 y4 y5 y6 y7 y8 y9 y10 y11 vs, σ = [some (.ref p), some (.ref r), some (.ref W), y3, y4, y5, y6, y7, y8, y9, y10, y11] ∧ Same H H4 ∧ H W = none ∧ H4 W = some (.lst vs) ∧ All2 (NxR K H H4) ((mv ((ns.zip is).take i)).map (nxW ns)) vs)
    ⟨W0, _, _, _, _, _, _, _, _, _, _, rfl, s3, nW0, hW3, All2.one ⟨p0, d0, rfl, hp3, by show H3 d0 = some (.dK (dk ((ns.map (·.x)).zip []))); rw [List.zip_nil_right]; exact hd3, m0⟩⟩ (fun i σ H4 _ hW => ?_) (fun i x σ H4 H5 hi4 hW hy => ?_) (fun σ H4 hW => ?_)⟩
  · obtain ⟨_, _, _, _, _, _, _, _, _, _, _, _, e, _⟩ := hW
    exact e.seq hu
  · obtain ⟨W, y3, y4, y5, y6, y7, y8, y9, y10, y11, vs, rfl, e4, nW, hW4, hvs⟩ := hW
    obtain ⟨rfl, hx⟩ := hy
    have hid : i < ds.length := by omega
    have hdi : ds[i]? = some ds[i] := List.getElem?_eq_getElem hid
    obtain ⟨x', hx', du⟩ := DpAll.at hall hdi
    cases Option.some.inj (hx'.symm.trans hx)
    obtain ⟨nx, nb, es, ed, eo, _⟩ := okName_parts (List.all_eq_true.mp okd _ (List.getElem_mem hid))
    have hni : ns[i]? = some ⟨nx, nb, es.map stOf⟩ := by rw [← hns, List.getElem?_map, hdi, ed]; rfl
    have hik : is[i]? = some (is[i]'(by omega)) := List.getElem?_eq_getElem (by omega)
    generalize is[i]'(by omega) = k at hik
    have hxi : (ns.map (·.x))[i]? = some nx := by rw [List.getElem?_map, hni]; rfl
    have hz : (ns.zip is)[i]? = some (⟨nx, nb, es.map stOf⟩, k) := by
      rw [List.getElem?_zip_eq_some]
      exact ⟨hni, hik⟩
    have step : (mv ((ns.zip is).take (i + 1))).map (nxW ns) = (mv ((ns.zip is).take i)).flatMap fun a => (es.map stOf).map fun s => nxW ns (a.1 ++ [k + s.1], a.2 * s.2) := by
      rw [List.take_succ, hz]
      unfold mv
      rw [List.foldl_append]
      show (mvS _ _).map _ = _
      unfold mvS
      rw [List.map_flatMap]
      refine congrArg (fun f => List.flatMap f _) (funext fun a => ?_)
      rw [List.map_map]
      rfl
    have hwi := hw _ (List.mem_of_getElem? hni)
    have okw := mv_take hw (by omega) l3 (is := is) i
    have okl := mv_takeL hw (by omega) l3 (is := is) (i := i) (by omega)
    have lvs := hvs.len
    rw [List.length_map] at lvs
    have rowv : valV (dk ((ns.map (·.x)).zip is)) (.inr nx) = some (.int k) := by rw [dk_val, zip_look nd hxi hik]; rfl
    rw [ed] at du
    have du := Dp.dm (.of e4) du
    cases du with
    | @tup b us' es' hb he =>
    cases he with
    | @cons z1 _ _ _ g1 he =>
    cases he with
    | @cons z2 _ _ _ g2 he =>
    cases he with
    | @cons z3 _ _ _ g3 he =>
    cases he
    cases g1
    cases g2
    cases g3 with
    | @lst a3 vs3 _ ha3 hs3 =>
    have st3 := steps_all2 hs3 eo
    have lst3 := st3.len
    rw [List.length_map] at lst3
    refine g_gtup hb rfl ?_
    walk_at "go"
    refine ⟨by show 0 ≤ sizeLine; decide, fun L nL => ?_⟩
    have hL5 : (upd H5 L (.lst [])) L = some (.lst []) := upd_same
    have eL5 : er L (upd H5 L (.lst [])) = H5 := er_upd.trans (er_new nL)
    generalize upd H5 L (.lst []) = H6 at hL5 eL5 ⊢
    have nLH := fresh_same e4 nL
    have s56 : Same H5 H6 := by rw [← eL5]; exact er_sub
    walk_at "go"
    refine ⟨⟨_, s56.seq (sql hW4)⟩, for_it (walk_list (xs := vs)) (fun c σ Hc => ∃ y7 y8 y9 y10 y11 ws, σ = [some (.ref p), some (.ref r), some (.ref W), some (.str nx), some (.int nb), some (.ref a3), some (.ref L), y7, y8, y9, y10, y11] ∧ Hc L = some (.lst ws) ∧ Same H5 (er L Hc) ∧
        All2 (NxR K H (er L Hc)) (((mv ((ns.zip is).take i)).take c).flatMap fun a => (es.map stOf).map fun s => nxW ns (a.1 ++ [k + s.1], a.2 * s.2)) ws)
      ⟨_, _, _, _, _, [], rfl, hL5, by rw [eL5]; exact .refl _, trivial⟩ (fun c σ Hc _ hC => ?_) (fun c x σ Hc Hc' hc hC hy => ?_) (fun σ Hc hC => ?_)⟩
    · obtain ⟨_, _, _, _, _, _, _, _, e, _⟩ := hC
      exact (e.trans er_sub).seq (sql hW4)
    · obtain ⟨y7, y8, y9, y10, y11, ws, rfl, hL, eC, hws⟩ := hC
      obtain ⟨rfl, hx⟩ := hy
      have hci : (mv ((ns.zip is).take i))[c]? = some ((mv ((ns.zip is).take i))[c]'(by omega)) := List.getElem?_eq_getElem (by omega)
      obtain ⟨x', hx', pp, bb, rfl, hpp, hbb, _⟩ := hvs.at (i := c) (by rw [List.getElem?_map, hci]; rfl)
      cases Option.some.inj (hx'.symm.trans hx)
      have wc := okw.2 _ (List.getElem_mem (show c < (mv ((ns.zip is).take i)).length by omega))
      have wl := okl _ (List.getElem_mem (show c < (mv ((ns.zip is).take i)).length by omega))
      have fmt := fm_take (f := fun a : List Int × Int => (es.map stOf).map fun s => nxW ns (a.1 ++ [k + s.1], a.2 * s.2)) hci
      generalize (mv ((ns.zip is).take i))[c]'(by omega) = wcur at hpp hbb wc wl fmt
      have eC5 := eC.trans er_sub
      refine g_gtup (SqT.same eC5 hpp) rfl ?_
      walk_at "go"
      refine ⟨⟨_, eC5.seq ha3⟩, for_it (walk_list (xs := vs3)) (fun d σ Hd => ∃ y9 y10 y11 ws, σ = [some (.ref p), some (.ref r), some (.ref W), some (.str nx), some (.int nb), some (.ref a3), some (.ref L), some (.ref bb), some (.int wcur.2), y9, y10, y11] ∧ Hd L = some (.lst ws) ∧ Same H5 (er L Hd) ∧
          All2 (NxR K H (er L Hd)) ((((mv ((ns.zip is).take i)).take c).flatMap fun a => (es.map stOf).map fun s => nxW ns (a.1 ++ [k + s.1], a.2 * s.2)) ++ (((es.map stOf).map fun s => nxW ns (wcur.1 ++ [k + s.1], wcur.2 * s.2)).take d)) ws)
        ⟨_, _, _, ws, rfl, hL, eC, by simpa using hws⟩ (fun d σ Hd _ hV => ?_) (fun d x σ Hd Hd' hd hV hy => ?_) (fun σ Hd hV => ?_)⟩
      · obtain ⟨_, _, _, _, _, _, e, _⟩ := hV
        exact (e.trans er_sub).seq ha3
      · obtain ⟨y9, y10, y11, ws, rfl, hL, eD, hws⟩ := hV
        obtain ⟨rfl, hx⟩ := hy
        have hdi : (es.map stOf)[d]? = some ((es.map stOf)[d]'(by rw [List.length_map]; omega)) := List.getElem?_eq_getElem _
        obtain ⟨x', hx', pd, rfl, hpd⟩ := st3.at hdi
        cases Option.some.inj (hx'.symm.trans hx)
        have ws2 := hwi.2.2 _ (List.mem_of_getElem? hdi)
        have tk : ((es.map stOf).map fun s => nxW ns (wcur.1 ++ [k + s.1], wcur.2 * s.2)).take (d + 1) = ((es.map stOf).map fun s => nxW ns (wcur.1 ++ [k + s.1], wcur.2 * s.2)).take d ++ [nxW ns (wcur.1 ++ [k + ((es.map stOf)[d]'(by rw [List.length_map]; omega)).1], wcur.2 * ((es.map stOf)[d]'(by rw [List.length_map]; omega)).2)] := by
          rw [List.take_succ, List.getElem?_map, hdi]
          rfl
        generalize (es.map stOf)[d]'(by rw [List.length_map]; omega) = sd at hpd ws2 tk
        have eDD := eD.trans er_sub
        have nc : ∀ {c : Addr} {Hx : Hp}, Hx L = some (.lst ws) → Hx c = none → c ≠ L := fun h1 h2 z => by rw [z, h1] at h2; cases h2
        refine g_gtup (SqT.same eDD hpd) rfl ?_
        walk_at "go"
        refine ⟨bb, _, rfl, .inl (eDD _ _ hbb), fun o1 m1 => ?_⟩
        walk_at "go"
        have n1 := nc hL m1
        have n1H : H o1 = none := fresh_same (e4.trans eDD) m1
        have s6 := same_new (o := .dK (dk ((ns.map (·.x)).zip wcur.1))) m1
        have r6 := s6 _ _ (eDD _ _ (e4 _ _ hr'))
        refine g_key r6 rowv ?_
        walk_at "go"
        have put : putK (dk ((ns.map (·.x)).zip wcur.1)) (.inr nx) (.int (k + sd.1)) = dk ((nxW ns (wcur.1 ++ [k + sd.1], wcur.2 * sd.2)).1) := by
          have hxw : (ns.map (·.x))[wcur.1.length]? = some nx := by rw [wl]; exact hxi
          rw [putR_new (fun q hq z => ?_)]
          · show _ = dk ((ns.map (·.x)).zip (wcur.1 ++ [k + sd.1]))
            rw [zip_snoc hxw]
            unfold dk
            rw [List.map_append]
            rfl
          · obtain ⟨q', hq', rfl⟩ := List.mem_map.mp hq
            exact zip_ne nd hxw q' hq' (Sum.inr.inj z)
        refine g_put upd_same ?_ put ?_
        · rw [dk_len]
          show ((ns.map (·.x)).zip wcur.1).length < sizeLine
          rw [List.length_zip]
          exact small1000 (by omega)
        rw [upd_upd]
        have s7 := same_new (o := .dK (dk ((nxW ns (wcur.1 ++ [k + sd.1], wcur.2 * sd.2)).1))) m1
        have ho7 : (er L (upd Hd' o1 (.dK (dk ((nxW ns (wcur.1 ++ [k + sd.1], wcur.2 * sd.2)).1))))) o1 = some (.dK (dk ((nxW ns (wcur.1 ++ [k + sd.1], wcur.2 * sd.2)).1))) := by rw [er_ne n1, upd_same]
        have hL7 := s7 _ _ hL
        replace hws := hws.mono (NxR.same (er_same s7))
        replace eD := eD.trans (er_same s7)
        clear r6 s6 m1
        generalize upd Hd' o1 (.dK (dk ((nxW ns (wcur.1 ++ [k + sd.1], wcur.2 * sd.2)).1))) = H7 at s7 ho7 hL7 hws eD ⊢
        walk_at "go"
        refine ⟨.inl ⟨rfl, _, sql hL7⟩, ?_⟩
        walk_at "go"
        refine g_I (.inr ⟨by omega, by omega⟩) ?_
        walk_at "go"
        refine ⟨by show 2 ≤ sizeLine; decide, fun c3 m3 => ?_⟩
        have n3 := nc hL7 m3
        have s8 := same_new (o := .tup [V.ref o1, V.int (wcur.2 * sd.2)]) m3
        have hc3 : SqT K (er L (upd H7 c3 (.tup [V.ref o1, V.int (wcur.2 * sd.2)]))) c3 [V.ref o1, V.int (wcur.2 * sd.2)] := sqt (by rw [er_ne n3, upd_same])
        have hL8 := s8 _ _ hL7
        replace ho7 := er_same s8 _ _ ho7
        replace hws := hws.mono (NxR.same (er_same s8))
        replace eD := eD.trans (er_same s8)
        generalize upd H7 c3 (.tup [V.ref o1, V.int (wcur.2 * sd.2)]) = H8 at hc3 ho7 hL8 hws eD ⊢
        have lw := hws.len
        have lw2 : ws.length ≤ 1000 := by
          rw [← lw, List.length_append, List.length_take, List.length_map]
          have : (((mv ((ns.zip is).take i)).take c).flatMap fun a => (es.map stOf).map fun s => nxW ns (a.1 ++ [k + s.1], a.2 * s.2)).length = min c (mv ((ns.zip is).take i)).length * (es.map stOf).length := by
            rw [List.length_flatMap, List.map_congr_left (g := fun _ => (es.map stOf).length) (fun a _ => List.length_map _), sum_const, List.length_take]
          rw [this]
          have : min c (mv ((ns.zip is).take i)).length * (es.map stOf).length ≤ 64 * 4 := Nat.mul_le_mul (by omega) hwi.1
          have : (es.map stOf).length ≤ 4 := hwi.1
          omega
        walk_at "go"
        refine ⟨L, ws, _, rfl, rfl, hL8, small1000 (by omega), ?_⟩
        refine ⟨_, _, _, ws ++ [.ref c3], rfl, upd_same, by rw [er_upd]; exact eD, ?_⟩
        rw [er_upd, tk, ← List.append_assoc]
        exact All2.snoc hws ⟨c3, o1, rfl, hc3, ho7, n1H⟩
      · obtain ⟨y9, y10, y11, ws, rfl, hL, eD, hws⟩ := hV
        rw [show ((es.map stOf).map fun s => nxW ns (wcur.1 ++ [k + s.1], wcur.2 * s.2)).take vs3.length = (es.map stOf).map fun s => nxW ns (wcur.1 ++ [k + s.1], wcur.2 * s.2) from List.take_of_length_le (by rw [List.length_map, List.length_map]; omega), ← fmt] at hws
        exact ⟨_, _, _, _, _, ws, rfl, hL, eD, hws⟩
    · obtain ⟨y7, y8, y9, y10, y11, ws, rfl, hL, eC, hws⟩ := hC
      rw [show (mv ((ns.zip is).take i)).take vs.length = mv ((ns.zip is).take i) from List.take_of_length_le (by omega), ← step] at hws
      walk_at "go"
      exact ⟨L, _, _, _, _, _, _, _, _, _, ws, rfl, e4.trans (eC.trans er_sub), nLH, hL, hws.mono (NxR.same er_sub)⟩
  · obtain ⟨W, y3, y4, y5, y6, y7, y8, y9, y10, y11, vs, rfl, e4, nW, hW4, hvs⟩ := hW
    walk_at "go"
    rw [List.take_of_length_le (by rw [List.length_zip]; omega)] at hvs
    exact q W vs H4 e4 nW hW4 hvs
end

/-! ### the law's futures of a market -/
theorem row0_zip (ns : List Nm) : row0 ns = (ns.map (·.x)).zip (ns.map (·.b)) := by
  unfold row0
  rw [List.zip_map']
theorem row0_take {ns : List Nm} (nd : (ns.map (·.x)).Nodup) {i : Nat} {n : Nm} (h : ns[i]? = some n) : putK (dk (row0 (ns.take i))) (.inr n.x) (.int n.b) = dk (row0 (ns.take (i + 1))) := by
  have e : (ns.take (i + 1)).map (·.x) = (ns.take i).map (·.x) ++ [n.x] := take_map_snoc h
  have nd2 : ((ns.take (i + 1)).map (·.x)).Nodup := by
    rw [List.map_take]
    exact nd.sublist (List.take_sublist _ _)
  rw [e] at nd2
  rw [putR_new (fun q hq z => ?_)]
  · unfold row0 dk
    rw [take_map_snoc (f := fun n : Nm => (n.x, n.b)) h, List.map_append]
    rfl
  · obtain ⟨r, hr, rfl⟩ := List.mem_map.mp hq
    obtain ⟨m, hm, rfl⟩ := List.mem_map.mp hr
    exact (List.nodup_append.mp nd2).2.2 m.x (List.mem_map.mpr ⟨m, hm, rfl⟩) n.x (by simp) (Sum.inr.inj z)
def spLFuts (K : PySem.W.Frag) : Sp := fun vs H Q _ => ∃ (t p : Addr) (la : Int) (ds : List PyData), vs = [.ref t] ∧ SqT K H t [.int la, .ref p] ∧ Dp K H (.ref p) (.list ds) ∧ ds.all okName = true ∧ ds.length ≤ 3 ∧ ((ds.map nmOf).map (·.x)).Nodup ∧ wOk (ds.map nmOf) ∧ 0 ≤ la ∧ la ≤ 12 ∧ cntN la (ds.map nmOf) ≤ 2000 ∧
  ∀ D ts H', Same H H' → H D = none → H' D = some (.lst (ts.map fun t => V.ref t.1)) → All2 (FR K H') (fuR la (ds.map nmOf)) ts → Q (.ref D) H'
section
variable {P : Program} {w : World} {K : PySem.W.Frag} {mg : Str → Option Value} {base : Heap}
abbrev s__law_futures : Stmt := topS 65
theorem sc__law_futures : FnScope ["_law_market_here", "_law_last", "_law_names", "_law_first", "_law_name", "_law_begun_here", "_law_steps_here", "_law_found", "_law_hour", "_law_longer", "_law_rows", "_law_weight", "_law_row", "_law_more"] ["_law_market_here"] (defScope s__law_futures) := ⟨rfl, rfl, rfl, by decide +kernel, rfl, by decide +kernel, by decide +kernel⟩
theorem h__law_futures {k : Nat} {f : Addr} {fd : FuncData} (O : Own K mg "_law_futures" s__law_futures ["_law_market_here"] f fd)  {f__law_nexts : Addr} {fd__law_nexts : FuncData} (D__law_nexts : Has P w K mg base "_law_nexts" ["_law_names", "_law_row"] k CX0 (spNexts K) f__law_nexts fd__law_nexts) (m_range : mg "range" = none) : Has P w K mg base "_law_futures" ["_law_market_here"] (k + 1) CX0 (spLFuts K) f fd := by
  refine O.has (O.F.ok sc__law_futures (fun vs H Q E h => ?_) (fun cdv A outer s H vs Q E hr h => ?_))
  · obtain ⟨t, p, la, ds, rfl, _⟩ := h
    rfl
  obtain ⟨t, p, la, ds, rfl, ht, hds, okd, ld, nd, hw, l0, l1, hc0, q⟩ := h
  refine ⟨_, (pss_cons (ps_asg (pv 0) (pg_tup rfl (pgs_cons (pg_name (i := 1) sc__law_futures.nd rfl (.inl rfl)) (pgs_cons (pg_name (i := 2) sc__law_futures.nd rfl (.inl rfl)) pgs_nil)))) (pss_cons (ps_set (i := 3) sc__law_futures.nd rfl (.inl rfl) pe_dnewK) (pss_cons (ps_for PassesOwn.never rfl (pi_list (pv 2)) (pg_tup rfl (pgs_cons (pg_name (i := 4) sc__law_futures.nd rfl (.inl rfl)) (pgs_cons (pg_name (i := 5) sc__law_futures.nd rfl (.inl rfl)) (pgs_cons (pg_name (i := 6) sc__law_futures.nd rfl (.inl rfl)) pgs_nil)))) (pss_one (ps_dput (hu_of hr) (pv 3) (pv 4) (pv 5) (by rfl)))) (pss_cons (ps_set (i := 7) sc__law_futures.nd rfl (.inl rfl) (pe_lst (pa_cons (pe_tup (pa_cons (pe_lst (pa_cons (pv 3) pa_nil)) (pa_cons pe_int pa_nil))) pa_nil))) (pss_cons (ps_for PassesOwn.never rfl (pi_range1 (by rfl) m_range (pa_cons (pv 1) pa_nil)) (pg_name (i := 8) sc__law_futures.nd rfl (.inl rfl)) (pss_cons (ps_set (i := 9) sc__law_futures.nd rfl (.inl rfl) (pe_lst pa_nil)) (pss_cons (ps_for PassesOwn.never rfl (pi_list (pv 7)) (pg_tup rfl (pgs_cons (pg_name (i := 10) sc__law_futures.nd rfl (.inl rfl)) (pgs_cons (pg_name (i := 11) sc__law_futures.nd rfl (.inl rfl)) pgs_nil))) (pss_one (ps_for PassesOwn.never rfl (pi_list (pe_call D__law_nexts.G hr (by rfl) D__law_nexts.g D__law_nexts.k D__law_nexts.b .nil pass0 (pa_cons (pv 2) (pa_cons (pe_ix ix_list (pv 10) (pe_un un_neg pe_int) (fun _ _ => rfl)) pa_nil)))) (pg_tup rfl (pgs_cons (pg_name (i := 12) sc__law_futures.nd rfl (.inl rfl)) (pgs_cons (pg_name (i := 13) sc__law_futures.nd rfl (.inl rfl)) pgs_nil))) (pss_one (ps_expr (pe_bm PySem.F.plainAttrs_list PySem.F.slot_list_append PySem.F.type_list_append mt_append (pv 9) (pa_cons (pe_tup (pa_cons (pe_op op_cat (pv 10) (pe_lst (pa_cons (pv 12) pa_nil))) (pa_cons (pe_op op_mul (pv 11) (pv 13)) pa_nil))) pa_nil))))))) (pss_one (ps_set (i := 7) sc__law_futures.nd rfl (.inl rfl) (pv 9)))))) (pss_one (ps_ret (pv 7)))))))), ?_⟩
  have hds0 := hds
  cases hds with
  | @lst _ us _ hu hall =>
  have lu := DpAll.len hall
  have ln : (ds.map nmOf).length = ds.length := List.length_map _
  have nd0 := nd
  have hw0 := hw
  generalize hns : ds.map nmOf = ns at nd hw hc0 q ln
  have l3 : ns.length ≤ 3 := by omega
  walk_at "go"
  refine g_gtup ht rfl ?_
  walk_at "go"
  intro d0 m0
  have s1 := same_new (o := .dK []) m0
  have hd1 : (upd H d0 (.dK [])) d0 = some (.dK (dk (row0 (ns.take 0)))) := upd_same
  have e1 : er d0 (upd H d0 (.dK [])) = H := er_upd.trans (er_new m0)
  generalize upd H d0 (.dK []) = H1 at s1 hd1 e1 ⊢
  walk_at "go"
  refine ⟨⟨_, s1.seq hu⟩, for_it (walk_list (xs := us)) (fun i σ H4 => ∃ y4 y5 y6, σ = [some (.ref t), some (.int la), some (.ref p), some (.ref d0), y4, y5, y6, none, none, none, none, none, none, none] ∧ Same H (er d0 H4) ∧ H4 d0 = some (.dK (dk (row0 (ns.take i)))))
    ⟨_, _, _, rfl, by rw [e1]; exact .refl _, hd1⟩ (fun i σ H4 _ hW => ?_) (fun i x σ H4 H5 hi4 hW hy => ?_) (fun σ H4 hW => ?_)⟩
  · obtain ⟨_, _, _, _, e, _⟩ := hW
    exact (e.trans er_sub).seq hu
  · obtain ⟨y4, y5, y6, rfl, e4, hd4⟩ := hW
    obtain ⟨rfl, hx⟩ := hy
    have hid : i < ds.length := by omega
    have hdi : ds[i]? = some ds[i] := List.getElem?_eq_getElem hid
    obtain ⟨x', hx', du⟩ := DpAll.at hall hdi
    cases Option.some.inj (hx'.symm.trans hx)
    obtain ⟨nx, nb, es, ed, eo, _⟩ := okName_parts (List.all_eq_true.mp okd _ (List.getElem_mem hid))
    have hni : ns[i]? = some ⟨nx, nb, es.map stOf⟩ := by rw [← hns, List.getElem?_map, hdi, ed]; rfl
    rw [ed] at du
    have du := Dp.dm (.of (e4.trans er_sub)) du
    cases du with
    | @tup b us' es' hb he =>
    cases he with
    | @cons z1 _ _ _ g1 he =>
    cases he with
    | @cons z2 _ _ _ g2 he =>
    cases he with
    | @cons z3 _ _ _ g3 he =>
    cases he
    cases g1
    cases g2
    refine g_gtup hb rfl ?_
    walk_at "go"
    refine g_put hd4 ?_ (row0_take nd hni) ?_
    · rw [dk_len]
      unfold row0
      rw [List.length_map, List.length_take]
      exact small1000 (by omega)
    walk_at "go"
    exact ⟨_, _, _, rfl, by rw [er_upd]; exact e4, upd_same⟩
  · obtain ⟨y4, y5, y6, rfl, e4, hd4⟩ := hW
    rw [List.take_of_length_le (by omega), row0_zip] at hd4
    replace e4 := e4.trans er_sub
    walk_at "go"
    refine ⟨by show 1 ≤ sizeLine; decide, fun l nl => ?_⟩
    have s2 := same_new (o := .lst [.ref d0]) nl
    have hl2 : (upd H4 l (.lst [.ref d0])) l = some (.lst [.ref d0]) := upd_same
    have e2 := e4.trans s2
    replace hd4 := s2 _ _ hd4
    generalize upd H4 l (.lst [.ref d0]) = H2 at hl2 e2 hd4 ⊢
    walk_at "go"
    refine ⟨by show 2 ≤ sizeLine; decide, fun p0 np => ?_⟩
    have s3 := same_new (o := .tup [.ref l, .int 1]) np
    have hp3 : SqT K (upd H2 p0 (.tup [.ref l, .int 1])) p0 [.ref l, .int 1] := sqt upd_same
    have e3 := e2.trans s3
    replace hd4 := s3 _ _ hd4
    replace hl2 := s3 _ _ hl2
    generalize upd H2 p0 (.tup [.ref l, .int 1]) = H3 at hl2 hp3 e3 hd4 ⊢
    walk_at "go"
    refine ⟨by show 1 ≤ sizeLine; decide, fun W nW => ?_⟩
    have s4 := same_new (o := .lst [.ref p0]) nW
    have hW4 : (upd H3 W (.lst [.ref p0])) W = some (.lst [.ref p0]) := upd_same
    have e5 := e3.trans s4
    replace hd4 := s4 _ _ hd4
    replace hl2 := s4 _ _ hl2
    replace hp3 := SqT.same s4 hp3
    have nW0 := fresh_same e3 nW
    generalize upd H3 W (.lst [.ref p0]) = H5 at hl2 hp3 hW4 e5 hd4 ⊢
    walk_at "go"
    refine ⟨by omega, by omega, for_range (lo := 0) (n := la.toNat) (fun i σ H5 => ∃ y4 y5 y6 W y8 y9 y10 y11 y12 y13 ts, σ = [some (.ref t), some (.int la), some (.ref p), some (.ref d0), y4, y5, y6, some (.ref W), y8, y9, y10, y11, y12, y13] ∧ Same H H5 ∧ H W = none ∧ H5 W = some (.lst (ts.map fun t => V.ref t.1)) ∧ All2 (FR K H5) ((fu ns i).map (rowsW ns)) ts)
      ⟨_, _, _, W, _, _, _, _, _, _, [(p0, l, [d0])], rfl, e5, nW0, hW4, All2.one ⟨hp3, hl2, All2.one hd4⟩⟩ (fun i σ H5 hi hV => ?_) (fun σ H5 hV => ?_)⟩
    · obtain ⟨y4, y5, y6, W, y8, y9, y10, y11, y12, y13, ts, rfl, e5, nW, hW5, hts⟩ := hV
      have fok := fu_ok hw l3 i
      have fok1 := fu_ok hw l3 (i + 1)
      have lts := hts.len
      rw [List.length_map] at lts
      have step : (fu ns (i + 1)).map (rowsW ns) = (fu ns i).flatMap fun a => (mv (ns.zip (lastL a.1))).map fun b => rowsW ns (a.1 ++ [b.1], a.2 * b.2) := by
        show (fuS ns (fu ns i)).map _ = _
        unfold fuS
        rw [List.map_flatMap]
        refine congrArg (fun f => List.flatMap f _) (funext fun a => ?_)
        rw [List.map_map]
        rfl
      walk_at "go"
      refine ⟨by show 0 ≤ sizeLine; decide, fun L nL => ?_⟩
      have hL5 : (upd H5 L (.lst [])) L = some (.lst []) := upd_same
      have eL5 : er L (upd H5 L (.lst [])) = H5 := er_upd.trans (er_new nL)
      generalize upd H5 L (.lst []) = H6 at hL5 eL5 ⊢
      have nLH := fresh_same e5 nL
      have s56 : Same H5 H6 := by rw [← eL5]; exact er_sub
      walk_at "go"
      refine ⟨⟨_, s56.seq (sql hW5)⟩, for_it (walk_list (xs := ts.map fun t => V.ref t.1)) (fun c σ Hc => ∃ y8 y10 y11 y12 y13 us, σ = [some (.ref t), some (.int la), some (.ref p), some (.ref d0), y4, y5, y6, some (.ref W), y8, some (.ref L), y10, y11, y12, y13] ∧ Hc L = some (.lst (us.map fun t => V.ref t.1)) ∧ Same H5 (er L Hc) ∧
          All2 (FR K (er L Hc)) (((fu ns i).take c).flatMap fun a => (mv (ns.zip (lastL a.1))).map fun b => rowsW ns (a.1 ++ [b.1], a.2 * b.2)) us)
        ⟨_, _, _, _, _, [], rfl, hL5, by rw [eL5]; exact .refl _, trivial⟩ (fun c σ Hc _ hC => ?_) (fun c x σ Hc Hc' hc hC hy => ?_) (fun σ Hc hC => ?_)⟩
      · obtain ⟨_, _, _, _, _, _, _, _, e, _⟩ := hC
        exact (e.trans er_sub).seq (sql hW5)
      · obtain ⟨y8, y10, y11, y12, y13, us, rfl, hL, eC, hus⟩ := hC
        obtain ⟨rfl, hx⟩ := hy
        rw [List.length_map] at hc
        have hci : (fu ns i)[c]? = some ((fu ns i)[c]'(by omega)) := List.getElem?_eq_getElem (by omega)
        obtain ⟨⟨pp, ll, rs⟩, hx', hpp, hll, hrs⟩ := hts.at (i := c) (by rw [List.getElem?_map, hci]; rfl)
        have hx2 : (ts.map fun t => V.ref t.1)[c]? = some (.ref pp) := by rw [List.getElem?_map, hx']; rfl
        cases Option.some.inj (hx2.symm.trans hx)
        have wc := fok.2 _ (List.getElem_mem (show c < (fu ns i).length by omega))
        have fmt := fm_take (f := fun a : List (List Int) × Int => (mv (ns.zip (lastL a.1))).map fun b => rowsW ns (a.1 ++ [b.1], a.2 * b.2)) hci
        have fmp := fun d => fm_pre (f := fun a : List (List Int) × Int => (mv (ns.zip (lastL a.1))).map fun b => rowsW ns (a.1 ++ [b.1], a.2 * b.2)) (d := d) hci
        generalize (fu ns i)[c]'(by omega) = wcur at hpp hll hrs wc fmt fmp
        have hpp : SqT K H5 pp [.ref ll, .int wcur.2] := hpp
        have hll : H5 ll = some (.lst (rs.map V.ref)) := hll
        have hrs : All2 (fun R r => H5 r = some (.dK (dk R))) (wcur.1.map fun is => (ns.map (·.x)).zip is) rs := hrs
        have eC5 := eC.trans er_sub
        obtain ⟨⟨u, xl, ew⟩, wl, wlen⟩ := wc
        have hlast : lastL wcur.1 = xl := by rw [ew, lastL_snoc]
        have lenx : xl.length = ns.length := wlen xl (by rw [ew]; simp)
        have lrs := hrs.len
        rw [List.length_map] at lrs
        have hrs0 := hrs
        rw [ew, List.map_append] at hrs
        have okm := mv_ok hw lenx l3
        obtain ⟨rs1, r1, ers, hrs1, hr1⟩ := hrs.snoc_inv
        rw [hlast] at fmp fmt
        refine g_gtup (SqT.same eC5 hpp) rfl ?_
        walk_at "go"
        refine ⟨_, _, _, _, rfl, rfl, sql (eC5 _ _ hll), by rw [ers, List.map_append]; exact atI_last _ _, ?_⟩
        walk_at "go"
        have hdC := Dp.dm (.of (e5.trans eC5)) hds0
        refine ⟨p, r1, ds, xl, rfl, hdC, okd, ld, nd0, hw0, by omega, by rw [hns]; exact eC5 _ _ hr1, fun M ms Hm eM nM hM hms => ?_⟩
        rw [hns] at hms
        have hDm := eM _ _ hL
        have hDc := hL
        have lms := hms.len
        rw [List.length_map] at lms
        have eCm := eC.trans (er_same eM)
        walk_at "go"
        refine ⟨⟨_, sql hM⟩, for_it (walk_list (xs := ms)) (fun d σ Hd => ∃ y12 y13 us, σ = [some (.ref t), some (.int la), some (.ref p), some (.ref d0), y4, y5, y6, some (.ref W), y8, some (.ref L), some (.ref ll), some (.int wcur.2), y12, y13] ∧ Hd L = some (.lst (us.map fun t => V.ref t.1)) ∧ Same H5 (er L Hd) ∧ Same (er L Hm) (er L Hd) ∧
            All2 (FR K (er L Hd)) ((((fu ns i).take c).flatMap fun a => (mv (ns.zip (lastL a.1))).map fun b => rowsW ns (a.1 ++ [b.1], a.2 * b.2)) ++ (((mv (ns.zip xl)).map fun b => rowsW ns (wcur.1 ++ [b.1], wcur.2 * b.2)).take d)) us)
          ⟨_, _, us, rfl, hDm, eCm, .refl _, by simpa using hus.mono (FR.same (er_same eM))⟩ (fun d σ Hd _ hV => ?_) (fun d x σ Hd Hd' hd hV hy => ?_) (fun σ Hd hV => ?_)⟩
        · obtain ⟨_, _, _, _, _, _, e, _⟩ := hV
          have nML : M ≠ L := fun z => by rw [z, hDc] at nM; cases nM
          exact sql (er_sub _ _ (e _ _ (by rw [er_ne nML]; exact hM)))
        · obtain ⟨y12, y13, us, rfl, hL, eD, eMD, hus⟩ := hV
          obtain ⟨rfl, hx⟩ := hy
          have hdi : (mv (ns.zip xl))[d]? = some ((mv (ns.zip xl))[d]'(by omega)) := List.getElem?_eq_getElem (by omega)
          obtain ⟨x', hx', pd, bd, rfl, hpd, hbd, nbd⟩ := hms.at (i := d) (by rw [List.getElem?_map, hdi]; rfl)
          cases Option.some.inj (hx'.symm.trans hx)
          have wd := okm.2 _ (List.getElem_mem (show d < (mv (ns.zip xl)).length by omega))
          have tk : ((mv (ns.zip xl)).map fun b => rowsW ns (wcur.1 ++ [b.1], wcur.2 * b.2)).take (d + 1) = ((mv (ns.zip xl)).map fun b => rowsW ns (wcur.1 ++ [b.1], wcur.2 * b.2)).take d ++ [rowsW ns (wcur.1 ++ [((mv (ns.zip xl))[d]'(by omega)).1], wcur.2 * ((mv (ns.zip xl))[d]'(by omega)).2)] := by
            rw [List.take_succ, List.getElem?_map, hdi]
            rfl
          generalize (mv (ns.zip xl))[d]'(by omega) = md at hpd hbd wd tk
          have hpd : SqT K Hm pd [.ref bd, .int md.2] := hpd
          have hbd : Hm bd = some (.dK (dk ((ns.map (·.x)).zip md.1))) := hbd
          have eDD := eD.trans er_sub
          have nbD : bd ≠ L := fun z => by rw [z, hDc] at nbd; cases nbd
          have hbd' : (er L Hd') bd = some (.dK (dk ((ns.map (·.x)).zip md.1))) := eMD _ _ (by rw [er_ne nbD]; exact hbd)
          refine g_gtup (SqT.same (eMD.trans er_sub) (SqT.er hDm hpd)) rfl ?_
          walk_at "go"
          have nc : ∀ {c : Addr} {Hx : Hp}, Hx L = some (.lst (us.map fun t => V.ref t.1)) → Hx c = none → c ≠ L := fun h1 h2 z => by rw [z, h1] at h2; cases h2
          refine ⟨.inl ⟨rfl, _, sql hL⟩, ?_⟩
          walk_at "go"
          refine ⟨by show 1 ≤ sizeLine; decide, fun c1 m1 => ?_⟩
          have s6 := same_new (o := .lst [V.ref bd]) m1
          have hc1 : (upd Hd' c1 (.lst [V.ref bd])) c1 = some (.lst [V.ref bd]) := upd_same
          have hD6 := s6 _ _ hL
          replace hus := hus.mono (FR.same (er_same s6))
          replace eD := eD.trans (er_same s6)
          replace eMD := eMD.trans (er_same s6)
          replace eDD := eDD.trans s6
          replace hbd' := er_same s6 _ _ hbd'
          clear m1
          generalize upd Hd' c1 (.lst [V.ref bd]) = H6 at s6 hc1 hD6 hus eD eDD eMD hbd' ⊢
          refine ⟨ll, c1, _, _, rfl, rfl, eDD _ _ hll, hc1, Nat.le_trans (show _ ≤ 1000 by rw [List.length_map, ← lrs, wl]; simp; omega) (by decide), fun c2 m2 => ?_⟩
          have n2 := nc hD6 m2
          have ev : rs.map V.ref ++ [V.ref bd] = (rs ++ [bd]).map V.ref := by rw [List.map_append]; rfl
          rw [ev]
          have s7 := same_new (o := .lst ((rs ++ [bd]).map V.ref)) m2
          have hc2 : (er L (upd H6 c2 (.lst ((rs ++ [bd]).map V.ref)))) c2 = some (.lst ((rs ++ [bd]).map V.ref)) := by rw [er_ne n2, upd_same]
          have hD7 := s7 _ _ hD6
          replace hus := hus.mono (FR.same (er_same s7))
          replace eD := eD.trans (er_same s7)
          replace eMD := eMD.trans (er_same s7)
          replace hbd' := er_same s7 _ _ hbd'
          generalize upd H6 c2 (.lst ((rs ++ [bd]).map V.ref)) = H7 at s7 hc2 hD7 hus eD eMD hbd' ⊢
          walk_at "go"
          refine g_I (.inr ⟨by omega, by omega⟩) ?_
          walk_at "go"
          refine ⟨by show 2 ≤ sizeLine; decide, fun c3 m3 => ?_⟩
          have n3 := nc hD7 m3
          have s8 := same_new (o := .tup [V.ref c2, V.int (wcur.2 * md.2)]) m3
          have hc3 : SqT K (er L (upd H7 c3 (.tup [V.ref c2, V.int (wcur.2 * md.2)]))) c3 [V.ref c2, V.int (wcur.2 * md.2)] := sqt (by rw [er_ne n3, upd_same])
          have hD8 := s8 _ _ hD7
          replace hc2 := er_same s8 _ _ hc2
          replace hus := hus.mono (FR.same (er_same s8))
          replace eD := eD.trans (er_same s8)
          replace eMD := eMD.trans (er_same s8)
          replace hbd' := er_same s8 _ _ hbd'
          generalize upd H7 c3 (.tup [V.ref c2, V.int (wcur.2 * md.2)]) = H8 at hc3 hc2 hD8 hus eD eMD hbd' ⊢
          have lw := hus.len
          have lw2 : us.length ≤ 2000 := by
            rw [← lw]
            refine Nat.le_trans (fmp d) ?_
            rw [← step, List.length_map, fok1.1]
            exact cnt_le hw hc0 (by omega)
          walk_at "go"
          refine ⟨L, _, _, rfl, rfl, hD8, by rw [List.length_map]; exact Nat.lt_of_lt_of_le (show us.length < 4000 by omega) (by decide), ?_⟩
          refine ⟨_, _, us ++ [(c3, c2, rs ++ [bd])], rfl, by rw [upd_same, List.map_append]; rfl, by rw [er_upd]; exact eD, by rw [er_upd]; exact eMD, ?_⟩
          rw [er_upd, tk, ← List.append_assoc]
          refine All2.snoc hus ⟨hc3, hc2, ?_⟩
          show All2 _ ((wcur.1 ++ [md.1]).map fun is => (ns.map (·.x)).zip is) (rs ++ [bd])
          rw [List.map_append]
          exact All2.snoc (hrs0.mono fun _ _ h => eD _ _ h) hbd'
        · obtain ⟨y12, y13, us, rfl, hL, eD, _, hus⟩ := hV
          rw [show ((mv (ns.zip xl)).map fun b => rowsW ns (wcur.1 ++ [b.1], wcur.2 * b.2)).take ms.length = (mv (ns.zip xl)).map fun b => rowsW ns (wcur.1 ++ [b.1], wcur.2 * b.2) from List.take_of_length_le (by rw [List.length_map]; omega), ← fmt] at hus
          exact ⟨_, _, _, _, _, us, rfl, hL, eD, hus⟩
      · obtain ⟨y8, y10, y11, y12, y13, us, rfl, hL, eC, hus⟩ := hC
        rw [show (fu ns i).take (ts.map fun t => V.ref t.1).length = fu ns i from List.take_of_length_le (by rw [List.length_map]; omega), ← step] at hus
        walk_at "go"
        exact ⟨_, _, _, L, _, _, _, _, _, _, us, rfl, e5.trans (eC.trans er_sub), nLH, hL, hus.mono (FR.same er_sub)⟩
    · obtain ⟨y4, y5, y6, W, y8, y9, y10, y11, y12, y13, ts, rfl, e5, nW, hW5, hts⟩ := hV
      walk_at "go"
      exact q W ts H5 e5 nW hW5 hts
end

/-! ### the rows of a future lie within the rows of spans -/
def MvD : List (Nm × Int) → List Int → Prop := All2 fun p i => ∃ s ∈ p.1.st, i = p.2 + s.1
theorem mv_from_in : ∀ (ps : List (Nm × Int)) (ws : List (List Int × Int)) (pre : List (Nm × Int)), (∀ w ∈ ws, MvD pre w.1) → ∀ w ∈ ps.foldl mvS ws, MvD (pre ++ ps) w.1
  | [], ws, pre, h, w, hw => by
    rw [List.append_nil]
    exact h w hw
  | p :: ps, ws, pre, h, w, hw => by
    rw [List.foldl_cons] at hw
    have z := mv_from_in ps (mvS ws p) (pre ++ [p]) (fun v hv => by
      unfold mvS at hv
      obtain ⟨a, ha, hv⟩ := List.mem_flatMap.mp hv
      obtain ⟨s, hs, rfl⟩ := List.mem_map.mp hv
      exact All2.snoc (h a ha) ⟨s, hs, rfl⟩) w hw
    rw [List.append_assoc] at z
    exact z
theorem mv_in {ns : List Nm} {is : List Int} : ∀ w ∈ mv (ns.zip is), MvD (ns.zip is) w.1 := fun w hw => mv_from_in (ns.zip is) [([], 1)] [] (fun w hw => by rw [List.mem_singleton.mp hw]; exact trivial) w hw
/-- a row of a future at an hour -/
def InRow (ns : List Nm) (h : Nat) (is : List Int) : Prop := is.length = ns.length ∧ ∀ (q : Nat) (n : Nm) (i : Int), ns[q]? = some n → is[q]? = some i → InS (nmSp h n) i
theorem InRow.next {ns : List Nm} {h : Nat} {is js : List Int} (hr : InRow ns h is) (d : MvD (ns.zip is) js) : InRow ns (h + 1) js := by
  have dl := d.len
  rw [List.length_zip, hr.1, Nat.min_self] at dl
  refine ⟨dl.symm, fun q n j hn hj => ?_⟩
  have hq : q < ns.length := (List.getElem?_eq_some_iff.mp hn).1
  have hi : is[q]? = some (is[q]'(by rw [hr.1]; exact hq)) := List.getElem?_eq_getElem _
  have hz : (ns.zip is)[q]? = some (n, is[q]'(by rw [hr.1]; exact hq)) := by
    rw [List.getElem?_zip_eq_some]
    exact ⟨hn, hi⟩
  obtain ⟨j', hj', s, hs, e⟩ := d.at hz
  cases Option.some.inj (hj'.symm.trans hj)
  have b := hr.2 q n _ hn hi
  have mem : s.1 ∈ n.st.map (·.1) := List.mem_map.mpr ⟨s, hs, rfl⟩
  have ne : n.st.map (·.1) ≠ [] := fun z => by rw [z] at mem; cases mem
  have l1 := (mn_is ne).2 _ mem
  have l2 := (mx_is ne).2 _ mem
  unfold InS nmSp at b ⊢
  dsimp only at b e ⊢
  rw [e]
  push_cast
  rw [Int.add_mul, Int.add_mul, Int.one_mul, Int.one_mul]
  omega
theorem fu_in {ns : List Nm} (h : wOk ns) (h3 : ns.length ≤ 3) : ∀ k, ∀ w ∈ fu ns k, w.1.length = k + 1 ∧ ∀ (j : Nat) (is : List Int), w.1[j]? = some is → InRow ns j is
  | 0, w, hw => by
    rw [show fu ns 0 = [([ns.map (·.b)], 1)] from rfl, List.mem_singleton] at hw
    subst hw
    refine ⟨rfl, fun j is hj => ?_⟩
    cases j with
    | zero =>
      cases Option.some.inj (show some (ns.map (·.b)) = some is from hj)
      refine ⟨List.length_map _, fun q n i hn hi => ?_⟩
      rw [List.getElem?_map, hn] at hi
      cases Option.some.inj (show some n.b = some i from hi)
      unfold InS nmSp
      simp
    | succ j => simp at hj
  | k + 1, w, hw => by
    have hw : w ∈ fuS ns (fu ns k) := hw
    unfold fuS at hw
    obtain ⟨a, ha, hw⟩ := List.mem_flatMap.mp hw
    obtain ⟨b, hb, rfl⟩ := List.mem_map.mp hw
    obtain ⟨al, ar⟩ := fu_in h h3 k a ha
    have hl : a.1[k]? = some (lastL a.1) := by
      unfold lastL
      rw [List.getLast?_eq_getElem?, al]
      show a.1[k]? = some ((a.1[k]?).getD [])
      rw [List.getElem?_eq_getElem (by omega)]
      rfl
    refine ⟨by rw [List.length_append, al]; rfl, fun j is hj => ?_⟩
    by_cases c : j < k + 1
    · rw [List.getElem?_append_left (by omega)] at hj
      exact ar j is hj
    · rw [List.getElem?_append_right (by omega), al] at hj
      have jk : j - (k + 1) = 0 := by
        rcases Nat.eq_zero_or_pos (j - (k + 1)) with z | z
        · exact z
        · rw [List.getElem?_eq_none (by show 1 ≤ _; omega)] at hj
          cases hj
      rw [jk] at hj
      cases Option.some.inj (show some b.1 = some is from hj)
      rw [show j = k + 1 by omega]
      exact (ar k _ hl).next (mv_in b hb)

/-! ### what is read of a future -/
def futF (ns : List Nm) (w : List (List Int)) (j : Nat) (x : Str) : Int := match w[j]? with
  | some is => val ((ns.map (·.x)).zip is) x
  | none => 0
theorem look_none : ∀ {xs : List Str} {is : List Int} {x : Str}, x ∉ xs → (xs.zip is).lookup x = none
  | [], is, x, _ => by cases is <;> rfl
  | y :: xs, [], x, _ => rfl
  | y :: xs, i :: is, x, h => by
    rw [List.zip_cons_cons, List.lookup_cons]
    have c : (x == y) = false := by
      rw [beq_eq_false_iff_ne]
      exact fun z => h (by rw [z]; exact List.mem_cons_self)
    rw [c]
    exact look_none fun z => h (List.mem_cons_of_mem _ z)
theorem look_in {ns : List Nm} {is : List Int} (nd : (ns.map (·.x)).Nodup) (hl : is.length = ns.length) {x : Str} (h : x ∈ ns.map (·.x)) : ∃ (q : Nat) (n : Nm) (i : Int), ns[q]? = some n ∧ n.x = x ∧ is[q]? = some i ∧ ((ns.map (·.x)).zip is).lookup x = some i := by
  obtain ⟨n, hn, rfl⟩ := List.mem_map.mp h
  obtain ⟨q, hq, e⟩ := List.getElem_of_mem hn
  have h1 : ns[q]? = some n := by rw [List.getElem?_eq_getElem hq, e]
  have h2 : is[q]? = some (is[q]'(by omega)) := List.getElem?_eq_getElem _
  exact ⟨q, n, _, h1, rfl, h2, zip_look nd (i := q) (by rw [List.getElem?_map, h1]; rfl) h2⟩
theorem futF_in {ns : List Nm} {w : List (List Int)} {n : Nat} (nd : (ns.map (·.x)).Nodup) (ar : ∀ (j : Nat) (is : List Int), w[j]? = some is → InRow ns j is) (hl : w.length = n) : ∀ j, j < n → ∀ x, InS (rowS ns j x) (futF ns w j x) := fun j hj x => by
  have hw : w[j]? = some (w[j]'(by omega)) := List.getElem?_eq_getElem _
  have hr := ar j _ hw
  unfold futF
  rw [hw]
  show InS _ (val ((ns.map (·.x)).zip (w[j]'(by omega))) x)
  generalize w[j]'(by omega) = is at hr
  by_cases c : x ∈ ns.map (·.x)
  · obtain ⟨q, m, i, h1, rfl, h3, h4⟩ := look_in nd hr.1 c
    unfold val
    rw [h4, rowS_at nd (List.mem_of_getElem? h1)]
    exact hr.2 q m i h1 h3
  · unfold val
    rw [look_none c]
    unfold rowS
    rw [List.find?_eq_none.mpr fun m hm => by
      rw [decide_eq_true_eq]
      exact fun z => c (List.mem_map.mpr ⟨m, hm, z⟩)]
    exact ⟨Int.le_refl _, Int.le_refl _⟩
theorem futF_rd {ns : List Nm} {w : List (List Int)} {j : Nat} {is : List Int} {H : Hp} {r : Addr} (nd : (ns.map (·.x)).Nodup) (hw : w[j]? = some is) (hl : is.length = ns.length) (h : H r = some (.dK (dk ((ns.map (·.x)).zip is)))) : RdF H (ns.map (·.x)) (futF ns w j) r := by
  refine ⟨_, h, fun x hx => ?_⟩
  obtain ⟨q, m, i, h1, e, h3, h4⟩ := look_in nd hl hx
  rw [dk_val, h4]
  unfold futF
  rw [hw]
  show some (V.int i) = some (V.int (val ((ns.map (·.x)).zip is) x))
  unfold val
  rw [h4]
  rfl
theorem InS_bits {R : Str → S2} {x : Str} {i : Int} (h : RowB R) (hi : InS (R x) i) : i.natAbs < 2 ^ 44 := by
  obtain ⟨h1, h2⟩ := h x
  unfold InS at hi
  omega
theorem Con.sd_in {xs : List Str} : ∀ {t : Con}, t.In xs → t.Sd
  | .none, _ => trivial
  | .give a b g o, h => h.1.2
  | .both c d, h => ⟨Con.sd_in h.1, Con.sd_in h.2⟩
  | .turned a b c, h => Con.sd_in (t := c) h.2
  | .later n c, h => Con.sd_in (t := c) h.2
  | .often n g c, h => Con.sd_in (t := c) h.2.2
  | .ite q c d, h => ⟨Con.sd_in h.2.1, Con.sd_in h.2.2⟩
  | .whn q c, h => Con.sd_in (t := c) h.2
  | .untl q c, h => Con.sd_in (t := c) h.2

/-! ### a case of the law -/
theorem names_x {ds : List PyData} (h : ds.all okName = true) : (ds.map nmOf).map (·.x) = ds.map wordOf := by
  rw [List.map_map]
  refine List.map_congr_left fun d hd => ?_
  obtain ⟨x, b, es, rfl, _⟩ := okName_parts (List.all_eq_true.mp h d hd)
  rfl
theorem names_stok {ds : List PyData} (h : ds.all okName = true) : stOkN (ds.map nmOf) := fun n hn => by
  obtain ⟨d, hd, rfl⟩ := List.mem_map.mp hn
  obtain ⟨x, b, es, rfl, _, _⟩ := okName_parts (List.all_eq_true.mp h d hd)
  have ok := List.all_eq_true.mp h _ hd
  have ok : (isW' (.str x) && ((decide (-999999999999 ≤ b) && decide (b ≤ 999999999999)) && okSteps (.list es))) = true := ok
  simp only [Bool.and_eq_true, decide_eq_true_eq] at ok
  obtain ⟨_, ⟨b0, b1⟩, os⟩ := ok
  dsimp only [okSteps] at os
  simp only [Bool.and_eq_true, decide_eq_true_eq] at os
  show -1000000000000 < b ∧ b < 1000000000000 ∧ (es.map stOf).length ≤ 4 ∧ 1 ≤ (es.map stOf).length ∧ ∀ s ∈ es.map stOf, -1000000000000 ≤ s.1 ∧ s.1 ≤ 1000000000000
  rw [List.length_map]
  refine ⟨by omega, by omega, os.2.1, os.1, fun s hs => ?_⟩
  obtain ⟨d, hd, rfl⟩ := List.mem_map.mp hs
  have ok := List.all_eq_true.mp os.2.2.1 d hd
  obtain ⟨i, j, rfl⟩ := okStep_ij ok
  have ok : ((decide (-999999999999 ≤ i) && decide (i ≤ 999999999999)) && (decide (1 ≤ j) && decide (j ≤ 999))) = true := ok
  simp only [Bool.and_eq_true, decide_eq_true_eq] at ok
  show -1000000000000 ≤ i ∧ i ≤ 1000000000000
  omega
def spCase (K : PySem.W.Frag) : Sp := fun vs H Q _ => ∃ (c : Cfg) (ns : List Int) (xs : List Str) (s na nm : Addr), vs = [.ref s] ∧ LS K c ns xs s na nm H ∧
  ∀ (T mt p nm' : Addr) (v : V) (t : Con) (x g : Str) (la : Int) (ds : List PyData) (H' : Hp) (ys : List Str), KB s H H' → LS K c ns ys s na nm' H' → SqT K H' T [v, .ref mt, .str x, .str g] → DK K H' t v → t.In (ds.map wordOf) → t.deep ≤ 5 → SqT K H' mt [.int la, .ref p] → 0 ≤ la → la < 9 → la < [9, 5, 3, 2].getD ds.length 0 → ds.length ≤ 3 → Dp K H' (.ref p) (.list ds) → ds.all okName = true → okNames (.list ds) = true → Q (.ref T) H'
theorem use_case {K : PySem.W.Frag} {c : Cfg} {ns : List Int} {xs : List Str} {s na nm : Addr} {H : Hp} {Q : VK} {E : XK} (L : LS K c ns xs s na nm H)
    (q : ∀ (T mt p nm' : Addr) (v : V) (t : Con) (x g : Str) (la : Int) (ds : List PyData) (H' : Hp) (ys : List Str), KB s H H' → LS K c ns ys s na nm' H' → SqT K H' T [v, .ref mt, .str x, .str g] → DK K H' t v → t.In (ds.map wordOf) → t.deep ≤ 5 → SqT K H' mt [.int la, .ref p] → 0 ≤ la → la < 9 → la < [9, 5, 3, 2].getD ds.length 0 → ds.length ≤ 3 → Dp K H' (.ref p) (.list ds) → ds.all okName = true → okNames (.list ds) = true → Q (.ref T) H') :
    spCase K ([.ref s] ++ []) H Q E := ⟨c, ns, xs, s, na, nm, rfl, L, q⟩
section
variable {P : Program} {w : World} {K : PySem.W.Frag} {mg : Str → Option Value} {base : Heap}
abbrev s__law_case : Stmt := topS 66
theorem sc__law_case : FnScope ["_law_s", "_law_many", "_law_contract_here", "_law_market_here"] ["_law_s"] (defScope s__law_case) := ⟨rfl, rfl, rfl, by decide +kernel, rfl, by decide +kernel, by decide +kernel⟩
theorem h__law_case {k : Nat} {f : Addr} {fd : FuncData} (O : Own K mg "_law_case" s__law_case ["_law_s"] f fd)  {f__law_good : Addr} {fd__law_good : FuncData} (D__law_good : Has P w K mg base "_law_good" ["_law_s"] k CX0 (spGood K) f__law_good fd__law_good) {f__law_word : Addr} {fd__law_word : FuncData} (D__law_word : Has P w K mg base "_law_word" ["_law_s", "_law_k"] k CX0 (spWord K) f__law_word fd__law_word) {f__law_taken : Addr} {fd__law_taken : FuncData} (D__law_taken : Has P w K mg base "_law_taken" ["_law_s", "_law_most"] k CX0 (spTaken K) f__law_taken fd__law_taken) {f__law_market : Addr} {fd__law_market : FuncData} (D__law_market : Has P w K mg base "_law_market" ["_law_s", "_law_many"] k CX0 (spMarket K) f__law_market fd__law_market) {f__law_drawn : Addr} {fd__law_drawn : FuncData} (D__law_drawn : Has P w K mg base "_law_drawn" ["_law_s", "_law_many"] k CX0 (spDrawn K) f__law_drawn fd__law_drawn) : Has P w K mg base "_law_case" ["_law_s"] (k + 1) CX0 (spCase K) f fd := by
  refine O.has (O.F.ok sc__law_case (fun vs H Q E h => ?_) (fun cdv A outer s H vs Q E hr h => ?_))
  · obtain ⟨c, ns, xs, s, na, nm, rfl, _⟩ := h
    rfl
  obtain ⟨c, ns, xs, s, na, nm, rfl, L, q⟩ := h
  refine ⟨_, (pss_cons (ps_set (i := 1) sc__law_case.nd rfl (.inl rfl) (pe_call D__law_taken.G hr (by rfl) D__law_taken.g D__law_taken.k D__law_taken.b .nil pass0 (pa_cons (pv 0) (pa_cons pe_int pa_nil)))) (pss_cons (ps_set (i := 2) sc__law_case.nd rfl (.inl rfl) (pe_call D__law_drawn.G hr (by rfl) D__law_drawn.g D__law_drawn.k D__law_drawn.b .nil pass0 (pa_cons (pv 0) (pa_cons (pv 1) pa_nil)))) (pss_cons (ps_set (i := 3) sc__law_case.nd rfl (.inl rfl) (pe_call D__law_market.G hr (by rfl) D__law_market.g D__law_market.k D__law_market.b .nil pass0 (pa_cons (pv 0) (pa_cons (pv 1) pa_nil)))) (pss_one (ps_ret (pe_tup (pa_cons (pv 2) (pa_cons (pv 3) (pa_cons (pe_call D__law_word.G hr (by rfl) D__law_word.g D__law_word.k D__law_word.b .nil pass0 (pa_cons (pv 0) (pa_cons (pe_call D__law_taken.G hr (by rfl) D__law_taken.g D__law_taken.k D__law_taken.b .nil pass0 (pa_cons (pv 0) (pa_cons pe_int pa_nil))) pa_nil))) (pa_cons (pe_call D__law_good.G hr (by rfl) D__law_good.g D__law_good.k D__law_good.b .nil pass0 (pa_cons (pv 0) pa_nil)) pa_nil)))))))))), ?_⟩
  walk_at "go"
  refine use_taken L (by decide) (by decide) fun m H1 m0 m1 e1 L1 => ?_
  obtain ⟨m, rfl⟩ : ∃ k : Nat, m = k := ⟨m.toNat, by omega⟩
  walk_at "go"
  refine use_drawn L1 (m := m) rfl (by omega) fun v t nm' H2 e2 L2 d2 i2 p2 => ?_
  walk_at "go"
  refine use_market L2 m0 m1 fun mt p la ds H3 e3 L3 st3 la0 la9 dd3 okd okn => ?_
  obtain ⟨la9, lim, lds, ldx⟩ := la9
  have d3 := DK.tm (L2.tm e3) d2
  rw [show ((m : Nat) : Int).toNat = m from rfl] at lds ldx
  rw [← ldx] at i2
  walk_at "go"
  refine use_taken L3 (by decide) (by decide) fun k H4 k0 k1 e4 L4 => ?_
  walk_at "go"
  refine use_word L4 (by omega) (by omega) fun H5 e5 => ?_
  have L5 := L4.same e5
  walk_at "go"
  refine use_good L5 fun i H6 i0 i1 e6 L6 => ?_
  walk_at "go"
  refine ⟨by show 4 ≤ sizeLine; decide, fun T nT => ?_⟩
  have s7 := same_new (o := .tup [v, V.ref mt, V.str (wd c k), V.str (wd c i)]) nT
  have dm := ((L3.dm e4).trans (.of e5)).trans ((L5.dm e6).trans (.of s7))
  have tm := dm.t
  exact q T mt p nm' v t _ _ la ds _ _ ((((e1.trans e2).trans e3).trans e4).trans ((KB.of e5).trans (e6.trans (.of s7)))) (L6.same s7) (sqt upd_same) (DK.tm tm d3) i2 p2 (tm _ _ st3) la0 la9 (by rw [lds]; exact lim) (by omega) (Dp.dm dm dd3) okd okn
end

/-! ### few futures -/
theorem steps_wok {es : List PyData} (h : okSteps (.list es) = true) : (es.map stOf).length ≤ 4 ∧ 1 ≤ (es.map stOf).length ∧ ∀ s ∈ es.map stOf, 0 ≤ s.2 ∧ s.2 ≤ 999 := by
  dsimp only [okSteps] at h
  simp only [Bool.and_eq_true, decide_eq_true_eq] at h
  rw [List.length_map]
  refine ⟨h.2.1, h.1, fun s hs => ?_⟩
  obtain ⟨d, hd, rfl⟩ := List.mem_map.mp hs
  have ok := List.all_eq_true.mp h.2.2.1 d hd
  obtain ⟨i, j, rfl⟩ := okStep_ij ok
  have ok : ((decide (-999999999999 ≤ i) && decide (i ≤ 999999999999)) && (decide (1 ≤ j) && decide (j ≤ 999))) = true := ok
  simp only [Bool.and_eq_true, decide_eq_true_eq] at ok
  exact ⟨by show 0 ≤ j; omega, ok.2.2⟩
theorem names_wok {ds : List PyData} (h : ds.all okName = true) : wOk (ds.map nmOf) := fun n hn => by
  obtain ⟨d, hd, rfl⟩ := List.mem_map.mp hn
  obtain ⟨x, b, es, rfl, _, _⟩ := okName_parts (List.all_eq_true.mp h d hd)
  have ok := List.all_eq_true.mp h _ hd
  have ok : (isW' (.str x) && (amt (.int b) && okSteps (.list es))) = true := ok
  rw [Bool.and_eq_true, Bool.and_eq_true] at ok
  exact steps_wok ok.2.2
theorem cnt_small {ns : List Nm} {la : Int} {m : Nat} (h : wOk ns) (l : ns.length = m) (hm : m ≤ 3) (l0 : 0 ≤ la) (l1 : la < [9, 5, 3, 2].getD m 0) : cntN la ns ≤ 2000 := by
  have p := (prod_pos h).2
  rw [l] at p
  unfold cntN
  have a : prodN ns ^ la.toNat ≤ (4 ^ m) ^ la.toNat := Nat.pow_le_pow_left p _
  have : m = 0 ∨ m = 1 ∨ m = 2 ∨ m = 3 := by omega
  rcases this with rfl | rfl | rfl | rfl
  · rw [show (4 : Nat) ^ 0 = 1 from rfl, Nat.one_pow] at a
    omega
  · have l1 : la < 5 := l1
    have b : (4 ^ 1) ^ la.toNat ≤ (4 ^ 1) ^ 4 := Nat.pow_le_pow_right (by decide) (by omega)
    have : (4 ^ 1) ^ 4 = 256 := by decide
    omega
  · have l1 : la < 3 := l1
    have b : (4 ^ 2) ^ la.toNat ≤ (4 ^ 2) ^ 2 := Nat.pow_le_pow_right (by decide) (by omega)
    have : (4 ^ 2) ^ 2 = 256 := by decide
    omega
  · have l1 : la < 2 := l1
    have b : (4 ^ 3) ^ la.toNat ≤ (4 ^ 3) ^ 1 := Nat.pow_le_pow_right (by decide) (by omega)
    have : (4 ^ 3) ^ 1 = 64 := by decide
    omega

theorem LS.tb {K : PySem.W.Frag} {PT : Addr} {c : Cfg} {ns : List Int} {xs : List Str} {s na nm : Addr} {H H' : Hp} (L : LS K c ns xs s na nm H) (g : GxR.TabG H PT) (t : Tb PT H H') : LS K c ns xs s na nm H' := by
  obtain ⟨⟨n, re, mx, h, r⟩, h1, h2, h3, h4, h5⟩ := L
  have m := t.dm (K := K) g
  obtain ⟨ps, hP, _⟩ := g
  exact ⟨⟨n, re, mx, t.k _ _ (fun z => by rw [z, hP] at h; cases h) h, r⟩, m.l _ _ h1, m.l _ _ h2, h3, h4, h5⟩
theorem LS.tab {K : PySem.W.Frag} {PT : Addr} {c : Cfg} {ns : List Int} {xs : List Str} {s na nm : Addr} {H H' : Hp} (L : LS K c ns xs s na nm H) (g : GxR.TabG H PT) (e : KB s H H') : GxR.TabG H' PT := by
  obtain ⟨⟨n, re, mx, h, r⟩, _⟩ := L
  exact tab_kb g e h

/-! ### the law -/
theorem RwV.tb {K : PySem.W.Frag} {PT : Addr} {xs : List Str} {ns : List Nm} {H H' : Hp} (ht : GxR.TabG H PT) (t : Tb PT H H') (k : Nat) (v : V) (h : RwV K xs ns H k v) : RwV K xs ns H' k v := by
  obtain ⟨r, h1, kvs, h2, h3⟩ := h
  refine ⟨r, h1, kvs, t.k _ _ (fun z => ?_) h2, fun x hx => ?_⟩
  · obtain ⟨ps, e, _⟩ := ht
    rw [z, e] at h2
    cases h2
  · obtain ⟨p, a, b⟩ := h3 x hx
    exact ⟨p, a, (t.dm (K := K) ht).t _ _ b⟩
def spLaw (K : PySem.W.Frag) (PT : Addr) : Sp := fun vs H Q _ => ∃ (ns : List Int) (na : Addr), vs = [.ref na] ∧ SqL K H na (ns.map V.int) ∧ ns.length ≤ 63 ∧ GxR.TabG H PT ∧ ∀ H', Q (.bl true) H'
section
variable {P : Program} {w : World} {K : PySem.W.Frag} {mg : Str → Option Value} {base : Heap}
abbrev s_law : Stmt := topS 67
theorem sc_law : FnScope ["_law_script", "_law_s", "_law_contract_here", "_law_drawn_here", "_law_side", "_law_good_here", "_law_found", "_law_pair", "_law_rows", "_law_weight", "_law_every", "_law_hour", "_law_many", "_law_row"] ["_law_script"] (defScope s_law) := ⟨rfl, rfl, rfl, by decide +kernel, rfl, by decide +kernel, by decide +kernel⟩
theorem h_law {PT : Addr} {k : Nat} {f : Addr} {fd : FuncData} (O : Own K mg "law" s_law ["_law_script"] f fd) {C_BadMarket : Addr} (X_BadMarket : ExcT K mg "BadMarket" C_BadMarket)  {C_Market : Addr} (cl_Market : Cls K C_Market) {f__law_futures : Addr} {fd__law_futures : FuncData} (D__law_futures : Has P w K mg base "_law_futures" ["_law_market_here"] k CX0 (spLFuts K) f__law_futures fd__law_futures) {f__law_net : Addr} {fd__law_net : FuncData} (D__law_net : Has P w K mg base "_law_net" ["_law_told_here", "_law_side", "_law_good_here"] k CX0 (spNet K) f__law_net fd__law_net) {f__law_owed : Addr} {fd__law_owed : FuncData} (D__law_owed : Has P w K mg base "_law_owed" ["_law_contract_here", "_law_rows"] k CX0 (spOwed K) f__law_owed fd__law_owed) {f_spans : Addr} {fd_spans : FuncData} (D_spans : Has P w K mg base "spans" ["contract", "market", "side", "good"] k CX0 (spSpans K C_Market) f_spans fd_spans) {f_Market : Addr} {fd_Market : FuncData} (D_Market : HasM P w K mg base "Market" ["self", "last", "names"] k (L2.CX P w) (spMk K C_BadMarket PT C_Market) C_Market f_Market fd_Market) {f__law_case : Addr} {fd__law_case : FuncData} (D__law_case : Has P w K mg base "_law_case" ["_law_s"] k CX0 (spCase K) f__law_case fd__law_case) {f__law_begun : Addr} {fd__law_begun : FuncData} (D__law_begun : Has P w K mg base "_law_begun" ["_law_script"] k CX0 (spBegun K) f__law_begun fd__law_begun) (m_range : mg "range" = none) (m_len : mg "len" = none) (m_isinstance : mg "isinstance" = none) (m_int : mg "int" = none) (m_tuple : mg "tuple" = none) (m_list : mg "list" = none) : Has P w K mg base "law" ["_law_script"] (k + 1) CX0 (spLaw K PT) f fd := by
  refine O.has (O.F.ok sc_law (fun vs H Q E h => ?_) (fun cdv A outer s H vs Q E hr h => ?_))
  · obtain ⟨ns, na, rfl, _⟩ := h
    rfl
  obtain ⟨ns, na, rfl, hS, h63, ht, q⟩ := h
  refine ⟨_, (pss_cons (ps_set (i := 1) sc_law.nd rfl (.inl rfl) (pe_call D__law_begun.G hr (by rfl) D__law_begun.g D__law_begun.k D__law_begun.b .nil pass0 (pa_cons (pv 0) pa_nil))) (pss_cons (ps_asg (pe_call D__law_case.G hr (by rfl) D__law_case.g D__law_case.k D__law_case.b .nil pass0 (pa_cons (pv 1) pa_nil)) (pg_tup rfl (pgs_cons (pg_name (i := 2) sc_law.nd rfl (.inl rfl)) (pgs_cons (pg_name (i := 3) sc_law.nd rfl (.inl rfl)) (pgs_cons (pg_name (i := 4) sc_law.nd rfl (.inl rfl)) (pgs_cons (pg_name (i := 5) sc_law.nd rfl (.inl rfl)) pgs_nil)))))) (pss_cons (ps_set (i := 6) sc_law.nd rfl (.inl rfl) (pe_call D_spans.G hr (by rfl) D_spans.g D_spans.k D_spans.b .nil pass0 (pa_cons (pv 2) (pa_cons (pe_new (E := fun _ => E0) D_Market hr (by rfl) (fun σ pins H s e s' I c => passL pins σ H s e s' I c) (pa_cons (pe_ix ix_tup (pv 3) pe_int (fun _ _ => rfl)) (pa_cons (pe_ix ix_tup (pv 3) pe_int (fun _ _ => rfl)) pa_nil))) (pa_cons (pv 4) (pa_cons (pv 5) pa_nil)))))) (pss_cons (ps_if (PW.pt (pw_or (pt_not (pt_val (pe_callB call_isi (by rfl) m_isinstance (by decide +kernel) (pa_cons (pv 6) (pa_cons (pe_bltn (v := .ty "list") (by rfl) m_list (by decide +kernel) rfl) pa_nil))))) (pw_or1 (pt_cmpR op_ne (pe_callB call_len_seq (by rfl) m_len (by decide +kernel) (pa_cons (pv 6) pa_nil)) (pe_op op_add (pe_ix ix_tup (pv 3) pe_int (fun _ _ => rfl)) pe_int) (nomark _))))) (pss_one (ps_ret pe_bl)) pss_nil) (pss_cons (ps_for PassesOwn.never rfl (pi_list (pv 6)) (pg_name (i := 7) sc_law.nd rfl (.inl rfl)) (pss_cons (ps_if (PW.pt (pw_or (pt_not (pt_val (pe_callB call_isi (by rfl) m_isinstance (by decide +kernel) (pa_cons (pv 7) (pa_cons (pe_bltn (v := .ty "tuple") (by rfl) m_tuple (by decide +kernel) rfl) pa_nil))))) (pw_or1 (pt_cmpR op_ne (pe_callB call_len_seq (by rfl) m_len (by decide +kernel) (pa_cons (pv 7) pa_nil)) pe_int (nomark _))))) (pss_one (ps_ret pe_bl)) pss_nil) (pss_one (ps_if (PW.pt (pw_or (pt_not (pt_val (pe_callB call_isi (by rfl) m_isinstance (by decide +kernel) (pa_cons (pe_ix ix_tup (pv 7) pe_int (fun _ _ => rfl)) (pa_cons (pe_bltn (v := .ty "int") (by rfl) m_int (by decide +kernel) rfl) pa_nil))))) (pw_or1 (pt_not (pt_val (pe_callB call_isi (by rfl) m_isinstance (by decide +kernel) (pa_cons (pe_ix ix_tup (pv 7) pe_int (fun _ _ => rfl)) (pa_cons (pe_bltn (v := .ty "int") (by rfl) m_int (by decide +kernel) rfl) pa_nil)))))))) (pss_one (ps_ret pe_bl)) pss_nil)))) (pss_cons (ps_for PassesOwn.never rfl (pi_list (pe_call D__law_futures.G hr (by rfl) D__law_futures.g D__law_futures.k D__law_futures.b .nil pass0 (pa_cons (pv 3) pa_nil))) (pg_tup rfl (pgs_cons (pg_name (i := 8) sc_law.nd rfl (.inl rfl)) (pgs_cons (pg_name (i := 9) sc_law.nd rfl (.inl rfl)) pgs_nil))) (pss_cons (ps_set (i := 10) sc_law.nd rfl (.inl rfl) (pe_call D__law_owed.G hr (by rfl) D__law_owed.g D__law_owed.k D__law_owed.b .nil pass0 (pa_cons (pv 2) (pa_cons (pv 8) pa_nil)))) (pss_one (ps_for PassesOwn.never rfl (pi_range1 (by rfl) m_range (pa_cons (pe_callB call_len_seq (by rfl) m_len (by decide +kernel) (pa_cons (pv 8) pa_nil)) pa_nil)) (pg_name (i := 11) sc_law.nd rfl (.inr rfl)) (pss_cons (ps_set (i := 12) sc_law.nd rfl (.inl rfl) (pe_call D__law_net.G hr (by rfl) D__law_net.g D__law_net.k D__law_net.b .nil pass0 (pa_cons (pe_lc (own := [("_law_row", 13)]) (g := gName 13) rfl sc_law.nd (pi_list (pv 10)) (blkOk_by (own := [("_law_row", 13)]) (N := ["_law_script", "_law_s", "_law_contract_here", "_law_drawn_here", "_law_side", "_law_good_here", "_law_found", "_law_pair", "_law_rows", "_law_weight", "_law_every", "_law_hour", "_law_many", "_law_row"]) (sc := defScope s_law) (by decide +kernel)) (fun _ _ _ _ _ => pg_name (i := 13) sc_law.nd rfl (.inl rfl)) (fun _ _ _ _ _ => pts_one (pt_cmpR op_eq (pe_ix (r := rIxT K) ix_tup (pv 13) pe_int (fun _ _ => rfl)) (pv 11) (nomark _))) (fun _ _ _ _ _ => (pv 13))) (pa_cons (pv 4) (pa_cons (pv 5) pa_nil))))) (pss_one (ps_if (pt_not (pt_chain op_le op_le (pe_ix ix_tup (pe_ix ix_list (pv 6) (pv 11) (fun _ _ => rfl)) pe_int (fun _ _ => rfl)) (pv 12) (pe_ix ix_tup (pe_ix ix_list (pv 6) (pv 11) (fun _ _ => rfl)) pe_int (fun _ _ => rfl)))) (pss_one (ps_ret pe_bl)) pss_nil))))))) (pss_one (ps_ret pe_bl)))))))), ?_⟩
  walk_at "go"
  refine use_begun hS h63 fun c s nm H1 e1 ns1 L1 => ?_
  have ht1 := tab_same ht e1
  walk_at "go"
  refine use_case L1 fun T mt p nm' v t x g la ds H2 ys e2 L2 sT dk ti td smt la0 la9 lim ld dd okd okn => ?_
  have ht2 := L1.tab ht1 e2
  clear e2 L1 ht1 e1 ht hS L2
  refine g_gtup sT rfl ?_
  have xe := names_x okd
  have sok := names_stok okd
  have wok := names_wok okd
  obtain ⟨_, nd0⟩ : ds.length ≤ 3 ∧ (ds.map wordOf).Nodup := by
    dsimp only [okNames] at okn
    simp only [Bool.and_eq_true, decide_eq_true_eq] at okn
    exact ⟨okn.1, okn.2.2⟩
  rw [← xe] at nd0 ti
  have lns : (ds.map nmOf).length ≤ 3 := by rw [List.length_map]; exact ld
  have cn := cnt_small wok (la := la) (m := ds.length) (List.length_map _) ld la0 lim
  have okm : okMk (.int la) (.list ds) = true := by
    show (inB 0 12 (.int la) && okNames (.list ds)) = true
    rw [okn, show inB 0 12 (.int la) = (decide (0 ≤ la) && decide (la ≤ 12)) from rfl, decide_eq_true la0, decide_eq_true (show la ≤ 12 by omega)]
    rfl
  walk_at "go"
  refine g_callS ?_
  walk_at "go"
  refine ⟨_, _, _, _, rfl, rfl, smt, at_any (j := 0) rfl rfl, ?_⟩
  walk_at "go"
  refine ⟨_, _, _, _, rfl, rfl, smt, at_any (j := 1) rfl rfl, ?_⟩
  walk_at "go"
  refine use_mk (.int la) dd (names_lay okd).2.2 ht2 (fun _ a H7 nfa t7 obj => ?_) (fun bad => by rw [okm] at bad; cases bad)
  have mk := obj la ds rfl rfl
  have dm7 := t7.dm (K := K) ht2
  have dk7 := DK.tm dm7.t dk
  have smt7 := dm7.t _ _ smt
  have dd7 := Dp.dm dm7 dd
  clear obj dd smt dk ht2 t7 sT
  walk_at "go"
  refine ⟨v, t, a, la, ds.map nmOf, x, g, rfl, dk7, mk, lns, nd0, sok, la0, by omega, ti, by omega, fun P9 ys9 H9 e9 hP hys => ?_⟩
  have lys : ys9.length = la.toNat + 1 := by rw [← hys.len, cw_len]
  have smt9 := SqT.same e9 smt7
  have dk9 := DK.tm (.of e9) dk7
  have dd9 := Dp.dm (.of e9) dd7
  walk_at "go"
  refine use_isT (b := true) (ty_sql (sql hP)) (by decide +kernel) ?_
  refine ⟨_, rfl, ?_⟩
  refine iteNT ?_
  walk_at "go"
  refine ⟨_, _, rfl, .inl (sql hP), ?_⟩
  walk_at "go"
  refine ⟨_, _, _, _, rfl, rfl, smt9, at_any (j := 0) rfl rfl, ?_⟩
  walk_at "go"
  refine ifdn (fun _ => ?_) (fun c => absurd (by omega) c)
  walk_at "go"
  refine ⟨⟨_, sql hP⟩, for_it (walk_list (xs := ys9)) (fun i σ Hc => ∃ y7, σ = [some (.ref na), some (.ref s), some v, some (.ref mt), some (.str x), some (.str g), some (.ref P9), y7, none, none, none, none, none, none] ∧ Hc = H9) ⟨_, rfl, rfl⟩ (fun i σ Hc _ hW => ?_) (fun i z σ Hc Hc' hi hW hy => ?_) (fun σ Hc hW => ?_)⟩
  · obtain ⟨_, _, rfl⟩ := hW
    exact sql hP
  · obtain ⟨y7, rfl, e1⟩ := hW
    obtain ⟨e2, hz⟩ := hy
    have e3 : Hc' = H9 := e2.trans e1
    rw [e3]
    clear e1 e2 e3
    have hci : (cw (la.toNat + 1) (fun k => rowS (ds.map nmOf) k) g t x 0)[i]? = some ((cw (la.toNat + 1) (fun k => rowS (ds.map nmOf) k) g t x 0)[i]'(by rw [cw_len]; omega)) := List.getElem?_eq_getElem _
    obtain ⟨z', hz', pz, rfl, hpz⟩ := hys.at hci
    cases Option.some.inj (hz'.symm.trans hz)
    generalize (cw (la.toNat + 1) (fun k => rowS (ds.map nmOf) k) g t x 0)[i]'(by rw [cw_len]; omega) = sz at hpz
    walk_at "go"
    refine use_isT (b := true) (ty_sqt hpz) (by decide +kernel) ?_
    refine ⟨_, rfl, iteNT ?_⟩
    walk_at "go"
    refine ⟨_, _, rfl, .inr hpz, ?_⟩
    walk_at "go"
    refine ifdn (fun _ => ?_) (fun c => absurd rfl c)
    walk_at "go"
    refine ⟨_, _, _, _, rfl, rfl, hpz, at_any (j := 0) rfl rfl, ?_⟩
    walk_at "go"
    refine use_isT (b := true) (.base (.int _)) (by decide +kernel) ?_
    refine ⟨_, rfl, iteNT ?_⟩
    walk_at "go"
    refine ⟨_, _, _, _, rfl, rfl, hpz, at_any (j := 1) rfl rfl, ?_⟩
    walk_at "go"
    refine use_isT (b := true) (.base (.int _)) (by decide +kernel) ?_
    refine ⟨_, rfl, iteNT ?_⟩
    walk_at "go"
    first | exact ⟨_, rfl, rfl⟩ | rfl | exact ⟨rfl, rfl⟩
  · obtain ⟨y7, rfl, rfl⟩ := hW
    walk_at "go"
    refine ⟨mt, p, la, ds, rfl, smt9, dd9, okd, ld, nd0, wok, la0, by omega, cn, fun W ts H10 e10 nW hW hts => ?_⟩
    have lts := hts.len
    walk_at "go"
    refine ⟨⟨_, sql hW⟩, for_it (walk_list (xs := ts.map fun t => V.ref t.1)) (fun i σ Hc => ∃ y7 y8 y9 y10 y11 y12 y13, σ = [some (.ref na), some (.ref s), some v, some (.ref mt), some (.str x), some (.str g), some (.ref P9), y7, y8, y9, y10, y11, y12, y13] ∧ Same H10 Hc) ⟨_, _, _, _, _, _, _, rfl, .refl _⟩ (fun i σ Hc _ hV => ?_) (fun i z σ Hc Hc' hi hV hy => ?_) (fun σ Hc hV => ?_)⟩
    · obtain ⟨_, _, _, _, _, _, _, _, e⟩ := hV
      exact e.seq (sql hW)
    · obtain ⟨y7, y8, y9, y10, y11, y12, y13, rfl, eW⟩ := hV
      obtain ⟨rfl, hz⟩ := hy
      rw [List.length_map] at hi
      have hwi : (fuR la (ds.map nmOf))[i]? = some ((fuR la (ds.map nmOf))[i]'(by omega)) := List.getElem?_eq_getElem _
      obtain ⟨⟨q1, q2, rs⟩, ht, hq1, hq2, hrs⟩ := hts.at hwi
      rw [List.getElem?_map, ht] at hz
      cases Option.some.inj (show some (V.ref q1) = some z from hz)
      have mem : (fuR la (ds.map nmOf))[i]'(by omega) ∈ fuR la (ds.map nmOf) := List.getElem_mem _
      generalize (fuR la (ds.map nmOf))[i]'(by omega) = wr at hq1 hq2 hrs mem
      obtain ⟨a0, ha0, rfl⟩ := List.mem_map.mp mem
      obtain ⟨al, ar⟩ := fu_in wok lns _ a0 ha0
      refine g_gtup (SqT.same eW hq1) rfl ?_
      walk_at "go"
      have hq2c := eW _ _ hq2
      have hrsc : All2 (fun R r => Hc' r = some (.dK (dk R))) (rowsW (ds.map nmOf) a0).1 rs := hrs.mono fun _ _ h => eW _ _ h
      have lrs := hrs.len
      have lrow : (rowsW (ds.map nmOf) a0).1.length = la.toNat + 1 := by
        show (a0.1.map _).length = _
        rw [List.length_map, al]
      have e9c := e10.trans eW
      have hin := futF_in (n := la.toNat + 1) nd0 ar al
      have hfb : ∀ j < la.toNat + 1, FB (futF (ds.map nmOf) a0.1 j) := fun j hj y => InS_bits (rowS_b sok (by omega) (by omega)) (hin j hj y)
      have ll := lvs_len t
      have l32 : (2 : Nat) ^ t.deep ≤ 2 ^ 5 := Nat.pow_le_pow_right (by decide) td
      have ml : (la.toNat + 1) * (lvs t).length ≤ 4000 := Nat.le_trans (Nat.mul_le_mul (show la.toNat + 1 ≤ 13 by omega) (show (lvs t).length ≤ 32 by omega)) (by decide)
      refine ⟨v, t, q2, rs.map V.ref, la.toNat + 1, (ds.map nmOf).map (·.x), futF (ds.map nmOf) a0.1, rfl, DK.tm (.of e9c) dk9, sql hq2c, ⟨by rw [List.length_map, ← lrs]; exact lrow, fun j hj => ?_⟩, by omega, ti, by omega, hfb, ml, fun D ys ow H11 e11 nD hD hys2 h5 l4 hnet => ?_⟩
      · have hw : a0.1[j]? = some (a0.1[j]'(by omega)) := List.getElem?_eq_getElem _
        obtain ⟨r, hr, hR⟩ := hrsc.at (i := j) (a := ((ds.map nmOf).map (·.x)).zip (a0.1[j]'(by omega))) (by show (a0.1.map _)[j]? = _; rw [List.getElem?_map, hw]; rfl)
        exact ⟨r, by rw [List.getElem?_map, hr]; rfl, futF_rd nd0 hw (ar j _ hw).1 hR⟩
      walk_at "go"
      refine ⟨_, _, rfl, .inl (e11.seq (sql hq2c)), ?_⟩
      walk_at "go"
      refine ⟨by rw [List.length_map]; omega, by rw [List.length_map]; omega, for_range (lo := 0) (n := (rs.map V.ref).length) (fun j σ Hd => ∃ y11 y12 y13, σ = [some (.ref na), some (.ref s), some v, some (.ref mt), some (.str x), some (.str g), some (.ref P9), y7, some (.ref q2), some (.int a0.2), some (.ref D), y11, y12, y13] ∧ Same H11 Hd) ⟨_, _, _, rfl, .refl _⟩ (fun j σ Hd hj hU => ?_) (fun σ Hd hU => ?_)⟩
      · obtain ⟨y11, y12, y13, rfl, eU⟩ := hU
        rw [List.length_map] at hj
        rw [show (0 : Int) + ((j : Nat) : Int) = (j : Int) from Int.zero_add _]
        have lrs2 : rs.length = la.toNat + 1 := lrs.symm.trans lrow
        have jn : j < la.toNat + 1 := by omega
        walk_at "go"
        refine ⟨⟨_, eU.seq (sql hD)⟩, fun B nB => lc_list (xs := ys) (fun i He => Fl RwT Hd B ((ow.take i).filter fun r => decide (hour5 r = (j : Int))) He) (Fl.start nB) (fun i He _ f => (eU.trans f.sub).seq (sql hD)) (fun i z He hz f => ?_) (fun He f => ?_)⟩
        · have hoi : ow[i]? = some (ow[i]'(by have := (List.getElem?_eq_some_iff.mp hz).1; have := hys2.len; omega)) := List.getElem?_eq_getElem _
          obtain ⟨z', hz', hr⟩ := hys2.at hoi
          cases Option.some.inj (hz'.symm.trans hz)
          have r5 := h5 _ (List.mem_of_getElem? hoi)
          have lt : ((ow.take i).filter fun r => decide (hour5 r = (j : Int))).length < 4000 := by
            have h1 := List.length_filter_le (fun r => decide (hour5 r = (j : Int))) (ow.take i)
            have h2 := (List.getElem?_eq_some_iff.mp hoi).1
            rw [List.length_take] at h1
            omega
          rw [List.take_succ, hoi]
          generalize ow[i]'(by have := (List.getElem?_eq_some_iff.mp hz).1; have := hys2.len; omega) = row at hr r5
          have hr0 := hr
          unfold is5 at r5
          split at r5
          · rename_i i0 o t0 g0 m0
            obtain ⟨T0, rfl, hT0⟩ := hr
            have hTe := (eU.trans f.sub) _ _ hT0
            walk_at "go"
            refine ⟨_, _, _, _, rfl, rfl, (sqt hTe : SqT K He T0 [V.int i0, V.str o, V.str t0, V.str g0, V.int m0]), at_any (j := 0) rfl rfl, ?_⟩
            walk_at "go"
            refine ifd (fun c => ?_) (fun c => ?_)
            · walk_at "go"
              have fl : ((ow.take i ++ (some [Sum.inl i0, Sum.inr o, Sum.inr t0, Sum.inr g0, Sum.inl m0] : Option (List Key)).toList).filter fun r => decide (hour5 r = (j : Int))) = ((ow.take i).filter fun r => decide (hour5 r = (j : Int))) ++ [[Sum.inl i0, Sum.inr o, Sum.inr t0, Sum.inr g0, Sum.inl m0]] := by
                rw [List.filter_append]
                congr 1
                exact List.filter_cons_of_pos (p := fun r : List Key => decide (hour5 r = (j : Int))) (show decide (i0 = (j : Int)) = true from decide_eq_true c)
              rw [fl]
              exact f.step RwT.same (.refl _) (fun zs hzs => RwT.same (eU.trans f.e) _ _ hr0) lt
            · have fl : ((ow.take i ++ (some [Sum.inl i0, Sum.inr o, Sum.inr t0, Sum.inr g0, Sum.inl m0] : Option (List Key)).toList).filter fun r => decide (hour5 r = (j : Int))) = ((ow.take i).filter fun r => decide (hour5 r = (j : Int))) := by
                rw [List.filter_append]
                refine (congrArg _ (List.filter_cons_of_neg (p := fun r : List Key => decide (hour5 r = (j : Int))) (a := [Sum.inl i0, Sum.inr o, Sum.inr t0, Sum.inr g0, Sum.inl m0]) (l := []) (show ¬ decide (i0 = (j : Int)) = true from fun z => c (of_decide_eq_true z)))).trans ?_
                exact List.append_nil _
              rw [fl]
              exact f
          · exact r5.elim
        · obtain ⟨zs, hB, hzs, eB⟩ := f.fin RwT.same
          rw [← hys2.len, List.take_length] at hzs
          walk_at "go"
          refine ⟨B, x, g, zs, _, rfl, sql hB, hzs, fun r hr => h5 r (List.mem_filter.mp hr).1, ?_⟩
          rw [netN_hour g x j ow h5, hnet g x j jn]
          have fin := nw_in (good := g) (n := la.toNat + 1) hin t x 0 (Con.sd_in ti) jn
          generalize nw (la.toNat + 1) (futF (ds.map nmOf) a0.1) g t x 0 j = many at fin
          have ee := ((e9c.trans e11).trans eU).trans eB
          have hys' := hys.mono (SpR.same ee)
          obtain ⟨pt, hpt, spt⟩ := CrN.at2 hys' (k := j) (by rw [cw_len]; exact jn)
          have hPe := ee _ _ hP
          generalize at2 (cw (la.toNat + 1) (fun k => rowS (ds.map nmOf) k) g t x 0) j = sp at fin spt
          walk_at "go"
          refine ⟨_, _, _, _, rfl, rfl, sql hPe, at_any (j := j) rfl hpt, ?_⟩
          walk_at "go"
          refine ⟨_, _, _, _, rfl, rfl, spt, at_any (j := 0) rfl rfl, ?_⟩
          walk_at "go"
          rw [decide_eq_true fin.1]
          walk_at "go"
          refine ⟨_, _, _, _, rfl, rfl, sql hPe, at_any (j := j) rfl hpt, ?_⟩
          walk_at "go"
          refine ⟨_, _, _, _, rfl, rfl, spt, at_any (j := 1) rfl rfl, ?_⟩
          walk_at "go"
          rw [decide_eq_true fin.2]
          walk_at "go"
          exact ⟨_, _, _, rfl, eU.trans eB⟩
      · obtain ⟨y11, y12, y13, rfl, eU⟩ := hU
        walk_at "go"
        exact ⟨_, _, _, _, _, _, _, rfl, (eW.trans e11).trans eU⟩
    · obtain ⟨y7, y8, y9, y10, y11, y12, y13, rfl, eW⟩ := hV
      walk_at "go"
      exact q _
end

theorem all_mk {q : Program} {l : PySem.W.OpenLaw} {w : World} {K : PySem.W.Frag} {h : Heap} {mg : Str → Option Value} {fa : Addr} (X : K.In h) (G : h.Ns mainGlobals mg) (hfa : mg "law" = some (.ref fa)) (TO : TabsOf q K h)
    {C_Market : Addr}
    {f0 : Addr} {od0 an0 : Option Addr} {sl0 : Array (Option Value)} {oc0 kV0 dc0 pm0 ct0 : Value} {cd0 : Value}
    {f1 : Addr} {od1 an1 : Option Addr} {sl1 : Array (Option Value)} {oc1 kV1 dc1 pm1 ct1 : Value} {cd1 : Value}
    {f2 : Addr} {od2 an2 : Option Addr} {sl2 : Array (Option Value)} {oc2 kV2 dc2 pm2 ct2 : Value} {cd2 : Value}
    {f3 : Addr} {od3 an3 : Option Addr} {sl3 : Array (Option Value)} {oc3 kV3 dc3 pm3 ct3 : Value} {cd3 : Value}
    {f4 : Addr} {od4 an4 : Option Addr} {sl4 : Array (Option Value)} {oc4 kV4 dc4 pm4 ct4 : Value} {cd4 : Value}
    {f5 : Addr} {od5 an5 : Option Addr} {sl5 : Array (Option Value)} {oc5 kV5 dc5 pm5 ct5 : Value} {cd5 : Value}
    {f6 : Addr} {od6 an6 : Option Addr} {sl6 : Array (Option Value)} {oc6 kV6 dc6 pm6 ct6 : Value} {cd6 : Value}
    {f7 : Addr} {od7 an7 : Option Addr} {sl7 : Array (Option Value)} {oc7 kV7 dc7 pm7 ct7 : Value} {cd7 : Value}
    {f8 : Addr} {od8 an8 : Option Addr} {sl8 : Array (Option Value)} {oc8 kV8 dc8 pm8 ct8 : Value} {cd8 : Value}
    {f9 : Addr} {od9 an9 : Option Addr} {sl9 : Array (Option Value)} {oc9 kV9 dc9 pm9 ct9 : Value} {cd9 : Value}
    {f10 : Addr} {od10 an10 : Option Addr} {sl10 : Array (Option Value)} {oc10 kV10 dc10 pm10 ct10 : Value} {cd10 : Value}
    {f11 : Addr} {od11 an11 : Option Addr} {sl11 : Array (Option Value)} {oc11 kV11 dc11 pm11 ct11 : Value} {cT PT : Addr} {oq : Value} {oe : Option Addr} {vq : Array Value} {sq : Array (Option Value)}
    {f12 : Addr} {od12 an12 : Option Addr} {sl12 : Array (Option Value)} {oc12 kV12 dc12 pm12 ct12 : Value} {cd12 : Value}
    {f13 : Addr} {od13 an13 : Option Addr} {sl13 : Array (Option Value)} {oc13 kV13 dc13 pm13 ct13 : Value} {cd13 : Value}
    {f14 : Addr} {od14 an14 : Option Addr} {sl14 : Array (Option Value)} {oc14 kV14 dc14 pm14 ct14 : Value} {cd14 : Value}
    {f15 : Addr} {od15 an15 : Option Addr} {sl15 : Array (Option Value)} {oc15 kV15 dc15 pm15 ct15 : Value} {cd15 : Value}
    {f16 : Addr} {od16 an16 : Option Addr} {sl16 : Array (Option Value)} {oc16 kV16 dc16 pm16 ct16 : Value} {cd16 : Value}
    {f17 : Addr} {od17 an17 : Option Addr} {sl17 : Array (Option Value)} {oc17 kV17 dc17 pm17 ct17 : Value} {cd17 : Value}
    {f18 : Addr} {od18 an18 : Option Addr} {sl18 : Array (Option Value)} {oc18 kV18 dc18 pm18 ct18 : Value} {cd18 : Value}
    {f19 : Addr} {od19 an19 : Option Addr} {sl19 : Array (Option Value)} {oc19 kV19 dc19 pm19 ct19 cd19 : Value}
    {f20 : Addr} {od20 an20 : Option Addr} {sl20 : Array (Option Value)} {oc20 kV20 dc20 pm20 ct20 : Value} {cd20 : Value}
    {f21 : Addr} {od21 an21 : Option Addr} {sl21 : Array (Option Value)} {oc21 kV21 dc21 pm21 ct21 : Value} {cd21 : Value}
    {f22 : Addr} {od22 an22 : Option Addr} {sl22 : Array (Option Value)} {oc22 kV22 dc22 pm22 ct22 : Value} {cd22 : Value}
    {f23 : Addr} {od23 an23 : Option Addr} {sl23 : Array (Option Value)} {oc23 kV23 dc23 pm23 ct23 : Value} {cd23 : Value}
    {f24 : Addr} {od24 an24 : Option Addr} {sl24 : Array (Option Value)} {oc24 kV24 dc24 pm24 ct24 : Value} {cd24 : Value}
    {f25 : Addr} {od25 an25 : Option Addr} {sl25 : Array (Option Value)} {oc25 kV25 dc25 pm25 ct25 : Value} {cd25 : Value}
    {f26 : Addr} {od26 an26 : Option Addr} {sl26 : Array (Option Value)} {oc26 kV26 dc26 pm26 ct26 : Value} {cd26 : Value}
    {f27 : Addr} {od27 an27 : Option Addr} {sl27 : Array (Option Value)} {oc27 kV27 dc27 pm27 ct27 : Value} {cd27 : Value}
    {f28 : Addr} {od28 an28 : Option Addr} {sl28 : Array (Option Value)} {oc28 kV28 dc28 pm28 ct28 : Value} {cd28 : Value}
    {f29 : Addr} {od29 an29 : Option Addr} {sl29 : Array (Option Value)} {oc29 kV29 dc29 pm29 ct29 : Value} {cd29 : Value}
    {f30 : Addr} {od30 an30 : Option Addr} {sl30 : Array (Option Value)} {oc30 kV30 dc30 pm30 ct30 : Value} {cd30 : Value}
    {f31 : Addr} {od31 an31 : Option Addr} {sl31 : Array (Option Value)} {oc31 kV31 dc31 pm31 ct31 : Value} {cd31 : Value}
    {f32 : Addr} {od32 an32 : Option Addr} {sl32 : Array (Option Value)} {oc32 kV32 dc32 pm32 ct32 : Value} {cd32 : Value}
    {f33 : Addr} {od33 an33 : Option Addr} {sl33 : Array (Option Value)} {oc33 kV33 dc33 pm33 ct33 : Value} {cd33 : Value}
    {f34 : Addr} {od34 an34 : Option Addr} {sl34 : Array (Option Value)} {oc34 kV34 dc34 pm34 ct34 : Value} {cd34 : Value}
    {f35 : Addr} {od35 an35 : Option Addr} {sl35 : Array (Option Value)} {oc35 kV35 dc35 pm35 ct35 : Value} {cd35 : Value}
    {f36 : Addr} {od36 an36 : Option Addr} {sl36 : Array (Option Value)} {oc36 kV36 dc36 pm36 ct36 : Value} {cd36 : Value}
    {f37 : Addr} {od37 an37 : Option Addr} {sl37 : Array (Option Value)} {oc37 kV37 dc37 pm37 ct37 : Value} {cd37 : Value}
    {f38 : Addr} {od38 an38 : Option Addr} {sl38 : Array (Option Value)} {oc38 kV38 dc38 pm38 ct38 : Value} {cd38 : Value}
    {f39 : Addr} {od39 an39 : Option Addr} {sl39 : Array (Option Value)} {oc39 kV39 dc39 pm39 ct39 : Value} {cd39 : Value}
    {f40 : Addr} {od40 an40 : Option Addr} {sl40 : Array (Option Value)} {oc40 kV40 dc40 pm40 ct40 : Value} {cd40 : Value}
    {f41 : Addr} {od41 an41 : Option Addr} {sl41 : Array (Option Value)} {oc41 kV41 dc41 pm41 ct41 : Value} {cd41 : Value}
    {f42 : Addr} {od42 an42 : Option Addr} {sl42 : Array (Option Value)} {oc42 kV42 dc42 pm42 ct42 : Value} {cd42 : Value}
    {f43 : Addr} {od43 an43 : Option Addr} {sl43 : Array (Option Value)} {oc43 kV43 dc43 pm43 ct43 : Value} {cd43 : Value}
    {f44 : Addr} {od44 an44 : Option Addr} {sl44 : Array (Option Value)} {oc44 kV44 dc44 pm44 ct44 : Value} {cd44 : Value}
    {f45 : Addr} {od45 an45 : Option Addr} {sl45 : Array (Option Value)} {oc45 kV45 dc45 pm45 ct45 : Value} {cd45 : Value}
    {f46 : Addr} {od46 an46 : Option Addr} {sl46 : Array (Option Value)} {oc46 kV46 dc46 pm46 ct46 : Value} {cd46 : Value}
    {C_BadMarket : Addr}
    {t_LETTERS : Tok}
    {t_LONGEST_WORD : Tok}
    {t_TOO_LARGE : Tok}
    {t_MOST_WEIGHT : Tok}
    {t_MOST_STEPS : Tok}
    {t_MOST_NAMES : Tok}
    {t_LAST_HOUR : Tok}
    {d_CONTRACTS : Addr}
    {d_NOTHING : Addr}
    (ca_Market : PySem.W.nsIn K mainGlobals "Market" = some (some (.ref C_Market))) (pg_Market : PySem.W.plainGet K C_Market Str.empty = true) (hd_Market : PySem.W.hasDictIn K C_Market = true) (po_Market : PySem.W.plainOver K C_Market = true) (sa_Market : PySem.W.findIn K (.ref C_Market) "__setattr__" = some (some (.builtin "object.__setattr__"))) (n_Market_last : PySem.W.findIn K (.ref C_Market) "last" = some none) (n_Market_names : PySem.W.findIn K (.ref C_Market) "names" = some none)
    (a0 : PySem.W.nsIn K mainGlobals "_law_taken" = some (some (.ref f0))) (l0 : K.lookup f0 = some ⟨oc0, od0, .func (PySem.W.fnOf "_law_taken" "_law_taken" (defArgs s__law_taken) (defBody s__law_taken) (defScope s__law_taken) .none kV0 dc0 pm0 an0 cd0 ct0), sl0⟩) (c0 : PySem.W.codeIn K cd0 "_law_taken" = true) (k0 : PySem.W.keepIn K (.ref f0) = true)
    (a1 : PySem.W.nsIn K mainGlobals "_law_word" = some (some (.ref f1))) (l1 : K.lookup f1 = some ⟨oc1, od1, .func (PySem.W.fnOf "_law_word" "_law_word" (defArgs s__law_word) (defBody s__law_word) (defScope s__law_word) .none kV1 dc1 pm1 an1 cd1 ct1), sl1⟩) (c1 : PySem.W.codeIn K cd1 "_law_word" = true) (k1 : PySem.W.keepIn K (.ref f1) = true)
    (a2 : PySem.W.nsIn K mainGlobals "_law_number" = some (some (.ref f2))) (l2 : K.lookup f2 = some ⟨oc2, od2, .func (PySem.W.fnOf "_law_number" "_law_number" (defArgs s__law_number) (defBody s__law_number) (defScope s__law_number) .none kV2 dc2 pm2 an2 cd2 ct2), sl2⟩) (c2 : PySem.W.codeIn K cd2 "_law_number" = true) (k2 : PySem.W.keepIn K (.ref f2) = true)
    (a3 : PySem.W.nsIn K mainGlobals "_law_told" = some (some (.ref f3))) (l3 : K.lookup f3 = some ⟨oc3, od3, .func (PySem.W.fnOf "_law_told" "_law_told" (defArgs s__law_told) (defBody s__law_told) (defScope s__law_told) .none kV3 dc3 pm3 an3 cd3 ct3), sl3⟩) (c3 : PySem.W.codeIn K cd3 "_law_told" = true) (k3 : PySem.W.keepIn K (.ref f3) = true)
    (a4 : PySem.W.nsIn K mainGlobals "_law_begun" = some (some (.ref f4))) (l4 : K.lookup f4 = some ⟨oc4, od4, .func (PySem.W.fnOf "_law_begun" "_law_begun" (defArgs s__law_begun) (defBody s__law_begun) (defScope s__law_begun) .none kV4 dc4 pm4 an4 cd4 ct4), sl4⟩) (c4 : PySem.W.codeIn K cd4 "_law_begun" = true) (k4 : PySem.W.keepIn K (.ref f4) = true)
    (a5 : PySem.W.nsIn K mainGlobals "_law_asked" = some (some (.ref f5))) (l5 : K.lookup f5 = some ⟨oc5, od5, .func (PySem.W.fnOf "_law_asked" "_law_asked" (defArgs s__law_asked) (defBody s__law_asked) (defScope s__law_asked) .none kV5 dc5 pm5 an5 cd5 ct5), sl5⟩) (c5 : PySem.W.codeIn K cd5 "_law_asked" = true) (k5 : PySem.W.keepIn K (.ref f5) = true)
    (a6 : PySem.W.nsIn K mainGlobals "_law_sides" = some (some (.ref f6))) (l6 : K.lookup f6 = some ⟨oc6, od6, .func (PySem.W.fnOf "_law_sides" "_law_sides" (defArgs s__law_sides) (defBody s__law_sides) (defScope s__law_sides) .none kV6 dc6 pm6 an6 cd6 ct6), sl6⟩) (c6 : PySem.W.codeIn K cd6 "_law_sides" = true) (k6 : PySem.W.keepIn K (.ref f6) = true)
    (a7 : PySem.W.nsIn K mainGlobals "_law_good" = some (some (.ref f7))) (l7 : K.lookup f7 = some ⟨oc7, od7, .func (PySem.W.fnOf "_law_good" "_law_good" (defArgs s__law_good) (defBody s__law_good) (defScope s__law_good) .none kV7 dc7 pm7 an7 cd7 ct7), sl7⟩) (c7 : PySem.W.codeIn K cd7 "_law_good" = true) (k7 : PySem.W.keepIn K (.ref f7) = true)
    (a8 : PySem.W.nsIn K mainGlobals "_law_give" = some (some (.ref f8))) (l8 : K.lookup f8 = some ⟨oc8, od8, .func (PySem.W.fnOf "_law_give" "_law_give" (defArgs s__law_give) (defBody s__law_give) (defScope s__law_give) .none kV8 dc8 pm8 an8 cd8 ct8), sl8⟩) (c8 : PySem.W.codeIn K cd8 "_law_give" = true) (k8 : PySem.W.keepIn K (.ref f8) = true)
    (a9 : PySem.W.nsIn K mainGlobals "_law_contract" = some (some (.ref f9))) (l9 : K.lookup f9 = some ⟨oc9, od9, .func (PySem.W.fnOf "_law_contract" "_law_contract" (defArgs s__law_contract) (defBody s__law_contract) (defScope s__law_contract) .none kV9 dc9 pm9 an9 cd9 ct9), sl9⟩) (c9 : PySem.W.codeIn K cd9 "_law_contract" = true) (k9 : PySem.W.keepIn K (.ref f9) = true)
    (a10 : PySem.W.nsIn K mainGlobals "_law_drawn" = some (some (.ref f10))) (l10 : K.lookup f10 = some ⟨oc10, od10, .func (PySem.W.fnOf "_law_drawn" "_law_drawn" (defArgs s__law_drawn) (defBody s__law_drawn) (defScope s__law_drawn) .none kV10 dc10 pm10 an10 cd10 ct10), sl10⟩) (c10 : PySem.W.codeIn K cd10 "_law_drawn" = true) (k10 : PySem.W.keepIn K (.ref f10) = true)
    (a11 : PySem.W.nsIn K mainGlobals "is_word" = some (some (.ref f11))) (l11 : K.lookup f11 = some ⟨oc11, od11, .func (PySem.W.fnOf "is_word" "is_word" (defArgs s_is_word) (defBody s_is_word) (defScope s_is_word) .none kV11 dc11 pm11 an11 (.ref cT) ct11), sl11⟩) (c11 : PySem.W.codeIn K (.ref cT) "is_word" = true) (k11 : PySem.W.keepIn K (.ref f11) = true)
    (cc : K.lookup cT = some ⟨oq, oe, .fields vq, sq⟩) (v11 : (vq[11]? : Option Value) = some (.ref PT)) (rT : ((recsOf q).find? (fun e => e.name == ("is_word" : Str))).isSome = true) (nP : K.lookup PT = none)
    (a12 : PySem.W.nsIn K mainGlobals "is_whole" = some (some (.ref f12))) (l12 : K.lookup f12 = some ⟨oc12, od12, .func (PySem.W.fnOf "is_whole" "is_whole" (defArgs s_is_whole) (defBody s_is_whole) (defScope s_is_whole) .none kV12 dc12 pm12 an12 cd12 ct12), sl12⟩) (c12 : PySem.W.codeIn K cd12 "is_whole" = true) (k12 : PySem.W.keepIn K (.ref f12) = true)
    (a13 : PySem.W.nsIn K mainGlobals "is_between" = some (some (.ref f13))) (l13 : K.lookup f13 = some ⟨oc13, od13, .func (PySem.W.fnOf "is_between" "is_between" (defArgs s_is_between) (defBody s_is_between) (defScope s_is_between) .none kV13 dc13 pm13 an13 cd13 ct13), sl13⟩) (c13 : PySem.W.codeIn K cd13 "is_between" = true) (k13 : PySem.W.keepIn K (.ref f13) = true)
    (a14 : PySem.W.nsIn K mainGlobals "is_amount" = some (some (.ref f14))) (l14 : K.lookup f14 = some ⟨oc14, od14, .func (PySem.W.fnOf "is_amount" "is_amount" (defArgs s_is_amount) (defBody s_is_amount) (defScope s_is_amount) .none kV14 dc14 pm14 an14 cd14 ct14), sl14⟩) (c14 : PySem.W.codeIn K cd14 "is_amount" = true) (k14 : PySem.W.keepIn K (.ref f14) = true)
    (a15 : PySem.W.nsIn K mainGlobals "_need_steps" = some (some (.ref f15))) (l15 : K.lookup f15 = some ⟨oc15, od15, .func (PySem.W.fnOf "_need_steps" "_need_steps" (defArgs s__need_steps) (defBody s__need_steps) (defScope s__need_steps) .none kV15 dc15 pm15 an15 cd15 ct15), sl15⟩) (c15 : PySem.W.codeIn K cd15 "_need_steps" = true) (k15 : PySem.W.keepIn K (.ref f15) = true)
    (a16 : PySem.W.nsIn K mainGlobals "_need_names" = some (some (.ref f16))) (l16 : K.lookup f16 = some ⟨oc16, od16, .func (PySem.W.fnOf "_need_names" "_need_names" (defArgs s__need_names) (defBody s__need_names) (defScope s__need_names) .none kV16 dc16 pm16 an16 cd16 ct16), sl16⟩) (c16 : PySem.W.codeIn K cd16 "_need_names" = true) (k16 : PySem.W.keepIn K (.ref f16) = true)
    (a17 : PySem.W.nsIn K mainGlobals "_law_steps" = some (some (.ref f17))) (l17 : K.lookup f17 = some ⟨oc17, od17, .func (PySem.W.fnOf "_law_steps" "_law_steps" (defArgs s__law_steps) (defBody s__law_steps) (defScope s__law_steps) .none kV17 dc17 pm17 an17 cd17 ct17), sl17⟩) (c17 : PySem.W.codeIn K cd17 "_law_steps" = true) (k17 : PySem.W.keepIn K (.ref f17) = true)
    (a18 : PySem.W.nsIn K mainGlobals "_law_market" = some (some (.ref f18))) (l18 : K.lookup f18 = some ⟨oc18, od18, .func (PySem.W.fnOf "_law_market" "_law_market" (defArgs s__law_market) (defBody s__law_market) (defScope s__law_market) .none kV18 dc18 pm18 an18 cd18 ct18), sl18⟩) (c18 : PySem.W.codeIn K cd18 "_law_market" = true) (k18 : PySem.W.keepIn K (.ref f18) = true)
    (i19 : PySem.W.findIn K (.ref C_Market) "__init__" = some (some (.ref f19))) (j19 : PySem.W.isFn K (.ref f19) = true) (l19 : K.lookup f19 = some ⟨oc19, od19, .func (PySem.W.fnOf "__init__" "Market.__init__" (defArgs s_Market) (defBody s_Market) (defScope s_Market) .none kV19 dc19 pm19 an19 cd19 ct19), sl19⟩) (c19 : PySem.W.codeIn K cd19 "Market.__init__" = true) (k19 : PySem.W.keepIn K (.ref f19) = true) (mk19 : PySem.W.makesIn K C_Market = true) (kc19 : PySem.W.keepIn K (.ref C_Market) = true)
    (a20 : PySem.W.nsIn K mainGlobals "turned_side" = some (some (.ref f20))) (l20 : K.lookup f20 = some ⟨oc20, od20, .func (PySem.W.fnOf "turned_side" "turned_side" (defArgs s_turned_side) (defBody s_turned_side) (defScope s_turned_side) .none kV20 dc20 pm20 an20 cd20 ct20), sl20⟩) (c20 : PySem.W.codeIn K cd20 "turned_side" = true) (k20 : PySem.W.keepIn K (.ref f20) = true)
    (a21 : PySem.W.nsIn K mainGlobals "contracts_in" = some (some (.ref f21))) (l21 : K.lookup f21 = some ⟨oc21, od21, .func (PySem.W.fnOf "contracts_in" "contracts_in" (defArgs s_contracts_in) (defBody s_contracts_in) (defScope s_contracts_in) .none kV21 dc21 pm21 an21 cd21 ct21), sl21⟩) (c21 : PySem.W.codeIn K cd21 "contracts_in" = true) (k21 : PySem.W.keepIn K (.ref f21) = true)
    (a22 : PySem.W.nsIn K mainGlobals "reckoned" = some (some (.ref f22))) (l22 : K.lookup f22 = some ⟨oc22, od22, .func (PySem.W.fnOf "reckoned" "reckoned" (defArgs s_reckoned) (defBody s_reckoned) (defScope s_reckoned) .none kV22 dc22 pm22 an22 cd22 ct22), sl22⟩) (c22 : PySem.W.codeIn K cd22 "reckoned" = true) (k22 : PySem.W.keepIn K (.ref f22) = true)
    (a23 : PySem.W.nsIn K mainGlobals "_cover" = some (some (.ref f23))) (l23 : K.lookup f23 = some ⟨oc23, od23, .func (PySem.W.fnOf "_cover" "_cover" (defArgs s__cover) (defBody s__cover) (defScope s__cover) .none kV23 dc23 pm23 an23 cd23 ct23), sl23⟩) (c23 : PySem.W.codeIn K cd23 "_cover" = true) (k23 : PySem.W.keepIn K (.ref f23) = true)
    (a24 : PySem.W.nsIn K mainGlobals "_covering" = some (some (.ref f24))) (l24 : K.lookup f24 = some ⟨oc24, od24, .func (PySem.W.fnOf "_covering" "_covering" (defArgs s__covering) (defBody s__covering) (defScope s__covering) .none kV24 dc24 pm24 an24 cd24 ct24), sl24⟩) (c24 : PySem.W.codeIn K cd24 "_covering" = true) (k24 : PySem.W.keepIn K (.ref f24) = true)
    (a25 : PySem.W.nsIn K mainGlobals "_nothing" = some (some (.ref f25))) (l25 : K.lookup f25 = some ⟨oc25, od25, .func (PySem.W.fnOf "_nothing" "_nothing" (defArgs s__nothing) (defBody s__nothing) (defScope s__nothing) .none kV25 dc25 pm25 an25 cd25 ct25), sl25⟩) (c25 : PySem.W.codeIn K cd25 "_nothing" = true) (k25 : PySem.W.keepIn K (.ref f25) = true)
    (a26 : PySem.W.nsIn K mainGlobals "_chosen" = some (some (.ref f26))) (l26 : K.lookup f26 = some ⟨oc26, od26, .func (PySem.W.fnOf "_chosen" "_chosen" (defArgs s__chosen) (defBody s__chosen) (defScope s__chosen) .none kV26 dc26 pm26 an26 cd26 ct26), sl26⟩) (c26 : PySem.W.codeIn K cd26 "_chosen" = true) (k26 : PySem.W.keepIn K (.ref f26) = true)
    (a27 : PySem.W.nsIn K mainGlobals "_summed" = some (some (.ref f27))) (l27 : K.lookup f27 = some ⟨oc27, od27, .func (PySem.W.fnOf "_summed" "_summed" (defArgs s__summed) (defBody s__summed) (defScope s__summed) .none kV27 dc27 pm27 an27 cd27 ct27), sl27⟩) (c27 : PySem.W.codeIn K cd27 "_summed" = true) (k27 : PySem.W.keepIn K (.ref f27) = true)
    (a28 : PySem.W.nsIn K mainGlobals "_span_of" = some (some (.ref f28))) (l28 : K.lookup f28 = some ⟨oc28, od28, .func (PySem.W.fnOf "_span_of" "_span_of" (defArgs s__span_of) (defBody s__span_of) (defScope s__span_of) .none kV28 dc28 pm28 an28 cd28 ct28), sl28⟩) (c28 : PySem.W.codeIn K cd28 "_span_of" = true) (k28 : PySem.W.keepIn K (.ref f28) = true)
    (a29 : PySem.W.nsIn K mainGlobals "_can" = some (some (.ref f29))) (l29 : K.lookup f29 = some ⟨oc29, od29, .func (PySem.W.fnOf "_can" "_can" (defArgs s__can) (defBody s__can) (defScope s__can) .none kV29 dc29 pm29 an29 cd29 ct29), sl29⟩) (c29 : PySem.W.codeIn K cd29 "_can" = true) (k29 : PySem.W.keepIn K (.ref f29) = true)
    (a30 : PySem.W.nsIn K mainGlobals "_given" = some (some (.ref f30))) (l30 : K.lookup f30 = some ⟨oc30, od30, .func (PySem.W.fnOf "_given" "_given" (defArgs s__given) (defBody s__given) (defScope s__given) .none kV30 dc30 pm30 an30 cd30 ct30), sl30⟩) (c30 : PySem.W.codeIn K cd30 "_given" = true) (k30 : PySem.W.keepIn K (.ref f30) = true)
    (a31 : PySem.W.nsIn K mainGlobals "_repeated" = some (some (.ref f31))) (l31 : K.lookup f31 = some ⟨oc31, od31, .func (PySem.W.fnOf "_repeated" "_repeated" (defArgs s__repeated) (defBody s__repeated) (defScope s__repeated) .none kV31 dc31 pm31 an31 cd31 ct31), sl31⟩) (c31 : PySem.W.codeIn K cd31 "_repeated" = true) (k31 : PySem.W.keepIn K (.ref f31) = true)
    (a32 : PySem.W.nsIn K mainGlobals "_awaited" = some (some (.ref f32))) (l32 : K.lookup f32 = some ⟨oc32, od32, .func (PySem.W.fnOf "_awaited" "_awaited" (defArgs s__awaited) (defBody s__awaited) (defScope s__awaited) .none kV32 dc32 pm32 an32 cd32 ct32), sl32⟩) (c32 : PySem.W.codeIn K cd32 "_awaited" = true) (k32 : PySem.W.keepIn K (.ref f32) = true)
    (a33 : PySem.W.nsIn K mainGlobals "_ended" = some (some (.ref f33))) (l33 : K.lookup f33 = some ⟨oc33, od33, .func (PySem.W.fnOf "_ended" "_ended" (defArgs s__ended) (defBody s__ended) (defScope s__ended) .none kV33 dc33 pm33 an33 cd33 ct33), sl33⟩) (c33 : PySem.W.codeIn K cd33 "_ended" = true) (k33 : PySem.W.keepIn K (.ref f33) = true)
    (a34 : PySem.W.nsIn K mainGlobals "_row_of" = some (some (.ref f34))) (l34 : K.lookup f34 = some ⟨oc34, od34, .func (PySem.W.fnOf "_row_of" "_row_of" (defArgs s__row_of) (defBody s__row_of) (defScope s__row_of) .none kV34 dc34 pm34 an34 cd34 ct34), sl34⟩) (c34 : PySem.W.codeIn K cd34 "_row_of" = true) (k34 : PySem.W.keepIn K (.ref f34) = true)
    (a35 : PySem.W.nsIn K mainGlobals "_courses" = some (some (.ref f35))) (l35 : K.lookup f35 = some ⟨oc35, od35, .func (PySem.W.fnOf "_courses" "_courses" (defArgs s__courses) (defBody s__courses) (defScope s__courses) .none kV35 dc35 pm35 an35 cd35 ct35), sl35⟩) (c35 : PySem.W.codeIn K cd35 "_courses" = true) (k35 : PySem.W.keepIn K (.ref f35) = true)
    (a36 : PySem.W.nsIn K mainGlobals "spans" = some (some (.ref f36))) (l36 : K.lookup f36 = some ⟨oc36, od36, .func (PySem.W.fnOf "spans" "spans" (defArgs s_spans) (defBody s_spans) (defScope s_spans) .none kV36 dc36 pm36 an36 cd36 ct36), sl36⟩) (c36 : PySem.W.codeIn K cd36 "spans" = true) (k36 : PySem.W.keepIn K (.ref f36) = true)
    (a37 : PySem.W.nsIn K mainGlobals "_law_value" = some (some (.ref f37))) (l37 : K.lookup f37 = some ⟨oc37, od37, .func (PySem.W.fnOf "_law_value" "_law_value" (defArgs s__law_value) (defBody s__law_value) (defScope s__law_value) .none kV37 dc37 pm37 an37 cd37 ct37), sl37⟩) (c37 : PySem.W.codeIn K cd37 "_law_value" = true) (k37 : PySem.W.keepIn K (.ref f37) = true)
    (a38 : PySem.W.nsIn K mainGlobals "_law_holds" = some (some (.ref f38))) (l38 : K.lookup f38 = some ⟨oc38, od38, .func (PySem.W.fnOf "_law_holds" "_law_holds" (defArgs s__law_holds) (defBody s__law_holds) (defScope s__law_holds) .none kV38 dc38 pm38 an38 cd38 ct38), sl38⟩) (c38 : PySem.W.codeIn K cd38 "_law_holds" = true) (k38 : PySem.W.keepIn K (.ref f38) = true)
    (a39 : PySem.W.nsIn K mainGlobals "_law_put" = some (some (.ref f39))) (l39 : K.lookup f39 = some ⟨oc39, od39, .func (PySem.W.fnOf "_law_put" "_law_put" (defArgs s__law_put) (defBody s__law_put) (defScope s__law_put) .none kV39 dc39 pm39 an39 cd39 ct39), sl39⟩) (c39 : PySem.W.codeIn K cd39 "_law_put" = true) (k39 : PySem.W.keepIn K (.ref f39) = true)
    (a40 : PySem.W.nsIn K mainGlobals "_law_flows" = some (some (.ref f40))) (l40 : K.lookup f40 = some ⟨oc40, od40, .func (PySem.W.fnOf "_law_flows" "_law_flows" (defArgs s__law_flows) (defBody s__law_flows) (defScope s__law_flows) .none kV40 dc40 pm40 an40 cd40 ct40), sl40⟩) (c40 : PySem.W.codeIn K cd40 "_law_flows" = true) (k40 : PySem.W.keepIn K (.ref f40) = true)
    (a41 : PySem.W.nsIn K mainGlobals "_law_owed" = some (some (.ref f41))) (l41 : K.lookup f41 = some ⟨oc41, od41, .func (PySem.W.fnOf "_law_owed" "_law_owed" (defArgs s__law_owed) (defBody s__law_owed) (defScope s__law_owed) .none kV41 dc41 pm41 an41 cd41 ct41), sl41⟩) (c41 : PySem.W.codeIn K cd41 "_law_owed" = true) (k41 : PySem.W.keepIn K (.ref f41) = true)
    (a42 : PySem.W.nsIn K mainGlobals "_law_net" = some (some (.ref f42))) (l42 : K.lookup f42 = some ⟨oc42, od42, .func (PySem.W.fnOf "_law_net" "_law_net" (defArgs s__law_net) (defBody s__law_net) (defScope s__law_net) .none kV42 dc42 pm42 an42 cd42 ct42), sl42⟩) (c42 : PySem.W.codeIn K cd42 "_law_net" = true) (k42 : PySem.W.keepIn K (.ref f42) = true)
    (a43 : PySem.W.nsIn K mainGlobals "_law_nexts" = some (some (.ref f43))) (l43 : K.lookup f43 = some ⟨oc43, od43, .func (PySem.W.fnOf "_law_nexts" "_law_nexts" (defArgs s__law_nexts) (defBody s__law_nexts) (defScope s__law_nexts) .none kV43 dc43 pm43 an43 cd43 ct43), sl43⟩) (c43 : PySem.W.codeIn K cd43 "_law_nexts" = true) (k43 : PySem.W.keepIn K (.ref f43) = true)
    (a44 : PySem.W.nsIn K mainGlobals "_law_futures" = some (some (.ref f44))) (l44 : K.lookup f44 = some ⟨oc44, od44, .func (PySem.W.fnOf "_law_futures" "_law_futures" (defArgs s__law_futures) (defBody s__law_futures) (defScope s__law_futures) .none kV44 dc44 pm44 an44 cd44 ct44), sl44⟩) (c44 : PySem.W.codeIn K cd44 "_law_futures" = true) (k44 : PySem.W.keepIn K (.ref f44) = true)
    (a45 : PySem.W.nsIn K mainGlobals "_law_case" = some (some (.ref f45))) (l45 : K.lookup f45 = some ⟨oc45, od45, .func (PySem.W.fnOf "_law_case" "_law_case" (defArgs s__law_case) (defBody s__law_case) (defScope s__law_case) .none kV45 dc45 pm45 an45 cd45 ct45), sl45⟩) (c45 : PySem.W.codeIn K cd45 "_law_case" = true) (k45 : PySem.W.keepIn K (.ref f45) = true)
    (a46 : PySem.W.nsIn K mainGlobals "law" = some (some (.ref f46))) (l46 : K.lookup f46 = some ⟨oc46, od46, .func (PySem.W.fnOf "law" "law" (defArgs s_law) (defBody s_law) (defScope s_law) .none kV46 dc46 pm46 an46 cd46 ct46), sl46⟩) (c46 : PySem.W.codeIn K cd46 "law" = true) (k46 : PySem.W.keepIn K (.ref f46) = true)
    (xg_BadMarket : PySem.W.nsIn K mainGlobals "BadMarket" = some (some (.ref C_BadMarket))) (xx_BadMarket : PySem.W.excIn K C_BadMarket [.type "ValueError", .type "Exception", .type "BaseException", .type "object"] "ValueError.__new__" = true) (xk_BadMarket : PySem.W.keepIn K (.ref C_BadMarket) = true) (xs_BadMarket : PySem.W.subIn K (.ref C_BadMarket) (.type "BaseException") = some true) (xt_BadMarket : PySem.W.typeIn K (.ref C_BadMarket) = some (.type "type"))
    (z_len : PySem.W.nsIn K mainGlobals "len" = some none)
    (z_int : PySem.W.nsIn K mainGlobals "int" = some none)
    (z_range : PySem.W.nsIn K mainGlobals "range" = some none)
    (z_all : PySem.W.nsIn K mainGlobals "all" = some none)
    (z_LETTERS : PySem.W.nsIn K mainGlobals "LETTERS" = some (some (.str "abcdefghijklmnopqrstuvwxyz" t_LETTERS)))
    (z_LONGEST_WORD : PySem.W.nsIn K mainGlobals "LONGEST_WORD" = some (some (.int 8 t_LONGEST_WORD)))
    (z_isinstance : PySem.W.nsIn K mainGlobals "isinstance" = some none)
    (z_str : PySem.W.nsIn K mainGlobals "str" = some none)
    (z_bool : PySem.W.nsIn K mainGlobals "bool" = some none)
    (z_TOO_LARGE : PySem.W.nsIn K mainGlobals "TOO_LARGE" = some (some (.int 1000000000000 t_TOO_LARGE)))
    (z_set : PySem.W.nsIn K mainGlobals "set" = some none)
    (z_MOST_WEIGHT : PySem.W.nsIn K mainGlobals "MOST_WEIGHT" = some (some (.int 999 t_MOST_WEIGHT)))
    (z_tuple : PySem.W.nsIn K mainGlobals "tuple" = some none)
    (z_MOST_STEPS : PySem.W.nsIn K mainGlobals "MOST_STEPS" = some (some (.int 4 t_MOST_STEPS)))
    (z_list : PySem.W.nsIn K mainGlobals "list" = some none)
    (z_MOST_NAMES : PySem.W.nsIn K mainGlobals "MOST_NAMES" = some (some (.int 3 t_MOST_NAMES)))
    (z_max : PySem.W.nsIn K mainGlobals "max" = some none)
    (z_min : PySem.W.nsIn K mainGlobals "min" = some none)
    (z_LAST_HOUR : PySem.W.nsIn K mainGlobals "LAST_HOUR" = some (some (.int 12 t_LAST_HOUR)))
    (z_zip : PySem.W.nsIn K mainGlobals "zip" = some none)
    (z_CONTRACTS : PySem.W.nsIn K mainGlobals "CONTRACTS" = some (some (.ref d_CONTRACTS))) (w_CONTRACTS : He.dicW K d_CONTRACTS = some (He.keysIn w.params (ctrForms.map (·.1)))) (o_CONTRACTS : tabOk K d_CONTRACTS ctrForms = true)
    (z_NOTHING : PySem.W.nsIn K mainGlobals "NOTHING" = some (some (.ref d_NOTHING))) (o_NOTHING : pairOk K d_NOTHING (0) (0) = true)
    (z_sum : PySem.W.nsIn K mainGlobals "sum" = some none)
    (z_reversed : PySem.W.nsIn K mainGlobals "reversed" = some none)
    (z_enumerate : PySem.W.nsIn K mainGlobals "enumerate" = some none)
    (z_sorted : PySem.W.nsIn K mainGlobals "sorted" = some none)
    (z_dict : PySem.W.nsIn K mainGlobals "dict" = some none)
    : LamX.LawAtS l w K CX0 18 63 "_law_script" mg fa h := by
  have e := hfa.symm.trans (PySem.W.mg_of X G a46)
  cases e
  have tab := TO "is_word" cT PT rT (tabIn_of a11 l11 rfl cc v11)
  refine ⟨(PySem.W.fnOf "law" "law" (defArgs s_law) (defBody s_law) (defScope s_law) .none kV46 dc46 pm46 an46 cd46 ct46), [(cT, PT)], (spLaw K PT), fun p hp => ?_, fun p hp => ?_, fun p hp => ?_, fun s v => .of_eq rfl, fun H a ns hl _ hT hS => ⟨ns, a, rfl, hS, hl, ⟨#[], hT _ (List.mem_singleton.mpr rfl), trivial⟩, fun _ => rfl⟩, fun base _ _ hTB => ?_⟩
  · rw [List.mem_singleton.mp hp]; exact tab.2
  · rw [List.mem_singleton.mp hp]; exact nP
  · rw [List.mem_singleton.mp hp]; exact tab.1
  · have tq := hTB _ (List.mem_singleton.mpr rfl)
    have tb : GxR.TabB base mg cT PT := ⟨tq.code, tq.bm, tq.gP⟩
    have X_BadMarket : ExcT K mg "BadMarket" C_BadMarket := ⟨PySem.W.mg_of X G xg_BadMarket, xx_BadMarket, xk_BadMarket, xs_BadMarket, xt_BadMarket⟩
    have m_len : mg "len" = none := PySem.W.mg_none_of X G z_len
    have m_int : mg "int" = none := PySem.W.mg_none_of X G z_int
    have m_range : mg "range" = none := PySem.W.mg_none_of X G z_range
    have m_all : mg "all" = none := PySem.W.mg_none_of X G z_all
    have m_LETTERS := PySem.W.mg_of X G z_LETTERS
    have m_LONGEST_WORD := PySem.W.mg_of X G z_LONGEST_WORD
    have m_isinstance : mg "isinstance" = none := PySem.W.mg_none_of X G z_isinstance
    have m_str : mg "str" = none := PySem.W.mg_none_of X G z_str
    have m_bool : mg "bool" = none := PySem.W.mg_none_of X G z_bool
    have m_TOO_LARGE := PySem.W.mg_of X G z_TOO_LARGE
    have m_set : mg "set" = none := PySem.W.mg_none_of X G z_set
    have m_MOST_WEIGHT := PySem.W.mg_of X G z_MOST_WEIGHT
    have m_tuple : mg "tuple" = none := PySem.W.mg_none_of X G z_tuple
    have m_MOST_STEPS := PySem.W.mg_of X G z_MOST_STEPS
    have m_list : mg "list" = none := PySem.W.mg_none_of X G z_list
    have m_MOST_NAMES := PySem.W.mg_of X G z_MOST_NAMES
    have m_max : mg "max" = none := PySem.W.mg_none_of X G z_max
    have m_min : mg "min" = none := PySem.W.mg_none_of X G z_min
    have m_LAST_HOUR := PySem.W.mg_of X G z_LAST_HOUR
    have m_zip : mg "zip" = none := PySem.W.mg_none_of X G z_zip
    have F_CONTRACTS : FTab K w mg "CONTRACTS" ctrForms d_CONTRACTS := FTab.of (PySem.W.mg_of X G z_CONTRACTS) w_CONTRACTS o_CONTRACTS
    have F_NOTHING : PairC K mg "NOTHING" (0) (0) d_NOTHING := ⟨PySem.W.mg_of X G z_NOTHING, o_NOTHING⟩
    have m_sum : mg "sum" = none := PySem.W.mg_none_of X G z_sum
    have m_reversed : mg "reversed" = none := PySem.W.mg_none_of X G z_reversed
    have m_enumerate : mg "enumerate" = none := PySem.W.mg_none_of X G z_enumerate
    have m_sorted : mg "sorted" = none := PySem.W.mg_none_of X G z_sorted
    have m_dict : mg "dict" = none := PySem.W.mg_none_of X G z_dict
    have cl_Market : Cls K C_Market := ⟨pg_Market, hd_Market, po_Market, sa_Market⟩
    have O0 : Own K mg "_law_taken" s__law_taken ["_law_s", "_law_most"] f0 _ := ⟨fun_mk (st := s__law_taken) l0 c0 k0, PySem.W.mg_of X G a0, (fun_mk (st := s__law_taken) l0 c0 k0).binds (ps := ["_law_s", "_law_most"]) fun _ _ _ _ _ _ us hl => match us, hl with | [_, _], _ => rfl⟩
    have O1 : Own K mg "_law_word" s__law_word ["_law_s", "_law_k"] f1 _ := ⟨fun_mk (st := s__law_word) l1 c1 k1, PySem.W.mg_of X G a1, (fun_mk (st := s__law_word) l1 c1 k1).binds (ps := ["_law_s", "_law_k"]) fun _ _ _ _ _ _ us hl => match us, hl with | [_, _], _ => rfl⟩
    have O2 : Own K mg "_law_number" s__law_number ["_law_s"] f2 _ := ⟨fun_mk (st := s__law_number) l2 c2 k2, PySem.W.mg_of X G a2, (fun_mk (st := s__law_number) l2 c2 k2).binds (ps := ["_law_s"]) fun _ _ _ _ _ _ us hl => match us, hl with | [_], _ => rfl⟩
    have O3 : Own K mg "_law_told" s__law_told ["_law_s", "_law_deep"] f3 _ := ⟨fun_mk (st := s__law_told) l3 c3 k3, PySem.W.mg_of X G a3, (fun_mk (st := s__law_told) l3 c3 k3).binds (ps := ["_law_s", "_law_deep"]) fun _ _ _ _ _ _ us hl => match us, hl with | [_, _], _ => rfl⟩
    have O4 : Own K mg "_law_begun" s__law_begun ["_law_script"] f4 _ := ⟨fun_mk (st := s__law_begun) l4 c4 k4, PySem.W.mg_of X G a4, (fun_mk (st := s__law_begun) l4 c4 k4).binds (ps := ["_law_script"]) fun _ _ _ _ _ _ us hl => match us, hl with | [_], _ => rfl⟩
    have O5 : Own K mg "_law_asked" s__law_asked ["_law_s", "_law_deep"] f5 _ := ⟨fun_mk (st := s__law_asked) l5 c5 k5, PySem.W.mg_of X G a5, (fun_mk (st := s__law_asked) l5 c5 k5).binds (ps := ["_law_s", "_law_deep"]) fun _ _ _ _ _ _ us hl => match us, hl with | [_, _], _ => rfl⟩
    have O6 : Own K mg "_law_sides" s__law_sides ["_law_s"] f6 _ := ⟨fun_mk (st := s__law_sides) l6 c6 k6, PySem.W.mg_of X G a6, (fun_mk (st := s__law_sides) l6 c6 k6).binds (ps := ["_law_s"]) fun _ _ _ _ _ _ us hl => match us, hl with | [_], _ => rfl⟩
    have O7 : Own K mg "_law_good" s__law_good ["_law_s"] f7 _ := ⟨fun_mk (st := s__law_good) l7 c7 k7, PySem.W.mg_of X G a7, (fun_mk (st := s__law_good) l7 c7 k7).binds (ps := ["_law_s"]) fun _ _ _ _ _ _ us hl => match us, hl with | [_], _ => rfl⟩
    have O8 : Own K mg "_law_give" s__law_give ["_law_s"] f8 _ := ⟨fun_mk (st := s__law_give) l8 c8 k8, PySem.W.mg_of X G a8, (fun_mk (st := s__law_give) l8 c8 k8).binds (ps := ["_law_s"]) fun _ _ _ _ _ _ us hl => match us, hl with | [_], _ => rfl⟩
    have O9 : Own K mg "_law_contract" s__law_contract ["_law_s", "_law_deep"] f9 _ := ⟨fun_mk (st := s__law_contract) l9 c9 k9, PySem.W.mg_of X G a9, (fun_mk (st := s__law_contract) l9 c9 k9).binds (ps := ["_law_s", "_law_deep"]) fun _ _ _ _ _ _ us hl => match us, hl with | [_, _], _ => rfl⟩
    have O10 : Own K mg "_law_drawn" s__law_drawn ["_law_s", "_law_many"] f10 _ := ⟨fun_mk (st := s__law_drawn) l10 c10 k10, PySem.W.mg_of X G a10, (fun_mk (st := s__law_drawn) l10 c10 k10).binds (ps := ["_law_s", "_law_many"]) fun _ _ _ _ _ _ us hl => match us, hl with | [_, _], _ => rfl⟩
    have O11 : OwnC cT K mg "is_word" s_is_word ["told"] f11 _ := OwnC.mk' (st := s_is_word) l11 c11 k11 (PySem.W.mg_of X G a11) (.all fun us hl => match us, hl with | [_], _ => rfl)
    have O12 : Own K mg "is_whole" s_is_whole ["told"] f12 _ := ⟨fun_mk (st := s_is_whole) l12 c12 k12, PySem.W.mg_of X G a12, (fun_mk (st := s_is_whole) l12 c12 k12).binds (ps := ["told"]) fun _ _ _ _ _ _ us hl => match us, hl with | [_], _ => rfl⟩
    have O13 : Own K mg "is_between" s_is_between ["told", "low", "high"] f13 _ := ⟨fun_mk (st := s_is_between) l13 c13 k13, PySem.W.mg_of X G a13, (fun_mk (st := s_is_between) l13 c13 k13).binds (ps := ["told", "low", "high"]) fun _ _ _ _ _ _ us hl => match us, hl with | [_, _, _], _ => rfl⟩
    have O14 : Own K mg "is_amount" s_is_amount ["told"] f14 _ := ⟨fun_mk (st := s_is_amount) l14 c14 k14, PySem.W.mg_of X G a14, (fun_mk (st := s_is_amount) l14 c14 k14).binds (ps := ["told"]) fun _ _ _ _ _ _ us hl => match us, hl with | [_], _ => rfl⟩
    have O15 : Own K mg "_need_steps" s__need_steps ["steps"] f15 _ := ⟨fun_mk (st := s__need_steps) l15 c15 k15, PySem.W.mg_of X G a15, (fun_mk (st := s__need_steps) l15 c15 k15).binds (ps := ["steps"]) fun _ _ _ _ _ _ us hl => match us, hl with | [_], _ => rfl⟩
    have O16 : Own K mg "_need_names" s__need_names ["names"] f16 _ := ⟨fun_mk (st := s__need_names) l16 c16 k16, PySem.W.mg_of X G a16, (fun_mk (st := s__need_names) l16 c16 k16).binds (ps := ["names"]) fun _ _ _ _ _ _ us hl => match us, hl with | [_], _ => rfl⟩
    have O17 : Own K mg "_law_steps" s__law_steps ["_law_s"] f17 _ := ⟨fun_mk (st := s__law_steps) l17 c17 k17, PySem.W.mg_of X G a17, (fun_mk (st := s__law_steps) l17 c17 k17).binds (ps := ["_law_s"]) fun _ _ _ _ _ _ us hl => match us, hl with | [_], _ => rfl⟩
    have O18 : Own K mg "_law_market" s__law_market ["_law_s", "_law_many"] f18 _ := ⟨fun_mk (st := s__law_market) l18 c18 k18, PySem.W.mg_of X G a18, (fun_mk (st := s__law_market) l18 c18 k18).binds (ps := ["_law_s", "_law_many"]) fun _ _ _ _ _ _ us hl => match us, hl with | [_, _], _ => rfl⟩
    have O19 : OwnM K "__init__" "Market.__init__" s_Market ["self", "last", "names"] f19 _ := ⟨fun_mk (st := s_Market) l19 c19 k19, (fun_mk (st := s_Market) l19 c19 k19).binds (ps := ["self", "last", "names"]) fun _ _ _ _ _ _ us hl => match us, hl with | [_, _, _], _ => rfl⟩
    have T19 : ClsT K mg "Market" C_Market f19 := ⟨PySem.W.mg_of X G ca_Market, ⟨mk19, i19, j19, kc19⟩, cl_Market⟩
    have O20 : Own K mg "turned_side" s_turned_side ["side", "one", "other"] f20 _ := ⟨fun_mk (st := s_turned_side) l20 c20 k20, PySem.W.mg_of X G a20, (fun_mk (st := s_turned_side) l20 c20 k20).binds (ps := ["side", "one", "other"]) fun _ _ _ _ _ _ us hl => match us, hl with | [_, _, _], _ => rfl⟩
    have O21 : Own K mg "contracts_in" s_contracts_in ["contract"] f21 _ := ⟨fun_mk (st := s_contracts_in) l21 c21 k21, PySem.W.mg_of X G a21, (fun_mk (st := s_contracts_in) l21 c21 k21).binds (ps := ["contract"]) fun _ _ _ _ _ _ us hl => match us, hl with | [_], _ => rfl⟩
    have O22 : Own K mg "reckoned" s_reckoned ["word", "first", "second"] f22 _ := ⟨fun_mk (st := s_reckoned) l22 c22 k22, PySem.W.mg_of X G a22, (fun_mk (st := s_reckoned) l22 c22 k22).binds (ps := ["word", "first", "second"]) fun _ _ _ _ _ _ us hl => match us, hl with | [_, _, _], _ => rfl⟩
    have O23 : Own K mg "_cover" s__cover ["one", "other"] f23 _ := ⟨fun_mk (st := s__cover) l23 c23 k23, PySem.W.mg_of X G a23, (fun_mk (st := s__cover) l23 c23 k23).binds (ps := ["one", "other"]) fun _ _ _ _ _ _ us hl => match us, hl with | [_, _], _ => rfl⟩
    have O24 : Own K mg "_covering" s__covering ["one", "other"] f24 _ := ⟨fun_mk (st := s__covering) l24 c24 k24, PySem.W.mg_of X G a24, (fun_mk (st := s__covering) l24 c24 k24).binds (ps := ["one", "other"]) fun _ _ _ _ _ _ us hl => match us, hl with | [_, _], _ => rfl⟩
    have O25 : Own K mg "_nothing" s__nothing ["rows"] f25 _ := ⟨fun_mk (st := s__nothing) l25 c25 k25, PySem.W.mg_of X G a25, (fun_mk (st := s__nothing) l25 c25 k25).binds (ps := ["rows"]) fun _ _ _ _ _ _ us hl => match us, hl with | [_], _ => rfl⟩
    have O26 : Own K mg "_chosen" s__chosen ["can", "one", "other"] f26 _ := ⟨fun_mk (st := s__chosen) l26 c26 k26, PySem.W.mg_of X G a26, (fun_mk (st := s__chosen) l26 c26 k26).binds (ps := ["can", "one", "other"]) fun _ _ _ _ _ _ us hl => match us, hl with | [_, _, _], _ => rfl⟩
    have O27 : Own K mg "_summed" s__summed ["courses", "rows"] f27 _ := ⟨fun_mk (st := s__summed) l27 c27 k27, PySem.W.mg_of X G a27, (fun_mk (st := s__summed) l27 c27 k27).binds (ps := ["courses", "rows"]) fun _ _ _ _ _ _ us hl => match us, hl with | [_, _], _ => rfl⟩
    have O28 : Own K mg "_span_of" s__span_of ["told", "row"] f28 _ := ⟨fun_mk (st := s__span_of) l28 c28 k28, PySem.W.mg_of X G a28, (fun_mk (st := s__span_of) l28 c28 k28).binds (ps := ["told", "row"]) fun _ _ _ _ _ _ us hl => match us, hl with | [_, _], _ => rfl⟩
    have O29 : Own K mg "_can" s__can ["asked", "row"] f29 _ := ⟨fun_mk (st := s__can) l29 c29 k29, PySem.W.mg_of X G a29, (fun_mk (st := s__can) l29 c29 k29).binds (ps := ["asked", "row"]) fun _ _ _ _ _ _ us hl => match us, hl with | [_, _], _ => rfl⟩
    have O30 : Own K mg "_given" s__given ["give", "rows", "hour", "side", "good"] f30 _ := ⟨fun_mk (st := s__given) l30 c30 k30, PySem.W.mg_of X G a30, (fun_mk (st := s__given) l30 c30 k30).binds (ps := ["give", "rows", "hour", "side", "good"]) fun _ _ _ _ _ _ us hl => match us, hl with | [_, _, _, _, _], _ => rfl⟩
    have O31 : Own K mg "_repeated" s__repeated ["times", "wait", "gap", "courses"] f31 _ := ⟨fun_mk (st := s__repeated) l31 c31 k31, PySem.W.mg_of X G a31, (fun_mk (st := s__repeated) l31 c31 k31).binds (ps := ["times", "wait", "gap", "courses"]) fun _ _ _ _ _ _ us hl => match us, hl with | [_, _, _, _], _ => rfl⟩
    have O32 : Own K mg "_awaited" s__awaited ["cans", "courses"] f32 _ := ⟨fun_mk (st := s__awaited) l32 c32 k32, PySem.W.mg_of X G a32, (fun_mk (st := s__awaited) l32 c32 k32).binds (ps := ["cans", "courses"]) fun _ _ _ _ _ _ us hl => match us, hl with | [_, _], _ => rfl⟩
    have O33 : Own K mg "_ended" s__ended ["cans", "begin", "course"] f33 _ := ⟨fun_mk (st := s__ended) l33 c33 k33, PySem.W.mg_of X G a33, (fun_mk (st := s__ended) l33 c33 k33).binds (ps := ["cans", "begin", "course"]) fun _ _ _ _ _ _ us hl => match us, hl with | [_, _, _], _ => rfl⟩
    have O34 : Own K mg "_row_of" s__row_of ["market", "hour"] f34 _ := ⟨fun_mk (st := s__row_of) l34 c34 k34, PySem.W.mg_of X G a34, (fun_mk (st := s__row_of) l34 c34 k34).binds (ps := ["market", "hour"]) fun _ _ _ _ _ _ us hl => match us, hl with | [_, _], _ => rfl⟩
    have O35 : Own K mg "_courses" s__courses ["contract", "rows", "side", "good"] f35 _ := ⟨fun_mk (st := s__courses) l35 c35 k35, PySem.W.mg_of X G a35, (fun_mk (st := s__courses) l35 c35 k35).binds (ps := ["contract", "rows", "side", "good"]) fun _ _ _ _ _ _ us hl => match us, hl with | [_, _, _, _], _ => rfl⟩
    have O36 : Own K mg "spans" s_spans ["contract", "market", "side", "good"] f36 _ := ⟨fun_mk (st := s_spans) l36 c36 k36, PySem.W.mg_of X G a36, (fun_mk (st := s_spans) l36 c36 k36).binds (ps := ["contract", "market", "side", "good"]) fun _ _ _ _ _ _ us hl => match us, hl with | [_, _, _, _], _ => rfl⟩
    have O37 : Own K mg "_law_value" s__law_value ["_law_told_here", "_law_row"] f37 _ := ⟨fun_mk (st := s__law_value) l37 c37 k37, PySem.W.mg_of X G a37, (fun_mk (st := s__law_value) l37 c37 k37).binds (ps := ["_law_told_here", "_law_row"]) fun _ _ _ _ _ _ us hl => match us, hl with | [_, _], _ => rfl⟩
    have O38 : Own K mg "_law_holds" s__law_holds ["_law_asked_here", "_law_row"] f38 _ := ⟨fun_mk (st := s__law_holds) l38 c38 k38, PySem.W.mg_of X G a38, (fun_mk (st := s__law_holds) l38 c38 k38).binds (ps := ["_law_asked_here", "_law_row"]) fun _ _ _ _ _ _ us hl => match us, hl with | [_, _], _ => rfl⟩
    have O39 : Own K mg "_law_put" s__law_put ["_law_flows_here", "_law_hour", "_law_one", "_law_other", "_law_good_here", "_law_many"] f39 _ := ⟨fun_mk (st := s__law_put) l39 c39 k39, PySem.W.mg_of X G a39, (fun_mk (st := s__law_put) l39 c39 k39).binds (ps := ["_law_flows_here", "_law_hour", "_law_one", "_law_other", "_law_good_here", "_law_many"]) fun _ _ _ _ _ _ us hl => match us, hl with | [_, _, _, _, _, _], _ => rfl⟩
    have O40 : Own K mg "_law_flows" s__law_flows ["_law_contract_here", "_law_begin", "_law_rows", "_law_end", "_law_flows_here"] f40 _ := ⟨fun_mk (st := s__law_flows) l40 c40 k40, PySem.W.mg_of X G a40, (fun_mk (st := s__law_flows) l40 c40 k40).binds (ps := ["_law_contract_here", "_law_begin", "_law_rows", "_law_end", "_law_flows_here"]) fun _ _ _ _ _ _ us hl => match us, hl with | [_, _, _, _, _], _ => rfl⟩
    have O41 : Own K mg "_law_owed" s__law_owed ["_law_contract_here", "_law_rows"] f41 _ := ⟨fun_mk (st := s__law_owed) l41 c41 k41, PySem.W.mg_of X G a41, (fun_mk (st := s__law_owed) l41 c41 k41).binds (ps := ["_law_contract_here", "_law_rows"]) fun _ _ _ _ _ _ us hl => match us, hl with | [_, _], _ => rfl⟩
    have O42 : Own K mg "_law_net" s__law_net ["_law_told_here", "_law_side", "_law_good_here"] f42 _ := ⟨fun_mk (st := s__law_net) l42 c42 k42, PySem.W.mg_of X G a42, (fun_mk (st := s__law_net) l42 c42 k42).binds (ps := ["_law_told_here", "_law_side", "_law_good_here"]) fun _ _ _ _ _ _ us hl => match us, hl with | [_, _, _], _ => rfl⟩
    have O43 : Own K mg "_law_nexts" s__law_nexts ["_law_names", "_law_row"] f43 _ := ⟨fun_mk (st := s__law_nexts) l43 c43 k43, PySem.W.mg_of X G a43, (fun_mk (st := s__law_nexts) l43 c43 k43).binds (ps := ["_law_names", "_law_row"]) fun _ _ _ _ _ _ us hl => match us, hl with | [_, _], _ => rfl⟩
    have O44 : Own K mg "_law_futures" s__law_futures ["_law_market_here"] f44 _ := ⟨fun_mk (st := s__law_futures) l44 c44 k44, PySem.W.mg_of X G a44, (fun_mk (st := s__law_futures) l44 c44 k44).binds (ps := ["_law_market_here"]) fun _ _ _ _ _ _ us hl => match us, hl with | [_], _ => rfl⟩
    have O45 : Own K mg "_law_case" s__law_case ["_law_s"] f45 _ := ⟨fun_mk (st := s__law_case) l45 c45 k45, PySem.W.mg_of X G a45, (fun_mk (st := s__law_case) l45 c45 k45).binds (ps := ["_law_s"]) fun _ _ _ _ _ _ us hl => match us, hl with | [_], _ => rfl⟩
    have O46 : Own K mg "law" s_law ["_law_script"] fa _ := ⟨fun_mk (st := s_law) l46 c46 k46, PySem.W.mg_of X G a46, (fun_mk (st := s_law) l46 c46 k46).binds (ps := ["_law_script"]) fun _ _ _ _ _ _ us hl => match us, hl with | [_], _ => rfl⟩
    have H__law_taken := h__law_taken (P := l.prog) (w := w) (mg := mg) (base := base) (k := 0) O0   m_len m_int
    have H__law_word := h__law_word (P := l.prog) (w := w) (mg := mg) (base := base) (k := 0) O1   
    have H__law_number := h__law_number (P := l.prog) (w := w) (mg := mg) (base := base) (k := 1) O2  (H__law_taken.mono (by omega)) 
    have R__law_told : ∀ n : Nat, Has l.prog w K mg base "_law_told" ["_law_s", "_law_deep"] (2 + n) CX0 (spTold K n) f3 (PySem.W.fnOf "_law_told" "_law_told" (defArgs s__law_told) (defBody s__law_told) (defScope s__law_told) .none kV3 dc3 pm3 an3 cd3 ct3) := fun n => by
      induction n with
      | zero => exact O3.has ((none_told (P := l.prog) (w := w) (mg := mg) (base := base)).mono (Nat.zero_le _))
      | succ n ih => exact h__law_told (P := l.prog) (w := w) (mg := mg) (base := base) (n := n) (k := 2 + n) O3  ih (H__law_number.mono (by omega)) (H__law_taken.mono (by omega)) m_len
    have H__law_told := R__law_told 4
    have H__law_begun := h__law_begun (P := l.prog) (w := w) (mg := mg) (base := base) (k := 1) O4  (H__law_taken.mono (by omega)) m_int m_len
    have R__law_asked : ∀ n : Nat, Has l.prog w K mg base "_law_asked" ["_law_s", "_law_deep"] (6 + n) CX0 (spAsked K n) f5 (PySem.W.fnOf "_law_asked" "_law_asked" (defArgs s__law_asked) (defBody s__law_asked) (defScope s__law_asked) .none kV5 dc5 pm5 an5 cd5 ct5) := fun n => by
      induction n with
      | zero => exact O5.has ((none_asked (P := l.prog) (w := w) (mg := mg) (base := base)).mono (Nat.zero_le _))
      | succ n ih => exact h__law_asked (P := l.prog) (w := w) (mg := mg) (base := base) (n := n) (k := 6 + n) O5  ih (H__law_told.mono (by omega)) (H__law_taken.mono (by omega)) 
    have H__law_asked := R__law_asked 4
    have H__law_sides := h__law_sides (P := l.prog) (w := w) (mg := mg) (base := base) (k := 1) O6  (H__law_word.mono (by omega)) (H__law_taken.mono (by omega)) 
    have H__law_good := h__law_good (P := l.prog) (w := w) (mg := mg) (base := base) (k := 1) O7  (H__law_word.mono (by omega)) (H__law_taken.mono (by omega)) 
    have H__law_give := h__law_give (P := l.prog) (w := w) (mg := mg) (base := base) (k := 6) O8  (H__law_told.mono (by omega)) (H__law_good.mono (by omega)) (H__law_sides.mono (by omega)) 
    have R__law_contract : ∀ n : Nat, Has l.prog w K mg base "_law_contract" ["_law_s", "_law_deep"] (10 + n) CX0 (spContract K n) f9 (PySem.W.fnOf "_law_contract" "_law_contract" (defArgs s__law_contract) (defBody s__law_contract) (defScope s__law_contract) .none kV9 dc9 pm9 an9 cd9 ct9) := fun n => by
      induction n with
      | zero => exact O9.has ((none_contract (P := l.prog) (w := w) (mg := mg) (base := base)).mono (Nat.zero_le _))
      | succ n ih => exact h__law_contract (P := l.prog) (w := w) (mg := mg) (base := base) (n := n) (k := 10 + n) O9  ih (H__law_asked.mono (by omega)) (H__law_taken.mono (by omega)) (H__law_sides.mono (by omega)) (H__law_give.mono (by omega)) m_int
    have H__law_contract := R__law_contract 4
    have H__law_drawn := h__law_drawn (P := l.prog) (w := w) (mg := mg) (base := base) (k := 14) O10  (H__law_taken.mono (by omega)) (H__law_sides.mono (by omega)) (H__law_asked.mono (by omega)) (H__law_told.mono (by omega)) (H__law_good.mono (by omega)) (H__law_contract.mono (by omega)) (H__law_word.mono (by omega)) m_range
    have H_is_word := h_is_word (P := l.prog) (w := w) (mg := mg) (base := base) (k := 0) tb O11   m_all m_LETTERS m_len m_LONGEST_WORD m_isinstance m_str
    have H_is_whole := h_is_whole (P := l.prog) (w := w) (mg := mg) (base := base) (k := 0) O12   m_isinstance m_bool m_int
    have H_is_between := h_is_between (P := l.prog) (w := w) (mg := mg) (base := base) (k := 1) O13  (H_is_whole.mono (by omega)) 
    have H_is_amount := h_is_amount (P := l.prog) (w := w) (mg := mg) (base := base) (k := 1) O14  (H_is_whole.mono (by omega)) m_TOO_LARGE
    have H__need_steps := h__need_steps (P := l.prog) (w := w) (mg := mg) (base := base) (k := 2) O15 X_BadMarket (H_is_between.mono (by omega)) (H_is_amount.mono (by omega)) m_len m_set m_MOST_WEIGHT m_isinstance m_tuple m_MOST_STEPS m_list
    have H__need_names := h__need_names (P := l.prog) (w := w) (mg := mg) (base := base) (k := 3) O16 X_BadMarket (H__need_steps.mono (by omega)) (H_is_amount.mono (by omega)) (H_is_word.mono (by omega)) m_len m_set m_isinstance m_tuple m_MOST_NAMES m_list
    have H__law_steps := h__law_steps (P := l.prog) (w := w) (mg := mg) (base := base) (k := 1) O17  (H__law_taken.mono (by omega)) m_range
    have H__law_market := h__law_market (P := l.prog) (w := w) (mg := mg) (base := base) (k := 2) O18  (H__law_taken.mono (by omega)) (H__law_steps.mono (by omega)) (H__law_word.mono (by omega)) (H__law_number.mono (by omega)) m_range m_max m_min
    have H_Market := h_Market (P := l.prog) (w := w) (mg := mg) (base := base) (k := 4) T19 O19 n_Market_last n_Market_names X_BadMarket (H__need_names.mono (by omega)) (H_is_between.mono (by omega)) m_tuple m_LAST_HOUR
    have H_turned_side := h_turned_side (P := l.prog) (w := w) (mg := mg) (base := base) (k := 0) O20   
    have H_contracts_in := h_contracts_in (P := l.prog) (w := w) (mg := mg) (base := base) (k := 0) O21   m_zip F_CONTRACTS
    have H_reckoned := h_reckoned (P := l.prog) (w := w) (mg := mg) (base := base) (k := 0) O22   m_min m_max
    have H__cover := h__cover (P := l.prog) (w := w) (mg := mg) (base := base) (k := 0) O23   m_max m_min
    have H__covering := h__covering (P := l.prog) (w := w) (mg := mg) (base := base) (k := 1) O24  (H__cover.mono (by omega)) m_zip
    have H__nothing := h__nothing (P := l.prog) (w := w) (mg := mg) (base := base) (k := 0) O25   F_NOTHING
    have H__chosen := h__chosen (P := l.prog) (w := w) (mg := mg) (base := base) (k := 2) O26  (H__covering.mono (by omega)) 
    have H__summed := h__summed (P := l.prog) (w := w) (mg := mg) (base := base) (k := 0) O27   m_range m_len m_sum
    have R__span_of : ∀ n : Nat, Has l.prog w K mg base "_span_of" ["told", "row"] (1 + n) CX0 (spSpan K n) f28 (PySem.W.fnOf "_span_of" "_span_of" (defArgs s__span_of) (defBody s__span_of) (defScope s__span_of) .none kV28 dc28 pm28 an28 cd28 ct28) := fun n => by
      induction n with
      | zero => exact O28.has ((none_span (P := l.prog) (w := w) (mg := mg) (base := base)).mono (Nat.zero_le _))
      | succ n ih => exact h__span_of (P := l.prog) (w := w) (mg := mg) (base := base) (n := n) (k := 1 + n) O28  (H_reckoned.mono (by omega)) ih m_max m_min
    have H__span_of := R__span_of 4
    have R__can : ∀ n : Nat, Has l.prog w K mg base "_can" ["asked", "row"] (5 + n) CX0 (spCan K n) f29 (PySem.W.fnOf "_can" "_can" (defArgs s__can) (defBody s__can) (defScope s__can) .none kV29 dc29 pm29 an29 cd29 ct29) := fun n => by
      induction n with
      | zero => exact O29.has ((none_can (P := l.prog) (w := w) (mg := mg) (base := base)).mono (Nat.zero_le _))
      | succ n ih => exact h__can (P := l.prog) (w := w) (mg := mg) (base := base) (n := n) (k := 5 + n) O29  ih (H__span_of.mono (by omega)) 
    have H__can := R__can 4
    have H__given := h__given (P := l.prog) (w := w) (mg := mg) (base := base) (k := 5) O30  (H__span_of.mono (by omega)) (H__nothing.mono (by omega)) 
    have H__repeated := h__repeated (P := l.prog) (w := w) (mg := mg) (base := base) (k := 1) O31  (H__summed.mono (by omega)) m_range m_len m_max
    have H__awaited := h__awaited (P := l.prog) (w := w) (mg := mg) (base := base) (k := 3) O32  (H__chosen.mono (by omega)) (H__nothing.mono (by omega)) m_reversed m_range m_len
    have H__ended := h__ended (P := l.prog) (w := w) (mg := mg) (base := base) (k := 1) O33  (H__cover.mono (by omega)) m_zip F_NOTHING
    have H__row_of := h__row_of (P := l.prog) (w := w) (mg := mg) (base := base) (k := 0) O34 cl_Market n_Market_names  m_max m_min
    have R__courses : ∀ n : Nat, Has l.prog w K mg base "_courses" ["contract", "rows", "side", "good"] (9 + n) CX0 (spCrs K n) f35 (PySem.W.fnOf "_courses" "_courses" (defArgs s__courses) (defBody s__courses) (defScope s__courses) .none kV35 dc35 pm35 an35 cd35 ct35) := fun n => by
      induction n with
      | zero => exact O35.has ((none_crs (P := l.prog) (w := w) (mg := mg) (base := base)).mono (Nat.zero_le _))
      | succ n ih => exact h__courses (P := l.prog) (w := w) (mg := mg) (base := base) (n := n) (k := 9 + n) O35  (H__ended.mono (by omega)) (H__awaited.mono (by omega)) (H__chosen.mono (by omega)) (H__can.mono (by omega)) (H__repeated.mono (by omega)) (H__summed.mono (by omega)) (H_contracts_in.mono (by omega)) ih (H_turned_side.mono (by omega)) (H__given.mono (by omega)) (H__nothing.mono (by omega)) m_enumerate m_zip m_range m_len
    have H__courses := R__courses 7
    have H_spans := h_spans (P := l.prog) (w := w) (mg := mg) (base := base) (k := 16) O36 cl_Market n_Market_last (H__courses.mono (by omega)) (H__row_of.mono (by omega)) m_list m_range
    have R__law_value : ∀ n : Nat, Has l.prog w K mg base "_law_value" ["_law_told_here", "_law_row"] (0 + n) CX0 (spLVl K n) f37 (PySem.W.fnOf "_law_value" "_law_value" (defArgs s__law_value) (defBody s__law_value) (defScope s__law_value) .none kV37 dc37 pm37 an37 cd37 ct37) := fun n => by
      induction n with
      | zero => exact O37.has ((none_lvl (P := l.prog) (w := w) (mg := mg) (base := base)).mono (Nat.zero_le _))
      | succ n ih => exact h__law_value (P := l.prog) (w := w) (mg := mg) (base := base) (n := n) (k := 0 + n) O37  ih m_max m_min m_int
    have H__law_value := R__law_value 4
    have R__law_holds : ∀ n : Nat, Has l.prog w K mg base "_law_holds" ["_law_asked_here", "_law_row"] (4 + n) CX0 (spLHl K n) f38 (PySem.W.fnOf "_law_holds" "_law_holds" (defArgs s__law_holds) (defBody s__law_holds) (defScope s__law_holds) .none kV38 dc38 pm38 an38 cd38 ct38) := fun n => by
      induction n with
      | zero => exact O38.has ((none_lhl (P := l.prog) (w := w) (mg := mg) (base := base)).mono (Nat.zero_le _))
      | succ n ih => exact h__law_holds (P := l.prog) (w := w) (mg := mg) (base := base) (n := n) (k := 4 + n) O38  ih (H__law_value.mono (by omega)) 
    have H__law_holds := R__law_holds 4
    have H__law_put := h__law_put (P := l.prog) (w := w) (mg := mg) (base := base) (k := 0) O39   
    have R__law_flows : ∀ n : Nat, Has l.prog w K mg base "_law_flows" ["_law_contract_here", "_law_begin", "_law_rows", "_law_end", "_law_flows_here"] (8 + n) CX0 (spFlw K n) f40 (PySem.W.fnOf "_law_flows" "_law_flows" (defArgs s__law_flows) (defBody s__law_flows) (defScope s__law_flows) .none kV40 dc40 pm40 an40 cd40 ct40) := fun n => by
      induction n with
      | zero => exact O40.has ((none_flw (P := l.prog) (w := w) (mg := mg) (base := base)).mono (Nat.zero_le _))
      | succ n ih => exact h__law_flows (P := l.prog) (w := w) (mg := mg) (base := base) (n := n) (k := 8 + n) O40  (H__law_put.mono (by omega)) (H__law_value.mono (by omega)) ih (H__law_holds.mono (by omega)) m_range m_int m_min m_len
    have H__law_flows := R__law_flows 7
    have H__law_owed := h__law_owed (P := l.prog) (w := w) (mg := mg) (base := base) (k := 15) O41  (H__law_flows.mono (by omega)) m_sorted m_len
    have H__law_net := h__law_net (P := l.prog) (w := w) (mg := mg) (base := base) (k := 0) O42   m_int
    have H__law_nexts := h__law_nexts (P := l.prog) (w := w) (mg := mg) (base := base) (k := 0) O43   m_dict
    have H__law_futures := h__law_futures (P := l.prog) (w := w) (mg := mg) (base := base) (k := 1) O44  (H__law_nexts.mono (by omega)) m_range
    have H__law_case := h__law_case (P := l.prog) (w := w) (mg := mg) (base := base) (k := 15) O45  (H__law_good.mono (by omega)) (H__law_word.mono (by omega)) (H__law_taken.mono (by omega)) (H__law_market.mono (by omega)) (H__law_drawn.mono (by omega)) 
    have H_law := h_law (P := l.prog) (w := w) (mg := mg) (base := base) (k := 17) O46 X_BadMarket cl_Market (H__law_futures.mono (by omega)) (H__law_net.mono (by omega)) (H__law_owed.mono (by omega)) (H_spans.mono (by omega)) (H_Market.mono (by omega)) (H__law_case.mono (by omega)) (H__law_begun.mono (by omega)) m_range m_len m_isinstance m_int m_tuple m_list
    exact H_law.G
end Bk
open PySem PySem.W PyProof.Rows
set_option maxHeartbeats 0 in
theorem PySem.Challenge.cw_contractbook_k24_whole_spans_hold_holds : PySem.Challenge.rw_contractbook_k24_whole_spans_hold.Holds := by
  w_on; o_law; k_head; (case hw => w_witness2)
  k_fill
  refine Bk.walk_tabs (l := PySem.Challenge.rw_contractbook_k24_whole_spans_hold) (n := 63) (k := 18) (x := "_law_script") (CX := fun _ => L2.CX0) rfl (by decide) rfl ⟨rfl, by decide, by decide⟩ (fun w h Y => PySem.W.kIn_of Y) ?F (fun _ _ _ _ _ h => h)
  case F =>
    intro w mg fa h KX G hmg TO
    refine' Bk.all_mk KX G hmg TO ?ca_Market ?pg_Market ?hd_Market ?po_Market ?sa_Market ?n_Market_last ?n_Market_names ?a0 ?l0 ?c0 ?k0 ?a1 ?l1 ?c1 ?k1 ?a2 ?l2 ?c2 ?k2 ?a3 ?l3 ?c3 ?k3 ?a4 ?l4 ?c4 ?k4 ?a5 ?l5 ?c5 ?k5 ?a6 ?l6 ?c6 ?k6 ?a7 ?l7 ?c7 ?k7 ?a8 ?l8 ?c8 ?k8 ?a9 ?l9 ?c9 ?k9 ?a10 ?l10 ?c10 ?k10 ?a11 ?l11 ?c11 ?k11 ?cc ?v11 ?rT ?nP ?a12 ?l12 ?c12 ?k12 ?a13 ?l13 ?c13 ?k13 ?a14 ?l14 ?c14 ?k14 ?a15 ?l15 ?c15 ?k15 ?a16 ?l16 ?c16 ?k16 ?a17 ?l17 ?c17 ?k17 ?a18 ?l18 ?c18 ?k18 ?i19 ?j19 ?l19 ?c19 ?k19 ?mk19 ?kc19 ?a20 ?l20 ?c20 ?k20 ?a21 ?l21 ?c21 ?k21 ?a22 ?l22 ?c22 ?k22 ?a23 ?l23 ?c23 ?k23 ?a24 ?l24 ?c24 ?k24 ?a25 ?l25 ?c25 ?k25 ?a26 ?l26 ?c26 ?k26 ?a27 ?l27 ?c27 ?k27 ?a28 ?l28 ?c28 ?k28 ?a29 ?l29 ?c29 ?k29 ?a30 ?l30 ?c30 ?k30 ?a31 ?l31 ?c31 ?k31 ?a32 ?l32 ?c32 ?k32 ?a33 ?l33 ?c33 ?k33 ?a34 ?l34 ?c34 ?k34 ?a35 ?l35 ?c35 ?k35 ?a36 ?l36 ?c36 ?k36 ?a37 ?l37 ?c37 ?k37 ?a38 ?l38 ?c38 ?k38 ?a39 ?l39 ?c39 ?k39 ?a40 ?l40 ?c40 ?k40 ?a41 ?l41 ?c41 ?k41 ?a42 ?l42 ?c42 ?k42 ?a43 ?l43 ?c43 ?k43 ?a44 ?l44 ?c44 ?k44 ?a45 ?l45 ?c45 ?k45 ?a46 ?l46 ?c46 ?k46 ?xg_BadMarket ?xx_BadMarket ?xk_BadMarket ?xs_BadMarket ?xt_BadMarket ?z_len ?z_int ?z_range ?z_all ?z_LETTERS ?z_LONGEST_WORD ?z_isinstance ?z_str ?z_bool ?z_TOO_LARGE ?z_set ?z_MOST_WEIGHT ?z_tuple ?z_MOST_STEPS ?z_list ?z_MOST_NAMES ?z_max ?z_min ?z_LAST_HOUR ?z_zip ?z_CONTRACTS ?w_CONTRACTS ?o_CONTRACTS ?z_NOTHING ?o_NOTHING ?z_sum ?z_reversed ?z_enumerate ?z_sorted ?z_dict
    (case ca_Market => k_is)
    (case pg_Market => k_is)
    (case hd_Market => k_is)
    (case po_Market => k_is)
    (case sa_Market => k_is)
    (case n_Market_last => k_is)
    (case n_Market_names => k_is)
    (case a0 => k_is)
    (case l0 => k_is)
    (case c0 => k_is)
    (case k0 => k_is)
    (case a1 => k_is)
    (case l1 => k_is)
    (case c1 => k_is)
    (case k1 => k_is)
    (case a2 => k_is)
    (case l2 => k_is)
    (case c2 => k_is)
    (case k2 => k_is)
    (case a3 => k_is)
    (case l3 => k_is)
    (case c3 => k_is)
    (case k3 => k_is)
    (case a4 => k_is)
    (case l4 => k_is)
    (case c4 => k_is)
    (case k4 => k_is)
    (case a5 => k_is)
    (case l5 => k_is)
    (case c5 => k_is)
    (case k5 => k_is)
    (case a6 => k_is)
    (case l6 => k_is)
    (case c6 => k_is)
    (case k6 => k_is)
    (case a7 => k_is)
    (case l7 => k_is)
    (case c7 => k_is)
    (case k7 => k_is)
    (case a8 => k_is)
    (case l8 => k_is)
    (case c8 => k_is)
    (case k8 => k_is)
    (case a9 => k_is)
    (case l9 => k_is)
    (case c9 => k_is)
    (case k9 => k_is)
    (case a10 => k_is)
    (case l10 => k_is)
    (case c10 => k_is)
    (case k10 => k_is)
    (case a11 => k_is)
    (case l11 => k_is)
    (case c11 => k_is)
    (case k11 => k_is)
    (case cc => k_is)
    (case v11 => rfl)
    (case rT => kernel_rfl)
    (case nP => kernel_rfl)
    (case a12 => k_is)
    (case l12 => k_is)
    (case c12 => k_is)
    (case k12 => k_is)
    (case a13 => k_is)
    (case l13 => k_is)
    (case c13 => k_is)
    (case k13 => k_is)
    (case a14 => k_is)
    (case l14 => k_is)
    (case c14 => k_is)
    (case k14 => k_is)
    (case a15 => k_is)
    (case l15 => k_is)
    (case c15 => k_is)
    (case k15 => k_is)
    (case a16 => k_is)
    (case l16 => k_is)
    (case c16 => k_is)
    (case k16 => k_is)
    (case a17 => k_is)
    (case l17 => k_is)
    (case c17 => k_is)
    (case k17 => k_is)
    (case a18 => k_is)
    (case l18 => k_is)
    (case c18 => k_is)
    (case k18 => k_is)
    (case i19 => k_is)
    (case j19 => k_is)
    (case l19 => k_is)
    (case c19 => k_is)
    (case k19 => k_is)
    (case mk19 => k_is)
    (case kc19 => k_is)
    (case a20 => k_is)
    (case l20 => k_is)
    (case c20 => k_is)
    (case k20 => k_is)
    (case a21 => k_is)
    (case l21 => k_is)
    (case c21 => k_is)
    (case k21 => k_is)
    (case a22 => k_is)
    (case l22 => k_is)
    (case c22 => k_is)
    (case k22 => k_is)
    (case a23 => k_is)
    (case l23 => k_is)
    (case c23 => k_is)
    (case k23 => k_is)
    (case a24 => k_is)
    (case l24 => k_is)
    (case c24 => k_is)
    (case k24 => k_is)
    (case a25 => k_is)
    (case l25 => k_is)
    (case c25 => k_is)
    (case k25 => k_is)
    (case a26 => k_is)
    (case l26 => k_is)
    (case c26 => k_is)
    (case k26 => k_is)
    (case a27 => k_is)
    (case l27 => k_is)
    (case c27 => k_is)
    (case k27 => k_is)
    (case a28 => k_is)
    (case l28 => k_is)
    (case c28 => k_is)
    (case k28 => k_is)
    (case a29 => k_is)
    (case l29 => k_is)
    (case c29 => k_is)
    (case k29 => k_is)
    (case a30 => k_is)
    (case l30 => k_is)
    (case c30 => k_is)
    (case k30 => k_is)
    (case a31 => k_is)
    (case l31 => k_is)
    (case c31 => k_is)
    (case k31 => k_is)
    (case a32 => k_is)
    (case l32 => k_is)
    (case c32 => k_is)
    (case k32 => k_is)
    (case a33 => k_is)
    (case l33 => k_is)
    (case c33 => k_is)
    (case k33 => k_is)
    (case a34 => k_is)
    (case l34 => k_is)
    (case c34 => k_is)
    (case k34 => k_is)
    (case a35 => k_is)
    (case l35 => k_is)
    (case c35 => k_is)
    (case k35 => k_is)
    (case a36 => k_is)
    (case l36 => k_is)
    (case c36 => k_is)
    (case k36 => k_is)
    (case a37 => k_is)
    (case l37 => k_is)
    (case c37 => k_is)
    (case k37 => k_is)
    (case a38 => k_is)
    (case l38 => k_is)
    (case c38 => k_is)
    (case k38 => k_is)
    (case a39 => k_is)
    (case l39 => k_is)
    (case c39 => k_is)
    (case k39 => k_is)
    (case a40 => k_is)
    (case l40 => k_is)
    (case c40 => k_is)
    (case k40 => k_is)
    (case a41 => k_is)
    (case l41 => k_is)
    (case c41 => k_is)
    (case k41 => k_is)
    (case a42 => k_is)
    (case l42 => k_is)
    (case c42 => k_is)
    (case k42 => k_is)
    (case a43 => k_is)
    (case l43 => k_is)
    (case c43 => k_is)
    (case k43 => k_is)
    (case a44 => k_is)
    (case l44 => k_is)
    (case c44 => k_is)
    (case k44 => k_is)
    (case a45 => k_is)
    (case l45 => k_is)
    (case c45 => k_is)
    (case k45 => k_is)
    (case a46 => k_is)
    (case l46 => k_is)
    (case c46 => k_is)
    (case k46 => k_is)
    (case xg_BadMarket => k_is)
    (case xx_BadMarket => k_exc)
    (case xk_BadMarket => k_is)
    (case xs_BadMarket => k_is)
    (case xt_BadMarket => k_is)
    (case z_len => k_is)
    (case z_int => k_is)
    (case z_range => k_is)
    (case z_all => k_is)
    (case z_LETTERS => k_is)
    (case z_LONGEST_WORD => k_is)
    (case z_isinstance => k_is)
    (case z_str => k_is)
    (case z_bool => k_is)
    (case z_TOO_LARGE => k_is)
    (case z_set => k_is)
    (case z_MOST_WEIGHT => k_is)
    (case z_tuple => k_is)
    (case z_MOST_STEPS => k_is)
    (case z_list => k_is)
    (case z_MOST_NAMES => k_is)
    (case z_max => k_is)
    (case z_min => k_is)
    (case z_LAST_HOUR => k_is)
    (case z_zip => k_is)
    (case z_CONTRACTS => k_is)
    (case w_CONTRACTS => kernel_rfl)
    (case o_CONTRACTS => kernel_rfl)
    (case z_NOTHING => k_is)
    (case o_NOTHING => kernel_rfl)
    (case z_sum => k_is)
    (case z_reversed => k_is)
    (case z_enumerate => k_is)
    (case z_sorted => k_is)
    (case z_dict => k_is)
