import PyProof.Rows.All
import Wide.All
import OpenK.AllK
import Wide.FinOn
import HandS.ForMost
import HandS.More
import HandS.DictComp
import HandS.IsInst
import HandS.Wide
import HandS.TupAny
import PyProof.StrOps2
import HandS.AnyAll
import HandS.Text
import HandS.ForExc
import HandS.FStr
import HandS.Small
import HandS.Zip
import HandS.ExcIs
import HandS.EndTab
import KE.KNest
import HandS.Walk
import HandS.Deep
import HandS.HeadHook3
import HandS.Strs
import HandS.RaiseMore
import HandS.Evl
import HandS.DeepEq
import HandS.TupLe
import KE.KEqNest
import HandS.ExcOwn
import HandS.CallSlots
import HandS.Comp
import HandS.Finally
import PyProof.NeKinds
import PySem.Challenge.RW_contractbook_k05_futures_in_order
set_option Elab.async false
set_option linter.all false
set_option maxRecDepth 100000
namespace Bk
open PySem PySem.Spec PyProof.Rows L2

/-! ### steps of a reading -/
section steps
variable {D : Ends} {σ : L2.St} {H : Hp} {Q : VK} {v : V}
theorem g_seq {t u : TS} (h : t { D with nx := u D } σ H) : tSeq t u D σ H := h
theorem g_next (h : D.nx σ H) : tNext D σ H := h
theorem g_asg {te : TE} {g : TG} (h : te σ H fun x H1 => g x σ H1 D.nx) : tAsg te g D σ H := h
theorem g_name {i : Nat} {R : L2.St → Hp → Prop} (h : R (σ.set i (some v)) H) : gName i v σ H R := h
theorem g_ret {te : TE} (h : te σ H D.rt) : tRet te D σ H := h
theorem g_drop {te : TE} (h : te σ H fun _ H1 => D.nx σ H1) : tDrop te D σ H := h
theorem g_ifs {c : TT} {t u : TS} (h : c σ H fun b H1 => if b = true then t D σ H1 else u D σ H1) : tIfS c t u D σ H := h
theorem g_if {c : TT} {t u : TE} (h : c σ H fun b H1 => if b = true then t σ H1 Q else u σ H1 Q) : tIf c t u σ H Q := h
theorem g_c (h : Q v H) : tC v σ H Q := h
theorem g_op {r : R2} {ta tb : TE} (h : ta σ H fun x H1 => tb σ H1 fun y H2 => r x y H2 Q) : tOp r ta tb σ H Q := h
theorem g_un {r : V → Hp → VK → Prop} {ta : TE} (h : ta σ H fun x H1 => r x H1 Q) : tUn r ta σ H Q := h
theorem g_neg {g : Int → V} {i : Int} (h : Q (g i) H) : rU g (.int i) H Q := ⟨i, rfl, h⟩
theorem g_I0 {g : Int → Int → V} {i j : Int} (h : Q (g i j) H) : rI0 g (.int i) (.int j) H Q := ⟨i, j, rfl, rfl, h⟩
theorem g_I {C : Int → Int → Prop} {g : Int → Int → V} {i j : Int} (hc : C i j) (h : Q (g i j) H) : rI C g (.int i) (.int j) H Q := ⟨i, j, rfl, rfl, hc, h⟩
theorem dec_int {i j : Int} : decide (V.int i = V.int j) = decide (i = j) := by
  by_cases e : i = j
  · rw [e]; simp
  · rw [decide_eq_false e]
    exact decide_eq_false (fun z => e (V.int.inj z))
theorem dec_str {i j : Str} : decide (V.str i = V.str j) = decide (i = j) := by
  by_cases e : i = j
  · rw [e]; simp
  · rw [decide_eq_false e]
    exact decide_eq_false (fun z => e (V.str.inj z))
theorem dec_bl {i j : Bool} : decide (V.bl i = V.bl j) = decide (i = j) := by
  cases i <;> cases j <;> rfl
theorem g_eqI {i j : Int} (h : Q (.bl (decide (i = j))) H) : rEq (.int i) (.int j) H Q := ⟨rfl, by rw [dec_int]; exact h⟩
theorem g_eqS {i j : Str} (h : Q (.bl (decide (i = j))) H) : rEq (.str i) (.str j) H Q := ⟨rfl, by rw [dec_str]; exact h⟩
theorem g_eqB {i j : Bool} (h : Q (.bl (decide (i = j))) H) : rEq (.bl i) (.bl j) H Q := ⟨rfl, by rw [dec_bl]; exact h⟩
theorem g_neI {i j : Int} (h : Q (.bl (!decide (i = j))) H) : rNe (.int i) (.int j) H Q := ⟨rfl, by rw [dec_int]; exact h⟩
theorem g_neS {i j : Str} (h : Q (.bl (!decide (i = j))) H) : rNe (.str i) (.str j) H Q := ⟨rfl, by rw [dec_str]; exact h⟩
theorem g_neB {i j : Bool} (h : Q (.bl (!decide (i = j))) H) : rNe (.bl i) (.bl j) H Q := ⟨rfl, by rw [dec_bl]; exact h⟩
theorem g_test {te : TE} {R : Bool → Hp → Prop} (h : te σ H fun x H' => ∃ k, x = .bl k ∧ R k H') : tTest te σ H R := h
theorem g_b {te : TE} {R : Bool → Hp → Prop} (h : te σ H fun x H' => ∃ k, x = .bl k ∧ R k H') : tB te σ H R := h
theorem g_and {t u : TT} {R : Bool → Hp → Prop} (h : t σ H fun c H1 => if c = true then u σ H1 R else R false H1) : tAnd t u σ H R := h
theorem g_or {t u : TT} {R : Bool → Hp → Prop} (h : t σ H fun c H1 => if c = true then R true H1 else u σ H1 R) : tOr t u σ H R := h
theorem g_not {t : TT} {R : Bool → Hp → Prop} (h : t σ H fun c H1 => R (!c) H1) : tNot t σ H R := h
theorem g_andV {ta tb : TE} (h : ta σ H fun x H1 => ∃ c, x = .bl c ∧ if c = true then tb σ H1 Q else Q (.bl false) H1) : tAndV ta tb σ H Q := h
theorem g_orV {ta tb : TE} (h : ta σ H fun x H1 => ∃ c, x = .bl c ∧ if c = true then Q (.bl true) H1 else tb σ H1 Q) : tOrV ta tb σ H Q := h
theorem g_notV {ta : TE} (h : ta σ H fun x H1 => ∃ c, x = .bl c ∧ Q (.bl (!c)) H1) : tNotV ta σ H Q := h
theorem g_cons {ta : TE} {tr : TA} {R : List V → Hp → Prop} (h : ta σ H fun x H1 => tr σ H1 fun xs H2 => R (x :: xs) H2) : tCons ta tr σ H R := h
theorem g_chain {r r' : R2} {ta tb tc : TE} (h : ta σ H fun x H1 => tb σ H1 fun y H2 => r x y H2 fun z H3 => ∃ k, z = .bl k ∧ (if k = true then tc σ H3 fun z' H4 => r' y z' H4 Q else Q (.bl false) H3)) : tChain r r' ta tb tc σ H Q := h
theorem g_nil {R : List V → Hp → Prop} (h : R [] H) : tNil σ H R := h
theorem g_call {sp : Sp} {dvs : List V} {E : XK} {t : TA} (h : t σ H fun vs H1 => sp (vs ++ dvs) H1 Q E) : tCall sp dvs E t σ H Q := h
theorem g_cb {r : List V → Hp → VK → Prop} {t : TA} (h : t σ H fun vs H1 => r vs H1 Q) : tCB r t σ H Q := h
theorem g_dget {td ty : TE} (h : td σ H fun x H1 => ty σ H1 fun y H2 => ∃ a v, x = .ref a ∧ DGet H2 a y (some v) ∧ Q v H2) : tDGet td ty σ H Q := h
theorem g_dput {td ty tv : TE} (h : tv σ H fun v H1 => td σ H1 fun x H2 => ty σ H2 fun y H3 => ∃ a H4, x = .ref a ∧ DPut H3 a y v H4 ∧ D.nx σ H4) : sDPut td ty tv D σ H := h
theorem g_tup {t : TA} (h : t σ H fun xs H1 => xs.length ≤ sizeLine ∧ ∀ p, H1 p = none → Q (.ref p) (upd H1 p (.tup xs))) : tTup t σ H Q := h
theorem g_lst {t : TA} (h : t σ H fun xs H1 => xs.length ≤ sizeLine ∧ ∀ p, H1 p = none → Q (.ref p) (upd H1 p (.lst xs))) : tLst t σ H Q := h
theorem g_for {wi : TI} {g : TG} {tb : TS} (h : wi σ H fun J H1 => ∃ W : Nat → Nat → L2.St → Hp → Prop, (∃ m, W 0 m σ H1) ∧ ∀ i m σ H, W i m σ H →
  (J.stop i H ∧ D.nx σ H) ∨ (J.go i H ∧ ∃ N : L2.St → Hp → Prop, (∀ σ' H', N σ' H' → ∃ m', m' < m ∧ W (i + 1) m' σ' H') ∧ ∀ x H', J.yld i H x H' → g x σ H' fun σ2 H2 => tb { D with nx := N, ct := N, bk := D.nx } σ2 H2)) : tFor wi g tb D σ H := h
theorem g_rng1 {ta : TA} {R : It → Hp → Prop} (h : ta σ H fun vs H1 => ∃ j : Int, vs = [.int j] ∧ -(2 ^ 62) ≤ j ∧ j < 2 ^ 62 ∧ R (Itr 0 j.toNat) H1) : iRng1 ta σ H R := h
theorem g_rng2 {ta : TA} {R : It → Hp → Prop} (h : ta σ H fun vs H1 => ∃ i j : Int, vs = [.int i, .int j] ∧ (-(2 ^ 62) ≤ i ∧ i < 2 ^ 62 ∧ -(2 ^ 62) ≤ j ∧ j < 2 ^ 62) ∧ R (Itr i (j - i).toNat) H1) : iRng2 ta σ H R := h
theorem g_ilist {K : PySem.W.Frag} {tl : TE} {R : It → Hp → Prop} (h : tl σ H fun x H1 => ∃ a, x = .ref a ∧ (∃ xs, SqL K H1 a xs) ∧ R (Itl K a) H1) : iList K tl σ H R := h
theorem g_itup {K : PySem.W.Frag} {tl : TE} {R : It → Hp → Prop} (h : tl σ H fun x H1 => ∃ a, x = .ref a ∧ (∃ xs, SqT K H1 a xs) ∧ R (Itt K a) H1) : iTup K tl σ H R := h
theorem g_lc {wi : TI} {g : TG} {tt : TT} {te : TE} {vs : List Nat} (h : wi σ H fun J H1 => ∀ D, H1 D = none → ∃ W : Nat → Nat → Hp → Prop, (∃ m, W 0 m (upd H1 D (.lst []))) ∧ ∀ i m H, W i m H →
  (J.stop i H ∧ Q (.ref D) H) ∨ (J.go i H ∧ ∃ Nx : Hp → Prop, (∀ H', Nx H' → ∃ m', m' < m ∧ W (i + 1) m' H') ∧ ∀ x H', J.yld i H x H' → g x (wipe σ vs) H' fun σ2 H2 => wipe σ2 vs = wipe σ vs ∧ tt σ2 H2 fun b H3 =>
    if b = true then te σ2 H3 fun y H4 => ∃ acc, H4 D = some (.lst acc) ∧ acc.length < sizeLine ∧ Nx (upd H4 D (.lst (acc ++ [y]))) else Nx H3)) : tLc wi g tt te vs σ H Q := h
theorem g_yes {R : Bool → Hp → Prop} (h : R true H) : tYes σ H R := h
theorem g_sl {r : V → Option Int → Option Int → Hp → VK → Prop} {te : TE} {tl th : TO} (h : te σ H fun x H1 => tl σ H1 fun l H2 => th σ H2 fun u H3 => r x l u H3 Q) : tSl r te tl th σ H Q := h
theorem g_nopart {R : Option Int → Hp → Prop} (h : R none H) : tNoPart σ H R := h
theorem g_part {t : TE} {R : Option Int → Hp → Prop} (h : t σ H fun x H1 => ∃ i, x = .int i ∧ R (some i) H1) : tPart t σ H R := h
theorem g_disp {trs : List (TE × TE)} (h : ∀ p, H p = none → tPairs trs σ (upd H p (.dK [])) fun ps H2 => H2 p = some (.dK []) ∧ ∃ kvs : List (Key × V), ps = kvs.map (fun kv => (kV kv.1, kv.2)) ∧ kvs.length ≤ 15 ∧ Q (.ref p) (upd H2 p (.dK (mergeK [] kvs)))) : tDisp trs σ H Q := h
theorem g_pairs0 {R : List (V × V) → Hp → Prop} (h : R [] H) : tPairs [] σ H R := h
theorem g_pairs {tk tv : TE} {r : List (TE × TE)} {R : List (V × V) → Hp → Prop} (h : tk σ H fun x H1 => tv σ H1 fun y H2 => tPairs r σ H2 fun ps H3 => R ((x, y) :: ps) H3) : tPairs ((tk, tv) :: r) σ H R := h
theorem g_gtup {K : PySem.W.Frag} {n : Nat} {t : TGs} {a : Addr} {xs : List V} {R : L2.St → Hp → Prop} (h : SqT K H a xs) (hl : xs.length = n) (q : t xs σ H R) : gTup K n t (.ref a) σ H R := ⟨a, xs, rfl, h, hl, q⟩
theorem g_gcons {t : TG} {u : TGs} {x : V} {r : List V} {R : L2.St → Hp → Prop} (q : t x σ H fun σ' H' => u r σ' H' R) : gCons t u (x :: r) σ H R := ⟨x, r, rfl, q⟩
theorem g_gnil {R : L2.St → Hp → Prop} (q : R σ H) : gNil [] σ H R := ⟨rfl, q⟩
theorem g_isN {x : V} {R : Bool → Hp → Prop} (h : R (decide (x = .non)) H) : ∃ k, V.bl (decide (x = .non)) = .bl k ∧ R k H := ⟨_, rfl, h⟩
theorem g_bm {K : PySem.W.Frag} {T : String} {r : V → List V → Hp → VK → Prop} {to : TE} {t : TA} (h : to σ H fun x H1 => tyV K T x H1 ∧ t σ H1 fun xs H2 => r x xs H2 Q) : tBM K T r to t σ H Q := h
theorem g_bm0 {K : PySem.W.Frag} {T : String} {r : V → List V → Hp → VK → Prop} {to : TE} (h : to σ H fun x H1 => tyV K T x H1 ∧ r x [] H1 Q) : tBM0 K T r to σ H Q := h
theorem ifd {p A B : Prop} [Decidable p] (h1 : p → A) (h2 : ¬ p → B) : if decide p = true then A else B := by
  by_cases h : p
  · rw [if_pos (decide_eq_true h)]; exact h1 h
  · rw [if_neg (by simp [h])]; exact h2 h
theorem ifdn {p A B : Prop} [Decidable p] (h1 : p → B) (h2 : ¬ p → A) : if (!decide p) = true then A else B := by
  by_cases h : p
  · rw [if_neg (by simp [h])]; exact h1 h
  · rw [if_pos (by simp [h])]; exact h2 h
theorem ifn {b : Bool} {A B : Prop} (h1 : b = true → B) (h2 : b = false → A) : if (!b) = true then A else B := by
  cases b
  · exact h2 rfl
  · exact h1 rfl
theorem ifb {b : Bool} {A B : Prop} (h1 : b = true → A) (h2 : b = false → B) : if b = true then A else B := by
  cases b
  · exact h2 rfl
  · exact h1 rfl
theorem iteNF {A B : Prop} (h : A) : if (!false) = true then A else B := h
theorem iteNT {A B : Prop} (h : B) : if (!true) = true then A else B := h
/-- a and b, a or b: the way that two tests may take is read once -/
theorem and_cut {p U F : Prop} [Decidable p] (q : Prop) (hF : ¬ (p ∧ q) → F) (hU : p → (¬ q → F) → U) : if decide p = true then U else F :=
  ifd (fun c => hU c fun z => hF fun y => z y.2) (fun c => hF fun y => c y.1)
theorem or_cut {p U T : Prop} [Decidable p] (q : Prop) (hT : p ∨ q → T) (hU : ¬ p → (q → T) → U) : if decide p = true then T else U :=
  ifd (fun c => hT (.inl c)) (fun c => hU c fun z => hT (.inr z))
/-- a key of a dict that stands at a -/
theorem g_key {a : Addr} {kvs : List (Key × V)} {k : Str} {w : V} {R : V → Prop} (hd : H a = some (.dK kvs)) (hv : valV kvs (.inr k) = some w) (h : R w) :
    ∃ b v, V.ref a = .ref b ∧ DGet H b (.str k) (some v) ∧ R v := ⟨a, w, rfl, .inl ⟨kvs, .inr k, .inl hd, rfl, hv.symm⟩, h⟩
theorem g_put {a : Addr} {kvs kvs' : List (Key × V)} {k : Str} {w : V} {R : Hp → Prop} (hd : H a = some (.dK kvs)) (hl : kvs.length < sizeLine) (hv : putK kvs (.inr k) w = kvs') (h : R (upd H a (.dK kvs'))) :
    ∃ b H4, V.ref a = .ref b ∧ DPut H b (.str k) w H4 ∧ R H4 := ⟨a, _, rfl, .inl ⟨kvs, .inr k, hd, rfl, hl, rfl⟩, by rw [hv]; exact h⟩
end steps

/-! ### what a def of the text is known to keep -/
structure Own (K : PySem.W.Frag) (mg : Str → Option Value) (x : Str) (st : Stmt) (ps : List Str) (f : Addr) (fd : FuncData) : Prop where
  F : Fun K x x st f fd
  g : mg x = some (.ref f)
  b : Binds K fd ps []
structure Has (P : Program) (w : World) (K : PySem.W.Frag) (mg : Str → Option Value) (base : Heap) (x : Str) (ps : List Str) (lv : Nat) (CX : CXT) (sp : Sp) (f : Addr) (fd : FuncData) : Prop where
  G : FnOk P w K mg base CX lv f fd ps sp
  g : mg x = some (.ref f)
  k : PySem.W.keepIn K (.ref f) = true
  b : Binds K fd ps []
theorem Has.mono {P : Program} {w : World} {K : PySem.W.Frag} {mg : Str → Option Value} {base : Heap} {x : Str} {ps : List Str} {j i : Nat} {CX : CXT} {sp : Sp} {f : Addr} {fd : FuncData} (D : Has P w K mg base x ps j CX sp f fd) (h : j ≤ i) :
    Has P w K mg base x ps i CX sp f fd := ⟨D.G.mono h, D.g, D.k, D.b⟩
theorem Own.has {P : Program} {w : World} {K : PySem.W.Frag} {mg : Str → Option Value} {base : Heap} {x : Str} {st : Stmt} {ps : List Str} {f : Addr} {fd : FuncData} {lv : Nat} {CX : CXT} {sp : Sp} (O : Own K mg x st ps f fd)
    (G : FnOk P w K mg base CX lv f fd ps sp) : Has P w K mg base x ps lv CX sp f fd := ⟨G, O.g, O.F.kp, O.b⟩

/-! ### what stays -/
/-- all stays but what stands at s -/
def KB (s : Addr) (H H' : Hp) : Prop := ∀ a o, a ≠ s → H a = some o → H' a = some o
theorem KB.refl (s : Addr) (H : Hp) : KB s H H := fun _ _ _ h => h
theorem KB.trans {s : Addr} {H H1 H2 : Hp} (a : KB s H H1) (b : KB s H1 H2) : KB s H H2 := fun x o n h => b x o n (a x o n h)
theorem KB.of {s : Addr} {H H' : Hp} (e : Same H H') : KB s H H' := fun a o _ h => e a o h
theorem KB.upd {s : Addr} {H : Hp} {o : HO} : KB s H (upd H s o) := fun a u n h => by rw [upd_ne n]; exact h
theorem same_new {H : Hp} {p : Addr} {o : HO} (h : H p = none) : Same H (upd H p o) := fun b x e => by
  rw [upd_ne (ne_of_none e h)]
  exact e
theorem Rd.same {H H' : Hp} {a : Addr} {u : HO} (e : Same H H') (h : Rd H a u) : Rd H' a u := by
  rcases h with h | ⟨o, h⟩
  · exact .inl (e _ _ h)
  · exact .inr ⟨o, e _ _ h⟩
theorem SqT.same {K : PySem.W.Frag} {H H' : Hp} {a : Addr} {xs : List V} (e : Same H H') (h : SqT K H a xs) : SqT K H' a xs := by
  rcases h with h | h
  · exact .inl (Rd.same e h)
  · exact .inr h
theorem sqt {K : PySem.W.Frag} {H : Hp} {a : Addr} {xs : List V} (h : H a = some (.tup xs)) : SqT K H a xs := .inl (.inl h)
theorem sql {K : PySem.W.Frag} {H : Hp} {a : Addr} {xs : List V} (h : H a = some (.lst xs)) : SqL K H a xs := .inl (.inl h)
theorem KB.rd {s : Addr} {H H' : Hp} {a : Addr} {u : HO} {kvs : List (Key × V)} (e : KB s H H') (hs : H s = some (.dK kvs)) (hu : ∀ k, u ≠ .dK k) (h : Rd H a u) : Rd H' a u := by
  rcases h with h | ⟨o, h⟩
  · exact .inl (e _ _ (fun z => by rw [z, hs] at h; exact hu _ (Option.some.inj h).symm) h)
  · exact .inr ⟨o, e _ _ (fun z => by rw [z, hs] at h; cases h) h⟩
theorem KB.seq {K : PySem.W.Frag} {s : Addr} {H H' : Hp} {a : Addr} {xs : List V} {kvs : List (Key × V)} (e : KB s H H') (hs : H s = some (.dK kvs)) (h : SqL K H a xs) : SqL K H' a xs := by
  rcases h with h | h
  · exact .inl (e.rd hs (fun _ z => by cases z) h)
  · exact .inr h
theorem KB.tup {K : PySem.W.Frag} {s : Addr} {H H' : Hp} {a : Addr} {xs : List V} {kvs : List (Key × V)} (e : KB s H H') (hs : H s = some (.dK kvs)) (h : SqT K H a xs) : SqT K H' a xs := by
  rcases h with h | h
  · exact .inl (e.rd hs (fun _ z => by cases z) h)
  · exact .inr h
/-- tuples stay -/
def TM (K : PySem.W.Frag) (H H' : Hp) : Prop := ∀ a xs, SqT K H a xs → SqT K H' a xs
theorem TM.refl {K : PySem.W.Frag} (H : Hp) : TM K H H := fun _ _ h => h
theorem TM.trans {K : PySem.W.Frag} {H H1 H2 : Hp} (a : TM K H H1) (b : TM K H1 H2) : TM K H H2 := fun x y h => b x y (a x y h)
theorem TM.of {K : PySem.W.Frag} {H H' : Hp} (e : Same H H') : TM K H H' := fun _ _ h => SqT.same e h
theorem KB.tm {K : PySem.W.Frag} {s : Addr} {H H' : Hp} {kvs : List (Key × V)} (e : KB s H H') (hs : H s = some (.dK kvs)) : TM K H H' := fun _ _ h => e.tup hs h
theorem sz {n : Nat} (h : n ≤ 1000) : n ≤ sizeLine := Nat.le_of_lt (small1000 h)

theorem at_any {α : Type} {xs : List α} {z : Int} {j : Nat} {v : α} (e : z = (j : Int)) (h : xs[j]? = some v) : atI xs z = some v := by
  rw [e]
  exact atI_nat h

/-! ### a text told n times -/
/-- one sign, n times -/
def rp (c : Nat) (n : Int) : Str := ⟨(List.replicate n.toNat c).toArray⟩
theorem rp_fold (c : Nat) : ∀ (k : Nat) (a : Array Nat), (List.replicate k (#[c] : Array Nat)).foldl (· ++ ·) a = a ++ (List.replicate k c).toArray
  | 0, a => by simp
  | k + 1, a => by
    rw [List.replicate_succ, List.foldl_cons, rp_fold c k, List.replicate_succ]
    apply Array.ext'
    simp
theorem rp_len {c : Nat} {n : Int} : (rp c n).length = n.toNat := by
  show ((List.replicate n.toNat c).toArray).size = n.toNat
  simp
def rRepS : R2 := fun x y H Q => ∃ (c : Nat) (n : Int), x = .str ⟨#[c]⟩ ∧ y = .int n ∧ 0 ≤ n ∧ n ≤ 1000 ∧ Q (.str (rp c n)) H
theorem op_rep_str {X : Cx} : OpR X (binaryOp .Mult) rRepS := by
  intro pins s σ H x y v u Q I rx ry h
  obtain ⟨c, n, rfl, rfl, h0, h1, q⟩ := h
  obtain ⟨t, rfl⟩ := rx
  obtain ⟨t', rfl⟩ := ry
  have hz : (1000 : Nat) ≤ sizeLine := by decide
  refine PySem.P.mul_str (by simp; omega) (fun h2 h3 => ?_) (fun h2 h3 => ?_) ?_
  · have : (1 : Int) ≤ (2 ^ 63 - 1) / n := by
      apply (Int.le_ediv_iff_mul_le (by omega)).mpr
      omega
    show ¬ ((1 : Nat) : Int) > _
    omega
  · show decide _ = false
    refine decide_eq_false ?_
    show ¬ (1 * n.toNat > _)
    have : n.toNat ≤ 1000 := by omega
    omega
  · by_cases h2 : n < 1
    · rw [if_pos h2]
      have e : rp c n = Str.empty := by
        unfold rp
        rw [show n.toNat = 0 by omega]
        rfl
      rw [e] at q
      exact ⟨by decide, ⟨.str Str.empty, H, I.tok _, ⟨_, rfl⟩, q⟩⟩
    · rw [if_neg h2]
      by_cases h3 : n = 1
      · subst h3
        rw [if_pos (by rfl)]
        have e : rp c 1 = ⟨#[c]⟩ := rfl
        rw [e] at q
        exact ⟨.str ⟨#[c]⟩, H, I, ⟨_, rfl⟩, q⟩
      · rw [if_neg (by simp [h3]; intro z; cases z)]
        have e : (⟨(List.replicate n.toNat (#[c] : Array Nat)).foldl (· ++ ·) #[]⟩ : Str) = rp c n := by
          rw [rp_fold]
          simp [rp]
        rw [e]
        refine ⟨?_, ⟨.str (rp c n), H, I.tok _, ⟨_, rfl⟩, q⟩⟩
        rw [rp_len]
        omega
end Bk

set_option Elab.async false
set_option linter.all false
set_option maxRecDepth 100000
set_option maxHeartbeats 2000000
namespace Bk
open PySem PySem.Spec PyProof.Rows L2 GxR
/-! ### all(.. for x in text) where the element reads the module's names -/
/-- an element, with the module's names at hand -/
def Elm (prog : Program) (w : World) (mg : Str → Option Value) (sc : Scope) (x : Str) (elt : Expr) (pb : Nat → Bool) : Prop :=
  ∀ (en : Env) (B : Around) (Er : Value → Shared → Prop) (c : Nat) (t : Tok) (u : Shared) (m : Str → Option Value), en.scope = sc → en.globals = mainGlobals →
    u.heap.Ns mainGlobals mg → u.heap.Ns en.locals m → m x = some (.str ⟨#[c]⟩ t) → wpAny (model prog w) B (eval elt en) (fun y u' => y = .bool (pb c) ∧ Keeps u u') Er u
/-- x in NAME, a text of the module -/
theorem elm_in {prog : Program} {w : World} {mg : Str → Option Value} {sc : Scope} {x n : Str} {z : Str} {tz : Tok} {p1 p2 p3 : Pos} (hk : sc.kind = .function) (hl : sc.names.lookup x = some .local) (hn : sc.names.lookup n = some .globalImplicit)
    (hz : mg n = some (.str z tz)) (dx : (x == ("__debug__" : Str)) = false := by decide) (dn : (n == ("__debug__" : Str)) = false := by decide) :
    Elm prog w mg sc x (.Compare (.Name x p1) [.In] [.Name n p2] p3) (fun c => decide (c ∈ z.cps.toList)) := by
  intro en B Er c t u m es eg hg hloc hm
  refine wpAny_Compare1 (wpAny_Name (wpAny_loadName_local (by rw [es]; exact hk) (show en.scope.names.lookup x = some .local by rw [es]; exact hl) hloc hm ?_) dx)
  refine Calls.Name_function_global (by rw [es]; exact hk) (show en.scope.names.lookup n = some .globalImplicit by rw [es]; exact hn) (Calls.loadGlobal_global (by rw [eg]; exact hg) hz ?_) dn
  exact PyProof.Rows.in_str ⟨congrArg Value.bool (PySem.StrLaws.found_one z c), keeps_tok _ _⟩
/-- the code of a generator expression is found or made: the def's table may grow -/
theorem code_any {prog : Program} {w : World} {A : Around} {Er : Value → Shared → Prop} {env : Env} {c P : Addr} {u : Shared} {ps : Array Value} {sc : Scope} {q : Str} {gpos : Pos} {Q : Value → Shared → Prop}
    (hc : env.code = .ref c) (cd : PySem.W.CodeHd u.heap c P) (hP : u.heap.get? P = some { cls := .none, data := .fields ps }) (ht : TriplesOk ps.toList)
    (h : ∀ (code : Value) (g : Heap) (tk : Nat) (more : Array Value), Heap.ExtBut P u.heap g → u.heap.objs.size ≤ g.objs.size → g.get? P = some { cls := .none, data := .fields (ps ++ more) } → TriplesOk (ps ++ more).toList → Q code { u with heap := g, toks := tk }) :
    wpAny (model prog w) A (genexprCode env gpos q sc) Q Er u := by
  cases hf : codeAmong gpos ps.toList with
  | some cv => exact wpAny_genexprCode_hit hc (cd.code hP ht) hf (h cv u.heap u.toks #[] (Heap.ExtBut.refl _ _) (Nat.le_refl _) (by simpa using hP) (by simpa using ht))
  | none =>
    refine wpAny_genexprCodeX hc (cd.code hP ht) (cd.tab hP) hf fun c' g tk gx gge glt gco _ gtab _ => ?_
    obtain ⟨_, _, _, _, _, _, _, _, _, _, _, _, _, _, _, _, _, _, _, tr, _⟩ := gco
    exact h _ g tk _ gx (Nat.le_trans gge (Nat.le_of_lt glt)) gtab.2 tr
section
variable {X : Cx} {pins : List (Addr × Obj)} {σ : L2.St} {H : Hp} {s : Shared}
theorem gen_text {c P : Addr} {elt iter : Expr} {x : Str} {px gpos : Pos} {sc : Scope} {pb : Nat → Bool} {te : TE} {k : Nat} {W : Value → Shared → Prop} {R : Str → Hp → Prop}
    (hr : Room k X.A) (tb : TabB X.base X.mg c P) (hc : X.env.code = .ref c) (S : GenS X.env sc x) (hi : PE X iter te) (hel : Elm X.prog X.w X.mg sc x elt pb)
    (hs : ∀ v, genFold iter X.env v = pure v) (I : Inv X pins σ H s) (h : te σ H fun v H1 => ∃ a : Str, v = .str a ∧ TabG H1 P ∧ R a H1)
    (hW : ∀ (a : Str) (H1 : Hp) (g : Addr) (u : Shared), R a H1 → Ready X pins σ H1 P a pb g u → W (.ref g) u) :
    wpAny (model X.prog X.w) X.A (eval (.GeneratorExp elt [⟨.Name x px, iter, [], 0⟩] sc gpos) X.env) W X.xe s := by
  refine wpAny_GeneratorExp_walksQ hr.hd S.co (closure_ok S.free) S.cell S.dot S.loc S.kind (by have := hr.dp; omega) (thn (hi.run pins s σ H _ I h) ?_) hs
  rintro xv u ⟨v, H1, I1, r1, a, rfl, ⟨ps, hP, ht⟩, hR⟩
  obtain ⟨t, rfl⟩ := _root_.id r1
  refine wpAny_pyIter_str fun o St Wk st0 => ?_
  have atP : u.heap.get? P = some { cls := .none, data := .fields ps } := I1.hok P _ hP
  have atP2 := Heap.get?_push_of_some o atP
  have free := I1.nolimit
  have free2 := free.push o
  have old : ∀ b v, X.base.get? b = some v → (u.heap.push o).get? b = some v := fun b v e => Heap.get?_push_of_some _ (I1.bk b v e)
  refine ⟨free2, code_any hc (tb.code.keeps old) atP2 ht fun code g tk more gx gge gP gt => ?_⟩
  have hsz : (u.heap.push o).objs.size = u.heap.objs.size + 1 := Heap.size_push ..
  have hg : u.heap.objs.size < g.objs.size := by
    have gge : (u.heap.push o).objs.size ≤ g.objs.size := gge
    omega
  have ltP : P < u.heap.objs.size := Heap.lt_size atP
  have stat : cStatics ≠ P ∧ cStatics < u.heap.objs.size := by
    obtain ⟨_, ns, _⟩ := free
    refine ⟨fun e => ?_, ns.lt⟩
    obtain ⟨ob, es, ep, ho, hd, _⟩ := ns
    rw [e, atP] at ho
    cases ho
    cases hd
  obtain ⟨bm, ob, b1, b2, b3, b4, b5, b6, b7, b8⟩ := tb.bm
  have toG : ∀ b v, b ≠ P → u.heap.get? b = some v → g.get? b = some v := fun b v n e => gx b v n (Heap.get?_push_of_some _ e)
  have names : g.Ns mainGlobals X.mg := ((I1.mod.glob.keeps I1.bk).push o).extBut gx tb.gP
  have notW : ∀ b v, u.heap.get? b = some v → b ≠ u.heap.objs.size := fun b v e => Nat.ne_of_lt (Heap.lt_size e)
  refine wpAny_builtinsFor (m := X.mg) (by rw [I1.ok.glob]; exact names) b1 b2 (toG _ _ b4 (I1.bk _ _ b5)) b6 b7 b8 ?_
  refine ⟨u.heap.objs.size, [u.heap.objs.size], [u.heap.objs.size], a.cps.size, SignAt a, St, fun _ => true, fun i y => ∃ z, a.cps[i]? = some z ∧ y = .bool (pb z), rfl, Wk,
    (Wk X.A hr.hd).frame _ _ _ st0 fun b hb v e => gx b v (fun q => ?_) e, fun b hb => ?_, free2.extBut gx stat.1, fun q => ?_, fun hf hhf => ⟨?_, ?_⟩, ?_⟩
  · rw [List.mem_singleton.mp hb] at q
    exact Nat.ne_of_lt ltP q.symm
  · rw [List.mem_singleton.mp hb]
    exact hg
  · exact Nat.ne_of_lt stat.2 (List.mem_singleton.mp q)
  · intro A' E' i v s2 m2 _ _ _ _ _
    simp only [List.forIn_nil]
    exact wpAny_pure ⟨rfl, keeps_refl _⟩
  · intro A' E' i v s2 m2 _ hv _ hloc hm hk
    obtain ⟨z, tz, hz, rfl⟩ := hv
    have names2 : s2.heap.Ns mainGlobals X.mg := by
      obtain ⟨og, es, ep, e0, rr⟩ := names
      refine ⟨og, es, ep, hk mainGlobals (List.mem_range.mpr (Heap.lt_size e0)) (fun q => ?_) og (hhf _ _ e0), rr⟩
      obtain ⟨o3, _, _, e3, _⟩ := I1.mod.glob
      exact notW _ _ (I1.bk _ _ e3) (List.mem_singleton.mp q)
    refine wpAny_mono (hel _ A' E' z tz s2 m2 rfl I1.ok.glob names2 hloc hm) (fun y s3 r => ⟨⟨z, hz, r.1⟩, r.2⟩) fun _ _ e => e
  · intro q h5 tk5 gs bare ltq sz5 to5 W5 st5
    simp only [GxR.passing_true, List.length_range] at W5
    refine hW a H1 q _ hR ⟨_, _, _, _, _, W5.in4_1, st5, ?_, fun s' hm => ?_⟩
    · intro j y sj Qj Ej hy hQj
      obtain ⟨i, hi, z, hz, rfl⟩ := hy
      obtain ⟨hj, ej⟩ := List.getElem?_eq_some_iff.mp hi
      rw [List.getElem_range] at ej
      subst ej
      have ez : a.cps.toList[j]? = some z := by rw [Array.getElem?_toList]; exact hz
      have q2 : Qj (trF pb a.cps.toList j) sj := hQj
      rw [trF_some ez] at q2
      exact wpAny_truthy_bool q2
    · have out : ∀ b v, u.heap.get? b = some v → b ∉ g.objs.size :: [u.heap.objs.size] := fun b v e hb => by
        have hl := Heap.lt_size e
        rcases List.mem_cons.mp hb with z | z
        · rw [z] at hl
          exact absurd hl (Nat.not_lt.mpr (Nat.le_of_lt hg))
        · exact notW b v e (List.mem_singleton.mp z)
      have J := inv_tab (more := more) (h' := s'.heap) (g' := s'.gens) (d' := s'.drawn) (t' := s'.toks) I1 hP (fun b v n e => hm.heap b v (out b v e) (to5 b v (toG b v n e))) (hm.heap P _ (out P _ atP) (to5 P _ gP)) (AllBare.movedS (I1.bare.push bare) hm)
      rw [sh_eta u s' hm.os] at J
      exact ⟨_, ⟨⟨_, upd_same, gt⟩, fun b n => upd_ne n⟩, J⟩
/-- all(element for x in text) -/
theorem pe_allG {c P : Addr} {elt iter : Expr} {x : Str} {px p pos gpos : Pos} {sc : Scope} {pb : Nat → Bool} {te : TE} {k : Nat}
    (hr : Room k X.A) (gl : Gl X "all") (hm : X.mg "all" = none) (hb : bootBuiltins "all" = some (.builtin "all")) (tb : TabB X.base X.mg c P) (hc : X.env.code = .ref c) (S : GenS X.env sc x) (hi : PE X iter te) (hel : Elm X.prog X.w X.mg sc x elt pb)
    (hs : ∀ v, genFold iter X.env v = pure v)
    (he : starEach [.GeneratorExp elt [⟨.Name x px, iter, [], 0⟩] sc gpos] X.env = (false, eval (.GeneratorExp elt [⟨.Name x px, iter, [], 0⟩] sc gpos) X.env) :: starEach [] X.env := by rfl) :
    PE X (.Call (.Name "all" p) [.GeneratorExp elt [⟨.Name x px, iter, [], 0⟩] sc gpos] [] pos) (tAllS P pb te) := by
  refine ⟨fun pins s σ H Q I h => wpAny_Call_Name_kw (ld_blt (u := .builtin "all") I gl hm hb (PyProof.Rows.callWith_builtin1 ?_ he (by rfl)))⟩
  rw [he]
  refine Calls.spliced_cons (gen_text (R := fun a H1 => ∀ H2, Tabbed P H1 H2 → Q (.bl (a.cps.toList.all pb)) H2) hr tb hc S hi hel hs I h fun a H1 g u hR ⟨fp, wr, G, F, Sw, W, st, tr, hI⟩ => Calls.spliced_nil ?_)
  refine call_all_walkS (W.self 0 _ _ _ st ⟨g, fp, wr, G, _, F, Sw, _, rfl, W, st, tr, fun s' mv => ?_⟩)
  obtain ⟨H2, hT, J⟩ := hI s' mv
  exact ⟨.bl _, H2, J, rfl, by rw [all_signs a pb]; exact hR H2 hT⟩
end
end Bk

set_option Elab.async false
set_option linter.all false
set_option maxRecDepth 100000
set_option maxHeartbeats 2000000
namespace Bk
open PySem PySem.Spec PyProof.Rows L2
/-! ### NAME.get(key): a dict of the module whose keys are texts -/
def tKGet (K : PySem.W.Frag) (d : Addr) (ty : TE) : TE := fun σ H Q => ty σ H fun y H1 => ∃ (z : Str) (r : Option Value) (v : V), y = .str z ∧ PySem.W.nsIn K d z = some r ∧ RelV v (r.getD .none) ∧ Q v H1
theorem pe_kget {X : Cx} {n : Str} {p apos cpos : Pos} {e : Expr} {ty : TE} {d : Addr} {es : Array DictEntry} {c : Nat} (D : KDict X.K X.w d es c) (hg : Gl X n) (hm : X.mg n = some (.ref d)) (he : PE X e ty) (m : M1 X (.Name n p) "get" apos e cpos)
    (dn : (n == ("__debug__" : Str)) = false := by decide) : PE X (.Call (.Attribute (.Name n p) "get" apos) [e] [] cpos) (tKGet X.K d ty) := by
  refine ⟨fun pn u τ G W I h => wpAny_Call_method m.base m.few m.line PySem.F.plainAttrs_dict PySem.F.slot_dict_get PySem.F.type_dict_get (ld_glob I hg hm ?_ dn)⟩
  have M0 := PySem.W.mapOf_K (prog := X.prog) (w := X.w) I.kIn D.at_ D.lit
  refine ⟨M0.typeIs, M0.noDict, ?_⟩
  rw [m.trees]
  refine Calls.callWith_builtin rfl (Calls.evalArgs_plain (Calls.spliced_cons (thn (he.run pn u τ G _ I h) fun uv u1 hh => Calls.spliced_nil ?_)))
  obtain ⟨y, G1, I1, ry, z, r, v, ey, en, rv, q⟩ := hh
  subst ey
  obtain ⟨t, rfl⟩ := ry
  have M1 := PySem.W.mapOf_K (prog := X.prog) (w := X.w) I1.kIn D.at_ D.lit
  refine call_meetsIn PySem.F.slot_dict_get M1.typeIs PySem.F.entry_dict_get (PySem.F.args_dict_get_2 _ _) (meets_dict_get (strKind X.prog X.w) d (PySem.strKind_is X.prog X.w z t) D.low) ⟨_, M1, ?_⟩
  rw [PySem.W.find_K D.at_ en]
  exact ⟨v, G1, I1.tok _, rv, q⟩

/-! ### handed-in data -/
/-- what is told by tuples and lists stays -/
structure DM (K : PySem.W.Frag) (H H' : Hp) : Prop where
  t : ∀ a xs, SqT K H a xs → SqT K H' a xs
  l : ∀ a xs, SqL K H a xs → SqL K H' a xs
theorem DM.refl {K : PySem.W.Frag} (H : Hp) : DM K H H := ⟨fun _ _ h => h, fun _ _ h => h⟩
theorem DM.trans {K : PySem.W.Frag} {H H1 H2 : Hp} (a : DM K H H1) (b : DM K H1 H2) : DM K H H2 := ⟨fun x y h => b.t x y (a.t x y h), fun x y h => b.l x y (a.l x y h)⟩
theorem DM.of {K : PySem.W.Frag} {H H' : Hp} (e : Same H H') : DM K H H' := ⟨fun _ _ h => SqT.same e h, fun _ _ h => e.seq h⟩
theorem DM.tm {K : PySem.W.Frag} {H H' : Hp} (d : DM K H H') : TM K H H' := d.t
theorem KB.dm {K : PySem.W.Frag} {s : Addr} {H H' : Hp} {kvs : List (Key × V)} (e : KB s H H') (hs : H s = some (.dK kvs)) : DM K H H' := ⟨fun _ _ h => e.tup hs h, fun _ _ h => e.seq hs h⟩
mutual
theorem Dp.dm {K : PySem.W.Frag} {H H' : Hp} (m : DM K H H') : ∀ {d : PyData} {v : V}, Dp K H v d → Dp K H' v d
  | .none, _, .non => .non
  | .bool _, _, .bl b => .bl b
  | .int _, _, .int i => .int i
  | .str _, _, .str x => .str x
  | .list _, _, .lst h r => .lst (m.l _ _ h) (DpAll.dm m r)
  | .tuple _, _, .tup h r => .tup (m.t _ _ h) (DpAll.dm m r)
theorem DpAll.dm {K : PySem.W.Frag} {H H' : Hp} (m : DM K H H') : ∀ {ds : List PyData} {vs : List V}, DpAll K H vs ds → DpAll K H' vs ds
  | [], _, .nil => .nil
  | _ :: _, _, .cons h r => .cons (Dp.dm m h) (DpAll.dm m r)
end
theorem DpAll.len {K : PySem.W.Frag} {H : Hp} : ∀ {ds : List PyData} {vs : List V}, DpAll K H vs ds → vs.length = ds.length
  | [], _, .nil => rfl
  | _ :: _, _, .cons _ r => by rw [List.length_cons, List.length_cons, DpAll.len r]
theorem DpAll.at {K : PySem.W.Frag} {H : Hp} : ∀ {ds : List PyData} {vs : List V} {i : Nat} {d : PyData}, DpAll K H vs ds → ds[i]? = some d → ∃ v, vs[i]? = some v ∧ Dp K H v d
  | [], _, i, d, .nil, h => by simp at h
  | e :: ds, v :: vs, 0, d, .cons a r, h => by
    simp only [List.getElem?_cons_zero, Option.some.injEq] at h
    subst h
    exact ⟨v, rfl, a⟩
  | e :: ds, v :: vs, i + 1, d, .cons a r, h => by
    simp only [List.getElem?_cons_succ] at h
    obtain ⟨u, h1, h2⟩ := DpAll.at r h
    exact ⟨u, by simpa using h1, h2⟩
theorem DpAll.app {K : PySem.W.Frag} {H : Hp} : ∀ {ds es : List PyData} {vs us : List V}, DpAll K H vs ds → DpAll K H us es → DpAll K H (vs ++ us) (ds ++ es)
  | [], _, _, _, .nil, s => s
  | _ :: _, _, _, _, .cons a r, s => .cons a (DpAll.app r s)
theorem DpAll.drop {K : PySem.W.Frag} {H : Hp} : ∀ (n : Nat) {ds : List PyData} {vs : List V}, DpAll K H vs ds → DpAll K H (vs.drop n) (ds.drop n)
  | 0, _, _, r => r
  | _ + 1, [], _, .nil => .nil
  | n + 1, _ :: _, _, .cons _ r => DpAll.drop n r
theorem DpAll.take {K : PySem.W.Frag} {H : Hp} : ∀ (n : Nat) {ds : List PyData} {vs : List V}, DpAll K H vs ds → DpAll K H (vs.take n) (ds.take n)
  | 0, _, _, _ => .nil
  | _ + 1, [], _, .nil => .nil
  | n + 1, _ :: _, _, .cons a r => .cons a (DpAll.take n r)
/-- the built-in type's name -/
def tyn : PyData → String
  | .none => "NoneType"
  | .bool _ => "bool"
  | .int _ => "int"
  | .str _ => "str"
  | .list _ => "list"
  | .tuple _ => "tuple"
  | .dict _ => "dict"
theorem ty_of {K : PySem.W.Frag} {H : Hp} {v : V} {d : PyData} (h : Dp K H v d) : TyX K H v (.type (tyn d)) := by
  cases h with
  | non => exact .base .non
  | bl b => exact .base (.bl b)
  | int i => exact .base (.int i)
  | str x => exact .base (.str x)
  | lst a r =>
    rcases a with (a | ⟨o, a⟩) | ⟨o, its, n, a, c, _⟩
    · exact .base (.lst a)
    · exact .base (.frz a)
    · exact .kList a c
  | tup a r =>
    rcases a with (a | ⟨o, a⟩) | ⟨o, its, n, a, c, _⟩
    · exact .base (.tup a)
    · exact .fTuple a
    · exact .kTuple a c
def isStr : PyData → Bool
  | .str _ => true
  | _ => false
def isTup : PyData → Bool
  | .tuple _ => true
  | _ => false
def isLst : PyData → Bool
  | .list _ => true
  | _ => false
def isInt : PyData → Bool
  | .int _ => true
  | .bool _ => true
  | _ => false
def isBool : PyData → Bool
  | .bool _ => true
  | _ => false
section
variable {K : PySem.W.Frag} {H : Hp} {v : V} {d : PyData} {Q : VK}
theorem use_isStr (h : Dp K H v d) (q : Q (.bl (isStr d)) H) : rIsi K [v, .ty "str"] H Q := ⟨v, .ty "str", _, _, isStr d, rfl, .ty _, ty_of h, kit_ty (by cases h with | non => exact (by decide +kernel : kitB "NoneType" "str" = some false) | bl _ => exact (by decide +kernel : kitB "bool" "str" = some false) | int _ => exact (by decide +kernel : kitB "int" "str" = some false) | str _ => exact (by decide +kernel : kitB "str" "str" = some true) | lst _ _ => exact (by decide +kernel : kitB "list" "str" = some false) | tup _ _ => exact (by decide +kernel : kitB "tuple" "str" = some false)), q⟩
theorem use_isTup (h : Dp K H v d) (q : Q (.bl (isTup d)) H) : rIsi K [v, .ty "tuple"] H Q := ⟨v, .ty "tuple", _, _, isTup d, rfl, .ty _, ty_of h, kit_ty (by cases h with | non => exact (by decide +kernel : kitB "NoneType" "tuple" = some false) | bl _ => exact (by decide +kernel : kitB "bool" "tuple" = some false) | int _ => exact (by decide +kernel : kitB "int" "tuple" = some false) | str _ => exact (by decide +kernel : kitB "str" "tuple" = some false) | lst _ _ => exact (by decide +kernel : kitB "list" "tuple" = some false) | tup _ _ => exact (by decide +kernel : kitB "tuple" "tuple" = some true)), q⟩
theorem use_isLst (h : Dp K H v d) (q : Q (.bl (isLst d)) H) : rIsi K [v, .ty "list"] H Q := ⟨v, .ty "list", _, _, isLst d, rfl, .ty _, ty_of h, kit_ty (by cases h with | non => exact (by decide +kernel : kitB "NoneType" "list" = some false) | bl _ => exact (by decide +kernel : kitB "bool" "list" = some false) | int _ => exact (by decide +kernel : kitB "int" "list" = some false) | str _ => exact (by decide +kernel : kitB "str" "list" = some false) | lst _ _ => exact (by decide +kernel : kitB "list" "list" = some true) | tup _ _ => exact (by decide +kernel : kitB "tuple" "list" = some false)), q⟩
theorem use_isInt (h : Dp K H v d) (q : Q (.bl (isInt d)) H) : rIsi K [v, .ty "int"] H Q := ⟨v, .ty "int", _, _, isInt d, rfl, .ty _, ty_of h, kit_ty (by cases h with | non => exact (by decide +kernel : kitB "NoneType" "int" = some false) | bl _ => exact (by decide +kernel : kitB "bool" "int" = some true) | int _ => exact (by decide +kernel : kitB "int" "int" = some true) | str _ => exact (by decide +kernel : kitB "str" "int" = some false) | lst _ _ => exact (by decide +kernel : kitB "list" "int" = some false) | tup _ _ => exact (by decide +kernel : kitB "tuple" "int" = some false)), q⟩
theorem use_isBool (h : Dp K H v d) (q : Q (.bl (isBool d)) H) : rIsi K [v, .ty "bool"] H Q := ⟨v, .ty "bool", _, _, isBool d, rfl, .ty _, ty_of h, kit_ty (by cases h with | non => exact (by decide +kernel : kitB "NoneType" "bool" = some false) | bl _ => exact (by decide +kernel : kitB "bool" "bool" = some true) | int _ => exact (by decide +kernel : kitB "int" "bool" = some false) | str _ => exact (by decide +kernel : kitB "str" "bool" = some false) | lst _ _ => exact (by decide +kernel : kitB "list" "bool" = some false) | tup _ _ => exact (by decide +kernel : kitB "tuple" "bool" = some false)), q⟩
end
/-- all stays but a def's table at P, which may grow -/
structure Tb (P : Addr) (H H' : Hp) : Prop where
  g : GxR.TabG H' P
  k : ∀ a o, a ≠ P → H a = some o → H' a = some o
theorem Tb.refl {P : Addr} {H : Hp} (g : GxR.TabG H P) : Tb P H H := ⟨g, fun _ _ _ h => h⟩
theorem Tb.trans {P : Addr} {H H1 H2 : Hp} (a : Tb P H H1) (b : Tb P H1 H2) : Tb P H H2 := ⟨b.g, fun x o n h => b.k x o n (a.k x o n h)⟩
theorem tab_same {P : Addr} {H H' : Hp} (g : GxR.TabG H P) (e : Same H H') : GxR.TabG H' P := by
  obtain ⟨ps, h, t⟩ := g
  exact ⟨ps, e _ _ h, t⟩
theorem Tb.of {P : Addr} {H H' : Hp} (g : GxR.TabG H P) (e : Same H H') : Tb P H H' := ⟨tab_same g e, fun _ _ _ h => e _ _ h⟩
theorem Tb.grown {P : Addr} {H H' : Hp} (t : GxR.Tabbed P H H') : Tb P H H' := ⟨t.1, fun a o n h => by rw [t.2 a n]; exact h⟩
theorem Tb.rd {P : Addr} {H H' : Hp} {a : Addr} {u : HO} (g : GxR.TabG H P) (t : Tb P H H') (hu : ∀ ps, u ≠ .tbl ps) (h : Rd H a u) : Rd H' a u := by
  obtain ⟨ps, e, _⟩ := g
  rcases h with h | ⟨o, h⟩
  · exact .inl (t.k _ _ (fun z => by rw [z, e] at h; exact hu _ (Option.some.inj h).symm) h)
  · exact .inr ⟨o, t.k _ _ (fun z => by rw [z, e] at h; cases h) h⟩
theorem Tb.dm {K : PySem.W.Frag} {P : Addr} {H H' : Hp} (g : GxR.TabG H P) (t : Tb P H H') : DM K H H' := by
  refine ⟨fun a xs h => ?_, fun a xs h => ?_⟩
  · rcases h with h | h
    · exact .inl (t.rd g (fun _ z => by cases z) h)
    · exact .inr h
  · rcases h with h | h
    · exact .inl (t.rd g (fun _ z => by cases z) h)
    · exact .inr h
theorem tab_kb {P s : Addr} {H H' : Hp} {kvs : List (Key × V)} (g : GxR.TabG H P) (e : KB s H H') (hs : H s = some (.dK kvs)) : GxR.TabG H' P := by
  obtain ⟨ps, h, t⟩ := g
  exact ⟨ps, e _ _ (fun z => by rw [z, hs] at h; cases h) h, t⟩
/-! ### sizes -/
mutual
def szOk : PyData → Bool
  | .str x => decide (x.length ≤ 1000)
  | .list xs => szAll xs
  | .tuple xs => szAll xs
  | _ => true
def szAll : List PyData → Bool
  | [] => true
  | d :: ds => szOk d && szAll ds
end
theorem szAll_at : ∀ {ds : List PyData} {i : Nat} {d : PyData}, szAll ds = true → ds[i]? = some d → szOk d = true
  | [], i, d, _, h => by simp at h
  | e :: ds, 0, d, h, q => by
    simp only [List.getElem?_cons_zero, Option.some.injEq] at q
    subst q
    unfold szAll at h
    exact (Bool.and_eq_true_iff.mp h).1
  | e :: ds, i + 1, d, h, q => by
    simp only [List.getElem?_cons_succ] at q
    unfold szAll at h
    exact szAll_at (Bool.and_eq_true_iff.mp h).2 q
end Bk

set_option Elab.async false
set_option linter.all false
set_option maxRecDepth 100000
set_option maxHeartbeats 2000000
namespace Bk
open PySem PySem.Spec PyProof.Rows L2
/-! ### the forms -/
abbrev Forms := List (Str × List Str)
def numForms : Forms := [("num", ["amount"]), ("read", ["name"]), ("plus", ["number", "number"]), ("minus", ["number", "number"]), ("times", ["number", "number"]), ("most", ["number", "number"]), ("least", ["number", "number"])]
def condForms : Forms := [("below", ["number", "number"]), ("not", ["condition"]), ("all", ["condition", "condition"]), ("any", ["condition", "condition"])]
def ctrForms : Forms := [("none", []), ("give", ["side", "side", "good", "number"]), ("both", ["contract", "contract"]), ("turned", ["side", "side", "contract"]), ("later", ["wait", "contract"]), ("often", ["times", "gap", "contract"]),
  ("if", ["condition", "contract", "contract"]), ("when", ["condition", "contract"]), ("until", ["condition", "contract"])]
def strsAre : List Value → List Str → Bool
  | [], [] => true
  | .str x _ :: r, y :: s => decide (x = y) && strsAre r s
  | _, _ => false
theorem strsAre_vals : ∀ {us : List Value} {ks : List Str}, strsAre us ks = true → Vals (ks.map V.str) us
  | [], [], _ => .nil
  | .str x t :: r, y :: s, h => by
    have h' : (decide (x = y) && strsAre r s) = true := h
    rw [Bool.and_eq_true] at h'
    have e := of_decide_eq_true h'.1
    subst e
    exact .cons ⟨t, rfl⟩ (strsAre_vals h'.2)
def tupOk (K : PySem.W.Frag) (a : Addr) (ks : List Str) : Bool := match K.lookup a with
  | some ⟨.type c, _, .seq its _, _⟩ => decide (c = "tuple") && (decide (its.size ≤ 100) && strsAre its.toList ks)
  | _ => false
theorem tupOk_sq {K : PySem.W.Frag} {a : Addr} {ks : List Str} (h : tupOk K a ks = true) (H : Hp) : SqT K H a (ks.map V.str) := by
  unfold tupOk at h
  split at h
  · rename_i c dd its n sl e
    simp only [Bool.and_eq_true, decide_eq_true_eq] at h
    obtain ⟨h1, h2, h3⟩ := h
    subst h1
    exact .inr ⟨_, its, n, e, rfl, rfl, Nat.le_trans h2 (by decide), strsAre_vals h3⟩
  · cases h
def rowOk (K : PySem.W.Frag) (e : DictEntry) (p : Str × List Str) : Bool := match e.key, e.val with
  | .str x _, .ref a => decide (x = p.1) && tupOk K a p.2
  | _, _ => false
def rowsOk (K : PySem.W.Frag) : List DictEntry → Forms → Bool
  | [], [] => true
  | e :: r, p :: s => rowOk K e p && rowsOk K r s
  | _, _ => false
def formOf (L : Forms) (z : Str) : Option (List Str) := match L with
  | [] => none
  | p :: s => if p.1 = z then some p.2 else formOf s z
theorem rowsOk_find {K : PySem.W.Frag} {z : Str} : ∀ {es : List DictEntry} {L : Forms}, rowsOk K es L = true →
    match formOf L z with
    | none => es.find? (fun e => e.key.isStr z) = none
    | some ks => ∃ e a, es.find? (fun e => e.key.isStr z) = some e ∧ e.val = .ref a ∧ tupOk K a ks = true
  | [], [], _ => rfl
  | e :: r, p :: s, h => by
    have h' : (rowOk K e p && rowsOk K r s) = true := h
    rw [Bool.and_eq_true] at h'
    obtain ⟨h1, h2⟩ := h'
    have ih := rowsOk_find (z := z) h2
    unfold rowOk at h1
    split at h1
    · rename_i x t a ek ev
      rw [Bool.and_eq_true, decide_eq_true_eq] at h1
      obtain ⟨e1, e2⟩ := h1
      by_cases c : p.1 = z
      · have e3 : e.key.isStr z = true := by rw [ek, PySem.W.isStr_of, e1, c]; simp [Value.isStrOf]
        unfold formOf
        rw [if_pos c]
        exact ⟨e, a, by rw [List.find?_cons, e3], ev, e2⟩
      · have e3 : e.key.isStr z = false := by
          rw [ek, PySem.W.isStr_of, e1]
          simp only [Value.isStrOf]
          simpa using c
        unfold formOf
        rw [if_neg c, List.find?_cons, e3]
        exact ih
    · cases h1
def tabOk (K : PySem.W.Frag) (d : Addr) (L : Forms) : Bool := match K.lookup d with
  | some ⟨_, _, .dict es _, _⟩ => !(es.toList.any (·.refKey)) && rowsOk K es.toList L
  | _ => false
theorem tabOk_ns {K : PySem.W.Frag} {d : Addr} {L : Forms} (h : tabOk K d L = true) (z : Str) :
    match formOf L z with
    | none => PySem.W.nsIn K d z = some none
    | some ks => ∃ a, PySem.W.nsIn K d z = some (some (.ref a)) ∧ ∀ H, SqT K H a (ks.map V.str) := by
  unfold tabOk at h
  split at h
  · rename_i c dd es n sl e
    rw [Bool.and_eq_true] at h
    have q := rowsOk_find (z := z) h.2
    have r : es.toList.any (·.refKey) = false := by simpa using h.1
    unfold PySem.W.nsIn
    rw [e]
    cases hf : formOf L z with
    | none =>
      rw [hf] at q
      dsimp only at q ⊢
      rw [q, r]
      rfl
    | some ks =>
      rw [hf] at q
      obtain ⟨en, a, q1, q2, q3⟩ := q
      dsimp only
      rw [q1]
      dsimp only
      exact ⟨a, by rw [q2], tupOk_sq q3⟩
  · cases h
/-- a dict of the module that tells the forms of a kind -/
structure FTab (K : PySem.W.Frag) (w : World) (mg : Str → Option Value) (n : Str) (L : Forms) (d : Addr) : Prop where
  g : mg n = some (.ref d)
  kd : ∃ es c, KDict K w d es c
  ok : tabOk K d L = true
/-! ### what a contract is -/
def kindsOf (kind w : Str) : Option (List Str) := if kind = "contract" then formOf ctrForms w else if kind = "condition" then formOf condForms w else formOf numForms w
def isDeep (k : Str) : Bool := decide (k = "contract") || (decide (k = "condition") || decide (k = "number"))
def isW' : PyData → Bool
  | .str x => decide (1 ≤ x.length) && (decide (x.length ≤ 8) && x.cps.toList.all fun c => decide (97 ≤ c) && decide (c ≤ 122))
  | _ => false
def inB (lo hi : Int) : PyData → Bool
  | .int i => decide (lo ≤ i) && decide (i ≤ hi)
  | _ => false
def plainOk (k : Str) (d : PyData) : Bool :=
  if k = "amount" then inB (-999999999999) 999999999999 d else if k = "wait" then inB 0 99 d else if k = "times" then inB 1 9 d else if k = "gap" then inB 1 99 d else isW' d
def sameSides : List PyData → Bool
  | .str a :: .str b :: _ => decide (a = b)
  | _ => false
def twoSides (ks : List Str) : Bool := decide (ks.take 2 = [("side" : Str), ("side" : Str)])
/-- a contract, condition or number (by its kind) of at most so many levels -/
def wf : Nat → Str → PyData → Bool
  | 0, _, _ => false
  | n + 1, kind, .tuple (.str w :: ds) => match kindsOf kind w with
    | none => false
    | some ks => decide (ks.length = ds.length) && ((List.zip ks ds).all (fun p => if isDeep p.1 = true then wf n p.1 p.2 else plainOk p.1 p.2) && !(twoSides ks && sameSides ds))
  | _ + 1, _, _ => false
theorem wf_tup {n : Nat} {kind w : Str} {ds : List PyData} : wf (n + 1) kind (.tuple (.str w :: ds)) = match kindsOf kind w with
    | none => false
    | some ks => decide (ks.length = ds.length) && ((List.zip ks ds).all (fun p => if isDeep p.1 = true then wf n p.1 p.2 else plainOk p.1 p.2) && !(twoSides ks && sameSides ds)) := rfl
theorem wf_not {n : Nat} {kind : Str} {d : PyData} (h : ∀ w ds, d ≠ .tuple (.str w :: ds)) : wf n kind d = false := by
  cases n with
  | zero => rfl
  | succ n =>
    cases d with
    | tuple ds =>
      cases ds with
      | nil => rfl
      | cons x r =>
        cases x with
        | str w => exact absurd rfl (h w r)
        | _ => rfl
    | _ => rfl
end Bk

set_option Elab.async false
set_option linter.all false
set_option maxRecDepth 100000
set_option maxHeartbeats 2000000
namespace Bk
open PySem PySem.Spec PyProof.Rows L2
/-! ### a def whose code object is known -/
structure FunC (c : Addr) (K : PySem.W.Frag) (x : Str) (st : Stmt) (f : Addr) (fd : FuncData) : Prop where
  ex : ∃ (oc : Value) (od : Option Addr) (kV doc pm : Value) (an : Option Addr) (ct : Value) (osl : Array (Option Value)),
    fd = PySem.W.fnOf x x (defArgs st) (defBody st) (defScope st) .none kV doc pm an (.ref c) ct ∧ K.lookup f = some ⟨oc, od, .func fd, osl⟩ ∧ PySem.W.codeIn K (.ref c) x = true
  kp : PySem.W.keepIn K (.ref f) = true
theorem FunC.ok {c : Addr} {P : Program} {w : World} {K : PySem.W.Frag} {mg : Str → Option Value} {base : Heap} {x : Str} {st : Stmt} {f : Addr} {fd : FuncData} {N ps : List Str} {k : Nat} {sp : Sp} (F : FunC c K x st f fd) (S : FnScope N ps (defScope st))
    (len : ∀ vs H Q E, sp vs H Q E → vs.length = ps.length)
    (hb : ∀ (A : Around) (outer : List Env) (s : Shared) (H : Hp) (vs : List V) (Q : VK) (E : XK), Room k (A.deeper (envOfC x (defScope st) s.heap.objs.size f (.ref c))) → sp vs H Q E →
      ∃ t, PSs (cxOf CX0 P w K mg base N x (defScope st) f (.ref c) A outer s H E).nox (defBody st) t ∧ t { nx := fun _ H' => Q .non H', rt := Q } (start N vs) H) : FnOk P w K mg base CX0 (k + 1) f fd ps sp := by
  obtain ⟨oc, od, kV, doc, pm, an, ct, osl, rfl, lk, hcd⟩ := F.ex
  refine fn_of lk hcd S len fun A outer s H vs Q E hr hsp => ?_
  obtain ⟨t, h, q⟩ := hb A outer s H vs Q E hr hsp
  exact ⟨t, h.nox, q⟩
structure OwnC (c : Addr) (K : PySem.W.Frag) (mg : Str → Option Value) (x : Str) (st : Stmt) (ps : List Str) (f : Addr) (fd : FuncData) : Prop where
  F : FunC c K x st f fd
  g : mg x = some (.ref f)
  b : Binds K fd ps []
theorem OwnC.has {c : Addr} {P : Program} {w : World} {K : PySem.W.Frag} {mg : Str → Option Value} {base : Heap} {x : Str} {st : Stmt} {ps : List Str} {f : Addr} {fd : FuncData} {lv : Nat} {CX : CXT} {sp : Sp} (O : OwnC c K mg x st ps f fd)
    (G : FnOk P w K mg base CX lv f fd ps sp) : Has P w K mg base x ps lv CX sp f fd := ⟨G, O.g, O.F.kp, O.b⟩
theorem OwnC.mk' {c : Addr} {K : PySem.W.Frag} {mg : Str → Option Value} {x : Str} {st : Stmt} {ps : List Str} {f : Addr} {oc : Value} {od an : Option Addr} {osl : Array (Option Value)} {kV doc pm ct : Value}
    (l : K.lookup f = some ⟨oc, od, .func (PySem.W.fnOf x x (defArgs st) (defBody st) (defScope st) .none kV doc pm an (.ref c) ct), osl⟩) (hc : PySem.W.codeIn K (.ref c) x = true) (kp : PySem.W.keepIn K (.ref f) = true) (g : mg x = some (.ref f))
    (b : Binds K (PySem.W.fnOf x x (defArgs st) (defBody st) (defScope st) .none kV doc pm an (.ref c) ct) ps []) : OwnC c K mg x st ps f (PySem.W.fnOf x x (defArgs st) (defBody st) (defScope st) .none kV doc pm an (.ref c) ct) :=
  ⟨⟨⟨oc, od, kV, doc, pm, an, ct, osl, rfl, l, hc⟩, kp⟩, g, b⟩
/-! ### the package's errors -/
structure ExcT (K : PySem.W.Frag) (mg : Str → Option Value) (x : Str) (C : Addr) : Prop where
  g : mg x = some (.ref C)
  x : PySem.W.excIn K C [.type "ValueError", .type "Exception", .type "BaseException", .type "object"] "ValueError.__new__" = true
  k : PySem.W.keepIn K (.ref C) = true
  s : PySem.W.subIn K (.ref C) (.type "BaseException") = some true
  t : PySem.W.typeIn K (.ref C) = some (.type "type")
/-- isinstance(e, c) in a suite: the reading asks of what class e is -/
def rIsX (K : PySem.W.Frag) (a : Addr) (cls : Value) (d : Option Addr) : List V → Hp → VK → Prop := fun xs H Q => ∃ D, cls = .ref D ∧ d = none ∧ ExcC K D ∧ rIsE K D a xs H Q
theorem call_isX {X : Cx} {a : Addr} {cls : Value} {d : Option Addr} {oe : Obj} {pn : List (Addr × Obj)} (hz : Zc cls d oe) (hf : ∃ vs, oe.data = .fields vs) : CallR (X.suite a ((a, oe) :: pn)) (.builtin "isinstance") (rIsX X.K a cls d) := by
  intro pins s τ G xs us W I r h
  obtain ⟨D, rfl, rfl, C, h⟩ := h
  exact call_isE C hz hf pins s τ G xs us W I r h
/-! ### a raised text -/
theorem str_app_len (a b : Str) : (a ++ b).length = a.length + b.length := by
  show (a.cps ++ b.cps).size = a.cps.size + b.cps.size
  simp
theorem five_k : (5000 : Nat) ≤ sizeLine := by decide
section
variable {σ : L2.St} {H : Hp} {R : List V → Hp → Prop} {a b x : Str} {i : Nat}
theorem fs3 (hx : σ[i]? = some (some (.str x))) (lx : x.length ≤ 1000) (la : a.length ≤ 1000) (lb : b.length ≤ 1000) (h : ∀ z, R [.str z] H) :
    tCons (fun σ H Q => tJs [tC (.str a), tFmt (tVar i), tC (.str b)] Str.empty σ H fun out H1 => Q (.str out) H1) tNil σ H R := by
  have e0 : (Str.empty : Str).length = 0 := rfl
  have z := five_k
  refine ⟨a, rfl, by rw [str_app_len]; omega, _, hx, .inl ⟨x, rfl, by omega, x, rfl, by rw [str_app_len, str_app_len]; omega, b, rfl, by rw [str_app_len, str_app_len, str_app_len]; omega, h _⟩⟩
theorem fs2 (hx : σ[i]? = some (some (.str x))) (lx : x.length ≤ 1000) (la : a.length ≤ 1000) (h : ∀ z, R [.str z] H) :
    tCons (fun σ H Q => tJs [tC (.str a), tFmt (tVar i)] Str.empty σ H fun out H1 => Q (.str out) H1) tNil σ H R := by
  have e0 : (Str.empty : Str).length = 0 := rfl
  have z := five_k
  refine ⟨a, rfl, by rw [str_app_len]; omega, _, hx, .inl ⟨x, rfl, by omega, x, rfl, by rw [str_app_len, str_app_len]; omega, h _⟩⟩
end
theorem inDeep (k : Str) : inV (.str k) [.str "contract", .str "condition", .str "number"] = isDeep k := by
  have e : ∀ a b : Str, (a == b) = decide (b = a) := fun a b => by
    by_cases c : a = b
    · subst c; simp
    · rw [decide_eq_false (fun z => c z.symm)]
      simpa using c
  simp only [inV, List.any_cons, List.any_nil, eqV, isDeep, e, Bool.or_false]
theorem cut1 (x : V) (xs : List V) : cutV (x :: xs) (some 1) none = xs := by
  have e : HT.sIx (xs.length + 1) 0 (some 1) = 1 := by
    have q := HT.sIx_nat (xs.length + 1) 0 1
    refine q.trans ?_
    omega
  unfold cutV
  rw [List.length_cons, HT.sIx_none, e]
  simp
theorem not_whole1 (x : V) (xs : List V) : ¬ (HT.sIx (x :: xs).length 0 (some 1) = 0 ∧ HT.sIx (x :: xs).length (x :: xs).length none = (x :: xs).length) := by
  rintro ⟨h, _⟩
  have e : HT.sIx (xs.length + 1) 0 (some 1) = 1 := by
    have q := HT.sIx_nat (xs.length + 1) 0 1
    refine q.trans ?_
    omega
  rw [List.length_cons, e] at h
  cases h
theorem formOf_mem {z : Str} {ks : List Str} : ∀ {L : Forms}, formOf L z = some ks → ∃ p ∈ L, p.2 = ks
  | [], h => by cases h
  | p :: s, h => by
    unfold formOf at h
    split at h
    · exact ⟨p, List.mem_cons_self, Option.some.inj h⟩
    · obtain ⟨q, hq, e⟩ := formOf_mem h
      exact ⟨q, List.mem_cons_of_mem _ hq, e⟩
def allKinds : List (List Str) := (ctrForms ++ condForms ++ numForms).map (·.2)
theorem kinds_mem {kind z : Str} {ks : List Str} (h : kindsOf kind z = some ks) : ks ∈ allKinds := by
  unfold kindsOf at h
  unfold allKinds
  rw [List.mem_map]
  split at h
  · obtain ⟨p, hp, e⟩ := formOf_mem h
    exact ⟨p, List.mem_append_left _ (List.mem_append_left _ hp), e⟩
  · split at h
    · obtain ⟨p, hp, e⟩ := formOf_mem h
      exact ⟨p, List.mem_append_left _ (List.mem_append_right _ hp), e⟩
    · obtain ⟨p, hp, e⟩ := formOf_mem h
      exact ⟨p, List.mem_append_right _ hp, e⟩
theorem kinds_short : ∀ ks ∈ allKinds, ∀ k ∈ ks, k.length ≤ 100 := by decide +kernel
theorem kinds_two : ∀ ks ∈ allKinds, twoSides ks = true → ∃ s, ks = ("side" : Str) :: ("side" : Str) :: s := by
  intro ks h e
  unfold twoSides at e
  have e := of_decide_eq_true e
  cases ks with
  | nil => cases e
  | cons x r =>
    cases r with
    | nil => cases e
    | cons y s =>
      injection e with e1 e2
      injection e2 with e2 e3
      exact ⟨s, by rw [e1, e2]⟩
/-- the parts, so far -/
def partOk (n : Nat) (p : Str × PyData) : Bool := if isDeep p.1 = true then wf n p.1 p.2 else plainOk p.1 p.2
theorem zip_at {ks : List Str} {ds : List PyData} {i : Nat} {k : Str} {d : PyData} (h1 : ks[i]? = some k) (h2 : ds[i]? = some d) : (List.zip ks ds)[i]? = some (k, d) := by
  rw [List.getElem?_zip_eq_some]
  exact ⟨h1, h2⟩
theorem all_not {α : Type} {f : α → Bool} {l : List α} {i : Nat} {x : α} (h : l[i]? = some x) (e : f x = false) : l.all f = false := by
  rw [Bool.eq_false_iff]
  intro z
  have := List.all_eq_true.mp z x (List.mem_of_getElem? h)
  rw [e] at this
  cases this
theorem take_all {α : Type} {f : α → Bool} {l : List α} {i : Nat} {x : α} (h : l[i]? = some x) (e : f x = true) (q : (l.take i).all f = true) : (l.take (i + 1)).all f = true := by
  have hi : i < l.length := (List.getElem?_eq_some_iff.mp h).1
  have hx : l[i] = x := (List.getElem?_eq_some_iff.mp h).2
  rw [List.take_succ_eq_append_getElem hi, List.all_append, q, hx]
  simp [e]
theorem g_zipA {K : PySem.W.Frag} {ta : TA} {σ : L2.St} {H : Hp} {R : It → Hp → Prop} (h : ta σ H fun vs H1 => ∃ a b xs ys, vs = [.ref a, .ref b] ∧ ((SqL K H1 a xs ∧ SqL K H1 b ys ∧ R (Itz K a b) H1) ∨ (SqT K H1 a xs ∧ SqT K H1 b ys ∧ R (RZ.ItzT K a b) H1))) : RZ.iZipA K ta σ H R := h
theorem wf_tup' {n : Nat} {kind w : Str} {ds : List PyData} : wf (n + 1) kind (.tuple (.str w :: ds)) = match kindsOf kind w with
    | none => false
    | some ks => decide (ks.length = ds.length) && ((List.zip ks ds).all (partOk n) && !(twoSides ks && sameSides ds)) := rfl
theorem two_shaped : ∀ ks ∈ allKinds, SeqAt.shaped (.tuple ((ks.take 2).map PyData.str)) = true := by decide +kernel
theorem two_eqv : ∀ ks ∈ allKinds, PyData.eqv (.tuple ((ks.take 2).map PyData.str)) (.tuple [.str "side", .str "side"]) = twoSides ks := by decide +kernel
theorem dpStrs {K : PySem.W.Frag} {H : Hp} : ∀ ks : List Str, DpAll K H (ks.map V.str) (ks.map PyData.str)
  | [] => .nil
  | k :: ks => .cons (.str k) (dpStrs ks)
theorem word_str {m : Nat} {d : PyData} (h : partOk m ("side", d) = true) : ∃ x, d = .str x := by
  have e : partOk m ("side", d) = isW' d := by
    have e1 : isDeep "side" = false := by decide +kernel
    unfold partOk
    rw [if_neg (by rw [e1]; exact Bool.false_ne_true)]
    show plainOk "side" d = isW' d
    have e1 : ¬ ("side" : Str) = "amount" := by decide +kernel
    have e2 : ¬ ("side" : Str) = "wait" := by decide +kernel
    have e3 : ¬ ("side" : Str) = "times" := by decide +kernel
    have e4 : ¬ ("side" : Str) = "gap" := by decide +kernel
    unfold plainOk
    rw [if_neg e1, if_neg e2, if_neg e3, if_neg e4]
  rw [e] at h
  cases d with
  | str x => exact ⟨x, rfl⟩
  | _ => cases h
end Bk

set_option Elab.async false
set_option linter.all false
set_option maxRecDepth 100000
set_option maxHeartbeats 2000000
namespace Bk
open PySem PySem.Spec PyProof.Rows L2
/-! ### what displays evaluate to -/
abbrev Env4 := Nat → Option PyData
def SlotsOk (K : PySem.W.Frag) (Γ : Env4) (σ : L2.St) (H : Hp) : Prop := ∀ i d, Γ i = some d → ∃ v, σ[i]? = some (some v) ∧ Dp K H v d
theorem SlotsOk.same {K : PySem.W.Frag} {Γ : Env4} {σ : L2.St} {H H' : Hp} (s : SlotsOk K Γ σ H) (e : Same H H') : SlotsOk K Γ σ H' := fun i d h => by
  obtain ⟨v, h1, h2⟩ := s i d h
  exact ⟨v, h1, Dp.dm (.of e) h2⟩
def EvD (K : PySem.W.Frag) (Γ : Env4) (t : TE) (d : PyData) : Prop := ∀ (σ : L2.St) (H : Hp) (Q : VK), SlotsOk K Γ σ H → (∀ v H', Same H H' → Dp K H' v d → Q v H') → t σ H Q
def EvA (K : PySem.W.Frag) (Γ : Env4) (t : TA) (ds : List PyData) : Prop := ∀ (σ : L2.St) (H : Hp) (Q : List V → Hp → Prop), SlotsOk K Γ σ H → (∀ vs H', Same H H' → DpAll K H' vs ds → Q vs H') → t σ H Q
section
variable {K : PySem.W.Frag} {Γ : Env4}
theorem evd_str (x : Str) : EvD K Γ (tC (.str x)) (.str x) := fun σ H Q _ q => q _ _ (Same.refl H) (.str x)
theorem evd_int (x : Int) : EvD K Γ (tC (.int x)) (.int x) := fun σ H Q _ q => q _ _ (Same.refl H) (.int x)
theorem evd_bl (x : Bool) : EvD K Γ (tC (.bl x)) (.bool x) := fun σ H Q _ q => q _ _ (Same.refl H) (.bl x)
theorem evd_non : EvD K Γ (tC .non) .none := fun σ H Q _ q => q _ _ (Same.refl H) .non
theorem evd_var {i : Nat} {d : PyData} (h : Γ i = some d) : EvD K Γ (tVar i) d := fun σ H Q s q => by
  obtain ⟨v, h1, h2⟩ := s i d h
  exact ⟨v, h1, q _ _ (Same.refl H) h2⟩
theorem eva_nil : EvA K Γ tNil [] := fun σ H Q _ q => q _ _ (Same.refl H) .nil
theorem eva_cons {t : TE} {r : TA} {d : PyData} {ds : List PyData} (h : EvD K Γ t d) (hr : EvA K Γ r ds) : EvA K Γ (tCons t r) (d :: ds) := fun σ H Q s q =>
  h σ H _ s fun v H1 e1 d1 => hr σ H1 _ (s.same e1) fun vs H2 e2 d2 => q _ _ (e1.trans e2) (.cons (Dp.dm (.of e2) d1) d2)
theorem evd_tup {t : TA} {ds : List PyData} (h : EvA K Γ t ds) (hl : ds.length ≤ 1000) : EvD K Γ (tTup t) (.tuple ds) := fun σ H Q s q =>
  h σ H _ s fun vs H1 e1 d1 => ⟨sz (by rw [DpAll.len d1]; exact hl), fun p np => q _ _ (e1.trans (same_new np)) (.tup (sqt upd_same) (DpAll.dm (.of (same_new np)) d1))⟩
theorem evd_lst {t : TA} {ds : List PyData} (h : EvA K Γ t ds) (hl : ds.length ≤ 1000) : EvD K Γ (tLst t) (.list ds) := fun σ H Q s q =>
  h σ H _ s fun vs H1 e1 d1 => ⟨sz (by rw [DpAll.len d1]; exact hl), fun p np => q _ _ (e1.trans (same_new np)) (.lst (sql upd_same) (DpAll.dm (.of (same_new np)) d1))⟩
theorem evd_I0 {f : Int → Int → Int} {ta tb : TE} {i j : Int} (ha : EvD K Γ ta (.int i)) (hb : EvD K Γ tb (.int j)) : EvD K Γ (tOp (rI0 fun i j => .int (f i j)) ta tb) (.int (f i j)) := fun σ H Q s q =>
  ha σ H _ s fun v H1 e1 d1 => hb σ H1 _ (s.same e1) fun u H2 e2 d2 => by
    cases d1
    cases d2
    exact ⟨i, j, rfl, rfl, q _ _ (e1.trans e2) (.int _)⟩
theorem evd_I {C : Int → Int → Prop} {f : Int → Int → Int} {ta tb : TE} {i j : Int} (ha : EvD K Γ ta (.int i)) (hb : EvD K Γ tb (.int j)) (hc : C i j) : EvD K Γ (tOp (rI C fun i j => .int (f i j)) ta tb) (.int (f i j)) := fun σ H Q s q =>
  ha σ H _ s fun v H1 e1 d1 => hb σ H1 _ (s.same e1) fun u H2 e2 d2 => by
    cases d1
    cases d2
    exact ⟨i, j, rfl, rfl, hc, q _ _ (e1.trans e2) (.int _)⟩
theorem evd_neg {f : Int → Int} {ta : TE} {i : Int} (ha : EvD K Γ ta (.int i)) : EvD K Γ (tUn (rU fun i => .int (f i)) ta) (.int (f i)) := fun σ H Q s q =>
  ha σ H _ s fun v H1 e1 d1 => by
    cases d1
    exact ⟨i, rfl, q _ _ e1 (.int _)⟩
/-- a list that is laid anew -/
theorem ev_lst {t : TA} {ds : List PyData} {σ : L2.St} {H : Hp} {Q : VK} (h : EvA K Γ t ds) (hl : ds.length ≤ 1000) (s : SlotsOk K Γ σ H) (q : ∀ p xs H1, Same H H1 → H1 p = none → DpAll K H1 xs ds → Q (.ref p) (upd H1 p (.lst xs))) : tLst t σ H Q :=
  h σ H _ s fun vs H1 e1 d1 => ⟨sz (by rw [DpAll.len d1]; exact hl), fun p np => q p vs H1 e1 np d1⟩
end
/-! ### fewer levels tell no more -/
theorem wf_more : ∀ {n m : Nat} {kind : Str} {d : PyData}, n ≤ m → wf n kind d = true → wf m kind d = true
  | 0, _, _, _, _, h => by cases h
  | n + 1, 0, _, _, hl, _ => by omega
  | n + 1, m + 1, kind, d, hl, h => by
    have hl : n ≤ m := by omega
    cases d with
    | tuple ds =>
      cases ds with
      | nil => cases h
      | cons x r =>
        cases x with
        | str w =>
          rw [wf_tup'] at h ⊢
          split at h
          · cases h
          · rename_i ks hk
            rw [Bool.and_eq_true, Bool.and_eq_true] at h ⊢
            refine ⟨h.1, ?_, h.2.2⟩
            rw [List.all_eq_true] at *
            intro p hp
            have z := h.2.1 p hp
            unfold partOk at z ⊢
            split
            · rename_i c
              rw [if_pos c] at z
              exact wf_more hl z
            · rename_i c
              rw [if_neg c] at z
              exact z
        | _ => cases h
    | _ => cases h
theorem wf_fewer {n m : Nat} {kind : Str} {d : PyData} (hl : n ≤ m) (h : wf m kind d = false) : wf n kind d = false := by
  cases e : wf n kind d with
  | false => rfl
  | true =>
    rw [wf_more hl e] at h
    cases h
theorem g_callS {sp : Sp} {E : L2.St → XK} {t : TA} {σ : L2.St} {H : Hp} {Q : VK} (h : t σ H fun vs H1 => sp vs H1 Q (E σ)) : tCallS sp E t σ H Q := h
/-- what the classes of the errors are to one another, C being raised -/
structure Errs (K : PySem.W.Frag) (B C M X T : Addr) : Prop where
  exm : PySem.W.exmOne K (.ref C) (.ref B) = some true
  ec : ExcC K C
  iM : PySem.W.kitOne K (.ref C) (.ref M) = some false
  iX : PySem.W.kitOne K (.ref C) (.ref X) = some false
  iT : PySem.W.kitOne K (.ref C) (.ref T) = some false
  iC : PySem.W.kitOne K (.ref C) (.ref C) = some true
  iV : PySem.W.kitOne K (.ref C) (.type "ValueError") = some true
theorem use_isX {K : PySem.W.Frag} {a D : Addr} {c : V} {cv : Value} {b : Bool} {H : Hp} {Q : VK} (ec : ExcC K D) (hc : ∀ u, RelV c u → u = cv) (h : PySem.W.kitOne K (.ref D) cv = some b) (q : Q (.bl b) H) : rIsX K a (.ref D) none [.ref a, c] H Q :=
  ⟨D, rfl, rfl, ec, c, cv, b, rfl, hc, h, q⟩
end Bk

set_option Elab.async false
set_option linter.all false
set_option maxRecDepth 100000
set_option maxHeartbeats 2000000
namespace Bk
open PySem PySem.Spec PyProof.Rows L2
/-! ### the end: a law over a package with tables of code objects -/
/-- what the top tells of a def's table -/
def TabsOf (q : Program) (K : PySem.W.Frag) (h : Heap) : Prop := ∀ (x : Str) (c P : Addr), ((recsOf q).find? (fun e => e.name == x)).isSome = true → PySem.W.tabIn K x = some (c, P) → PySem.W.CodeHd h c P ∧ h.get? P = some (PySem.W.tabObj #[])
theorem walk_tabs {l : PySem.W.OpenLaw} {n k : Nat} {q : Program} {loose : List Str} {XP : (Str → Option Value) → Heap → Prop} {YP : World → Heap → Prop} {d : DefRec} {K : Params → PySem.W.Frag} {CX : World → CXT} {x : Str}
    (hn : l.most = some n) (hn2 : n ≤ sizeLine) (hdf : d.params.defaults = []) (hr : Room k callerA) (hY : ∀ (w : World) (h : Heap), YP w h → (K w.params).In h)
    (F : ∀ (w : World) (mg : Str → Option Value) (fa : Addr) (h : Heap), (K w.params).In h → h.Ns mainGlobals mg → mg d.name = some (.ref fa) → TabsOf q (K w.params) h → LamX.LawAtS l w (K w.params) (CX w) k n x mg fa h)
    (hCX : ∀ (w : World) (H : Hp) (s : Shared) (e : Value) (s' : Shared), CX w [] H s (fun _ _ _ => False) e s' → False) :
    PySem.W.WalkO q loose XP YP l.row.toRowW d [] (fun f vs => PySem.call f vs) :=
  Att.attach_callB hn hdf fun w u u1 mg mb fa ob pm cd doc a vs ns gr yp hob hda hco hmg hls hin hlen hbits hge => by
    have kin := hY w _ yp
    obtain ⟨fd, cs, sp, c1, c2, c3, c4, c5, c6⟩ := F w mg fa _ kin gr.T.g hmg fun z c P hs ht => by
      obtain ⟨e, he⟩ := Option.isSome_iff_exists.mp hs
      exact PySem.W.tab_of gr.T kin he ht
    exact LamX.law_callTs kin gr.T.g gr.T.b gr.T.builtins gr.T.nolimit hge c1 c2 c3 gr.T.bmain hls hin (Nat.le_trans hlen hn2) hr c6 c4 (fun G g1 g2 => c5 G a ns hlen hbits g1 g2) fun G e u2 => hCX w G u1 e u2
theorem tabIn_of {K : PySem.W.Frag} {x : Str} {f c P : Addr} {oc oc2 : Value} {od od2 : Option Addr} {sl sl2 : Array (Option Value)} {fd : FuncData} {vs : Array Value} (a : PySem.W.nsIn K mainGlobals x = some (some (.ref f))) (l : K.lookup f = some ⟨oc, od, .func fd, sl⟩)
    (hc : fd.code = .ref c) (cc : K.lookup c = some ⟨oc2, od2, .fields vs, sl2⟩) (v : (vs[11]? : Option Value) = some (.ref P)) : PySem.W.tabIn K x = some (c, P) := by
  unfold PySem.W.tabIn
  rw [a]
  dsimp only
  rw [l]
  dsimp only
  rw [hc]
  dsimp only
  rw [cc]
  dsimp only
  rw [v]
theorem FTab.of {K : PySem.W.Frag} {w : World} {mg : Str → Option Value} {n : Str} {L : Forms} {d : Addr} (g : mg n = some (.ref d)) (k : He.dicW K d = some (He.keysIn w.params (L.map (·.1)))) (ok : tabOk K d L = true) : FTab K w mg n L d := ⟨g, He.dicW_ok k, ok⟩
end Bk

set_option Elab.async false
set_option linter.all false
set_option maxRecDepth 100000
/-! len(set(xs)), xs a list of texts or of whole numbers, alike ones among them. -/
namespace BkS
open PySem PySem.Spec PyProof.Rows

section
variable {K : Type} [DecidableEq K]
/-- the unlike ones, each where it is first met, behind these -/
def metA : List K → List K → List K
  | ys, [] => ys
  | ys, x :: xs => metA (if x ∈ ys then ys else ys ++ [x]) xs
def met (xs : List K) : List K := metA [] xs
theorem metA_snoc : ∀ (xs ys : List K) (x : K), metA ys (xs ++ [x]) = if x ∈ metA ys xs then metA ys xs else metA ys xs ++ [x]
  | [], _, _ => rfl
  | _ :: xs, _, x => metA_snoc xs _ x
theorem mem_metA : ∀ (xs ys : List K) (y : K), y ∈ metA ys xs ↔ y ∈ ys ∨ y ∈ xs
  | [], ys, y => by simp [metA]
  | x :: xs, ys, y => by
    show y ∈ metA _ xs ↔ _
    rw [mem_metA xs _ y]
    by_cases h : x ∈ ys
    · rw [if_pos h, List.mem_cons]
      exact ⟨fun q => q.elim .inl fun z => .inr (.inr z), fun q => q.elim .inl fun z => z.elim (fun e => .inl (e ▸ h)) .inr⟩
    · rw [if_neg h]
      simp [or_assoc]
theorem metA_le : ∀ (xs ys : List K), (metA ys xs).length ≤ ys.length + xs.length
  | [], ys => Nat.le_refl _
  | x :: xs, ys => by
    have h := metA_le xs (if x ∈ ys then ys else ys ++ [x])
    show (metA _ xs).length ≤ _
    split at h <;> simp at h ⊢ <;> split <;> simp_all <;> omega
theorem met_mem (xs : List K) (y : K) : y ∈ met xs ↔ y ∈ xs := by
  rw [met, mem_metA]; simp
theorem met_le (xs : List K) : (met xs).length ≤ xs.length := by
  have h := metA_le xs []
  simpa [met] using h
theorem met_snoc (xs : List K) (x : K) : met (xs ++ [x]) = if x ∈ xs then met xs else met xs ++ [x] := by
  unfold met
  rw [metA_snoc]
  by_cases h : x ∈ xs
  · rw [if_pos h]; exact if_pos ((met_mem xs x).mpr h)
  · rw [if_neg h]; exact if_neg fun z => h ((met_mem xs x).mp z)
theorem metA_eq : ∀ (xs ys : List K), (ys ++ xs).Nodup → metA ys xs = ys ++ xs
  | [], ys, _ => by simp [metA]
  | x :: xs, ys, h => by
    have hx : x ∉ ys := fun z => (List.pairwise_append.mp h).2.2 x z x (by simp) rfl
    show metA _ xs = _
    rw [if_neg hx, metA_eq xs (ys ++ [x]) (by simpa using h)]
    simp
theorem metA_lt : ∀ (xs ys : List K), ys.Nodup → ¬ (ys ++ xs).Nodup → (metA ys xs).length < ys.length + xs.length
  | [], ys, h, n => absurd (by simpa using h) n
  | x :: xs, ys, h, n => by
    show (metA _ xs).length < _
    by_cases hx : x ∈ ys
    · rw [if_pos hx]
      have := metA_le xs ys
      simp; omega
    · rw [if_neg hx]
      have z := metA_lt xs (ys ++ [x]) (List.pairwise_append.mpr ⟨h, by simp, fun a ha b hb => by simp at hb; subst hb; exact fun e => hx (e ▸ ha)⟩) (by simpa using n)
      simp at z ⊢
      omega
theorem met_eq {xs : List K} (h : xs.Nodup) : (met xs).length = xs.length := by rw [met, metA_eq xs [] (by simpa using h)]; simp
theorem met_lt {xs : List K} (h : ¬ xs.Nodup) : (met xs).length < xs.length := by
  have z := metA_lt xs [] (by simp) (by simpa using h)
  simpa [met] using z
end

section
variable {prog : Program} {w : World} {K : Type} [DecidableEq K] {knd : KeyKind prog w K}
theorem setOf_to {h : Heap} {a : Addr} {S S' : K → Bool} {n n' : Nat} (hS : h.SetOf knd a S n) (e : ∀ k, S k = S' k) (en : n = n') : h.SetOf knd a S' n' := by
  have : S = S' := funext e
  subst this; subst en; exact hS
variable {A : Around} {R : Result → Shared → Prop} {I : Addr} {fp wr : List Addr} {G : Array GenState → Array GenState → Prop} {n : Nat} {P : Nat → Value → Prop} {St : Nat → Shared → Prop}
/-- the set takes the iterator's items, one by one -/
theorem taken_all (W : WalksS prog w A.in1 I fp wr G n P St) (S : Addr) (hSf : S ∉ fp) (xs : List K) (hn : xs.length = n) (hb : n + 1 < scanBound)
    (hv : ∀ i v, P i v → ∃ k, xs[i]? = some k ∧ knd.is k v = true ∧ v.scannable = true) :
    ∀ (k i : Nat) (s : Shared), n - i = k → i ≤ n → St i s → s.heap.SetOf knd S (fun k => decide (k ∈ xs.take i)) (met (xs.take i)).length →
      (∀ s', Moved (S :: wr) G s s' → s'.heap.SetOf knd S (fun k => decide (k ∈ xs)) (met xs).length → R (.ok (.ret .none)) s') →
      codeAny (model prog w) A (.builtin "set.update.loop" ⟨[.ref S, .ref I], []⟩) R s := by
  have hSw : S ∉ wr := fun h => hSf (W.sub _ h)
  have up : ∀ b ∈ wr, b ∈ S :: wr := fun b hb => List.mem_cons_of_mem _ hb
  intro k
  induction k with
  | zero =>
    intro i s hk hi hst hS hq
    obtain rfl : i = n := by omega
    refine codeAny_builtin PyProof.Rows.F.entry_set_update_loop ?_
    rw [Around.under_plainId PyProof.Rows.F.plain_set_update_loop _]
    show wpAny _ A.in1 (pyNext (.ref I) >>= _) _ _ s
    refine wpAny_bind (W.done s _ _ hst fun s' hm => ?_)
    show wpAny _ A.in1 (ret Value.none) _ _ s'
    refine wpAny_pure (hq s' (hm.mono up) ?_)
    rw [← hn, List.take_length] at hS
    obtain ⟨o, es, ep, t, ho, z⟩ := hS
    exact ⟨o, es, ep, t, hm.heap S _ hSw ho, z⟩
  | succ k ih =>
    intro i s hk hi hst hS hq
    have hlt : i < n := by omega
    refine codeAny_builtin PyProof.Rows.F.entry_set_update_loop ?_
    rw [Around.under_plainId PyProof.Rows.F.plain_set_update_loop _]
    show wpAny _ A.in1 (pyNext (.ref I) >>= _) _ _ s
    refine wpAny_bind (W.item i s _ _ hlt hst fun v s' hP hst' hm => ?_)
    obtain ⟨x, ex, hx, hs⟩ := hv i v hP
    have et : xs.take (i + 1) = xs.take i ++ [x] := by rw [List.take_add_one, ex]; rfl
    have hS' : s'.heap.SetOf knd S (fun k => decide (k ∈ xs.take i)) (met (xs.take i)).length := by
      obtain ⟨o, es, ep, t, ho, z⟩ := hS
      exact ⟨o, es, ep, t, hm.heap S _ hSw ho, z⟩
    show wpAny _ A.in1 (holding [v] (setAdd S v) >>= _) _ _ s'
    refine wpAny_bind (wpAny_holding ?_)
    unfold setAdd
    refine wpAny_holding ?_
    refine wpAny_bind (knd.pyHash (k := x) hx ?_)
    have room : (met (xs.take i)).length + 1 < scanBound := by
      have h1 := met_le (xs.take i)
      have h2 : (xs.take i).length ≤ i := by rw [List.length_take]; omega
      omega
    refine wpAny_setAddHashed_of (knd := knd) (s := { s' with toks := s'.toks + 1 }) hx hs hS' room fun h' hsb hS2 => ?_
    have hSi : h'.SetOf knd S (fun k => decide (k ∈ xs.take (i + 1))) (met (xs.take (i + 1))).length := by
      refine setOf_to hS2 (fun k' => ?_) ?_
      · rw [et]; simp
      · rw [et, met_snoc]
        by_cases h : x ∈ xs.take i
        · rw [if_pos (by simpa using h), if_pos h]
        · rw [if_neg (by simpa using h), if_neg h]; simp
    refine wpAny_pure ⟨plainId_quiet PyProof.Rows.F.plain_set_update_loop _, ih (i + 1) _ (by omega) hlt (W.frame _ s' _ _ hst' (Nat.le_succ _) fun b hb o e => ?_) hSi fun s'' hm'' hS'' => ?_⟩
    · rw [hsb.2 b (fun h : b = S => hSf (by rw [← h]; exact hb))]; exact e
    · refine hq s'' (Moved.trans W.gtrans ((hm.mono up).then_heap (Nat.le_succ _) fun b o hb e => ?_) hm'') hS''
      rw [hsb.2 b (fun h : b = S => hb (by rw [h]; exact List.mem_cons_self))]; exact e
end

section
variable {prog : Program} {w : World} {A : Around} {E : Value → Shared → Prop} {s : Shared} {K : Type} [DecidableEq K] {knd : KeyKind prog w K}
set_option maxHeartbeats 3200000 in
/-- set(l) of a list whose items tell these keys -/
theorem call_set_keys {l : Addr} {items : Array Value} {xs : List K} {Q : Value → Shared → Prop} (hh : A.handled = none) (hl : s.heap.IsList l items) (hn : xs.length = items.size)
    (hv : ∀ (i : Nat) v, items[i]? = some v → ∃ k, xs[i]? = some k ∧ knd.is k v = true ∧ v.scannable = true) (hb : items.size + 1 < scanBound)
    (h : ∀ (h' : Heap) (tk : Nat), h'.SetOf knd s.heap.objs.size (fun k => decide (k ∈ xs)) (met xs).length → (∀ b o, b < s.heap.objs.size → s.heap.get? b = some o → h'.get? b = some o) →
      Q (.ref s.heap.objs.size) { s with heap := h', toks := tk }) :
    wpAny (model prog w) A (call (.type "set") [.ref l]) Q E s := by
  have hc := PySem.F.called_set
  obtain ⟨_, _, hmro⟩ := hc.mro
  have hmade := hc.made
  have hsub := hc.sub
  have h1 := hc.notType
  have h2 := hc.canCreate
  have h3 := PySem.F.typeCall_set_1 (.ref l)
  refine wpAny_call (codeAny_of_tree ?_)
  show wpAny _ _ (callAny (.type "set") _) _ _ _
  refine wpAny_pure ⟨Code.quiet_builtin _ (by decide +kernel), codeAny_builtin PySem.F.entry_type_call ?_⟩
  rw [Around.under_plain (weight_type_call_type "set" [.ref l] []) rfl]
  repeat (any_goals (first | assumption | wp_step))
  let ob : Bool → Obj := fun led => { cls := .type "set", dict := none, data := .set #[] 0 (.fresh 0 0 led) }
  refine codeAny_mono (code_set_new_1 (.ref l) (E := E) (Q₁ := fun v t => ∃ led : Bool, v = .ref s.heap.objs.size ∧ t = { s with heap := s.heap.push (ob led) }) fun led => ⟨led, rfl, rfl⟩) fun r t hr => ?_
  rcases r with e | fl
  · exact hr
  cases fl with
  | ret v =>
    obtain ⟨led, rfl, rfl⟩ := hr
    have hS : (s.heap.push (ob led)).get? s.heap.objs.size = some (ob led) := Heap.get?_push_size _ rfl
    have hT : Shared.TypeIs { s with heap := s.heap.push (ob led) } (.ref s.heap.objs.size) "set" := ⟨_, hS, rfl⟩
    have hli := hc.init.lookup
    have hbi := hc.init.bind (.ref s.heap.objs.size)
    repeat (any_goals (first | assumption | wp_step))
    let After : Value → Shared → Prop := fun r t => r = .none ∧ ∃ h' tk, t = { s with heap := h', toks := tk } ∧ h'.SetOf knd s.heap.objs.size (fun k => decide (k ∈ xs)) (met xs).length ∧
      (∀ b o, b < s.heap.objs.size → s.heap.get? b = some o → h'.get? b = some o)
    refine codeAny_mono (codeAny_call_builtin (R := wants After E) hc.init.plain PySem.F.entry_set_init (check_set_init_1 hT ?_)) fun r t hr => ?_
    · obtain ⟨⟨oc, od, ot, os⟩, hol, hcl, nl, hdl⟩ := hl
      obtain rfl : oc = _ := hcl
      obtain rfl : ot = _ := hdl
      have hol2 : (s.heap.push (ob led)).get? l = _ := Heap.get?_push_of_some _ hol
      have hl1 : (s.heap.push (ob led)).IsList l items := ⟨_, hol2, rfl, nl, rfl⟩
      have hs1 := PySem.F.sub_list_set
      have hs2 := PySem.F.sub_list_frozenset
      have hne : (Value.type "list" == Value.type "dict") = false := by decide
      have hlS : l < s.heap.objs.size := Heap.lt_size hol
      have h5 : A.in1.in1.in1.handled = none := by simp [hh]
      have z1 : (s.heap.push (ob led)).objs.size = s.heap.objs.size + 1 := Heap.size_push _ _
      have hI : l ≠ (s.heap.push (ob led)).objs.size := by rw [z1]; exact Nat.ne_of_lt (Nat.lt_succ_of_lt hlS)
      have hSf : s.heap.objs.size ∉ [(s.heap.push (ob led)).objs.size, l] := by
        rw [z1]; simp only [List.mem_cons, List.not_mem_nil, or_false, not_or]
        exact ⟨Nat.ne_of_lt (Nat.lt_succ_self _), Nat.ne_of_gt hlS⟩
      unfold Builtin.«set.__init__» noKeywords Builtin.Frozenset.updateFrom
      generalize hPI : pyIter = PI
      wp_walk
      subst hPI
      refine wpAny_pyIter_list hl1 ?_
      refine wpAny_bind (wpAny_runValue ?_)
      refine taken_all ((Walks.list h5 _ l hI items).toS) s.heap.objs.size hSf xs hn hb (fun i v hp => hv i v hp) (items.size - 0) 0 _ (by omega) (Nat.zero_le _) ⟨⟨_, Heap.get?_push_size _ rfl, rfl, rfl⟩, (hl1.push _)⟩ ?hS0 ?hR
      case hS0 =>
        have hget : ((s.heap.push (ob led)).push { cls := .type "list_iterator", data := .fields #[.ref l, .int 0 0] }).get? s.heap.objs.size = some (ob led) := Heap.get?_push_of_some _ hS
        exact setOf_to ((PyProof.Rows.setObjOf_fresh (knd := knd) led).setOf hget (by unfold scanBound; omega)) (fun _ => by simp) rfl
      case hR =>
        intro t hm hS'
        obtain ⟨h', g', d', tk', os'⟩ := t
        obtain rfl : g' = s.gens := hm.gens
        obtain rfl : d' = s.drawn := hm.drawn
        obtain rfl : os' = s.os := hm.os
        show wpAny _ _ _ _ _ _
        refine wpAny_pure ?_
        show wpAny _ _ (ret Value.none) _ _ _
        refine wpAny_pure ⟨rfl, h', tk', rfl, hS', fun b o hb e => hm.heap b o ?_ (Heap.get?_push_of_some _ (Heap.get?_push_of_some _ e))⟩
        simp only [List.mem_cons, List.not_mem_nil, or_false, not_or]
        exact ⟨Nat.ne_of_lt hb, by rw [z1]; exact Nat.ne_of_lt (Nat.lt_succ_of_lt hb)⟩
    · rcases r with e | fl
      · exact hr
      cases fl with
      | ret r =>
        obtain ⟨rfl, h', tk, rfl, hS', hk'⟩ := hr
        repeat (any_goals (first | assumption | wp_step))
        exact h _ _ hS' hk'
      | _ => exact hr.elim
  | _ => exact hr.elim
end

section
open L2
theorem strs_of : ∀ {ys : List Str} {us : List Value}, Vals (ys.map V.str) us → ∀ (i : Nat) v, us[i]? = some v → ∃ x t, ys[i]? = some x ∧ v = .str x t
  | [], _, .nil, i, v, h => by simp at h
  | y :: ys, _, .cons r t, 0, v, h => by
    obtain ⟨k, rfl⟩ := r
    simp at h
    exact ⟨y, k, rfl, h.symm⟩
  | y :: ys, _, .cons r t, i + 1, v, h => strs_of t i v (by simpa using h)
theorem ints_of : ∀ {ys : List Int} {us : List Value}, Vals (ys.map V.int) us → ∀ (i : Nat) v, us[i]? = some v → ∃ x t, ys[i]? = some x ∧ v = .int x t
  | [], _, .nil, i, v, h => by simp at h
  | y :: ys, _, .cons r t, 0, v, h => by
    obtain ⟨k, rfl⟩ := r
    simp at h
    exact ⟨y, k, rfl, h.symm⟩
  | y :: ys, _, .cons r t, i + 1, v, h => ints_of t i v (by simpa using h)
/-- how many unlike ones there are: all, or fewer -/
def Unlike {K : Type} (xs : List K) (Q : V → Prop) : Prop := ∀ m : Nat, (xs.Nodup → m = xs.length) → (¬ xs.Nodup → m < xs.length) → Q (.int (m : Nat))
def tLenU (K : PySem.W.Frag) (ta : TE) : TE := fun σ H Q => ta σ H fun x H1 => ∃ l, x = .ref l ∧
  ((∃ ns : List Int, SqL K H1 l (ns.map V.int) ∧ ns.length ≤ 4000 ∧ Unlike ns fun v => Q v H1) ∨ (∃ xs : List Str, SqL K H1 l (xs.map V.str) ∧ xs.length ≤ 4000 ∧ Unlike xs fun v => Q v H1))
theorem pe_lenU {X : Cx} {a : Expr} {ta : TE} {p p2 q pos : Pos} (hc : X.calm = true) (hg : Gl X "len") (hm : X.mg "len" = none) (hg2 : Gl X "set") (hm2 : X.mg "set" = none) (ha : PE X a ta)
    (na : starEach [a] X.env = (false, eval a X.env) :: starEach [] X.env := by rfl) : PE X (.Call (.Name "len" p) [.Call (.Name "set" p2) [a] [] q] [] pos) (tLenU X.K ta) := by
  refine ⟨fun pins s σ H Q I h => ?_⟩
  refine Call_ (ld_blt I hg hm PySem.boot_len ?_)
  refine PyProof.Rows.callWith_builtin1 (PyProof.Rows.args_cons ?_ rfl) rfl rfl
  refine Call_ (ld_blt I hg2 hm2 PyProof.Rows.boot_set ?_)
  refine PyProof.Rows.callWith_type1 (PyProof.Rows.args_cons (thn (ha.run pins s σ H _ I h) fun v s1 ⟨x, H1, I1, r1, q1⟩ => PyProof.Rows.args_nil ?_) na) na rfl
  obtain ⟨l, rfl, q1⟩ := q1
  cases r1
  have fin : ∀ {K : Type} [DecidableEq K] {knd : KeyKind X.prog X.w K} {xs : List K}, xs.length ≤ 4000 → Unlike xs (fun v => Q v H1) → ∀ (h' : Heap) (tk : Nat),
      h'.SetOf knd s1.heap.objs.size (fun k => decide (k ∈ xs)) (met xs).length → (∀ b o, b < s1.heap.objs.size → s1.heap.get? b = some o → h'.get? b = some o) →
      wpAny (model X.prog X.w) X.A (spliced (backTo pos (starEach [] X.env))) (fun vs s₂ => wpAny (model X.prog X.w) X.A (call (.builtin "len") (Value.ref s1.heap.objs.size :: vs)) (EP X pins σ Q) X.xe s₂) X.xe { s1 with heap := h', toks := tk } := fun {K} _ {knd xs} hl q h' tk hS hk => by
    refine PyProof.Rows.args_nil ?_
    have hle := met_le xs
    obtain ⟨o, es, ep, t, ho, hex, hd, _, _, _, hf, hn⟩ := hS
    have I2 : Inv X pins σ H1 { s1 with heap := h', toks := tk } := I1.kept fun b o e => hk b o (Heap.lt_size e) e
    refine call_len_set ho hex hd hf (by rw [hn] <;> omega) ⟨.int (met xs).length, H1, I2.tok _, ⟨_, by rw [hn]⟩, q _ met_eq met_lt⟩
  rcases q1 with ⟨ns, hq, hl, q⟩ | ⟨xs, hq, hl, q⟩
  · obtain ⟨its, r, pl, hz⟩ := I1.list hq
    have e : ns.length = its.toArray.size := by rw [List.size_toArray, ← r.length, List.length_map]
    exact call_set_keys (knd := intKind X.prog X.w) (I1.ok.hd hc) pl.isList e (fun i v hv => by
      obtain ⟨x, t, ex, rfl⟩ := ints_of r i v (by simpa using hv)
      exact ⟨x, ex, intKind_is _ _ _ _, rfl⟩) (by rw [← e]; unfold scanBound; omega) fun h' tk hS hk => fin hl q h' tk hS hk
  · obtain ⟨its, r, pl, hz⟩ := I1.list hq
    have e : xs.length = its.toArray.size := by rw [List.size_toArray, ← r.length, List.length_map]
    exact call_set_keys (knd := strKind X.prog X.w) (I1.ok.hd hc) pl.isList e (fun i v hv => by
      obtain ⟨x, t, ex, rfl⟩ := strs_of r i v (by simpa using hv)
      exact ⟨x, ex, strKind_is _ _ _ _, rfl⟩) (by rw [← e]; unfold scanBound; omega) fun h' tk hS hk => fin hl q h' tk hS hk
end
end BkS

set_option Elab.async false
set_option linter.all false
set_option maxRecDepth 100000
set_option maxHeartbeats 2000000
namespace Bk
open PySem PySem.Spec PyProof.Rows L2
/-! ### a class of the package: made within a try -/
structure OwnM (K : PySem.W.Frag) (m q : Str) (st : Stmt) (ps : List Str) (f : Addr) (fd : FuncData) : Prop where
  F : Fun K m q st f fd
  b : Binds K fd ps []
structure ClsT (K : PySem.W.Frag) (mg : Str → Option Value) (x : Str) (C f : Addr) : Prop where
  g : mg x = some (.ref C)
  M : Mk K C f
  cl : Cls K C
/-- the class, and what its __init__ promises -/
structure HasM (P : Program) (w : World) (K : PySem.W.Frag) (mg : Str → Option Value) (base : Heap) (x : Str) (ps : List Str) (lv : Nat) (CX : CXT) (sp : Sp) (C f : Addr) (fd : FuncData) : Prop where
  G : ∃ k, lv = k + 1 ∧ FnOk P w K mg base CX k f fd ps sp
  g : mg x = some (.ref C)
  M : Mk K C f
  b : Binds K fd ps []
section
variable {P : Program} {w : World} {K : PySem.W.Frag} {mg : Str → Option Value} {base : Heap} {x : Str} {ps : List Str} {C f : Addr} {fd : FuncData} {CX : CXT} {sp : Sp}
theorem HasM.mono {j i : Nat} (D : HasM P w K mg base x ps j CX sp C f fd) (h : j ≤ i) : HasM P w K mg base x ps i CX sp C f fd := by
  obtain ⟨⟨k, e, G⟩, g, M, b⟩ := D
  exact ⟨⟨i - 1, by omega, G.mono (by omega)⟩, g, M, b⟩
theorem HasM.of {k : Nat} {m q : Str} {st : Stmt} (T : ClsT K mg x C f) (O : OwnM K m q st ps f fd) (G : FnOk P w K mg base CX k f fd ps sp) : HasM P w K mg base x ps (k + 1) CX sp C f fd := ⟨⟨k, rfl, G⟩, T.g, T.M, O.b⟩
end
section
variable {X : Cx} {CX : CXT} {f C : Addr} {fd : FuncData} {ps : List Str} {sp : Sp} {E : L2.St → XK} {x : Str} {p pos : Pos} {e : Expr} {es : List Expr} {t : TA}
/-- what the new object's __init__ is handed: a bare object first -/
def spNew (C : Addr) (sp : Sp) : Sp := fun vs H Q E => ∀ a dx, H a = none → H dx = none → dx ≠ a → sp (.ref a :: vs) (upd (upd H dx (.own a)) a (.ins C dx [])) (fun v H2 => v = .non ∧ Q (.ref a) H2) E
theorem new_at {k : Nat} {pins : List (Addr × Obj)} {σ : L2.St} {H : Hp} {s : Shared} {Q : VK} {us : List Value} {vs : List V} (M : Mk X.K C f) (F : FnOk X.prog X.w X.K X.mg X.base CX k f fd ps sp) (hr : Room (k + 1) X.A) (hb : Binds X.K fd ps [])
    (hx : PassesAt CX X σ (E σ)) (I : Inv X pins σ H s) (r : Vals vs us) (h : spNew C sp vs H Q (E σ)) : wpAny (model X.prog X.w) X.A (call (.ref C) us) (EP X pins σ Q) X.xe s := by
  have q := h (s.heap.objs.size + 1) s.heap.objs.size (I.hok.fresh (Nat.le_succ _)) (I.hok.fresh (Nat.le_refl _)) (Nat.ne_of_lt (Nat.lt_succ_self _))
  have J := Inv.made (C := C) I
  have rr : Vals (V.ref (s.heap.objs.size + 1) :: vs) (Value.ref (s.heap.objs.size + 1) :: us) := .cons rfl r
  have hl : (Value.ref (s.heap.objs.size + 1) :: us).length = ps.length := rr.length.symm.trans (F.len _ _ _ _ q)
  have b := hb _ (Value.ref (s.heap.objs.size + 1) :: us) J.kIn (by rw [List.append_nil]; exact hl)
  rw [List.append_nil] at b
  have go := F.run _ X.stack _ _ ⟨Value.ref (s.heap.objs.size + 1) :: us, []⟩ _ _ _ (E σ) (hr.make C us []) (J.env0.make C us []) b rr q
  refine wpAny_call (make_map (f := f) I.kIn M.makes M.init (beq_iff_eq.mp M.fn) (codeAny_mono go fun r s' hq => ?_))
  rcases r with e | fl
  · exact hx pins _ _ e s' J hq
  cases fl with
  | ret u =>
    obtain ⟨v, H', I3, rv, ev, z⟩ := J.after hq
    subst ev
    exact ⟨rv, ⟨.ref (s.heap.objs.size + 1), H', I3, rfl, z⟩⟩
  | _ => exact False.elim hq
theorem pe_new {lv : Nat} (D : HasM X.prog X.w X.K X.mg X.base x ps lv CX sp C f fd) (hr : Room lv X.A) (hg : Gl X x) (hx : ∀ σ, PassesAt CX X σ (E σ)) (ha : PA X (e :: es) t)
    (hdb : (x == ("__debug__" : Str)) = false := by decide) (he : starEach (e :: es) X.env = (false, eval e X.env) :: starEach es X.env := by rfl) (hpl : (backTo pos (starEach es X.env)).any (·.1) = false := by rfl) :
    PE X (.Call (.Name x p) (e :: es) [] pos) (tCallS (spNew C sp) E t) := by
  obtain ⟨⟨k, rfl, G⟩, g, M, b⟩ := D
  refine ⟨fun pins s σ H Q I h => ?_⟩
  refine wpAny_Call_Name_kw (ld_glob I hg g ?_ hdb)
  exact PySem.W.callWith_K (h₀ := X.base) I.ok.mod.kin M.kp (thn (ha.run pos pins s σ H _ I h) fun us s1 ⟨vs, H1, I1, r, q⟩ => ⟨I1.kIn, new_at M G hr b (hx σ) I1 r q⟩) he hpl
end
/-! ### comprehensions over a list that stays -/
/-- so far fs of the xs stand in the new list, and all else as it stood -/
structure Comp (H0 : Hp) (D : Addr) (R : Nat → V → Hp → Prop) (i : Nat) (H : Hp) : Prop where
  e : Same H0 H
  n : H0 D = none
  acc : ∃ ys, H D = some (.lst ys) ∧ ys.length = i ∧ ∀ j y, ys[j]? = some y → R j y H
theorem Comp.start {H : Hp} {D : Addr} {R : Nat → V → Hp → Prop} (n : H D = none) : Comp H D R 0 (upd H D (.lst [])) := ⟨same_new n, n, [], upd_same, rfl, fun j y h => by simp at h⟩
theorem Comp.next {H0 H H' : Hp} {D : Addr} {R : Nat → V → Hp → Prop} {i : Nat} {y : V} (hR : ∀ j y Ha Hb, R j y Ha → (∀ b o, b ≠ D → Ha b = some o → Hb b = some o) → R j y Hb) (c : Comp H0 D R i H) (e : Same H H') (hi : i < 4000) (q : R i y H') :
    ∃ acc, H' D = some (.lst acc) ∧ acc.length < sizeLine ∧ Comp H0 D R (i + 1) (upd H' D (.lst (acc ++ [y]))) := by
  obtain ⟨e0, n, ys, h, hl, hy⟩ := c
  have k1 : ∀ b o, b ≠ D → H b = some o → upd H' D (.lst (ys ++ [y])) b = some o := fun b o hb z => by rw [upd_ne hb]; exact e _ _ z
  have k2 : ∀ b o, b ≠ D → H' b = some o → upd H' D (.lst (ys ++ [y])) b = some o := fun b o hb z => by rw [upd_ne hb]; exact z
  refine ⟨ys, e _ _ h, Nat.lt_of_lt_of_le (show ys.length < 4000 by omega) (by decide), fun b o z => ?_, n, ys ++ [y], upd_same, by rw [List.length_append, hl]; rfl, fun j v z => ?_⟩
  · have hb : b ≠ D := fun h => by rw [h, n] at z; cases z
    exact k1 b o hb (e0 _ _ z)
  · rcases Nat.lt_or_ge j ys.length with lt | ge
    · rw [List.getElem?_append_left lt] at z
      exact hR j v H _ (hy j v z) k1
    · rw [List.getElem?_append_right ge] at z
      obtain ⟨rfl, rfl⟩ : j = i ∧ v = y := by
        rcases Nat.eq_zero_or_pos (j - ys.length) with h0 | h0
        · rw [h0] at z
          exact ⟨by omega, (Option.some.inj z).symm⟩
        · rw [List.getElem?_eq_none (by simp; omega)] at z; cases z
      exact hR _ _ H' _ q k2
def rTupOf (K : PySem.W.Frag) : List V → Hp → VK → Prop := fun xs H Q => ∃ p ys, xs = [.ref p] ∧ ((SqL K H p ys ∧ ∀ l, H l = none → Q (.ref l) (upd H l (.tup ys))) ∨ (SqT K H p ys ∧ Q (.ref p) H))
def rLstOf (K : PySem.W.Frag) : List V → Hp → VK → Prop := fun xs H Q => ∃ p ys, xs = [.ref p] ∧ (SqL K H p ys ∨ SqT K H p ys) ∧ ∀ l, H l = none → Q (.ref l) (upd H l (.lst ys))
theorem callTupOf {X : Cx} : CallR X (.type "tuple") (rTupOf X.K) := call_tuple_of
theorem callLstOf {X : Cx} : CallR X (.type "list") (rLstOf X.K) := call_list_of
end Bk

set_option Elab.async false
set_option linter.all false
set_option maxRecDepth 100000
set_option maxHeartbeats 2000000
namespace Bk
open PySem PySem.Spec PyProof.Rows L2
def isx (i : Int) : Str := toString i
def rStrA : List V → Hp → VK → Prop := fun xs H Q => (∃ i, xs = [.int i] ∧ i.natAbs.log2 < 1920 ∧ Q (.str (isx i)) H) ∨ (∃ a, xs = [.str a] ∧ Q (.str a) H)
theorem call_strA {X : Cx} : CallR X (.type "str") rStrA := by
  intro pins s τ G xs us W I r h
  rcases h with h | h
  · exact call_str_int pins s τ G xs us W I r h
  · exact SkE.call_str_str pins s τ G xs us W I r h
end Bk

set_option Elab.async false
set_option linter.all false
set_option maxRecDepth 100000
set_option maxHeartbeats 2000000
namespace Bk
open PySem PySem.Spec PyProof.Rows L2
/-- zip of two tuples -/
theorem walk_zipT {K : PySem.W.Frag} {a b : Addr} {xs ys : List V} {n : Nat} (hn : n = min xs.length ys.length) : Walk (RZ.ItzT K a b) n (fun H => SqT K H a xs ∧ SqT K H b ys) (YPair (fun i => xs[i]?) (fun i => ys[i]?)) := by
  subst hn
  refine ⟨fun i _ hi q => ?_, fun _ q => ⟨xs, ys, q.1, q.2, by omega⟩, fun i H v H' _ q y => ?_⟩
  · have h1 : i < xs.length := by omega
    have h2 : i < ys.length := by omega
    exact ⟨xs, ys, xs[i], ys[i], q.1, q.2, by simp [h1], by simp [h2]⟩
  · obtain ⟨T, x, z, h1, h2, h3, h4, h5⟩ := y
    exact ⟨T, x, z, h1, h2, h3, h4 xs q.1, h5 ys q.2⟩
/-- a dict of the module that tells the forms: read at a word -/
theorem FTab.at {K : PySem.W.Frag} {w : World} {mg : Str → Option Value} {n : Str} {L : Forms} {d : Addr} (F : FTab K w mg n L d) {z : Str} {ks : List Str} (h : formOf L z = some ks) :
    ∃ a : Addr, KDct K w d z (.ref a) ∧ ∀ H, SqT K H a (ks.map V.str) := by
  obtain ⟨g, ⟨es, c, k⟩, ok⟩ := F
  have q := tabOk_ns ok z
  rw [h] at q
  obtain ⟨a, q1, q2⟩ := q
  exact ⟨a, ⟨es, c, _, k.at_, k.lit, q1, rfl⟩, q2⟩
/-- a tuple of texts of the module -/
structure TupC (K : PySem.W.Frag) (mg : Str → Option Value) (n : Str) (ks : List Str) (d : Addr) : Prop where
  g : mg n = some (.ref d)
  ok : tupOk K d ks = true
theorem TupC.sq {K : PySem.W.Frag} {mg : Str → Option Value} {n : Str} {ks : List Str} {d : Addr} (T : TupC K mg n ks d) (H : Hp) : SqT K H d (ks.map V.str) := tupOk_sq T.ok H
theorem use_isDict {K : PySem.W.Frag} {H : Hp} {v : V} {d : PyData} {Q : VK} (h : Dp K H v d) (q : Q (.bl false) H) : rIsi K [v, .ty "dict"] H Q := ⟨v, .ty "dict", _, _, false, rfl, .ty _, ty_of h, kit_ty (by cases h with | non => exact (by decide +kernel : kitB "NoneType" "dict" = some false) | bl _ => exact (by decide +kernel : kitB "bool" "dict" = some false) | int _ => exact (by decide +kernel : kitB "int" "dict" = some false) | str _ => exact (by decide +kernel : kitB "str" "dict" = some false) | lst _ _ => exact (by decide +kernel : kitB "list" "dict" = some false) | tup _ _ => exact (by decide +kernel : kitB "tuple" "dict" = some false)), q⟩
theorem inTwo (s a b : Str) : inV (.str s) [.str a, .str b] = decide (s = a ∨ s = b) := by
  have e : ∀ a b : Str, (a == b) = decide (b = a) := fun a b => by
    by_cases c : a = b
    · subst c; simp
    · rw [decide_eq_false (fun z => c z.symm)]
      simpa using c
  simp only [inV, List.any_cons, List.any_nil, eqV, e, Bool.or_false, Bool.decide_or]
/-! ### data that are alike -/
def aOk : Nat → PyData → Prop
  | _ + 1, .none => True
  | _ + 1, .bool _ => True
  | _ + 1, .int _ => True
  | _ + 1, .str _ => True
  | n + 1, .list ds => ds.length ≤ 2000 ∧ ∀ d ∈ ds, aOk n d
  | n + 1, .tuple ds => ds.length ≤ 2000 ∧ ∀ d ∈ ds, aOk n d
  | _, _ => False
def spAlike (K : PySem.W.Frag) (n : Nat) : Sp := fun vs H Q _ => ∃ (v u : V) (d : PyData), vs = [v, u] ∧ Dp K H v d ∧ Dp K H u d ∧ aOk n d ∧ ∀ H', Same H H' → Q (.bl true) H'
theorem use_alike {K : PySem.W.Frag} {n : Nat} {v u : V} {d : PyData} {H : Hp} {Q : VK} {E : XK} (h1 : Dp K H v d) (h2 : Dp K H u d) (k : aOk n d) (q : ∀ H', Same H H' → Q (.bl true) H') : spAlike K n ([v, u] ++ []) H Q E := ⟨v, u, d, rfl, h1, h2, k, q⟩
theorem none_alike {P : Program} {w : World} {K : PySem.W.Frag} {mg : Str → Option Value} {base : Heap} {f : Addr} {fd : FuncData} {ps : List Str} : FnOk P w K mg base CX0 0 f fd ps (spAlike K 0) := by
  have no : ∀ vs H Q E, ¬ spAlike K 0 vs H Q E := fun vs H Q E h => by
    obtain ⟨v, u, d, _, _, _, h1, _⟩ := h
    cases d <;> exact h1
  exact ⟨fun vs H Q E h => absurd h (no vs H Q E), fun A outer s H args us vs Q E _ _ _ _ h => absurd h (no vs H Q E)⟩
/-! ### lists told item by item -/
def All2 {α β : Type} (R : α → β → Prop) : List α → List β → Prop
  | [], [] => True
  | a :: as, b :: bs => R a b ∧ All2 R as bs
  | _, _ => False
theorem All2.len {α β : Type} {R : α → β → Prop} : ∀ {as : List α} {bs : List β}, All2 R as bs → as.length = bs.length
  | [], [], _ => rfl
  | _ :: _, _ :: _, h => by rw [List.length_cons, List.length_cons, All2.len h.2]
  | [], _ :: _, h => h.elim
  | _ :: _, [], h => h.elim
theorem All2.mono {α β : Type} {R S : α → β → Prop} (m : ∀ a b, R a b → S a b) : ∀ {as : List α} {bs : List β}, All2 R as bs → All2 S as bs
  | [], [], _ => trivial
  | _ :: _, _ :: _, h => ⟨m _ _ h.1, All2.mono m h.2⟩
  | [], _ :: _, h => h.elim
  | _ :: _, [], h => h.elim
theorem All2.at {α β : Type} {R : α → β → Prop} : ∀ {as : List α} {bs : List β} {i : Nat} {a : α}, All2 R as bs → as[i]? = some a → ∃ b, bs[i]? = some b ∧ R a b
  | a :: as, b :: bs, 0, x, h, e => by
    simp only [List.getElem?_cons_zero, Option.some.injEq] at e
    exact ⟨b, rfl, e ▸ h.1⟩
  | a :: as, b :: bs, i + 1, x, h, e => by
    simp only [List.getElem?_cons_succ] at e
    obtain ⟨c, h1, h2⟩ := All2.at h.2 e
    exact ⟨c, by simpa using h1, h2⟩
  | [], [], i, x, h, e => by simp at e
  | [], _ :: _, _, _, h, _ => h.elim
  | _ :: _, [], _, _, h, _ => h.elim
theorem All2.snoc {α β : Type} {R : α → β → Prop} : ∀ {as : List α} {bs : List β} {a : α} {b : β}, All2 R as bs → R a b → All2 R (as ++ [a]) (bs ++ [b])
  | [], [], _, _, _, r => ⟨r, trivial⟩
  | _ :: _, _ :: _, _, _, h, r => ⟨h.1, All2.snoc h.2 r⟩
  | [], _ :: _, _, _, h, _ => h.elim
  | _ :: _, [], _, _, h, _ => h.elim
theorem All2.nil_r {α β : Type} {R : α → β → Prop} {bs : List β} (h : All2 R ([] : List α) bs) : bs = [] := by
  cases bs with
  | nil => rfl
  | cons _ _ => exact h.elim
theorem tm_lst {K : PySem.W.Frag} {H : Hp} {D : Addr} {xs ys : List V} (h : H D = some (.lst xs)) : TM K H (upd H D (.lst ys)) := fun a zs q => by
  rcases q with (q | ⟨o, q⟩) | q
  · exact .inl (.inl (by rw [upd_ne (fun z => by rw [z, h] at q; cases q)]; exact q))
  · exact .inl (.inr ⟨o, by rw [upd_ne (fun z => by rw [z, h] at q; cases q)]; exact q⟩)
  · exact .inr q
theorem take_map_snoc {α β : Type} {f : α → β} {l : List α} {i : Nat} {c : α} (h : l[i]? = some c) : (l.take (i + 1)).map f = (l.take i).map f ++ [f c] := by
  rw [List.take_succ, h, List.map_append]
  rfl
theorem fresh_same {H H' : Hp} {p : Addr} (e : Same H H') (h : H' p = none) : H p = none := by
  cases h1 : H p with
  | none => rfl
  | some o =>
    rw [e p o h1] at h
    cases h
end Bk

set_option Elab.async false
set_option linter.all false
set_option maxRecDepth 100000
set_option maxHeartbeats 2000000
namespace Bk
open PySem PySem.Spec PyProof.Rows L2
/-! ### a method of a class of the package -/
structure HasMeth (P : Program) (w : World) (K : PySem.W.Frag) (mg : Str → Option Value) (base : Heap) (C : Addr) (m : Str) (ps : List Str) (lv : Nat) (CX : CXT) (sp : Sp) (f : Addr) (fd : FuncData) : Prop where
  G : FnOk P w K mg base CX lv f fd ps sp
  M : Meth K C m f
  b : Binds K fd ps []
  cl : Cls K C
section
variable {P : Program} {w : World} {K : PySem.W.Frag} {mg : Str → Option Value} {base : Heap} {m q : Str} {ps : List Str} {C f : Addr} {fd : FuncData} {CX : CXT} {sp : Sp} {st : Stmt}
theorem HasMeth.mono {j i : Nat} (D : HasMeth P w K mg base C m ps j CX sp f fd) (h : j ≤ i) : HasMeth P w K mg base C m ps i CX sp f fd := ⟨D.G.mono h, D.M, D.b, D.cl⟩
theorem HasMeth.of {k : Nat} (cl : Cls K C) (M : Meth K C m f) (O : OwnM K m q st ps f fd) (G : FnOk P w K mg base CX k f fd ps sp) : HasMeth P w K mg base C m ps k CX sp f fd := ⟨G, M, O.b, cl⟩
end
section
variable {D : Ends} {σ : L2.St} {H : Hp} {Q : VK} {v : V}
theorem g_rfld {K : PySem.W.Frag} {ta : TE} {f : Str} (h : ta σ H fun x H1 => ∃ a C dx fs v, x = .ref a ∧ H1 a = some (.ins C dx fs) ∧ Cls K C ∧ NoAttr K C f ∧ fs.lookup f = some v ∧ Q v H1) : tFld K ta f σ H Q := h
theorem g_meth {C : Addr} {m : Str} {sp : Sp} {dvs : List V} {E : XK} {ta : TE} {t : TA} (h : ta σ H fun x H1 => ∃ a dx fs, x = .ref a ∧ H1 a = some (.ins C dx fs) ∧ fs.lookup m = none ∧ t σ H1 fun vs H2 => sp (x :: (vs ++ dvs)) H2 Q E) : tMeth C m sp dvs E ta t σ H Q := h
end
end Bk

set_option Elab.async false
set_option linter.all false
set_option maxRecDepth 100000
set_option maxHeartbeats 4000000
namespace Bk
open PySem PySem.Spec PyProof.Rows L2
/-! ### zip of a tuple and a list: what zip draws from is told by a feed -/
structure Feed (St : Heap → Nat → Prop) (Src : Heap → Prop) (it src : Addr) (its : Array Value) : Prop where
  item : ∀ {p : Program} {w : World} {A : Around} {E : Value → Shared → Prop} {s : Shared} {i : Nat} {x : Value} {Q : Value → Shared → Prop}, St s.heap i → Src s.heap → its[i]? = some x →
    (∀ g, St g (i + 1) → Heap.SameBut it s.heap g → Q x { s with heap := g }) → wpAny (model p w) A (Builtin.SmallTypes.nextOf (.ref it)) Q E s
  fin : ∀ {p : Program} {w : World} {A : Around} {E : Value → Shared → Prop} {s : Shared} {i : Nat} {Q : Value → Shared → Prop}, A.handled = none → St s.heap i → Src s.heap → its[i]? = none →
    (∀ g e, Heap.ExtBut it s.heap g → (∃ o, g.get? e = some o ∧ o.cls = .type "StopIteration") → E (.ref e) { s with heap := g }) → wpAny (model p w) A (Builtin.SmallTypes.nextOf (.ref it)) Q E s
  on : ∀ {c : Addr} {h g : Heap} {i : Nat}, St h i → Heap.ExtBut c h g → it ≠ c → St g i
  src : ∀ {c : Addr} {h g : Heap}, Src h → Heap.ExtBut c h g → src ≠ c → Src g
  atI : ∀ {h g : Heap} {i : Nat}, St h i → (∀ o, h.get? it = some o → g.get? it = some o) → St g i
  has : ∀ {h : Heap} {i : Nat}, St h i → ∃ o, h.get? it = some o ∧ ∀ v, o.data ≠ .cell v
theorem feed_list (it l : Addr) (its : Array Value) : Feed (fun h i => h.IsListIter it l i) (fun h => h.IsList l its) it l its where
  item := fun a b c q => wpAny_nextOf_list_item a b c q
  fin := fun hh a b c q => wpAny_nextOf_list_end hh a b c q
  on := fun a e n => a.extBut e n
  src := fun a e n => a.extBut e n
  atI := fun a e => a.at e
  has := fun ⟨o, e, _, d⟩ => ⟨o, e, fun v q => by rw [d] at q; cases q⟩
theorem feed_tup (it l : Addr) (its : Array Value) : Feed (fun h i => h.IsTupleIter it l i) (fun h => h.IsTuple l its) it l its where
  item := fun a b c q => RZ.nextOf_tuple_item a b c q
  fin := fun hh a b c q => RZ.nextOf_tuple_end hh a b c q
  on := fun a e n => a.extBut e n
  src := fun a e n => a.extBut e n
  atI := fun a e => a.at e
  has := fun ⟨o, e, _, d⟩ => ⟨o, e, fun v q => by rw [d] at q; cases q⟩
section
variable {p : Program} {w : World} {A : Around} {E : Value → Shared → Prop} {s : Shared} {S1 S2 : Heap → Nat → Prop} {R1 R2 : Heap → Prop} {z TI TO i1 i2 l1 l2 : Addr} {k : Nat} {xs ys : Array Value} {x y a b : Value}
/-- what stands apart from the zip's own objects stays -/
def Still (z TO i1 i2 : Addr) (h g : Heap) : Prop := ∀ c o, c ≠ z → c ≠ TO → c ≠ i1 → c ≠ i2 → h.get? c = some o → g.get? c = some o
theorem feed_next {Q : Value → Shared → Prop} (F1 : Feed S1 R1 i1 l1 xs) (F2 : Feed S2 R2 i2 l2 ys) (D : ZipApart z TI TO i1 i2 l1 l2) (zz : IsZip s.heap z TI TO .none) (zi : IsPair s.heap TI (.ref i1) (.ref i2)) (zo : IsPair s.heap TO a b)
    (s1 : S1 s.heap k) (s2 : S2 s.heap k) (r1 : R1 s.heap) (r2 : R2 s.heap) (ex : xs[k]? = some x) (ey : ys[k]? = some y)
    (q : ∀ g, IsZip g z TI TO (rawInt s.heap.objs.size) → IsPair g TO x y → S1 g (k + 1) → S2 g (k + 1) → IsPair g s.heap.objs.size x y → g.objs.size = s.heap.objs.size + 1 → Still z TO i1 i2 s.heap g → Q (.ref s.heap.objs.size) { s with heap := g }) :
    wpAny (model p w) A (Builtin.«zip.__next__» ⟨[.ref z], []⟩) (fun fin t => ∃ v, fin = .done (.ret v) ∧ Q v t) E s := by
  show wpAny _ _ (field (.ref z) 2 >>= _) _ _ s
  refine wpAny_bind (wpAny_field zz rfl (x := .bool false) rfl (?_ : wpAny _ _ (field (.ref z) 3 >>= _) _ _ s))
  refine wpAny_bind (wpAny_field zz rfl (x := .ref TI) rfl (wpAny_bind (wpAny_seqItems zi rfl (?_ : wpAny _ _ (Builtin.SmallTypes.ownedTupleIsFree (.ref z) >>= _) _ _ s))))
  refine wpAny_bind (?_ : wpAny _ _ (Builtin.SmallTypes.ownedTupleIsFree (.ref z)) _ _ s)
  unfold Builtin.SmallTypes.ownedTupleIsFree
  refine wpAny_bind (wpAny_field zz rfl (x := .none) rfl (wpAny_pure ?_)); simp only [if_true]
  refine wpAny_bind (wpAny_rule (wpAny_bind (wpAny_field zz rfl (x := .ref TO) rfl (wpAny_bind (wpAny_setField_rec zz (by simp) fun g1 z1 t1 => ?_)))))
  have z1 : IsZip g1 z TI TO .ellipsis := z1
  refine wpAny_bind ?_; simp only [List.zipIdx_cons, List.zipIdx_nil, List.forIn_cons, List.forIn_nil]
  refine wpAny_bind (wpAny_bind (wpAny_onRaise (?_ : wpAny _ _ (Builtin.SmallTypes.nextOf (.ref i1) >>= _) _ _ _)))
  refine wpAny_bind (F1.item (F1.on s1 t1.extBut D.i1z) (F1.src r1 t1.extBut D.l1z) ex fun g2 a2 t2 => wpAny_pure ?_)
  have o2 : IsPair g2 TO a b := t2.extBut _ _ D.TOi1 (t1.extBut _ _ D.TOz zo)
  refine wpAny_bind (wpAny_seqItems o2 rfl (wpAny_bind (wpAny_updateSeq_pair o2 fun g3 o3 t3 => wpAny_bind (wpAny_letGo (wpAny_pure ?_)))))
  have o3 : IsPair g3 TO x b := o3
  refine wpAny_bind (wpAny_bind (wpAny_onRaise (?_ : wpAny _ _ (Builtin.SmallTypes.nextOf (.ref i2) >>= _) _ _ _)))
  refine wpAny_bind (F2.item (F2.on (F2.on (F2.on s2 t1.extBut D.i2z) t2.extBut D.i12.symm) t3.extBut D.TOi2.symm) (F2.src (F2.src (F2.src r2 t1.extBut D.l2z) t2.extBut D.l2i1) t3.extBut D.l2TO) ey fun g4 b4 t4 => wpAny_pure ?_)
  have o4 : IsPair g4 TO x b := t4.extBut _ _ D.TOi2 o3
  refine wpAny_bind (wpAny_seqItems o4 rfl (wpAny_bind (wpAny_updateSeq_pair o4 fun g5 o5 t5 => wpAny_bind (wpAny_letGo (wpAny_pure (wpAny_pure ?_))))))
  have o5 : IsPair g5 TO x y := o5
  refine wpAny_bind (wpAny_seqItems o5 rfl (wpAny_bind (wpAny_newTuple ?_)))
  have n5 : g5.objs.size = s.heap.objs.size := by rw [t5.1, t4.1, t3.1, t2.1, t1.1]
  have z5 : IsZip g5 z TI TO .ellipsis := t5.extBut _ _ D.TOz.symm (t4.extBut _ _ D.i2z.symm (t3.extBut _ _ D.TOz.symm (t2.extBut _ _ D.i1z.symm z1)))
  have k5 : Still z TO i1 i2 s.heap g5 := fun c o c1 c2 c3 c4 e => t5.extBut _ _ c2 (t4.extBut _ _ c4 (t3.extBut _ _ c2 (t2.extBut _ _ c3 (t1.extBut _ _ c1 e))))
  have a5 : S1 g5 (k + 1) := F1.on (F1.on (F1.on a2 t3.extBut D.TOi1.symm) t4.extBut D.i12) t5.extBut D.TOi1.symm
  have b5 : S2 g5 (k + 1) := F2.on b4 t5.extBut D.TOi2.symm
  have zl : z < g5.objs.size := Heap.lt_size z5
  refine (?_ : wpAny _ _ (Builtin.SmallTypes.ownedTupleHandOut (.ref z) (.ref g5.objs.size) >>= _) _ _ _)
  refine wpAny_bind ?_
  unfold Builtin.SmallTypes.ownedTupleHandOut
  have z6 : IsZip (g5.push { cls := .type "tuple", data := .seq #[x, y] }) z TI TO .ellipsis := Heap.get?_push_of_some _ z5
  refine wpAny_bind (wpAny_setField_rec z6 (by simp) fun g7 z7 t7 => ?_)
  have z7 : IsZip g7 z TI TO (rawInt g5.objs.size) := z7
  refine wpAny_setField_rec z7 (by simp) fun g8 z8 t8 => ?_
  have z8 : IsZip g8 z TI TO (rawInt g5.objs.size) := z8
  have up : ∀ c o, c ≠ z → g5.get? c = some o → g8.get? c = some o := fun c o c1 e => t8.extBut _ _ c1 (t7.extBut _ _ c1 (Heap.get?_push_of_some _ e))
  have T8 : IsPair g8 g5.objs.size x y := t8.extBut _ _ (Nat.ne_of_gt zl) (t7.extBut _ _ (Nat.ne_of_gt zl) (Heap.get?_push_size _ rfl))
  have n8 : g8.objs.size = g5.objs.size + 1 := by rw [t8.1, t7.1, Heap.size_push]
  rw [n5] at z8 T8 n8
  refine wpAny_pure ⟨_, rfl, (?_ : Q (.ref g5.objs.size) _)⟩
  rw [n5]
  exact q g8 z8 (up _ _ D.TOz o5) (F1.atI a5 fun o e => up _ o D.i1z e) (F2.atI b5 fun o e => up _ o D.i2z e) T8 n8 fun c o c1 c2 c3 c4 e => up c o c1 (k5 c o c1 c2 c3 c4 e)
theorem feed_end {Q : Fin → Shared → Prop} (hh : A.handled = none) (F1 : Feed S1 R1 i1 l1 xs) (F2 : Feed S2 R2 i2 l2 ys) (D : ZipApart z TI TO i1 i2 l1 l2) (zz : IsZip s.heap z TI TO .none) (zi : IsPair s.heap TI (.ref i1) (.ref i2)) (zo : IsPair s.heap TO a b)
    (s1 : S1 s.heap k) (s2 : S2 s.heap k) (r1 : R1 s.heap) (r2 : R2 s.heap) (over : xs[k]? = none ∨ ys[k]? = none)
    (q : ∀ g e, Still z TO i1 i2 s.heap g → (∃ o, g.get? e = some o ∧ o.cls = .type "StopIteration") → E (.ref e) { s with heap := g }) : wpAny (model p w) A (Builtin.«zip.__next__» ⟨[.ref z], []⟩) Q E s := by
  show wpAny _ _ (field (.ref z) 2 >>= _) _ _ s
  refine wpAny_bind (wpAny_field zz rfl (x := .bool false) rfl (?_ : wpAny _ _ (field (.ref z) 3 >>= _) _ _ s))
  refine wpAny_bind (wpAny_field zz rfl (x := .ref TI) rfl (wpAny_bind (wpAny_seqItems zi rfl (?_ : wpAny _ _ (Builtin.SmallTypes.ownedTupleIsFree (.ref z) >>= _) _ _ s))))
  refine wpAny_bind (?_ : wpAny _ _ (Builtin.SmallTypes.ownedTupleIsFree (.ref z)) _ _ s)
  unfold Builtin.SmallTypes.ownedTupleIsFree
  refine wpAny_bind (wpAny_field zz rfl (x := .none) rfl (wpAny_pure ?_)); simp only [if_true]
  refine wpAny_bind (wpAny_rule (wpAny_bind (wpAny_field zz rfl (x := .ref TO) rfl (wpAny_bind (wpAny_setField_rec zz (by simp) fun g1 z1 t1 => ?_)))))
  have z1 : IsZip g1 z TI TO .ellipsis := z1
  refine wpAny_bind ?_; simp only [List.zipIdx_cons, List.zipIdx_nil, List.forIn_cons, List.forIn_nil]
  refine wpAny_bind (wpAny_bind (wpAny_onRaise (?_ : wpAny _ _ (Builtin.SmallTypes.nextOf (.ref i1) >>= _) _ _ _)))
  cases ex : xs[k]? with
  | none =>
    refine wpAny_bind (F1.fin hh (F1.on s1 t1.extBut D.i1z) (F1.src r1 t1.extBut D.l1z) ex fun g2 e t2 ⟨oe, e1, e2⟩ => ?_)
    have z2 : IsZip g2 z TI TO .ellipsis := t2 _ _ D.i1z.symm z1
    have ez : e ≠ z := fun c => by rw [c, z2] at e1; cases e1; simp at e2
    exact wpAny_setField_rec z2 (by simp) fun g3 _ t3 => q g3 e (fun c o c1 _ c3 _ h => t3.extBut _ _ c1 (t2 _ _ c3 (t1.extBut _ _ c1 h))) ⟨oe, t3.extBut _ _ ez e1, e2⟩
  | some x =>
    have ey : ys[k]? = none := over.resolve_left (by rw [ex]; exact fun c => nomatch c)
    refine wpAny_bind (F1.item (F1.on s1 t1.extBut D.i1z) (F1.src r1 t1.extBut D.l1z) ex fun g2 a2 t2 => wpAny_pure ?_)
    have o2 : IsPair g2 TO a b := t2.extBut _ _ D.TOi1 (t1.extBut _ _ D.TOz zo)
    refine wpAny_bind (wpAny_seqItems o2 rfl (wpAny_bind (wpAny_updateSeq_pair o2 fun g3 o3 t3 => wpAny_bind (wpAny_letGo (wpAny_pure ?_)))))
    refine wpAny_bind (wpAny_bind (wpAny_onRaise (?_ : wpAny _ _ (Builtin.SmallTypes.nextOf (.ref i2) >>= _) _ _ _)))
    refine wpAny_bind (F2.fin hh (F2.on (F2.on (F2.on s2 t1.extBut D.i2z) t2.extBut D.i12.symm) t3.extBut D.TOi2.symm) (F2.src (F2.src (F2.src r2 t1.extBut D.l2z) t2.extBut D.l2i1) t3.extBut D.l2TO) ey fun g4 e t4 ⟨oe, e1, e2⟩ => ?_)
    have z4 : IsZip g4 z TI TO .ellipsis := t4 _ _ D.i2z.symm (t3.extBut _ _ D.TOz.symm (t2.extBut _ _ D.i1z.symm z1))
    have ez : e ≠ z := fun c => by rw [c, z4] at e1; cases e1; simp at e2
    exact wpAny_setField_rec z4 (by simp) fun g5 _ t5 => q g5 e (fun c o c1 c2 c3 c4 h => t5.extBut _ _ c1 (t4 _ _ c4 (t3.extBut _ _ c2 (t2.extBut _ _ c3 (t1.extBut _ _ c1 h))))) ⟨oe, t5.extBut _ _ ez e1, e2⟩
end
section
variable {p : Program} {w : World} {A : Around} {E : Value → Shared → Prop} {s : Shared} {S1 S2 : Heap → Nat → Prop} {R1 R2 : Heap → Prop} {z TI TO i1 i2 l1 l2 : Addr} {k : Nat} {xs ys : Array Value} {x y a b : Value}
theorem feed_py_next {Q : Option Value → Shared → Prop} (F1 : Feed S1 R1 i1 l1 xs) (F2 : Feed S2 R2 i2 l2 ys) (D : ZipApart z TI TO i1 i2 l1 l2) (zz : IsZip s.heap z TI TO .none) (zi : IsPair s.heap TI (.ref i1) (.ref i2)) (zo : IsPair s.heap TO a b)
    (s1 : S1 s.heap k) (s2 : S2 s.heap k) (r1 : R1 s.heap) (r2 : R2 s.heap) (ex : xs[k]? = some x) (ey : ys[k]? = some y)
    (q : ∀ g, IsZip g z TI TO (rawInt s.heap.objs.size) → IsPair g TO x y → S1 g (k + 1) → S2 g (k + 1) → IsPair g s.heap.objs.size x y → g.objs.size = s.heap.objs.size + 1 → Still z TO i1 i2 s.heap g → Q (some (.ref s.heap.objs.size)) { s with heap := g }) :
    wpAny (model p w) A (pyNext (.ref z)) Q E s := by
  have T : s.TypeIs (.ref z) "zip" := ⟨_, zz, rfl⟩
  unfold pyNext
  exact wpAny_bind (wpAny_attempt (wpAny_callSpecial?_slot (name := Str.ofString "__next__") T F.slot_zip_next (wpAny_call_entry F.slot_zip_next T F.entry_zip_next
    (feed_next F1 F2 D zz zi zo s1 s2 r1 r2 ex ey fun g b1 b2 b3 b4 b5 b6 b7 => wpAny_pure (q g b1 b2 b3 b4 b5 b6 b7)) (F.args_zip_next_1 _))))
theorem feed_py_end {Q : Option Value → Shared → Prop} (hh : A.handled = none) (F1 : Feed S1 R1 i1 l1 xs) (F2 : Feed S2 R2 i2 l2 ys) (D : ZipApart z TI TO i1 i2 l1 l2) (zz : IsZip s.heap z TI TO .none) (zi : IsPair s.heap TI (.ref i1) (.ref i2)) (zo : IsPair s.heap TO a b)
    (s1 : S1 s.heap k) (s2 : S2 s.heap k) (r1 : R1 s.heap) (r2 : R2 s.heap) (over : xs[k]? = none ∨ ys[k]? = none) (q : ∀ g, Still z TO i1 i2 s.heap g → Q none { s with heap := g }) : wpAny (model p w) A (pyNext (.ref z)) Q E s := by
  have T : s.TypeIs (.ref z) "zip" := ⟨_, zz, rfl⟩
  unfold pyNext
  refine wpAny_bind (wpAny_attempt (wpAny_callSpecial?_slot (name := Str.ofString "__next__") T F.slot_zip_next (wpAny_call_entry F.slot_zip_next T F.entry_zip_next
    (feed_end hh F1 F2 D zz zi zo s1 s2 r1 r2 over fun g e st ⟨o, e1, e2⟩ => ?_) (F.args_zip_next_1 _))))
  exact wpAny_bind (wpAny_isInstance (T := "StopIteration") (b := true) ⟨o, e1, e2⟩ isSubtype_stop (wpAny_pure (q _ st)))
end
/-- a tuple and a list, as they stand at each turn, the items in new pairs -/
def ItzM (K : PySem.W.Frag) (a b : Addr) : It :=
  ⟨fun i H => ∃ (xs ys : List V) (x y : V), SqT K H a xs ∧ SqL K H b ys ∧ xs[i]? = some x ∧ ys[i]? = some y,
   fun i H v G => ∃ (T : Addr) (x y : V), v = .ref T ∧ H T = none ∧ G = upd H T (.tup [x, y]) ∧ (∀ xs, SqT K H a xs → xs[i]? = some x) ∧ (∀ ys, SqL K H b ys → ys[i]? = some y),
   fun i H => ∃ xs ys : List V, SqT K H a xs ∧ SqL K H b ys ∧ (xs.length ≤ i ∨ ys.length ≤ i)⟩
theorem walk_zipM {K : PySem.W.Frag} {a b : Addr} {xs ys : List V} {n : Nat} (hn : n = min xs.length ys.length) : Walk (ItzM K a b) n (fun H => SqT K H a xs ∧ SqL K H b ys) (YPair (fun i => xs[i]?) (fun i => ys[i]?)) := by
  subst hn
  refine ⟨fun i H hi q => ?_, fun H q => ⟨xs, ys, q.1, q.2, by omega⟩, fun i H v G _ q y => ?_⟩
  · have h1 : i < xs.length := by omega
    have h2 : i < ys.length := by omega
    exact ⟨xs, ys, xs[i], ys[i], q.1, q.2, List.getElem?_eq_getElem h1, List.getElem?_eq_getElem h2⟩
  · obtain ⟨T, x, u, h1, h2, h3, h4, h5⟩ := y
    exact ⟨T, x, u, h1, h2, h3, h4 xs q.1, h5 ys q.2⟩
theorem turn_zipM {P : Program} {w : World} {K : PySem.W.Frag} {es : List Expr} {kk : Nat} {tp : Pos} {a b z TI TO i1 i2 : Addr} (D : ZipApart z TI TO i1 i2 a b) :
    Turn P w K (.Tuple es kk tp) (ItzM K a b) [z, TI, TO, i1, i2] z (fun i h => (IsZip h z TI TO .none ∧ IsPair h TI (.ref i1) (.ref i2) ∧ ∃ x y, IsPair h TO x y) ∧ h.IsTupleIter i1 a i ∧ h.IsListIter i2 b i) where
  mem := List.mem_cons_self
  obj := fun i h ⟨⟨e1, e2, x, y, e3⟩, e4, e5⟩ c hc => by
    simp only [List.mem_cons, List.not_mem_nil, or_false] at hc
    rcases hc with rfl | rfl | rfl | rfl | rfl
    · exact ⟨_, e1, fun v q => nomatch q⟩
    · exact ⟨_, e2, fun v q => nomatch q⟩
    · exact ⟨_, e3, fun v q => nomatch q⟩
    · exact (feed_tup _ a #[]).has e4
    · exact (feed_list _ b #[]).has e5
  keep := fun i h g ⟨⟨e1, e2, x, y, e3⟩, e4, e5⟩ k => ⟨⟨k z (by simp) _ e1, k TI (by simp) _ e2, x, y, k TO (by simp) _ e3⟩, e4.at fun o e => k i1 (by simp) o e, e5.at fun o e => k i2 (by simp) o e⟩
  item := by
    intro X eP ew eK calm i pins s σ H E I hf st go
    subst eP ew eK
    obtain ⟨⟨e1, e2, x0, y0, e3⟩, e4, e5⟩ := st
    obtain ⟨xs, ys, x, y, qx, qy, hx, hy⟩ := go
    obtain ⟨us, ru, pu, _⟩ := I.tuple qx
    obtain ⟨vs, rv, pv, _⟩ := I.list qy
    obtain ⟨u, hu, xu⟩ := ru.get hx
    obtain ⟨v, hv, yv⟩ := rv.get hy
    have zl : z < s.heap.objs.size := Heap.lt_size e1
    refine feed_py_next (feed_tup i1 a us.toArray) (feed_list i2 b vs.toArray) D e1 e2 e3 e4 e5 pu pv.isList (x := u) (y := v) (by simpa using hu) (by simpa using hv) fun g z' o' a' b' T' n' k' => ⟨_, rfl, ?_⟩
    refine wpAny_letOwnedTupleGo_zip (s := { s with heap := g }) z' fun g2 z2 same => ?_
    have T2 : g2.get? s.heap.objs.size = some { cls := .type "tuple", data := .seq #[u, v] } := (same.2 _ (Nat.ne_of_gt zl)).trans T'
    have J : Inv X pins σ (upd H s.heap.objs.size (.tup [x, y])) { s with heap := g2 } :=
      I.turnedNew (t' := s.toks) (ch := [z, TI, TO, i1, i2]) (fun c o hb q => (same.2 c (fun e => hb (by simp [e]))).trans (k' c o (fun e => hb (by simp [e])) (fun e => hb (by simp [e])) (fun e => hb (by simp [e])) (fun e => hb (by simp [e])) q)) hf (Nat.le_refl _)
        ⟨by show 2 ≤ sizeLine; decide, [u, v], .cons xu (.cons yv .nil), ⟨_, T2, rfl, _, rfl⟩⟩
    refine ⟨.ref s.heap.objs.size, _, J, rfl, ⟨_, x, y, rfl, I.hok.fresh (Nat.le_refl _), rfl, fun l hl => by rw [I.tuple_inj hl qx]; exact hx, fun l hl => by rw [I.list_inj hl qy]; exact hy⟩, ?_, fun c hc => ?_⟩
    · exact ⟨⟨z2, (same.2 _ D.TIz).trans (k' _ _ D.TIz D.TITO D.TIi1 D.TIi2 e2), u, v, (same.2 _ D.TOz).trans o'⟩, a'.at fun o e => (same.2 _ D.i1z).trans e, b'.at fun o e => (same.2 _ D.i2z).trans e⟩
    · have lt : c < s.heap.objs.size := by
        simp only [List.mem_cons, List.not_mem_nil, or_false] at hc
        rcases hc with rfl | rfl | rfl | rfl | rfl
        · exact zl
        · exact Heap.lt_size e2
        · exact Heap.lt_size e3
        · exact Heap.lt_size e4.choose_spec.1
        · exact Heap.lt_size e5.choose_spec.1
      rw [upd_ne (Nat.ne_of_lt lt)]
      exact (hf c hc).1
  done := by
    intro X eP ew eK calm i pins s σ H E I hf st go
    subst eP ew eK
    obtain ⟨⟨e1, e2, x0, y0, e3⟩, e4, e5⟩ := st
    obtain ⟨xs, ys, qx, qy, over⟩ := go
    obtain ⟨us, ru, pu, _⟩ := I.tuple qx
    obtain ⟨vs, rv, pv, _⟩ := I.list qy
    have n1 := ru.length
    have n2 := rv.length
    have no : us.toArray[i]? = none ∨ vs.toArray[i]? = none := over.imp (fun e => by simp; omega) (fun e => by simp; omega)
    exact feed_py_end (I.ok.hd calm) (feed_tup i1 a us.toArray) (feed_list i2 b vs.toArray) D e1 e2 e3 e4 e5 pu pv.isList no fun g k' => ⟨rfl, I.turnedL (t' := s.toks) (ch := [z, TI, TO, i1, i2])
      (fun c o hb q => k' c o (fun e => hb (by simp [e])) (fun e => hb (by simp [e])) (fun e => hb (by simp [e])) (fun e => hb (by simp [e])) q) hf⟩
  self := fun A i s Q E st h => wpAny_pyIter_zip st.1.1 h
/-- the five new objects of zip(tuple, list) -/
def zm1 (h : Heap) (a : Addr) : Heap := h.push { cls := .type "tuple_iterator", data := .fields #[.ref a, .int 0 0] }
def zm2 (h : Heap) (a b : Addr) : Heap := (zm1 h a).push { cls := .type "list_iterator", data := .fields #[.ref b, .int 0 0] }
def zm3 (h : Heap) (a b : Addr) : Heap := (zm2 h a b).push { cls := .type "tuple", data := .seq #[.ref h.objs.size, .ref (zm1 h a).objs.size] }
def zm4 (h : Heap) (a b : Addr) : Heap := (zm3 h a b).push { cls := .type "tuple", data := .seq #[.none, .none] }
def zm5 (h : Heap) (a b : Addr) : Heap := (zm4 h a b).push { cls := .type "zip", data := .fields #[.none, .bool false, .bool false, .ref (zm2 h a b).objs.size, .ref (zm3 h a b).objs.size] }
theorem meets_zipM (a b : Addr) (xs ys : Array Value) : Meets (Builtin.«zip.__new__» ⟨[.type "zip", .ref a, .ref b], []⟩) (fun _ R s => s.heap.IsTuple a xs ∧ s.heap.IsList b ys ∧ R (.ok (.ret (.ref (zm4 s.heap a b).objs.size))) { s with heap := zm5 s.heap a b }) :=
  .of_wp fun prog w A R s ⟨ha, hb, h⟩ => by
    obtain ⟨hp, gs, dr, tk, os⟩ := s
    have sz := sub_zip
    have t1 : Heap.IsTuple (Shared.heap ⟨hp, gs, dr, tk, os⟩) a xs := ha
    have t2 : Heap.IsList (Shared.heap ⟨hp.push { cls := .type "tuple_iterator", data := .fields #[.ref a, .int 0 0] }, gs, dr, tk, os⟩) b ys := Heap.IsList.push hb _
    wp_walk using wpAny_pyIter_tuple t1, wpAny_pyIter_list t2
    exact ⟨_, rfl, h⟩
theorem call_zipM {p : Program} {w : World} {A : Around} {E : Value → Shared → Prop} {s : Shared} {a b : Addr} {xs ys : Array Value} {Q : Value → Shared → Prop} (ha : s.heap.IsTuple a xs) (hb : s.heap.IsList b ys)
    (q : ∀ g, IsZip g (s.heap.objs.size + 4) (s.heap.objs.size + 2) (s.heap.objs.size + 3) .none → IsPair g (s.heap.objs.size + 2) (.ref s.heap.objs.size) (.ref (s.heap.objs.size + 1)) → IsPair g (s.heap.objs.size + 3) .none .none →
      g.IsTupleIter s.heap.objs.size a 0 → g.IsListIter (s.heap.objs.size + 1) b 0 → (∀ c o, s.heap.get? c = some o → g.get? c = some o) → Q (.ref (s.heap.objs.size + 4)) { s with heap := g }) : wpAny (model p w) A (call (.type "zip") [.ref a, .ref b]) Q E s := by
  refine callType_new F.called_zip (by decide) (F.typeCall_zip_2 _ _) (F.newCall_zip_2 _ _) (fun obj => F.args_object_init_3 obj _ _) F.entry_zip_new (meets_zipM a b xs ys) ⟨ha, hb, ?_⟩
  have n1 : (zm1 s.heap a).objs.size = s.heap.objs.size + 1 := Heap.size_push ..
  have n2 : (zm2 s.heap a b).objs.size = s.heap.objs.size + 2 := (Heap.size_push ..).trans (by rw [n1])
  have n3 : (zm3 s.heap a b).objs.size = s.heap.objs.size + 3 := (Heap.size_push ..).trans (by rw [n2])
  have n4 : (zm4 s.heap a b).objs.size = s.heap.objs.size + 4 := (Heap.size_push ..).trans (by rw [n3])
  have up : ∀ {c o}, (zm2 s.heap a b).get? c = some o → (zm5 s.heap a b).get? c = some o := fun e => Heap.get?_push_of_some _ (Heap.get?_push_of_some _ (Heap.get?_push_of_some _ e))
  have f5 : (zm5 s.heap a b).get? (zm4 s.heap a b).objs.size = some { cls := .type "zip", data := .fields #[.none, .bool false, .bool false, .ref (zm2 s.heap a b).objs.size, .ref (zm3 s.heap a b).objs.size] } := Heap.get?_push_size _ rfl
  have f4 : (zm5 s.heap a b).get? (zm3 s.heap a b).objs.size = some { cls := .type "tuple", data := .seq #[.none, .none] } := Heap.get?_push_of_some _ (Heap.get?_push_size _ rfl)
  have f3 : (zm5 s.heap a b).get? (zm2 s.heap a b).objs.size = some { cls := .type "tuple", data := .seq #[.ref s.heap.objs.size, .ref (zm1 s.heap a).objs.size] } := Heap.get?_push_of_some _ (Heap.get?_push_of_some _ (Heap.get?_push_size _ rfl))
  have f2 : (zm5 s.heap a b).get? (zm1 s.heap a).objs.size = some { cls := .type "list_iterator", data := .fields #[.ref b, .int 0 0] } := up (Heap.get?_push_size _ rfl)
  have f1 : (zm5 s.heap a b).get? s.heap.objs.size = some { cls := .type "tuple_iterator", data := .fields #[.ref a, .int 0 0] } := up (Heap.get?_push_of_some _ (Heap.get?_push_size _ rfl))
  rw [n2, n3, n4] at f5
  rw [n1, n2] at f3
  rw [n3] at f4
  rw [n1] at f2
  show _ ∧ _
  rw [n4]
  exact ⟨⟨_, f5, rfl⟩, q _ f5 f3 f4 ⟨_, f1, rfl, rfl⟩ ⟨_, f2, rfl, rfl⟩ fun c o e => up (Heap.get?_push_of_some _ (Heap.get?_push_of_some _ e))⟩
def iZipM (K : PySem.W.Frag) (ta : TA) : TI := fun σ H R => ta σ H fun vs H1 => ∃ (a b : Addr) (xs ys : List V), vs = [.ref a, .ref b] ∧ SqT K H1 a xs ∧ SqL K H1 b ys ∧ R (ItzM K a b) H1
theorem g_zipM {K : PySem.W.Frag} {ta : TA} {σ : L2.St} {H : Hp} {R : It → Hp → Prop} (h : ta σ H fun vs H1 => ∃ (a b : Addr) (xs ys : List V), vs = [.ref a, .ref b] ∧ SqT K H1 a xs ∧ SqL K H1 b ys ∧ R (ItzM K a b) H1) : iZipM K ta σ H R := h
theorem pi_zipM {X : Cx} {e e2 : Expr} {ta : TA} {p pos tp : Pos} {es : List Expr} {kk : Nat} (hg : Gl X "zip") (hm : X.mg "zip" = none) (ha : PA X [e, e2] ta)
    (hs : starEach [e, e2] X.env = (false, eval e X.env) :: starEach [e2] X.env := by rfl) (hpl : (backTo pos (starEach [e2] X.env)).any (·.1) = false := by rfl) : PI X (.Tuple es kk tp) (.Call (.Name "zip" p) [e, e2] [] pos) (iZipM X.K ta) := by
  refine ⟨fun pins s σ H R I h => Call_ (ld_blt I hg hm PyProof.Rows.boot_zip (PyProof.Rows.callWith_type1 (thn (ha.run pos pins s σ H _ I h) fun us s1 ⟨vs, H1, I1, r1, a, b, xs, ys, ev, qx, qy, q⟩ => ?_) hs hpl))⟩
  subst ev
  cases r1 with
  | cons ra rr =>
  cases rr with
  | cons rb rr =>
  cases rr
  cases ra
  cases rb
  obtain ⟨us, ru, pu, _⟩ := I1.tuple qx
  obtain ⟨vs, rv, pv, _⟩ := I1.list qy
  obtain ⟨oa, la, _⟩ := id pu
  have fresh : ∀ c, c ∈ [s1.heap.objs.size + 4, s1.heap.objs.size + 2, s1.heap.objs.size + 3, s1.heap.objs.size, s1.heap.objs.size + 1] → FpOk X pins H1 c := fun c hc => by
    have le : s1.heap.objs.size ≤ c := by
      simp only [List.mem_cons, List.not_mem_nil, or_false] at hc
      omega
    exact I1.fpOk le (I1.hok.fresh le)
  refine call_zipM pu pv.isList fun g z' t' o' a' b' k' => wpAny_pyIter_zip z' ?_
  exact ⟨s1.heap.objs.size + 4, [s1.heap.objs.size + 4, s1.heap.objs.size + 2, s1.heap.objs.size + 3, s1.heap.objs.size, s1.heap.objs.size + 1], _, _, H1, rfl, I1.kept (t' := s1.toks) k',
    turn_zipM (PySem.W.ktu_apart s1.heap.objs.size a b (Heap.lt_size la) pv.lt), ⟨⟨z', t', _, _, o'⟩, a', b'⟩, fresh, q⟩
end Bk

set_option Elab.async false
set_option linter.all false
set_option maxRecDepth 100000
set_option maxHeartbeats 2000000
namespace Bk
open PySem PySem.Spec PyProof.Rows L2
/-! ### rows compared, either way -/
def IntVals (ks : List (Key × V)) : Prop := ∀ p ∈ ks, ∃ i : Int, p.2 = .int i
def sameRows (ks ls : List (Key × V)) : Bool := (ks.length == ls.length) && ks.all fun p => decide (valV ls p.1 = some p.2)
theorem valV_in {kvs : List (Key × V)} {k : Key} {v : V} (h : valV kvs k = some v) : (k, v) ∈ kvs := by
  unfold valV at h
  obtain ⟨⟨a, b⟩, h1, h2⟩ := Option.map_eq_some_iff.mp h
  have e : a = k := of_decide_eq_true (List.find?_some (p := fun kv : Key × V => decide (kv.1 = k)) h1)
  have h2 : b = v := h2
  subst e
  subst h2
  exact List.mem_of_find?_eq_some h1
theorem hits_ints {A : Around} {s : Shared} {ls : List (Key × V)} {vb : List (Key × Value)} (rb : KV ls vb) (hb : IntVals ls) : ∀ {ks : List (Key × V)} {va : List (Key × Value)}, KV ks va → IntVals ks → PySem.W.KeqHits A s vb va (ks.all fun p => decide (valV ls p.1 = some p.2)) := by
  intro ks va ra
  unfold KV at ra
  induction ra with
  | nil => exact fun _ => .nil
  | @cons p q ps qs h t ih =>
    intro hp
    obtain ⟨pk, pv⟩ := p
    obtain ⟨qk, qv⟩ := q
    obtain ⟨h1, h2⟩ := h
    have h1 : pk = qk := h1
    subst h1
    obtain ⟨i, hi⟩ := hp _ List.mem_cons_self
    have hi : pv = .int i := hi
    subst hi
    obtain ⟨t1, e1⟩ := (show ∃ t, qv = Value.int i t from h2)
    subst e1
    have rr : RelO (valV ls pk) (valueAt vb pk) := rb.val pk
    have rest := ih fun p' hm => hp p' (List.mem_cons_of_mem _ hm)
    rw [List.all_cons]
    cases hv : valV ls pk with
    | none =>
      rw [hv] at rr
      rw [show decide ((none : Option V) = some (.int i)) = false from decide_eq_false (fun z => nomatch z), Bool.false_and]
      exact .miss rr.none_of
    | some y =>
      rw [hv] at rr
      obtain ⟨u, hu, ru⟩ := rr.some_of
      obtain ⟨j, hj⟩ := hb _ (valV_in hv)
      have hj : y = .int j := hj
      subst hj
      obtain ⟨t2, e2⟩ := (show ∃ t, u = Value.int j t from ru)
      subst e2
      have q := SeqAt.EqAt.int_int (A := A) (s := s) i t1 j t2
      have e : (i == j) = decide (some (V.int j) = some (V.int i)) := by
        by_cases c : i = j
        · subst c; simp
        · rw [decide_eq_false (fun z => c (V.int.inj (Option.some.inj z)).symm)]
          simpa using c
      rw [e] at q
      exact .hit hu q rest
def rNeDI : R2 := fun x y H Q => ∃ a b ks ls, x = .ref a ∧ y = .ref b ∧ H a = some (.dK ks) ∧ H b = some (.dK ls) ∧ IntVals ks ∧ IntVals ls ∧ Q (.bl (!sameRows ks ls)) H
theorem op_neDI {X : Cx} (hu : X.A.units < cLine) : OpR X (compareOp .NotEq) rNeDI := by
  intro pins s σ H x y v u Q I rx ry h
  obtain ⟨a, b, ks, ls, rfl, rfl, ea, eb, ha, hb, q⟩ := h
  obtain rfl : v = Value.ref a := rx
  obtain rfl : u = Value.ref b := ry
  obtain ⟨_, ya, va, ra, da⟩ := (show ObjOk X.prog X.w H s.heap a (.dK ks) from I.hok a _ ea)
  obtain ⟨_, yb, vb, rb, db⟩ := (show ObjOk X.prog X.w H s.heap b (.dK ls) from I.hok b _ eb)
  have l1 : ks.length = va.length := ra.length
  have l2 : ls.length = vb.length := rb.length
  refine PySem.W.keq_ne (knd := mixKind X.prog X.w) (r := ks.all fun p => decide (valV ls p.1 = some p.2)) ya yb da db hu (fun _ => hits_ints rb hb ra ha) ?_
  rw [← l1, ← l2]
  exact fin_bl I q rfl
def rEqDI : R2 := fun x y H Q => ∃ a b ks ls, x = .ref a ∧ y = .ref b ∧ H a = some (.dK ks) ∧ H b = some (.dK ls) ∧ IntVals ks ∧ IntVals ls ∧ Q (.bl (sameRows ks ls)) H
theorem op_eqDI {X : Cx} (hu : X.A.units < cLine) : OpR X (compareOp .Eq) rEqDI := by
  intro pins s σ H x y v u Q I rx ry h
  obtain ⟨a, b, ks, ls, rfl, rfl, ea, eb, ha, hb, q⟩ := h
  obtain rfl : v = Value.ref a := rx
  obtain rfl : u = Value.ref b := ry
  obtain ⟨_, ya, va, ra, da⟩ := (show ObjOk X.prog X.w H s.heap a (.dK ks) from I.hok a _ ea)
  obtain ⟨_, yb, vb, rb, db⟩ := (show ObjOk X.prog X.w H s.heap b (.dK ls) from I.hok b _ eb)
  have l1 : ks.length = va.length := ra.length
  have l2 : ls.length = vb.length := rb.length
  refine PySem.W.keq_eq (knd := mixKind X.prog X.w) (r := ks.all fun p => decide (valV ls p.1 = some p.2)) ya yb da db hu (fun _ => hits_ints rb hb ra ha) ?_
  rw [← l1, ← l2]
  exact fin_bl I q rfl
/-! ### a dict comprehension over any walk -/
theorem g_dc {wi : TI} {g : TG} {tt : TT} {tk tv : TE} {vs : List Nat} {σ : L2.St} {H : Hp} {Q : VK} (h : wi σ H fun J H1 => ∀ D, H1 D = none → ∃ W : Nat → Nat → Hp → Prop, (∃ m, W 0 m (upd H1 D (.dK []))) ∧ ∀ i m H, W i m H →
    (J.stop i H ∧ Q (.ref D) H) ∨ (J.go i H ∧ ∃ Nx : Hp → Prop, (∀ H', Nx H' → ∃ m', m' < m ∧ W (i + 1) m' H') ∧ ∀ x H', J.yld i H x H' → g x (wipe σ vs) H' fun σ2 H2 => wipe σ2 vs = wipe σ vs ∧ tt σ2 H2 fun b H3 =>
      if b = true then tk σ2 H3 fun y H4 => tv σ2 H4 fun z H5 => ∃ kvs k, y = kV k ∧ H5 D = some (.dK kvs) ∧ kvs.length < sizeLine ∧ Nx (upd H5 D (.dK (putK kvs k z))) else Nx H3)) : tDc wi g tt tk tv vs σ H Q := h
theorem dc_it {J : It} {n : Nat} {G : Hp → Prop} {Y : Nat → Hp → V → Hp → Prop} (w : Walk J n G Y) {g : TG} {tt : TT} {tk tv : TE} {vs : List Nat} {σ : L2.St} {H1 : Hp} {D : Addr} {Qd : Hp → Prop} (Pv : Nat → Hp → Prop) (h0 : Pv 0 (upd H1 D (.dK []))) (hG : ∀ i H, i ≤ n → Pv i H → G H)
    (hs : ∀ i x H H', i < n → Pv i H → Y i H x H' → g x (wipe σ vs) H' fun σ2 H2 => wipe σ2 vs = wipe σ vs ∧ tt σ2 H2 fun b H3 =>
      if b = true then tk σ2 H3 fun y H4 => tv σ2 H4 fun z H5 => ∃ kvs k, y = kV k ∧ H5 D = some (.dK kvs) ∧ kvs.length < sizeLine ∧ Pv (i + 1) (upd H5 D (.dK (putK kvs k z))) else Pv (i + 1) H3) (hd : ∀ H, Pv n H → Qd H) :
    ∃ W : Nat → Nat → Hp → Prop, (∃ m, W 0 m (upd H1 D (.dK []))) ∧ ∀ i m H, W i m H →
      (J.stop i H ∧ Qd H) ∨ (J.go i H ∧ ∃ Nx : Hp → Prop, (∀ H', Nx H' → ∃ m', m' < m ∧ W (i + 1) m' H') ∧ ∀ x H', J.yld i H x H' → g x (wipe σ vs) H' fun σ2 H2 => wipe σ2 vs = wipe σ vs ∧ tt σ2 H2 fun b H3 =>
        if b = true then tk σ2 H3 fun y H4 => tv σ2 H4 fun z H5 => ∃ kvs k, y = kV k ∧ H5 D = some (.dK kvs) ∧ kvs.length < sizeLine ∧ Nx (upd H5 D (.dK (putK kvs k z))) else Nx H3) := by
  refine ⟨fun i m H => m = n - i ∧ (i ≤ n ∧ Pv i H), ⟨n - 0, rfl, Nat.zero_le _, h0⟩, fun i m H ⟨em, le, pv⟩ => ?_⟩
  have gg := hG i H le pv
  rcases Nat.lt_or_ge i n with lt | ge
  · exact .inr ⟨w.goes i H lt gg, Pv (i + 1), fun G' p' => ⟨n - (i + 1), by omega, rfl, lt, p'⟩, fun x G' y => hs i x H G' lt pv (w.yields i H x G' lt gg y)⟩
  · have e : i = n := Nat.le_antisymm le ge
    subst e
    exact .inl ⟨w.stops H gg, hd H pv⟩
theorem g_din {ty td : TE} {σ : L2.St} {H : Hp} {Q : VK} (h : ty σ H fun y H1 => td σ H1 fun x H2 => ∃ a o, x = .ref a ∧ DGet H2 a y o ∧ Q (.bl o.isSome) H2) : tDIn ty td σ H Q := h
theorem g_dnotin {ty td : TE} {σ : L2.St} {H : Hp} {Q : VK} (h : ty σ H fun y H1 => td σ H1 fun x H2 => ∃ a o, x = .ref a ∧ DGet H2 a y o ∧ Q (.bl (!o.isSome)) H2) : tDNotIn ty td σ H Q := h
theorem g_has {H : Hp} {d : Addr} {kvs : List (Key × V)} {x : Str} {R : Bool → Prop} (hd : H d = some (.dK kvs)) (h : R (valV kvs (.inr x)).isSome) : ∃ a o, V.ref d = .ref a ∧ DGet H a (.str x) o ∧ R o.isSome :=
  ⟨d, _, rfl, .inl ⟨kvs, .inr x, .inl hd, rfl, rfl⟩, h⟩
/-! ### the same rules with the frag's own name (within comprehensions) -/
theorem pi_tupK {X : Cx} {K : PySem.W.Frag} {tg l : Expr} {tl : TE} (h : X.K = K) (he : PE X l tl) : PI X tg l (iTup K tl) := by
  subst h
  exact pi_tup he
theorem pi_listK {X : Cx} {K : PySem.W.Frag} {tg l : Expr} {tl : TE} (h : X.K = K) (he : PE X l tl) : PI X tg l (iList K tl) := by
  subst h
  exact pi_list he
theorem op_inK {X : Cx} {K : PySem.W.Frag} (h : X.K = K) : OpR X (compareOp .In) (rIn K false) := by
  subst h
  exact op_in_seq
theorem op_notInK {X : Cx} {K : PySem.W.Frag} (h : X.K = K) : OpR X (compareOp .NotIn) (rIn K true) := by
  subst h
  exact op_notIn_seq
theorem g_dpop {td ty : TE} {σ : L2.St} {H : Hp} {Q : VK} (h : td σ H fun x H1 => ∃ a, x = .ref a ∧ IsD H1 a ∧ ty σ H1 fun y H2 => ∃ kvs k v, H2 a = some (.dK kvs) ∧ y = kV k ∧ valV kvs k = some v ∧ Q v (upd H2 a (.dK (dropK kvs k)))) : tDPop1 td ty σ H Q := h
end Bk

set_option Elab.async false
set_option linter.all false
set_option maxRecDepth 100000
set_option maxHeartbeats 2000000
namespace Bk
open PySem PySem.Spec PyProof.Rows L2
/-! ### texts in order -/
theorem rising_pw : ∀ (p : Str) (l : List Str), risingS p l = true → (p :: l).Pairwise fun a b => a.cps.toList ≤ b.cps.toList
  | p, [], _ => List.pairwise_singleton _ _
  | p, x :: r, h => by
    have h : (!ltCps x.cps.toList p.cps.toList && risingS x r) = true := h
    rw [Bool.and_eq_true, Bool.not_eq_true', ltCps_eq, decide_eq_false_iff_not] at h
    have ih := rising_pw x r h.2
    have px : p.cps.toList ≤ x.cps.toList := h.1
    refine List.pairwise_cons.mpr ⟨fun b hb => ?_, ih⟩
    rcases List.mem_cons.mp hb with rfl | hb
    · exact px
    · exact List.le_trans px (List.rel_of_pairwise_cons ih hb)
theorem sorted_pw {l : List Str} (h : sortedS l = true) : l.Pairwise fun a b => a.cps.toList ≤ b.cps.toList := by
  cases l with
  | nil => exact .nil
  | cons x r => exact rising_pw x r h
theorem str_ext {a b : Str} (h : a.cps.toList = b.cps.toList) : a = b := by
  obtain ⟨x⟩ := a
  obtain ⟨y⟩ := b
  have : x = y := Array.ext' h
  rw [this]
theorem sorted_one {xs ys : List Str} (p : xs.Perm ys) (hx : sortedS xs = true) (hy : sortedS ys = true) : xs = ys :=
  List.Perm.eq_of_pairwise (fun a b _ _ h1 h2 => str_ext (List.le_antisymm h1 h2)) (sorted_pw hx) (sorted_pw hy) p
/-- two lists of unlike words: the same words -/
theorem nodup_perm {xs ys : List Str} (nx : xs.Nodup) (ny : ys.Nodup) (hl : xs.length = ys.length) (h : ∀ y ∈ ys, y ∈ xs) : xs.Perm ys := by
  refine (List.perm_ext_iff_of_nodup nx ny).mpr fun a => ⟨fun ha => ?_, h a⟩
  refine Decidable.byContradiction fun hn => ?_
  have n2 : (a :: ys).Nodup := List.nodup_cons.mpr ⟨hn, ny⟩
  have := List.Nodup.length_le_of_subset n2 (l₂ := xs) (fun b hb => by
    rcases List.mem_cons.mp hb with rfl | hb
    · exact ha
    · exact h b hb)
  rw [List.length_cons] at this
  omega
theorem eqv_strs : ∀ xs ys : List Str, PyData.eqv (.list (xs.map PyData.str)) (.list (ys.map PyData.str)) = decide (xs = ys)
  | [], [] => rfl
  | [], y :: ys => rfl
  | x :: xs, [] => rfl
  | x :: xs, y :: ys => by
    have ih : PyData.eqvAll (xs.map PyData.str) (ys.map PyData.str) = decide (xs = ys) := eqv_strs xs ys
    show ((x == y) && PyData.eqvAll (xs.map PyData.str) (ys.map PyData.str)) = _
    rw [ih]
    by_cases c : x = y
    · subst c
      simp
    · have e : (x == y) = false := by rw [beq_eq_false_iff_ne]; exact c
      rw [e, Bool.false_and, decide_eq_false (fun z => c (List.cons.inj z).1)]
theorem inV_intL {b : Int} {ns : List Int} : inV (.int b) (ns.map V.int) = decide (b ∈ ns) := by
  unfold inV
  rw [List.any_map, Bool.eq_iff_iff, List.any_eq_true, decide_eq_true_eq]
  constructor
  · rintro ⟨x, hx, e⟩
    have e' : (x == b) = true := by
      first
        | exact e
        | (have z : (b == x) = true := e; simpa [eq_comm] using z)
    rw [← eq_of_beq e']
    exact hx
  · intro h
    exact ⟨b, h, by show (b == b) = true; simp⟩
theorem inV_strL {b : Str} {ns : List Str} : inV (.str b) (ns.map V.str) = decide (b ∈ ns) := by
  unfold inV
  rw [List.any_map, Bool.eq_iff_iff, List.any_eq_true, decide_eq_true_eq]
  constructor
  · rintro ⟨x, hx, e⟩
    have e' : (x == b) = true := by
      first
        | exact e
        | (have z : (b == x) = true := e; simpa [eq_comm] using z)
    rw [← eq_of_beq e']
    exact hx
  · intro h
    exact ⟨b, h, by show (b == b) = true; simp⟩
end Bk

set_option Elab.async false
set_option linter.all false
set_option maxRecDepth 100000
namespace Bk
open PySem PySem.Spec PyProof.Rows L2
/-! ### == of nested lists, tuples and dicts -/
def EqRT (K : PySem.W.Frag) (H : Hp) (E : V → V → Prop) (x y : V) : Prop :=
  EqR K H E x y ∨ ∃ a b xs ys, x = .ref a ∧ y = .ref b ∧ SqT K H a xs ∧ SqT K H b ys ∧ Paired E xs ys
def EqVT (K : PySem.W.Frag) (H : Hp) : Nat → V → V → Prop
  | 0 => fun _ _ => False
  | n + 1 => fun x y => (x = y ∧ flatB x = true) ∨ (∃ a, x = .ref a ∧ y = .ref a) ∨ EqRT K H (EqVT K H n) x y
section
variable {X : Cx} {pins : List (Addr × Obj)} {σ : L2.St} {H : Hp} {s : Shared}
theorem eqRT_run (I : Inv X pins σ H s) {A : Around} {F : V → V → Prop} (hu : A.units < cLine) (ih : ∀ x y v u, F x y → RelV x v → RelV y u → SeqAt.EqP X.prog X.w A.in1 s v u true) {x y : V} {v u : Value} (h : EqRT X.K H F x y) (rx : RelV x v) (ry : RelV y u)
    (E Q : Value → Shared → Prop) (q : Q (.bool true) s) : wpAny (model X.prog X.w) A (richCompare .Eq v u) Q E s := by
  rcases h with h | ⟨a, b, xs, ys, rfl, rfl, ha, hb, hp⟩
  · exact eqR_run I hu ih h rx ry E Q q
  · cases (show v = Value.ref a from rx)
    cases (show u = Value.ref b from ry)
    obtain ⟨us, r1, p1, _⟩ := I.tuple ha
    obtain ⟨ws, r2, p2, _⟩ := I.tuple hb
    have hsz : us.toArray.size = ws.toArray.size := by
      rw [List.size_toArray, List.size_toArray, ← r1.length, ← r2.length]
      exact Paired.length hp
    refine SeqAt.rcIn_tuples (e := fun _ => true) p1 p2 hu (fun j h1 h2 => ?_) ?_
    · have k := items_run ih hp r1 r2 j (by simpa using h1) (by simpa using h2)
      have k' : SeqAt.EqIn X.prog X.w A.in1 s us[j] ws[j] true := k
      simpa using k'
    · rw [hsz]
      simp only [BEq.rfl, Bool.and_true]
      rw [show ((List.range (min ws.toArray.size ws.toArray.size)).all fun _ => true) = true from List.all_eq_true.mpr fun _ _ => rfl]
      exact q
theorem eqVT_run (I : Inv X pins σ H s) : ∀ (n : Nat) (A : Around), A.units + n < cLine → ∀ (x y : V) (v u : Value), EqVT X.K H n x y → RelV x v → RelV y u → SeqAt.EqP X.prog X.w A s v u true
  | 0, _, _, _, _, _, _, h, _, _ => (show False from h).elim
  | n + 1, A, hu, x, y, v, u, h, rx, ry => by
    rcases h with ⟨rfl, f⟩ | ⟨a, rfl, rfl⟩ | h
    · exact (eqAt_same rx ry f).eqP
    · cases (show v = Value.ref a from rx)
      cases (show u = Value.ref a from ry)
      exact (SeqAt.EqAt.same _).eqP
    · have step := eqRT_run I (A := A) (by omega) (eqVT_run I n A.in1 (by show A.units + 1 + n < cLine; omega)) h rx ry
      obtain ⟨a, b, rfl, rfl⟩ : ∃ a b, x = .ref a ∧ y = .ref b := by
        rcases h with (⟨a, b, _, _, e1, e2, _⟩ | ⟨a, b, _, _, e1, e2, _⟩) | ⟨a, b, _, _, e1, e2, _⟩
        · exact ⟨a, b, e1, e2⟩
        · exact ⟨a, b, e1, e2⟩
        · exact ⟨a, b, e1, e2⟩
      cases (show v = Value.ref a from rx)
      cases (show u = Value.ref b from ry)
      by_cases e : a = b
      · subst e
        exact (SeqAt.EqAt.same _).eqP
      · exact SeqAt.eqP_refs e step
end
section
variable {X : Cx}
/-- a == b, two lists, tuples or dicts that are equal -/
def rEqVT (K : PySem.W.Frag) : R2 := fun x y H Q => ∃ n, n ≤ 60 ∧ EqRT K H (EqVT K H n) x y ∧ Q (.bl true) H
theorem op_eqVT (hu : X.A.units + 64 < cLine) : OpR X (compareOp .Eq) (rEqVT X.K) := by
  intro pins s σ H x y v u Q I rx ry h
  obtain ⟨n, hn, h, q⟩ := h
  exact eqRT_run I (A := X.A) (by omega) (eqVT_run I n X.A.in1 (by show X.A.units + 1 + n < cLine; omega)) h rx ry _ _ ⟨.bl true, H, I, rfl, q⟩
end
end Bk

set_option Elab.async false
set_option linter.all false
set_option maxRecDepth 100000
set_option maxHeartbeats 2000000
/-! ### != of two lists whose items are all equal -/
namespace PySem.SeqAt
open AutoSeq1 (wpAny_loadPart')
open MeetsSeq MeetsSeq2 MeetsSeq3 SeqRoads2
section
variable {P : Program} {w : World}
theorem bk_neLoop (l b : Addr) (xs ys : Array Value) (n m : Nat) (d1 d2 : Option Addr) (o1 o2 : Array (Option Value)) (hz : xs.size = ys.size) :
    ∀ k i : Nat, xs.size - i = k → MeetsIn P w (Builtin.«list.__eq__.loop» ⟨[.ref l, .ref b, rawInt i, rawInt 3], []⟩)
      (fun A R s => s.heap.get? l = some { cls := .type "list", dict := d1, data := .seq xs n, slots := o1 } ∧ s.heap.get? b = some { cls := .type "list", dict := d2, data := .seq ys m, slots := o2 } ∧
        (∀ j (h1 : j < xs.size) (h2 : j < ys.size), EqIn P w A.in1 s xs[j] ys[j] true) ∧ R (.ok (.ret (.bool false))) s) := by
  intro k
  induction k with
  | zero =>
    intro i hk A R s ⟨hl, hb, he, h⟩
    obtain ⟨hp, g, dd, tk, os⟩ := s
    wp_walk using wpAny_loadPart' hl, wpAny_loadPart' hb
    have i1 : xs[((i : Nat) : Int).toNat]? = none := by simp; omega
    have i2 : ys[((i : Nat) : Int).toNat]? = none := by simp; omega
    rw [i1, i2]
    wp_walk using wpAny_loadPart' hl, wpAny_loadPart' hb
    have e : (xs.size != ys.size) = false := by simp [hz]
    show R (.ok (.ret (.bool (xs.size != ys.size)))) _
    rw [e]
    exact h
  | succ k ih =>
    intro i hk A R s ⟨hl, hb, he, h⟩
    obtain ⟨hp, g, dd, tk, os⟩ := s
    wp_walk using wpAny_loadPart' hl, wpAny_loadPart' hb
    have l1 : i < xs.size := by omega
    have l2 : i < ys.size := by omega
    have i1 : xs[((i : Nat) : Int).toNat]? = some xs[i] := by simp [l1]
    have i2 : ys[((i : Nat) : Int).toNat]? = some ys[i] := by simp [l2]
    have c : ((i : Int) + 1) = ((i + 1 : Nat) : Int) := by push_cast; rfl
    rw [i1, i2]
    refine wpAny_bind (he i l1 l2 _ _ ?_)
    wp_walk
    rw [c]
    refine ⟨plainId_quiet plain_eq_loop _, codeAny_builtin entry_eq_loop ?_⟩
    rw [Around.under_plainId plain_eq_loop _]
    exact ih (i + 1) (by omega) A R _ ⟨hl, hb, he, h⟩
theorem bk_listNe (l b : Addr) (xs ys : Array Value) (n m : Nat) (d1 d2 : Option Addr) (o1 o2 : Array (Option Value)) (hz : xs.size = ys.size) :
    MeetsIn P w (Builtin.«list.__ne__» ⟨[.ref l, .ref b], []⟩)
      (fun A R s => s.heap.get? l = some { cls := .type "list", dict := d1, data := .seq xs n, slots := o1 } ∧ s.heap.get? b = some { cls := .type "list", dict := d2, data := .seq ys m, slots := o2 } ∧
        (∀ j (h1 : j < xs.size) (h2 : j < ys.size), EqIn P w A.in1 s xs[j] ys[j] true) ∧ R (.ok (.ret (.bool false))) s) := by
  intro A R s ⟨hl, hb, he, h⟩
  obtain ⟨hp, g, dd, tk, os⟩ := s
  have sub := AutoSeq1.sub_list_list
  have ne : ¬ (xs.size != ys.size) = true := by simp [hz]
  wp_walk using wpAny_loadPart' hl, wpAny_loadPart' hb
  refine ⟨plainId_quiet plain_eq_loop _, codeAny_builtin entry_eq_loop ?_⟩
  rw [Around.under_plainId plain_eq_loop _]
  exact bk_neLoop l b xs ys n m d1 d2 o1 o2 hz _ 0 rfl A R _ ⟨hl, hb, he, h⟩
theorem bk_neLists {A : Around} {s : Shared} {E Q : Value → Shared → Prop} {l b : Addr} {xs ys : Array Value} (hl : s.heap.IsList l xs) (hb : s.heap.IsList b ys) (hz : xs.size = ys.size) (hu : A.units < cLine)
    (he : ∀ j (h1 : j < xs.size) (h2 : j < ys.size), EqIn P w A.in1 s xs[j] ys[j] true) (h : Q (.bool false) s) : wpAny (model P w) A (richCompare .NotEq (.ref l) (.ref b)) Q E s := by
  obtain ⟨⟨c1, d1, a1, o1⟩, g1, e1, n, f1⟩ := id hl
  obtain ⟨⟨c2, d2, a2, o2⟩, g2, e2, m, f2⟩ := id hb
  simp only at e1 f1 e2 f2
  subst e1 f1 e2 f2
  exact wpAny_richCompare_same_room (T := "list") (op := .NotEq) ⟨_, g1, rfl⟩ ⟨_, g2, rfl⟩ F.slot_list_ne (call_meetsIn F.slot_list_ne ⟨_, g1, rfl⟩ F.entry_list_ne (F.args_list_ne_2 _ _) (bk_listNe l b xs ys n m d1 d2 o1 o2 hz)
    ⟨g1, g2, he, show Value.bool false ≠ Value.notImplemented ∧ Q (.bool false) s from ⟨(fun x => nomatch x), h⟩⟩) hu
end
end PySem.SeqAt
namespace Bk
open PySem PySem.Spec PyProof.Rows L2
section
variable {X : Cx}
/-- a != b, two lists whose items are equal -/
def rNeVT (K : PySem.W.Frag) : R2 := fun x y H Q => ∃ n a b xs ys, n ≤ 60 ∧ x = .ref a ∧ y = .ref b ∧ SqL K H a xs ∧ SqL K H b ys ∧ Paired (EqVT K H n) xs ys ∧ Q (.bl false) H
theorem op_neVT (hu : X.A.units + 64 < cLine) : OpR X (compareOp .NotEq) (rNeVT X.K) := by
  intro pins s σ H x y v u Q I rx ry h
  obtain ⟨n, a, b, xs, ys, hn, rfl, rfl, ha, hb, hp, q⟩ := h
  cases (show v = Value.ref a from rx)
  cases (show u = Value.ref b from ry)
  obtain ⟨us, r1, p1, _⟩ := I.list ha
  obtain ⟨ws, r2, p2, _⟩ := I.list hb
  have hsz : us.toArray.size = ws.toArray.size := by
    rw [List.size_toArray, List.size_toArray, ← r1.length, ← r2.length]
    exact Paired.length hp
  refine SeqAt.bk_neLists (P := X.prog) (w := X.w) p1.isList p2.isList hsz (by omega) (fun j h1 h2 => ?_) ⟨.bl false, H, I, rfl, q⟩
  have ih : ∀ x y v u, EqVT X.K H n x y → RelV x v → RelV y u → SeqAt.EqP X.prog X.w X.A.in1 s v u true := eqVT_run I n X.A.in1 (by show X.A.units + 1 + n < cLine; omega)
  have k := items_run ih hp r1 r2 j (by simpa using h1) (by simpa using h2)
  have k' : SeqAt.EqIn X.prog X.w X.A.in1 s us[j] ws[j] true := k
  simpa using k'
/-! ### x *= e, ints -/
def ipMul : TIp := fun x y H Q => ∃ i j, x = .int i ∧ y = .int j ∧ CMul i j ∧ Q (.int (i * j)) H
theorem ip_mul : PIp X .Mult ipMul := by
  intro pins s σ H x y v u Q I r1 r2 h
  obtain ⟨i, j, rfl, rfl, c, q⟩ := h
  obtain ⟨t, rfl⟩ := r1
  obtain ⟨t', rfl⟩ := r2
  exact imul_int ⟨.int _, H, I.tok _, ⟨_, rfl⟩, q⟩ c.ok
/-! ### a method that may raise, within a try -/
variable {CX : CXT} {k : Nat} {C f : Addr} {fd : FuncData} {ps : List Str} {sp : Sp} {E : L2.St → XK} {o : Expr} {m : Str} {apos pos : Pos} {ta : TE}
def tMethS (C : Addr) (m : Str) (sp : Sp) (E : L2.St → XK) (ta : TE) : TE := fun σ H Q => ta σ H fun x H1 => ∃ a dx fs, x = .ref a ∧ H1 a = some (.ins C dx fs) ∧ fs.lookup m = none ∧ sp [x] H1 Q (E σ)
theorem pe_meth0S {pl : Sem Bool} (he : PE X o ta) (c : Cls X.K C) (hm : Meth X.K C m f) (F : FnOk X.prog X.w X.K X.mg X.base CX k f fd ps sp) (hr : Room k X.A) (hb : Binds X.K fd ps []) (hx : ∀ σ, PassesAt CX X σ (E σ))
    (ht : eval (.Call (.Attribute o m apos) [] [] pos) X.env = (do
      let ov ← eval o X.env; standAt apos.atName; let (f, first) ← holding [ov] (getMethod ov m pl); callWith pos f first (backTo pos (starEach [] X.env)) (backToKw pos (keywordEach [] X.env))) := by rfl) :
    PE X (.Call (.Attribute o m apos) [] [] pos) (tMethS C m sp E ta) := by
  refine ⟨fun pins s σ H Q I h => ?_⟩
  refine PySem.W.methodCall_KW (pl := pl) (thn (he.run pins s σ H _ I h) fun u s1 hh => ?_) ht
  obtain ⟨x, H1, I1, rx, a, dx, fs, ex, ea, l, q⟩ := hh
  subst ex
  cases (show u = Value.ref a from rx)
  refine getmeth_ok I1 ea c hm l ?_
  exact PySem.W.callWith_K0 (first := [.ref a]) I1.kIn hm.kp (run_fnS (us := [.ref a]) (vs := [.ref a]) F hr hb (hx σ) I1 (.cons rfl .nil) q)
theorem g_methS {σ : L2.St} {H : Hp} {Q : VK} (h : ta σ H fun x H1 => ∃ a dx fs, x = .ref a ∧ H1 a = some (.ins C dx fs) ∧ fs.lookup m = none ∧ sp [x] H1 Q (E σ)) : tMethS C m sp E ta σ H Q := h
end
section
variable {σ : L2.St} {H : Hp} {Q : VK} {v : V}
theorem g_lockE {t : TE} (h : ∃ d u, H d = some u ∧ Mut (some u) ∧ ∀ od, t σ (upd H d (.frz od u)) fun v H' => H' d = some (.frz od u) ∧ Q v (upd H' d u)) : tLockE t σ H Q := h
theorem g_lc2 {wi : TI} {g : TG} {tt : TT} {wi1 : TI} {g1 : TG} {tt1 : TT} {te : TE} {vs vs1 : List Nat} (h : wi σ H fun J H1 => ∀ D, H1 D = none → ∃ W : Nat → Nat → Hp → Prop, (∃ m, W 0 m (upd H1 D (.lst []))) ∧ ∀ i m H, W i m H →
    (J.stop i H ∧ Q (.ref D) H) ∨ (J.go i H ∧ ∃ Nx : Hp → Prop, (∀ H', Nx H' → ∃ m', m' < m ∧ W (i + 1) m' H') ∧ ∀ x H', J.yld i H x H' → g x (wipe σ vs) H' fun σ2 H2 => wipe σ2 vs = wipe σ vs ∧ tt σ2 H2 fun b H3 =>
    if b = true then wi1 σ2 H3 fun J1 H4 => ∃ W1 : Nat → Nat → Hp → Prop, (∃ m, W1 0 m H4) ∧ ∀ j k H, W1 j k H →
      (J1.stop j H ∧ Nx H) ∨ (J1.go j H ∧ ∃ Nx1 : Hp → Prop, (∀ H', Nx1 H' → ∃ k', k' < k ∧ W1 (j + 1) k' H') ∧ ∀ x H', J1.yld j H x H' → g1 x (wipe σ2 vs1) H' fun σ3 H5 => wipe σ3 vs1 = wipe σ2 vs1 ∧ tt1 σ3 H5 fun b H6 =>
        if b = true then te σ3 H6 fun y H7 => ∃ acc, H7 D = some (.lst acc) ∧ acc.length < sizeLine ∧ Nx1 (upd H7 D (.lst (acc ++ [y]))) else Nx1 H6)
    else Nx H3)) : tLc2 wi g tt wi1 g1 tt1 te vs vs1 σ H Q := h
/-- the outer walk of a comprehension of two -/
theorem lc2_it {J : It} {n : Nat} {G : Hp → Prop} {Y : Nat → Hp → V → Hp → Prop} (w : Walk J n G Y) {H1 : Hp} {D : Addr} {Qd : Hp → Prop} {B : (Hp → Prop) → V → Hp → Prop} (Pv : Nat → Hp → Prop) (h0 : Pv 0 (upd H1 D (.lst []))) (hG : ∀ i H, i ≤ n → Pv i H → G H)
    (hs : ∀ i x H H', i < n → Pv i H → Y i H x H' → B (Pv (i + 1)) x H') (hd : ∀ H, Pv n H → Qd H) :
    ∃ W : Nat → Nat → Hp → Prop, (∃ m, W 0 m (upd H1 D (.lst []))) ∧ ∀ i m H, W i m H →
      (J.stop i H ∧ Qd H) ∨ (J.go i H ∧ ∃ Nx : Hp → Prop, (∀ H', Nx H' → ∃ m', m' < m ∧ W (i + 1) m' H') ∧ ∀ x H', J.yld i H x H' → B Nx x H') := by
  refine ⟨fun i m H => m = n - i ∧ (i ≤ n ∧ Pv i H), ⟨n - 0, rfl, Nat.zero_le _, h0⟩, fun i m H ⟨em, le, pv⟩ => ?_⟩
  have gg := hG i H le pv
  rcases Nat.lt_or_ge i n with lt | ge
  · exact .inr ⟨w.goes i H lt gg, Pv (i + 1), fun G' p' => ⟨n - (i + 1), by omega, rfl, lt, p'⟩, fun x G' y => hs i x H G' lt pv (w.yields i H x G' lt gg y)⟩
  · have e : i = n := Nat.le_antisymm le ge
    subst e
    exact .inl ⟨w.stops H gg, hd H pv⟩
/-- the inner walk -/
theorem lc2_in {J : It} {n : Nat} {G : Hp → Prop} {Y : Nat → Hp → V → Hp → Prop} (w : Walk J n G Y) {H1 : Hp} {Qd : Hp → Prop} {B : (Hp → Prop) → V → Hp → Prop} (Pv : Nat → Hp → Prop) (h0 : Pv 0 H1) (hG : ∀ i H, i ≤ n → Pv i H → G H)
    (hs : ∀ i x H H', i < n → Pv i H → Y i H x H' → B (Pv (i + 1)) x H') (hd : ∀ H, Pv n H → Qd H) :
    ∃ W : Nat → Nat → Hp → Prop, (∃ m, W 0 m H1) ∧ ∀ i m H, W i m H →
      (J.stop i H ∧ Qd H) ∨ (J.go i H ∧ ∃ Nx : Hp → Prop, (∀ H', Nx H' → ∃ m', m' < m ∧ W (i + 1) m' H') ∧ ∀ x H', J.yld i H x H' → B Nx x H') := by
  refine ⟨fun i m H => m = n - i ∧ (i ≤ n ∧ Pv i H), ⟨n - 0, rfl, Nat.zero_le _, h0⟩, fun i m H ⟨em, le, pv⟩ => ?_⟩
  have gg := hG i H le pv
  rcases Nat.lt_or_ge i n with lt | ge
  · exact .inr ⟨w.goes i H lt gg, Pv (i + 1), fun G' p' => ⟨n - (i + 1), by omega, rfl, lt, p'⟩, fun x G' y => hs i x H G' lt pv (w.yields i H x G' lt gg y)⟩
  · have e : i = n := Nat.le_antisymm le ge
    subst e
    exact .inl ⟨w.stops H gg, hd H pv⟩
end
end Bk
namespace Bk
open PySem PySem.Spec PyProof.Rows L2
section
variable {X : Cx}
/-- len of a list, a tuple or a dict -/
def rLenA (K : PySem.W.Frag) : List V → Hp → VK → Prop := fun xs H Q => (∃ p ys, xs = [.ref p] ∧ (SqL K H p ys ∨ SqT K H p ys) ∧ Q (.int ys.length) H) ∨ ∃ a kvs, xs = [V.ref a] ∧ H a = some (.dK kvs) ∧ Q (.int kvs.length) H
theorem call_lenA : CallR X (.builtin "len") (rLenA X.K) := by
  intro pins s σ H xs us Q I r h
  rcases h with h | h
  · exact call_len_seq pins s σ H xs us Q I r h
  · exact call_lenD pins s σ H xs us Q I r h
end
theorem use_isT {K : PySem.W.Frag} {H : Hp} {v : V} {t T : String} {b : Bool} {Q : VK} (ty : TyX K H v (.type t)) (hk : kitB t T = some b) (q : Q (.bl b) H) : rIsi K [v, .ty T] H Q := ⟨v, .ty T, _, _, b, rfl, .ty _, ty, kit_ty hk, q⟩
theorem ty_sql {K : PySem.W.Frag} {H : Hp} {a : Addr} {xs : List V} (h : SqL K H a xs) : TyX K H (.ref a) (.type "list") := by
  rcases h with (a | ⟨o, a⟩) | ⟨o, its, n, a, c, _⟩
  · exact .base (.lst a)
  · exact .base (.frz a)
  · exact .kList a c
theorem ty_sqt {K : PySem.W.Frag} {H : Hp} {a : Addr} {xs : List V} (h : SqT K H a xs) : TyX K H (.ref a) (.type "tuple") := by
  rcases h with (a | ⟨o, a⟩) | ⟨o, its, n, a, c, _⟩
  · exact .base (.tup a)
  · exact .fTuple a
  · exact .kTuple a c
end Bk

set_option maxHeartbeats 4000000
namespace Bk
open PySem PySem.Spec PyProof.Rows L2
local macro_rules
  | `(tactic| walk_at "go") => `(tactic| repeat (first
      | with_reducible refine g_seq ?_
      | with_reducible refine g_next ?_
      | with_reducible refine g_asg ?_
      | with_reducible refine g_name ?_
      | with_reducible refine g_ret ?_
      | with_reducible refine g_drop ?_
      | with_reducible refine g_ifs ?_
      | with_reducible refine g_if ?_
      | with_reducible refine g_c ?_
      | ((with_reducible refine (?_ : tVar _ _ _ _)); refine ⟨_, rfl, ?_⟩)
      | with_reducible refine g_op ?_
      | with_reducible refine g_un ?_
      | with_reducible refine g_I0 ?_
      | with_reducible refine g_neg ?_
      | with_reducible refine g_eqI ?_
      | with_reducible refine g_eqS ?_
      | with_reducible refine g_neI ?_
      | with_reducible refine g_neS ?_
      | with_reducible refine g_eqB ?_
      | with_reducible refine g_neB ?_
      | with_reducible refine g_test ?_
      | with_reducible refine g_b ?_
      | with_reducible refine g_and ?_
      | with_reducible refine g_or ?_
      | with_reducible refine g_not ?_
      | with_reducible refine g_andV ?_
      | with_reducible refine g_orV ?_
      | with_reducible refine g_notV ?_
      | with_reducible refine iteT ?_
      | with_reducible refine iteF ?_
      | with_reducible refine iteNF ?_
      | with_reducible refine iteNT ?_
      | with_reducible refine ⟨_, rfl, ?_⟩
      | with_reducible refine ⟨rfl, ?_⟩
      | with_reducible refine ⟨_, _, rfl, rfl, ?_⟩
      | with_reducible refine ⟨_, _, rfl, ?_⟩
      | with_reducible refine g_call ?_
      | with_reducible refine g_cb ?_
      | with_reducible refine g_cons ?_
      | with_reducible refine g_nil ?_
      | with_reducible refine g_chain ?_
      | with_reducible refine g_dget ?_
      | with_reducible refine g_dput ?_
      | with_reducible refine g_tup ?_
      | with_reducible refine g_lst ?_
      | with_reducible refine g_bm ?_
      | with_reducible refine g_disp ?_
      | with_reducible refine g_pairs0 ?_
      | with_reducible refine g_pairs ?_
      | with_reducible refine g_for ?_
      | with_reducible refine g_gcons ?_
      | with_reducible refine g_gnil ?_
      | with_reducible refine g_rng1 ?_
      | with_reducible refine g_rng2 ?_
      | with_reducible refine g_ilist ?_
      | with_reducible refine g_itup ?_
      | with_reducible refine g_lc ?_
      | with_reducible refine g_yes ?_
      | with_reducible refine g_sl ?_
      | with_reducible refine g_nopart ?_
      | with_reducible refine g_part ?_
      | with_reducible refine g_bm0 ?_
      ))

local macro_rules
  | `(tactic| walk_at "ev") => `(tactic| repeat' (first
      | exact eva_nil
      | apply eva_cons
      | exact evd_str _
      | exact evd_int _
      | exact evd_bl _
      | exact evd_non
      | exact evd_var rfl
      | apply evd_tup
      | apply evd_lst
      | apply evd_I0
      | apply evd_I
      | apply evd_neg
      | exact Nat.le_of_ble_eq_true rfl
      | decide
      | exact ⟨by decide, by decide, by decide⟩))
def topS (i : Nat) : Stmt := PySem.Challenge.pw_contractbook_k05_futures_in_order.main.body.getD i (.Pass ⟨0, 0, 0, 0⟩)
/-! ### the law's own drawing: what stands in the dict of the script -/
structure Cfg where
  sz : Int
  pl : Int
  tu : Int
  ta : Int
structure Cfg.Ok (c : Cfg) : Prop where
  sz1 : 1 ≤ c.sz
  sz8 : c.sz ≤ 8
  pl0 : 0 ≤ c.pl
  plz : c.pl < c.sz
  tu0 : 0 ≤ c.tu
  tuz : c.tu < 26
  ta : c.ta = 0 ∨ c.ta = 1
def sd (c : Cfg) (na nm : Addr) (n re mx : Int) : List (Key × V) :=
  [(.inr "numbers", .ref na), (.inr "at", .int n), (.inr "size", .int c.sz), (.inr "place", .int c.pl), (.inr "turn", .int c.tu), (.inr "talk", .int c.ta), (.inr "rest", .int re), (.inr "names", .ref nm), (.inr "mixed", .int mx)]
structure LS (K : PySem.W.Frag) (c : Cfg) (ns : List Int) (xs : List Str) (s na nm : Addr) (H : Hp) : Prop where
  st : ∃ n re mx : Int, H s = some (.dK (sd c na nm n re mx)) ∧ 0 ≤ n ∧ 0 ≤ re ∧ 0 ≤ mx ∧ mx < 2147483647
  num : SqL K H na (ns.map V.int)
  nms : SqL K H nm (xs.map V.str)
  ok : c.Ok
  len : ns.length ≤ 63
  few : xs.length ≤ 8
theorem LS.same {K : PySem.W.Frag} {c : Cfg} {ns : List Int} {xs : List Str} {s na nm : Addr} {H H' : Hp} (L : LS K c ns xs s na nm H) (e : Same H H') : LS K c ns xs s na nm H' := by
  obtain ⟨⟨n, re, mx, h, r⟩, h1, h2, h3, h4, h5⟩ := L
  exact ⟨⟨n, re, mx, e _ _ h, r⟩, e.seq h1, e.seq h2, h3, h4, h5⟩
theorem LS.put {K : PySem.W.Frag} {c : Cfg} {ns : List Int} {xs : List Str} {s na nm : Addr} {H : Hp} (L : LS K c ns xs s na nm H) {n re mx : Int} (h0 : 0 ≤ n) (h1 : 0 ≤ re) (h2 : 0 ≤ mx) (h3 : mx < 2147483647) :
    LS K c ns xs s na nm (upd H s (.dK (sd c na nm n re mx))) := by
  obtain ⟨⟨n', re', mx', h, r⟩, g1, g2, g3, g4, g5⟩ := L
  exact ⟨⟨n, re, mx, upd_same, h0, h1, h2, h3⟩, KB.seq KB.upd h g1, KB.seq KB.upd h g2, g3, g4, g5⟩
theorem LS.tm {K : PySem.W.Frag} {c : Cfg} {ns : List Int} {xs : List Str} {s na nm : Addr} {H H' : Hp} (L : LS K c ns xs s na nm H) (e : KB s H H') : TM K H H' := by
  obtain ⟨⟨n, re, mx, h, r⟩, _⟩ := L
  exact e.tm h
/-- a number is taken: 0 up to m -/
def spTaken (K : PySem.W.Frag) : Sp := fun vs H Q _ => ∃ (c : Cfg) (ns : List Int) (xs : List Str) (s na nm : Addr) (m : Int), vs = [.ref s, .int m] ∧ LS K c ns xs s na nm H ∧ 0 < m ∧ m ≤ 10000000000000 ∧
  ∀ (r : Int) (H' : Hp), 0 ≤ r → r < m → KB s H H' → LS K c ns xs s na nm H' → Q (.int r) H'
theorem use_taken {K : PySem.W.Frag} {c : Cfg} {ns : List Int} {xs : List Str} {s na nm : Addr} {m : Int} {H : Hp} {Q : VK} {E : XK} (L : LS K c ns xs s na nm H) (h0 : 0 < m) (h1 : m ≤ 10000000000000)
    (q : ∀ (r : Int) (H' : Hp), 0 ≤ r → r < m → KB s H H' → LS K c ns xs s na nm H' → Q (.int r) H') : spTaken K ([.ref s, .int m] ++ []) H Q E := ⟨c, ns, xs, s, na, nm, m, rfl, L, h0, h1, q⟩
theorem log_small {i m : Int} (h0 : 0 < m) (h1 : m ≤ 10000000000000) : CDivW i m := wide_div (b := 64) h0 (by omega) (by decide) (by decide)
section
variable {P : Program} {w : World} {K : PySem.W.Frag} {mg : Str → Option Value} {base : Heap}
abbrev s__law_taken : Stmt := topS 26
theorem sc__law_taken : FnScope ["_law_s", "_law_most", "_law_found", "_law_number_here"] ["_law_s", "_law_most"] (defScope s__law_taken) := ⟨rfl, rfl, rfl, by decide +kernel, rfl, by decide +kernel, by decide +kernel⟩
theorem h__law_taken {k : Nat} {f : Addr} {fd : FuncData} (O : Own K mg "_law_taken" s__law_taken ["_law_s", "_law_most"] f fd)  (m_len : mg "len" = none) (m_int : mg "int" = none) : Has P w K mg base "_law_taken" ["_law_s", "_law_most"] (k + 1) CX0 (spTaken K) f fd := by
  refine O.has (O.F.ok sc__law_taken (fun vs H Q E h => ?_) (fun cdv A outer s H vs Q E hr h => ?_))
  · obtain ⟨c, ns, xs, s, na, nm, m, rfl, _⟩ := h
    rfl
  obtain ⟨c, ns, xs, s, na, nm, m, rfl, L, h0, h1, q⟩ := h
  obtain ⟨n, re, mx, hs, g0, g1, g2, g3⟩ := L.st
  refine ⟨_, (pss_cons (ps_if (pt_cmpR op_gt (pe_dget (hu_of hr) (pv 0) pe_str (fun _ _ => rfl)) pe_int (nomark _)) (pss_cons (ps_set (i := 2) sc__law_taken.nd rfl (.inl rfl) (pe_op op_mod (pe_dget (hu_of hr) (pv 0) pe_str (fun _ _ => rfl)) (pv 1))) (pss_cons (ps_dput (hu_of hr) (pv 0) pe_str (pe_op op_fdivW (pe_dget (hu_of hr) (pv 0) pe_str (fun _ _ => rfl)) (pv 1)) (by rfl)) (pss_one (ps_ret (pv 2))))) pss_nil) (pss_cons (ps_dput (hu_of hr) (pv 0) pe_str (pe_op op_add (pe_dget (hu_of hr) (pv 0) pe_str (fun _ _ => rfl)) pe_int) (by rfl)) (pss_cons (ps_if (pt_cmpR op_le (pe_dget (hu_of hr) (pv 0) pe_str (fun _ _ => rfl)) (pe_callB call_len_seq (by rfl) m_len (by decide +kernel) (pa_cons (pe_dget (hu_of hr) (pv 0) pe_str (fun _ _ => rfl)) pa_nil)) (nomark _)) (pss_cons (ps_set (i := 3) sc__law_taken.nd rfl (.inl rfl) (pe_ix ix_list (pe_dget (hu_of hr) (pv 0) pe_str (fun _ _ => rfl)) (pe_op op_sub (pe_dget (hu_of hr) (pv 0) pe_str (fun _ _ => rfl)) pe_int) (fun _ _ => rfl))) (pss_cons (ps_dput (hu_of hr) (pv 0) pe_str (pe_op op_mul (pe_op op_fdivW (pv 3) (pv 1)) (pe_callTy call_int1 (by rfl) m_int (by decide +kernel) (pa_cons (pe_cmpR op_ge (pv 3) (pe_op op_pow pe_int pe_int) (nomark _)) pa_nil))) (by rfl)) (pss_one (ps_ret (pe_op op_mod (pv 3) (pv 1)))))) pss_nil) (pss_cons (ps_dput (hu_of hr) (pv 0) pe_str (pe_op op_mod (pe_op op_mul (pe_dget (hu_of hr) (pv 0) pe_str (fun _ _ => rfl)) pe_int) pe_int) (by rfl)) (pss_one (ps_ret (pe_ifExp (pt_cmpR op_gt (pv 1) (pe_op op_pow pe_int pe_int) (nomark _)) (pe_op op_mod (pe_op op_pow (pe_op op_fdivW (pe_dget (hu_of hr) (pv 0) pe_str (fun _ _ => rfl)) pe_int) pe_int) (pv 1)) (pe_op op_mod (pe_op op_fdivW (pe_dget (hu_of hr) (pv 0) pe_str (fun _ _ => rfl)) pe_int) (pv 1))))))))), ?_⟩
  walk_at "go"
  refine g_key hs (by rfl) ?_
  walk_at "go"
  refine ifd (fun c1 => ?_) (fun c1 => ?_)
  · walk_at "go"
    refine g_key hs (by rfl) ?_
    walk_at "go"
    refine g_I h0 ?_
    walk_at "go"
    refine g_key hs (by rfl) ?_
    walk_at "go"
    refine g_I (log_small h0 h1) ?_
    walk_at "go"
    refine g_put hs (by show 9 < sizeLine; decide) (by rfl) ?_
    walk_at "go"
    exact q _ _ (Int.emod_nonneg _ (by omega)) (Int.emod_lt_of_pos _ h0) KB.upd (L.put g0 (Int.ediv_nonneg g1 (by omega)) g2 g3)
  walk_at "go"
  refine g_key hs (by rfl) ?_
  walk_at "go"
  refine g_put hs (by show 9 < sizeLine; decide) (by rfl) ?_
  have L2 := L.put (n := n + 1) (re := re) (mx := mx) (by omega) g1 g2 g3
  have hs2 : (upd H s (.dK (sd c na nm (n + 1) re mx))) s = some (.dK (sd c na nm (n + 1) re mx)) := upd_same
  walk_at "go"
  refine g_key hs2 (by rfl) ?_
  walk_at "go"
  refine g_key hs2 (by rfl) ?_
  walk_at "go"
  refine ⟨_, _, rfl, .inl L2.num, ?_⟩
  walk_at "go"
  refine ifd (fun c2 => ?_) (fun c2 => ?_)
  · walk_at "go"
    refine g_key hs2 (by rfl) ?_
    walk_at "go"
    refine g_key hs2 (by rfl) ?_
    walk_at "go"
    rw [List.length_map] at c2
    have hk : n.toNat < ns.length := by omega
    refine ⟨_, _, _, .int ns[n.toNat], rfl, rfl, L2.num, at_of (j := n.toNat) (by omega) (by rw [List.getElem?_map, List.getElem?_eq_getElem hk]; rfl), ?_⟩
    generalize ns[n.toNat] = z
    walk_at "go"
    refine g_I (log_small h0 h1) ?_
    walk_at "go"
    refine g_I ⟨by decide, by decide, by decide⟩ ?_
    walk_at "go"
    refine .inr ⟨_, rfl, ?_⟩
    refine g_I (.inr (by split <;> decide)) ?_
    walk_at "go"
    refine g_put hs2 (by show 9 < sizeLine; decide) (by rfl) ?_
    walk_at "go"
    refine g_I h0 ?_
    rw [upd_upd]
    refine q _ _ (Int.emod_nonneg _ (by omega)) (Int.emod_lt_of_pos _ h0) KB.upd (L.put (by omega) ?_ g2 g3)
    by_cases hz : (10 : Int) ^ (18 : Int).toNat ≤ z
    · rw [decide_eq_true hz]
      have : 0 ≤ z := Int.le_trans (by decide) hz
      exact Int.mul_nonneg (Int.ediv_nonneg this (by omega)) (by decide)
    · rw [decide_eq_false hz]
      simp
  walk_at "go"
  refine g_key hs2 (by rfl) ?_
  walk_at "go"
  refine g_I (.inl (by omega)) ?_
  walk_at "go"
  refine g_I (by decide) ?_
  walk_at "go"
  refine g_put hs2 (by show 9 < sizeLine; decide) (by rfl) ?_
  rw [upd_upd]
  have b0 : 0 ≤ mx * 48271 % 2147483647 := Int.emod_nonneg _ (by decide)
  have b1 : mx * 48271 % 2147483647 < 2147483647 := Int.emod_lt_of_pos _ (by decide)
  generalize mx * 48271 % 2147483647 = my at b0 b1 ⊢
  have L3 := L.put (n := n + 1) (re := re) (mx := my) (by omega) g1 b0 b1
  have hs3 : (upd H s (.dK (sd c na nm (n + 1) re my))) s = some (.dK (sd c na nm (n + 1) re my)) := upd_same
  walk_at "go"
  refine g_I ⟨by decide, by decide, by decide⟩ ?_
  walk_at "go"
  refine ifd (fun c3 => ?_) (fun c3 => ?_)
  · walk_at "go"
    refine g_key hs3 (by rfl) ?_
    walk_at "go"
    refine g_I ⟨by decide, by decide⟩ ?_
    walk_at "go"
    refine g_I ⟨by decide, by decide, by omega⟩ ?_
    walk_at "go"
    refine g_I h0 ?_
    exact q _ _ (Int.emod_nonneg _ (by omega)) (Int.emod_lt_of_pos _ h0) KB.upd L3
  · walk_at "go"
    refine g_key hs3 (by rfl) ?_
    walk_at "go"
    refine g_I ⟨by decide, by decide⟩ ?_
    walk_at "go"
    refine g_I h0 ?_
    exact q _ _ (Int.emod_nonneg _ (by omega)) (Int.emod_lt_of_pos _ h0) KB.upd L3
end

/-! ### words, numbers -/
def wordsL : List Str := ["none", "give", "both", "turned", "later", "often", "if", "num", "read", "plus", "below", "all"]
def wd (c : Cfg) (k : Int) : Str := if c.ta = 1 ∧ k < 12 then wordsL.getD k.toNat "none" else rp 113 c.pl ++ ⟨#[97 + ((k + c.tu) % 26).toNat]⟩ ++ rp 113 (c.sz - c.pl - 1)
theorem letters_at : ∀ j : Fin 26, (Str.ofString "abcdefghijklmnopqrstuvwxyz").cps.toList[j.val]? = some (97 + j.val) := by decide +kernel
theorem app_len (a b : Str) : (a ++ b).length = a.length + b.length := by
  show (a.cps ++ b.cps).size = a.cps.size + b.cps.size
  simp
def spWord (K : PySem.W.Frag) : Sp := fun vs H Q _ => ∃ (c : Cfg) (ns : List Int) (xs : List Str) (s na nm : Addr) (k : Int), vs = [.ref s, .int k] ∧ LS K c ns xs s na nm H ∧ 0 ≤ k ∧ k ≤ 1000 ∧ ∀ H', Same H H' → Q (.str (wd c k)) H'
theorem use_word {K : PySem.W.Frag} {c : Cfg} {ns : List Int} {xs : List Str} {s na nm : Addr} {k : Int} {H : Hp} {Q : VK} {E : XK} (L : LS K c ns xs s na nm H) (h0 : 0 ≤ k) (h1 : k ≤ 1000) (q : ∀ H', Same H H' → Q (.str (wd c k)) H') :
    spWord K ([.ref s, .int k] ++ []) H Q E := ⟨c, ns, xs, s, na, nm, k, rfl, L, h0, h1, q⟩
def spNumber (K : PySem.W.Frag) : Sp := fun vs H Q _ => ∃ (c : Cfg) (ns : List Int) (xs : List Str) (s na nm : Addr), vs = [.ref s] ∧ LS K c ns xs s na nm H ∧
  ∀ (r : Int) (H' : Hp), -1000000000000 < r → r < 1000000000000 → KB s H H' → LS K c ns xs s na nm H' → Q (.int r) H'
theorem use_number {K : PySem.W.Frag} {c : Cfg} {ns : List Int} {xs : List Str} {s na nm : Addr} {H : Hp} {Q : VK} {E : XK} (L : LS K c ns xs s na nm H)
    (q : ∀ (r : Int) (H' : Hp), -1000000000000 < r → r < 1000000000000 → KB s H H' → LS K c ns xs s na nm H' → Q (.int r) H') : spNumber K ([.ref s] ++ []) H Q E := ⟨c, ns, xs, s, na, nm, rfl, L, q⟩
section
variable {P : Program} {w : World} {K : PySem.W.Frag} {mg : Str → Option Value} {base : Heap}
abbrev s__law_word : Stmt := topS 27
theorem sc__law_word : FnScope ["_law_s", "_law_k", "_law_words", "_law_sign"] ["_law_s", "_law_k"] (defScope s__law_word) := ⟨rfl, rfl, rfl, by decide +kernel, rfl, by decide +kernel, by decide +kernel⟩
theorem h__law_word {k : Nat} {f : Addr} {fd : FuncData} (O : Own K mg "_law_word" s__law_word ["_law_s", "_law_k"] f fd)  : Has P w K mg base "_law_word" ["_law_s", "_law_k"] (k + 1) CX0 (spWord K) f fd := by
  refine O.has (O.F.ok sc__law_word (fun vs H Q E h => ?_) (fun cdv A outer s H vs Q E hr h => ?_))
  · obtain ⟨c, ns, xs, s, na, nm, k, rfl, _⟩ := h
    rfl
  obtain ⟨c, ns, xs, s, na, nm, k, rfl, L, h0, h1, q⟩ := h
  obtain ⟨n, re, mx, hs, g0, g1, g2, g3⟩ := L.st
  have c0 := L.ok
  refine ⟨_, (pss_cons (ps_if (PW.pt (pw_and (pt_cmpR op_eq (pe_dget (hu_of hr) (pv 0) pe_str (fun _ _ => rfl)) pe_int (nomark _)) (pw_and1 (pt_cmpR op_lt (pv 1) pe_int (nomark _))))) (pss_cons (ps_set (i := 2) sc__law_word.nd rfl (.inl rfl) (pe_lst (pa_cons pe_str (pa_cons pe_str (pa_cons pe_str (pa_cons pe_str (pa_cons pe_str (pa_cons pe_str (pa_cons pe_str (pa_cons pe_str (pa_cons pe_str (pa_cons pe_str (pa_cons pe_str (pa_cons pe_str pa_nil)))))))))))))) (pss_one (ps_ret (pe_ix ix_list (pv 2) (pv 1) (fun _ _ => rfl))))) pss_nil) (pss_cons (ps_set (i := 3) sc__law_word.nd rfl (.inl rfl) (pe_ix ix_str pe_str (pe_op op_mod (pe_op op_add (pv 1) (pe_dget (hu_of hr) (pv 0) pe_str (fun _ _ => rfl))) pe_int) (fun _ _ => rfl))) (pss_one (ps_ret (pe_op op_add_str (pe_op op_add_str (pe_op op_rep_str pe_str (pe_dget (hu_of hr) (pv 0) pe_str (fun _ _ => rfl))) (pv 3)) (pe_op op_rep_str pe_str (pe_op op_sub (pe_op op_sub (pe_dget (hu_of hr) (pv 0) pe_str (fun _ _ => rfl)) (pe_dget (hu_of hr) (pv 0) pe_str (fun _ _ => rfl))) pe_int))))))), ?_⟩
  have tail : ∀ (H1 : Hp), Same H H1 → ¬ (c.ta = 1 ∧ k < 12) → Q (.str (rp 113 c.pl ++ ⟨#[97 + ((k + c.tu) % 26).toNat]⟩ ++ rp 113 (c.sz - c.pl - 1))) H1 := fun H1 e hc => by
    have z := q H1 e
    unfold wd at z
    rw [if_neg hc] at z
    exact z
  walk_at "go"
  refine g_key hs (by rfl) ?_
  walk_at "go"
  refine and_cut (k < 12) (fun hc => ?_) (fun c1 back => ?_)
  · walk_at "go"
    refine g_key hs (by rfl) ?_
    walk_at "go"
    refine g_I (by decide) ?_
    have b0 : 0 ≤ (k + c.tu) % 26 := Int.emod_nonneg _ (by decide)
    have b1 : (k + c.tu) % 26 < 26 := Int.emod_lt_of_pos _ (by decide)
    have bn : ((k + c.tu) % 26).toNat < 26 := by omega
    refine ⟨_, (k + c.tu) % 26, 97 + ((k + c.tu) % 26).toNat, rfl, rfl, by decide +kernel, at_any (j := ((k + c.tu) % 26).toNat) (by omega) (letters_at ⟨((k + c.tu) % 26).toNat, bn⟩), ?_⟩
    walk_at "go"
    refine g_key hs (by rfl) ?_
    have p0 := c0.pl0
    have p1 := c0.plz
    have p2 := c0.sz8
    refine ⟨113, c.pl, rfl, rfl, p0, by omega, ?_⟩
    walk_at "go"
    have e1 : (rp 113 c.pl).length ≤ 8 := by rw [rp_len]; omega
    have e2 : (⟨#[97 + ((k + c.tu) % 26).toNat]⟩ : Str).length = 1 := rfl
    have hz : (1000 : Nat) ≤ sizeLine := by decide
    refine ⟨by omega, ?_⟩
    walk_at "go"
    refine g_key hs (by rfl) ?_
    walk_at "go"
    refine g_key hs (by rfl) ?_
    walk_at "go"
    refine ⟨113, c.sz - c.pl - 1, rfl, rfl, by omega, by omega, ?_⟩
    have e3 : (rp 113 (c.sz - c.pl - 1)).length ≤ 8 := by rw [rp_len]; omega
    walk_at "go"
    refine ⟨?_, ?_⟩
    · rw [app_len]; omega
    · exact tail H (Same.refl H) hc
  · walk_at "go"
    refine ifd (fun c2 => ?_) back
    walk_at "go"
    refine ⟨by show 12 ≤ sizeLine; decide, fun p hp => ?_⟩
    walk_at "go"
    have hk : k.toNat < wordsL.length := by show k.toNat < 12; omega
    have hi : (wordsL.map V.str)[k.toNat]? = some (.str (wordsL.getD k.toNat "none")) := by
      rw [List.getElem?_map, List.getD, List.getElem?_eq_getElem hk]
      rfl
    refine ⟨_, wordsL.map V.str, _, _, rfl, rfl, sql upd_same, at_of (j := k.toNat) (by omega) hi, ?_⟩
    have z := q _ (same_new (o := .lst (wordsL.map V.str)) hp)
    unfold wd at z
    rw [if_pos ⟨c1, c2⟩] at z
    exact z
abbrev s__law_number : Stmt := topS 28
theorem sc__law_number : FnScope ["_law_s"] ["_law_s"] (defScope s__law_number) := ⟨rfl, rfl, rfl, by decide +kernel, rfl, by decide +kernel, by decide +kernel⟩
theorem h__law_number {k : Nat} {f : Addr} {fd : FuncData} (O : Own K mg "_law_number" s__law_number ["_law_s"] f fd)  {f__law_taken : Addr} {fd__law_taken : FuncData} (D__law_taken : Has P w K mg base "_law_taken" ["_law_s", "_law_most"] k CX0 (spTaken K) f__law_taken fd__law_taken) : Has P w K mg base "_law_number" ["_law_s"] (k + 1) CX0 (spNumber K) f fd := by
  refine O.has (O.F.ok sc__law_number (fun vs H Q E h => ?_) (fun cdv A outer s H vs Q E hr h => ?_))
  · obtain ⟨c, ns, xs, s, na, nm, rfl, _⟩ := h
    rfl
  obtain ⟨c, ns, xs, s, na, nm, rfl, L, q⟩ := h
  refine ⟨_, (pss_cons (ps_if (pt_cmpR op_eq (pe_call D__law_taken.G hr (by rfl) D__law_taken.g D__law_taken.k D__law_taken.b .nil pass0 (pa_cons (pv 0) (pa_cons pe_int pa_nil))) pe_int (nomark _)) (pss_one (ps_ret (pe_op op_add (pe_op op_sub (pe_call D__law_taken.G hr (by rfl) D__law_taken.g D__law_taken.k D__law_taken.b .nil pass0 (pa_cons (pv 0) (pa_cons (pe_op op_sub (pe_op op_mul pe_int (pe_op op_pow pe_int pe_int)) pe_int) pa_nil))) (pe_op op_pow pe_int pe_int)) pe_int))) pss_nil) (pss_one (ps_ret (pe_op op_sub (pe_call D__law_taken.G hr (by rfl) D__law_taken.g D__law_taken.k D__law_taken.b .nil pass0 (pa_cons (pv 0) (pa_cons pe_int pa_nil))) pe_int)))), ?_⟩
  walk_at "go"
  refine use_taken L (by decide) (by decide) fun r H1 a0 a1 e1 L1 => ?_
  walk_at "go"
  refine ifd (fun c1 => ?_) (fun c1 => ?_)
  · walk_at "go"
    refine g_I ⟨by decide, by decide, by decide⟩ ?_
    walk_at "go"
    refine g_I (.inl ⟨by decide, by decide⟩) ?_
    walk_at "go"
    refine use_taken L1 (by decide) (by decide) fun r2 H2 b0 b1 e2 L2 => ?_
    walk_at "go"
    refine g_I ⟨by decide, by decide, by decide⟩ ?_
    walk_at "go"
    have e : (10 : Int) ^ (12 : Int).toNat = 1000000000000 := by decide
    rw [e] at b1 ⊢
    exact q _ _ (by omega) (by omega) (e1.trans e2) L2
  · walk_at "go"
    refine use_taken L1 (by decide) (by decide) fun r2 H2 b0 b1 e2 L2 => ?_
    walk_at "go"
    exact q _ _ (by omega) (by omega) (e1.trans e2) L2
end

/-! ### words are words, and differ -/
def isW (x : Str) : Bool := decide (1 ≤ x.length) && (decide (x.length ≤ 8) && x.cps.toList.all fun c => decide (97 ≤ c) && decide (c ≤ 122))
theorem wd_codes {c : Cfg} {k : Int} (h : ¬ (c.ta = 1 ∧ k < 12)) : (wd c k).cps.toList = List.replicate c.pl.toNat 113 ++ (97 + ((k + c.tu) % 26).toNat) :: List.replicate (c.sz - c.pl - 1).toNat 113 := by
  unfold wd
  rw [if_neg h]
  show ((rp 113 c.pl).cps ++ #[97 + ((k + c.tu) % 26).toNat] ++ (rp 113 (c.sz - c.pl - 1)).cps).toList = _
  simp [rp]
theorem talk_words : ∀ i : Fin 12, isW (wordsL.getD i.val "none") = true := by decide +kernel
theorem talk_ne : ∀ i j : Fin 12, wordsL.getD i.val "none" = wordsL.getD j.val "none" → i = j := by decide +kernel
theorem wd_word {c : Cfg} (ok : c.Ok) {k : Int} (h0 : 0 ≤ k) : isW (wd c k) = true := by
  by_cases h : c.ta = 1 ∧ k < 12
  · unfold wd
    rw [if_pos h]
    exact talk_words ⟨k.toNat, by omega⟩
  · have e := wd_codes h
    have h1 := ok.pl0
    have h2 := ok.plz
    have h3 := ok.sz8
    have l : (wd c k).length = c.pl.toNat + (1 + (c.sz - c.pl - 1).toNat) := by
      show (wd c k).cps.size = _
      rw [← Array.length_toList, e]
      simp
      omega
    unfold isW
    rw [l, e]
    have b0 : 0 ≤ (k + c.tu) % 26 := Int.emod_nonneg _ (by decide)
    have b1 : (k + c.tu) % 26 < 26 := Int.emod_lt_of_pos _ (by decide)
    simp only [Bool.and_eq_true, decide_eq_true_eq, List.all_eq_true, List.mem_append, List.mem_cons, List.mem_replicate]
    refine ⟨by omega, by omega, fun x hx => ?_⟩
    rcases hx with hx | hx | hx <;> omega
theorem wd_ne {c : Cfg} (ok : c.Ok) {i j : Int} (h0 : 0 ≤ i) (h1 : i < 12) (h2 : 0 ≤ j) (h3 : j < 12) (h : i ≠ j) : wd c i ≠ wd c j := fun e => by
  by_cases ht : c.ta = 1
  · have e1 : wd c i = wordsL.getD i.toNat "none" := by unfold wd; rw [if_pos ⟨ht, h1⟩]
    have e2 : wd c j = wordsL.getD j.toNat "none" := by unfold wd; rw [if_pos ⟨ht, h3⟩]
    rw [e1, e2] at e
    have := talk_ne ⟨i.toNat, by omega⟩ ⟨j.toNat, by omega⟩ e
    have := congrArg Fin.val this
    simp at this
    omega
  · have q := congrArg (fun z : Str => z.cps.toList) e
    simp only [wd_codes (fun z => ht z.1)] at q
    have q2 := List.append_cancel_left q
    have q3 := (List.cons.inj q2).1
    omega
theorem isW_short {x : Str} (h : isW x = true) : szOk (.str x) = true := by
  unfold isW at h
  simp only [Bool.and_eq_true, decide_eq_true_eq] at h
  show decide (x.length ≤ 1000) = true
  exact decide_eq_true (by omega)

/-! ### the drawing's beginning -/
def spBegun (K : PySem.W.Frag) : Sp := fun vs H Q _ => ∃ (ns : List Int) (na : Addr), vs = [.ref na] ∧ SqL K H na (ns.map V.int) ∧ ns.length ≤ 63 ∧
  ∀ (c : Cfg) (s nm : Addr) (H' : Hp), Same H H' → H s = none → LS K c ns [] s na nm H' → Q (.ref s) H'
theorem use_begun {K : PySem.W.Frag} {ns : List Int} {na : Addr} {H : Hp} {Q : VK} {E : XK} (h : SqL K H na (ns.map V.int)) (hl : ns.length ≤ 63)
    (q : ∀ (c : Cfg) (s nm : Addr) (H' : Hp), Same H H' → H s = none → LS K c ns [] s na nm H' → Q (.ref s) H') : spBegun K ([.ref na] ++ []) H Q E := ⟨ns, na, rfl, h, hl, q⟩
def sd0 (na : Addr) : List (Key × V) :=
  [(.inr "numbers", .ref na), (.inr "at", .int 0), (.inr "size", .int 1), (.inr "place", .int 0), (.inr "turn", .int 0), (.inr "talk", .int 0), (.inr "rest", .int 0)]
def cfg0 : Cfg := ⟨1, 0, 0, 0⟩
theorem cfg0_ok : cfg0.Ok := ⟨by decide, by decide, by decide, by decide, by decide, by decide, .inl rfl⟩
/-- a number of the dict is set anew -/
theorem LS.cfg {K : PySem.W.Frag} {c c' : Cfg} {ns : List Int} {xs : List Str} {s na nm : Addr} {H : Hp} {n re mx : Int} (L : LS K c ns xs s na nm H) (h0 : 0 ≤ n) (h1 : 0 ≤ re) (h2 : 0 ≤ mx) (h3 : mx < 2147483647) (ok : c'.Ok) :
    LS K c' ns xs s na nm (upd H s (.dK (sd c' na nm n re mx))) := by
  obtain ⟨⟨n', re', mx', h, r⟩, g1, g2, g3, g4, g5⟩ := L
  exact ⟨⟨n, re, mx, upd_same, h0, h1, h2, h3⟩, KB.seq KB.upd h g1, KB.seq KB.upd h g2, ok, g4, g5⟩
theorem same_kb {s : Addr} {H H1 H2 : Hp} (a : Same H H1) (n : H s = none) (b : KB s H1 H2) : Same H H2 := fun x o h => b x o (ne_of_none h n) (a x o h)
section
variable {P : Program} {w : World} {K : PySem.W.Frag} {mg : Str → Option Value} {base : Heap}
abbrev s__law_begun : Stmt := topS 25
theorem sc__law_begun : FnScope ["_law_script", "_law_mixed", "_law_cell", "_law_s"] ["_law_script"] (defScope s__law_begun) := ⟨rfl, rfl, rfl, by decide +kernel, rfl, by decide +kernel, by decide +kernel⟩
theorem h__law_begun {k : Nat} {f : Addr} {fd : FuncData} (O : Own K mg "_law_begun" s__law_begun ["_law_script"] f fd)  {f__law_taken : Addr} {fd__law_taken : FuncData} (D__law_taken : Has P w K mg base "_law_taken" ["_law_s", "_law_most"] k CX0 (spTaken K) f__law_taken fd__law_taken) (m_int : mg "int" = none) (m_len : mg "len" = none) : Has P w K mg base "_law_begun" ["_law_script"] (k + 1) CX0 (spBegun K) f fd := by
  refine O.has (O.F.ok sc__law_begun (fun vs H Q E h => ?_) (fun cdv A outer s H vs Q E hr h => ?_))
  · obtain ⟨ns, na, rfl, _⟩ := h
    rfl
  obtain ⟨ns, na, rfl, hS, h63, q⟩ := h
  refine ⟨_, (pss_cons (ps_set (i := 1) sc__law_begun.nd rfl (.inl rfl) pe_int) (pss_cons (ps_for PassesOwn.never rfl (pi_list (pv 0)) (pg_name (i := 2) sc__law_begun.nd rfl (.inl rfl)) (pss_one (ps_set (i := 1) sc__law_begun.nd rfl (.inl rfl) (pe_op op_mod (pe_op op_add (pe_op op_add (pe_op op_mul (pv 1) pe_int) (pe_op op_mul (pv 2) pe_int)) pe_int) pe_int)))) (pss_cons (ps_set (i := 3) sc__law_begun.nd rfl (.inl rfl) (pe_disp (pps_cons pe_str (pv 0) (pps_cons pe_str pe_int (pps_cons pe_str pe_int (pps_cons pe_str pe_int (pps_cons pe_str pe_int (pps_cons pe_str pe_int (pps_cons pe_str pe_int pps_nil))))))) (by rfl) (by rfl) (fun z => by cases z) (by decide))) (pss_cons (ps_dput (hu_of hr) (pv 3) pe_str (pe_lst pa_nil) (by rfl)) (pss_cons (ps_dput (hu_of hr) (pv 3) pe_str (pe_op op_mul (pv 1) (pe_callTy call_int1 (by rfl) m_int (by decide +kernel) (pa_cons (pe_cmpR op_gt (pe_callB call_len_seq (by rfl) m_len (by decide +kernel) (pa_cons (pv 0) pa_nil)) pe_int (nomark _)) pa_nil))) (by rfl)) (pss_cons (ps_dput (hu_of hr) (pv 3) pe_str (pe_op op_add pe_int (pe_call D__law_taken.G hr (by rfl) D__law_taken.g D__law_taken.k D__law_taken.b .nil pass0 (pa_cons (pv 3) (pa_cons pe_int pa_nil)))) (by rfl)) (pss_cons (ps_dput (hu_of hr) (pv 3) pe_str (pe_call D__law_taken.G hr (by rfl) D__law_taken.g D__law_taken.k D__law_taken.b .nil pass0 (pa_cons (pv 3) (pa_cons (pe_dget (hu_of hr) (pv 3) pe_str (fun _ _ => rfl)) pa_nil))) (by rfl)) (pss_cons (ps_dput (hu_of hr) (pv 3) pe_str (pe_call D__law_taken.G hr (by rfl) D__law_taken.g D__law_taken.k D__law_taken.b .nil pass0 (pa_cons (pv 3) (pa_cons pe_int pa_nil))) (by rfl)) (pss_cons (ps_dput (hu_of hr) (pv 3) pe_str (pe_callTy call_int1 (by rfl) m_int (by decide +kernel) (pa_cons (pe_cmpR op_eq (pe_call D__law_taken.G hr (by rfl) D__law_taken.g D__law_taken.k D__law_taken.b .nil pass0 (pa_cons (pv 3) (pa_cons pe_int pa_nil))) pe_int (nomark _)) pa_nil)) (by rfl)) (pss_one (ps_ret (pv 3)))))))))))), ?_⟩
  walk_at "go"
  refine ⟨⟨_, hS⟩, for_list (xs := ns.map V.int) (fun i σ H3 => H3 = H ∧ ∃ (m : Int) (y : Option V), σ = [some (.ref na), some (.int m), y, none] ∧ 0 ≤ m ∧ m < 2147483647)
    ⟨rfl, 0, none, rfl, by decide, by decide⟩ (fun i σ H3 hi hW => ?_) (fun i x σ H3 hx hW => ?_) (fun σ H3 hW => ?_)⟩
  · obtain ⟨rfl, _⟩ := hW
    exact hS
  · obtain ⟨rfl, m, y, rfl, m0, m1⟩ := hW
    rw [List.getElem?_map] at hx
    obtain ⟨z, hz, rfl⟩ := Option.map_eq_some_iff.mp hx
    walk_at "go"
    refine g_I (.inl (by omega)) ?_
    walk_at "go"
    refine g_I (.inr (by decide)) ?_
    walk_at "go"
    refine g_I (by decide) ?_
    walk_at "go"
    exact ⟨Int.emod_nonneg _ (by decide), Int.emod_lt_of_pos _ (by decide)⟩
  obtain ⟨rfl, m, y, rfl, m0, m1⟩ := hW
  walk_at "go"
  intro s nsn
  walk_at "go"
  refine ⟨upd_same, sd0 na, rfl, by show 7 ≤ 15; decide, ?_⟩
  rw [upd_upd]
  have s1 := same_new (o := .dK (sd0 na)) nsn
  have hs1 : (upd H3 s (.dK (sd0 na))) s = some (.dK (sd0 na)) := upd_same
  show _
  walk_at "go"
  refine ⟨by show 0 ≤ sizeLine; decide, fun nm nn => ?_⟩
  walk_at "go"
  have s2 := same_new (o := .lst []) nn
  have hsn : s ≠ nm := ne_of_none hs1 nn
  refine g_put (s2 _ _ hs1) (by show 7 < sizeLine; decide) (by rfl) ?_
  walk_at "go"
  refine ⟨_, _, rfl, .inl (KB.seq KB.upd (s2 _ _ hs1) ((s1.trans s2).seq hS)), ?_⟩
  walk_at "go"
  refine .inr ⟨_, rfl, ?_⟩
  refine g_I (.inl (by omega)) ?_
  walk_at "go"
  refine g_put upd_same (by show 8 < sizeLine; decide) (by rfl) ?_
  rw [upd_upd]
  have hmx : 0 ≤ m * (if decide (2 < (((ns.map V.int).length : Nat) : Int)) = true then 1 else 0) ∧ m * (if decide (2 < (((ns.map V.int).length : Nat) : Int)) = true then 1 else 0) < 2147483647 := by
    split <;> omega
  generalize m * (if decide (2 < (((ns.map V.int).length : Nat) : Int)) = true then 1 else 0) = mx at hmx ⊢
  have L1 : LS K cfg0 ns [] s na nm (upd (upd (upd H3 s (.dK (sd0 na))) nm (.lst [])) s (.dK (sd cfg0 na nm 0 0 mx))) :=
    ⟨⟨0, 0, mx, upd_same, by decide, by decide, hmx.1, hmx.2⟩, KB.seq KB.upd (s2 _ _ hs1) ((s1.trans s2).seq hS), sql (by rw [upd_ne hsn.symm]; exact upd_same), cfg0_ok, h63, by decide⟩
  have e1 : Same H3 (upd (upd (upd H3 s (.dK (sd0 na))) nm (.lst [])) s (.dK (sd cfg0 na nm 0 0 mx))) := same_kb (s1.trans s2) nsn KB.upd
  show tSeq _ _ _ _ (upd (upd (upd H3 s (.dK (sd0 na))) nm (.lst [])) s (.dK (sd cfg0 na nm 0 0 mx)))
  generalize upd (upd (upd H3 s (.dK (sd0 na))) nm (.lst [])) s (.dK (sd cfg0 na nm 0 0 mx)) = H4 at L1 e1 ⊢
  -- size
  walk_at "go"
  refine use_taken L1 (by decide) (by decide) fun a H5 a0 a1 e5 L5 => ?_
  walk_at "go"
  obtain ⟨n5, re5, mx5, hs5, g0, g1, g2, g3⟩ := L5.st
  refine g_put hs5 (by show 9 < sizeLine; decide) (by rfl) ?_
  have L6 := L5.cfg (c' := ⟨1 + a, 0, 0, 0⟩) g0 g1 g2 g3 ⟨by show 1 ≤ 1 + a; omega, by show 1 + a ≤ 8; omega, Int.le_refl 0, by show 0 < 1 + a; omega, Int.le_refl 0, (by decide : (0 : Int) < 26), .inl rfl⟩
  have hs6 : upd H5 s (.dK (sd ⟨1 + a, 0, 0, 0⟩ na nm n5 re5 mx5)) s = some (.dK (sd ⟨1 + a, 0, 0, 0⟩ na nm n5 re5 mx5)) := upd_same
  have e6 : KB s H4 (upd H5 s (.dK (sd ⟨1 + a, 0, 0, 0⟩ na nm n5 re5 mx5))) := e5.trans KB.upd
  -- place
  walk_at "go"
  refine g_key hs6 (by rfl) ?_
  walk_at "go"
  refine use_taken L6 (by show 0 < 1 + a; omega) (by show 1 + a ≤ 10000000000000; omega) fun b H7 b0 b1 e7 L7 => ?_
  walk_at "go"
  obtain ⟨n7, re7, mx7, hs7, i0, i1, i2, i3⟩ := L7.st
  refine g_put hs7 (by show 9 < sizeLine; decide) (by rfl) ?_
  have L8 := L7.cfg (c' := ⟨1 + a, b, 0, 0⟩) i0 i1 i2 i3 ⟨by show 1 ≤ 1 + a; omega, by show 1 + a ≤ 8; omega, b0, b1, Int.le_refl 0, (by decide : (0 : Int) < 26), .inl rfl⟩
  -- turn
  walk_at "go"
  refine use_taken L8 (by decide) (by decide) fun t H9 t0 t1 e9 L9 => ?_
  walk_at "go"
  obtain ⟨n9, re9, mx9, hs9, j0, j1, j2, j3⟩ := L9.st
  refine g_put hs9 (by show 9 < sizeLine; decide) (by rfl) ?_
  have L10 := L9.cfg (c' := ⟨1 + a, b, t, 0⟩) j0 j1 j2 j3 ⟨by show 1 ≤ 1 + a; omega, by show 1 + a ≤ 8; omega, b0, b1, t0, t1, .inl rfl⟩
  -- talk
  walk_at "go"
  refine use_taken L10 (by decide) (by decide) fun u H11 u0 u1 e11 L11 => ?_
  walk_at "go"
  refine .inr ⟨_, rfl, ?_⟩
  walk_at "go"
  obtain ⟨n11, re11, mx11, hs11, k0, k1, k2, k3⟩ := L11.st
  refine g_put hs11 (by show 9 < sizeLine; decide) (by rfl) ?_
  have L12 := L11.cfg (c' := ⟨1 + a, b, t, if decide (u = 8) = true then 1 else 0⟩) k0 k1 k2 k3 ⟨by show 1 ≤ 1 + a; omega, by show 1 + a ≤ 8; omega, b0, b1, t0, t1, by
    show (if decide (u = 8) = true then (1 : Int) else 0) = 0 ∨ (if decide (u = 8) = true then (1 : Int) else 0) = 1
    split
    · exact .inr rfl
    · exact .inl rfl⟩
  walk_at "go"
  refine q _ s nm _ (same_kb e1 nsn ?_) nsn L12
  exact ((((((e6.trans e7).trans KB.upd).trans e9).trans KB.upd).trans e11).trans KB.upd)
end

/-! ### words and whole numbers -/
def isWh : PyData → Bool
  | .int _ => true
  | _ => false
def spIsWord (K : PySem.W.Frag) (PT : Addr) : Sp := fun vs H Q _ => ∃ (v : V) (d : PyData), vs = [v] ∧ Dp K H v d ∧ szOk d = true ∧ GxR.TabG H PT ∧ ∀ H', Tb PT H H' → Q (.bl (isW' d)) H'
def spWhole (K : PySem.W.Frag) : Sp := fun vs H Q _ => ∃ (v : V) (d : PyData), vs = [v] ∧ Dp K H v d ∧ Q (.bl (isWh d)) H
def spBetween (K : PySem.W.Frag) : Sp := fun vs H Q _ => ∃ (v : V) (d : PyData) (lo hi : Int), vs = [v, .int lo, .int hi] ∧ Dp K H v d ∧ Q (.bl (inB lo hi d)) H
def spAmount (K : PySem.W.Frag) : Sp := fun vs H Q _ => ∃ (v : V) (d : PyData), vs = [v] ∧ Dp K H v d ∧ Q (.bl (inB (-999999999999) 999999999999 d)) H
theorem in_letters (c : Nat) : decide (c ∈ (Str.ofString "abcdefghijklmnopqrstuvwxyz").cps.toList) = (decide (97 ≤ c) && decide (c ≤ 122)) := by
  have e : (Str.ofString "abcdefghijklmnopqrstuvwxyz").cps.toList = (List.range 26).map (97 + ·) := by decide +kernel
  rw [e, Bool.eq_iff_iff]
  simp only [decide_eq_true_eq, List.mem_map, List.mem_range, Bool.and_eq_true]
  constructor
  · rintro ⟨i, h, rfl⟩
    omega
  · intro h
    exact ⟨c - 97, by omega, by omega⟩
theorem use_whole {K : PySem.W.Frag} {H : Hp} {v : V} {d : PyData} {Q : VK} {E : XK} (h : Dp K H v d) (q : Q (.bl (isWh d)) H) : spWhole K ([v] ++ []) H Q E := ⟨v, d, rfl, h, q⟩
theorem use_isWord {K : PySem.W.Frag} {PT : Addr} {H : Hp} {v : V} {d : PyData} {Q : VK} {E : XK} (h : Dp K H v d) (z : szOk d = true) (t : GxR.TabG H PT) (q : ∀ H', Tb PT H H' → Q (.bl (isW' d)) H') : spIsWord K PT ([v] ++ []) H Q E := ⟨v, d, rfl, h, z, t, q⟩
theorem use_between {K : PySem.W.Frag} {H : Hp} {v : V} {d : PyData} {lo hi : Int} {Q : VK} {E : XK} (h : Dp K H v d) (q : Q (.bl (inB lo hi d)) H) : spBetween K ([v, .int lo, .int hi] ++ []) H Q E := ⟨v, d, lo, hi, rfl, h, q⟩
theorem use_amount {K : PySem.W.Frag} {H : Hp} {v : V} {d : PyData} {Q : VK} {E : XK} (h : Dp K H v d) (q : Q (.bl (inB (-999999999999) 999999999999 d)) H) : spAmount K ([v] ++ []) H Q E := ⟨v, d, rfl, h, q⟩
theorem thousand : (1000 : Nat) ≤ sizeLine := by decide
section
variable {P : Program} {w : World} {K : PySem.W.Frag} {mg : Str → Option Value} {base : Heap}
abbrev s_is_word : Stmt := topS 11
theorem sc_is_word : FnScope ["told"] ["told"] (defScope s_is_word) := ⟨rfl, rfl, rfl, by decide +kernel, rfl, by decide +kernel, by decide +kernel⟩
theorem h_is_word {cT PT : Addr} (tb : GxR.TabB base mg cT PT) {k : Nat} {f : Addr} {fd : FuncData} (O : OwnC cT K mg "is_word" s_is_word ["told"] f fd)  (m_all : mg "all" = none) {t_LETTERS : Tok} (m_LETTERS : mg "LETTERS" = some (.str "abcdefghijklmnopqrstuvwxyz" t_LETTERS)) (m_len : mg "len" = none) {t_LONGEST_WORD : Tok} (m_LONGEST_WORD : mg "LONGEST_WORD" = some (.int 8 t_LONGEST_WORD)) (m_isinstance : mg "isinstance" = none) (m_str : mg "str" = none) : Has P w K mg base "is_word" ["told"] (k + 1) CX0 (spIsWord K PT) f fd := by
  refine O.has (O.F.ok sc_is_word (fun vs H Q E h => ?_) (fun A outer s H vs Q E hr h => ?_))
  · obtain ⟨v, d, rfl, _⟩ := h
    rfl
  obtain ⟨v, d, rfl, hd, hz, ht, q⟩ := h
  refine ⟨_, (pss_cons (ps_if (PW.pt (pw_or (pt_not (pt_val (pe_callB call_isi (by rfl) m_isinstance (by decide +kernel) (pa_cons (pv 0) (pa_cons (pe_bltn (v := .ty "str") (by rfl) m_str (by decide +kernel) rfl) pa_nil))))) (pw_or1 (pt_not (pt_chain op_le op_le pe_int (pe_callB call_len_str (by rfl) m_len (by decide +kernel) (pa_cons (pv 0) pa_nil)) (pe_glob (v := .int (8)) (by rfl) m_LONGEST_WORD ⟨_, rfl⟩)))))) (pss_one (ps_ret pe_bl)) pss_nil) (pss_one (ps_ret (pe_allG hr rfl m_all (by decide +kernel) tb rfl ⟨rfl, rfl, by decide +kernel, rfl, rfl, fun y hy hf => absurd hf ((by decide +kernel : ∀ z ∈ _, z.2 ≠ NameKind.free) y hy)⟩ (pv 0) (elm_in rfl rfl rfl m_LETTERS) (fun _ => rfl))))), ?_⟩
  walk_at "go"
  refine use_isStr hd ?_
  cases hd with
  | str x =>
    have e : ∀ H', Tb PT H H' → isW' (.str x) = false → Q (.bl false) H' := fun H' t e => by
      have z := q H' t
      rw [e] at z
      exact z
    have hz : x.length ≤ 1000 := of_decide_eq_true hz
    dsimp only [isStr]
    walk_at "go"
    refine ⟨Nat.le_trans hz thousand, ?_⟩
    walk_at "go"
    refine ifd (fun c => ?_) (fun c => ?_)
    · walk_at "go"
      refine ifdn (fun c2 => ?_) (fun c2 => ?_)
      · walk_at "go"
        refine ⟨_, rfl, x, rfl, ht, fun H2 t => ?_⟩
        have z := q H2 (.grown t)
        have e : (fun c => decide (c ∈ (Str.ofString "abcdefghijklmnopqrstuvwxyz").cps.toList)) = fun c => decide (97 ≤ c) && decide (c ≤ 122) := funext in_letters
        rw [e]
        have e1 : isW' (.str x) = (x.cps.toList.all fun c => decide (97 ≤ c) && decide (c ≤ 122)) := by
          dsimp only [isW']
          rw [decide_eq_true (show 1 ≤ x.length by omega), decide_eq_true (show x.length ≤ 8 by omega)]
          rfl
        rw [e1] at z
        exact z
      · walk_at "go"
        refine e _ (.refl ht) ?_
        dsimp only [isW']
        rw [decide_eq_false (show ¬ x.length ≤ 8 by omega)]
        simp
    · walk_at "go"
      refine e _ (.refl ht) ?_
      dsimp only [isW']
      rw [decide_eq_false (show ¬ 1 ≤ x.length by omega)]
      rfl
  | _ =>
    dsimp only [isStr]
    walk_at "go"
    exact q _ (.refl ht)
abbrev s_is_whole : Stmt := topS 12
theorem sc_is_whole : FnScope ["told"] ["told"] (defScope s_is_whole) := ⟨rfl, rfl, rfl, by decide +kernel, rfl, by decide +kernel, by decide +kernel⟩
theorem h_is_whole {k : Nat} {f : Addr} {fd : FuncData} (O : Own K mg "is_whole" s_is_whole ["told"] f fd)  (m_isinstance : mg "isinstance" = none) (m_bool : mg "bool" = none) (m_int : mg "int" = none) : Has P w K mg base "is_whole" ["told"] (k + 1) CX0 (spWhole K) f fd := by
  refine O.has (O.F.ok sc_is_whole (fun vs H Q E h => ?_) (fun cdv A outer s H vs Q E hr h => ?_))
  · obtain ⟨v, d, rfl, _⟩ := h
    rfl
  obtain ⟨v, d, rfl, hd, q⟩ := h
  refine ⟨_, (pss_one (ps_ret (pe_and (pe_callB call_isi (by rfl) m_isinstance (by decide +kernel) (pa_cons (pv 0) (pa_cons (pe_bltn (v := .ty "int") (by rfl) m_int (by decide +kernel) rfl) pa_nil))) (pe_one (pe_not (pe_callB call_isi (by rfl) m_isinstance (by decide +kernel) (pa_cons (pv 0) (pa_cons (pe_bltn (v := .ty "bool") (by rfl) m_bool (by decide +kernel) rfl) pa_nil)))))))), ?_⟩
  walk_at "go"
  refine use_isInt hd ?_
  refine ⟨_, rfl, ?_⟩
  cases hd with
  | int i =>
    dsimp only [isInt]
    refine iteT ?_
    walk_at "go"
    refine use_isBool (.int i) ?_
    walk_at "go"
    exact q
  | bl i =>
    dsimp only [isInt]
    refine iteT ?_
    walk_at "go"
    refine use_isBool (.bl i) ?_
    walk_at "go"
    exact q
  | _ =>
    dsimp only [isInt]
    walk_at "go"
    exact q
abbrev s_is_between : Stmt := topS 13
theorem sc_is_between : FnScope ["told", "low", "high"] ["told", "low", "high"] (defScope s_is_between) := ⟨rfl, rfl, rfl, by decide +kernel, rfl, by decide +kernel, by decide +kernel⟩
theorem h_is_between {k : Nat} {f : Addr} {fd : FuncData} (O : Own K mg "is_between" s_is_between ["told", "low", "high"] f fd)  {f_is_whole : Addr} {fd_is_whole : FuncData} (D_is_whole : Has P w K mg base "is_whole" ["told"] k CX0 (spWhole K) f_is_whole fd_is_whole) : Has P w K mg base "is_between" ["told", "low", "high"] (k + 1) CX0 (spBetween K) f fd := by
  refine O.has (O.F.ok sc_is_between (fun vs H Q E h => ?_) (fun cdv A outer s H vs Q E hr h => ?_))
  · obtain ⟨v, d, lo, hi, rfl, _⟩ := h
    rfl
  obtain ⟨v, d, lo, hi, rfl, hd, q⟩ := h
  refine ⟨_, (pss_one (ps_ret (pe_and (pe_call D_is_whole.G hr (by rfl) D_is_whole.g D_is_whole.k D_is_whole.b .nil pass0 (pa_cons (pv 0) pa_nil)) (pe_one (pe_chain op_le op_le (pv 1) (pv 0) (pv 2)))))), ?_⟩
  walk_at "go"
  refine use_whole hd ?_
  refine ⟨_, rfl, ?_⟩
  cases hd with
  | int i =>
    have e : inB lo hi (.int i) = (decide (lo ≤ i) && decide (i ≤ hi)) := rfl
    rw [e] at q
    dsimp only [isWh]
    refine iteT ?_
    walk_at "go"
    refine ifd (fun c => ?_) (fun c => ?_)
    · rw [decide_eq_true c] at q
      walk_at "go"
      exact q
    · rw [decide_eq_false c] at q
      exact q
  | _ =>
    dsimp only [isWh]
    refine iteF ?_
    exact q
abbrev s_is_amount : Stmt := topS 14
theorem sc_is_amount : FnScope ["told"] ["told"] (defScope s_is_amount) := ⟨rfl, rfl, rfl, by decide +kernel, rfl, by decide +kernel, by decide +kernel⟩
theorem h_is_amount {k : Nat} {f : Addr} {fd : FuncData} (O : Own K mg "is_amount" s_is_amount ["told"] f fd)  {f_is_whole : Addr} {fd_is_whole : FuncData} (D_is_whole : Has P w K mg base "is_whole" ["told"] k CX0 (spWhole K) f_is_whole fd_is_whole) {t_TOO_LARGE : Tok} (m_TOO_LARGE : mg "TOO_LARGE" = some (.int 1000000000000 t_TOO_LARGE)) : Has P w K mg base "is_amount" ["told"] (k + 1) CX0 (spAmount K) f fd := by
  refine O.has (O.F.ok sc_is_amount (fun vs H Q E h => ?_) (fun cdv A outer s H vs Q E hr h => ?_))
  · obtain ⟨v, d, rfl, _⟩ := h
    rfl
  obtain ⟨v, d, rfl, hd, q⟩ := h
  refine ⟨_, (pss_one (ps_ret (pe_and (pe_call D_is_whole.G hr (by rfl) D_is_whole.g D_is_whole.k D_is_whole.b .nil pass0 (pa_cons (pv 0) pa_nil)) (pe_one (pe_chain op_lt op_lt (pe_un un_neg (pe_glob (v := .int (1000000000000)) (by rfl) m_TOO_LARGE ⟨_, rfl⟩)) (pv 0) (pe_glob (v := .int (1000000000000)) (by rfl) m_TOO_LARGE ⟨_, rfl⟩)))))), ?_⟩
  walk_at "go"
  refine use_whole hd ?_
  refine ⟨_, rfl, ?_⟩
  cases hd with
  | int i =>
    have e : inB (-999999999999) 999999999999 (.int i) = (decide (-1000000000000 < i) && decide (i < 1000000000000)) := by
      unfold inB
      rw [Bool.eq_iff_iff]
      simp only [Bool.and_eq_true, decide_eq_true_eq]
      omega
    rw [e] at q
    dsimp only [isWh]
    refine iteT ?_
    walk_at "go"
    refine ifd (fun c => ?_) (fun c => ?_)
    · have c : -1000000000000 < i := c
      rw [decide_eq_true c] at q
      walk_at "go"
      exact q
    · have c : ¬ -1000000000000 < i := c
      rw [decide_eq_false c] at q
      exact q
  | _ =>
    dsimp only [isWh]
    refine iteF ?_
    exact q
end

/-! ### what a market is -/
def amt (d : PyData) : Bool := inB (-999999999999) 999999999999 d
def okStep : PyData → Bool
  | .tuple [a, b] => amt a && inB 1 999 b
  | _ => false
def byOf : PyData → Int
  | .tuple (.int i :: _) => i
  | _ => 0
def okSteps : PyData → Bool
  | .list ds => decide (1 ≤ ds.length) && (decide (ds.length ≤ 4) && (ds.all okStep && decide (ds.map byOf).Nodup))
  | _ => false
def wordOf : PyData → Str
  | .tuple (.str x :: _) => x
  | _ => Str.empty
def okName : PyData → Bool
  | .tuple [n, b, s] => isW' n && (amt b && okSteps s)
  | _ => false
def okNames : PyData → Bool
  | .list ds => decide (ds.length ≤ 3) && (ds.all okName && decide (ds.map wordOf).Nodup)
  | _ => false
def okMk (l n : PyData) : Bool := inB 0 12 l && okNames n
theorem okStep_tup {d : PyData} (h : okStep d = true) : ∃ i b, d = .tuple [.int i, b] := by
  unfold okStep at h
  split at h
  · rename_i a b
    rw [Bool.and_eq_true] at h
    cases a with
    | int i => exact ⟨i, b, rfl⟩
    | _ => cases h.1
  · cases h
theorem isW_str {d : PyData} (h : isW' d = true) : ∃ x, d = .str x := by
  cases d with
  | str x => exact ⟨x, rfl⟩
  | _ => cases h
theorem okName_tup {d : PyData} (h : okName d = true) : ∃ x b s, d = .tuple [.str x, b, s] ∧ okSteps s = true := by
  unfold okName at h
  split at h
  · rename_i a b s
    rw [Bool.and_eq_true, Bool.and_eq_true] at h
    obtain ⟨x, rfl⟩ := isW_str h.1
    exact ⟨x, b, s, rfl, h.2.2⟩
  · cases h
theorem okSteps_lst {d : PyData} (h : okSteps d = true) : ∃ ds, d = .list ds ∧ ds.length ≤ 4 := by
  unfold okSteps at h
  split at h
  · rename_i ds
    simp only [Bool.and_eq_true, decide_eq_true_eq] at h
    exact ⟨ds, rfl, h.2.1⟩
  · cases h
theorem all_take {f : PyData → Bool} {ds : List PyData} {i : Nat} {d : PyData} (h : ds[i]? = some d) (ok : f d = true) (al : (ds.take i).all f = true) : (ds.take (i + 1)).all f = true := by
  rw [List.take_add_one, h, List.all_append, al]
  simp [ok]
theorem all_no {f : PyData → Bool} {ds : List PyData} {i : Nat} {d : PyData} (h : ds[i]? = some d) (no : f d = false) : ds.all f = false := by
  cases e : ds.all f with
  | false => rfl
  | true => rw [List.all_eq_true.mp e d (List.mem_of_getElem? h)] at no; cases no
def spNSteps (K : PySem.W.Frag) (C : Addr) : Sp := fun vs H Q E => ∃ (v : V) (d : PyData), vs = [v] ∧ Dp K H v d ∧ (okSteps d = true → ∀ H', Same H H' → Q .non H') ∧ (okSteps d = false → ∀ H', Same H H' → E (.ref C) none H')
theorem use_nsteps {K : PySem.W.Frag} {C : Addr} {v : V} {d : PyData} {H : Hp} {Q : VK} {E : XK} (h : Dp K H v d) (q0 : okSteps d = true → ∀ H', Same H H' → Q .non H') (q1 : okSteps d = false → ∀ H', Same H H' → E (.ref C) none H') : spNSteps K C ([v] ++ []) H Q E := ⟨v, d, rfl, h, q0, q1⟩
theorem g_lenU {K : PySem.W.Frag} {ta : TE} {σ : L2.St} {H : Hp} {Q : VK} (h : ta σ H fun x H1 => ∃ l, x = .ref l ∧
  ((∃ ns : List Int, SqL K H1 l (ns.map V.int) ∧ ns.length ≤ 4000 ∧ BkS.Unlike ns fun v => Q v H1) ∨ (∃ xs : List Str, SqL K H1 l (xs.map V.str) ∧ xs.length ≤ 4000 ∧ BkS.Unlike xs fun v => Q v H1))) : BkS.tLenU K ta σ H Q := h
section
variable {P : Program} {w : World} {K : PySem.W.Frag} {mg : Str → Option Value} {base : Heap}
abbrev s__need_steps : Stmt := topS 23
theorem sc__need_steps : FnScope ["steps", "told", "number", "weight"] ["steps"] (defScope s__need_steps) := ⟨rfl, rfl, rfl, by decide +kernel, rfl, by decide +kernel, by decide +kernel⟩
theorem h__need_steps {k : Nat} {f : Addr} {fd : FuncData} (O : Own K mg "_need_steps" s__need_steps ["steps"] f fd) {C_BadMarket : Addr} (X_BadMarket : ExcT K mg "BadMarket" C_BadMarket)  {f_is_between : Addr} {fd_is_between : FuncData} (D_is_between : Has P w K mg base "is_between" ["told", "low", "high"] k CX0 (spBetween K) f_is_between fd_is_between) {f_is_amount : Addr} {fd_is_amount : FuncData} (D_is_amount : Has P w K mg base "is_amount" ["told"] k CX0 (spAmount K) f_is_amount fd_is_amount) (m_len : mg "len" = none) (m_set : mg "set" = none) {t_MOST_WEIGHT : Tok} (m_MOST_WEIGHT : mg "MOST_WEIGHT" = some (.int 999 t_MOST_WEIGHT)) (m_isinstance : mg "isinstance" = none) (m_tuple : mg "tuple" = none) {t_MOST_STEPS : Tok} (m_MOST_STEPS : mg "MOST_STEPS" = some (.int 4 t_MOST_STEPS)) (m_list : mg "list" = none) : Has P w K mg base "_need_steps" ["steps"] (k + 1) (L2.CX P w) (spNSteps K C_BadMarket) f fd := by
  refine O.has (O.F.okX sc__need_steps (fun vs H Q E h => ?_) (fun cdv A outer s H vs Q E hr h => ?_))
  · obtain ⟨v, d, rfl, _⟩ := h
    rfl
  obtain ⟨v, d, rfl, hd, q0, q1⟩ := h
  refine ⟨_, (pss_cons (ps_if (PW.pt (pw_or (pt_not (pt_val (pe_callB call_isi (by rfl) m_isinstance (by decide +kernel) (pa_cons (pv 0) (pa_cons (pe_bltn (v := .ty "list") (by rfl) m_list (by decide +kernel) rfl) pa_nil))))) (pw_or1 (pt_not (pt_chain op_le op_le pe_int (pe_callB call_len_seq (by rfl) m_len (by decide +kernel) (pa_cons (pv 0) pa_nil)) (pe_glob (v := .int (4)) (by rfl) m_MOST_STEPS ⟨_, rfl⟩)))))) (pss_one (ps_raise rfl (takes_of rfl rfl rfl rfl) (pmk_own PySem.F.excBase_ValueError X_BadMarket.x X_BadMarket.g X_BadMarket.k (raises_own X_BadMarket.s X_BadMarket.t) rfl))) pss_nil) (pss_cons (ps_for (passes_of rfl) rfl (pi_list (pv 0)) (pg_name (i := 1) sc__need_steps.nd rfl (.inl rfl)) (pss_cons (ps_if (PW.pt (pw_or (pt_not (pt_val (pe_callB call_isi (by rfl) m_isinstance (by decide +kernel) (pa_cons (pv 1) (pa_cons (pe_bltn (v := .ty "tuple") (by rfl) m_tuple (by decide +kernel) rfl) pa_nil))))) (pw_or1 (pt_cmpR op_ne (pe_callB call_len_seq (by rfl) m_len (by decide +kernel) (pa_cons (pv 1) pa_nil)) pe_int (nomark _))))) (pss_one (ps_raise rfl (takes_of rfl rfl rfl rfl) (pmk_own PySem.F.excBase_ValueError X_BadMarket.x X_BadMarket.g X_BadMarket.k (raises_own X_BadMarket.s X_BadMarket.t) rfl))) pss_nil) (pss_cons (ps_asg (pv 1) (pg_tup rfl (pgs_cons (pg_name (i := 2) sc__need_steps.nd rfl (.inl rfl)) (pgs_cons (pg_name (i := 3) sc__need_steps.nd rfl (.inl rfl)) pgs_nil)))) (pss_one (ps_if (PW.pt (pw_or (pt_not (pt_val (pe_call D_is_amount.G hr (by rfl) D_is_amount.g D_is_amount.k D_is_amount.b .nil pass0 (pa_cons (pv 2) pa_nil)))) (pw_or1 (pt_not (pt_val (pe_call D_is_between.G hr (by rfl) D_is_between.g D_is_between.k D_is_between.b .nil pass0 (pa_cons (pv 3) (pa_cons pe_int (pa_cons (pe_glob (v := .int (999)) (by rfl) m_MOST_WEIGHT ⟨_, rfl⟩) pa_nil))))))))) (pss_one (ps_raise rfl (takes_of rfl rfl rfl rfl) (pmk_own PySem.F.excBase_ValueError X_BadMarket.x X_BadMarket.g X_BadMarket.k (raises_own X_BadMarket.s X_BadMarket.t) rfl))) pss_nil))))) (pss_one (ps_if (pt_cmpR op_lt (BkS.pe_lenU rfl (by rfl) m_len (by rfl) m_set (pe_lc (own := [("told", 1)]) (g := gName 1) rfl sc__need_steps.nd (pi_list (pv 0)) (blkOk_by (own := [("told", 1)]) (N := ["steps", "told", "number", "weight"]) (sc := defScope s__need_steps) (by decide +kernel)) (fun _ _ _ _ _ => pg_name (i := 1) sc__need_steps.nd rfl (.inl rfl)) (fun _ _ _ _ _ => pts_nil) (fun _ _ _ _ _ => (pe_ix (r := rIxT K) ix_tup (pv 1) pe_int (fun _ _ => rfl))))) (pe_callB call_len_seq (by rfl) m_len (by decide +kernel) (pa_cons (pv 0) pa_nil)) (nomark _)) (pss_one (ps_raise rfl (takes_of rfl rfl rfl rfl) (pmk_own PySem.F.excBase_ValueError X_BadMarket.x X_BadMarket.g X_BadMarket.k (raises_own X_BadMarket.s X_BadMarket.t) rfl))) pss_nil)))), ?_⟩
  walk_at "go"
  refine use_isLst hd ?_
  cases hd with
  | @lst a vs ds ha hall =>
    dsimp only [isLst]
    have hlen := DpAll.len hall
    have bad : ∀ {H'}, okSteps (.list ds) = false → Same H H' → E (.ref C_BadMarket) none H' := fun e s => q1 e _ s
    refine ⟨_, rfl, iteNT ?_⟩
    walk_at "go"
    refine ⟨_, _, rfl, .inl ha, ?_⟩
    walk_at "go"
    refine ifd (fun c1 => ?_) (fun c1 => ?_)
    · walk_at "go"
      refine ifdn (fun c2 => ?_) (fun c2 => ?_)
      · walk_at "go"
        refine ⟨⟨_, ha⟩, for_list (xs := vs) (fun i σ H2 => ∃ y1 y2 y3, σ = [some (.ref a), y1, y2, y3] ∧ Same H H2 ∧ (ds.take i).all okStep = true) ⟨_, _, _, rfl, .refl _, rfl⟩ (fun i σ H2 _ h => by
          obtain ⟨_, _, _, _, s2, _⟩ := h
          exact s2.seq ha) (fun i x σ H2 hx h => ?_) (fun σ H2 h => ?_)⟩
        · obtain ⟨y1, y2, y3, rfl, s2, al⟩ := h
          have hi : i < ds.length := by have := (List.getElem?_eq_some_iff.mp hx).1; omega
          have hdi : ds[i]? = some ds[i] := List.getElem?_eq_getElem hi
          obtain ⟨x', hx', hD⟩ := DpAll.at hall hdi
          obtain rfl : x' = x := Option.some.inj (hx'.symm.trans hx)
          have no : okStep ds[i] = false → okSteps (.list ds) = false := fun e => by
            dsimp only [okSteps]
            rw [all_no hdi e]
            simp
          have yes := fun e => all_take (f := okStep) hdi e al
          generalize ds[i] = di at hD no yes
          replace hD := Dp.dm (.of s2) hD
          walk_at "go"
          refine use_isTup hD ?_
          cases hD with
          | @tup b us es hb he =>
            dsimp only [isTup]
            refine ⟨_, rfl, iteNT ?_⟩
            walk_at "go"
            refine ⟨_, _, rfl, .inr hb, ?_⟩
            walk_at "go"
            have le := DpAll.len he
            refine ifdn (fun c3 => ?_) (fun c3 => ?_)
            · obtain ⟨n, m, rfl⟩ : ∃ n m, us = [n, m] := by
                match us, (show us.length = 2 by have := c3; omega) with
                | [n, m], _ => exact ⟨n, m, rfl⟩
              cases he with
              | @cons _ _ d1 _ h1 he =>
              cases he with
              | @cons _ _ d2 _ h2 he =>
              cases he
              walk_at "go"
              refine g_gtup hb rfl ?_
              walk_at "go"
              refine use_amount h1 ?_
              walk_at "go"
              have e1 : okStep (.tuple [d1, d2]) = (amt d1 && inB 1 999 d2) := rfl
              refine ifn (fun c4 => ?_) (fun c4 => ?_)
              · walk_at "go"
                refine use_between h2 ?_
                walk_at "go"
                refine ifn (fun c5 => ?_) (fun c5 => ?_)
                · walk_at "go"
                  exact ⟨_, _, _, rfl, s2, yes (by rw [e1, c5]; unfold amt; rw [c4]; rfl)⟩
                · walk_at "go"
                  exact bad (no (by rw [e1, c5]; simp)) s2
              · walk_at "go"
                exact bad (no (by rw [e1]; unfold amt; rw [c4]; rfl)) s2
            · walk_at "go"
              refine bad (no ?_) s2
              unfold okStep
              split
              · rename_i u v e
                obtain rfl : es = [u, v] := by injection e
                exact absurd (show (us.length : Int) = 2 by rw [le]; rfl) c3
              · rfl
          | _ =>
            dsimp only [isTup]
            walk_at "go"
            exact bad (no rfl) s2
        · obtain ⟨y1, y2, y3, rfl, s2, al⟩ := h
          rw [hlen, List.take_length] at al
          walk_at "go"
          refine g_lenU ?_
          walk_at "go"
          refine ⟨⟨_, s2.seq ha⟩, fun D nD => lc_list (xs := vs) (Comp H2 D (fun j y H' => ∃ d, ds[j]? = some d ∧ y = .int (byOf d))) (.start nD) (fun i H' _ c => (s2.trans c.e).seq ha) (fun i x H' hx c => ?_) (fun H' c => ?_)⟩
          · have hi : i < ds.length := by have := (List.getElem?_eq_some_iff.mp hx).1; omega
            have hdi : ds[i]? = some ds[i] := List.getElem?_eq_getElem hi
            obtain ⟨x', hx', hD⟩ := DpAll.at hall hdi
            obtain rfl : x' = x := Option.some.inj (hx'.symm.trans hx)
            obtain ⟨n, b, ed⟩ := okStep_tup (List.all_eq_true.mp al _ (List.getElem_mem hi))
            rw [ed] at hdi hD
            replace hD := Dp.dm (.of (s2.trans c.e)) hD
            cases hD with
            | @tup b us es hb he =>
            cases he with
            | @cons _ _ d1 _ h1 he =>
            cases h1
            walk_at "go"
            refine ⟨_, _, _, _, rfl, rfl, hb, at_any (j := 0) rfl rfl, ?_⟩
            exact c.next (fun j y Ha Hb h _ => h) (.refl _) (by omega) ⟨_, hdi, rfl⟩
          · obtain ⟨e3, _, ys, hy, ly, ry⟩ := c
            have ey : ys = (ds.map byOf).map V.int := List.ext_getElem? fun j => by
              rcases Nat.lt_or_ge j ys.length with lt | ge
              · obtain ⟨d, hd1, e⟩ := ry j _ (List.getElem?_eq_getElem lt)
                rw [List.getElem?_eq_getElem lt, e, List.getElem?_map, List.getElem?_map, hd1]
                rfl
              · rw [List.getElem?_eq_none ge, List.getElem?_eq_none (by simp; omega)]
            rw [ey] at hy
            have s4 := s2.trans e3
            refine ⟨_, rfl, .inl ⟨ds.map byOf, sql hy, by rw [List.length_map]; omega, fun m u1 u2 => ?_⟩⟩
            rw [List.length_map] at u1 u2
            walk_at "go"
            refine ⟨_, _, rfl, .inl (s4.seq ha), ?_⟩
            walk_at "go"
            have okd : okSteps (.list ds) = decide (ds.map byOf).Nodup := by
              dsimp only [okSteps]
              rw [decide_eq_true (show 1 ≤ ds.length by omega), decide_eq_true (show ds.length ≤ 4 by omega), al]
              rfl
            by_cases nd : (ds.map byOf).Nodup
            · refine ifd (fun c6 => ?_) (fun c6 => ?_)
              · have := u1 nd
                omega
              · walk_at "go"
                exact q0 (by rw [okd]; exact decide_eq_true nd) _ s4
            · refine ifd (fun c6 => ?_) (fun c6 => ?_)
              · walk_at "go"
                exact bad (by rw [okd]; exact decide_eq_false nd) s4
              · have := u2 nd
                omega
      · walk_at "go"
        refine bad ?_ (.refl _)
        dsimp only [okSteps]
        rw [decide_eq_false (show ¬ ds.length ≤ 4 by omega)]
        simp
    · walk_at "go"
      refine bad ?_ (.refl _)
      dsimp only [okSteps]
      rw [decide_eq_false (show ¬ 1 ≤ ds.length by omega)]
      rfl
  | _ =>
    dsimp only [isLst]
    walk_at "go"
    exact q1 rfl _ (.refl _)
end
def spNNames (K : PySem.W.Frag) (C PT : Addr) : Sp := fun vs H Q E => ∃ (v : V) (d : PyData), vs = [v] ∧ Dp K H v d ∧ szOk d = true ∧ GxR.TabG H PT ∧ (okNames d = true → ∀ H', Tb PT H H' → Q .non H') ∧ (okNames d = false → ∀ H', Tb PT H H' → E (.ref C) none H')
theorem use_nnames {K : PySem.W.Frag} {C PT : Addr} {v : V} {d : PyData} {H : Hp} {Q : VK} {E : XK} (h : Dp K H v d) (z : szOk d = true) (t : GxR.TabG H PT) (q0 : okNames d = true → ∀ H', Tb PT H H' → Q .non H') (q1 : okNames d = false → ∀ H', Tb PT H H' → E (.ref C) none H') :
    spNNames K C PT ([v] ++ []) H Q E := ⟨v, d, rfl, h, z, t, q0, q1⟩
section
variable {P : Program} {w : World} {K : PySem.W.Frag} {mg : Str → Option Value} {base : Heap}
abbrev s__need_names : Stmt := topS 22
theorem sc__need_names : FnScope ["names", "told", "name", "number", "steps"] ["names"] (defScope s__need_names) := ⟨rfl, rfl, rfl, by decide +kernel, rfl, by decide +kernel, by decide +kernel⟩
theorem h__need_names {PT : Addr} {k : Nat} {f : Addr} {fd : FuncData} (O : Own K mg "_need_names" s__need_names ["names"] f fd) {C_BadMarket : Addr} (X_BadMarket : ExcT K mg "BadMarket" C_BadMarket)  {f__need_steps : Addr} {fd__need_steps : FuncData} (D__need_steps : Has P w K mg base "_need_steps" ["steps"] k (L2.CX P w) (spNSteps K C_BadMarket) f__need_steps fd__need_steps) {f_is_amount : Addr} {fd_is_amount : FuncData} (D_is_amount : Has P w K mg base "is_amount" ["told"] k CX0 (spAmount K) f_is_amount fd_is_amount) {f_is_word : Addr} {fd_is_word : FuncData} (D_is_word : Has P w K mg base "is_word" ["told"] k CX0 (spIsWord K PT) f_is_word fd_is_word) (m_len : mg "len" = none) (m_set : mg "set" = none) (m_isinstance : mg "isinstance" = none) (m_tuple : mg "tuple" = none) {t_MOST_NAMES : Tok} (m_MOST_NAMES : mg "MOST_NAMES" = some (.int 3 t_MOST_NAMES)) (m_list : mg "list" = none) : Has P w K mg base "_need_names" ["names"] (k + 1) (L2.CX P w) (spNNames K C_BadMarket PT) f fd := by
  refine O.has (O.F.okX sc__need_names (fun vs H Q E h => ?_) (fun cdv A outer s H vs Q E hr h => ?_))
  · obtain ⟨v, d, rfl, _⟩ := h
    rfl
  obtain ⟨v, d, rfl, hd, hz, ht, q0, q1⟩ := h
  refine ⟨_, (pss_cons (ps_if (PW.pt (pw_or (pt_not (pt_val (pe_callB call_isi (by rfl) m_isinstance (by decide +kernel) (pa_cons (pv 0) (pa_cons (pe_bltn (v := .ty "list") (by rfl) m_list (by decide +kernel) rfl) pa_nil))))) (pw_or1 (pt_cmpR op_gt (pe_callB call_len_seq (by rfl) m_len (by decide +kernel) (pa_cons (pv 0) pa_nil)) (pe_glob (v := .int (3)) (by rfl) m_MOST_NAMES ⟨_, rfl⟩) (nomark _))))) (pss_one (ps_raise rfl (takes_of rfl rfl rfl rfl) (pmk_own PySem.F.excBase_ValueError X_BadMarket.x X_BadMarket.g X_BadMarket.k (raises_own X_BadMarket.s X_BadMarket.t) rfl))) pss_nil) (pss_cons (ps_for (passes_of rfl) rfl (pi_list (pv 0)) (pg_name (i := 1) sc__need_names.nd rfl (.inl rfl)) (pss_cons (ps_if (PW.pt (pw_or (pt_not (pt_val (pe_callB call_isi (by rfl) m_isinstance (by decide +kernel) (pa_cons (pv 1) (pa_cons (pe_bltn (v := .ty "tuple") (by rfl) m_tuple (by decide +kernel) rfl) pa_nil))))) (pw_or1 (pt_cmpR op_ne (pe_callB call_len_seq (by rfl) m_len (by decide +kernel) (pa_cons (pv 1) pa_nil)) pe_int (nomark _))))) (pss_one (ps_raise rfl (takes_of rfl rfl rfl rfl) (pmk_own PySem.F.excBase_ValueError X_BadMarket.x X_BadMarket.g X_BadMarket.k (raises_own X_BadMarket.s X_BadMarket.t) rfl))) pss_nil) (pss_cons (ps_asg (pv 1) (pg_tup rfl (pgs_cons (pg_name (i := 2) sc__need_names.nd rfl (.inl rfl)) (pgs_cons (pg_name (i := 3) sc__need_names.nd rfl (.inl rfl)) (pgs_cons (pg_name (i := 4) sc__need_names.nd rfl (.inl rfl)) pgs_nil))))) (pss_cons (ps_if (PW.pt (pw_or (pt_not (pt_val (pe_call D_is_word.G hr (by rfl) D_is_word.g D_is_word.k D_is_word.b .nil pass0 (pa_cons (pv 2) pa_nil)))) (pw_or1 (pt_not (pt_val (pe_call D_is_amount.G hr (by rfl) D_is_amount.g D_is_amount.k D_is_amount.b .nil pass0 (pa_cons (pv 3) pa_nil))))))) (pss_one (ps_raise rfl (takes_of rfl rfl rfl rfl) (pmk_own PySem.F.excBase_ValueError X_BadMarket.x X_BadMarket.g X_BadMarket.k (raises_own X_BadMarket.s X_BadMarket.t) rfl))) pss_nil) (pss_one (ps_expr (pe_call D__need_steps.G hr (by rfl) D__need_steps.g D__need_steps.k D__need_steps.b .nil (passes_call (takes_of rfl rfl rfl rfl) (fun _ _ _ _ h => h)) (pa_cons (pv 4) pa_nil)))))))) (pss_one (ps_if (pt_cmpR op_lt (BkS.pe_lenU rfl (by rfl) m_len (by rfl) m_set (pe_lc (own := [("told", 1)]) (g := gName 1) rfl sc__need_names.nd (pi_list (pv 0)) (blkOk_by (own := [("told", 1)]) (N := ["names", "told", "name", "number", "steps"]) (sc := defScope s__need_names) (by decide +kernel)) (fun _ _ _ _ _ => pg_name (i := 1) sc__need_names.nd rfl (.inl rfl)) (fun _ _ _ _ _ => pts_nil) (fun _ _ _ _ _ => (pe_ix (r := rIxT K) ix_tup (pv 1) pe_int (fun _ _ => rfl))))) (pe_callB call_len_seq (by rfl) m_len (by decide +kernel) (pa_cons (pv 0) pa_nil)) (nomark _)) (pss_one (ps_raise rfl (takes_of rfl rfl rfl rfl) (pmk_own PySem.F.excBase_ValueError X_BadMarket.x X_BadMarket.g X_BadMarket.k (raises_own X_BadMarket.s X_BadMarket.t) rfl))) pss_nil)))), ?_⟩
  walk_at "go"
  refine use_isLst hd ?_
  cases hd with
  | @lst a vs ds ha hall =>
    dsimp only [isLst]
    have hlen := DpAll.len hall
    have bad : ∀ {H'}, okNames (.list ds) = false → Tb PT H H' → E (.ref C_BadMarket) none H' := fun e s => q1 e _ s
    have hzs : szAll ds = true := hz
    refine ⟨_, rfl, iteNT ?_⟩
    walk_at "go"
    refine ⟨_, _, rfl, .inl ha, ?_⟩
    walk_at "go"
    refine ifd (fun c1 => ?_) (fun c1 => ?_)
    · walk_at "go"
      refine bad ?_ (.refl ht)
      dsimp only [okNames]
      rw [decide_eq_false (show ¬ ds.length ≤ 3 by omega)]
      rfl
    walk_at "go"
    refine ⟨⟨_, ha⟩, for_list (xs := vs) (fun i σ H2 => ∃ y1 y2 y3 y4, σ = [some (.ref a), y1, y2, y3, y4] ∧ Tb PT H H2 ∧ (ds.take i).all okName = true) ⟨_, _, _, _, rfl, .refl ht, rfl⟩ (fun i σ H2 _ h => by
      obtain ⟨_, _, _, _, _, t2, _⟩ := h
      exact (t2.dm ht).l _ _ ha) (fun i x σ H2 hx h => ?_) (fun σ H2 h => ?_)⟩
    · obtain ⟨y1, y2, y3, y4, rfl, t2, al⟩ := h
      have hi : i < ds.length := by have := (List.getElem?_eq_some_iff.mp hx).1; omega
      have hdi : ds[i]? = some ds[i] := List.getElem?_eq_getElem hi
      obtain ⟨x', hx', hD⟩ := DpAll.at hall hdi
      obtain rfl : x' = x := Option.some.inj (hx'.symm.trans hx)
      have no : okName ds[i] = false → okNames (.list ds) = false := fun e => by
        dsimp only [okNames]
        rw [all_no hdi e]
        simp
      have yes := fun e => all_take (f := okName) hdi e al
      have hzi := szAll_at hzs hdi
      generalize ds[i] = di at hD no yes hzi
      replace hD := Dp.dm (t2.dm ht) hD
      walk_at "go"
      refine use_isTup hD ?_
      cases hD with
      | @tup b us es hb he =>
        dsimp only [isTup]
        refine ⟨_, rfl, iteNT ?_⟩
        walk_at "go"
        refine ⟨_, _, rfl, .inr hb, ?_⟩
        walk_at "go"
        have le := DpAll.len he
        refine ifdn (fun c3 => ?_) (fun c3 => ?_)
        · obtain ⟨n, m, r, rfl⟩ : ∃ n m r, us = [n, m, r] := by
            match us, (show us.length = 3 by have := c3; omega) with
            | [n, m, r], _ => exact ⟨n, m, r, rfl⟩
          cases he with
          | @cons _ _ d1 _ h1 he =>
          cases he with
          | @cons _ _ d2 _ h2 he =>
          cases he with
          | @cons _ _ d3 _ h3 he =>
          cases he
          have e1 : okName (.tuple [d1, d2, d3]) = (isW' d1 && (amt d2 && okSteps d3)) := rfl
          have hz1 : szOk d1 = true := by
            have z : (szOk d1 && szAll [d2, d3]) = true := hzi
            exact (Bool.and_eq_true_iff.mp z).1
          walk_at "go"
          refine g_gtup hb rfl ?_
          walk_at "go"
          refine use_isWord h1 hz1 t2.g fun H3 t3 => ?_
          have d23 : DM K H2 H3 := t3.dm t2.g
          have t23 := t2.trans t3
          walk_at "go"
          refine ifn (fun c4 => ?_) (fun c4 => ?_)
          · walk_at "go"
            refine use_amount (Dp.dm d23 h2) ?_
            walk_at "go"
            refine ifn (fun c5 => ?_) (fun c5 => ?_)
            · walk_at "go"
              refine use_nsteps (Dp.dm d23 h3) (fun c6 H4 s4 => ?_) (fun c6 H4 s4 => ?_)
              · exact ⟨_, _, _, _, rfl, t23.trans (.of t23.g s4), yes (by rw [e1, c4, c6]; unfold amt; rw [c5]; rfl)⟩
              · exact bad (no (by rw [e1, c6]; simp)) (t23.trans (.of t23.g s4))
            · walk_at "go"
              exact bad (no (by rw [e1]; unfold amt; rw [c5]; simp)) t23
          · walk_at "go"
            exact bad (no (by rw [e1, c4]; rfl)) t23
        · walk_at "go"
          refine bad (no ?_) t2
          unfold okName
          split
          · rename_i u v x e
            obtain rfl : es = [u, v, x] := by injection e
            exact absurd (show (us.length : Int) = 3 by rw [le]; rfl) c3
          · rfl
      | _ =>
        dsimp only [isTup]
        walk_at "go"
        exact bad (no rfl) t2
    · obtain ⟨y1, y2, y3, y4, rfl, t2, al⟩ := h
      rw [hlen, List.take_length] at al
      have ha2 : SqL K H2 a vs := (t2.dm ht).l _ _ ha
      walk_at "go"
      refine g_lenU ?_
      walk_at "go"
      refine ⟨⟨_, ha2⟩, fun D nD => lc_list (xs := vs) (Comp H2 D (fun j y H' => ∃ d, ds[j]? = some d ∧ y = .str (wordOf d))) (.start nD) (fun i H' _ c => c.e.seq ha2) (fun i x H' hx c => ?_) (fun H' c => ?_)⟩
      · have hi : i < ds.length := by have := (List.getElem?_eq_some_iff.mp hx).1; omega
        have hdi : ds[i]? = some ds[i] := List.getElem?_eq_getElem hi
        obtain ⟨x', hx', hD⟩ := DpAll.at hall hdi
        obtain rfl : x' = x := Option.some.inj (hx'.symm.trans hx)
        obtain ⟨n, b1, b2, ed, _⟩ := okName_tup (List.all_eq_true.mp al _ (List.getElem_mem hi))
        rw [ed] at hdi hD
        replace hD := Dp.dm ((t2.dm ht).trans (.of c.e)) hD
        cases hD with
        | @tup b us es hb he =>
        cases he with
        | @cons _ _ d1 _ h1 he =>
        cases h1
        walk_at "go"
        refine ⟨_, _, _, _, rfl, rfl, hb, at_any (j := 0) rfl rfl, ?_⟩
        exact c.next (fun j y Ha Hb h _ => h) (.refl _) (by omega) ⟨_, hdi, rfl⟩
      · obtain ⟨e3, _, ys, hy, ly, ry⟩ := c
        have ey : ys = (ds.map wordOf).map V.str := List.ext_getElem? fun j => by
          rcases Nat.lt_or_ge j ys.length with lt | ge
          · obtain ⟨d, hd1, e⟩ := ry j _ (List.getElem?_eq_getElem lt)
            rw [List.getElem?_eq_getElem lt, e, List.getElem?_map, List.getElem?_map, hd1]
            rfl
          · rw [List.getElem?_eq_none ge, List.getElem?_eq_none (by simp; omega)]
        rw [ey] at hy
        have t4 := t2.trans (.of t2.g e3)
        refine ⟨_, rfl, .inr ⟨ds.map wordOf, sql hy, by rw [List.length_map]; omega, fun m u1 u2 => ?_⟩⟩
        rw [List.length_map] at u1 u2
        walk_at "go"
        refine ⟨_, _, rfl, .inl (e3.seq ha2), ?_⟩
        walk_at "go"
        have okd : okNames (.list ds) = decide (ds.map wordOf).Nodup := by
          dsimp only [okNames]
          rw [decide_eq_true (show ds.length ≤ 3 by omega), al]
          rfl
        by_cases nd : (ds.map wordOf).Nodup
        · refine ifd (fun c6 => ?_) (fun c6 => ?_)
          · have := u1 nd
            omega
          · walk_at "go"
            exact q0 (by rw [okd]; exact decide_eq_true nd) _ t4
        · refine ifd (fun c6 => ?_) (fun c6 => ?_)
          · walk_at "go"
            exact bad (by rw [okd]; exact decide_eq_false nd) t4
          · have := u2 nd
            omega
  | _ =>
    dsimp only [isLst]
    walk_at "go"
    exact q1 rfl _ (.refl ht)
end

/-! ### a drawn market -/
/-- the heap without what stands at p -/
def er (p : Addr) (H : Hp) : Hp := fun b => if b = p then none else H b
theorem er_ne {p b : Addr} {H : Hp} (h : b ≠ p) : er p H b = H b := if_neg h
theorem er_sub {p : Addr} {H : Hp} : Same (er p H) H := fun b o h => by
  unfold er at h
  split at h
  · cases h
  · exact h
theorem er_new {p : Addr} {H : Hp} (n : H p = none) : er p H = H := funext fun b => by
  unfold er
  split
  · rename_i e
    rw [e, n]
  · rfl
theorem er_upd {p : Addr} {H : Hp} {o : HO} : er p (upd H p o) = er p H := funext fun b => by
  unfold er
  split
  · rfl
  · rename_i h
    exact upd_ne h
theorem er_same {p : Addr} {H H' : Hp} (e : Same H H') : Same (er p H) (er p H') := fun b o h => by
  unfold er at h ⊢
  split at h
  · cases h
  · rename_i n
    rw [if_neg n]
    exact e _ _ h
theorem er_kb {p s : Addr} {H H' : Hp} (e : KB s H H') : KB s (er p H) (er p H') := fun b o n h => by
  unfold er at h ⊢
  split at h
  · cases h
  · rename_i n2
    rw [if_neg n2]
    exact e _ _ n h
/-- the drawing's dict and its lists stand apart from p -/
theorem LS.er {K : PySem.W.Frag} {c : Cfg} {ns : List Int} {xs : List Str} {s na nm p : Addr} {H H' : Hp} (L : LS K c ns xs s na nm (er p H)) (e : KB s H H') (L' : LS K c ns xs s na nm H') : LS K c ns xs s na nm (er p H') := by
  obtain ⟨⟨n, re, mx, h, _⟩, h1, h2, h3, h4, h5⟩ := L
  obtain ⟨⟨n', re', mx', h', r'⟩, _⟩ := L'
  have np : s ≠ p := fun z => by
    rw [z] at h
    unfold Bk.er at h
    rw [if_pos rfl] at h
    cases h
  exact ⟨⟨n', re', mx', (er_ne np).trans h', r'⟩, KB.seq (er_kb e) h h1, KB.seq (er_kb e) h h2, h3, h4, h5⟩
theorem LS.dm {K : PySem.W.Frag} {c : Cfg} {ns : List Int} {xs : List Str} {s na nm : Addr} {H H' : Hp} (L : LS K c ns xs s na nm H) (e : KB s H H') : DM K H H' := by
  obtain ⟨⟨n, re, mx, h, _⟩, _⟩ := L
  exact e.dm h
theorem inV_int {b : Int} {ns : List Int} : inV (.int b) (ns.map V.int) = decide (b ∈ ns) := by
  unfold inV
  rw [List.any_map, Bool.eq_iff_iff, List.any_eq_true, decide_eq_true_eq]
  constructor
  · rintro ⟨x, hx, e⟩
    have e' : (x == b) = true := by
      first
        | exact e
        | (have z : (b == x) = true := e; simpa [eq_comm] using z)
    rw [← eq_of_beq e']
    exact hx
  · intro h
    refine ⟨b, h, ?_⟩
    show (b == b) = true
    simp
structure StOk (ds : List PyData) : Prop where
  a : ds.all okStep = true
  n : (ds.map byOf).Nodup
theorem StOk.snoc {ds : List PyData} {b w : Int} (h : StOk ds) (hb : -4 < b) (hb2 : b < 4) (h0 : 1 ≤ w) (h1 : w ≤ 5) (hn : b ∉ ds.map byOf) : StOk (ds ++ [.tuple [.int b, .int w]]) := by
  refine ⟨?_, ?_⟩
  · rw [List.all_append, h.a]
    have e : okStep (.tuple [.int b, .int w]) = true := by
      show ((decide (-999999999999 ≤ b) && decide (b ≤ 999999999999)) && (decide (1 ≤ w) && decide (w ≤ 999))) = true
      simp only [Bool.and_eq_true, decide_eq_true_eq]
      omega
    simp [e]
  · rw [List.map_append]
    refine List.nodup_append.mpr ⟨h.n, by simp, fun a ha c hc => ?_⟩
    simp at hc
    subst hc
    exact fun e => hn (by rw [← e]; exact ha)
theorem StOk.sz : ∀ {ds : List PyData}, ds.all okStep = true → szAll ds = true
  | [], _ => rfl
  | d :: ds, h => by
    rw [List.all_cons, Bool.and_eq_true] at h
    show (szOk d && szAll ds) = true
    rw [StOk.sz h.2, Bool.and_true]
    have h1 := h.1
    unfold okStep at h1
    split at h1
    · rename_i a b
      rw [Bool.and_eq_true] at h1
      cases a with
      | int i =>
        cases b with
        | int j => rfl
        | _ => cases h1.2
      | _ => cases h1.1
    · cases h1
def spSteps (K : PySem.W.Frag) : Sp := fun vs H Q _ => ∃ (c : Cfg) (ns : List Int) (xs : List Str) (s na nm : Addr), vs = [.ref s] ∧ LS K c ns xs s na nm H ∧
  ∀ (p : Addr) (ds : List PyData) (H' : Hp), H p = none → KB s H H' → LS K c ns xs s na nm H' → Dp K H' (.ref p) (.list ds) → okSteps (.list ds) = true → Q (.ref p) H'
theorem use_steps {K : PySem.W.Frag} {c : Cfg} {ns : List Int} {xs : List Str} {s na nm : Addr} {H : Hp} {Q : VK} {E : XK} (L : LS K c ns xs s na nm H)
    (q : ∀ (p : Addr) (ds : List PyData) (H' : Hp), H p = none → KB s H H' → LS K c ns xs s na nm H' → Dp K H' (.ref p) (.list ds) → okSteps (.list ds) = true → Q (.ref p) H') : spSteps K ([.ref s] ++ []) H Q E := ⟨c, ns, xs, s, na, nm, rfl, L, q⟩
section
variable {P : Program} {w : World} {K : PySem.W.Frag} {mg : Str → Option Value} {base : Heap}
abbrev s__law_steps : Stmt := topS 30
theorem sc__law_steps : FnScope ["_law_s", "_law_steps_here", "_law_k", "_law_by", "_law_step"] ["_law_s"] (defScope s__law_steps) := ⟨rfl, rfl, rfl, by decide +kernel, rfl, by decide +kernel, by decide +kernel⟩
theorem h__law_steps {k : Nat} {f : Addr} {fd : FuncData} (O : Own K mg "_law_steps" s__law_steps ["_law_s"] f fd)  {f__law_taken : Addr} {fd__law_taken : FuncData} (D__law_taken : Has P w K mg base "_law_taken" ["_law_s", "_law_most"] k CX0 (spTaken K) f__law_taken fd__law_taken) (m_range : mg "range" = none) : Has P w K mg base "_law_steps" ["_law_s"] (k + 1) CX0 (spSteps K) f fd := by
  refine O.has (O.F.ok sc__law_steps (fun vs H Q E h => ?_) (fun cdv A outer s H vs Q E hr h => ?_))
  · obtain ⟨c, ns, xs, s, na, nm, rfl, _⟩ := h
    rfl
  obtain ⟨c, ns, xs, s, na, nm, rfl, L, q⟩ := h
  refine ⟨_, (pss_cons (ps_set (i := 1) sc__law_steps.nd rfl (.inl rfl) (pe_lst pa_nil)) (pss_cons (ps_for PassesOwn.never rfl (pi_range1 (by rfl) m_range (pa_cons (pe_op op_add pe_int (pe_call D__law_taken.G hr (by rfl) D__law_taken.g D__law_taken.k D__law_taken.b .nil pass0 (pa_cons (pv 0) (pa_cons pe_int pa_nil)))) pa_nil)) (pg_name (i := 2) sc__law_steps.nd rfl (.inl rfl)) (pss_cons (ps_set (i := 3) sc__law_steps.nd rfl (.inl rfl) (pe_op op_sub (pe_call D__law_taken.G hr (by rfl) D__law_taken.g D__law_taken.k D__law_taken.b .nil pass0 (pa_cons (pv 0) (pa_cons pe_int pa_nil))) pe_int)) (pss_one (ps_if (pt_cmpR op_notIn_seq (pv 3) (pe_lc (own := [("_law_step", 4)]) (g := gName 4) rfl sc__law_steps.nd (pi_list (pv 1)) (blkOk_by (own := [("_law_step", 4)]) (N := ["_law_s", "_law_steps_here", "_law_k", "_law_by", "_law_step"]) (sc := defScope s__law_steps) (by decide +kernel)) (fun _ _ _ _ _ => pg_name (i := 4) sc__law_steps.nd rfl (.inl rfl)) (fun _ _ _ _ _ => pts_nil) (fun _ _ _ _ _ => (pe_ix (r := rIxT K) ix_tup (pv 4) pe_int (fun _ _ => rfl)))) (by rfl)) (pss_one (ps_expr (pe_bm PySem.F.plainAttrs_list PySem.F.slot_list_append PySem.F.type_list_append mt_append (pv 1) (pa_cons (pe_tup (pa_cons (pv 3) (pa_cons (pe_op op_add pe_int (pe_call D__law_taken.G hr (by rfl) D__law_taken.g D__law_taken.k D__law_taken.b .nil pass0 (pa_cons (pv 0) (pa_cons pe_int pa_nil)))) pa_nil))) pa_nil)))) pss_nil)))) (pss_one (ps_ret (pv 1))))), ?_⟩
  walk_at "go"
  refine ⟨by show 0 ≤ sizeLine; decide, fun p np => ?_⟩
  have s1 := same_new (o := .lst []) np
  have L1 := L.same s1
  have hp1 : upd H p (.lst []) p = some (.lst []) := upd_same
  have E1 : er p (upd H p (.lst [])) = H := er_upd.trans (er_new np)
  walk_at "go"
  refine use_taken L1 (by decide) (by decide) fun r H2 r0 r1 e2 L2 => ?_
  have nps : p ≠ s := fun z => by
    obtain ⟨n, re, mx, h, _⟩ := L.st
    rw [z, h] at np
    cases np
  have hp2 := e2 _ _ nps hp1
  have F2 : LS K c ns xs s na nm (er p H2) := LS.er (by rw [E1]; exact L) e2 L2
  have k2 : KB s H (er p H2) := by
    have z := er_kb (p := p) e2
    rw [E1] at z
    exact z
  walk_at "go"
  refine ⟨by omega, by omega, for_range (lo := 0) (n := (1 + r).toNat) (fun i σ H3 => ∃ y2 y3, σ = [some (.ref s), some (.ref p), y2, y3, none] ∧ ∃ vs ds, H3 p = some (.lst vs) ∧ vs.length ≤ i ∧ DpAll K (er p H3) vs ds ∧ StOk ds ∧ (0 < i → ds ≠ []) ∧ LS K c ns xs s na nm (er p H3) ∧ KB s H (er p H3))
    ⟨_, _, rfl, [], [], hp2, Nat.le_refl _, .nil, ⟨rfl, List.nodup_nil⟩, fun h => absurd h (by decide), F2, k2⟩ (fun i σ H3 hi hW => ?_) (fun σ H3 hW => ?_)⟩
  · obtain ⟨y2, y3, rfl, vs, ds, hp3, hl3, D3, ok3, ne3, F3, k3⟩ := hW
    have L3 := F3.same er_sub
    walk_at "go"
    refine use_taken L3 (by decide) (by decide) fun b H4 b0 b1 e4 L4 => ?_
    have hp4 := e4 _ _ nps hp3
    have F4 := F3.er e4 L4
    have D4 := DpAll.dm (F3.dm (er_kb e4)) D3
    have k4 := k3.trans (er_kb e4)
    walk_at "go"
    have dl4 := DpAll.len D4
    refine ⟨⟨_, sql hp4⟩, fun D nD => lc_list (xs := vs) (Comp H4 D (fun j y H' => ∃ d, ds[j]? = some d ∧ y = .int (byOf d))) (.start nD) (fun i H' _ c => c.e.seq (sql hp4)) (fun j x H' hx c => ?_) (fun H5 c => ?_)⟩
    · have hj : j < ds.length := by have := (List.getElem?_eq_some_iff.mp hx).1; omega
      have hdj : ds[j]? = some ds[j] := List.getElem?_eq_getElem hj
      obtain ⟨x', hx', hD⟩ := DpAll.at D4 hdj
      obtain rfl : x' = x := Option.some.inj (hx'.symm.trans hx)
      obtain ⟨n, m, ed⟩ := okStep_tup (List.all_eq_true.mp ok3.a _ (List.getElem_mem hj))
      rw [ed] at hdj hD
      replace hD := Dp.dm (.of (er_sub.trans c.e)) hD
      cases hD with
      | @tup t us es ht he =>
      cases he with
      | @cons _ _ d1 _ h1 he =>
      cases h1
      walk_at "go"
      refine ⟨_, _, _, _, rfl, rfl, ht, at_any (j := 0) rfl rfl, ?_⟩
      exact c.next (fun j y Ha Hb h _ => h) (.refl _) (by omega) ⟨_, hdj, rfl⟩
    obtain ⟨e5, _, ys, hy, ly, ry⟩ := c
    have ey : ys = (ds.map byOf).map V.int := List.ext_getElem? fun j => by
      rcases Nat.lt_or_ge j ys.length with lt | ge
      · obtain ⟨d, hd1, e⟩ := ry j _ (List.getElem?_eq_getElem lt)
        rw [List.getElem?_eq_getElem lt, e, List.getElem?_map, List.getElem?_map, hd1]
        rfl
      · rw [List.getElem?_eq_none ge, List.getElem?_eq_none (by simp; omega)]
    rw [ey] at hy
    have hp5 := e5 _ _ hp4
    have F5 := F4.same (er_same e5)
    have D5 := DpAll.dm (.of (er_same e5)) D4
    have k5 := k4.trans (.of (er_same e5))
    have L5 := F5.same er_sub
    refine ⟨D, _, rfl, .inl (sql hy), rfl, by simp [flatV], ?_⟩
    rw [inV_int]
    refine ⟨_, rfl, ifdn (fun mem => ?_) (fun mem => ?_)⟩
    · walk_at "go"
      refine ⟨vs, ds, hp5, by omega, D5, ok3, fun _ z => ?_, F5, k5⟩
      rw [z] at mem
      cases mem
    · walk_at "go"
      refine ⟨.inl ⟨rfl, _, sql hp5⟩, ?_⟩
      walk_at "go"
      refine use_taken L5 (by decide) (by decide) fun w H6 w0 w1 e6 L6 => ?_
      have hp6 := e6 _ _ nps hp5
      have F6 := F5.er e6 L6
      have D6 := DpAll.dm (F5.dm (er_kb e6)) D5
      have k6 := k5.trans (er_kb e6)
      walk_at "go"
      refine ⟨by show 2 ≤ sizeLine; decide, fun t nt => ?_⟩
      have s7 := same_new (o := .tup [.int (b - 3), .int (1 + w)]) nt
      have npt : t ≠ p := fun z => by rw [z, hp6] at nt; cases nt
      have dt : Dp K (er p (upd H6 t (.tup [.int (b - 3), .int (1 + w)]))) (.ref t) (.tuple [.int (b - 3), .int (1 + w)]) := .tup (sqt ((er_ne npt).trans upd_same)) (.cons (.int _) (.cons (.int _) .nil))
      have hp7 := s7 _ _ hp6
      have F7 := F6.same (er_same s7)
      have D7 := DpAll.dm (.of (er_same s7)) D6
      have k7 := k6.trans (.of (er_same s7))
      generalize upd H6 t (.tup [.int (b - 3), .int (1 + w)]) = H7 at dt hp7 F7 D7 k7 ⊢
      walk_at "go"
      refine ⟨p, _, _, rfl, rfl, hp7, small1000 (by omega), ?_⟩
      refine ⟨_, _, rfl, _, _, upd_same, by rw [List.length_append]; show vs.length + 1 ≤ i + 1; omega, by rw [er_upd]; exact DpAll.app D7 (.cons dt .nil), ok3.snoc (by omega) (by omega) (by omega) (by omega) mem, fun _ z => by simp at z, by rw [er_upd]; exact F7, by rw [er_upd]; exact k7⟩
  · obtain ⟨y2, y3, rfl, vs, ds, hp3, hl3, D3, ok3, ne3, F3, k3⟩ := hW
    walk_at "go"
    have dl := DpAll.len D3
    refine q p ds H3 np (k3.trans (.of er_sub)) (F3.same er_sub) (.lst (sql hp3) (DpAll.dm (.of er_sub) D3)) ?_
    dsimp only [okSteps]
    have := List.length_pos_iff.mpr (ne3 (by omega))
    rw [decide_eq_true (show 1 ≤ ds.length by omega), decide_eq_true (show ds.length ≤ 4 by omega), ok3.a, decide_eq_true ok3.n]
    rfl
end

theorem okStep_ii {d : PyData} (h : okStep d = true) : ∃ i j, d = .tuple [.int i, .int j] := by
  unfold okStep at h
  split at h
  · rename_i a b
    rw [Bool.and_eq_true] at h
    cases a with
    | int i =>
      cases b with
      | int j => exact ⟨i, j, rfl⟩
      | _ => cases h.2
    | _ => cases h.1
  · cases h
theorem steps_lay : ∀ {es : List PyData}, es.all okStep = true → PyData.canLayAll0 es = true ∧ PyData.depthAll es ≤ 1
  | [], _ => ⟨rfl, by show 0 ≤ 1; decide⟩
  | d :: es, h => by
    rw [List.all_cons, Bool.and_eq_true] at h
    obtain ⟨i, j, rfl⟩ := okStep_ii h.1
    obtain ⟨a, b⟩ := steps_lay h.2
    exact ⟨by show (true && PyData.canLayAll0 es) = true; rw [a]; rfl, by show max 1 (PyData.depthAll es) ≤ 1; omega⟩
theorem word_lay {x : Str} (h : isW' (.str x) = true) : PyData.canLay0 (.str x) = true ∧ szOk (.str x) = true := by
  have z : (decide (1 ≤ x.length) && (decide (x.length ≤ 8) && x.cps.toList.all fun c => decide (97 ≤ c) && decide (c ≤ 122))) = true := h
  simp only [Bool.and_eq_true, decide_eq_true_eq, List.all_eq_true] at z
  refine ⟨?_, decide_eq_true (by omega)⟩
  show PyData.strOk x = true
  unfold PyData.strOk
  rw [Array.all_eq_true_iff_forall_mem]
  intro c hc
  have := z.2.2 c (by simpa using hc)
  exact decide_eq_true (by omega)
theorem okName_lay {d : PyData} (h : okName d = true) : PyData.canLay0 d = true ∧ PyData.depth d ≤ 3 ∧ szOk d = true := by
  unfold okName at h
  split at h
  · rename_i a b s
    simp only [Bool.and_eq_true] at h
    obtain ⟨h1, h2, h3⟩ := h
    obtain ⟨x, rfl⟩ := isW_str h1
    obtain ⟨es, rfl, _⟩ := okSteps_lst h3
    cases b with
    | int n =>
      dsimp only [okSteps] at h3
      simp only [Bool.and_eq_true] at h3
      obtain ⟨l1, l2⟩ := steps_lay h3.2.2.1
      obtain ⟨w1, w2⟩ := word_lay h1
      have sz := StOk.sz h3.2.2.1
      refine ⟨?_, ?_, ?_⟩
      · show (PyData.canLay0 (.str x) && (true && (PyData.canLayAll0 es && true))) = true
        rw [w1, l1]; rfl
      · show max 0 (max 0 (max (PyData.depthAll es + 1) 0)) + 1 ≤ 3
        omega
      · show (szOk (.str x) && (true && (szAll es && true))) = true
        rw [w2, sz]; rfl
    | _ => cases h2
  · cases h
theorem names_lay : ∀ {ds : List PyData}, ds.all okName = true → PyData.canLayAll0 ds = true ∧ PyData.depthAll ds ≤ 3 ∧ szAll ds = true
  | [], _ => ⟨rfl, by show 0 ≤ 3; decide, rfl⟩
  | d :: es, h => by
    rw [List.all_cons, Bool.and_eq_true] at h
    obtain ⟨a, b, c⟩ := okName_lay h.1
    obtain ⟨a', b', c'⟩ := names_lay h.2
    exact ⟨by show (PyData.canLay0 d && PyData.canLayAll0 es) = true; rw [a, a']; rfl, by show max (PyData.depth d) (PyData.depthAll es) ≤ 3; omega, by show (szOk d && szAll es) = true; rw [c, c']; rfl⟩
theorem names_shaped {ds : List PyData} (h : ds.all okName = true) : SeqAt.shaped (.list ds) = true := by
  obtain ⟨a, b, _⟩ := names_lay h
  unfold SeqAt.shaped
  rw [Bool.and_eq_true, decide_eq_true_eq]
  exact ⟨a, by show PyData.depthAll ds + 1 ≤ 64; omega⟩
theorem er_rd {p a : Addr} {H : Hp} {u : HO} (h : Rd H a u) (n : a ≠ p) : Rd (er p H) a u := by
  rcases h with h | ⟨o, h⟩
  · exact .inl ((er_ne n).trans h)
  · exact .inr ⟨o, (er_ne n).trans h⟩
theorem er_sqt {K : PySem.W.Frag} {p t : Addr} {H : Hp} {vs xs : List V} (hp : H p = some (.lst vs)) (h : SqT K H t xs) : SqT K (er p H) t xs := by
  rcases h with h | h
  · refine .inl (er_rd h fun z => ?_)
    rw [z] at h
    rcases h with h | ⟨o, h⟩ <;> rw [hp] at h <;> cases h
  · exact .inr h
theorem er_steps {K : PySem.W.Frag} {p : Addr} {H : Hp} {vs : List V} (hp : H p = some (.lst vs)) : ∀ {es : List PyData} {us : List V}, es.all okStep = true → DpAll K H us es → DpAll K (er p H) us es
  | [], _, _, .nil => .nil
  | d :: es, _, h, .cons hd hr => by
    rw [List.all_cons, Bool.and_eq_true] at h
    obtain ⟨i, j, rfl⟩ := okStep_ii h.1
    cases hd with
    | tup ht he =>
    cases he with
    | cons h1 he =>
    cases he with
    | cons h2 he =>
    cases he
    cases h1
    cases h2
    exact .cons (.tup (er_sqt hp ht) (.cons (.int _) (.cons (.int _) .nil))) (er_steps hp h.2 hr)
theorem er_stepsL {K : PySem.W.Frag} {p u : Addr} {H : Hp} {vs : List V} {es : List PyData} (hp : H p = some (.lst vs)) (n : u ≠ p) (h : Dp K H (.ref u) (.list es)) (ok : okSteps (.list es) = true) : Dp K (er p H) (.ref u) (.list es) := by
  have al : es.all okStep = true := by
    dsimp only [okSteps] at ok
    simp only [Bool.and_eq_true] at ok
    exact ok.2.2.1
  cases h with
  | lst hl ha =>
    refine .lst ?_ (er_steps hp al ha)
    rcases hl with hl | hl
    · exact .inl (er_rd hl n)
    · exact .inr hl
structure NmOk (c : Cfg) (i : Nat) (ds : List PyData) : Prop where
  a : ds.all okName = true
  n : (ds.map wordOf).Nodup
  w : ∀ x ∈ ds.map wordOf, ∃ j : Nat, j < i ∧ x = wd c (8 + (0 + (j : Int)))
theorem NmOk.snoc {c : Cfg} {i : Nat} {ds : List PyData} {n : Int} {es : List PyData} (ok : c.Ok) (h : NmOk c i ds) (hi : i < 3) (h0 : -1000000000000 < n) (h1 : n < 1000000000000) (he : okSteps (.list es) = true) :
    NmOk c (i + 1) (ds ++ [.tuple [.str (wd c (8 + (0 + (i : Int)))), .int n, .list es]]) := by
  have hw : isW' (.str (wd c (8 + (0 + (i : Int))))) = true := wd_word ok (by omega)
  refine ⟨?_, ?_, fun x hx => ?_⟩
  · rw [List.all_append, h.a]
    have e : okName (.tuple [.str (wd c (8 + (0 + (i : Int)))), .int n, .list es]) = true := by
      show (isW' (.str (wd c (8 + (0 + (i : Int))))) && ((decide (-999999999999 ≤ n) && decide (n ≤ 999999999999)) && okSteps (.list es))) = true
      rw [hw, he, decide_eq_true (show -999999999999 ≤ n by omega), decide_eq_true (show n ≤ 999999999999 by omega)]
      rfl
    rw [List.all_cons, e]
    rfl
  · rw [List.map_append]
    refine List.nodup_append.mpr ⟨h.n, by simp, fun a ha b hb => ?_⟩
    simp only [List.map_cons, List.map_nil, List.mem_singleton] at hb
    subst hb
    obtain ⟨j, hj, rfl⟩ := h.w a ha
    exact wd_ne ok (by omega) (by omega) (by omega) (by omega) (by omega)
  · rw [List.map_append, List.mem_append] at hx
    rcases hx with hx | hx
    · obtain ⟨j, hj, e⟩ := h.w x hx
      exact ⟨j, by omega, e⟩
    · simp only [List.map_cons, List.map_nil, List.mem_singleton] at hx
      exact ⟨i, by omega, hx⟩
def spMarket (K : PySem.W.Frag) : Sp := fun vs H Q _ => ∃ (c : Cfg) (ns : List Int) (xs : List Str) (s na nm : Addr) (m : Nat), vs = [.ref s, .int m] ∧ LS K c ns xs s na nm H ∧ m ≤ 3 ∧
  ∀ (t p : Addr) (la : Int) (ds : List PyData) (H' : Hp), KB s H H' → LS K c ns xs s na nm H' → SqT K H' t [.int la, .ref p] → 0 ≤ la → (la < 9 ∧ la < [9, 5, 3, 2].getD m 0 ∧ ds.length = m) → Dp K H' (.ref p) (.list ds) → ds.all okName = true → okNames (.list ds) = true → Q (.ref t) H'
theorem use_market {K : PySem.W.Frag} {c : Cfg} {ns : List Int} {xs : List Str} {s na nm : Addr} {m : Int} {H : Hp} {Q : VK} {E : XK} (L : LS K c ns xs s na nm H) (h0 : 0 ≤ m) (h1 : m < 4)
    (q : ∀ (t p : Addr) (la : Int) (ds : List PyData) (H' : Hp), KB s H H' → LS K c ns xs s na nm H' → SqT K H' t [.int la, .ref p] → 0 ≤ la → (la < 9 ∧ la < [9, 5, 3, 2].getD m.toNat 0 ∧ ds.length = m.toNat) → Dp K H' (.ref p) (.list ds) → ds.all okName = true → okNames (.list ds) = true → Q (.ref t) H') :
    spMarket K ([.ref s, .int m] ++ []) H Q E := ⟨c, ns, xs, s, na, nm, m.toNat, by rw [Int.toNat_of_nonneg h0]; rfl, L, by omega, q⟩
section
variable {P : Program} {w : World} {K : PySem.W.Frag} {mg : Str → Option Value} {base : Heap}
abbrev s__law_market : Stmt := topS 31
theorem sc__law_market : FnScope ["_law_s", "_law_many", "_law_names", "_law_k", "_law_begun_here"] ["_law_s", "_law_many"] (defScope s__law_market) := ⟨rfl, rfl, rfl, by decide +kernel, rfl, by decide +kernel, by decide +kernel⟩
theorem h__law_market {k : Nat} {f : Addr} {fd : FuncData} (O : Own K mg "_law_market" s__law_market ["_law_s", "_law_many"] f fd)  {f__law_taken : Addr} {fd__law_taken : FuncData} (D__law_taken : Has P w K mg base "_law_taken" ["_law_s", "_law_most"] k CX0 (spTaken K) f__law_taken fd__law_taken) {f__law_steps : Addr} {fd__law_steps : FuncData} (D__law_steps : Has P w K mg base "_law_steps" ["_law_s"] k CX0 (spSteps K) f__law_steps fd__law_steps) {f__law_word : Addr} {fd__law_word : FuncData} (D__law_word : Has P w K mg base "_law_word" ["_law_s", "_law_k"] k CX0 (spWord K) f__law_word fd__law_word) {f__law_number : Addr} {fd__law_number : FuncData} (D__law_number : Has P w K mg base "_law_number" ["_law_s"] k CX0 (spNumber K) f__law_number fd__law_number) (m_range : mg "range" = none) (m_max : mg "max" = none) (m_min : mg "min" = none) : Has P w K mg base "_law_market" ["_law_s", "_law_many"] (k + 1) CX0 (spMarket K) f fd := by
  refine O.has (O.F.ok sc__law_market (fun vs H Q E h => ?_) (fun cdv A outer s H vs Q E hr h => ?_))
  · obtain ⟨c, ns, xs, s, na, nm, m, rfl, _⟩ := h
    rfl
  obtain ⟨c, ns, xs, s, na, nm, m, rfl, L, hm, q⟩ := h
  refine ⟨_, (pss_cons (ps_set (i := 2) sc__law_market.nd rfl (.inl rfl) (pe_lst pa_nil)) (pss_cons (ps_for PassesOwn.never rfl (pi_range1 (by rfl) m_range (pa_cons (pv 1) pa_nil)) (pg_name (i := 3) sc__law_market.nd rfl (.inl rfl)) (pss_cons (ps_set (i := 4) sc__law_market.nd rfl (.inl rfl) (pe_callB (call_max2 rfl) (by rfl) m_max (by decide +kernel) (pa_cons (pe_op op_sub pe_int (pe_op op_pow pe_int pe_int)) (pa_cons (pe_callB (call_min2 rfl) (by rfl) m_min (by decide +kernel) (pa_cons (pe_op op_sub (pe_op op_pow pe_int pe_int) pe_int) (pa_cons (pe_call D__law_number.G hr (by rfl) D__law_number.g D__law_number.k D__law_number.b .nil pass0 (pa_cons (pv 0) pa_nil)) pa_nil))) pa_nil)))) (pss_one (ps_expr (pe_bm PySem.F.plainAttrs_list PySem.F.slot_list_append PySem.F.type_list_append mt_append (pv 2) (pa_cons (pe_tup (pa_cons (pe_call D__law_word.G hr (by rfl) D__law_word.g D__law_word.k D__law_word.b .nil pass0 (pa_cons (pv 0) (pa_cons (pe_op op_add pe_int (pv 3)) pa_nil))) (pa_cons (pv 4) (pa_cons (pe_call D__law_steps.G hr (by rfl) D__law_steps.g D__law_steps.k D__law_steps.b .nil pass0 (pa_cons (pv 0) pa_nil)) pa_nil)))) pa_nil)))))) (pss_one (ps_ret (pe_tup (pa_cons (pe_call D__law_taken.G hr (by rfl) D__law_taken.g D__law_taken.k D__law_taken.b .nil pass0 (pa_cons (pv 0) (pa_cons (pe_ix ix_list (pe_lst (pa_cons pe_int (pa_cons pe_int (pa_cons pe_int (pa_cons pe_int pa_nil))))) (pv 1) (fun _ _ => rfl)) pa_nil))) (pa_cons (pv 2) pa_nil))))))), ?_⟩
  have ok := L.ok
  walk_at "go"
  refine ⟨by show 0 ≤ sizeLine; decide, fun p np => ?_⟩
  have hp1 : upd H p (.lst []) p = some (.lst []) := upd_same
  have E1 : er p (upd H p (.lst [])) = H := er_upd.trans (er_new np)
  have nps : p ≠ s := fun z => by
    obtain ⟨n, re, mx, h, _⟩ := L.st
    rw [z, h] at np
    cases np
  walk_at "go"
  refine ⟨by omega, by omega, for_range (lo := 0) (n := m) (fun i σ H3 => ∃ y3 y4, σ = [some (.ref s), some (.int m), some (.ref p), y3, y4] ∧ ∃ vs ds, H3 p = some (.lst vs) ∧ ds.length = i ∧ DpAll K (er p H3) vs ds ∧ NmOk c i ds ∧ LS K c ns xs s na nm (er p H3) ∧ KB s H (er p H3))
    ⟨_, _, rfl, [], [], hp1, rfl, .nil, ⟨rfl, List.nodup_nil, fun x h => by cases h⟩, by rw [E1]; exact L, by rw [E1]; exact .refl _ _⟩ (fun i σ H3 hi hW => ?_) (fun σ H3 hW => ?_)⟩
  · obtain ⟨y3, y4, rfl, vs, ds, hp3, hl3, D3, ok3, F3, k3⟩ := hW
    have dl3 := DpAll.len D3
    have L3 := F3.same er_sub
    walk_at "go"
    refine g_I ⟨by decide, by decide, by decide⟩ ?_
    walk_at "go"
    refine g_I ⟨by decide, by decide, by decide⟩ ?_
    walk_at "go"
    refine use_number L3 fun r H4 b0 b1 e4 L4 => ?_
    have hp4 := e4 _ _ nps hp3
    have F4 := F3.er e4 L4
    have D4 := DpAll.dm (F3.dm (er_kb e4)) D3
    have k4 := k3.trans (er_kb e4)
    walk_at "go"
    have e10 : (10 : Int) ^ (12 : Int).toNat = 1000000000000 := by decide
    rw [e10]
    have hv : ∃ v : Int, (if (if r < 1000000000000 - 100 then r else 1000000000000 - 100) > 100 - 1000000000000 then (if r < 1000000000000 - 100 then r else 1000000000000 - 100) else 100 - 1000000000000) = v ∧ -1000000000000 < v ∧ v < 1000000000000 := ⟨_, rfl, by split <;> (try split) <;> omega, by split <;> (try split) <;> omega⟩
    obtain ⟨v, ev, v0, v1⟩ := hv
    rw [ev]
    walk_at "go"
    refine ⟨.inl ⟨rfl, _, sql hp4⟩, ?_⟩
    walk_at "go"
    refine use_word L4 (by omega) (by omega) fun H5 e5 => ?_
    have hp5 := e5 _ _ hp4
    have F5 := F4.same (er_same e5)
    have D5 := DpAll.dm (.of (er_same e5)) D4
    have k5 := k4.trans (.of (er_same e5))
    have L5 := L4.same e5
    walk_at "go"
    refine use_steps L5 fun u es H6 nu e6 L6 du oku => ?_
    have hp6 := e6 _ _ nps hp5
    have npu : u ≠ p := fun z => by rw [z, hp5] at nu; cases nu
    have F6 := F5.er e6 L6
    have D6 := DpAll.dm (F5.dm (er_kb e6)) D5
    have k6 := k5.trans (er_kb e6)
    walk_at "go"
    refine ⟨by show 3 ≤ sizeLine; decide, fun t nt => ?_⟩
    have s7 := same_new (o := .tup [.str (wd c (8 + (0 + (i : Int)))), .int v, .ref u]) nt
    have npt : t ≠ p := fun z => by rw [z, hp6] at nt; cases nt
    have du6 := er_stepsL hp6 npu du oku
    have dt : Dp K (er p (upd H6 t (.tup [.str (wd c (8 + (0 + (i : Int)))), .int v, .ref u]))) (.ref t) (.tuple [.str (wd c (8 + (0 + (i : Int)))), .int v, .list es]) :=
      .tup (sqt ((er_ne npt).trans upd_same)) (.cons (.str _) (.cons (.int _) (.cons (Dp.dm (.of (er_same s7)) du6) .nil)))
    have hp7 := s7 _ _ hp6
    have F7 := F6.same (er_same s7)
    have D7 := DpAll.dm (.of (er_same s7)) D6
    have k7 := k6.trans (.of (er_same s7))
    generalize upd H6 t (.tup [.str (wd c (8 + (0 + (i : Int)))), .int v, .ref u]) = H7 at dt hp7 F7 D7 k7 ⊢
    walk_at "go"
    refine ⟨p, _, _, rfl, rfl, hp7, small1000 (by omega), ?_⟩
    exact ⟨_, _, rfl, _, _, upd_same, by rw [List.length_append, hl3]; rfl, by rw [er_upd]; exact DpAll.app D7 (.cons dt .nil), ok3.snoc ok (by omega) v0 v1 oku, by rw [er_upd]; exact F7, by rw [er_upd]; exact k7⟩
  · obtain ⟨y3, y4, rfl, vs, ds, hp3, hl3, D3, ok3, F3, k3⟩ := hW
    have dl3 := DpAll.len D3
    have L3 := F3.same er_sub
    have k9 := k3.trans (.of er_sub)
    have d9 : Dp K H3 (.ref p) (.list ds) := .lst (sql hp3) (DpAll.dm (.of er_sub) D3)
    have okd : okNames (.list ds) = true := by
      dsimp only [okNames]
      rw [decide_eq_true (show ds.length ≤ 3 by omega), ok3.a, decide_eq_true ok3.n]
      rfl
    walk_at "go"
    refine ⟨by show 4 ≤ sizeLine; decide, fun l nl => ?_⟩
    have s4 := same_new (o := .lst [.int 9, .int 5, .int 3, .int 2]) nl
    obtain ⟨z, hz, z0, z1, z2⟩ : ∃ z : Int, [V.int 9, V.int 5, V.int 3, V.int 2][m]? = some (.int z) ∧ 0 < z ∧ z ≤ 9 ∧ z = [9, 5, 3, 2].getD m 0 := by
      match m, hm with
      | 0, _ => exact ⟨9, rfl, by decide, by decide, rfl⟩
      | 1, _ => exact ⟨5, rfl, by decide, by decide, rfl⟩
      | 2, _ => exact ⟨3, rfl, by decide, by decide, rfl⟩
      | 3, _ => exact ⟨2, rfl, by decide, by decide, rfl⟩
    walk_at "go"
    refine ⟨_, _, _, _, rfl, rfl, sql upd_same, at_any (j := m) rfl hz, ?_⟩
    have L4 := L3.same s4
    have k4 := k9.trans (.of s4)
    have d4 := Dp.dm (.of s4) d9
    generalize upd H3 l (.lst [.int 9, .int 5, .int 3, .int 2]) = H4 at L4 k4 d4 ⊢
    walk_at "go"
    refine use_taken L4 (by omega) (by omega) fun r H5 r0 r1 e5 L5 => ?_
    have d5 := Dp.dm (L4.dm e5) d4
    have k5 := k4.trans e5
    walk_at "go"
    refine ⟨by show 2 ≤ sizeLine; decide, fun t nt => ?_⟩
    have s6 := same_new (o := .tup [.int r, .ref p]) nt
    exact q t p r ds _ (k5.trans (.of s6)) (L5.same s6) (sqt upd_same) r0 ⟨by omega, by omega, hl3⟩ (Dp.dm (.of s6) d5) ok3.a okd
end

/-! ### a market is made -/
/-- all stays but a def's table and the object at p -/
structure Tx (PT p : Addr) (H H' : Hp) : Prop where
  g : GxR.TabG H' PT
  k : ∀ b o, b ≠ p → b ≠ PT → H b = some o → H' b = some o
theorem g_fld {K : PySem.W.Frag} {ta tv : TE} {f : Str} {D : Ends} {σ : L2.St} {H : Hp} (h : tv σ H fun y H1 => ta σ H1 fun x H2 => ∃ a C dx fs, x = .ref a ∧ H2 a = some (.ins C dx fs) ∧ Cls K C ∧ NoAttr K C f ∧ fs.length < 1000 ∧ D.nx σ (upd H2 a (.ins C dx (putF f y fs)))) : sFld K ta tv f D σ H := h
theorem ins_dm {K : PySem.W.Frag} {H H' : Hp} {p C dx : Addr} {fs : List (Str × V)} (hp : H p = some (.ins C dx fs)) (k : ∀ b o, b ≠ p → H b = some o → H' b = some o) : DM K H H' := by
  have rd : ∀ {a : Addr} {u : HO}, (∀ C dx fs, u ≠ .ins C dx fs) → Rd H a u → Rd H' a u := fun hu h => by
    rcases h with h | ⟨o, h⟩
    · exact .inl (k _ _ (fun z => by rw [z, hp] at h; exact hu _ _ _ (Option.some.inj h).symm) h)
    · exact .inr ⟨o, k _ _ (fun z => by rw [z, hp] at h; cases h) h⟩
  refine ⟨fun a xs h => ?_, fun a xs h => ?_⟩
  · rcases h with h | h
    · exact .inl (rd (fun _ _ _ z => by cases z) h)
    · exact .inr h
  · rcases h with h | h
    · exact .inl (rd (fun _ _ _ z => by cases z) h)
    · exact .inr h
theorem Tx.of {PT p : Addr} {H H' : Hp} (t : Tb PT H H') : Tx PT p H H' := ⟨t.g, fun b o _ n h => t.k b o n h⟩
/-! ### a market's object -/
structure Nm where
  x : Str
  b : Int
  st : List (Int × Int)
def DSt (K : PySem.W.Frag) (H : Hp) (s : Int × Int) (v : V) : Prop := ∃ p, v = .ref p ∧ SqT K H p [.int s.1, .int s.2]
def DNm (K : PySem.W.Frag) (H : Hp) (n : Nm) (v : V) : Prop := ∃ p q us, v = .ref p ∧ SqT K H p [.str n.x, .int n.b, .ref q] ∧ SqT K H q us ∧ All2 (DSt K H) n.st us
theorem DSt.tm {K : PySem.W.Frag} {H H' : Hp} (e : TM K H H') : ∀ s v, DSt K H s v → DSt K H' s v := fun _ _ ⟨p, h1, h2⟩ => ⟨p, h1, e _ _ h2⟩
theorem DNm.tm {K : PySem.W.Frag} {H H' : Hp} (e : TM K H H') : ∀ n v, DNm K H n v → DNm K H' n v := fun _ _ ⟨p, q, us, h1, h2, h3, h4⟩ => ⟨p, q, us, h1, e _ _ h2, e _ _ h3, h4.mono (DSt.tm e)⟩
def DMk (K : PySem.W.Frag) (C : Addr) (H : Hp) (la : Int) (ns : List Nm) (a : Addr) : Prop := ∃ dx t us, H a = some (.ins C dx [("last", .int la), ("names", .ref t)]) ∧ SqT K H t us ∧ All2 (DNm K H) ns us
theorem DMk.same {K : PySem.W.Frag} {C : Addr} {H H' : Hp} {la : Int} {ns : List Nm} {a : Addr} (e : Same H H') (h : DMk K C H la ns a) : DMk K C H' la ns a := by
  obtain ⟨dx, t, us, h1, h2, h3⟩ := h
  exact ⟨dx, t, us, e _ _ h1, SqT.same e h2, h3.mono (DNm.tm (.of e))⟩
def stOf : PyData → Int × Int
  | .tuple [.int i, .int j] => (i, j)
  | _ => (0, 0)
def nmOf : PyData → Nm
  | .tuple [.str x, .int b, .list es] => ⟨x, b, es.map stOf⟩
  | _ => ⟨"", 0, []⟩
theorem okStep_ij {d : PyData} (h : okStep d = true) : ∃ i j, d = .tuple [.int i, .int j] := by
  unfold okStep at h
  split at h
  · rename_i a b
    rw [Bool.and_eq_true] at h
    cases a with
    | int i =>
      cases b with
      | int j => exact ⟨i, j, rfl⟩
      | _ => cases h.2
    | _ => cases h.1
  · cases h
theorem okName_parts {d : PyData} (h : okName d = true) : ∃ x b es, d = .tuple [.str x, .int b, .list es] ∧ es.all okStep = true ∧ isW' (.str x) = true := by
  unfold okName at h
  split at h
  · rename_i a b s
    simp only [Bool.and_eq_true] at h
    obtain ⟨h1, h2, h3⟩ := h
    obtain ⟨x, rfl⟩ := isW_str h1
    obtain ⟨es, rfl, _⟩ := okSteps_lst h3
    cases b with
    | int n =>
      dsimp only [okSteps] at h3
      simp only [Bool.and_eq_true] at h3
      exact ⟨x, n, es, rfl, h3.2.2.1, h1⟩
    | _ => cases h2
  · cases h
theorem steps_all2 {K : PySem.W.Frag} {H : Hp} : ∀ {es : List PyData} {vs : List V}, DpAll K H vs es → es.all okStep = true → All2 (DSt K H) (es.map stOf) vs
  | [], _, .nil, _ => trivial
  | e :: es, v :: vs, .cons h r, ok => by
    rw [List.all_cons, Bool.and_eq_true] at ok
    obtain ⟨i, j, rfl⟩ := okStep_ij ok.1
    refine ⟨?_, steps_all2 r ok.2⟩
    cases h with
    | tup ht he =>
    cases he with
    | cons h1 he =>
    cases he with
    | cons h2 he =>
    cases he
    cases h1
    cases h2
    exact ⟨_, rfl, ht⟩
def spMk (K : PySem.W.Frag) (X PT C : Addr) : Sp := fun vs H Q E => ∃ (p dx : Addr) (l n : V) (dl dn : PyData), vs = [.ref p, l, n] ∧ H p = some (.ins C dx []) ∧ Dp K H l dl ∧ Dp K H n dn ∧ szOk dn = true ∧ GxR.TabG H PT ∧
  (okMk dl dn = true → ∀ H', Tx PT p H H' → (∀ la ds, dl = .int la → dn = .list ds → DMk K C H' la (ds.map nmOf) p) → Q .non H') ∧ (okMk dl dn = false → ∀ H', Tx PT p H H' → E (.ref X) none H')
section
variable {P : Program} {w : World} {K : PySem.W.Frag} {mg : Str → Option Value} {base : Heap}
abbrev s_Market : Stmt := inClass (topS 21) 0
theorem sc_Market : FnScope ["self", "last", "names", "name", "number", "steps"] ["self", "last", "names"] (defScope s_Market) := ⟨rfl, rfl, rfl, by decide +kernel, rfl, by decide +kernel, by decide +kernel⟩
theorem h_Market {PT : Addr} {k : Nat} {C_Market f : Addr} {fd : FuncData} (T : ClsT K mg "Market" C_Market f) (O : OwnM K "__init__" "Market.__init__" s_Market ["self", "last", "names"] f fd) (n_last : NoAttr K C_Market "last") (n_names : NoAttr K C_Market "names") {C_BadMarket : Addr} (X_BadMarket : ExcT K mg "BadMarket" C_BadMarket)  {f__need_names : Addr} {fd__need_names : FuncData} (D__need_names : Has P w K mg base "_need_names" ["names"] k (L2.CX P w) (spNNames K C_BadMarket PT) f__need_names fd__need_names) {f_is_between : Addr} {fd_is_between : FuncData} (D_is_between : Has P w K mg base "is_between" ["told", "low", "high"] k CX0 (spBetween K) f_is_between fd_is_between) (m_tuple : mg "tuple" = none) {t_LAST_HOUR : Tok} (m_LAST_HOUR : mg "LAST_HOUR" = some (.int 12 t_LAST_HOUR)) : HasM P w K mg base "Market" ["self", "last", "names"] (k + 2) (L2.CX P w) (spMk K C_BadMarket PT C_Market) C_Market f fd := by
  refine HasM.of T O (O.F.okX sc_Market (fun vs H Q E h => ?_) (fun cdv A outer s H vs Q E hr h => ?_))
  · obtain ⟨p, dx, l, n, dl, dn, rfl, _⟩ := h
    rfl
  obtain ⟨p, dx, l, n, dl, dn, rfl, hp, hl, hn, hz, ht, q0, q1⟩ := h
  refine ⟨_, (pss_cons (ps_if (pt_not (pt_val (pe_call D_is_between.G hr (by rfl) D_is_between.g D_is_between.k D_is_between.b .nil pass0 (pa_cons (pv 1) (pa_cons pe_int (pa_cons (pe_glob (v := .int (12)) (by rfl) m_LAST_HOUR ⟨_, rfl⟩) pa_nil)))))) (pss_one (ps_raise rfl (takes_of rfl rfl rfl rfl) (pmk_own PySem.F.excBase_ValueError X_BadMarket.x X_BadMarket.g X_BadMarket.k (raises_own X_BadMarket.s X_BadMarket.t) rfl))) pss_nil) (pss_cons (ps_expr (pe_call D__need_names.G hr (by rfl) D__need_names.g D__need_names.k D__need_names.b .nil (passes_call (takes_of rfl rfl rfl rfl) (fun _ _ _ _ h => h)) (pa_cons (pv 2) pa_nil))) (pss_cons (ps_fld (pv 0) (pv 1) rfl) (pss_one (ps_fld (pv 0) (pe_callTy call_tuple_of (by rfl) m_tuple (by decide +kernel) (pa_cons (pe_lc (own := [("name", 3), ("number", 4), ("steps", 5)]) (g := gTup K 3 (gCons (gName 3) (gCons (gName 4) (gCons (gName 5) gNil)))) rfl sc_Market.nd (pi_list (pv 2)) (blkOk_by (own := [("name", 3), ("number", 4), ("steps", 5)]) (N := ["self", "last", "names", "name", "number", "steps"]) (sc := defScope s_Market) (by decide +kernel)) (fun _ _ _ _ _ => pg_tup rfl (pgs_cons (pg_name (i := 3) sc_Market.nd rfl (.inl rfl)) (pgs_cons (pg_name (i := 4) sc_Market.nd rfl (.inl rfl)) (pgs_cons (pg_name (i := 5) sc_Market.nd rfl (.inl rfl)) pgs_nil)))) (fun _ _ _ _ _ => pts_nil) (fun _ _ _ _ _ => (pe_tup (pa_cons (pv 3) (pa_cons (pv 4) (pa_cons (pe_callTy (r := rTupOf K) callTupOf (by rfl) m_tuple (by decide +kernel) (pa_cons (pv 5) pa_nil)) pa_nil)))))) pa_nil)) rfl))))), ?_⟩
  walk_at "go"
  refine use_between hl ?_
  walk_at "go"
  refine ifn (fun c1 => ?_) (fun c1 => ?_)
  · walk_at "go"
    refine use_nnames hn hz ht (fun c2 H2 t2 => ?_) (fun c2 H2 t2 => ?_)
    · walk_at "go"
      have np : p ≠ PT := fun z => by
        obtain ⟨ps, e, _⟩ := ht
        rw [← z, hp] at e
        cases e
      have hp2 := t2.k _ _ np hp
      unfold okMk at q0
      rw [c1, c2] at q0
      have q0 := q0 rfl
      refine ⟨_, rfl, _, rfl, p, C_Market, dx, [], rfl, hp2, T.cl, n_last, by decide, ?_⟩
      have k3 : ∀ b o, b ≠ p → H2 b = some o → upd H2 p (.ins C_Market dx (putF "last" l [])) b = some o := fun b o hb z => by rw [upd_ne hb]; exact z
      have hp3 : upd H2 p (.ins C_Market dx (putF "last" l [])) p = some (.ins C_Market dx (putF "last" l [])) := upd_same
      have m3 : DM K H2 (upd H2 p (.ins C_Market dx (putF "last" l []))) := ins_dm hp2 k3
      have x3 : Tx PT p H (upd H2 p (.ins C_Market dx (putF "last" l []))) := by
        obtain ⟨ps, e, z⟩ := t2.g
        exact ⟨⟨ps, k3 _ _ (fun z => np z.symm) e, z⟩, fun b o h1 h2 h => k3 b o h1 (t2.k b o h2 h)⟩
      generalize upd H2 p (.ins C_Market dx (putF "last" l [])) = H3 at k3 hp3 m3 x3 ⊢
      have hn3 : Dp K H3 n dn := Dp.dm ((t2.dm ht).trans m3) hn
      cases hn3 with
      | @lst a vs ds ha hall =>
        have hlen := DpAll.len hall
        obtain ⟨hd3, hal⟩ : ds.length ≤ 3 ∧ ds.all okName = true := by
          dsimp only [okNames] at c2
          simp only [Bool.and_eq_true, decide_eq_true_eq] at c2
          exact ⟨c2.1, c2.2.1⟩
        dsimp only [L2.start]
        refine g_fld ?_
        walk_at "go"
        refine ⟨⟨_, ha⟩, fun D nD => lc_list (xs := vs) (fun i H' => ∃ ys, H' D = some (.lst ys) ∧ ys.length = i ∧ All2 (DNm K H') ((ds.take i).map nmOf) ys ∧ Same H3 H') ⟨[], upd_same, rfl, trivial, same_new nD⟩ (fun i H' _ ⟨_, _, _, _, e⟩ => e.seq ha) (fun i x H' hx hW => ?_) (fun H' hW => ?_)⟩
        · obtain ⟨ys, hD, ly, hys, eD⟩ := hW
          have hi : i < ds.length := by have := (List.getElem?_eq_some_iff.mp hx).1; omega
          have hdi : ds[i]? = some ds[i] := List.getElem?_eq_getElem hi
          obtain ⟨x', hx', dx'⟩ := DpAll.at hall hdi
          obtain rfl : x' = x := Option.some.inj (hx'.symm.trans hx)
          obtain ⟨n1, b1, es1, ed, e2, _⟩ := okName_parts (List.all_eq_true.mp hal _ (List.getElem_mem hi))
          have tm := take_map_snoc (f := nmOf) hdi
          rw [ed] at dx' tm
          replace dx' := Dp.dm (.of eD) dx'
          cases dx' with
          | @tup b us es hb he =>
          cases he with
          | @cons y1 _ _ _ h1 he =>
          cases he with
          | @cons y2 _ _ _ h2 he =>
          cases he with
          | @cons y3 _ _ _ h3 he =>
          cases he
          cases h1
          cases h2
          cases h3 with
          | @lst a3 vs3 _ ha3 hs3 =>
          have st3 := steps_all2 hs3 e2
          refine g_gtup hb rfl ?_
          walk_at "go"
          refine ⟨a3, vs3, rfl, .inl ⟨ha3, fun t nt => ?_⟩⟩
          walk_at "go"
          refine ⟨by show 3 ≤ sizeLine; decide, fun q nq => ?_⟩
          have sq := (same_new (o := .tup vs3) nt).trans (same_new (o := .tup [.str n1, .int b1, .ref t]) nq)
          have hq : SqT K (upd (upd H' t (.tup vs3)) q (.tup [.str n1, .int b1, .ref t])) q [.str n1, .int b1, .ref t] := sqt upd_same
          have htt : SqT K (upd (upd H' t (.tup vs3)) q (.tup [.str n1, .int b1, .ref t])) t vs3 := SqT.same (same_new nq) (sqt upd_same)
          have hDq := sq _ _ hD
          generalize upd (upd H' t (.tup vs3)) q (.tup [.str n1, .int b1, .ref t]) = Hq at sq hq htt hDq ⊢
          refine ⟨ys, hDq, small1000 (by omega), ys ++ [.ref q], upd_same, by rw [List.length_append, ly]; rfl, ?_, fun c o h => by rw [upd_ne (ne_of_none h nD)]; exact sq _ _ (eD _ _ h)⟩
          rw [tm]
          have tl : TM K Hq (upd Hq D (.lst (ys ++ [.ref q]))) := tm_lst hDq
          exact All2.snoc (hys.mono (DNm.tm ((TM.of sq).trans tl))) ⟨q, t, vs3, rfl, tl _ _ hq, tl _ _ htt, st3.mono (DSt.tm ((TM.of sq).trans tl))⟩
        · obtain ⟨ys, hy, ly, hys, e4⟩ := hW
          rw [List.take_of_length_le (by omega)] at hys
          walk_at "go"
          refine ⟨D, ys, rfl, .inl ⟨sql hy, fun t nt => ?_⟩⟩
          have st := same_new (o := .tup ys) nt
          have e5 := e4.trans st
          have ht5 : SqT K (upd H' t (.tup ys)) t ys := sqt upd_same
          have hy5 := hys.mono (DNm.tm (TM.of st))
          generalize upd H' t (.tup ys) = H5 at e5 ht5 hy5 ⊢
          have hp5 := e5 _ _ hp3
          refine ⟨_, rfl, p, C_Market, dx, _, rfl, hp5, T.cl, n_names, by show 1 < 1000; decide, ?_⟩
          have k6 : ∀ b o, b ≠ p → H5 b = some o → upd H5 p (.ins C_Market dx (putF "names" (.ref t) (putF "last" l []))) b = some o := fun b o hb z => by rw [upd_ne hb]; exact z
          have m6 : DM K H5 (upd H5 p (.ins C_Market dx (putF "names" (.ref t) (putF "last" l [])))) := ins_dm hp5 k6
          have hp6 : upd H5 p (.ins C_Market dx (putF "names" (.ref t) (putF "last" l []))) p = some (.ins C_Market dx (putF "names" (.ref t) (putF "last" l []))) := upd_same
          have x5 : Tx PT p H (upd H5 p (.ins C_Market dx (putF "names" (.ref t) (putF "last" l [])))) := by
            obtain ⟨ps, e, z⟩ := x3.g
            exact ⟨⟨ps, by rw [upd_ne (fun z => np z.symm)]; exact e5 _ _ e, z⟩, fun b o h1 h2 h => by rw [upd_ne h1]; exact e5 _ _ (x3.k b o h1 h2 h)⟩
          refine q0 _ x5 fun la ds' el en => ?_
          cases en
          subst el
          cases hl
          exact ⟨dx, t, ys, hp6, m6.t _ _ ht5, hy5.mono (DNm.tm m6.t)⟩
      | _ => cases c2
    · walk_at "go"
      exact q1 (by unfold okMk; rw [c2]; simp) _ (.of t2)
  · walk_at "go"
    exact q1 (by unfold okMk; rw [c1]; rfl) _ (.of (.refl ht))
end
theorem use_mk {K : PySem.W.Frag} {X PT C : Addr} {v1 v2 : V} {d1 d2 : PyData} {H : Hp} {Q : VK} {E : XK} (h1 : Dp K H v1 d1) (h2 : Dp K H v2 d2) (hz : szOk d2 = true) (ht : GxR.TabG H PT)
    (q0 : okMk d1 d2 = true → ∀ a H', H a = none → Tb PT H H' → (∀ la ds, d1 = .int la → d2 = .list ds → DMk K C H' la (ds.map nmOf) a) → Q (.ref a) H') (q1 : okMk d1 d2 = false → ∀ H', Tb PT H H' → E (.ref X) none H') : spNew C (spMk K X PT C) [v1, v2] H Q E := by
  intro a dx na ndx nax
  have s1 : Same H (upd (upd H dx (.own a)) a (.ins C dx [])) := fun b o h => by
    rw [upd_ne (fun z => by rw [z, na] at h; cases h), upd_ne (fun z => by rw [z, ndx] at h; cases h)]
    exact h
  have tb : ∀ {H'}, Tx PT a (upd (upd H dx (.own a)) a (.ins C dx [])) H' → Tb PT H H' := fun x => ⟨x.g, fun b o n h => x.k b o (fun z => by rw [z, na] at h; cases h) n (s1 b o h)⟩
  exact ⟨a, dx, v1, v2, d1, d2, rfl, upd_same, Dp.dm (.of s1) h1, Dp.dm (.of s1) h2, hz, tab_same ht s1, fun e H' x o => ⟨rfl, q0 e a H' na (tb x) o⟩, fun e H' x => q1 e H' (tb x)⟩

/-! ### rows -/
abbrev Row := List (Str × Int)
def dk (R : Row) : List (Key × V) := R.map fun p => (.inr p.1, .int p.2)
theorem dk_int (R : Row) : IntVals (dk R) := fun p h => by
  obtain ⟨q, _, rfl⟩ := List.mem_map.mp h
  exact ⟨q.2, rfl⟩
theorem dk_len (R : Row) : (dk R).length = R.length := by unfold dk; rw [List.length_map]
theorem dk_val (x : Str) : ∀ R : Row, valV (dk R) (.inr x) = (R.lookup x).map V.int
  | [] => rfl
  | (y, i) :: R => by
    have ih := dk_val x R
    unfold valV at ih ⊢
    rw [show dk ((y, i) :: R) = (.inr y, .int i) :: dk R from rfl, List.find?_cons, List.lookup_cons]
    by_cases h : y = x
    · subst h
      simp
    · have e1 : decide ((.inr y : Key) = .inr x) = false := decide_eq_false (fun z => h (Sum.inr.inj z))
      have e2 : (x == y) = false := by rw [beq_eq_false_iff_ne]; exact fun z => h z.symm
      dsimp only
      rw [e1, e2]
      exact ih
def val (R : Row) (x : Str) : Int := (R.lookup x).getD 0
/-- a market's first row -/
def row0 (ns : List Nm) : Row := ns.map fun n => (n.x, n.b)
def hasN (ns : List Nm) (R : Row) : Bool := decide (R.length = ns.length) && (ns.map fun n => (R.lookup n.x).isSome).all id
def leadN (ns : List Nm) (R S : Row) : Bool := (ns.map fun n => decide (val S n.x - val R n.x ∈ n.st.map (·.1))).all id
theorem hasN_at {ns : List Nm} {R : Row} (h : hasN ns R = true) {n : Nm} (hn : n ∈ ns) : R.lookup n.x = some (val R n.x) := by
  unfold hasN at h
  rw [Bool.and_eq_true, List.all_map, List.all_eq_true] at h
  have := h.2 n hn
  unfold val
  cases e : R.lookup n.x with
  | none =>
    rw [show (id ∘ fun n => (R.lookup n.x).isSome) n = (R.lookup n.x).isSome from rfl, e] at this
    cases this
  | some i => rfl
/-- the rows at these addresses -/
def RsAt (H : Hp) (as : List V) (rs : List Row) : Prop := All2 (fun R v => ∃ a, v = .ref a ∧ H a = some (.dK (dk R))) rs as
theorem RsAt.same {H H' : Hp} (e : Same H H') {as : List V} {rs : List Row} (h : RsAt H as rs) : RsAt H' as rs := All2.mono (fun _ _ ⟨a, h1, h2⟩ => ⟨a, h1, e _ _ h2⟩) h
theorem putR_new {x : Str} {v : V} {kvs : List (Key × V)} (h : ∀ p ∈ kvs, p.1 ≠ .inr x) : putK kvs (.inr x) v = kvs ++ [(.inr x, v)] := by
  unfold putK
  rw [if_neg]
  intro z
  obtain ⟨p, hp, e⟩ := List.any_eq_true.mp z
  exact h p hp (of_decide_eq_true e)
def spFirst (K : PySem.W.Frag) (C : Addr) : Sp := fun vs H Q _ => ∃ (a : Addr) (la : Int) (ns : List Nm), vs = [.ref a] ∧ DMk K C H la ns a ∧ ns.length ≤ 3 ∧ ∀ D H', Same H H' → H D = none → H' D = some (.lst (ns.map fun n => .int n.b)) → Q (.ref D) H'
def spRow (K : PySem.W.Frag) (C : Addr) : Sp := fun vs H Q _ => ∃ (a l : Addr) (la : Int) (ns : List Nm) (is : List Int), vs = [.ref a, .ref l] ∧ DMk K C H la ns a ∧ SqL K H l (is.map V.int) ∧ is.length = ns.length ∧ ns.length ≤ 3 ∧ (ns.map (·.x)).Nodup ∧
  ∀ D H', Same H H' → H D = none → H' D = some (.dK (dk ((ns.map (·.x)).zip is))) → Q (.ref D) H'
def spRow0 (K : PySem.W.Frag) (C : Addr) : Sp := fun vs H Q _ => ∃ (a : Addr) (la : Int) (ns : List Nm), vs = [.ref a] ∧ DMk K C H la ns a ∧ ns.length ≤ 3 ∧ (ns.map (·.x)).Nodup ∧ ∀ D H', Same H H' → H D = none → H' D = some (.dK (dk (row0 ns))) → Q (.ref D) H'
def spHasN (K : PySem.W.Frag) (C : Addr) : Sp := fun vs H Q _ => ∃ (a r : Addr) (la : Int) (ns : List Nm) (R : Row), vs = [.ref a, .ref r] ∧ DMk K C H la ns a ∧ ns.length ≤ 3 ∧ H r = some (.dK (dk R)) ∧ ∀ H', Same H H' → Q (.bl (hasN ns R)) H'
def spLeads (K : PySem.W.Frag) (C : Addr) : Sp := fun vs H Q _ => ∃ (a r s : Addr) (la : Int) (ns : List Nm) (R S : Row), vs = [.ref a, .ref r, .ref s] ∧ DMk K C H la ns a ∧ ns.length ≤ 3 ∧ (∀ n ∈ ns, n.st.length ≤ 4) ∧ H r = some (.dK (dk R)) ∧ H s = some (.dK (dk S)) ∧ hasN ns R = true ∧ hasN ns S = true ∧ ∀ H', Same H H' → Q (.bl (leadN ns R S)) H'
section
variable {P : Program} {w : World} {K : PySem.W.Frag} {mg : Str → Option Value} {base : Heap}
abbrev s_Market__first : Stmt := inClass (topS 21) 4
theorem sc_Market__first : FnScope ["self", "name", "number", "steps"] ["self"] (defScope s_Market__first) := ⟨rfl, rfl, rfl, by decide +kernel, rfl, by decide +kernel, by decide +kernel⟩
theorem h_Market__first {k : Nat} {C_Market f : Addr} {fd : FuncData} (cl_Market : Cls K C_Market) (M : Meth K C_Market "_first" f) (O : OwnM K "_first" "Market._first" s_Market__first ["self"] f fd)  (n_Market_names : NoAttr K C_Market "names") : HasMeth P w K mg base C_Market "_first" ["self"] (k + 1) CX0 (spFirst K C_Market) f fd := by
  refine HasMeth.of cl_Market M O (O.F.ok sc_Market__first (fun vs H Q E h => ?_) (fun cdv A outer s H vs Q E hr h => ?_))
  · obtain ⟨a, la, ns, rfl, _⟩ := h
    rfl
  obtain ⟨a, la, ns, rfl, ⟨dx, t, us, ha, ht, hn⟩, hl, q⟩ := h
  refine ⟨_, (pss_one (ps_ret (pe_lc (own := [("name", 1), ("number", 2), ("steps", 3)]) (g := gTup K 3 (gCons (gName 1) (gCons (gName 2) (gCons (gName 3) gNil)))) rfl sc_Market__first.nd (pi_tup (pe_fld (pv 0) rfl)) (blkOk_by (own := [("name", 1), ("number", 2), ("steps", 3)]) (N := ["self", "name", "number", "steps"]) (sc := defScope s_Market__first) (by decide +kernel)) (fun _ _ _ _ _ => pg_tup rfl (pgs_cons (pg_name (i := 1) sc_Market__first.nd rfl (.inl rfl)) (pgs_cons (pg_name (i := 2) sc_Market__first.nd rfl (.inl rfl)) (pgs_cons (pg_name (i := 3) sc_Market__first.nd rfl (.inl rfl)) pgs_nil)))) (fun _ _ _ _ _ => pts_nil) (fun _ _ _ _ _ => (pv 2))))), ?_⟩
  have ln := hn.len
  walk_at "go"
  refine g_rfld ?_
  walk_at "go"
  refine ⟨_, _, _, _, _, rfl, ha, cl_Market, n_Market_names, rfl, ?_⟩
  walk_at "go"
  refine ⟨⟨_, ht⟩, fun D nD => lc_tup (xs := us) (fun i H3 => H3 D = some (.lst ((ns.take i).map fun n => V.int n.b)) ∧ Same H H3) ⟨upd_same, same_new nD⟩ (fun i H3 _ hW => SqT.same hW.2 ht) (fun i x H3 hx hW => ?_) (fun H3 hW => ?_)⟩
  · obtain ⟨hD, e3⟩ := hW
    have hi : i < ns.length := by have := (List.getElem?_eq_some_iff.mp hx).1; omega
    have hni : ns[i]? = some ns[i] := List.getElem?_eq_getElem hi
    obtain ⟨x', hx', p, q', vs, rfl, hp, _, _⟩ := hn.at hni
    cases Option.some.inj (hx'.symm.trans hx)
    refine g_gtup (SqT.same e3 hp) rfl ?_
    walk_at "go"
    refine ⟨_, hD, ?_, ?_, fun b o h => by rw [upd_ne (ne_of_none h nD)]; exact e3 _ _ h⟩
    · rw [List.length_map, List.length_take]
      exact small1000 (by omega)
    · rw [upd_same, take_map_snoc (f := fun n : Nm => V.int n.b) hni]
  · obtain ⟨hD, e3⟩ := hW
    rw [List.take_of_length_le (by omega)] at hD
    walk_at "go"
    exact q D H3 e3 nD hD
abbrev s_Market__row : Stmt := inClass (topS 21) 5
theorem sc_Market__row : FnScope ["self", "numbers", "number", "name", "first", "steps"] ["self", "numbers"] (defScope s_Market__row) := ⟨rfl, rfl, rfl, by decide +kernel, rfl, by decide +kernel, by decide +kernel⟩
theorem h_Market__row {k : Nat} {C_Market f : Addr} {fd : FuncData} (cl_Market : Cls K C_Market) (M : Meth K C_Market "_row" f) (O : OwnM K "_row" "Market._row" s_Market__row ["self", "numbers"] f fd)  (n_Market_names : NoAttr K C_Market "names") (m_zip : mg "zip" = none) : HasMeth P w K mg base C_Market "_row" ["self", "numbers"] (k + 1) CX0 (spRow K C_Market) f fd := by
  refine HasMeth.of cl_Market M O (O.F.ok sc_Market__row (fun vs H Q E h => ?_) (fun cdv A outer s H vs Q E hr h => ?_))
  · obtain ⟨a, l, la, ns, is, rfl, _⟩ := h
    rfl
  obtain ⟨a, l, la, ns, is, rfl, ⟨dx, t, us, ha, ht, hn⟩, hi, li, hl, nd, q⟩ := h
  refine ⟨_, (pss_one (ps_ret (pe_dc (own := [("number", 2), ("name", 3), ("first", 4), ("steps", 5)]) (g := gTup K 2 (gCons (gTup K 3 (gCons (gName 3) (gCons (gName 4) (gCons (gName 5) gNil)))) (gCons (gName 2) gNil))) rfl sc_Market__row.nd (pi_zipM (by rfl) m_zip (pa_cons (pe_fld (pv 0) rfl) (pa_cons (pv 1) pa_nil))) (blkOk_by (own := [("number", 2), ("name", 3), ("first", 4), ("steps", 5)]) (N := ["self", "numbers", "number", "name", "first", "steps"]) (sc := defScope s_Market__row) (by decide +kernel)) (fun _ _ _ _ _ => pg_tup rfl (pgs_cons (pg_tup rfl (pgs_cons (pg_name (i := 3) sc_Market__row.nd rfl (.inl rfl)) (pgs_cons (pg_name (i := 4) sc_Market__row.nd rfl (.inl rfl)) (pgs_cons (pg_name (i := 5) sc_Market__row.nd rfl (.inl rfl)) pgs_nil)))) (pgs_cons (pg_name (i := 2) sc_Market__row.nd rfl (.inl rfl)) pgs_nil))) (fun _ _ _ _ _ => pts_nil) (fun _ _ _ _ _ => (pv 3)) (fun _ _ _ _ _ => (pv 2))))), ?_⟩
  have ln := hn.len
  walk_at "go"
  refine g_dc ?_
  refine g_zipM ?_
  walk_at "go"
  refine g_rfld ?_
  walk_at "go"
  refine ⟨_, _, _, _, _, rfl, ha, cl_Market, n_Market_names, rfl, ?_⟩
  walk_at "go"
  refine ⟨_, _, _, _, rfl, ht, hi, fun D nD => ?_⟩
  refine dc_it (walk_zipM (n := ns.length) (by rw [List.length_map]; omega)) (fun i H3 => H3 D = some (.dK (dk (((ns.map (·.x)).zip is).take i))) ∧ Same H H3) ⟨by rw [upd_same]; rfl, same_new nD⟩ (fun i H3 _ hW => ⟨SqT.same hW.2 ht, hW.2.seq hi⟩) (fun i x H3 H4 lt hW hy => ?_) (fun H3 hW => ?_)
  · obtain ⟨hD, e3⟩ := hW
    obtain ⟨T, u, j, rfl, nT, rfl, hu, hj⟩ := hy
    have hj : (is.map V.int)[i]? = some j := hj
    rw [List.getElem?_map] at hj
    obtain ⟨k, hk, rfl⟩ := Option.map_eq_some_iff.mp hj
    have hni : ns[i]? = some ns[i] := List.getElem?_eq_getElem lt
    obtain ⟨u', hu', p, q', vs, rfl, hp, _, _⟩ := hn.at hni
    cases Option.some.inj (hu'.symm.trans hu)
    have s4 := same_new (o := .tup [.ref p, .int k]) nT
    refine g_gtup (sqt upd_same) rfl ?_
    refine g_gcons ?_
    refine g_gtup (SqT.same (e3.trans s4) hp) rfl ?_
    walk_at "go"
    have hD4 := s4 _ _ hD
    have e4 := e3.trans s4
    generalize upd H3 T (.tup [.ref p, .int k]) = H4 at hD4 e4 ⊢
    have hz : ((ns.map (·.x)).zip is)[i]? = some (ns[i].x, k) := by
      rw [List.getElem?_zip_eq_some]
      exact ⟨by rw [List.getElem?_map, hni]; rfl, hk⟩
    have hzl : ((ns.map (·.x)).zip is).length = ns.length := by rw [List.length_zip, List.length_map]; omega
    have fresh : ∀ q ∈ dk (((ns.map (·.x)).zip is).take i), q.1 ≠ .inr ns[i].x := fun q hq z => by
      obtain ⟨r, hr, rfl⟩ := List.mem_map.mp hq
      have z : r.1 = ns[i].x := Sum.inr.inj z
      obtain ⟨j, hj, ej⟩ := List.mem_take_iff_getElem.mp hr
      have hj1 : j < i := by omega
      have hj2 : j < ns.length := by omega
      have e2 : (((ns.map (·.x)).zip is)[j]'(by omega)).1 = ns[j].x := by simp
      rw [ej, z] at e2
      have ne := List.pairwise_iff_getElem.mp nd j i (by rw [List.length_map]; exact hj2) (by rw [List.length_map]; exact lt) hj1
      simp only [List.getElem_map] at ne
      exact ne e2.symm
    refine ⟨_, .inr ns[i].x, rfl, hD4, ?_, ?_, fun b o h => by rw [upd_ne (ne_of_none h nD)]; exact e4 _ _ h⟩
    · rw [dk_len, List.length_take]
      exact small1000 (by omega)
    · rw [upd_same, putR_new fresh, List.take_succ, hz]
      unfold dk
      rw [List.map_append]
      rfl
  · obtain ⟨hD, e3⟩ := hW
    rw [List.take_of_length_le (by rw [List.length_zip, List.length_map]; omega)] at hD
    walk_at "go"
    exact q D H3 e3 nD hD
end

/-! ### the futures of a market, plainly -/
theorem fm_take {α β : Type} {f : α → List β} {l : List α} {i : Nat} {a : α} (h : l[i]? = some a) : (l.take (i + 1)).flatMap f = (l.take i).flatMap f ++ f a := by
  rw [List.take_succ, h, List.flatMap_append]
  simp
def mvS (ways : List (List Int × Int)) (p : Nm × Int) : List (List Int × Int) := ways.flatMap fun a => p.1.st.map fun s => (a.1 ++ [p.2 + s.1], a.2 * s.2)
def mv (ps : List (Nm × Int)) : List (List Int × Int) := ps.foldl mvS [([], 1)]
def wOk (ns : List Nm) : Prop := ∀ n ∈ ns, n.st.length ≤ 4 ∧ 1 ≤ n.st.length ∧ ∀ s ∈ n.st, 0 ≤ s.2 ∧ s.2 ≤ 999
def prodN (ns : List Nm) : Nat := ns.foldl (fun c n => c * n.st.length) 1
def cntN (la : Int) (ns : List Nm) : Nat := prodN ns ^ la.toNat
theorem sum_const {α : Type} (c : Nat) : ∀ l : List α, (l.map fun _ => c).sum = l.length * c
  | [] => by simp
  | _ :: l => by rw [List.map_cons, List.sum_cons, sum_const c l, List.length_cons, Nat.add_mul]; omega
theorem prod_from (ns : List Nm) : ∀ c : Nat, ns.foldl (fun c n => c * n.st.length) c = c * prodN ns := by
  unfold prodN
  induction ns with
  | nil => intro c; simp
  | cons n ns ih =>
    intro c
    rw [List.foldl_cons, List.foldl_cons, ih, ih (1 * n.st.length)]
    simp [Nat.mul_assoc]
theorem prodN_cons (n : Nm) (ns : List Nm) : prodN (n :: ns) = n.st.length * prodN ns := by
  show ns.foldl (fun c n => c * n.st.length) (1 * n.st.length) = _
  rw [prod_from, Nat.one_mul]
theorem prod_pos {ns : List Nm} (h : wOk ns) : 0 < prodN ns ∧ prodN ns ≤ 4 ^ ns.length := by
  unfold prodN
  induction ns with
  | nil => simp
  | cons n ns ih =>
    have a := ih fun m hm => h m (List.mem_cons_of_mem _ hm)
    have b := h n List.mem_cons_self
    rw [List.foldl_cons, prod_from]
    unfold prodN
    refine ⟨Nat.mul_pos (by omega) a.1, ?_⟩
    rw [List.length_cons, Nat.pow_succ, Nat.one_mul, Nat.mul_comm]
    exact Nat.mul_le_mul a.2 b.1
theorem mvS_len {ws : List (List Int × Int)} {p : Nm × Int} : (mvS ws p).length = ws.length * p.1.st.length := by
  unfold mvS
  rw [List.length_flatMap, List.map_congr_left (g := fun _ => p.1.st.length) (fun a _ => List.length_map _), sum_const]
theorem mv_from_len (ps : List (Nm × Int)) : ∀ ws, (ps.foldl mvS ws).length = ws.length * prodN (ps.map (·.1)) := by
  induction ps with
  | nil => intro ws; simp [prodN]
  | cons p ps ih =>
    intro ws
    rw [List.foldl_cons, ih, mvS_len, List.map_cons, prodN_cons, Nat.mul_assoc]
theorem mv_from_ok (ps : List (Nm × Int)) : ∀ (ws : List (List Int × Int)) (B : Int) (k : Nat), (∀ p ∈ ps, ∀ s ∈ p.1.st, 0 ≤ s.2 ∧ s.2 ≤ 999) → (∀ w ∈ ws, (0 ≤ w.2 ∧ w.2 ≤ B) ∧ w.1.length = k) → ∀ w ∈ ps.foldl mvS ws, (0 ≤ w.2 ∧ w.2 ≤ B * 999 ^ ps.length) ∧ w.1.length = k + ps.length := by
  induction ps with
  | nil =>
    intro ws B k _ h w hw
    simpa using h w hw
  | cons p ps ih =>
    intro ws B k hp h w hw
    rw [List.foldl_cons] at hw
    have z := ih (mvS ws p) (B * 999) (k + 1) (fun q hq => hp q (List.mem_cons_of_mem _ hq)) (fun v hv => by
      unfold mvS at hv
      obtain ⟨a, ha, hv⟩ := List.mem_flatMap.mp hv
      obtain ⟨s, hs, rfl⟩ := List.mem_map.mp hv
      obtain ⟨⟨a0, a1⟩, a2⟩ := h a ha
      obtain ⟨s0, s1⟩ := hp p List.mem_cons_self s hs
      refine ⟨⟨Int.mul_nonneg a0 s0, Int.mul_le_mul a1 s1 s0 (by omega)⟩, by simp [a2]⟩) w hw
    rw [List.length_cons]
    refine ⟨⟨z.1.1, ?_⟩, by omega⟩
    have e : B * 999 ^ (ps.length + 1) = B * 999 * 999 ^ ps.length := by
      rw [Int.pow_succ, Int.mul_assoc, Int.mul_comm 999]
    rw [e]
    exact z.1.2
theorem mv_ok {ns : List Nm} {is : List Int} (h : wOk ns) (hl : is.length = ns.length) (h3 : ns.length ≤ 3) : (mv (ns.zip is)).length = prodN ns ∧ ∀ w ∈ mv (ns.zip is), (0 ≤ w.2 ∧ w.2 ≤ 997002999) ∧ w.1.length = ns.length := by
  have zl : (ns.zip is).length = ns.length := by rw [List.length_zip]; omega
  have zf : (ns.zip is).map (·.1) = ns := by rw [List.map_fst_zip]; omega
  refine ⟨by unfold mv; rw [mv_from_len, zf]; simp, fun w hw => ?_⟩
  have z := mv_from_ok (ns.zip is) [([], 1)] 1 0 (fun p hp s hs => (h p.1 (List.of_mem_zip (a := p.1) (b := p.2) hp).1).2.2 s hs) (fun w hw => by rw [List.mem_singleton.mp hw]; decide) w hw
  rw [zl] at z
  refine ⟨⟨z.1.1, Int.le_trans z.1.2 ?_⟩, by omega⟩
  have : ns.length = 0 ∨ ns.length = 1 ∨ ns.length = 2 ∨ ns.length = 3 := by omega
  rcases this with e | e | e | e <;> rw [e] <;> decide
theorem mv_take {ns : List Nm} {is : List Int} (h : wOk ns) (hl : is.length = ns.length) (h3 : ns.length ≤ 3) (i : Nat) : (mv ((ns.zip is).take i)).length ≤ 64 ∧ ∀ w ∈ mv ((ns.zip is).take i), (0 ≤ w.2 ∧ w.2 ≤ 997002999) ∧ w.1.length ≤ 3 := by
  have e : (ns.zip is).take i = (ns.take i).zip (is.take i) := List.take_zipWith
  have a := mv_ok (ns := ns.take i) (is := is.take i) (fun n hn => h n (List.mem_of_mem_take hn)) (by rw [List.length_take, List.length_take]; omega) (by rw [List.length_take]; omega)
  have b := (prod_pos (ns := ns.take i) (fun n hn => h n (List.mem_of_mem_take hn))).2
  have c : (ns.take i).length ≤ 3 := by rw [List.length_take]; omega
  have d : 4 ^ (ns.take i).length ≤ 4 ^ 3 := Nat.pow_le_pow_right (by decide) c
  rw [e]
  refine ⟨by rw [a.1]; omega, fun w hw => ⟨(a.2 w hw).1, by rw [(a.2 w hw).2]; exact c⟩⟩
def lastL (w : List (List Int)) : List Int := w.getLast?.getD []
def fuS (ns : List Nm) (ws : List (List (List Int) × Int)) : List (List (List Int) × Int) := ws.flatMap fun a => (mv (ns.zip (lastL a.1))).map fun b => (a.1 ++ [b.1], a.2 * b.2)
def fu (ns : List Nm) : Nat → List (List (List Int) × Int)
  | 0 => [([ns.map (·.b)], 1)]
  | h + 1 => fuS ns (fu ns h)
theorem lastL_snoc (w : List (List Int)) (x : List Int) : lastL (w ++ [x]) = x := by
  unfold lastL
  simp
theorem fu_ok {ns : List Nm} (h : wOk ns) (h3 : ns.length ≤ 3) : ∀ k, (fu ns k).length = prodN ns ^ k ∧ ∀ w ∈ fu ns k, (∃ u x, w.1 = u ++ [x]) ∧ w.1.length = k + 1 ∧ ∀ is ∈ w.1, is.length = ns.length
  | 0 => by
    refine ⟨by simp [fu], fun w hw => ?_⟩
    rw [show fu ns 0 = [([ns.map (·.b)], 1)] from rfl, List.mem_singleton] at hw
    subst hw
    exact ⟨⟨[], _, rfl⟩, rfl, fun is hi => by rw [List.mem_singleton.mp hi, List.length_map]⟩
  | k + 1 => by
    obtain ⟨a, b⟩ := fu_ok h h3 k
    have lst : ∀ w ∈ fu ns k, (lastL w.1).length = ns.length := fun w hw => by
      obtain ⟨⟨u, x, e⟩, _, c⟩ := b w hw
      rw [e, lastL_snoc]
      exact c x (by rw [e]; simp)
    refine ⟨?_, fun w hw => ?_⟩
    · show (fuS ns (fu ns k)).length = _
      unfold fuS
      rw [List.length_flatMap, List.map_congr_left (g := fun _ => prodN ns) (fun w hw => by rw [List.length_map]; exact (mv_ok h (lst w hw) h3).1), sum_const, a, Nat.pow_succ]
    · have hw : w ∈ fuS ns (fu ns k) := hw
      unfold fuS at hw
      obtain ⟨c, hc, hw⟩ := List.mem_flatMap.mp hw
      obtain ⟨d, hd, rfl⟩ := List.mem_map.mp hw
      obtain ⟨_, e2, e3⟩ := b c hc
      refine ⟨⟨_, _, rfl⟩, by simp [e2], fun is hi => ?_⟩
      rcases List.mem_append.mp hi with hi | hi
      · exact e3 is hi
      · rw [List.mem_singleton.mp hi]
        exact ((mv_ok h (lst c hc) h3).2 d hd).2
/-! ### as they lie in the heap -/
def IsR (H : Hp) (is : List Int) (v : V) : Prop := ∃ b, v = .ref b ∧ H b = some (.lst (is.map V.int))
def MvR (K : PySem.W.Frag) (H0 H : Hp) (w : List Int × Int) (v : V) : Prop := ∃ p b, v = .ref p ∧ SqT K H p [.ref b, .int w.2] ∧ H b = some (.lst (w.1.map V.int)) ∧ H0 b = none
def WyR (K : PySem.W.Frag) (H : Hp) (w : List (List Int) × Int) (v : V) : Prop := ∃ p l vs, v = .ref p ∧ SqT K H p [.ref l, .int w.2] ∧ H l = some (.lst vs) ∧ All2 (IsR H) w.1 vs
theorem IsR.same {H H' : Hp} (e : Same H H') : ∀ is v, IsR H is v → IsR H' is v := fun _ _ ⟨b, h1, h2⟩ => ⟨b, h1, e _ _ h2⟩
theorem MvR.same {K : PySem.W.Frag} {H0 H H' : Hp} (e : Same H H') : ∀ w v, MvR K H0 H w v → MvR K H0 H' w v := fun _ _ ⟨p, b, h1, h2, h3, h4⟩ => ⟨p, b, h1, SqT.same e h2, e _ _ h3, h4⟩
theorem SqT.er {K : PySem.W.Frag} {H : Hp} {D p : Addr} {ws xs : List V} (hD : H D = some (.lst ws)) (h : SqT K H p xs) : SqT K (er D H) p xs := by
  rcases h with (h | ⟨o, h⟩) | h
  · exact .inl (.inl (by rw [er_ne (fun z => by rw [z, hD] at h; cases h)]; exact h))
  · exact .inl (.inr ⟨o, by rw [er_ne (fun z => by rw [z, hD] at h; cases h)]; exact h⟩)
  · exact .inr h
theorem WyR.same {K : PySem.W.Frag} {H H' : Hp} (e : Same H H') : ∀ w v, WyR K H w v → WyR K H' w v := fun _ _ ⟨p, l, vs, h1, h2, h3, h4⟩ => ⟨p, l, vs, h1, SqT.same e h2, e _ _ h3, h4.mono (IsR.same e)⟩
theorem All2.one {α β : Type} {R : α → β → Prop} {a : α} {b : β} (h : R a b) : All2 R [a] [b] := ⟨h, trivial⟩
theorem All2.append {α β : Type} {R : α → β → Prop} : ∀ {as cs : List α} {bs ds : List β}, All2 R as bs → All2 R cs ds → All2 R (as ++ cs) (bs ++ ds)
  | [], _, [], _, _, h => h
  | _ :: _, _, _ :: _, _, h, g => ⟨h.1, All2.append h.2 g⟩
  | [], _, _ :: _, _, h, _ => h.elim
  | _ :: _, _, [], _, h, _ => h.elim
def spCount (K : PySem.W.Frag) (C : Addr) : Sp := fun vs H Q _ => ∃ (a : Addr) (la : Int) (ns : List Nm), vs = [.ref a] ∧ DMk K C H la ns a ∧ ns.length ≤ 3 ∧ wOk ns ∧ 0 ≤ la ∧ la ≤ 12 ∧ Q (.int (cntN la ns)) H
def spMoved (K : PySem.W.Frag) (C : Addr) : Sp := fun vs H Q _ => ∃ (a l : Addr) (la : Int) (ns : List Nm) (is : List Int), vs = [.ref a, .ref l] ∧ DMk K C H la ns a ∧ ns.length ≤ 3 ∧ wOk ns ∧ SqL K H l (is.map V.int) ∧ is.length = ns.length ∧
  ∀ D vs H', Same H H' → H D = none → H' D = some (.lst vs) → All2 (MvR K H H') (mv (ns.zip is)) vs → Q (.ref D) H'
section
variable {P : Program} {w : World} {K : PySem.W.Frag} {mg : Str → Option Value} {base : Heap}
abbrev s_Market__count : Stmt := inClass (topS 21) 6
theorem sc_Market__count : FnScope ["self", "count", "_", "name", "number", "steps"] ["self"] (defScope s_Market__count) := ⟨rfl, rfl, rfl, by decide +kernel, rfl, by decide +kernel, by decide +kernel⟩
theorem h_Market__count {k : Nat} {C_Market f : Addr} {fd : FuncData} (cl_Market : Cls K C_Market) (M : Meth K C_Market "_count" f) (O : OwnM K "_count" "Market._count" s_Market__count ["self"] f fd)  (n_Market_last : NoAttr K C_Market "last") (n_Market_names : NoAttr K C_Market "names") (m_range : mg "range" = none) (m_len : mg "len" = none) : HasMeth P w K mg base C_Market "_count" ["self"] (k + 1) CX0 (spCount K C_Market) f fd := by
  refine HasMeth.of cl_Market M O (O.F.ok sc_Market__count (fun vs H Q E h => ?_) (fun cdv A outer s H vs Q E hr h => ?_))
  · obtain ⟨a, la, ns, rfl, _⟩ := h
    rfl
  obtain ⟨a, la, ns, rfl, ⟨dx, t, us, ha, ht, hn⟩, hl, hw, l0, l1, q⟩ := h
  refine ⟨_, (pss_cons (ps_set (i := 1) sc_Market__count.nd rfl (.inl rfl) pe_int) (pss_cons (ps_for PassesOwn.never rfl (pi_range1 (by rfl) m_range (pa_cons (pe_fld (pv 0) rfl) pa_nil)) (pg_name (i := 2) sc_Market__count.nd rfl (.inl rfl)) (pss_one (ps_for PassesOwn.never rfl (pi_tup (pe_fld (pv 0) rfl)) (pg_tup rfl (pgs_cons (pg_name (i := 3) sc_Market__count.nd rfl (.inl rfl)) (pgs_cons (pg_name (i := 4) sc_Market__count.nd rfl (.inl rfl)) (pgs_cons (pg_name (i := 5) sc_Market__count.nd rfl (.inl rfl)) pgs_nil)))) (pss_one (ps_aug (i := 1) sc_Market__count.nd rfl (.inl rfl) (pe_callB call_len_seq (by rfl) m_len (by decide +kernel) (pa_cons (pv 5) pa_nil)) ip_mul))))) (pss_one (ps_ret (pv 1))))), ?_⟩
  have ln := hn.len
  walk_at "go"
  refine g_rfld ?_
  walk_at "go"
  refine ⟨_, _, _, _, _, rfl, ha, cl_Market, n_Market_last, rfl, ?_⟩
  walk_at "go"
  refine ⟨by omega, by omega, for_range (lo := 0) (n := la.toNat) (fun i σ H3 => ∃ y2 y3 y4 y5, σ = [some (.ref a), some (.int ((prodN ns ^ i : Nat) : Int)), y2, y3, y4, y5] ∧ H3 = H) ⟨_, _, _, _, rfl, rfl⟩ (fun i σ H3 hi hW => ?_) (fun σ H3 hW => ?_)⟩
  · obtain ⟨y2, y3, y4, y5, rfl, rfl⟩ := hW
    walk_at "go"
    refine g_rfld ?_
    walk_at "go"
    refine ⟨_, _, _, _, _, rfl, ha, cl_Market, n_Market_names, rfl, ?_⟩
    walk_at "go"
    refine ⟨⟨_, ht⟩, for_it (walk_tup (xs := us)) (fun j σ H4 => ∃ y2 y3 y4 y5, σ = [some (.ref a), some (.int ((prodN ns ^ i * prodN (ns.take j) : Nat) : Int)), y2, y3, y4, y5] ∧ H4 = H3) ⟨_, _, _, _, congrArg (fun z : Nat => [some (V.ref a), some (V.int (z : Int)), _, _, _, _]) (show prodN ns ^ i = prodN ns ^ i * prodN (ns.take 0) by simp [prodN]), rfl⟩ (fun j σ H4 hj hV => ?_) (fun j x σ H4 H5 hj hV hy => ?_) (fun σ H4 hV => ?_)⟩
    · obtain ⟨_, _, _, _, _, rfl⟩ := hV
      exact ht
    · obtain ⟨y2, y3, y4, y5, rfl, rfl⟩ := hV
      obtain ⟨rfl, hx⟩ := hy
      have hjn : ns[j]? = some (ns[j]'(by omega)) := List.getElem?_eq_getElem (by omega)
      obtain ⟨x', hx', p, q', vs, rfl, hp, hq', hvs⟩ := hn.at hjn
      cases Option.some.inj (hx'.symm.trans hx)
      have lv := hvs.len
      have wj := hw _ (List.getElem_mem (show j < ns.length by omega))
      refine g_gtup hp rfl ?_
      walk_at "go"
      refine ⟨_, rfl, ?_⟩
      walk_at "go"
      refine ⟨_, _, rfl, .inr hq', ?_⟩
      refine ⟨_, _, rfl, rfl, .inr (by omega), ?_⟩
      walk_at "go"
      have e : ((prodN ns ^ i * prodN (ns.take j) : Nat) : Int) * (vs.length : Int) = ((prodN ns ^ i * prodN (ns.take (j + 1)) : Nat) : Int) := by
        have t1 : ns.take (j + 1) = ns.take j ++ [ns[j]'(by omega)] := by rw [List.take_succ, hjn]; rfl
        have t2 : prodN (ns.take (j + 1)) = prodN (ns.take j) * (ns[j]'(by omega)).st.length := by
          rw [t1]
          unfold prodN
          rw [List.foldl_append]
          rfl
        rw [t2, ← lv]
        push_cast
        rw [Int.mul_assoc]
      rw [e]
      exact ⟨_, _, _, _, rfl, rfl⟩
    · obtain ⟨y2, y3, y4, y5, rfl, rfl⟩ := hV
      rw [← ln, List.take_length]
      exact ⟨_, _, _, _, by rw [Nat.pow_succ], rfl⟩
  · obtain ⟨y2, y3, y4, y5, rfl, rfl⟩ := hW
    walk_at "go"
    exact q
end

section
variable {P : Program} {w : World} {K : PySem.W.Frag} {mg : Str → Option Value} {base : Heap}
abbrev s_Market__moved : Stmt := inClass (topS 21) 7
theorem sc_Market__moved : FnScope ["self", "numbers", "ways", "name", "first", "steps", "number", "after", "weight", "step", "times"] ["self", "numbers"] (defScope s_Market__moved) := ⟨rfl, rfl, rfl, by decide +kernel, rfl, by decide +kernel, by decide +kernel⟩
theorem h_Market__moved {k : Nat} {C_Market f : Addr} {fd : FuncData} (cl_Market : Cls K C_Market) (M : Meth K C_Market "_moved" f) (O : OwnM K "_moved" "Market._moved" s_Market__moved ["self", "numbers"] f fd)  (n_Market_names : NoAttr K C_Market "names") (m_zip : mg "zip" = none) : HasMeth P w K mg base C_Market "_moved" ["self", "numbers"] (k + 1) CX0 (spMoved K C_Market) f fd := by
  refine HasMeth.of cl_Market M O (O.F.ok sc_Market__moved (fun vs H Q E h => ?_) (fun cdv A outer s H vs Q E hr h => ?_))
  · obtain ⟨a, l, la, ns, is, rfl, _⟩ := h
    rfl
  obtain ⟨a, l, la, ns, is, rfl, ⟨dx, t, us, ha, ht, hn⟩, hl, hw, hi, li, q⟩ := h
  refine ⟨_, (pss_cons (ps_set (i := 2) sc_Market__moved.nd rfl (.inl rfl) (pe_lst (pa_cons (pe_tup (pa_cons (pe_lst pa_nil) (pa_cons pe_int pa_nil))) pa_nil))) (pss_cons (ps_for PassesOwn.never rfl (pi_zipM (by rfl) m_zip (pa_cons (pe_fld (pv 0) rfl) (pa_cons (pv 1) pa_nil))) (pg_tup rfl (pgs_cons (pg_tup rfl (pgs_cons (pg_name (i := 3) sc_Market__moved.nd rfl (.inl rfl)) (pgs_cons (pg_name (i := 4) sc_Market__moved.nd rfl (.inl rfl)) (pgs_cons (pg_name (i := 5) sc_Market__moved.nd rfl (.inr rfl)) pgs_nil)))) (pgs_cons (pg_name (i := 6) sc_Market__moved.nd rfl (.inr rfl)) pgs_nil))) (pss_one (ps_setLc2 (i := 2) (own := [("after", 7), ("weight", 8), ("step", 9), ("times", 10)]) (vs1 := [9, 10]) (g := gTup K 2 (gCons (gName 7) (gCons (gName 8) gNil))) (g1 := gTup K 2 (gCons (gName 9) (gCons (gName 10) gNil))) rfl sc_Market__moved.nd rfl rfl (sw_true rfl rfl rfl (by decide +kernel)) (pi_list (pv 2)) (blkOk_by (own := [("after", 7), ("weight", 8), ("step", 9), ("times", 10)]) (N := ["self", "numbers", "ways", "name", "first", "steps", "number", "after", "weight", "step", "times"]) (sc := defScope s_Market__moved) (by decide +kernel)) (by decide) (fun _ _ _ _ _ => pg_tup rfl (pgs_cons (pg_name (i := 7) sc_Market__moved.nd rfl (.inl rfl)) (pgs_cons (pg_name (i := 8) sc_Market__moved.nd rfl (.inl rfl)) pgs_nil))) (fun _ _ _ _ _ => pts_nil) (fun _ _ _ _ _ => (pi_tupK (K := K) rfl (pv 5))) (fun _ _ _ _ _ => pg_tup rfl (pgs_cons (pg_name (i := 9) sc_Market__moved.nd rfl (.inl rfl)) (pgs_cons (pg_name (i := 10) sc_Market__moved.nd rfl (.inl rfl)) pgs_nil))) (fun _ _ _ _ _ => pts_nil) (fun _ _ _ _ _ => (pe_tup (pa_cons (pe_op op_cat (pv 7) (pe_lst (pa_cons (pe_op op_add (pv 6) (pv 9)) pa_nil))) (pa_cons (pe_op op_mul (pv 8) (pv 10)) pa_nil))))))) (pss_one (ps_ret (pv 2))))), ?_⟩
  have ln := hn.len
  walk_at "go"
  refine ⟨by show 0 ≤ sizeLine; decide, fun b0 n0 => ?_⟩
  have s1 := same_new (o := .lst []) n0
  have hb1 : (upd H b0 (.lst [])) b0 = some (.lst []) := upd_same
  generalize upd H b0 (.lst []) = H1 at s1 hb1 ⊢
  walk_at "go"
  refine ⟨by show 2 ≤ sizeLine; decide, fun p0 m0 => ?_⟩
  have s2 := same_new (o := .tup [.ref b0, .int 1]) m0
  have hp2 : SqT K (upd H1 p0 (.tup [.ref b0, .int 1])) p0 [.ref b0, .int 1] := sqt upd_same
  have hb2 := s2 _ _ hb1
  replace s2 := s1.trans s2
  generalize upd H1 p0 (.tup [.ref b0, .int 1]) = H2 at s2 hb2 hp2 ⊢
  walk_at "go"
  refine ⟨by show 1 ≤ sizeLine; decide, fun W0 k0 => ?_⟩
  have s3 := same_new (o := .lst [.ref p0]) k0
  have hW3 : (upd H2 W0 (.lst [.ref p0])) W0 = some (.lst [.ref p0]) := upd_same
  have hb3 := s3 _ _ hb2
  have hp3 := SqT.same s3 hp2
  replace s3 := s2.trans s3
  have nW0 : H W0 = none := fresh_same s2 k0
  generalize upd H2 W0 (.lst [.ref p0]) = H3 at s3 hb3 hp3 hW3 ⊢
  walk_at "go"
  refine g_zipM ?_
  walk_at "go"
  refine g_rfld ?_
  walk_at "go"
  refine ⟨_, _, _, _, _, rfl, s3 _ _ ha, cl_Market, n_Market_names, rfl, ?_⟩
  walk_at "go"
  refine ⟨_, _, _, _, rfl, SqT.same s3 ht, s3.seq hi, ?_⟩
  refine for_it (walk_zipM (xs := us) (ys := is.map V.int) (n := ns.length) (by rw [List.length_map]; omega)) (fun i σ H4 => ∃ W y3 y4 y5 y6 vs, σ = [some (.ref a), some (.ref l), some (.ref W), y3, y4, y5, y6, none, none, none, none] ∧ Same H H4 ∧ H W = none ∧ H4 W = some (.lst vs) ∧ All2 (MvR K H H4) (mv ((ns.zip is).take i)) vs)
    ⟨W0, _, _, _, _, _, rfl, s3, nW0, hW3, All2.one ⟨p0, b0, rfl, hp3, hb3, n0⟩⟩ (fun i σ H4 _ hW => ?_) (fun i x σ H4 H5 hi4 hW hy => ?_) (fun σ H4 hW => ?_)
  · obtain ⟨_, _, _, _, _, _, _, e, _⟩ := hW
    exact ⟨SqT.same e ht, e.seq hi⟩
  · obtain ⟨W, y3, y4, y5, y6, vs, rfl, e4, nW, hW4, hvs⟩ := hW
    obtain ⟨T, u, j, rfl, nT, rfl, hu, hj⟩ := hy
    have hj : (is.map V.int)[i]? = some j := hj
    rw [List.getElem?_map] at hj
    obtain ⟨k, hk, rfl⟩ := Option.map_eq_some_iff.mp hj
    have hni : ns[i]? = some ns[i] := List.getElem?_eq_getElem hi4
    obtain ⟨u', hu', p, q', us', rfl, hp, hq', hus'⟩ := hn.at hni
    cases Option.some.inj (hu'.symm.trans hu)
    have s5 := same_new (o := .tup [.ref p, .int k]) nT
    refine g_gtup (sqt upd_same) rfl ?_
    refine g_gcons ?_
    refine g_gtup (SqT.same (e4.trans s5) hp) rfl ?_
    walk_at "go"
    have hW5 := s5 _ _ hW4
    have e5 := e4.trans s5
    replace hvs := hvs.mono (MvR.same s5)
    generalize upd H4 T (.tup [.ref p, .int k]) = H5 at hW5 e5 hvs ⊢
    have hz : (ns.zip is)[i]? = some (ns[i], k) := by
      rw [List.getElem?_zip_eq_some]
      exact ⟨hni, hk⟩
    have hst := hus'.len
    have hwi := hw _ (List.getElem_mem hi4)
    have okw := mv_take hw li hl i
    have step : mv ((ns.zip is).take (i + 1)) = (mv ((ns.zip is).take i)).flatMap fun a => ns[i].st.map fun s => (a.1 ++ [k + s.1], a.2 * s.2) := by
      rw [List.take_succ, hz]
      unfold mv
      rw [List.foldl_append]
      rfl
    have lvs := hvs.len
    refine g_lc2 ?_
    walk_at "go"
    refine ⟨⟨_, sql hW5⟩, fun D nD => ?_⟩
    refine lc2_it (walk_list (xs := vs)) (fun c Hc => ∃ ws, Hc D = some (.lst ws) ∧ Same H5 (er D Hc) ∧ All2 (MvR K H (er D Hc)) (((mv ((ns.zip is).take i)).take c).flatMap fun a => ns[i].st.map fun s => (a.1 ++ [k + s.1], a.2 * s.2)) ws)
      ⟨[], upd_same, by rw [er_upd, er_new nD]; exact .refl _, trivial⟩ (fun c Hc _ hC => ?_) (fun c x Hc Hc' hc hC hy => ?_) (fun Hc hC => ?_)
    · obtain ⟨ws, _, e, _⟩ := hC
      exact (e.trans er_sub).seq (sql hW5)
    · obtain ⟨ws, hD, eC, hws⟩ := hC
      obtain ⟨rfl, hx⟩ := hy
      have hci : (mv ((ns.zip is).take i))[c]? = some ((mv ((ns.zip is).take i))[c]'(by omega)) := List.getElem?_eq_getElem (by omega)
      obtain ⟨x', hx', pp, bb, rfl, hpp, hbb, _⟩ := hvs.at hci
      cases Option.some.inj (hx'.symm.trans hx)
      have wc := okw.2 _ (List.getElem_mem (show c < (mv ((ns.zip is).take i)).length by omega))
      have fmt := fm_take (f := fun a : List Int × Int => ns[i].st.map fun s => (a.1 ++ [k + s.1], a.2 * s.2)) hci
      generalize (mv ((ns.zip is).take i))[c]'(by omega) = wcur at hpp hbb wc fmt
      have eC5 := eC.trans er_sub
      refine g_gtup (SqT.same eC5 hpp) rfl ?_
      walk_at "go"
      refine ⟨⟨_, SqT.same (e5.trans eC5) hq'⟩, ?_⟩
      refine lc2_in (walk_tup (xs := us')) (fun d Hd => ∃ ws, Hd D = some (.lst ws) ∧ Same H5 (er D Hd) ∧ All2 (MvR K H (er D Hd)) ((((mv ((ns.zip is).take i)).take c).flatMap fun a => ns[i].st.map fun s => (a.1 ++ [k + s.1], a.2 * s.2)) ++ ((ns[i].st.take d).map fun s => (wcur.1 ++ [k + s.1], wcur.2 * s.2))) ws)
        ⟨ws, hD, eC, by simpa using hws⟩ (fun d Hd _ hV => ?_) (fun d x Hd Hd' hd hV hy => ?_) (fun Hd hV => ?_)
      · obtain ⟨_, _, e, _⟩ := hV
        exact SqT.same (e5.trans (e.trans er_sub)) hq'
      · obtain ⟨ws, hD, eD, hws⟩ := hV
        obtain ⟨rfl, hx⟩ := hy
        have hdi : ns[i].st[d]? = some (ns[i].st[d]'(by omega)) := List.getElem?_eq_getElem (by omega)
        obtain ⟨x', hx', pd, rfl, hpd⟩ := hus'.at hdi
        cases Option.some.inj (hx'.symm.trans hx)
        have ws2 := hwi.2.2 _ (List.getElem_mem (show d < ns[i].st.length by omega))
        have tk := take_map_snoc (f := fun s : Int × Int => (wcur.1 ++ [k + s.1], wcur.2 * s.2)) hdi
        generalize ns[i].st[d]'(by omega) = sd at hpd ws2 tk
        have eDD := eD.trans er_sub
        refine g_gtup (SqT.same (e5.trans eDD) hpd) rfl ?_
        walk_at "go"
        have nc : ∀ {c : Addr} {Hx : Hp}, Hx D = some (.lst ws) → Hx c = none → c ≠ D := fun h1 h2 z => by rw [z, h1] at h2; cases h2
        refine ⟨by show 1 ≤ sizeLine; decide, fun c1 m1 => ?_⟩
        have s6 := same_new (o := .lst [V.int (k + sd.1)]) m1
        have hc1 : (upd Hd' c1 (.lst [V.int (k + sd.1)])) c1 = some (.lst [V.int (k + sd.1)]) := upd_same
        have hD6 := s6 _ _ hD
        replace hws := hws.mono (MvR.same (er_same s6))
        replace eD := eD.trans (er_same s6)
        replace eDD := eDD.trans s6
        clear m1
        generalize upd Hd' c1 (.lst [V.int (k + sd.1)]) = H6 at s6 hc1 hD6 hws eD eDD ⊢
        refine ⟨bb, c1, _, _, rfl, rfl, eDD _ _ hbb, hc1, Nat.le_trans (show _ ≤ 1000 by rw [List.length_map]; simp; omega) (by decide), fun c2 m2 => ?_⟩
        have n2 := nc hD6 m2
        have n2H : H c2 = none := fresh_same (e5.trans eDD) m2
        have s7 := same_new (o := .lst (wcur.1.map V.int ++ [V.int (k + sd.1)])) m2
        have hc2 : (upd H6 c2 (.lst (wcur.1.map V.int ++ [V.int (k + sd.1)]))) c2 = some (.lst ((wcur.1 ++ [k + sd.1]).map V.int)) := by rw [upd_same, List.map_append]; rfl
        have hD7 := s7 _ _ hD6
        replace hws := hws.mono (MvR.same (er_same s7))
        replace eD := eD.trans (er_same s7)
        generalize upd H6 c2 (.lst (wcur.1.map V.int ++ [V.int (k + sd.1)])) = H7 at s7 hc2 hD7 hws eD ⊢
        walk_at "go"
        refine g_I (.inr ⟨by omega, by omega⟩) ?_
        walk_at "go"
        refine ⟨by show 2 ≤ sizeLine; decide, fun c3 m3 => ?_⟩
        have n3 := nc hD7 m3
        have s8 := same_new (o := .tup [V.ref c2, V.int (wcur.2 * sd.2)]) m3
        have hc3 : SqT K (er D (upd H7 c3 (.tup [V.ref c2, V.int (wcur.2 * sd.2)]))) c3 [V.ref c2, V.int (wcur.2 * sd.2)] := sqt (by rw [er_ne n3, upd_same])
        have hc28 : (er D (upd H7 c3 (.tup [V.ref c2, V.int (wcur.2 * sd.2)]))) c2 = some (.lst ((wcur.1 ++ [k + sd.1]).map V.int)) := by rw [er_ne n2]; exact s8 _ _ hc2
        have hD8 := s8 _ _ hD7
        replace hws := hws.mono (MvR.same (er_same s8))
        replace eD := eD.trans (er_same s8)
        generalize upd H7 c3 (.tup [V.ref c2, V.int (wcur.2 * sd.2)]) = H8 at hc3 hc28 hD8 hws eD ⊢
        have lw := hws.len
        have lw2 : ws.length ≤ 1000 := by
          rw [← lw, List.length_append, List.length_map, List.length_take]
          have : (((mv ((ns.zip is).take i)).take c).flatMap fun a => ns[i].st.map fun s => (a.1 ++ [k + s.1], a.2 * s.2)).length = min c (mv ((ns.zip is).take i)).length * ns[i].st.length := by
            rw [List.length_flatMap, List.map_congr_left (g := fun _ => ns[i].st.length) (fun a _ => List.length_map _), sum_const, List.length_take]
          rw [this]
          have : min c (mv ((ns.zip is).take i)).length * ns[i].st.length ≤ 64 * 4 := Nat.mul_le_mul (by omega) hwi.1
          omega
        refine ⟨ws, hD8, small1000 (by omega), ws ++ [.ref c3], upd_same, by rw [er_upd]; exact eD, ?_⟩
        rw [er_upd, tk, ← List.append_assoc]
        exact All2.snoc hws ⟨c3, c2, rfl, hc3, hc28, n2H⟩
      · obtain ⟨ws, hD, eD, hws⟩ := hV
        rw [show ns[i].st.take us'.length = ns[i].st from List.take_of_length_le (by omega), ← fmt] at hws
        exact ⟨ws, hD, eD, hws⟩
    · obtain ⟨ws, hD, eC, hws⟩ := hC
      rw [List.take_of_length_le (by omega), ← step] at hws
      walk_at "go"
      exact ⟨D, _, _, _, _, ws, rfl, e5.trans (eC.trans er_sub), fresh_same e5 nD, hD, hws.mono (MvR.same er_sub)⟩
  · obtain ⟨W, y3, y4, y5, y6, vs, rfl, e4, nW, hW4, hvs⟩ := hW
    walk_at "go"
    rw [List.take_of_length_le (by rw [List.length_zip]; omega)] at hvs
    exact q W vs H4 e4 nW hW4 hvs
end

/-! ### all futures are told -/
def FR (K : PySem.W.Frag) (H : Hp) (w : List Row × Int) (t : Addr × Addr × List Addr) : Prop := SqT K H t.1 [.ref t.2.1, .int w.2] ∧ H t.2.1 = some (.lst (t.2.2.map V.ref)) ∧ All2 (fun R r => H r = some (.dK (dk R))) w.1 t.2.2
theorem FR.same {K : PySem.W.Frag} {H H' : Hp} (e : Same H H') : ∀ w t, FR K H w t → FR K H' w t := fun _ _ ⟨h1, h2, h3⟩ => ⟨SqT.same e h1, e _ _ h2, h3.mono fun _ _ h => e _ _ h⟩
def flatA (ts : List (Addr × Addr × List Addr)) : List Addr := ts.flatMap (·.2.2)
def rowsW (ns : List Nm) (w : List (List Int) × Int) : List Row × Int := (w.1.map fun is => (ns.map (·.x)).zip is, w.2)
def fuR (la : Int) (ns : List Nm) : List (List Row × Int) := (fu ns la.toNat).map (rowsW ns)
theorem rows_live {H : Hp} : ∀ {rs : List Row} {as : List Addr}, All2 (fun R r => H r = some (.dK (dk R))) rs as → ∀ r ∈ as, ∃ o, H r = some o
  | R :: rs, a :: as, h, r, hr => by
    rcases List.mem_cons.mp hr with rfl | hr
    · exact ⟨_, h.1⟩
    · exact rows_live h.2 r hr
  | [], [], _, r, hr => by cases hr
  | [], _ :: _, h, _, _ => h.elim
theorem FR_live {K : PySem.W.Frag} {H : Hp} : ∀ {ws : List (List Row × Int)} {ts : List (Addr × Addr × List Addr)}, All2 (FR K H) ws ts → ∀ r ∈ flatA ts, ∃ o, H r = some o
  | w :: ws, t :: ts, h, r, hr => by
    unfold flatA at hr
    rw [List.flatMap_cons, List.mem_append] at hr
    rcases hr with hr | hr
    · exact rows_live h.1.2.2 r hr
    · exact FR_live h.2 r hr
  | [], [], _, r, hr => by cases hr
  | [], _ :: _, h, _, _ => h.elim
theorem fm_pre {α β : Type} {f : α → List β} {l : List α} {c d : Nat} {a : α} (h : l[c]? = some a) : ((l.take c).flatMap f ++ (f a).take d).length ≤ (l.flatMap f).length := by
  have e : l = l.take c ++ a :: l.drop (c + 1) := by
    obtain ⟨lt, rfl⟩ := List.getElem?_eq_some_iff.mp h
    rw [← List.drop_eq_getElem_cons, List.take_append_drop]
  have z : (l.flatMap f).length = ((l.take c).flatMap f).length + ((f a).length + ((l.drop (c + 1)).flatMap f).length) := by
    conv => lhs; rw [e]
    rw [List.flatMap_append, List.flatMap_cons, List.length_append, List.length_append]
  rw [z, List.length_append, List.length_take]
  omega
theorem cnt_le {ns : List Nm} {la : Int} (h : wOk ns) (hc : cntN la ns ≤ 2000) {k : Nat} (hk : k ≤ la.toNat) : prodN ns ^ k ≤ 2000 := by
  unfold cntN at hc
  exact Nat.le_trans (Nat.pow_le_pow_right (prod_pos h).1 hk) hc
theorem All2.snoc_inv {α β : Type} {R : α → β → Prop} {a : α} : ∀ {as : List α} {bs : List β}, All2 R (as ++ [a]) bs → ∃ bs1 b, bs = bs1 ++ [b] ∧ All2 R as bs1 ∧ R a b
  | [], [b], h => ⟨[], b, rfl, trivial, h.1⟩
  | _ :: as, b :: bs, h => by
    obtain ⟨bs1, c, e, h1, h2⟩ := All2.snoc_inv (as := as) h.2
    exact ⟨b :: bs1, c, by rw [e]; rfl, ⟨h.1, h1⟩, h2⟩
  | [], [], h => h.elim
  | [], _ :: _ :: _, h => h.2.elim
  | _ :: _, [], h => h.elim
def spFut (K : PySem.W.Frag) (X C : Addr) : Sp := fun vs H Q E => ∃ (a : Addr) (la : Int) (ns : List Nm), vs = [.ref a] ∧ DMk K C H la ns a ∧ ns.length ≤ 3 ∧ (ns.map (·.x)).Nodup ∧ wOk ns ∧ 0 ≤ la ∧ la ≤ 12 ∧
  (cntN la ns ≤ 2000 → ∀ D ts H', Same H H' → H D = none → H' D = some (.lst (ts.map fun t => V.ref t.1)) → All2 (FR K H') (fuR la ns) ts → (flatA ts).Nodup → (∀ r ∈ flatA ts, H r = none) → (∀ t ∈ ts, H t.2.1 = none) → Q (.ref D) H') ∧
  (2000 < cntN la ns → E (.ref X) none H)
section
variable {P : Program} {w : World} {K : PySem.W.Frag} {mg : Str → Option Value} {base : Heap}
abbrev s_Market_futures : Stmt := inClass (topS 21) 1
theorem sc_Market_futures : FnScope ["self", "ways", "_", "way", "weight", "numbers", "after", "times"] ["self"] (defScope s_Market_futures) := ⟨rfl, rfl, rfl, by decide +kernel, rfl, by decide +kernel, by decide +kernel⟩
theorem h_Market_futures {k : Nat} {C_Market f : Addr} {fd : FuncData} (cl_Market : Cls K C_Market) (M : Meth K C_Market "futures" f) (O : OwnM K "futures" "Market.futures" s_Market_futures ["self"] f fd) {C_TooMany : Addr} (X_TooMany : ExcT K mg "TooMany" C_TooMany)  (n_Market_last : NoAttr K C_Market "last") {f_Market__row : Addr} {fd_Market__row : FuncData} (D_Market__row : HasMeth P w K mg base C_Market "_row" ["self", "numbers"] k CX0 (spRow K C_Market) f_Market__row fd_Market__row) {f_Market__moved : Addr} {fd_Market__moved : FuncData} (D_Market__moved : HasMeth P w K mg base C_Market "_moved" ["self", "numbers"] k CX0 (spMoved K C_Market) f_Market__moved fd_Market__moved) {f_Market__first : Addr} {fd_Market__first : FuncData} (D_Market__first : HasMeth P w K mg base C_Market "_first" ["self"] k CX0 (spFirst K C_Market) f_Market__first fd_Market__first) {f_Market__count : Addr} {fd_Market__count : FuncData} (D_Market__count : HasMeth P w K mg base C_Market "_count" ["self"] k CX0 (spCount K C_Market) f_Market__count fd_Market__count) (m_range : mg "range" = none) {t_MOST_FUTURES : Tok} (m_MOST_FUTURES : mg "MOST_FUTURES" = some (.int 2000 t_MOST_FUTURES)) : HasMeth P w K mg base C_Market "futures" ["self"] (k + 1) (L2.CX P w) (spFut K C_TooMany C_Market) f fd := by
  refine HasMeth.of cl_Market M O (O.F.okX sc_Market_futures (fun vs H Q E h => ?_) (fun cdv A outer s H vs Q E hr h => ?_))
  · obtain ⟨a, la, ns, rfl, _⟩ := h
    rfl
  obtain ⟨a, la, ns, rfl, hm, hl, nd, hw, l0, l1, q, qe⟩ := h
  refine ⟨_, (pss_cons (ps_if (pt_cmpR op_gt (pe_meth0 (pl := _) (pv 0) D_Market__count.cl D_Market__count.M D_Market__count.G hr D_Market__count.b .nil pass0) (pe_glob (v := .int (2000)) (by rfl) m_MOST_FUTURES ⟨_, rfl⟩) (nomark _)) (pss_one (ps_raise rfl (takes_of rfl rfl rfl rfl) (pmk_own PySem.F.excBase_ValueError X_TooMany.x X_TooMany.g X_TooMany.k (raises_own X_TooMany.s X_TooMany.t) rfl))) pss_nil) (pss_cons (ps_set (i := 1) sc_Market_futures.nd rfl (.inl rfl) (pe_lst (pa_cons (pe_tup (pa_cons (pe_lst (pa_cons (pe_meth0 (pl := _) (pv 0) D_Market__first.cl D_Market__first.M D_Market__first.G hr D_Market__first.b .nil pass0) pa_nil)) (pa_cons pe_int pa_nil))) pa_nil))) (pss_cons (ps_for (passes_of rfl) rfl (pi_range1 (by rfl) m_range (pa_cons (pe_fld (pv 0) rfl) pa_nil)) (pg_name (i := 2) sc_Market_futures.nd rfl (.inl rfl)) (pss_one (ps_setLc2 (i := 1) (own := [("numbers", 5), ("weight", 4), ("after", 6), ("times", 7)]) (vs1 := [6, 7]) (g := gTup K 2 (gCons (gName 5) (gCons (gName 4) gNil))) (g1 := gTup K 2 (gCons (gName 6) (gCons (gName 7) gNil))) rfl sc_Market_futures.nd rfl rfl (sw_true rfl rfl rfl (by decide +kernel)) (pi_list (pv 1)) (blkOk_by (own := [("numbers", 5), ("weight", 4), ("after", 6), ("times", 7)]) (N := ["self", "ways", "_", "way", "weight", "numbers", "after", "times"]) (sc := defScope s_Market_futures) (by decide +kernel)) (by decide) (fun _ _ _ _ _ => pg_tup rfl (pgs_cons (pg_name (i := 5) sc_Market_futures.nd rfl (.inl rfl)) (pgs_cons (pg_name (i := 4) sc_Market_futures.nd rfl (.inl rfl)) pgs_nil))) (fun _ _ _ _ _ => pts_nil) (fun _ _ _ _ _ => (pi_listK (K := K) rfl (pe_meth (pl := _) (pv 0) D_Market__moved.cl D_Market__moved.M D_Market__moved.G hr D_Market__moved.b .nil pass0 (pa_cons (pe_ix (r := rIxL K) ix_list (pv 5) (pe_un un_neg pe_int) (fun _ _ => rfl)) pa_nil)))) (fun _ _ _ _ _ => pg_tup rfl (pgs_cons (pg_name (i := 6) sc_Market_futures.nd rfl (.inl rfl)) (pgs_cons (pg_name (i := 7) sc_Market_futures.nd rfl (.inl rfl)) pgs_nil))) (fun _ _ _ _ _ => pts_nil) (fun _ _ _ _ _ => (pe_tup (pa_cons (pe_op op_cat (pv 5) (pe_lst (pa_cons (pv 6) pa_nil))) (pa_cons (pe_op op_mul (pv 4) (pv 7)) pa_nil))))))) (pss_one (ps_ret (pe_lc (own := [("way", 3), ("weight", 4)]) (g := gTup K 2 (gCons (gName 3) (gCons (gName 4) gNil))) rfl sc_Market_futures.nd (pi_list (pv 1)) (blkOk_by (own := [("way", 3), ("weight", 4)]) (N := ["self", "ways", "_", "way", "weight", "numbers", "after", "times"]) (sc := defScope s_Market_futures) (by decide +kernel)) (fun _ _ _ _ _ => pg_tup rfl (pgs_cons (pg_name (i := 3) sc_Market_futures.nd rfl (.inl rfl)) (pgs_cons (pg_name (i := 4) sc_Market_futures.nd rfl (.inl rfl)) pgs_nil))) (fun _ _ _ _ _ => pts_nil) (fun _ _ _ _ _ => (pe_tup (pa_cons (pe_lc (own := [("numbers", 5)]) (g := gName 5) rfl sc_Market_futures.nd (pi_listK (K := K) rfl (pv 3)) (blkOk_by (own := [("numbers", 5)]) (N := ["self", "ways", "_", "way", "weight", "numbers", "after", "times"]) (sc := { kind := ScopeKind.function, names := [(".0", NameKind.local), ("way", NameKind.local), ("weight", NameKind.local), ("self", NameKind.cell)], isGenerator := false, isCoroutine := false }) (by decide +kernel)) (fun _ _ _ _ _ => pg_name (i := 5) sc_Market_futures.nd rfl (.inl rfl)) (fun _ _ _ _ _ => pts_nil) (fun _ _ _ _ _ => (pe_meth (pl := _) (pv 0) D_Market__row.cl D_Market__row.M D_Market__row.G hr D_Market__row.b .nil pass0 (pa_cons (pv 5) pa_nil)))) (pa_cons (pv 4) pa_nil)))))))))), ?_⟩
  obtain ⟨dx, t, us, ha, ht, hn⟩ := id hm
  walk_at "go"
  refine g_meth ?_
  walk_at "go"
  refine ⟨_, _, _, rfl, ha, rfl, ?_⟩
  walk_at "go"
  refine ⟨a, la, ns, rfl, hm, hl, hw, l0, l1, ?_⟩
  walk_at "go"
  refine ifd (fun c => ?_) (fun c => ?_)
  · walk_at "go"
    exact qe (by omega)
  replace q := q (by omega)
  have hc0 : cntN la ns ≤ 2000 := by omega
  walk_at "go"
  refine g_meth ?_
  walk_at "go"
  refine ⟨_, _, _, rfl, ha, rfl, ?_⟩
  walk_at "go"
  refine ⟨a, la, ns, rfl, hm, hl, fun F H1 e1 nF hF => ?_⟩
  have hF : H1 F = some (.lst ((ns.map (·.b)).map V.int)) := by rw [hF, List.map_map]; rfl
  walk_at "go"
  refine ⟨by show 1 ≤ sizeLine; decide, fun l nl => ?_⟩
  have s2 := same_new (o := .lst [.ref F]) nl
  have hl2 : (upd H1 l (.lst [.ref F])) l = some (.lst [.ref F]) := upd_same
  have e2 := e1.trans s2
  replace hF := s2 _ _ hF
  generalize upd H1 l (.lst [.ref F]) = H2 at hl2 e2 hF ⊢
  walk_at "go"
  refine ⟨by show 2 ≤ sizeLine; decide, fun p np => ?_⟩
  have s3 := same_new (o := .tup [.ref l, .int 1]) np
  have hp3 : SqT K (upd H2 p (.tup [.ref l, .int 1])) p [.ref l, .int 1] := sqt upd_same
  have e3 := e2.trans s3
  replace hF := s3 _ _ hF
  replace hl2 := s3 _ _ hl2
  generalize upd H2 p (.tup [.ref l, .int 1]) = H3 at hl2 hp3 e3 hF ⊢
  walk_at "go"
  refine ⟨by show 1 ≤ sizeLine; decide, fun W nW => ?_⟩
  have s4 := same_new (o := .lst [.ref p]) nW
  have hW4 : (upd H3 W (.lst [.ref p])) W = some (.lst [.ref p]) := upd_same
  have e4 := e3.trans s4
  replace hF := s4 _ _ hF
  replace hl2 := s4 _ _ hl2
  replace hp3 := SqT.same s4 hp3
  have nW0 := fresh_same e3 nW
  generalize upd H3 W (.lst [.ref p]) = H4 at hl2 hp3 hW4 e4 hF ⊢
  walk_at "go"
  refine g_rfld ?_
  walk_at "go"
  refine ⟨_, _, _, _, _, rfl, e4 _ _ ha, cl_Market, n_Market_last, rfl, ?_⟩
  walk_at "go"
  refine ⟨by omega, by omega, for_range (lo := 0) (n := la.toNat) (fun i σ H5 => ∃ W y2 vs, σ = [some (.ref a), some (.ref W), y2, none, none, none, none, none] ∧ Same H H5 ∧ H W = none ∧ H5 W = some (.lst vs) ∧ All2 (WyR K H5) (fu ns i) vs)
    ⟨W, _, _, rfl, e4, nW0, hW4, All2.one ⟨p, l, [.ref F], rfl, hp3, hl2, All2.one ⟨F, rfl, hF⟩⟩⟩ (fun i σ H5 hi hV => ?_) (fun σ H5 hV => ?_)⟩
  · obtain ⟨W, y2, vs, rfl, e5, nW, hW5, hvs⟩ := hV
    have fok := fu_ok hw hl i
    have fok1 := fu_ok hw hl (i + 1)
    have lvs := hvs.len
    walk_at "go"
    refine g_lc2 ?_
    walk_at "go"
    refine ⟨⟨_, sql hW5⟩, fun D nD => ?_⟩
    refine lc2_it (walk_list (xs := vs)) (fun c Hc => ∃ ws, Hc D = some (.lst ws) ∧ Same H5 (er D Hc) ∧ All2 (WyR K (er D Hc)) (((fu ns i).take c).flatMap fun a => (mv (ns.zip (lastL a.1))).map fun b => (a.1 ++ [b.1], a.2 * b.2)) ws)
      ⟨[], upd_same, by rw [er_upd, er_new nD]; exact .refl _, trivial⟩ (fun c Hc _ hC => ?_) (fun c x Hc Hc' hc hC hy => ?_) (fun Hc hC => ?_)
    · obtain ⟨ws, _, e, _⟩ := hC
      exact (e.trans er_sub).seq (sql hW5)
    · obtain ⟨ws, hD, eC, hws⟩ := hC
      obtain ⟨rfl, hx⟩ := hy
      have hci : (fu ns i)[c]? = some ((fu ns i)[c]'(by omega)) := List.getElem?_eq_getElem (by omega)
      obtain ⟨x', hx', pp, ll, ls, rfl, hpp, hll, hls⟩ := hvs.at hci
      cases Option.some.inj (hx'.symm.trans hx)
      have wc := fok.2 _ (List.getElem_mem (show c < (fu ns i).length by omega))
      have fmt := fm_take (f := fun a : List (List Int) × Int => (mv (ns.zip (lastL a.1))).map fun b => (a.1 ++ [b.1], a.2 * b.2)) hci
      have fmp := fun d => fm_pre (f := fun a : List (List Int) × Int => (mv (ns.zip (lastL a.1))).map fun b => (a.1 ++ [b.1], a.2 * b.2)) (d := d) hci
      generalize (fu ns i)[c]'(by omega) = wcur at hpp hll hls wc fmt fmp
      have eC5 := eC.trans er_sub
      obtain ⟨⟨u, xl, ew⟩, wl, wlen⟩ := wc
      have hlast : lastL wcur.1 = xl := by rw [ew, lastL_snoc]
      have lenx : xl.length = ns.length := wlen xl (by rw [ew]; simp)
      rw [ew] at hls
      have okm := mv_ok hw lenx hl
      obtain ⟨ls1, v1, els, hls1, b1, rfl, hb1⟩ := hls.snoc_inv
      have lls := hls.len
      rw [hlast] at fmp fmt
      refine g_gtup (SqT.same eC5 hpp) rfl ?_
      walk_at "go"
      refine g_meth ?_
      walk_at "go"
      refine ⟨_, _, _, rfl, (e5.trans eC5) _ _ ha, rfl, ?_⟩
      walk_at "go"
      refine ⟨_, _, _, _, rfl, rfl, sql (eC5 _ _ hll), by rw [els]; exact atI_last _ _, ?_⟩
      walk_at "go"
      refine ⟨a, b1, la, ns, xl, rfl, hm.same (e5.trans eC5), hl, hw, sql (eC5 _ _ hb1), lenx, fun M ms Hm eM nM hM hms => ?_⟩
      have hDm := eM _ _ hD
      have hDc := hD
      have lms := hms.len
      have eCm := eC.trans (er_same eM)
      have eCM := eC5.trans eM
      walk_at "go"
      refine ⟨⟨_, sql hM⟩, ?_⟩
      refine lc2_in (walk_list (xs := ms)) (fun d Hd => ∃ ws, Hd D = some (.lst ws) ∧ Same H5 (er D Hd) ∧ Same (er D Hm) (er D Hd) ∧ All2 (WyR K (er D Hd)) ((((fu ns i).take c).flatMap fun a => (mv (ns.zip (lastL a.1))).map fun b => (a.1 ++ [b.1], a.2 * b.2)) ++ (((mv (ns.zip xl)).map fun b => (wcur.1 ++ [b.1], wcur.2 * b.2)).take d)) ws)
        ⟨ws, hDm, eCm, .refl _, by simpa using hws.mono (WyR.same (er_same eM))⟩ (fun d Hd _ hV => ?_) (fun d x Hd Hd' hd hV hy => ?_) (fun Hd hV => ?_)
      · obtain ⟨_, _, _, e, _⟩ := hV
        have nMD : M ≠ D := fun z => by rw [z, hD] at nM; cases nM
        exact sql (er_sub _ _ (e _ _ (by rw [er_ne nMD]; exact hM)))
      · obtain ⟨ws, hD, eD, eMD, hws⟩ := hV
        obtain ⟨rfl, hx⟩ := hy
        have hdi : (mv (ns.zip xl))[d]? = some ((mv (ns.zip xl))[d]'(by omega)) := List.getElem?_eq_getElem (by omega)
        obtain ⟨x', hx', pd, bd, rfl, hpd, hbd, nbd⟩ := hms.at hdi
        cases Option.some.inj (hx'.symm.trans hx)
        have wd := okm.2 _ (List.getElem_mem (show d < (mv (ns.zip xl)).length by omega))
        have tk : ((mv (ns.zip xl)).map fun b => (wcur.1 ++ [b.1], wcur.2 * b.2)).take (d + 1) = ((mv (ns.zip xl)).map fun b => (wcur.1 ++ [b.1], wcur.2 * b.2)).take d ++ [(wcur.1 ++ [((mv (ns.zip xl))[d]'(by omega)).1], wcur.2 * ((mv (ns.zip xl))[d]'(by omega)).2)] := by
          rw [List.take_succ, List.getElem?_map, hdi]
          rfl
        generalize (mv (ns.zip xl))[d]'(by omega) = md at hpd hbd wd tk
        have eDD := eD.trans er_sub
        have nbD : bd ≠ D := fun z => by rw [z, hDc] at nbd; cases nbd
        have hbd' : (er D Hd') bd = some (.lst (md.1.map V.int)) := eMD _ _ (by rw [er_ne nbD]; exact hbd)
        refine g_gtup (SqT.same (eMD.trans er_sub) (SqT.er hDm hpd)) rfl ?_
        walk_at "go"
        have nc : ∀ {c : Addr} {Hx : Hp}, Hx D = some (.lst ws) → Hx c = none → c ≠ D := fun h1 h2 z => by rw [z, h1] at h2; cases h2
        refine ⟨by show 1 ≤ sizeLine; decide, fun c1 m1 => ?_⟩
        have s6 := same_new (o := .lst [V.ref bd]) m1
        have hc1 : (upd Hd' c1 (.lst [V.ref bd])) c1 = some (.lst [V.ref bd]) := upd_same
        have hD6 := s6 _ _ hD
        replace hws := hws.mono (WyR.same (er_same s6))
        replace eD := eD.trans (er_same s6)
        replace eMD := eMD.trans (er_same s6)
        replace eDD := eDD.trans s6
        replace hbd' := er_same s6 _ _ hbd'
        clear m1
        generalize upd Hd' c1 (.lst [V.ref bd]) = H6 at s6 hc1 hD6 hws eD eDD eMD hbd' ⊢
        refine ⟨ll, c1, _, _, rfl, rfl, eDD _ _ hll, hc1, Nat.le_trans (show _ ≤ 1000 by rw [← lls]; simp; rw [ew] at wl; simp at wl; omega) (by decide), fun c2 m2 => ?_⟩
        have n2 := nc hD6 m2
        have s7 := same_new (o := .lst (ls ++ [V.ref bd])) m2
        have hc2 : (er D (upd H6 c2 (.lst (ls ++ [V.ref bd])))) c2 = some (.lst (ls ++ [V.ref bd])) := by rw [er_ne n2, upd_same]
        have hD7 := s7 _ _ hD6
        replace hws := hws.mono (WyR.same (er_same s7))
        replace eD := eD.trans (er_same s7)
        replace eMD := eMD.trans (er_same s7)
        replace hbd' := er_same s7 _ _ hbd'
        generalize upd H6 c2 (.lst (ls ++ [V.ref bd])) = H7 at s7 hc2 hD7 hws eD eMD hbd' ⊢
        walk_at "go"
        refine g_I (.inr ⟨by omega, by omega⟩) ?_
        walk_at "go"
        refine ⟨by show 2 ≤ sizeLine; decide, fun c3 m3 => ?_⟩
        have n3 := nc hD7 m3
        have s8 := same_new (o := .tup [V.ref c2, V.int (wcur.2 * md.2)]) m3
        have hc3 : SqT K (er D (upd H7 c3 (.tup [V.ref c2, V.int (wcur.2 * md.2)]))) c3 [V.ref c2, V.int (wcur.2 * md.2)] := sqt (by rw [er_ne n3, upd_same])
        have hD8 := s8 _ _ hD7
        replace hc2 := er_same s8 _ _ hc2
        replace hws := hws.mono (WyR.same (er_same s8))
        replace eD := eD.trans (er_same s8)
        replace eMD := eMD.trans (er_same s8)
        replace hbd' := er_same s8 _ _ hbd'
        generalize upd H7 c3 (.tup [V.ref c2, V.int (wcur.2 * md.2)]) = H8 at hc3 hc2 hD8 hws eD eMD hbd' ⊢
        have lw := hws.len
        have lw2 : ws.length ≤ 2000 := by
          rw [← lw]
          refine Nat.le_trans (fmp d) ?_
          show (fu ns (i + 1)).length ≤ 2000
          rw [fok1.1]
          exact cnt_le hw hc0 (by omega)
        refine ⟨ws, hD8, Nat.lt_of_lt_of_le (show ws.length < 4000 by omega) (by decide), ws ++ [.ref c3], upd_same, by rw [er_upd]; exact eD, by rw [er_upd]; exact eMD, ?_⟩
        rw [er_upd, tk, ← List.append_assoc]
        refine All2.snoc hws ⟨c3, c2, ls ++ [.ref bd], rfl, hc3, hc2, ?_⟩
        rw [ew]
        exact All2.snoc (hls.mono (IsR.same eD)) ⟨bd, rfl, hbd'⟩
      · obtain ⟨ws, hD, eD, _, hws⟩ := hV
        rw [show ((mv (ns.zip xl)).map fun b => (wcur.1 ++ [b.1], wcur.2 * b.2)).take ms.length = (mv (ns.zip xl)).map fun b => (wcur.1 ++ [b.1], wcur.2 * b.2) from List.take_of_length_le (by rw [List.length_map]; omega), ← fmt] at hws
        exact ⟨ws, hD, eD, hws⟩
    · obtain ⟨ws, hD, eC, hws⟩ := hC
      rw [show (fu ns i).take vs.length = fu ns i from List.take_of_length_le (by omega)] at hws
      walk_at "go"
      exact ⟨D, _, ws, rfl, e5.trans (eC.trans er_sub), fresh_same e5 nD, hD, hws.mono (WyR.same er_sub)⟩
  · obtain ⟨W, y2, vs, rfl, e5, nW, hW5, hvs⟩ := hV
    have fok := fu_ok hw hl la.toNat
    have fl : (fu ns la.toNat).length ≤ 2000 := by rw [fok.1]; exact hc0
    have lvs := hvs.len
    walk_at "go"
    refine ⟨⟨_, sql hW5⟩, fun D nD => lc_list (xs := vs) (fun c Hc => ∃ ts, Hc D = some (.lst (ts.map fun t => V.ref t.1)) ∧ Same H5 (er D Hc) ∧ All2 (FR K (er D Hc)) (((fu ns la.toNat).take c).map (rowsW ns)) ts ∧ (flatA ts).Nodup ∧ (∀ r ∈ flatA ts, H5 r = none) ∧ (∀ t ∈ ts, H5 t.2.1 = none))
      ⟨[], upd_same, by rw [er_upd, er_new nD]; exact .refl _, trivial, List.nodup_nil, (fun r hr => by cases hr), (fun t ht => by cases ht)⟩ (fun c Hc _ hC => ?_) (fun c x Hc hx hC => ?_) (fun Hc hC => ?_)⟩
    · obtain ⟨_, _, e, _⟩ := hC
      exact (e.trans er_sub).seq (sql hW5)
    · obtain ⟨ts, hD, eC, hts, ndt, fr, fl2⟩ := hC
      have hcl : c < vs.length := (List.getElem?_eq_some_iff.mp hx).1
      have hci : (fu ns la.toNat)[c]? = some ((fu ns la.toNat)[c]'(by omega)) := List.getElem?_eq_getElem (by omega)
      obtain ⟨x', hx', pp, ll, ls, rfl, hpp, hll, hls⟩ := hvs.at hci
      cases Option.some.inj (hx'.symm.trans hx)
      have wc := fok.2 _ (List.getElem_mem (show c < (fu ns la.toNat).length by omega))
      have tkm := take_map_snoc (f := rowsW ns) hci
      generalize (fu ns la.toNat)[c]'(by omega) = wcur at hpp hll hls wc tkm
      have lls := hls.len
      have eC5 := eC.trans er_sub
      refine g_gtup (SqT.same eC5 hpp) rfl ?_
      walk_at "go"
      refine ⟨⟨_, sql (eC5 _ _ hll)⟩, fun D2 nD2 => lc_list (xs := ls) (fun d Hd => ∃ rs : List Addr, Hd D2 = some (.lst (rs.map V.ref)) ∧ Same Hc (er D2 Hd) ∧ All2 (fun R r => (er D2 Hd) r = some (.dK (dk R))) ((wcur.1.take d).map fun is => (ns.map (·.x)).zip is) rs ∧ (flatA ts ++ rs).Nodup ∧ ∀ r ∈ rs, Hc r = none)
        ⟨[], upd_same, by rw [er_upd, er_new nD2]; exact .refl _, trivial, by simpa using ndt, fun r hr => by cases hr⟩ (fun d Hd _ hV => ?_) (fun d y Hd hy hV => ?_) (fun Hd hV => ?_)⟩
      · obtain ⟨_, _, e, _⟩ := hV
        exact (eC5.trans (e.trans er_sub)).seq (sql hll)
      · obtain ⟨rs, hD2, eD, hrs, ndr, frr⟩ := hV
        have hdl : d < ls.length := (List.getElem?_eq_some_iff.mp hy).1
        have hdi : wcur.1[d]? = some (wcur.1[d]'(by omega)) := List.getElem?_eq_getElem (by omega)
        obtain ⟨y', hy', b, rfl, hb⟩ := hls.at hdi
        cases Option.some.inj (hy'.symm.trans hy)
        have lis := wc.2.2 _ (List.getElem_mem (show d < wcur.1.length by omega))
        have tk := take_map_snoc (f := fun is => (ns.map (·.x)).zip is) hdi
        generalize wcur.1[d]'(by omega) = is at hb lis tk
        have eDD := eC5.trans (eD.trans er_sub)
        walk_at "go"
        refine g_meth ?_
        walk_at "go"
        refine ⟨_, _, _, rfl, (e5.trans eDD) _ _ ha, rfl, ?_⟩
        walk_at "go"
        refine ⟨a, b, la, ns, is, rfl, hm.same (e5.trans eDD), sql (eDD _ _ hb), lis, hl, nd, fun B H8 e8 nB hB => ?_⟩
        have nBD : B ≠ D2 := fun z => by rw [z, hD2] at nB; cases nB
        have lrs := hrs.len
        refine ⟨_, e8 _ _ hD2, ?_, rs ++ [B], by rw [upd_same, List.map_append]; rfl, by rw [er_upd]; exact eD.trans (er_same e8), ?_, ?_, ?_⟩
        · rw [List.length_map, ← lrs, List.length_map, List.length_take]
          exact small1000 (by omega)
        · rw [er_upd, tk]
          exact All2.snoc (hrs.mono fun _ _ h => er_same e8 _ _ h) (by rw [er_ne nBD]; exact hB)
        · rw [← List.append_assoc]
          refine List.nodup_append.mpr ⟨ndr, by simp, fun u hu v hv z => ?_⟩
          rw [List.mem_singleton] at hv
          subst hv
          subst z
          rcases List.mem_append.mp hu with hu | hu
          · obtain ⟨o, ho⟩ := FR_live hts u hu
            rw [er_sub _ _ (eD _ _ (er_sub _ _ ho))] at nB
            cases nB
          · obtain ⟨o, ho⟩ := rows_live hrs u hu
            rw [er_sub _ _ ho] at nB
            cases nB
        · intro r hr
          rcases List.mem_append.mp hr with hr | hr
          · exact frr r hr
          · rw [List.mem_singleton.mp hr]
            exact fresh_same (eD.trans er_sub) nB
      · obtain ⟨rs, hD2, eD, hrs, ndr, frr⟩ := hV
        rw [List.take_of_length_le (by omega)] at hrs
        have nDD : D2 ≠ D := fun z => by rw [z, hD] at nD2; cases nD2
        walk_at "go"
        refine ⟨by show 2 ≤ sizeLine; decide, fun t2 nt2 => ?_⟩
        have hDd : Hd D = some (.lst (ts.map fun t => V.ref t.1)) := er_sub _ _ (eD _ _ hD)
        have nt : t2 ≠ D := fun z => by rw [z, hDd] at nt2; cases nt2
        have s8 := same_new (o := .tup [.ref D2, .int wcur.2]) nt2
        have ht8 : SqT K (er D (upd Hd t2 (.tup [.ref D2, .int wcur.2]))) t2 [.ref D2, .int wcur.2] := sqt (by rw [er_ne nt, upd_same])
        have hD28 : (er D (upd Hd t2 (.tup [.ref D2, .int wcur.2]))) D2 = some (.lst (rs.map V.ref)) := by rw [er_ne nDD]; exact s8 _ _ hD2
        have hD8 := s8 _ _ hDd
        have hr8 : All2 (fun R r => (er D (upd Hd t2 (.tup [.ref D2, .int wcur.2]))) r = some (.dK (dk R))) (wcur.1.map fun is => (ns.map (·.x)).zip is) rs := hrs.mono fun R r h => by
          have h := er_sub _ _ h
          rw [er_ne (fun z => by rw [z, hDd] at h; cases h)]
          exact s8 _ _ h
        have e8 : Same (er D Hc) (er D (upd Hd t2 (.tup [.ref D2, .int wcur.2]))) := (er_same (eD.trans er_sub)).trans (er_same s8)
        generalize upd Hd t2 (.tup [.ref D2, .int wcur.2]) = H8 at e8 ht8 hD28 hD8 hr8 ⊢
        have lts := hts.len
        refine ⟨_, hD8, ?_, ts ++ [(t2, D2, rs)], by rw [upd_same, List.map_append]; rfl, by rw [er_upd]; exact eC.trans e8, ?_, ?_, ?_, ?_⟩
        · rw [List.length_map, ← lts, List.length_map, List.length_take]
          exact Nat.lt_of_lt_of_le (show _ < 4000 by omega) (by decide)
        · rw [er_upd, tkm]
          exact All2.snoc (hts.mono (FR.same e8)) ⟨ht8, hD28, hr8⟩
        · unfold flatA at ndr ⊢
          rw [List.flatMap_append]
          simpa using ndr
        · intro r hr
          unfold flatA at hr fr
          rw [List.flatMap_append, List.mem_append] at hr
          rcases hr with hr | hr
          · exact fr r hr
          · have hr : r ∈ rs := by simpa using hr
            exact fresh_same eC5 (frr r hr)
        · intro t htt
          rcases List.mem_append.mp htt with htt | htt
          · exact fl2 t htt
          · rw [List.mem_singleton.mp htt]
            exact fresh_same eC5 nD2
    · obtain ⟨ts, hD, eC, hts, ndt, fr, fl2⟩ := hC
      rw [show (fu ns la.toNat).take vs.length = fu ns la.toNat from List.take_of_length_le (by omega)] at hts
      walk_at "go"
      exact q D ts Hc (e5.trans (eC.trans er_sub)) (fresh_same e5 nD) hD (hts.mono (FR.same er_sub)) ndt (fun r hr => fresh_same e5 (fr r hr)) (fun t ht => fresh_same e5 (fl2 t ht))
end

/-! ### the law's own futures -/
theorem zip_snoc : ∀ {xs : List Str} {ys : List Int} {x : Str} {y : Int}, xs[ys.length]? = some x → xs.zip (ys ++ [y]) = xs.zip ys ++ [(x, y)]
  | [], ys, x, y, h => by simp at h
  | z :: xs, [], x, y, h => by
    simp only [List.length_nil, List.getElem?_cons_zero, Option.some.injEq] at h
    subst h
    simp
  | z :: xs, w :: ys, x, y, h => by
    rw [List.cons_append, List.zip_cons_cons, List.zip_cons_cons, List.cons_append, zip_snoc (by simpa using h)]
theorem zip_ne : ∀ {xs : List Str} {ys : List Int} {x : Str}, xs.Nodup → xs[ys.length]? = some x → ∀ q ∈ xs.zip ys, q.1 ≠ x
  | [], ys, x, _, h => by simp at h
  | z :: xs, [], x, _, _ => fun q hq => by simp at hq
  | z :: xs, w :: ys, x, nd, h => fun q hq => by
    rw [List.nodup_cons] at nd
    have h : xs[ys.length]? = some x := by simpa using h
    rw [List.zip_cons_cons] at hq
    rcases List.mem_cons.mp hq with rfl | hq
    · exact fun e => nd.1 (by rw [show z = x from e]; exact List.mem_of_getElem? h)
    · exact zip_ne nd.2 h q hq
theorem zip_look : ∀ {xs : List Str} {ys : List Int} {i : Nat} {x : Str} {y : Int}, xs.Nodup → xs[i]? = some x → ys[i]? = some y → (xs.zip ys).lookup x = some y
  | [], ys, i, x, y, _, h, _ => by simp at h
  | z :: xs, [], i, x, y, _, _, h => by simp at h
  | z :: xs, w :: ys, 0, x, y, _, h, g => by
    simp only [List.getElem?_cons_zero, Option.some.injEq] at h g
    subst h g
    rw [List.zip_cons_cons, List.lookup_cons, beq_self_eq_true]
  | z :: xs, w :: ys, i + 1, x, y, nd, h, g => by
    rw [List.nodup_cons] at nd
    have h : xs[i]? = some x := by simpa using h
    have g : ys[i]? = some y := by simpa using g
    have e : (x == z) = false := by
      rw [beq_eq_false_iff_ne]
      exact fun e => nd.1 (by rw [← e]; exact List.mem_of_getElem? h)
    rw [List.zip_cons_cons, List.lookup_cons, e]
    exact zip_look nd.2 h g
theorem mv_takeL {ns : List Nm} {is : List Int} (h : wOk ns) (hl : is.length = ns.length) (h3 : ns.length ≤ 3) {i : Nat} (hi : i ≤ ns.length) : ∀ w ∈ mv ((ns.zip is).take i), w.1.length = i := by
  have e : (ns.zip is).take i = (ns.take i).zip (is.take i) := List.take_zipWith
  have a := mv_ok (ns := ns.take i) (is := is.take i) (fun n hn => h n (List.mem_of_mem_take hn)) (by rw [List.length_take, List.length_take]; omega) (by rw [List.length_take]; omega)
  rw [e]
  intro w hw
  rw [(a.2 w hw).2, List.length_take]
  omega
def nxW (ns : List Nm) (w : List Int × Int) : Row × Int := ((ns.map (·.x)).zip w.1, w.2)
def NxR (K : PySem.W.Frag) (H0 H : Hp) (w : Row × Int) (v : V) : Prop := ∃ p b, v = .ref p ∧ SqT K H p [.ref b, .int w.2] ∧ H b = some (.dK (dk w.1)) ∧ H0 b = none
theorem NxR.same {K : PySem.W.Frag} {H0 H H' : Hp} (e : Same H H') : ∀ w v, NxR K H0 H w v → NxR K H0 H' w v := fun _ _ ⟨p, b, h1, h2, h3, h4⟩ => ⟨p, b, h1, SqT.same e h2, e _ _ h3, h4⟩
theorem names_nd {ds : List PyData} (hnd : (ds.map wordOf).Nodup) (h : ds.all okName = true) : ((ds.map nmOf).map (·.x)).Nodup := by
  have e : (ds.map nmOf).map (·.x) = ds.map wordOf := by
    rw [List.map_map]
    refine List.map_congr_left fun d hd => ?_
    obtain ⟨x, b, es, rfl, _⟩ := okName_parts (List.all_eq_true.mp h d hd)
    rfl
  rw [e]
  exact hnd
def spNexts (K : PySem.W.Frag) : Sp := fun vs H Q _ => ∃ (p r : Addr) (ds : List PyData) (is : List Int), vs = [.ref p, .ref r] ∧ Dp K H (.ref p) (.list ds) ∧ ds.all okName = true ∧ ds.length ≤ 3 ∧ ((ds.map nmOf).map (·.x)).Nodup ∧ wOk (ds.map nmOf) ∧ is.length = ds.length ∧
  H r = some (.dK (dk (((ds.map nmOf).map (·.x)).zip is))) ∧ ∀ D vs H', Same H H' → H D = none → H' D = some (.lst vs) → All2 (NxR K H H') ((mv ((ds.map nmOf).zip is)).map (nxW (ds.map nmOf))) vs → Q (.ref D) H'
section
variable {P : Program} {w : World} {K : PySem.W.Frag} {mg : Str → Option Value} {base : Heap}
abbrev s__law_nexts : Stmt := topS 32
theorem sc__law_nexts : FnScope ["_law_names", "_law_row", "_law_found", "_law_name", "_law_begun_here", "_law_steps_here", "_law_longer", "_law_told", "_law_weight", "_law_by", "_law_more", "_law_one"] ["_law_names", "_law_row"] (defScope s__law_nexts) := ⟨rfl, rfl, rfl, by decide +kernel, rfl, by decide +kernel, by decide +kernel⟩
theorem h__law_nexts {k : Nat} {f : Addr} {fd : FuncData} (O : Own K mg "_law_nexts" s__law_nexts ["_law_names", "_law_row"] f fd)  (m_dict : mg "dict" = none) : Has P w K mg base "_law_nexts" ["_law_names", "_law_row"] (k + 1) CX0 (spNexts K) f fd := by
  refine O.has (O.F.ok sc__law_nexts (fun vs H Q E h => ?_) (fun cdv A outer s H vs Q E hr h => ?_))
  · obtain ⟨p, r, ds, is, rfl, _⟩ := h
    rfl
  obtain ⟨p, r, ds, is, rfl, hds, okd, ld, nd, hw, li, hr', q⟩ := h
  refine ⟨_, (pss_cons (ps_set (i := 2) sc__law_nexts.nd rfl (.inl rfl) (pe_lst (pa_cons (pe_tup (pa_cons pe_dnewK (pa_cons pe_int pa_nil))) pa_nil))) (pss_cons (ps_for PassesOwn.never rfl (pi_list (pv 0)) (pg_tup rfl (pgs_cons (pg_name (i := 3) sc__law_nexts.nd rfl (.inl rfl)) (pgs_cons (pg_name (i := 4) sc__law_nexts.nd rfl (.inl rfl)) (pgs_cons (pg_name (i := 5) sc__law_nexts.nd rfl (.inl rfl)) pgs_nil)))) (pss_cons (ps_set (i := 6) sc__law_nexts.nd rfl (.inl rfl) (pe_lst pa_nil)) (pss_cons (ps_for PassesOwn.never rfl (pi_list (pv 2)) (pg_tup rfl (pgs_cons (pg_name (i := 7) sc__law_nexts.nd rfl (.inl rfl)) (pgs_cons (pg_name (i := 8) sc__law_nexts.nd rfl (.inl rfl)) pgs_nil))) (pss_one (ps_for PassesOwn.never rfl (pi_list (pv 5)) (pg_tup rfl (pgs_cons (pg_name (i := 9) sc__law_nexts.nd rfl (.inl rfl)) (pgs_cons (pg_name (i := 10) sc__law_nexts.nd rfl (.inl rfl)) pgs_nil))) (pss_cons (ps_set (i := 11) sc__law_nexts.nd rfl (.inl rfl) (pe_callTy call_dictD (by rfl) m_dict (by decide +kernel) (pa_cons (pv 7) pa_nil))) (pss_cons (ps_dput (hu_of hr) (pv 11) (pv 3) (pe_op op_add (pe_dget (hu_of hr) (pv 1) (pv 3) (fun _ _ => rfl)) (pv 9)) (by rfl)) (pss_one (ps_expr (pe_bm PySem.F.plainAttrs_list PySem.F.slot_list_append PySem.F.type_list_append mt_append (pv 6) (pa_cons (pe_tup (pa_cons (pv 11) (pa_cons (pe_op op_mul (pv 8) (pv 10)) pa_nil))) pa_nil))))))))) (pss_one (ps_set (i := 2) sc__law_nexts.nd rfl (.inl rfl) (pv 6)))))) (pss_one (ps_ret (pv 2))))), ?_⟩
  cases hds with
  | @lst _ us _ hu hall =>
  have lu := DpAll.len hall
  have ln : (ds.map nmOf).length = ds.length := List.length_map _
  generalize hns : ds.map nmOf = ns at nd hw hr' q ln
  have l3 : ns.length ≤ 3 := by omega
  walk_at "go"
  intro d0 m0
  have s1 := same_new (o := .dK []) m0
  have hd1 : (upd H d0 (.dK [])) d0 = some (.dK (dk [])) := upd_same
  generalize upd H d0 (.dK []) = H1 at s1 hd1 ⊢
  walk_at "go"
  refine ⟨by show 2 ≤ sizeLine; decide, fun p0 k0 => ?_⟩
  have s2 := same_new (o := .tup [.ref d0, .int 1]) k0
  have hp2 : SqT K (upd H1 p0 (.tup [.ref d0, .int 1])) p0 [.ref d0, .int 1] := sqt upd_same
  have hd2 := s2 _ _ hd1
  replace s2 := s1.trans s2
  generalize upd H1 p0 (.tup [.ref d0, .int 1]) = H2 at s2 hd2 hp2 ⊢
  walk_at "go"
  refine ⟨by show 1 ≤ sizeLine; decide, fun W0 j0 => ?_⟩
  have s3 := same_new (o := .lst [.ref p0]) j0
  have hW3 : (upd H2 W0 (.lst [.ref p0])) W0 = some (.lst [.ref p0]) := upd_same
  have hd3 := s3 _ _ hd2
  have hp3 := SqT.same s3 hp2
  replace s3 := s2.trans s3
  have nW0 : H W0 = none := fresh_same s2 j0
  generalize upd H2 W0 (.lst [.ref p0]) = H3 at s3 hd3 hp3 hW3 ⊢
  walk_at "go"
  refine ⟨⟨_, s3.seq hu⟩, for_it (walk_list (xs := us)) (fun i σ H4 => ∃ W y3 y4 y5 y6 y7 y8 y9 y10 y11 vs, σ = [some (.ref p), some (.ref r), some (.ref W), y3, y4, y5, y6, y7, y8, y9, y10, y11] ∧ Same H H4 ∧ H W = none ∧ H4 W = some (.lst vs) ∧ All2 (NxR K H H4) ((mv ((ns.zip is).take i)).map (nxW ns)) vs)
    ⟨W0, _, _, _, _, _, _, _, _, _, _, rfl, s3, nW0, hW3, All2.one ⟨p0, d0, rfl, hp3, by show H3 d0 = some (.dK (dk ((ns.map (·.x)).zip []))); rw [List.zip_nil_right]; exact hd3, m0⟩⟩ (fun i σ H4 _ hW => ?_) (fun i x σ H4 H5 hi4 hW hy => ?_) (fun σ H4 hW => ?_)⟩
  · obtain ⟨_, _, _, _, _, _, _, _, _, _, _, _, e, _⟩ := hW
    exact e.seq hu
  · obtain ⟨W, y3, y4, y5, y6, y7, y8, y9, y10, y11, vs, rfl, e4, nW, hW4, hvs⟩ := hW
    obtain ⟨rfl, hx⟩ := hy
    have hid : i < ds.length := by omega
    have hdi : ds[i]? = some ds[i] := List.getElem?_eq_getElem hid
    obtain ⟨x', hx', du⟩ := DpAll.at hall hdi
    cases Option.some.inj (hx'.symm.trans hx)
    obtain ⟨nx, nb, es, ed, eo, _⟩ := okName_parts (List.all_eq_true.mp okd _ (List.getElem_mem hid))
    have hni : ns[i]? = some ⟨nx, nb, es.map stOf⟩ := by rw [← hns, List.getElem?_map, hdi, ed]; rfl
    have hik : is[i]? = some (is[i]'(by omega)) := List.getElem?_eq_getElem (by omega)
    generalize is[i]'(by omega) = k at hik
    have hxi : (ns.map (·.x))[i]? = some nx := by rw [List.getElem?_map, hni]; rfl
    have hz : (ns.zip is)[i]? = some (⟨nx, nb, es.map stOf⟩, k) := by
      rw [List.getElem?_zip_eq_some]
      exact ⟨hni, hik⟩
    have step : (mv ((ns.zip is).take (i + 1))).map (nxW ns) = (mv ((ns.zip is).take i)).flatMap fun a => (es.map stOf).map fun s => nxW ns (a.1 ++ [k + s.1], a.2 * s.2) := by
      rw [List.take_succ, hz]
      unfold mv
      rw [List.foldl_append]
      show (mvS _ _).map _ = _
      unfold mvS
      rw [List.map_flatMap]
      refine congrArg (fun f => List.flatMap f _) (funext fun a => ?_)
      rw [List.map_map]
      rfl
    have hwi := hw _ (List.mem_of_getElem? hni)
    have okw := mv_take hw (by omega) l3 (is := is) i
    have okl := mv_takeL hw (by omega) l3 (is := is) (i := i) (by omega)
    have lvs := hvs.len
    rw [List.length_map] at lvs
    have rowv : valV (dk ((ns.map (·.x)).zip is)) (.inr nx) = some (.int k) := by rw [dk_val, zip_look nd hxi hik]; rfl
    rw [ed] at du
    have du := Dp.dm (.of e4) du
    cases du with
    | @tup b us' es' hb he =>
    cases he with
    | @cons z1 _ _ _ g1 he =>
    cases he with
    | @cons z2 _ _ _ g2 he =>
    cases he with
    | @cons z3 _ _ _ g3 he =>
    cases he
    cases g1
    cases g2
    cases g3 with
    | @lst a3 vs3 _ ha3 hs3 =>
    have st3 := steps_all2 hs3 eo
    have lst3 := st3.len
    rw [List.length_map] at lst3
    refine g_gtup hb rfl ?_
    walk_at "go"
    refine ⟨by show 0 ≤ sizeLine; decide, fun L nL => ?_⟩
    have hL5 : (upd H5 L (.lst [])) L = some (.lst []) := upd_same
    have eL5 : er L (upd H5 L (.lst [])) = H5 := er_upd.trans (er_new nL)
    generalize upd H5 L (.lst []) = H6 at hL5 eL5 ⊢
    have nLH := fresh_same e4 nL
    have s56 : Same H5 H6 := by rw [← eL5]; exact er_sub
    walk_at "go"
    refine ⟨⟨_, s56.seq (sql hW4)⟩, for_it (walk_list (xs := vs)) (fun c σ Hc => ∃ y7 y8 y9 y10 y11 ws, σ = [some (.ref p), some (.ref r), some (.ref W), some (.str nx), some (.int nb), some (.ref a3), some (.ref L), y7, y8, y9, y10, y11] ∧ Hc L = some (.lst ws) ∧ Same H5 (er L Hc) ∧
        All2 (NxR K H (er L Hc)) (((mv ((ns.zip is).take i)).take c).flatMap fun a => (es.map stOf).map fun s => nxW ns (a.1 ++ [k + s.1], a.2 * s.2)) ws)
      ⟨_, _, _, _, _, [], rfl, hL5, by rw [eL5]; exact .refl _, trivial⟩ (fun c σ Hc _ hC => ?_) (fun c x σ Hc Hc' hc hC hy => ?_) (fun σ Hc hC => ?_)⟩
    · obtain ⟨_, _, _, _, _, _, _, _, e, _⟩ := hC
      exact (e.trans er_sub).seq (sql hW4)
    · obtain ⟨y7, y8, y9, y10, y11, ws, rfl, hL, eC, hws⟩ := hC
      obtain ⟨rfl, hx⟩ := hy
      have hci : (mv ((ns.zip is).take i))[c]? = some ((mv ((ns.zip is).take i))[c]'(by omega)) := List.getElem?_eq_getElem (by omega)
      obtain ⟨x', hx', pp, bb, rfl, hpp, hbb, _⟩ := hvs.at (i := c) (by rw [List.getElem?_map, hci]; rfl)
      cases Option.some.inj (hx'.symm.trans hx)
      have wc := okw.2 _ (List.getElem_mem (show c < (mv ((ns.zip is).take i)).length by omega))
      have wl := okl _ (List.getElem_mem (show c < (mv ((ns.zip is).take i)).length by omega))
      have fmt := fm_take (f := fun a : List Int × Int => (es.map stOf).map fun s => nxW ns (a.1 ++ [k + s.1], a.2 * s.2)) hci
      generalize (mv ((ns.zip is).take i))[c]'(by omega) = wcur at hpp hbb wc wl fmt
      have eC5 := eC.trans er_sub
      refine g_gtup (SqT.same eC5 hpp) rfl ?_
      walk_at "go"
      refine ⟨⟨_, eC5.seq ha3⟩, for_it (walk_list (xs := vs3)) (fun d σ Hd => ∃ y9 y10 y11 ws, σ = [some (.ref p), some (.ref r), some (.ref W), some (.str nx), some (.int nb), some (.ref a3), some (.ref L), some (.ref bb), some (.int wcur.2), y9, y10, y11] ∧ Hd L = some (.lst ws) ∧ Same H5 (er L Hd) ∧
          All2 (NxR K H (er L Hd)) ((((mv ((ns.zip is).take i)).take c).flatMap fun a => (es.map stOf).map fun s => nxW ns (a.1 ++ [k + s.1], a.2 * s.2)) ++ (((es.map stOf).map fun s => nxW ns (wcur.1 ++ [k + s.1], wcur.2 * s.2)).take d)) ws)
        ⟨_, _, _, ws, rfl, hL, eC, by simpa using hws⟩ (fun d σ Hd _ hV => ?_) (fun d x σ Hd Hd' hd hV hy => ?_) (fun σ Hd hV => ?_)⟩
      · obtain ⟨_, _, _, _, _, _, e, _⟩ := hV
        exact (e.trans er_sub).seq ha3
      · obtain ⟨y9, y10, y11, ws, rfl, hL, eD, hws⟩ := hV
        obtain ⟨rfl, hx⟩ := hy
        have hdi : (es.map stOf)[d]? = some ((es.map stOf)[d]'(by rw [List.length_map]; omega)) := List.getElem?_eq_getElem _
        obtain ⟨x', hx', pd, rfl, hpd⟩ := st3.at hdi
        cases Option.some.inj (hx'.symm.trans hx)
        have ws2 := hwi.2.2 _ (List.mem_of_getElem? hdi)
        have tk : ((es.map stOf).map fun s => nxW ns (wcur.1 ++ [k + s.1], wcur.2 * s.2)).take (d + 1) = ((es.map stOf).map fun s => nxW ns (wcur.1 ++ [k + s.1], wcur.2 * s.2)).take d ++ [nxW ns (wcur.1 ++ [k + ((es.map stOf)[d]'(by rw [List.length_map]; omega)).1], wcur.2 * ((es.map stOf)[d]'(by rw [List.length_map]; omega)).2)] := by
          rw [List.take_succ, List.getElem?_map, hdi]
          rfl
        generalize (es.map stOf)[d]'(by rw [List.length_map]; omega) = sd at hpd ws2 tk
        have eDD := eD.trans er_sub
        have nc : ∀ {c : Addr} {Hx : Hp}, Hx L = some (.lst ws) → Hx c = none → c ≠ L := fun h1 h2 z => by rw [z, h1] at h2; cases h2
        refine g_gtup (SqT.same eDD hpd) rfl ?_
        walk_at "go"
        refine ⟨bb, _, rfl, .inl (eDD _ _ hbb), fun o1 m1 => ?_⟩
        walk_at "go"
        have n1 := nc hL m1
        have n1H : H o1 = none := fresh_same (e4.trans eDD) m1
        have s6 := same_new (o := .dK (dk ((ns.map (·.x)).zip wcur.1))) m1
        have r6 := s6 _ _ (eDD _ _ (e4 _ _ hr'))
        refine g_key r6 rowv ?_
        walk_at "go"
        have put : putK (dk ((ns.map (·.x)).zip wcur.1)) (.inr nx) (.int (k + sd.1)) = dk ((nxW ns (wcur.1 ++ [k + sd.1], wcur.2 * sd.2)).1) := by
          have hxw : (ns.map (·.x))[wcur.1.length]? = some nx := by rw [wl]; exact hxi
          rw [putR_new (fun q hq z => ?_)]
          · show _ = dk ((ns.map (·.x)).zip (wcur.1 ++ [k + sd.1]))
            rw [zip_snoc hxw]
            unfold dk
            rw [List.map_append]
            rfl
          · obtain ⟨q', hq', rfl⟩ := List.mem_map.mp hq
            exact zip_ne nd hxw q' hq' (Sum.inr.inj z)
        refine g_put upd_same ?_ put ?_
        · rw [dk_len]
          show ((ns.map (·.x)).zip wcur.1).length < sizeLine
          rw [List.length_zip]
          exact small1000 (by omega)
        rw [upd_upd]
        have s7 := same_new (o := .dK (dk ((nxW ns (wcur.1 ++ [k + sd.1], wcur.2 * sd.2)).1))) m1
        have ho7 : (er L (upd Hd' o1 (.dK (dk ((nxW ns (wcur.1 ++ [k + sd.1], wcur.2 * sd.2)).1))))) o1 = some (.dK (dk ((nxW ns (wcur.1 ++ [k + sd.1], wcur.2 * sd.2)).1))) := by rw [er_ne n1, upd_same]
        have hL7 := s7 _ _ hL
        replace hws := hws.mono (NxR.same (er_same s7))
        replace eD := eD.trans (er_same s7)
        clear r6 s6 m1
        generalize upd Hd' o1 (.dK (dk ((nxW ns (wcur.1 ++ [k + sd.1], wcur.2 * sd.2)).1))) = H7 at s7 ho7 hL7 hws eD ⊢
        walk_at "go"
        refine ⟨.inl ⟨rfl, _, sql hL7⟩, ?_⟩
        walk_at "go"
        refine g_I (.inr ⟨by omega, by omega⟩) ?_
        walk_at "go"
        refine ⟨by show 2 ≤ sizeLine; decide, fun c3 m3 => ?_⟩
        have n3 := nc hL7 m3
        have s8 := same_new (o := .tup [V.ref o1, V.int (wcur.2 * sd.2)]) m3
        have hc3 : SqT K (er L (upd H7 c3 (.tup [V.ref o1, V.int (wcur.2 * sd.2)]))) c3 [V.ref o1, V.int (wcur.2 * sd.2)] := sqt (by rw [er_ne n3, upd_same])
        have hL8 := s8 _ _ hL7
        replace ho7 := er_same s8 _ _ ho7
        replace hws := hws.mono (NxR.same (er_same s8))
        replace eD := eD.trans (er_same s8)
        generalize upd H7 c3 (.tup [V.ref o1, V.int (wcur.2 * sd.2)]) = H8 at hc3 ho7 hL8 hws eD ⊢
        have lw := hws.len
        have lw2 : ws.length ≤ 1000 := by
          rw [← lw, List.length_append, List.length_take, List.length_map]
          have : (((mv ((ns.zip is).take i)).take c).flatMap fun a => (es.map stOf).map fun s => nxW ns (a.1 ++ [k + s.1], a.2 * s.2)).length = min c (mv ((ns.zip is).take i)).length * (es.map stOf).length := by
            rw [List.length_flatMap, List.map_congr_left (g := fun _ => (es.map stOf).length) (fun a _ => List.length_map _), sum_const, List.length_take]
          rw [this]
          have : min c (mv ((ns.zip is).take i)).length * (es.map stOf).length ≤ 64 * 4 := Nat.mul_le_mul (by omega) hwi.1
          have : (es.map stOf).length ≤ 4 := hwi.1
          omega
        walk_at "go"
        refine ⟨L, ws, _, rfl, rfl, hL8, small1000 (by omega), ?_⟩
        refine ⟨_, _, _, ws ++ [.ref c3], rfl, upd_same, by rw [er_upd]; exact eD, ?_⟩
        rw [er_upd, tk, ← List.append_assoc]
        exact All2.snoc hws ⟨c3, o1, rfl, hc3, ho7, n1H⟩
      · obtain ⟨y9, y10, y11, ws, rfl, hL, eD, hws⟩ := hV
        rw [show ((es.map stOf).map fun s => nxW ns (wcur.1 ++ [k + s.1], wcur.2 * s.2)).take vs3.length = (es.map stOf).map fun s => nxW ns (wcur.1 ++ [k + s.1], wcur.2 * s.2) from List.take_of_length_le (by rw [List.length_map, List.length_map]; omega), ← fmt] at hws
        exact ⟨_, _, _, _, _, ws, rfl, hL, eD, hws⟩
    · obtain ⟨y7, y8, y9, y10, y11, ws, rfl, hL, eC, hws⟩ := hC
      rw [show (mv ((ns.zip is).take i)).take vs.length = mv ((ns.zip is).take i) from List.take_of_length_le (by omega), ← step] at hws
      walk_at "go"
      exact ⟨L, _, _, _, _, _, _, _, _, _, ws, rfl, e4.trans (eC.trans er_sub), nLH, hL, hws.mono (NxR.same er_sub)⟩
  · obtain ⟨W, y3, y4, y5, y6, y7, y8, y9, y10, y11, vs, rfl, e4, nW, hW4, hvs⟩ := hW
    walk_at "go"
    rw [List.take_of_length_le (by rw [List.length_zip]; omega)] at hvs
    exact q W vs H4 e4 nW hW4 hvs
end

/-! ### the law's futures of a market -/
theorem row0_zip (ns : List Nm) : row0 ns = (ns.map (·.x)).zip (ns.map (·.b)) := by
  unfold row0
  rw [List.zip_map']
theorem row0_take {ns : List Nm} (nd : (ns.map (·.x)).Nodup) {i : Nat} {n : Nm} (h : ns[i]? = some n) : putK (dk (row0 (ns.take i))) (.inr n.x) (.int n.b) = dk (row0 (ns.take (i + 1))) := by
  have e : (ns.take (i + 1)).map (·.x) = (ns.take i).map (·.x) ++ [n.x] := take_map_snoc h
  have nd2 : ((ns.take (i + 1)).map (·.x)).Nodup := by
    rw [List.map_take]
    exact nd.sublist (List.take_sublist _ _)
  rw [e] at nd2
  rw [putR_new (fun q hq z => ?_)]
  · unfold row0 dk
    rw [take_map_snoc (f := fun n : Nm => (n.x, n.b)) h, List.map_append]
    rfl
  · obtain ⟨r, hr, rfl⟩ := List.mem_map.mp hq
    obtain ⟨m, hm, rfl⟩ := List.mem_map.mp hr
    exact (List.nodup_append.mp nd2).2.2 m.x (List.mem_map.mpr ⟨m, hm, rfl⟩) n.x (by simp) (Sum.inr.inj z)
def spLFuts (K : PySem.W.Frag) : Sp := fun vs H Q _ => ∃ (t p : Addr) (la : Int) (ds : List PyData), vs = [.ref t] ∧ SqT K H t [.int la, .ref p] ∧ Dp K H (.ref p) (.list ds) ∧ ds.all okName = true ∧ ds.length ≤ 3 ∧ ((ds.map nmOf).map (·.x)).Nodup ∧ wOk (ds.map nmOf) ∧ 0 ≤ la ∧ la ≤ 12 ∧ cntN la (ds.map nmOf) ≤ 2000 ∧
  ∀ D ts H', Same H H' → H D = none → H' D = some (.lst (ts.map fun t => V.ref t.1)) → All2 (FR K H') (fuR la (ds.map nmOf)) ts → Q (.ref D) H'
section
variable {P : Program} {w : World} {K : PySem.W.Frag} {mg : Str → Option Value} {base : Heap}
abbrev s__law_futures : Stmt := topS 33
theorem sc__law_futures : FnScope ["_law_market_here", "_law_last", "_law_names", "_law_first", "_law_name", "_law_begun_here", "_law_steps_here", "_law_found", "_law_hour", "_law_longer", "_law_rows", "_law_weight", "_law_row", "_law_more"] ["_law_market_here"] (defScope s__law_futures) := ⟨rfl, rfl, rfl, by decide +kernel, rfl, by decide +kernel, by decide +kernel⟩
theorem h__law_futures {k : Nat} {f : Addr} {fd : FuncData} (O : Own K mg "_law_futures" s__law_futures ["_law_market_here"] f fd)  {f__law_nexts : Addr} {fd__law_nexts : FuncData} (D__law_nexts : Has P w K mg base "_law_nexts" ["_law_names", "_law_row"] k CX0 (spNexts K) f__law_nexts fd__law_nexts) (m_range : mg "range" = none) : Has P w K mg base "_law_futures" ["_law_market_here"] (k + 1) CX0 (spLFuts K) f fd := by
  refine O.has (O.F.ok sc__law_futures (fun vs H Q E h => ?_) (fun cdv A outer s H vs Q E hr h => ?_))
  · obtain ⟨t, p, la, ds, rfl, _⟩ := h
    rfl
  obtain ⟨t, p, la, ds, rfl, ht, hds, okd, ld, nd, hw, l0, l1, hc0, q⟩ := h
  refine ⟨_, (pss_cons (ps_asg (pv 0) (pg_tup rfl (pgs_cons (pg_name (i := 1) sc__law_futures.nd rfl (.inl rfl)) (pgs_cons (pg_name (i := 2) sc__law_futures.nd rfl (.inl rfl)) pgs_nil)))) (pss_cons (ps_set (i := 3) sc__law_futures.nd rfl (.inl rfl) pe_dnewK) (pss_cons (ps_for PassesOwn.never rfl (pi_list (pv 2)) (pg_tup rfl (pgs_cons (pg_name (i := 4) sc__law_futures.nd rfl (.inl rfl)) (pgs_cons (pg_name (i := 5) sc__law_futures.nd rfl (.inl rfl)) (pgs_cons (pg_name (i := 6) sc__law_futures.nd rfl (.inl rfl)) pgs_nil)))) (pss_one (ps_dput (hu_of hr) (pv 3) (pv 4) (pv 5) (by rfl)))) (pss_cons (ps_set (i := 7) sc__law_futures.nd rfl (.inl rfl) (pe_lst (pa_cons (pe_tup (pa_cons (pe_lst (pa_cons (pv 3) pa_nil)) (pa_cons pe_int pa_nil))) pa_nil))) (pss_cons (ps_for PassesOwn.never rfl (pi_range1 (by rfl) m_range (pa_cons (pv 1) pa_nil)) (pg_name (i := 8) sc__law_futures.nd rfl (.inl rfl)) (pss_cons (ps_set (i := 9) sc__law_futures.nd rfl (.inl rfl) (pe_lst pa_nil)) (pss_cons (ps_for PassesOwn.never rfl (pi_list (pv 7)) (pg_tup rfl (pgs_cons (pg_name (i := 10) sc__law_futures.nd rfl (.inl rfl)) (pgs_cons (pg_name (i := 11) sc__law_futures.nd rfl (.inl rfl)) pgs_nil))) (pss_one (ps_for PassesOwn.never rfl (pi_list (pe_call D__law_nexts.G hr (by rfl) D__law_nexts.g D__law_nexts.k D__law_nexts.b .nil pass0 (pa_cons (pv 2) (pa_cons (pe_ix ix_list (pv 10) (pe_un un_neg pe_int) (fun _ _ => rfl)) pa_nil)))) (pg_tup rfl (pgs_cons (pg_name (i := 12) sc__law_futures.nd rfl (.inl rfl)) (pgs_cons (pg_name (i := 13) sc__law_futures.nd rfl (.inl rfl)) pgs_nil))) (pss_one (ps_expr (pe_bm PySem.F.plainAttrs_list PySem.F.slot_list_append PySem.F.type_list_append mt_append (pv 9) (pa_cons (pe_tup (pa_cons (pe_op op_cat (pv 10) (pe_lst (pa_cons (pv 12) pa_nil))) (pa_cons (pe_op op_mul (pv 11) (pv 13)) pa_nil))) pa_nil))))))) (pss_one (ps_set (i := 7) sc__law_futures.nd rfl (.inl rfl) (pv 9)))))) (pss_one (ps_ret (pv 7)))))))), ?_⟩
  have hds0 := hds
  cases hds with
  | @lst _ us _ hu hall =>
  have lu := DpAll.len hall
  have ln : (ds.map nmOf).length = ds.length := List.length_map _
  have nd0 := nd
  have hw0 := hw
  generalize hns : ds.map nmOf = ns at nd hw hc0 q ln
  have l3 : ns.length ≤ 3 := by omega
  walk_at "go"
  refine g_gtup ht rfl ?_
  walk_at "go"
  intro d0 m0
  have s1 := same_new (o := .dK []) m0
  have hd1 : (upd H d0 (.dK [])) d0 = some (.dK (dk (row0 (ns.take 0)))) := upd_same
  have e1 : er d0 (upd H d0 (.dK [])) = H := er_upd.trans (er_new m0)
  generalize upd H d0 (.dK []) = H1 at s1 hd1 e1 ⊢
  walk_at "go"
  refine ⟨⟨_, s1.seq hu⟩, for_it (walk_list (xs := us)) (fun i σ H4 => ∃ y4 y5 y6, σ = [some (.ref t), some (.int la), some (.ref p), some (.ref d0), y4, y5, y6, none, none, none, none, none, none, none] ∧ Same H (er d0 H4) ∧ H4 d0 = some (.dK (dk (row0 (ns.take i)))))
    ⟨_, _, _, rfl, by rw [e1]; exact .refl _, hd1⟩ (fun i σ H4 _ hW => ?_) (fun i x σ H4 H5 hi4 hW hy => ?_) (fun σ H4 hW => ?_)⟩
  · obtain ⟨_, _, _, _, e, _⟩ := hW
    exact (e.trans er_sub).seq hu
  · obtain ⟨y4, y5, y6, rfl, e4, hd4⟩ := hW
    obtain ⟨rfl, hx⟩ := hy
    have hid : i < ds.length := by omega
    have hdi : ds[i]? = some ds[i] := List.getElem?_eq_getElem hid
    obtain ⟨x', hx', du⟩ := DpAll.at hall hdi
    cases Option.some.inj (hx'.symm.trans hx)
    obtain ⟨nx, nb, es, ed, eo, _⟩ := okName_parts (List.all_eq_true.mp okd _ (List.getElem_mem hid))
    have hni : ns[i]? = some ⟨nx, nb, es.map stOf⟩ := by rw [← hns, List.getElem?_map, hdi, ed]; rfl
    rw [ed] at du
    have du := Dp.dm (.of (e4.trans er_sub)) du
    cases du with
    | @tup b us' es' hb he =>
    cases he with
    | @cons z1 _ _ _ g1 he =>
    cases he with
    | @cons z2 _ _ _ g2 he =>
    cases he with
    | @cons z3 _ _ _ g3 he =>
    cases he
    cases g1
    cases g2
    refine g_gtup hb rfl ?_
    walk_at "go"
    refine g_put hd4 ?_ (row0_take nd hni) ?_
    · rw [dk_len]
      unfold row0
      rw [List.length_map, List.length_take]
      exact small1000 (by omega)
    walk_at "go"
    exact ⟨_, _, _, rfl, by rw [er_upd]; exact e4, upd_same⟩
  · obtain ⟨y4, y5, y6, rfl, e4, hd4⟩ := hW
    rw [List.take_of_length_le (by omega), row0_zip] at hd4
    replace e4 := e4.trans er_sub
    walk_at "go"
    refine ⟨by show 1 ≤ sizeLine; decide, fun l nl => ?_⟩
    have s2 := same_new (o := .lst [.ref d0]) nl
    have hl2 : (upd H4 l (.lst [.ref d0])) l = some (.lst [.ref d0]) := upd_same
    have e2 := e4.trans s2
    replace hd4 := s2 _ _ hd4
    generalize upd H4 l (.lst [.ref d0]) = H2 at hl2 e2 hd4 ⊢
    walk_at "go"
    refine ⟨by show 2 ≤ sizeLine; decide, fun p0 np => ?_⟩
    have s3 := same_new (o := .tup [.ref l, .int 1]) np
    have hp3 : SqT K (upd H2 p0 (.tup [.ref l, .int 1])) p0 [.ref l, .int 1] := sqt upd_same
    have e3 := e2.trans s3
    replace hd4 := s3 _ _ hd4
    replace hl2 := s3 _ _ hl2
    generalize upd H2 p0 (.tup [.ref l, .int 1]) = H3 at hl2 hp3 e3 hd4 ⊢
    walk_at "go"
    refine ⟨by show 1 ≤ sizeLine; decide, fun W nW => ?_⟩
    have s4 := same_new (o := .lst [.ref p0]) nW
    have hW4 : (upd H3 W (.lst [.ref p0])) W = some (.lst [.ref p0]) := upd_same
    have e5 := e3.trans s4
    replace hd4 := s4 _ _ hd4
    replace hl2 := s4 _ _ hl2
    replace hp3 := SqT.same s4 hp3
    have nW0 := fresh_same e3 nW
    generalize upd H3 W (.lst [.ref p0]) = H5 at hl2 hp3 hW4 e5 hd4 ⊢
    walk_at "go"
    refine ⟨by omega, by omega, for_range (lo := 0) (n := la.toNat) (fun i σ H5 => ∃ y4 y5 y6 W y8 y9 y10 y11 y12 y13 ts, σ = [some (.ref t), some (.int la), some (.ref p), some (.ref d0), y4, y5, y6, some (.ref W), y8, y9, y10, y11, y12, y13] ∧ Same H H5 ∧ H W = none ∧ H5 W = some (.lst (ts.map fun t => V.ref t.1)) ∧ All2 (FR K H5) ((fu ns i).map (rowsW ns)) ts)
      ⟨_, _, _, W, _, _, _, _, _, _, [(p0, l, [d0])], rfl, e5, nW0, hW4, All2.one ⟨hp3, hl2, All2.one hd4⟩⟩ (fun i σ H5 hi hV => ?_) (fun σ H5 hV => ?_)⟩
    · obtain ⟨y4, y5, y6, W, y8, y9, y10, y11, y12, y13, ts, rfl, e5, nW, hW5, hts⟩ := hV
      have fok := fu_ok hw l3 i
      have fok1 := fu_ok hw l3 (i + 1)
      have lts := hts.len
      rw [List.length_map] at lts
      have step : (fu ns (i + 1)).map (rowsW ns) = (fu ns i).flatMap fun a => (mv (ns.zip (lastL a.1))).map fun b => rowsW ns (a.1 ++ [b.1], a.2 * b.2) := by
        show (fuS ns (fu ns i)).map _ = _
        unfold fuS
        rw [List.map_flatMap]
        refine congrArg (fun f => List.flatMap f _) (funext fun a => ?_)
        rw [List.map_map]
        rfl
      walk_at "go"
      refine ⟨by show 0 ≤ sizeLine; decide, fun L nL => ?_⟩
      have hL5 : (upd H5 L (.lst [])) L = some (.lst []) := upd_same
      have eL5 : er L (upd H5 L (.lst [])) = H5 := er_upd.trans (er_new nL)
      generalize upd H5 L (.lst []) = H6 at hL5 eL5 ⊢
      have nLH := fresh_same e5 nL
      have s56 : Same H5 H6 := by rw [← eL5]; exact er_sub
      walk_at "go"
      refine ⟨⟨_, s56.seq (sql hW5)⟩, for_it (walk_list (xs := ts.map fun t => V.ref t.1)) (fun c σ Hc => ∃ y8 y10 y11 y12 y13 us, σ = [some (.ref t), some (.int la), some (.ref p), some (.ref d0), y4, y5, y6, some (.ref W), y8, some (.ref L), y10, y11, y12, y13] ∧ Hc L = some (.lst (us.map fun t => V.ref t.1)) ∧ Same H5 (er L Hc) ∧
          All2 (FR K (er L Hc)) (((fu ns i).take c).flatMap fun a => (mv (ns.zip (lastL a.1))).map fun b => rowsW ns (a.1 ++ [b.1], a.2 * b.2)) us)
        ⟨_, _, _, _, _, [], rfl, hL5, by rw [eL5]; exact .refl _, trivial⟩ (fun c σ Hc _ hC => ?_) (fun c x σ Hc Hc' hc hC hy => ?_) (fun σ Hc hC => ?_)⟩
      · obtain ⟨_, _, _, _, _, _, _, _, e, _⟩ := hC
        exact (e.trans er_sub).seq (sql hW5)
      · obtain ⟨y8, y10, y11, y12, y13, us, rfl, hL, eC, hus⟩ := hC
        obtain ⟨rfl, hx⟩ := hy
        rw [List.length_map] at hc
        have hci : (fu ns i)[c]? = some ((fu ns i)[c]'(by omega)) := List.getElem?_eq_getElem (by omega)
        obtain ⟨⟨pp, ll, rs⟩, hx', hpp, hll, hrs⟩ := hts.at (i := c) (by rw [List.getElem?_map, hci]; rfl)
        have hx2 : (ts.map fun t => V.ref t.1)[c]? = some (.ref pp) := by rw [List.getElem?_map, hx']; rfl
        cases Option.some.inj (hx2.symm.trans hx)
        have wc := fok.2 _ (List.getElem_mem (show c < (fu ns i).length by omega))
        have fmt := fm_take (f := fun a : List (List Int) × Int => (mv (ns.zip (lastL a.1))).map fun b => rowsW ns (a.1 ++ [b.1], a.2 * b.2)) hci
        have fmp := fun d => fm_pre (f := fun a : List (List Int) × Int => (mv (ns.zip (lastL a.1))).map fun b => rowsW ns (a.1 ++ [b.1], a.2 * b.2)) (d := d) hci
        generalize (fu ns i)[c]'(by omega) = wcur at hpp hll hrs wc fmt fmp
        have hpp : SqT K H5 pp [.ref ll, .int wcur.2] := hpp
        have hll : H5 ll = some (.lst (rs.map V.ref)) := hll
        have hrs : All2 (fun R r => H5 r = some (.dK (dk R))) (wcur.1.map fun is => (ns.map (·.x)).zip is) rs := hrs
        have eC5 := eC.trans er_sub
        obtain ⟨⟨u, xl, ew⟩, wl, wlen⟩ := wc
        have hlast : lastL wcur.1 = xl := by rw [ew, lastL_snoc]
        have lenx : xl.length = ns.length := wlen xl (by rw [ew]; simp)
        have lrs := hrs.len
        rw [List.length_map] at lrs
        have hrs0 := hrs
        rw [ew, List.map_append] at hrs
        have okm := mv_ok hw lenx l3
        obtain ⟨rs1, r1, ers, hrs1, hr1⟩ := hrs.snoc_inv
        rw [hlast] at fmp fmt
        refine g_gtup (SqT.same eC5 hpp) rfl ?_
        walk_at "go"
        refine ⟨_, _, _, _, rfl, rfl, sql (eC5 _ _ hll), by rw [ers, List.map_append]; exact atI_last _ _, ?_⟩
        walk_at "go"
        have hdC := Dp.dm (.of (e5.trans eC5)) hds0
        refine ⟨p, r1, ds, xl, rfl, hdC, okd, ld, nd0, hw0, by omega, by rw [hns]; exact eC5 _ _ hr1, fun M ms Hm eM nM hM hms => ?_⟩
        rw [hns] at hms
        have hDm := eM _ _ hL
        have hDc := hL
        have lms := hms.len
        rw [List.length_map] at lms
        have eCm := eC.trans (er_same eM)
        walk_at "go"
        refine ⟨⟨_, sql hM⟩, for_it (walk_list (xs := ms)) (fun d σ Hd => ∃ y12 y13 us, σ = [some (.ref t), some (.int la), some (.ref p), some (.ref d0), y4, y5, y6, some (.ref W), y8, some (.ref L), some (.ref ll), some (.int wcur.2), y12, y13] ∧ Hd L = some (.lst (us.map fun t => V.ref t.1)) ∧ Same H5 (er L Hd) ∧ Same (er L Hm) (er L Hd) ∧
            All2 (FR K (er L Hd)) ((((fu ns i).take c).flatMap fun a => (mv (ns.zip (lastL a.1))).map fun b => rowsW ns (a.1 ++ [b.1], a.2 * b.2)) ++ (((mv (ns.zip xl)).map fun b => rowsW ns (wcur.1 ++ [b.1], wcur.2 * b.2)).take d)) us)
          ⟨_, _, us, rfl, hDm, eCm, .refl _, by simpa using hus.mono (FR.same (er_same eM))⟩ (fun d σ Hd _ hV => ?_) (fun d x σ Hd Hd' hd hV hy => ?_) (fun σ Hd hV => ?_)⟩
        · obtain ⟨_, _, _, _, _, _, e, _⟩ := hV
          have nML : M ≠ L := fun z => by rw [z, hDc] at nM; cases nM
          exact sql (er_sub _ _ (e _ _ (by rw [er_ne nML]; exact hM)))
        · obtain ⟨y12, y13, us, rfl, hL, eD, eMD, hus⟩ := hV
          obtain ⟨rfl, hx⟩ := hy
          have hdi : (mv (ns.zip xl))[d]? = some ((mv (ns.zip xl))[d]'(by omega)) := List.getElem?_eq_getElem (by omega)
          obtain ⟨x', hx', pd, bd, rfl, hpd, hbd, nbd⟩ := hms.at (i := d) (by rw [List.getElem?_map, hdi]; rfl)
          cases Option.some.inj (hx'.symm.trans hx)
          have wd := okm.2 _ (List.getElem_mem (show d < (mv (ns.zip xl)).length by omega))
          have tk : ((mv (ns.zip xl)).map fun b => rowsW ns (wcur.1 ++ [b.1], wcur.2 * b.2)).take (d + 1) = ((mv (ns.zip xl)).map fun b => rowsW ns (wcur.1 ++ [b.1], wcur.2 * b.2)).take d ++ [rowsW ns (wcur.1 ++ [((mv (ns.zip xl))[d]'(by omega)).1], wcur.2 * ((mv (ns.zip xl))[d]'(by omega)).2)] := by
            rw [List.take_succ, List.getElem?_map, hdi]
            rfl
          generalize (mv (ns.zip xl))[d]'(by omega) = md at hpd hbd wd tk
          have hpd : SqT K Hm pd [.ref bd, .int md.2] := hpd
          have hbd : Hm bd = some (.dK (dk ((ns.map (·.x)).zip md.1))) := hbd
          have eDD := eD.trans er_sub
          have nbD : bd ≠ L := fun z => by rw [z, hDc] at nbd; cases nbd
          have hbd' : (er L Hd') bd = some (.dK (dk ((ns.map (·.x)).zip md.1))) := eMD _ _ (by rw [er_ne nbD]; exact hbd)
          refine g_gtup (SqT.same (eMD.trans er_sub) (SqT.er hDm hpd)) rfl ?_
          walk_at "go"
          have nc : ∀ {c : Addr} {Hx : Hp}, Hx L = some (.lst (us.map fun t => V.ref t.1)) → Hx c = none → c ≠ L := fun h1 h2 z => by rw [z, h1] at h2; cases h2
          refine ⟨.inl ⟨rfl, _, sql hL⟩, ?_⟩
          walk_at "go"
          refine ⟨by show 1 ≤ sizeLine; decide, fun c1 m1 => ?_⟩
          have s6 := same_new (o := .lst [V.ref bd]) m1
          have hc1 : (upd Hd' c1 (.lst [V.ref bd])) c1 = some (.lst [V.ref bd]) := upd_same
          have hD6 := s6 _ _ hL
          replace hus := hus.mono (FR.same (er_same s6))
          replace eD := eD.trans (er_same s6)
          replace eMD := eMD.trans (er_same s6)
          replace eDD := eDD.trans s6
          replace hbd' := er_same s6 _ _ hbd'
          clear m1
          generalize upd Hd' c1 (.lst [V.ref bd]) = H6 at s6 hc1 hD6 hus eD eDD eMD hbd' ⊢
          refine ⟨ll, c1, _, _, rfl, rfl, eDD _ _ hll, hc1, Nat.le_trans (show _ ≤ 1000 by rw [List.length_map, ← lrs, wl]; simp; omega) (by decide), fun c2 m2 => ?_⟩
          have n2 := nc hD6 m2
          have ev : rs.map V.ref ++ [V.ref bd] = (rs ++ [bd]).map V.ref := by rw [List.map_append]; rfl
          rw [ev]
          have s7 := same_new (o := .lst ((rs ++ [bd]).map V.ref)) m2
          have hc2 : (er L (upd H6 c2 (.lst ((rs ++ [bd]).map V.ref)))) c2 = some (.lst ((rs ++ [bd]).map V.ref)) := by rw [er_ne n2, upd_same]
          have hD7 := s7 _ _ hD6
          replace hus := hus.mono (FR.same (er_same s7))
          replace eD := eD.trans (er_same s7)
          replace eMD := eMD.trans (er_same s7)
          replace hbd' := er_same s7 _ _ hbd'
          generalize upd H6 c2 (.lst ((rs ++ [bd]).map V.ref)) = H7 at s7 hc2 hD7 hus eD eMD hbd' ⊢
          walk_at "go"
          refine g_I (.inr ⟨by omega, by omega⟩) ?_
          walk_at "go"
          refine ⟨by show 2 ≤ sizeLine; decide, fun c3 m3 => ?_⟩
          have n3 := nc hD7 m3
          have s8 := same_new (o := .tup [V.ref c2, V.int (wcur.2 * md.2)]) m3
          have hc3 : SqT K (er L (upd H7 c3 (.tup [V.ref c2, V.int (wcur.2 * md.2)]))) c3 [V.ref c2, V.int (wcur.2 * md.2)] := sqt (by rw [er_ne n3, upd_same])
          have hD8 := s8 _ _ hD7
          replace hc2 := er_same s8 _ _ hc2
          replace hus := hus.mono (FR.same (er_same s8))
          replace eD := eD.trans (er_same s8)
          replace eMD := eMD.trans (er_same s8)
          replace hbd' := er_same s8 _ _ hbd'
          generalize upd H7 c3 (.tup [V.ref c2, V.int (wcur.2 * md.2)]) = H8 at hc3 hc2 hD8 hus eD eMD hbd' ⊢
          have lw := hus.len
          have lw2 : us.length ≤ 2000 := by
            rw [← lw]
            refine Nat.le_trans (fmp d) ?_
            rw [← step, List.length_map, fok1.1]
            exact cnt_le hw hc0 (by omega)
          walk_at "go"
          refine ⟨L, _, _, rfl, rfl, hD8, by rw [List.length_map]; exact Nat.lt_of_lt_of_le (show us.length < 4000 by omega) (by decide), ?_⟩
          refine ⟨_, _, us ++ [(c3, c2, rs ++ [bd])], rfl, by rw [upd_same, List.map_append]; rfl, by rw [er_upd]; exact eD, by rw [er_upd]; exact eMD, ?_⟩
          rw [er_upd, tk, ← List.append_assoc]
          refine All2.snoc hus ⟨hc3, hc2, ?_⟩
          show All2 _ ((wcur.1 ++ [md.1]).map fun is => (ns.map (·.x)).zip is) (rs ++ [bd])
          rw [List.map_append]
          exact All2.snoc (hrs0.mono fun _ _ h => eD _ _ h) hbd'
        · obtain ⟨y12, y13, us, rfl, hL, eD, _, hus⟩ := hV
          rw [show ((mv (ns.zip xl)).map fun b => rowsW ns (wcur.1 ++ [b.1], wcur.2 * b.2)).take ms.length = (mv (ns.zip xl)).map fun b => rowsW ns (wcur.1 ++ [b.1], wcur.2 * b.2) from List.take_of_length_le (by rw [List.length_map]; omega), ← fmt] at hus
          exact ⟨_, _, _, _, _, us, rfl, hL, eD, hus⟩
      · obtain ⟨y8, y10, y11, y12, y13, us, rfl, hL, eC, hus⟩ := hC
        rw [show (fu ns i).take (ts.map fun t => V.ref t.1).length = fu ns i from List.take_of_length_le (by rw [List.length_map]; omega), ← step] at hus
        walk_at "go"
        exact ⟨_, _, _, L, _, _, _, _, _, _, us, rfl, e5.trans (eC.trans er_sub), nLH, hL, hus.mono (FR.same er_sub)⟩
    · obtain ⟨y4, y5, y6, W, y8, y9, y10, y11, y12, y13, ts, rfl, e5, nW, hW5, hts⟩ := hV
      walk_at "go"
      exact q W ts H5 e5 nW hW5 hts
end

/-! ### alike, rows too -/
def DkOk (kvs : List (Key × V)) : Prop := kvs.length ≤ 1000 ∧ ∀ p ∈ kvs, (∃ x, p.1 = .inr x) ∧ (∃ i, p.2 = .int i) ∧ valV kvs p.1 = some p.2
def AlkR (K : PySem.W.Frag) (H : Hp) : Nat → V → V → Prop
  | 0, _, _ => False
  | n + 1, v, u => (v = u ∧ (v = .non ∨ (∃ b, v = .bl b) ∨ (∃ i, v = .int i) ∨ ∃ x, v = .str x)) ∨
    (∃ p q xs ys, v = .ref p ∧ u = .ref q ∧ SqL K H p xs ∧ SqL K H q ys ∧ xs.length ≤ 4000 ∧ All2 (AlkR K H n) xs ys) ∨
    (∃ p q xs ys, v = .ref p ∧ u = .ref q ∧ SqT K H p xs ∧ SqT K H q ys ∧ xs.length ≤ 4000 ∧ All2 (AlkR K H n) xs ys) ∨
    (∃ p q kvs m, v = .ref p ∧ u = .ref q ∧ H p = some (.dK kvs) ∧ H q = some (.dK kvs) ∧ DkOk kvs ∧ n = m + 1)
theorem All2.at2 {α β : Type} {R : α → β → Prop} : ∀ {as : List α} {bs : List β} {i : Nat} {a : α} {b : β}, All2 R as bs → as[i]? = some a → bs[i]? = some b → R a b := fun {as bs i a b} h h1 h2 => by
  obtain ⟨c, h3, r⟩ := All2.at h h1
  cases Option.some.inj (h3.symm.trans h2)
  exact r
theorem AlkR.same {K : PySem.W.Frag} {H H' : Hp} (e : Same H H') : ∀ {n : Nat} {v u : V}, AlkR K H n v u → AlkR K H' n v u
  | 0, _, _, h => h
  | n + 1, v, u, h => by
    rcases h with h | ⟨p, q, xs, ys, e1, e2, h1, h2, h3, h4⟩ | ⟨p, q, xs, ys, e1, e2, h1, h2, h3, h4⟩ | ⟨p, q, kvs, m, e1, e2, h1, h2, h3⟩
    · exact .inl h
    · exact .inr (.inl ⟨p, q, xs, ys, e1, e2, e.seq h1, e.seq h2, h3, h4.mono fun _ _ => AlkR.same e⟩)
    · exact .inr (.inr (.inl ⟨p, q, xs, ys, e1, e2, SqT.same e h1, SqT.same e h2, h3, h4.mono fun _ _ => AlkR.same e⟩))
    · exact .inr (.inr (.inr ⟨p, q, kvs, m, e1, e2, e _ _ h1, e _ _ h2, h3⟩))
theorem g_ikeys {td : TE} {σ : L2.St} {H : Hp} {R : It → Hp → Prop} (h : td σ H fun x H1 => ∃ d o, x = .ref d ∧ ((∃ kvs, H1 d = some (.frz o (.dK kvs)) ∧ R (Itk d o kvs) H1) ∨ ∃ kvs, H1 d = some (.frz o (.dT kvs)) ∧ R (Itkt d o kvs) H1)) : iKeys td σ H R := h
def spAlk (K : PySem.W.Frag) (n : Nat) : Sp := fun vs H Q _ => ∃ (v u : V), vs = [v, u] ∧ AlkR K H n v u ∧ ∀ H', Same H H' → Q (.bl true) H'
theorem use_alk {K : PySem.W.Frag} {n : Nat} {v u : V} {H : Hp} {Q : VK} {E : XK} (h : AlkR K H n v u) (q : ∀ H', Same H H' → Q (.bl true) H') : spAlk K n ([v, u] ++ []) H Q E := ⟨v, u, rfl, h, q⟩
theorem none_alk {P : Program} {w : World} {K : PySem.W.Frag} {mg : Str → Option Value} {base : Heap} {f : Addr} {fd : FuncData} {ps : List Str} : FnOk P w K mg base CX0 0 f fd ps (spAlk K 0) := by
  have no : ∀ vs H Q E, ¬ spAlk K 0 vs H Q E := fun vs H Q E h => by
    obtain ⟨v, u, _, h, _⟩ := h
    exact h
  exact ⟨fun vs H Q E h => absurd h (no vs H Q E), fun A outer s H args us vs Q E _ _ _ _ h => absurd h (no vs H Q E)⟩
theorem rd_lock {H : Hp} {p q : Addr} {kvs : List (Key × V)} {od : Obj} (h1 : H p = some (.dK kvs)) (h2 : H q = some (.dK kvs)) : Rd (upd H q (.frz od (.dK kvs))) p (.dK kvs) := by
  by_cases c : p = q
  · subst c
    exact .inr ⟨od, upd_same⟩
  · exact .inl (by rw [upd_ne c]; exact h1)
section
variable {P : Program} {w : World} {K : PySem.W.Frag} {mg : Str → Option Value} {base : Heap}
abbrev s__law_alike : Stmt := topS 29
theorem sc__law_alike : FnScope ["_law_found", "_law_due", "_law_k", "_law_name"] ["_law_found", "_law_due"] (defScope s__law_alike) := ⟨rfl, rfl, rfl, by decide +kernel, rfl, by decide +kernel, by decide +kernel⟩
theorem h__law_alike {n : Nat} {k : Nat} {f : Addr} {fd : FuncData} (O : Own K mg "_law_alike" s__law_alike ["_law_found", "_law_due"] f fd)  {f__law_alike : Addr} {fd__law_alike : FuncData} (D__law_alike : Has P w K mg base "_law_alike" ["_law_found", "_law_due"] k CX0 (spAlk K n) f__law_alike fd__law_alike) (m_all : mg "all" = none) (m_range : mg "range" = none) (m_len : mg "len" = none) (m_isinstance : mg "isinstance" = none) (m_list : mg "list" = none) (m_tuple : mg "tuple" = none) (m_dict : mg "dict" = none) (m_str : mg "str" = none) (m_int : mg "int" = none) (m_bool : mg "bool" = none) : Has P w K mg base "_law_alike" ["_law_found", "_law_due"] (k + 1) CX0 (spAlk K (n + 1)) f fd := by
  refine O.has (O.F.ok sc__law_alike (fun vs H Q E h => ?_) (fun cdv A outer s H vs Q E hr h => ?_))
  · obtain ⟨v, u, rfl, _⟩ := h
    rfl
  obtain ⟨v, u, rfl, h, q⟩ := h
  refine ⟨_, (pss_cons (ps_if (pt_cmpR op_isN (pv 1) pe_non (nomark _)) (pss_one (ps_ret (pe_cmpR op_isN (pv 0) pe_non (nomark _)))) pss_nil) (pss_cons (ps_if (pt_val (pe_callB call_isi (by rfl) m_isinstance (by decide +kernel) (pa_cons (pv 1) (pa_cons (pe_bltn (v := .ty "bool") (by rfl) m_bool (by decide +kernel) rfl) pa_nil)))) (pss_one (ps_ret (pe_and (pe_callB call_isi (by rfl) m_isinstance (by decide +kernel) (pa_cons (pv 0) (pa_cons (pe_bltn (v := .ty "bool") (by rfl) m_bool (by decide +kernel) rfl) pa_nil))) (pe_one (pe_cmpR op_eq (pv 0) (pv 1) (nomark _)))))) pss_nil) (pss_cons (ps_if (pt_val (pe_callB call_isi (by rfl) m_isinstance (by decide +kernel) (pa_cons (pv 1) (pa_cons (pe_bltn (v := .ty "int") (by rfl) m_int (by decide +kernel) rfl) pa_nil)))) (pss_one (ps_ret (pe_and (pe_callB call_isi (by rfl) m_isinstance (by decide +kernel) (pa_cons (pv 0) (pa_cons (pe_bltn (v := .ty "int") (by rfl) m_int (by decide +kernel) rfl) pa_nil))) (pe_and (pe_not (pe_callB call_isi (by rfl) m_isinstance (by decide +kernel) (pa_cons (pv 0) (pa_cons (pe_bltn (v := .ty "bool") (by rfl) m_bool (by decide +kernel) rfl) pa_nil)))) (pe_one (pe_cmpR op_eq (pv 0) (pv 1) (nomark _))))))) pss_nil) (pss_cons (ps_if (pt_val (pe_callB call_isi (by rfl) m_isinstance (by decide +kernel) (pa_cons (pv 1) (pa_cons (pe_bltn (v := .ty "str") (by rfl) m_str (by decide +kernel) rfl) pa_nil)))) (pss_one (ps_ret (pe_and (pe_callB call_isi (by rfl) m_isinstance (by decide +kernel) (pa_cons (pv 0) (pa_cons (pe_bltn (v := .ty "str") (by rfl) m_str (by decide +kernel) rfl) pa_nil))) (pe_one (pe_cmpR op_eq (pv 0) (pv 1) (nomark _)))))) pss_nil) (pss_cons (ps_if (pt_val (pe_callB call_isi (by rfl) m_isinstance (by decide +kernel) (pa_cons (pv 1) (pa_cons (pe_bltn (v := .ty "dict") (by rfl) m_dict (by decide +kernel) rfl) pa_nil)))) (pss_cons (ps_if (PW.pt (pw_or (pt_not (pt_val (pe_callB call_isi (by rfl) m_isinstance (by decide +kernel) (pa_cons (pv 0) (pa_cons (pe_bltn (v := .ty "dict") (by rfl) m_dict (by decide +kernel) rfl) pa_nil))))) (pw_or1 (pt_cmpR op_ne (pe_callB call_lenA (by rfl) m_len (by decide +kernel) (pa_cons (pv 0) pa_nil)) (pe_callB call_lenA (by rfl) m_len (by decide +kernel) (pa_cons (pv 1) pa_nil)) (nomark _))))) (pss_one (ps_ret pe_bl)) pss_nil) (pss_one (ps_ret (pe_callB (cr_all rfl) (by rfl) m_all (by decide +kernel) (pa_cons (pe_lock (pe_lc (own := [("_law_name", 3)]) (g := gName 3) rfl sc__law_alike.nd (pi_keys (pv 1)) (blkOk_by (own := [("_law_name", 3)]) (N := ["_law_found", "_law_due", "_law_k", "_law_name"]) (sc := defScope s__law_alike) (by decide +kernel)) (fun _ _ _ _ _ => pg_name (i := 3) sc__law_alike.nd rfl (.inl rfl)) (fun _ _ _ _ _ => pts_nil) (fun _ _ _ _ _ => (pe_and (pe_cmp (pc_din (hu_of hr) (pv 3) (pv 0))) (pe_one (pe_call D__law_alike.G hr (by rfl) D__law_alike.g D__law_alike.k D__law_alike.b .nil pass0 (pa_cons (pe_dget (hu_of hr) (pv 0) (pv 3) (fun _ _ => rfl)) (pa_cons (pe_dget (hu_of hr) (pv 1) (pv 3) (fun _ _ => rfl)) pa_nil)))))))) pa_nil))))) pss_nil) (pss_cons (ps_if (PW.pt (pw_or (pt_cmpR op_ne (pe_callB call_isi (by rfl) m_isinstance (by decide +kernel) (pa_cons (pv 1) (pa_cons (pe_bltn (v := .ty "tuple") (by rfl) m_tuple (by decide +kernel) rfl) pa_nil))) (pe_callB call_isi (by rfl) m_isinstance (by decide +kernel) (pa_cons (pv 0) (pa_cons (pe_bltn (v := .ty "tuple") (by rfl) m_tuple (by decide +kernel) rfl) pa_nil))) (nomark _)) (pw_or1 (pt_cmpR op_ne (pe_callB call_isi (by rfl) m_isinstance (by decide +kernel) (pa_cons (pv 1) (pa_cons (pe_bltn (v := .ty "list") (by rfl) m_list (by decide +kernel) rfl) pa_nil))) (pe_callB call_isi (by rfl) m_isinstance (by decide +kernel) (pa_cons (pv 0) (pa_cons (pe_bltn (v := .ty "list") (by rfl) m_list (by decide +kernel) rfl) pa_nil))) (nomark _))))) (pss_one (ps_ret pe_bl)) pss_nil) (pss_cons (ps_if (pt_cmpR op_ne (pe_callB call_lenA (by rfl) m_len (by decide +kernel) (pa_cons (pv 0) pa_nil)) (pe_callB call_lenA (by rfl) m_len (by decide +kernel) (pa_cons (pv 1) pa_nil)) (nomark _)) (pss_one (ps_ret pe_bl)) pss_nil) (pss_one (ps_ret (pe_callB (cr_all rfl) (by rfl) m_all (by decide +kernel) (pa_cons (pe_lc (own := [("_law_k", 2)]) (g := gName 2) rfl sc__law_alike.nd (pi_range1 (by rfl) m_range (pa_cons (pe_callB call_lenA (by rfl) m_len (by decide +kernel) (pa_cons (pv 1) pa_nil)) pa_nil)) (blkOk_by (own := [("_law_k", 2)]) (N := ["_law_found", "_law_due", "_law_k", "_law_name"]) (sc := defScope s__law_alike) (by decide +kernel)) (fun _ _ _ _ _ => pg_name (i := 2) sc__law_alike.nd rfl (.inl rfl)) (fun _ _ _ _ _ => pts_nil) (fun _ _ _ _ _ => (pe_call D__law_alike.G hr (by rfl) D__law_alike.g D__law_alike.k D__law_alike.b .nil pass0 (pa_cons (pe_ix (r := rIx K) ix_seq (pv 0) (pv 2) (fun _ _ => rfl)) (pa_cons (pe_ix (r := rIx K) ix_seq (pv 1) (pv 2) (fun _ _ => rfl)) pa_nil))))) pa_nil))))))))))), ?_⟩
  walk_at "go"
  rcases h with ⟨rfl, rfl | ⟨b, rfl⟩ | ⟨i, rfl⟩ | ⟨x, rfl⟩⟩ | ⟨a, b, ys, xs, rfl, rfl, hb, ha, hl, hall⟩ | ⟨a, b, ys, xs, rfl, rfl, hb, ha, hl, hall⟩ | ⟨a, b, kvs, m, rfl, rfl, hb, ha, ⟨hl, hok⟩, rfl⟩
  · refine ifd (fun c => ?_) (fun c => absurd rfl c)
    walk_at "go"
    exact q _ (Same.refl H)
  · refine ifd (fun c => by cases c) (fun c => ?_)
    walk_at "go"
    refine use_isT (b := true) (.base (.bl b)) (by decide +kernel) ?_
    refine ⟨_, rfl, iteT ?_⟩
    walk_at "go"
    refine use_isT (b := true) (.base (.bl b)) (by decide +kernel) ?_
    refine ⟨_, rfl, iteT ?_⟩
    walk_at "go"
    rw [decide_eq_true rfl]
    exact q _ (Same.refl H)
  · refine ifd (fun c => by cases c) (fun c => ?_)
    walk_at "go"
    refine use_isT (b := false) (.base (.int i)) (by decide +kernel) ?_
    refine ⟨_, rfl, iteF ?_⟩
    walk_at "go"
    refine use_isT (b := true) (.base (.int i)) (by decide +kernel) ?_
    refine ⟨_, rfl, iteT ?_⟩
    walk_at "go"
    refine use_isT (b := true) (.base (.int i)) (by decide +kernel) ?_
    refine ⟨_, rfl, iteT ?_⟩
    walk_at "go"
    refine use_isT (b := false) (.base (.int i)) (by decide +kernel) ?_
    refine ⟨_, rfl, ?_⟩
    walk_at "go"
    rw [decide_eq_true rfl]
    exact q _ (Same.refl H)
  · refine ifd (fun c => by cases c) (fun c => ?_)
    walk_at "go"
    refine use_isT (b := false) (.base (.str x)) (by decide +kernel) ?_
    refine ⟨_, rfl, iteF ?_⟩
    walk_at "go"
    refine use_isT (b := false) (.base (.str x)) (by decide +kernel) ?_
    refine ⟨_, rfl, iteF ?_⟩
    walk_at "go"
    refine use_isT (b := true) (.base (.str x)) (by decide +kernel) ?_
    refine ⟨_, rfl, iteT ?_⟩
    walk_at "go"
    refine use_isT (b := true) (.base (.str x)) (by decide +kernel) ?_
    refine ⟨_, rfl, iteT ?_⟩
    walk_at "go"
    rw [decide_eq_true rfl]
    exact q _ (Same.refl H)
  · refine ifd (fun c => by cases c) (fun c => ?_)
    have ta := ty_sql ha
    have tb := ty_sql hb
    walk_at "go"
    refine use_isT (b := false) ta (by decide +kernel) ?_
    refine ⟨_, rfl, iteF ?_⟩
    walk_at "go"
    refine use_isT (b := false) ta (by decide +kernel) ?_
    refine ⟨_, rfl, iteF ?_⟩
    walk_at "go"
    refine use_isT (b := false) ta (by decide +kernel) ?_
    refine ⟨_, rfl, iteF ?_⟩
    walk_at "go"
    refine use_isT (b := false) ta (by decide +kernel) ?_
    refine ⟨_, rfl, iteF ?_⟩
    walk_at "go"
    refine use_isT (b := false) ta (by decide +kernel) ?_
    walk_at "go"
    refine use_isT (b := false) tb (by decide +kernel) ?_
    walk_at "go"
    refine ifdn (fun _ => ?_) (fun c => absurd rfl c)
    walk_at "go"
    refine use_isT (b := true) ta (by decide +kernel) ?_
    walk_at "go"
    refine use_isT (b := true) tb (by decide +kernel) ?_
    walk_at "go"
    refine ifdn (fun _ => ?_) (fun c => absurd rfl c)
    walk_at "go"
    refine .inl ⟨_, _, rfl, .inl hb, ?_⟩
    walk_at "go"
    refine .inl ⟨_, _, rfl, .inl ha, ?_⟩
    walk_at "go"
    have ll := hall.len
    refine ifdn (fun _ => ?_) (fun c => absurd (by rw [ll]) c)
    walk_at "go"
    refine .inl ⟨_, _, rfl, .inl ha, ?_⟩
    walk_at "go"
    refine ⟨by omega, by omega, fun D nD => lc_range (lo := 0) (n := xs.length) (fun i H3 => H3 D = some (.lst ((List.replicate i true).map V.bl)) ∧ Same H H3) ⟨upd_same, same_new nD⟩ (fun i H3 hi hW => ?_) (fun H3 hW => ?_)⟩
    · obtain ⟨hD, e3⟩ := hW
      have hx : xs[i]? = some xs[i] := List.getElem?_eq_getElem (by omega)
      have hy : ys[i]? = some (ys[i]'(by omega)) := List.getElem?_eq_getElem (by omega)
      walk_at "go"
      refine .inl ⟨_, _, _, _, rfl, rfl, e3.seq hb, at_any (j := i) (by omega) hy, ?_⟩
      walk_at "go"
      refine .inl ⟨_, _, _, _, rfl, rfl, e3.seq ha, at_any (j := i) (by omega) hx, ?_⟩
      walk_at "go"
      refine use_alk ((All2.at2 hall hy hx).same e3) fun H4 e4 => ?_
      refine ⟨_, e4 _ _ hD, by rw [List.length_map, List.length_replicate]; exact Nat.lt_of_lt_of_le (show i < 4001 by omega) (by decide), ?_, fun p o h => ?_⟩
      · rw [upd_same, List.replicate_succ', List.map_append]
        rfl
      · rw [upd_ne (ne_of_none h nD)]
        exact e4 _ _ (e3 _ _ h)
    · obtain ⟨hD, e3⟩ := hW
      walk_at "go"
      refine ⟨D, List.replicate xs.length true, rfl, sql hD, ?_⟩
      have e : (List.replicate xs.length true).all id = true := by simp
      rw [e]
      exact q _ e3
  · refine ifd (fun c => by cases c) (fun c => ?_)
    have ta := ty_sqt ha
    have tb := ty_sqt hb
    walk_at "go"
    refine use_isT (b := false) ta (by decide +kernel) ?_
    refine ⟨_, rfl, iteF ?_⟩
    walk_at "go"
    refine use_isT (b := false) ta (by decide +kernel) ?_
    refine ⟨_, rfl, iteF ?_⟩
    walk_at "go"
    refine use_isT (b := false) ta (by decide +kernel) ?_
    refine ⟨_, rfl, iteF ?_⟩
    walk_at "go"
    refine use_isT (b := false) ta (by decide +kernel) ?_
    refine ⟨_, rfl, iteF ?_⟩
    walk_at "go"
    refine use_isT (b := true) ta (by decide +kernel) ?_
    walk_at "go"
    refine use_isT (b := true) tb (by decide +kernel) ?_
    walk_at "go"
    refine ifdn (fun _ => ?_) (fun c => absurd rfl c)
    walk_at "go"
    refine use_isT (b := false) ta (by decide +kernel) ?_
    walk_at "go"
    refine use_isT (b := false) tb (by decide +kernel) ?_
    walk_at "go"
    refine ifdn (fun _ => ?_) (fun c => absurd rfl c)
    walk_at "go"
    refine .inl ⟨_, _, rfl, .inr hb, ?_⟩
    walk_at "go"
    refine .inl ⟨_, _, rfl, .inr ha, ?_⟩
    walk_at "go"
    have ll := hall.len
    refine ifdn (fun _ => ?_) (fun c => absurd (by rw [ll]) c)
    walk_at "go"
    refine .inl ⟨_, _, rfl, .inr ha, ?_⟩
    walk_at "go"
    refine ⟨by omega, by omega, fun D nD => lc_range (lo := 0) (n := xs.length) (fun i H3 => H3 D = some (.lst ((List.replicate i true).map V.bl)) ∧ Same H H3) ⟨upd_same, same_new nD⟩ (fun i H3 hi hW => ?_) (fun H3 hW => ?_)⟩
    · obtain ⟨hD, e3⟩ := hW
      have hx : xs[i]? = some xs[i] := List.getElem?_eq_getElem (by omega)
      have hy : ys[i]? = some (ys[i]'(by omega)) := List.getElem?_eq_getElem (by omega)
      walk_at "go"
      refine .inr (.inl ⟨_, _, _, _, rfl, rfl, SqT.same e3 hb, at_any (j := i) (by omega) hy, ?_⟩)
      walk_at "go"
      refine .inr (.inl ⟨_, _, _, _, rfl, rfl, SqT.same e3 ha, at_any (j := i) (by omega) hx, ?_⟩)
      walk_at "go"
      refine use_alk ((All2.at2 hall hy hx).same e3) fun H4 e4 => ?_
      refine ⟨_, e4 _ _ hD, by rw [List.length_map, List.length_replicate]; exact Nat.lt_of_lt_of_le (show i < 4001 by omega) (by decide), ?_, fun p o h => ?_⟩
      · rw [upd_same, List.replicate_succ', List.map_append]
        rfl
      · rw [upd_ne (ne_of_none h nD)]
        exact e4 _ _ (e3 _ _ h)
    · obtain ⟨hD, e3⟩ := hW
      walk_at "go"
      refine ⟨D, List.replicate xs.length true, rfl, sql hD, ?_⟩
      have e : (List.replicate xs.length true).all id = true := by simp
      rw [e]
      exact q _ e3
  · refine ifd (fun c => by cases c) (fun c => ?_)
    have ta : TyX K H (.ref b) (.type "dict") := .base (.dK ha)
    have tb : TyX K H (.ref a) (.type "dict") := .base (.dK hb)
    walk_at "go"
    refine use_isT (b := false) ta (by decide +kernel) ?_
    refine ⟨_, rfl, iteF ?_⟩
    walk_at "go"
    refine use_isT (b := false) ta (by decide +kernel) ?_
    refine ⟨_, rfl, iteF ?_⟩
    walk_at "go"
    refine use_isT (b := false) ta (by decide +kernel) ?_
    refine ⟨_, rfl, iteF ?_⟩
    walk_at "go"
    refine use_isT (b := true) ta (by decide +kernel) ?_
    refine ⟨_, rfl, iteT ?_⟩
    walk_at "go"
    refine use_isT (b := true) tb (by decide +kernel) ?_
    refine ⟨_, rfl, iteNT ?_⟩
    walk_at "go"
    refine .inr ⟨_, _, rfl, hb, ?_⟩
    walk_at "go"
    refine .inr ⟨_, _, rfl, ha, ?_⟩
    walk_at "go"
    refine ifdn (fun _ => ?_) (fun c => absurd rfl c)
    walk_at "go"
    refine g_lockE ⟨b, .dK kvs, ha, trivial, fun od => ?_⟩
    have hbL : Rd (upd H b (.frz od (.dK kvs))) a (.dK kvs) := rd_lock hb ha
    have haL : (upd H b (.frz od (.dK kvs))) b = some (.frz od (.dK kvs)) := upd_same
    have back : ∀ {H'}, Same (upd H b (.frz od (.dK kvs))) H' → Same H (upd H' b (.dK kvs)) := fun {H'} e c o hc => by
      by_cases z : c = b
      · subst z
        rw [upd_same, ← hc, ha]
      · rw [upd_ne z]
        exact e _ _ (by rw [upd_ne z]; exact hc)
    generalize upd H b (.frz od (.dK kvs)) = HL at hbL haL back ⊢
    refine g_lc ?_
    refine g_ikeys ?_
    walk_at "go"
    refine ⟨b, od, rfl, .inl ⟨kvs, haL, fun D nD => ?_⟩⟩
    refine lc_it walk_keys (fun i H3 => H3 D = some (.lst ((List.replicate i true).map V.bl)) ∧ Same HL H3) ⟨upd_same, same_new nD⟩ (fun i H3 _ hW => hW.2 _ _ haL) (fun i x H3 H4 hi hW hy => ?_) (fun H3 hW => ?_)
    · obtain ⟨hD, e3⟩ := hW
      obtain ⟨rfl, k, v, hk, rfl⟩ := hy
      obtain ⟨⟨z, hz⟩, ⟨j, hj⟩, hv⟩ := hok _ (List.mem_of_getElem? hk)
      have hz : k = .inr z := hz
      have hj : v = .int j := hj
      have hv : valV kvs k = some v := hv
      subst hz hj
      have rb := Rd.same e3 hbL
      have ra : Rd H4 b (.dK kvs) := .inr ⟨od, e3 _ _ haL⟩
      walk_at "go"
      refine g_din ?_
      walk_at "go"
      refine ⟨_, _, rfl, .inl ⟨kvs, .inr z, rb, rfl, rfl⟩, ?_⟩
      rw [hv]
      refine ⟨_, rfl, iteT ?_⟩
      walk_at "go"
      refine ⟨_, _, rfl, .inl ⟨kvs, .inr z, rb, rfl, hv.symm⟩, ?_⟩
      walk_at "go"
      refine ⟨_, _, rfl, .inl ⟨kvs, .inr z, ra, rfl, hv.symm⟩, ?_⟩
      walk_at "go"
      refine use_alk (.inl ⟨rfl, .inr (.inr (.inl ⟨j, rfl⟩))⟩) fun H5 e5 => ?_
      refine ⟨_, e5 _ _ hD, by rw [List.length_map, List.length_replicate]; exact Nat.lt_of_lt_of_le (show i < 4001 by omega) (by decide), ?_, fun p o h => ?_⟩
      · rw [upd_same, List.replicate_succ', List.map_append]
        rfl
      · rw [upd_ne (ne_of_none h nD)]
        exact e5 _ _ (e3 _ _ h)
    · obtain ⟨hD, e3⟩ := hW
      refine ⟨e3 _ _ haL, ?_⟩
      walk_at "go"
      have nDb : D ≠ b := fun z => by rw [z, haL] at nD; cases nD
      refine ⟨D, List.replicate kvs.length true, rfl, sql (by rw [upd_ne nDb]; exact hD), ?_⟩
      have e : (List.replicate kvs.length true).all id = true := by simp
      rw [e]
      exact q _ (back e3)
end

/-! ### what is told of a market -/
theorem steps_wok {es : List PyData} (h : okSteps (.list es) = true) : (es.map stOf).length ≤ 4 ∧ 1 ≤ (es.map stOf).length ∧ ∀ s ∈ es.map stOf, 0 ≤ s.2 ∧ s.2 ≤ 999 := by
  dsimp only [okSteps] at h
  simp only [Bool.and_eq_true, decide_eq_true_eq] at h
  rw [List.length_map]
  refine ⟨h.2.1, h.1, fun s hs => ?_⟩
  obtain ⟨d, hd, rfl⟩ := List.mem_map.mp hs
  have ok := List.all_eq_true.mp h.2.2.1 d hd
  obtain ⟨i, j, rfl⟩ := okStep_ij ok
  have ok : ((decide (-999999999999 ≤ i) && decide (i ≤ 999999999999)) && (decide (1 ≤ j) && decide (j ≤ 999))) = true := ok
  simp only [Bool.and_eq_true, decide_eq_true_eq] at ok
  exact ⟨by show 0 ≤ j; omega, ok.2.2⟩
theorem names_wok {ds : List PyData} (h : ds.all okName = true) : wOk (ds.map nmOf) := fun n hn => by
  obtain ⟨d, hd, rfl⟩ := List.mem_map.mp hn
  obtain ⟨x, b, es, rfl, _, _⟩ := okName_parts (List.all_eq_true.mp h d hd)
  have ok := List.all_eq_true.mp h _ hd
  have ok : (isW' (.str x) && (amt (.int b) && okSteps (.list es))) = true := ok
  rw [Bool.and_eq_true, Bool.and_eq_true] at ok
  exact steps_wok ok.2.2
theorem cnt_small {ns : List Nm} {la : Int} {m : Nat} (h : wOk ns) (l : ns.length = m) (hm : m ≤ 3) (l0 : 0 ≤ la) (l1 : la < [9, 5, 3, 2].getD m 0) : cntN la ns ≤ 2000 := by
  have p := (prod_pos h).2
  rw [l] at p
  unfold cntN
  have a : prodN ns ^ la.toNat ≤ (4 ^ m) ^ la.toNat := Nat.pow_le_pow_left p _
  have : m = 0 ∨ m = 1 ∨ m = 2 ∨ m = 3 := by omega
  rcases this with rfl | rfl | rfl | rfl
  · rw [show (4 : Nat) ^ 0 = 1 from rfl, Nat.one_pow] at a
    omega
  · have l1 : la < 5 := l1
    have b : (4 ^ 1) ^ la.toNat ≤ (4 ^ 1) ^ 4 := Nat.pow_le_pow_right (by decide) (by omega)
    have : (4 ^ 1) ^ 4 = 256 := by decide
    omega
  · have l1 : la < 3 := l1
    have b : (4 ^ 2) ^ la.toNat ≤ (4 ^ 2) ^ 2 := Nat.pow_le_pow_right (by decide) (by omega)
    have : (4 ^ 2) ^ 2 = 256 := by decide
    omega
  · have l1 : la < 2 := l1
    have b : (4 ^ 3) ^ la.toNat ≤ (4 ^ 3) ^ 1 := Nat.pow_le_pow_right (by decide) (by omega)
    have : (4 ^ 3) ^ 1 = 64 := by decide
    omega
theorem in_lookup : ∀ {R : Row} {x : Str} {i : Int}, (R.map (·.1)).Nodup → (x, i) ∈ R → R.lookup x = some i
  | (y, j) :: R, x, i, nd, h => by
    rw [List.map_cons, List.nodup_cons] at nd
    rw [List.lookup_cons]
    rcases List.mem_cons.mp h with e | h
    · cases e
      rw [beq_self_eq_true]
    · have c : ¬ x = y := fun z => nd.1 (List.mem_map.mpr ⟨(x, i), h, z⟩)
      have e : (x == y) = false := by rw [beq_eq_false_iff_ne]; exact c
      rw [e]
      exact in_lookup nd.2 h
def RowG (R : Row) : Prop := (R.map (·.1)).Nodup ∧ R.length ≤ 1000
theorem RowG.val {R : Row} (h : RowG R) : ∀ p ∈ dk R, valV (dk R) p.1 = some p.2 := fun p hp => by
  obtain ⟨⟨x, i⟩, hm, rfl⟩ := List.mem_map.mp hp
  show valV (dk R) (.inr x) = some (.int i)
  rw [dk_val, in_lookup h.1 hm]
  rfl
theorem RowG.dk {R : Row} (h : RowG R) : DkOk (dk R) := ⟨by rw [dk_len]; exact h.2, fun p hp => by
  have v := h.val p hp
  obtain ⟨q, _, rfl⟩ := List.mem_map.mp hp
  exact ⟨⟨q.1, rfl⟩, ⟨q.2, rfl⟩, v⟩⟩
theorem zip_good {xs : List Str} {is : List Int} (nd : xs.Nodup) (hl : xs.length ≤ 3) : RowG (xs.zip is) := by
  refine ⟨?_, by rw [List.length_zip]; omega⟩
  have e : (xs.zip is).map (·.1) = xs.take (min xs.length is.length) := by
    rw [List.zip_eq_zip_take_min, List.map_fst_zip (by rw [List.length_take, List.length_take]; omega)]
  rw [e]
  exact nd.sublist (List.take_sublist _ _)
theorem rows_alk {K : PySem.W.Frag} {H : Hp} {n : Nat} : ∀ {rs : List Row} {as bs : List Addr}, (∀ R ∈ rs, RowG R) → All2 (fun R r => H r = some (.dK (dk R))) rs as → All2 (fun R r => H r = some (.dK (dk R))) rs bs → All2 (AlkR K H (n + 2)) (as.map V.ref) (bs.map V.ref)
  | R :: rs, a :: as, b :: bs, g, h1, h2 => ⟨.inr (.inr (.inr ⟨a, b, _, n, rfl, rfl, h1.1, h2.1, (g R List.mem_cons_self).dk, rfl⟩)), rows_alk (fun S hS => g S (List.mem_cons_of_mem _ hS)) h1.2 h2.2⟩
  | [], [], [], _, _, _ => trivial
  | [], _ :: _, _, _, h, _ => h.elim
  | [], [], _ :: _, _, _, h => h.elim
  | _ :: _, [], _, _, h, _ => h.elim
  | _ :: _, _ :: _, [], _, _, h => h.elim
theorem fr_alk {K : PySem.W.Frag} {H : Hp} : ∀ {ws : List (List Row × Int)} {ts us : List (Addr × Addr × List Addr)}, (∀ w ∈ ws, w.1.length ≤ 100 ∧ ∀ R ∈ w.1, RowG R) → All2 (FR K H) ws ts → All2 (FR K H) ws us → All2 (AlkR K H 4) (ts.map fun t => V.ref t.1) (us.map fun t => V.ref t.1)
  | w :: ws, t :: ts, u :: us, g, h1, h2 => by
    obtain ⟨gl, gr⟩ := g w List.mem_cons_self
    obtain ⟨a1, a2, a3⟩ := h1.1
    obtain ⟨b1, b2, b3⟩ := h2.1
    refine ⟨.inr (.inr (.inl ⟨t.1, u.1, _, _, rfl, rfl, a1, b1, by show 2 ≤ 4000; decide, ?_, ?_, trivial⟩)), fr_alk (fun v hv => g v (List.mem_cons_of_mem _ hv)) h1.2 h2.2⟩
    · exact .inr (.inl ⟨_, _, _, _, rfl, rfl, sql a2, sql b2, by rw [List.length_map, ← a3.len]; omega, rows_alk gr a3 b3⟩)
    · exact .inl ⟨rfl, .inr (.inr (.inl ⟨_, rfl⟩))⟩
  | [], [], [], _, _, _ => trivial
  | [], _ :: _, _, _, h, _ => h.elim
  | [], [], _ :: _, _, _, h => h.elim
  | _ :: _, [], _, _, h, _ => h.elim
  | _ :: _, _ :: _, [], _, _, h => h.elim
theorem rows_eqv {K : PySem.W.Frag} {H : Hp} : ∀ {rs : List Row} {as bs : List Addr}, (∀ R ∈ rs, RowG R) → All2 (fun R r => H r = some (.dK (dk R))) rs as → All2 (fun R r => H r = some (.dK (dk R))) rs bs → Paired (EqVT K H 2) (as.map V.ref) (bs.map V.ref)
  | R :: rs, a :: as, b :: bs, g, h1, h2 => .cons (.inr (.inr (.inl (.inr ⟨a, b, _, _, rfl, rfl, h1.1, h2.1, rfl, fun p hp => ⟨p.2, (g R List.mem_cons_self).val p hp, .inl ⟨rfl, by
      obtain ⟨q, _, rfl⟩ := List.mem_map.mp hp
      rfl⟩⟩⟩)))) (rows_eqv (fun S hS => g S (List.mem_cons_of_mem _ hS)) h1.2 h2.2)
  | [], [], [], _, _, _ => .nil
  | [], _ :: _, _, _, h, _ => h.elim
  | [], [], _ :: _, _, _, h => h.elim
  | _ :: _, [], _, _, h, _ => h.elim
  | _ :: _, _ :: _, [], _, _, h => h.elim
theorem fuR_ok {ns : List Nm} {la : Int} (h : wOk ns) (h3 : ns.length ≤ 3) (nd : (ns.map (·.x)).Nodup) (l0 : 0 ≤ la) (l1 : la ≤ 12) : (fuR la ns).length = cntN la ns ∧ 0 < (fuR la ns).length ∧ ∀ w ∈ fuR la ns, (w.1.length ≤ 100 ∧ ∀ R ∈ w.1, RowG R) ∧ w.1 ≠ [] := by
  have a := fu_ok h h3 la.toNat
  unfold fuR
  rw [List.length_map, a.1]
  refine ⟨rfl, Nat.pow_pos (prod_pos h).1, fun w hw => ?_⟩
  obtain ⟨v, hv, rfl⟩ := List.mem_map.mp hw
  obtain ⟨_, b, c⟩ := a.2 v hv
  refine ⟨⟨by show (v.1.map _).length ≤ 100; rw [List.length_map]; omega, fun R hR => ?_⟩, fun z => ?_⟩
  · obtain ⟨is, hi, rfl⟩ := List.mem_map.mp hR
    exact zip_good nd (by rw [List.length_map]; exact h3)
  · have z : v.1.map _ = [] := z
    rw [List.map_eq_nil_iff] at z
    rw [z] at b
    simp at b
def spTooMany (K : PySem.W.Frag) (C : Addr) : Sp := fun vs H Q _ => ∃ (a : Addr) (la : Int) (ns : List Nm), vs = [.ref a] ∧ DMk K C H la ns a ∧ ns.length ≤ 3 ∧ (ns.map (·.x)).Nodup ∧ wOk ns ∧ 0 ≤ la ∧ la ≤ 12 ∧ 2000 < cntN la ns ∧ Q (.bl true) H
section
variable {P : Program} {w : World} {K : PySem.W.Frag} {mg : Str → Option Value} {base : Heap}
abbrev s__law_too_many : Stmt := topS 34
theorem sc__law_too_many : FnScope ["_law_market_here", "e"] ["_law_market_here"] (defScope s__law_too_many) := ⟨rfl, rfl, rfl, by decide +kernel, rfl, by decide +kernel, by decide +kernel⟩
theorem h__law_too_many {k : Nat} {f : Addr} {fd : FuncData} (O : Own K mg "_law_too_many" s__law_too_many ["_law_market_here"] f fd) {C_TooMany : Addr} (X_TooMany : ExcT K mg "TooMany" C_TooMany) {C_BadText : Addr} (X_BadText : ExcT K mg "BadText" C_BadText) {C_BadMarket : Addr} (X_BadMarket : ExcT K mg "BadMarket" C_BadMarket) {C_BadContract : Addr} (X_BadContract : ExcT K mg "BadContract" C_BadContract) (ER : Errs K C_TooMany C_TooMany C_BadContract C_BadMarket C_BadText) {C_Market : Addr} (cl_Market : Cls K C_Market) {f_Market_futures : Addr} {fd_Market_futures : FuncData} (D_Market_futures : HasMeth P w K mg base C_Market "futures" ["self"] k (L2.CX P w) (spFut K C_TooMany C_Market) f_Market_futures fd_Market_futures) (m_isinstance : mg "isinstance" = none) (m_ValueError : mg "ValueError" = none) : Has P w K mg base "_law_too_many" ["_law_market_here"] (k + 1) CX0 (spTooMany K C_Market) f fd := by
  refine O.has (O.F.ok sc__law_too_many (fun vs H Q E h => ?_) (fun cdv A outer s H vs Q E hr h => ?_))
  · obtain ⟨a, la, ns, rfl, _⟩ := h
    rfl
  obtain ⟨a, la, ns, rfl, hm, hl, nd, hw, l0, l1, hc, q⟩ := h
  refine ⟨_, (pss_cons (ps_try_as (i := 1) rfl rfl sc__law_too_many.nd rfl rfl ⟨rfl, by decide, .inl X_TooMany.g⟩ takes0 (fun W pn xe tk _ => (pss_one (ps_expr (pe_meth0S (pl := _) (pv 0) D_Market_futures.cl D_Market_futures.M D_Market_futures.G hr D_Market_futures.b (fun σ => passAt tk σ))))) (fun a oe cls d pn hz hf => (pss_cons (ps_if (PW.pt (pw_or (pt_val (pe_callB (call_isX hz hf) (by rfl) m_isinstance (by decide +kernel) (pa_cons (pv 1) (pa_cons (pe_glob (v := .ref C_BadContract) (by rfl) X_BadContract.g rfl) pa_nil)))) (pw_or (pt_val (pe_callB (call_isX hz hf) (by rfl) m_isinstance (by decide +kernel) (pa_cons (pv 1) (pa_cons (pe_glob (v := .ref C_BadMarket) (by rfl) X_BadMarket.g rfl) pa_nil)))) (pw_or1 (pt_val (pe_callB (call_isX hz hf) (by rfl) m_isinstance (by decide +kernel) (pa_cons (pv 1) (pa_cons (pe_glob (v := .ref C_BadText) (by rfl) X_BadText.g rfl) pa_nil)))))))) (pss_one (ps_ret pe_bl)) pss_nil) (pss_one (ps_ret (pe_callB (call_isX hz hf) (by rfl) m_isinstance (by decide +kernel) (pa_cons (pv 1) (pa_cons (pe_bltn (v := .ty "ValueError") (by rfl) m_ValueError (by decide +kernel) rfl) pa_nil)))))))) (pss_one (ps_ret pe_bl))), ?_⟩
  obtain ⟨dx, t, us, ha, ht, hn⟩ := id hm
  walk_at "go"
  refine g_methS ?_
  walk_at "go"
  refine ⟨_, _, _, rfl, ha, rfl, ?_⟩
  refine ⟨a, la, ns, rfl, hm, hl, nd, hw, l0, l1, fun z => absurd z (by omega), fun _ => ?_⟩
  refine ⟨true, ER.exm, fun _ b nb => ?_, fun z => Bool.noConfusion z⟩
  walk_at "go"
  refine use_isX ER.ec (fun _ h => h) ER.iM ?_
  walk_at "go"
  refine use_isX ER.ec (fun _ h => h) ER.iX ?_
  walk_at "go"
  refine use_isX ER.ec (fun _ h => h) ER.iT ?_
  walk_at "go"
  refine use_isX ER.ec (fun _ h => h) ER.iV ?_
  walk_at "go"
  exact q
end

theorem LS.tb {K : PySem.W.Frag} {PT : Addr} {c : Cfg} {ns : List Int} {xs : List Str} {s na nm : Addr} {H H' : Hp} (L : LS K c ns xs s na nm H) (g : GxR.TabG H PT) (t : Tb PT H H') : LS K c ns xs s na nm H' := by
  obtain ⟨⟨n, re, mx, h, r⟩, h1, h2, h3, h4, h5⟩ := L
  have m := t.dm (K := K) g
  obtain ⟨ps, hP, _⟩ := g
  exact ⟨⟨n, re, mx, t.k _ _ (fun z => by rw [z, hP] at h; cases h) h, r⟩, m.l _ _ h1, m.l _ _ h2, h3, h4, h5⟩
theorem LS.tab {K : PySem.W.Frag} {PT : Addr} {c : Cfg} {ns : List Int} {xs : List Str} {s na nm : Addr} {H H' : Hp} (L : LS K c ns xs s na nm H) (g : GxR.TabG H PT) (e : KB s H H') : GxR.TabG H' PT := by
  obtain ⟨⟨n, re, mx, h, r⟩, _⟩ := L
  exact tab_kb g e h

/-! ### the law -/
def spLaw (K : PySem.W.Frag) (PT : Addr) : Sp := fun vs H Q _ => ∃ (ns : List Int) (na : Addr), vs = [.ref na] ∧ SqL K H na (ns.map V.int) ∧ ns.length ≤ 63 ∧ GxR.TabG H PT ∧ ∀ H', Q (.bl true) H'
theorem cut1L (x : V) (xs : List V) : cutV (x :: xs) (some 1) none = xs := cut1 x xs
theorem rows_put {H : Hp} {r0 : Addr} : ∀ {rs : List Row} {as : List Addr}, r0 ∉ as → All2 (fun R r => H r = some (.dK (dk R))) rs as → All2 (fun R r => (upd H r0 (.dK [])) r = some (.dK (dk R))) rs as
  | R :: rs, a :: as, n, h => ⟨by show (upd H r0 (.dK [])) a = _; rw [upd_ne (fun z => n (by rw [z]; exact List.mem_cons_self))]; exact h.1, rows_put (fun m => n (List.mem_cons_of_mem _ m)) h.2⟩
  | [], [], _, _ => trivial
  | [], _ :: _, _, h => h.elim
  | _ :: _, [], _, h => h.elim
theorem sqt_put {K : PySem.W.Frag} {H : Hp} {r0 p : Addr} {kvs : List (Key × V)} {xs : List V} (hr : H r0 = some (.dK kvs)) (h : SqT K H p xs) : SqT K (upd H r0 (.dK [])) p xs := by
  rcases h with (h | ⟨o, h⟩) | h
  · exact .inl (.inl (by rw [upd_ne (fun z => by rw [z, hr] at h; cases h)]; exact h))
  · exact .inl (.inr ⟨o, by rw [upd_ne (fun z => by rw [z, hr] at h; cases h)]; exact h⟩)
  · exact .inr h
theorem fr_put {K : PySem.W.Frag} {H : Hp} {r0 : Addr} {kvs : List (Key × V)} (hr : H r0 = some (.dK kvs)) : ∀ {ws : List (List Row × Int)} {ts : List (Addr × Addr × List Addr)}, r0 ∉ flatA ts → All2 (FR K H) ws ts → All2 (FR K (upd H r0 (.dK []))) ws ts
  | w :: ws, t :: ts, n, h => by
    unfold flatA at n
    rw [List.flatMap_cons, List.mem_append] at n
    refine ⟨⟨sqt_put hr h.1.1, ?_, rows_put (fun m => n (.inl m)) h.1.2.2⟩, fr_put hr (fun m => n (.inr m)) h.2⟩
    rw [upd_ne (fun z => by have := h.1.2.1; rw [z, hr] at this; cases this)]
    exact h.1.2.1
  | [], [], _, _ => trivial
  | [], _ :: _, _, h => h.elim
  | _ :: _, [], _, h => h.elim
def stD (i j : Int) : PyData := .tuple [.int i, .int j]
theorem dp_st {K : PySem.W.Frag} {H : Hp} {p : Addr} {i j : Int} (h : SqT K H p [.int i, .int j]) : Dp K H (.ref p) (stD i j) := .tup h (.cons (.int _) (.cons (.int _) .nil))
def nmD (x : Str) (b : Int) (es : List PyData) : PyData := .tuple [.str x, .int b, .list es]
theorem ok_two {r : Int} (r0 : 0 ≤ r) (r1 : r < 9) : okSteps (.list [stD 0 1, stD (1 + r) 2]) = true := by
  show (decide (1 ≤ 2) && (decide (2 ≤ 4) && ((((decide ((-999999999999 : Int) ≤ 0) && decide ((0 : Int) ≤ 999999999999)) && (decide ((1 : Int) ≤ 1) && decide ((1 : Int) ≤ 999))) && (((decide (-999999999999 ≤ 1 + r) && decide (1 + r ≤ 999999999999)) && (decide ((1 : Int) ≤ 2) && decide ((2 : Int) ≤ 999))) && true)) && decide ([0, 1 + r].Nodup)))) = true
  have e1 : decide (-999999999999 ≤ 1 + r) = true := decide_eq_true (by omega)
  have e2 : decide (1 + r ≤ 999999999999) = true := decide_eq_true (by omega)
  have e3 : decide ([0, 1 + r].Nodup) = true := decide_eq_true (by simp; omega)
  rw [e1, e2, e3]
  decide
theorem ok_three {r : Int} (r0 : 0 ≤ r) (r1 : r < 9) : okSteps (.list [stD 0 1, stD (1 + r) 2, stD (-1) 3]) = true := by
  show (decide (1 ≤ 3) && (decide (3 ≤ 4) && ((((decide ((-999999999999 : Int) ≤ 0) && decide ((0 : Int) ≤ 999999999999)) && (decide ((1 : Int) ≤ 1) && decide ((1 : Int) ≤ 999))) && (((decide (-999999999999 ≤ 1 + r) && decide (1 + r ≤ 999999999999)) && (decide ((1 : Int) ≤ 2) && decide ((2 : Int) ≤ 999))) && (((decide ((-999999999999 : Int) ≤ -1) && decide ((-1 : Int) ≤ 999999999999)) && (decide ((1 : Int) ≤ 3) && decide ((3 : Int) ≤ 999))) && true))) && decide ([0, 1 + r, -1].Nodup)))) = true
  have e1 : decide (-999999999999 ≤ 1 + r) = true := decide_eq_true (by omega)
  have e2 : decide (1 + r ≤ 999999999999) = true := decide_eq_true (by omega)
  have e3 : decide ([0, 1 + r, -1].Nodup) = true := decide_eq_true (by simp; omega)
  rw [e1, e2, e3]
  decide
theorem ok_nm {x : Str} {b : Int} {es : List PyData} (hx : isW' (.str x) = true) (b0 : 0 ≤ b) (b1 : b ≤ 7) (he : okSteps (.list es) = true) : okName (nmD x b es) = true := by
  show (isW' (.str x) && ((decide (-999999999999 ≤ b) && decide (b ≤ 999999999999)) && okSteps (.list es))) = true
  rw [hx, he, decide_eq_true (show -999999999999 ≤ b by omega), decide_eq_true (show b ≤ 999999999999 by omega)]
  rfl
section
variable {P : Program} {w : World} {K : PySem.W.Frag} {mg : Str → Option Value} {base : Heap}
abbrev s_law : Stmt := topS 35
theorem sc_law : FnScope ["_law_script", "_law_s", "_law_drawn", "_law_market_here", "_law_due", "_law_found", "_law_steps_here", "_law_names"] ["_law_script"] (defScope s_law) := ⟨rfl, rfl, rfl, by decide +kernel, rfl, by decide +kernel, by decide +kernel⟩
theorem h_law {PT : Addr} {k : Nat} {f : Addr} {fd : FuncData} (O : Own K mg "law" s_law ["_law_script"] f fd) {C_BadMarket : Addr} (X_BadMarket : ExcT K mg "BadMarket" C_BadMarket) {C_TooMany : Addr} (X_TooMany : ExcT K mg "TooMany" C_TooMany)  {C_Market : Addr} (cl_Market : Cls K C_Market) {f__law_too_many : Addr} {fd__law_too_many : FuncData} (D__law_too_many : Has P w K mg base "_law_too_many" ["_law_market_here"] k CX0 (spTooMany K C_Market) f__law_too_many fd__law_too_many) {f_Market : Addr} {fd_Market : FuncData} (D_Market : HasM P w K mg base "Market" ["self", "last", "names"] k (L2.CX P w) (spMk K C_BadMarket PT C_Market) C_Market f_Market fd_Market) {f_Market_futures : Addr} {fd_Market_futures : FuncData} (D_Market_futures : HasMeth P w K mg base C_Market "futures" ["self"] k (L2.CX P w) (spFut K C_TooMany C_Market) f_Market_futures fd_Market_futures) {f__law_word : Addr} {fd__law_word : FuncData} (D__law_word : Has P w K mg base "_law_word" ["_law_s", "_law_k"] k CX0 (spWord K) f__law_word fd__law_word) {f__law_taken : Addr} {fd__law_taken : FuncData} (D__law_taken : Has P w K mg base "_law_taken" ["_law_s", "_law_most"] k CX0 (spTaken K) f__law_taken fd__law_taken) {f__law_alike : Addr} {fd__law_alike : FuncData} (D__law_alike : Has P w K mg base "_law_alike" ["_law_found", "_law_due"] k CX0 (spAlk K 5) f__law_alike fd__law_alike) {f__law_futures : Addr} {fd__law_futures : FuncData} (D__law_futures : Has P w K mg base "_law_futures" ["_law_market_here"] k CX0 (spLFuts K) f__law_futures fd__law_futures) {f__law_market : Addr} {fd__law_market : FuncData} (D__law_market : Has P w K mg base "_law_market" ["_law_s", "_law_many"] k CX0 (spMarket K) f__law_market fd__law_market) {f__law_begun : Addr} {fd__law_begun : FuncData} (D__law_begun : Has P w K mg base "_law_begun" ["_law_script"] k CX0 (spBegun K) f__law_begun fd__law_begun) (m_len : mg "len" = none) : Has P w K mg base "law" ["_law_script"] (k + 1) CX0 (spLaw K PT) f fd := by
  refine O.has (O.F.ok sc_law (fun vs H Q E h => ?_) (fun cdv A outer s H vs Q E hr h => ?_))
  · obtain ⟨ns, na, rfl, _⟩ := h
    rfl
  obtain ⟨ns, na, rfl, hS, h63, ht, q⟩ := h
  refine ⟨_, (pss_cons (ps_set (i := 1) sc_law.nd rfl (.inl rfl) (pe_call D__law_begun.G hr (by rfl) D__law_begun.g D__law_begun.k D__law_begun.b .nil pass0 (pa_cons (pv 0) pa_nil))) (pss_cons (ps_set (i := 2) sc_law.nd rfl (.inl rfl) (pe_call D__law_market.G hr (by rfl) D__law_market.g D__law_market.k D__law_market.b .nil pass0 (pa_cons (pv 1) (pa_cons (pe_call D__law_taken.G hr (by rfl) D__law_taken.g D__law_taken.k D__law_taken.b .nil pass0 (pa_cons (pv 1) (pa_cons pe_int pa_nil))) pa_nil)))) (pss_cons (ps_set (i := 3) sc_law.nd rfl (.inl rfl) (pe_new (E := fun _ => E0) D_Market hr (by rfl) (fun σ pins H s e s' I c => passL pins σ H s e s' I c) (pa_cons (pe_ix ix_tup (pv 2) pe_int (fun _ _ => rfl)) (pa_cons (pe_ix ix_tup (pv 2) pe_int (fun _ _ => rfl)) pa_nil)))) (pss_cons (ps_set (i := 4) sc_law.nd rfl (.inl rfl) (pe_call D__law_futures.G hr (by rfl) D__law_futures.g D__law_futures.k D__law_futures.b .nil pass0 (pa_cons (pv 2) pa_nil))) (pss_cons (ps_set (i := 5) sc_law.nd rfl (.inl rfl) (pe_meth0 (pl := _) (pv 3) D_Market_futures.cl D_Market_futures.M D_Market_futures.G hr D_Market_futures.b .nil passL)) (pss_cons (ps_if (pt_not (pt_val (pe_call D__law_alike.G hr (by rfl) D__law_alike.g D__law_alike.k D__law_alike.b .nil pass0 (pa_cons (pv 5) (pa_cons (pv 4) pa_nil))))) (pss_one (ps_ret pe_bl)) pss_nil) (pss_cons (ps_expr (pe_bm0 PySem.F.plainAttrs_dict PySem.F.slot_dict_clear PySem.F.type_dict_clear mtd_clear (pe_ix ix_list (pe_ix ix_tup (pe_ix ix_list (pv 5) pe_int (fun _ _ => rfl)) pe_int (fun _ _ => rfl)) pe_int (fun _ _ => rfl)))) (pss_cons (ps_if (PW.pt (pw_or (pt_not (pt_val (pe_call D__law_alike.G hr (by rfl) D__law_alike.g D__law_alike.k D__law_alike.b .nil pass0 (pa_cons (pe_slice sl_list (pv 5) (po_some pe_int) po_none) (pa_cons (pe_slice sl_list (pv 4) (po_some pe_int) po_none) pa_nil))))) (pw_or1 (pt_cmpR (op_neVT hr.units) (pe_slice sl_list (pe_ix ix_tup (pe_ix ix_list (pv 5) pe_int (fun _ _ => rfl)) pe_int (fun _ _ => rfl)) (po_some pe_int) po_none) (pe_slice sl_list (pe_ix ix_tup (pe_ix ix_list (pv 4) pe_int (fun _ _ => rfl)) pe_int (fun _ _ => rfl)) (po_some pe_int) po_none) (nomark _))))) (pss_one (ps_ret pe_bl)) pss_nil) (pss_cons (ps_expr (pe_bm0 PySem.F.plainAttrs_list PySem.F.slot_list_clear PySem.F.type_list_clear mt_clear (pe_ix ix_tup (pe_ix ix_list (pv 5) pe_int (fun _ _ => rfl)) pe_int (fun _ _ => rfl)))) (pss_cons (ps_expr (pe_bm0 PySem.F.plainAttrs_list PySem.F.slot_list_clear PySem.F.type_list_clear mt_clear (pv 5))) (pss_cons (ps_if (pt_not (pt_val (pe_call D__law_alike.G hr (by rfl) D__law_alike.g D__law_alike.k D__law_alike.b .nil pass0 (pa_cons (pe_meth0 (pl := _) (pv 3) D_Market_futures.cl D_Market_futures.M D_Market_futures.G hr D_Market_futures.b .nil passL) (pa_cons (pv 4) pa_nil))))) (pss_one (ps_ret pe_bl)) pss_nil) (pss_cons (ps_set (i := 6) sc_law.nd rfl (.inl rfl) (pe_lst (pa_cons (pe_tup (pa_cons pe_int (pa_cons pe_int pa_nil))) (pa_cons (pe_tup (pa_cons (pe_op op_add pe_int (pe_call D__law_taken.G hr (by rfl) D__law_taken.g D__law_taken.k D__law_taken.b .nil pass0 (pa_cons (pv 1) (pa_cons pe_int pa_nil)))) (pa_cons pe_int pa_nil))) pa_nil)))) (pss_cons (ps_set (i := 7) sc_law.nd rfl (.inl rfl) (pe_lst (pa_cons (pe_tup (pa_cons (pe_call D__law_word.G hr (by rfl) D__law_word.g D__law_word.k D__law_word.b .nil pass0 (pa_cons (pv 1) (pa_cons pe_int pa_nil))) (pa_cons pe_int (pa_cons (pv 6) pa_nil)))) (pa_cons (pe_tup (pa_cons (pe_call D__law_word.G hr (by rfl) D__law_word.g D__law_word.k D__law_word.b .nil pass0 (pa_cons (pv 1) (pa_cons pe_int pa_nil))) (pa_cons pe_int (pa_cons (pv 6) pa_nil)))) (pa_cons (pe_tup (pa_cons (pe_call D__law_word.G hr (by rfl) D__law_word.g D__law_word.k D__law_word.b .nil pass0 (pa_cons (pv 1) (pa_cons pe_int pa_nil))) (pa_cons pe_int (pa_cons (pe_op op_cat (pv 6) (pe_lst (pa_cons (pe_tup (pa_cons (pe_un un_neg pe_int) (pa_cons pe_int pa_nil))) pa_nil))) pa_nil)))) pa_nil))))) (pss_one (ps_ret (pe_and (pe_cmpR op_eq (pe_callB call_len_seq (by rfl) m_len (by decide +kernel) (pa_cons (pe_meth0 (pl := _) (pe_new (E := fun _ => E0) D_Market hr (by rfl) (fun σ pins H s e s' I c => passL pins σ H s e s' I c) (pa_cons pe_int (pa_cons (pv 7) pa_nil))) D_Market_futures.cl D_Market_futures.M D_Market_futures.G hr D_Market_futures.b .nil passL) pa_nil)) pe_int (nomark _)) (pe_one (pe_call D__law_too_many.G hr (by rfl) D__law_too_many.g D__law_too_many.k D__law_too_many.b .nil pass0 (pa_cons (pe_new (E := fun _ => E0) D_Market hr (by rfl) (fun σ pins H s e s' I c => passL pins σ H s e s' I c) (pa_cons pe_int (pa_cons (pe_slice sl_list (pv 7) po_none (po_some pe_int)) pa_nil))) pa_nil))))))))))))))))))), ?_⟩
  walk_at "go"
  refine use_begun hS h63 fun c s nm H1 e1 ns1 L1 => ?_
  have ht1 := tab_same ht e1
  walk_at "go"
  refine use_taken L1 (by decide) (by decide) fun m H2 m0 m1 e2 L2 => ?_
  have ht2 := L1.tab ht1 e2
  walk_at "go"
  refine use_market L2 m0 m1 fun t p la ds H3 e3 L3 st3 la0 la9 dd3 okd okn => ?_
  have ht3 := L2.tab ht2 e3
  clear ht2 L2 e2 ht1 L1 e1 ht
  obtain ⟨la9, lim, lds⟩ := la9
  obtain ⟨ld, nd0⟩ : ds.length ≤ 3 ∧ (ds.map wordOf).Nodup := by
    dsimp only [okNames] at okn
    simp only [Bool.and_eq_true, decide_eq_true_eq] at okn
    exact ⟨okn.1, okn.2.2⟩
  have nd := names_nd nd0 okd
  have hw := names_wok okd
  have hc := cnt_small (la := la) hw (by rw [List.length_map]; exact lds) (by omega) la0 lim
  have l3 : (ds.map nmOf).length ≤ 3 := by rw [List.length_map]; exact ld
  have okm : okMk (.int la) (.list ds) = true := by
    show (inB 0 12 (.int la) && okNames (.list ds)) = true
    rw [okn, show inB 0 12 (.int la) = (decide (0 ≤ la) && decide (la ≤ 12)) from rfl, decide_eq_true la0, decide_eq_true (show la ≤ 12 by omega)]
    rfl
  walk_at "go"
  refine g_callS ?_
  walk_at "go"
  refine ⟨_, _, _, _, rfl, rfl, st3, at_any (j := 0) rfl rfl, ?_⟩
  walk_at "go"
  refine ⟨_, _, _, _, rfl, rfl, st3, at_any (j := 1) rfl rfl, ?_⟩
  walk_at "go"
  refine use_mk (.int la) dd3 ?_ ht3 (fun _ a H4 nfa t4 obj => ?_) (fun bad => by rw [okm] at bad; cases bad)
  · exact (names_lay okd).2.2
  have mk := obj la ds rfl rfl
  have dm4 := t4.dm (K := K) ht3
  have st4 := dm4.t _ _ st3
  have dd4 := Dp.dm dm4 dd3
  have L4 := L3.tb ht3 t4
  have ht4 := t4.g
  clear t4 dm4 ht3 L3 e3 st3 dd3 obj
  walk_at "go"
  refine ⟨t, p, la, ds, rfl, st4, dd4, okd, ld, nd, hw, la0, by omega, hc, fun U us H5 e5 nU hU hus => ?_⟩
  have mk5 := mk.same e5
  have L5 := L4.same e5
  have ht5 := tab_same ht4 e5
  have e45 := e5
  clear mk st4 dd4
  obtain ⟨dx, mt, mus, ha, _, _⟩ := id mk5
  walk_at "go"
  refine g_meth ?_
  walk_at "go"
  refine ⟨_, _, _, rfl, ha, rfl, ?_⟩
  walk_at "go"
  refine ⟨a, la, ds.map nmOf, rfl, mk5, l3, nd, hw, la0, by omega, fun _ F ts H6 e6 nF hF hts ndt frr frl => ?_, fun z => absurd z (by omega)⟩
  obtain ⟨flen, fpos, fok⟩ := fuR_ok hw l3 nd la0 (show la ≤ 12 by omega)
  have hus6 := hus.mono (FR.same e6)
  have hU6 := e6 _ _ hU
  have lts := hts.len
  have lus := hus.len
  walk_at "go"
  refine use_alk (.inr (.inl ⟨F, U, _, _, rfl, rfl, sql hF, sql hU6, by rw [List.length_map]; omega, fr_alk (fun w hw => (fok w hw).1) hts hus6⟩)) fun H7 e7 => ?_
  refine ⟨_, rfl, iteNT ?_⟩
  generalize hws : fuR la (ds.map nmOf) = ws at hts hus hus6 flen fpos fok lts lus
  have hUus := fun x hx => FR_live hus x hx
  match ws, ts, us, hts, hus, hus6, fok, lts, lus with
  | [], _, _, _, _, _, _, _, _ => exact absurd fpos (by simp)
  | w0 :: ws1, [], _, h, _, _, _, _, _ => exact h.elim
  | w0 :: ws1, _ :: _, [], _, h, _, _, _, _ => exact h.elim
  | w0 :: ws1, t0 :: ts1, u0 :: us1, hts, hus, hus6, fok, lts, lus =>
  obtain ⟨p0, l0, r0s⟩ := t0
  obtain ⟨q0, k0, s0s⟩ := u0
  obtain ⟨w01, w02⟩ := w0
  obtain ⟨⟨wl, wr⟩, wne⟩ := fok _ List.mem_cons_self
  obtain ⟨⟨a1, a2, a3⟩, hts1⟩ := hts
  obtain ⟨⟨b1, b2, b3⟩, hus1⟩ := hus6
  have a1 : SqT K H6 p0 [.ref l0, .int w02] := a1
  have a2 : H6 l0 = some (.lst (r0s.map V.ref)) := a2
  have a3 : All2 (fun R r => H6 r = some (.dK (dk R))) w01 r0s := a3
  have b1 : SqT K H6 q0 [.ref k0, .int w02] := b1
  have b2 : H6 k0 = some (.lst (s0s.map V.ref)) := b2
  have b3 : All2 (fun R r => H6 r = some (.dK (dk R))) w01 s0s := b3
  have wl : w01.length ≤ 100 := wl
  have wr : ∀ R ∈ w01, RowG R := wr
  match w01, r0s, s0s, wne, a3, b3, wl, wr with
  | [], _, _, wne, _, _, _, _ => exact absurd rfl wne
  | _ :: _, [], _, _, h, _, _, _ => exact h.elim
  | _ :: _, _ :: _, [], _, _, h, _, _ => exact h.elim
  | R0 :: R1, r0 :: rs1, s0 :: ss1, _, a3, b3, wl, wr =>
  obtain ⟨a30, a31⟩ := a3
  obtain ⟨b30, b31⟩ := b3
  have eU : Same H5 H7 := e6.trans e7
  walk_at "go"
  refine ⟨_, _, _, _, rfl, rfl, sql (e7 _ _ hF), at_any (j := 0) rfl rfl, ?_⟩
  walk_at "go"
  refine ⟨_, _, _, _, rfl, rfl, SqT.same e7 a1, at_any (j := 0) rfl rfl, ?_⟩
  walk_at "go"
  refine ⟨_, _, _, _, rfl, rfl, sql (e7 _ _ a2), at_any (j := 0) rfl rfl, ?_⟩
  have hr7 := e7 _ _ a30
  refine ⟨.inr (.inr (.inl ⟨rfl, .inl ⟨_, hr7⟩⟩)), r0, _, rfl, rfl, hr7, ?_⟩
  have nr5 : H5 r0 = none := frr r0 (by unfold flatA; simp)
  obtain ⟨nr1, nr2⟩ : r0 ∉ rs1 ∧ r0 ∉ flatA ts1 := by
    have nz := ndt
    unfold flatA at nz
    rw [List.flatMap_cons] at nz
    have nz : (r0 :: (rs1 ++ flatA ts1)).Nodup := nz
    rw [List.nodup_cons, List.mem_append] at nz
    exact ⟨fun z => nz.1 (.inl z), fun z => nz.1 (.inr z)⟩
  have e58 : Same H5 (upd H7 r0 (.dK [])) := fun b o h => by
    rw [upd_ne (fun z => by rw [z, nr5] at h; cases h)]
    exact eU _ _ h
  have kn : ∀ {b : Addr} {xs : List V}, H7 b = some (.lst xs) → (upd H7 r0 (.dK [])) b = some (.lst xs) := fun {b xs} h => by
    rw [upd_ne (fun z => by rw [z, hr7] at h; cases h)]
    exact h
  have F8 := kn (e7 _ _ hF)
  have l8 := kn (e7 _ _ a2)
  have p8 := sqt_put hr7 (SqT.same e7 a1)
  have ts8 := fr_put hr7 nr2 (hts1.mono (FR.same e7))
  have rs8 := rows_put nr1 (a31.mono fun _ _ h => e7 _ _ h)
  clear a1 a2 a30 a31 hts1 hF hr7 kn
  have us5 : All2 (FR K H5) (((R0 :: R1), w02) :: ws1) ((q0, k0, s0 :: ss1) :: us1) := hus
  clear b1 b2 b30 b31 hus1 hus hU6
  generalize upd H7 r0 (.dK []) = H8 at e58 F8 l8 p8 ts8 rs8 ⊢
  obtain ⟨⟨c1, c2, c3, c4⟩, us8⟩ := us5.mono (FR.same e58)
  have c1 : SqT K H8 q0 [.ref k0, .int w02] := c1
  have c2 : H8 k0 = some (.lst (V.ref s0 :: ss1.map V.ref)) := c2
  have c4 : All2 (fun R r => H8 r = some (.dK (dk R))) R1 ss1 := c4
  have U8 : H8 U = some (.lst (V.ref q0 :: us1.map fun t => V.ref t.1)) := e58 _ _ hU
  have F8 : H8 F = some (.lst (V.ref p0 :: ts1.map fun t => V.ref t.1)) := F8
  have l8 : H8 l0 = some (.lst (V.ref r0 :: rs1.map V.ref)) := l8
  walk_at "go"
  refine ⟨_, _, rfl, sql F8, fun f1 nf1 => ?_⟩
  rw [cut1]
  have s9 := same_new (o := .lst (ts1.map fun t => V.ref t.1)) nf1
  have hf9 : (upd H8 f1 (.lst (ts1.map fun t => V.ref t.1))) f1 = some (.lst (ts1.map fun t => V.ref t.1)) := upd_same
  generalize upd H8 f1 (.lst (ts1.map fun t => V.ref t.1)) = H9 at s9 hf9 ⊢
  walk_at "go"
  refine ⟨_, _, rfl, sql (s9 _ _ U8), fun f2 nf2 => ?_⟩
  rw [cut1]
  have sa := same_new (o := .lst (us1.map fun t => V.ref t.1)) nf2
  have hfa : (upd H9 f2 (.lst (us1.map fun t => V.ref t.1))) f2 = some (.lst (us1.map fun t => V.ref t.1)) := upd_same
  have hf9a := sa _ _ hf9
  have e8a := s9.trans sa
  generalize upd H9 f2 (.lst (us1.map fun t => V.ref t.1)) = Ha at sa hfa hf9a e8a ⊢
  walk_at "go"
  have lt1 : ts1.length ≤ 4000 := by rw [List.length_cons, List.length_cons] at lts; rw [List.length_cons] at flen; omega
  refine use_alk (.inr (.inl ⟨f1, f2, _, _, rfl, rfl, sql hf9a, sql hfa, by rw [List.length_map]; exact lt1, fr_alk (fun w hw => (fok w (List.mem_cons_of_mem _ hw)).1) (ts8.mono (FR.same e8a)) (us8.mono (FR.same e8a))⟩)) fun Hb eb => ?_
  have e8b := e8a.trans eb
  refine ⟨_, rfl, iteNT ?_⟩
  walk_at "go"
  refine ⟨_, _, _, _, rfl, rfl, sql (e8b _ _ F8), at_any (j := 0) rfl rfl, ?_⟩
  walk_at "go"
  refine ⟨_, _, _, _, rfl, rfl, SqT.same e8b p8, at_any (j := 0) rfl rfl, ?_⟩
  walk_at "go"
  refine ⟨_, _, rfl, sql (e8b _ _ l8), fun g1 ng1 => ?_⟩
  rw [cut1]
  have sc := same_new (o := .lst (rs1.map V.ref)) ng1
  have hgc : (upd Hb g1 (.lst (rs1.map V.ref))) g1 = some (.lst (rs1.map V.ref)) := upd_same
  have e8c := e8b.trans sc
  generalize upd Hb g1 (.lst (rs1.map V.ref)) = Hc at sc hgc e8c ⊢
  walk_at "go"
  refine ⟨_, _, _, _, rfl, rfl, sql (e8c _ _ U8), at_any (j := 0) rfl rfl, ?_⟩
  walk_at "go"
  refine ⟨_, _, _, _, rfl, rfl, SqT.same e8c c1, at_any (j := 0) rfl rfl, ?_⟩
  walk_at "go"
  refine ⟨_, _, rfl, sql (e8c _ _ c2), fun g2 ng2 => ?_⟩
  rw [cut1]
  have sd := same_new (o := .lst (ss1.map V.ref)) ng2
  have hgd : (upd Hc g2 (.lst (ss1.map V.ref))) g2 = some (.lst (ss1.map V.ref)) := upd_same
  have hgcd := sd _ _ hgc
  have e8d := e8c.trans sd
  generalize upd Hc g2 (.lst (ss1.map V.ref)) = Hd at sd hgd hgcd e8d ⊢
  refine ⟨2, g1, g2, _, _, by decide, rfl, rfl, sql hgcd, sql hgd, rows_eqv (fun R hR => wr R (List.mem_cons_of_mem _ hR)) (rs8.mono fun _ _ h => e8d _ _ h) (c4.mono fun _ _ h => e8d _ _ h), ?_⟩
  refine ⟨_, rfl, iteF ?_⟩
  walk_at "go"
  refine ⟨_, _, _, _, rfl, rfl, sql (e8d _ _ F8), at_any (j := 0) rfl rfl, ?_⟩
  walk_at "go"
  refine ⟨_, _, _, _, rfl, rfl, SqT.same e8d p8, at_any (j := 0) rfl rfl, ?_⟩
  have l9 := e8d _ _ l8
  refine ⟨.inl ⟨rfl, _, sql l9⟩, l0, _, rfl, rfl, l9, ?_⟩
  have nl5 : H5 l0 = none := frl _ List.mem_cons_self
  have e5e : Same H5 (upd Hd l0 (.lst [])) := fun b o h => by
    rw [upd_ne (fun z => by rw [z, nl5] at h; cases h)]
    exact e8d _ _ (e58 _ _ h)
  obtain ⟨fx, Fe⟩ : ∃ xs, (upd Hd l0 (.lst [])) F = some (.lst xs) := by
    by_cases z : F = l0
    · rw [z]
      exact ⟨_, upd_same⟩
    · rw [upd_ne z]
      exact ⟨_, e8d _ _ F8⟩
  generalize upd Hd l0 (.lst []) = He at e5e Fe ⊢
  walk_at "go"
  refine ⟨.inl ⟨rfl, _, sql Fe⟩, F, _, rfl, rfl, Fe, ?_⟩
  have e5f : Same H5 (upd He F (.lst [])) := fun b o h => by
    rw [upd_ne (fun z => by rw [z, nF] at h; cases h)]
    exact e5e _ _ h
  generalize upd He F (.lst []) = Hf at e5f ⊢
  clear e8d sd hgc hgcd hgd e8c sc e8b eb hfa hf9a e8a sa s9 hf9 F8 l8 p8 ts8 rs8 c1 c2 c3 c4 us8 U8 e58 l9 e5e Fe eU
  walk_at "go"
  refine g_meth ?_
  walk_at "go"
  refine ⟨_, _, _, rfl, e5f _ _ ha, rfl, ?_⟩
  walk_at "go"
  refine ⟨a, la, ds.map nmOf, rfl, mk5.same e5f, l3, nd, hw, la0, by omega, fun _ F2 ts2 Hg eg nF2 hF2 hts2 _ _ _ => ?_, fun z => absurd z (by omega)⟩
  rw [hws] at hts2
  have e5g := e5f.trans eg
  have lts2 := hts2.len
  walk_at "go"
  refine use_alk (.inr (.inl ⟨F2, U, _, _, rfl, rfl, sql hF2, sql (e5g _ _ hU), by rw [List.length_map]; omega, fr_alk (fun w hw => (fok w hw).1) hts2 (us5.mono (FR.same e5g))⟩)) fun Hh eh => ?_
  have e5h := e5g.trans eh
  have Lh := L5.same e5h
  have hth := tab_same ht5 e5h
  clear e5g e5f eg hts2 hF2 us5 fok mk5 L5 ht5 hU
  refine ⟨_, rfl, iteNT ?_⟩
  walk_at "go"
  refine ⟨by show 2 ≤ sizeLine; decide, fun p1 np1 => ?_⟩
  have sj := same_new (o := .tup [V.int 0, V.int 1]) np1
  have hp1 : SqT K (upd Hh p1 (.tup [V.int 0, V.int 1])) p1 [V.int 0, V.int 1] := sqt upd_same
  replace Lh := Lh.same sj
  replace hth := tab_same hth sj
  generalize upd Hh p1 (.tup [V.int 0, V.int 1]) = Hi at hp1 Lh hth ⊢
  walk_at "go"
  refine use_taken Lh (by decide) (by decide) fun r Hj r0 r1 ej Lj => ?_
  have htj := Lh.tab hth ej
  have d1 := dp_st ((Lh.dm ej).t _ _ hp1)
  clear hp1 hth
  walk_at "go"
  refine ⟨by show 2 ≤ sizeLine; decide, fun p2 np2 => ?_⟩
  have sk := same_new (o := .tup [V.int (1 + r), V.int 2]) np2
  have d2 : Dp K (upd Hj p2 (.tup [V.int (1 + r), V.int 2])) (.ref p2) (stD (1 + r) 2) := dp_st (sqt upd_same)
  replace d1 := Dp.dm (.of sk) d1
  replace Lj := Lj.same sk
  replace htj := tab_same htj sk
  generalize upd Hj p2 (.tup [V.int (1 + r), V.int 2]) = Hk at d1 d2 Lj htj ⊢
  walk_at "go"
  refine ⟨by show 2 ≤ sizeLine; decide, fun st nst => ?_⟩
  have sl := same_new (o := .lst [V.ref p1, V.ref p2]) nst
  have hst : (upd Hk st (.lst [V.ref p1, V.ref p2])) st = some (.lst [V.ref p1, V.ref p2]) := upd_same
  replace d1 := Dp.dm (.of sl) d1
  replace d2 := Dp.dm (.of sl) d2
  replace Lj := Lj.same sl
  replace htj := tab_same htj sl
  generalize upd Hk st (.lst [V.ref p1, V.ref p2]) = Hl at d1 d2 hst Lj htj ⊢
  have okw := Lj.ok
  walk_at "go"
  refine use_word Lj (by decide) (by decide) fun Hm em => ?_
  walk_at "go"
  refine ⟨by show 3 ≤ sizeLine; decide, fun n1 nn1 => ?_⟩
  have en := em.trans (same_new (o := .tup [V.str (wd c 8), V.int 0, V.ref st]) nn1)
  have hn1 : SqT K (upd Hm n1 (.tup [V.str (wd c 8), V.int 0, V.ref st])) n1 [V.str (wd c 8), V.int 0, V.ref st] := sqt upd_same
  replace d1 := Dp.dm (.of en) d1
  replace d2 := Dp.dm (.of en) d2
  replace hst := en _ _ hst
  replace Lj := Lj.same en
  replace htj := tab_same htj en
  generalize upd Hm n1 (.tup [V.str (wd c 8), V.int 0, V.ref st]) = Hn at d1 d2 hst hn1 Lj htj ⊢
  walk_at "go"
  refine use_word Lj (by decide) (by decide) fun Ho eo => ?_
  walk_at "go"
  refine ⟨by show 3 ≤ sizeLine; decide, fun n2 nn2 => ?_⟩
  have ep := eo.trans (same_new (o := .tup [V.str (wd c 9), V.int 5, V.ref st]) nn2)
  have hn2 : SqT K (upd Ho n2 (.tup [V.str (wd c 9), V.int 5, V.ref st])) n2 [V.str (wd c 9), V.int 5, V.ref st] := sqt upd_same
  replace d1 := Dp.dm (.of ep) d1
  replace d2 := Dp.dm (.of ep) d2
  replace hst := ep _ _ hst
  replace hn1 := SqT.same ep hn1
  replace Lj := Lj.same ep
  replace htj := tab_same htj ep
  generalize upd Ho n2 (.tup [V.str (wd c 9), V.int 5, V.ref st]) = Hp2 at d1 d2 hst hn1 hn2 Lj htj ⊢
  walk_at "go"
  refine use_word Lj (by decide) (by decide) fun Hq eq => ?_
  walk_at "go"
  refine ⟨by show 2 ≤ sizeLine; decide, fun p3 np3 => ?_⟩
  have er1 := eq.trans (same_new (o := .tup [V.int (-1), V.int 3]) np3)
  have d3 : Dp K (upd Hq p3 (.tup [V.int (-1), V.int 3])) (.ref p3) (stD (-1) 3) := dp_st (sqt upd_same)
  replace d1 := Dp.dm (.of er1) d1
  replace d2 := Dp.dm (.of er1) d2
  replace hst := er1 _ _ hst
  replace hn1 := SqT.same er1 hn1
  replace hn2 := SqT.same er1 hn2
  replace Lj := Lj.same er1
  replace htj := tab_same htj er1
  generalize upd Hq p3 (.tup [V.int (-1), V.int 3]) = Hr at d1 d2 d3 hst hn1 hn2 Lj htj ⊢
  walk_at "go"
  refine ⟨by show 1 ≤ sizeLine; decide, fun x1 nx1 => ?_⟩
  have es := same_new (o := .lst [V.ref p3]) nx1
  have hx1 : (upd Hr x1 (.lst [V.ref p3])) x1 = some (.lst [V.ref p3]) := upd_same
  replace d1 := Dp.dm (.of es) d1
  replace d2 := Dp.dm (.of es) d2
  replace d3 := Dp.dm (.of es) d3
  replace hst := es _ _ hst
  replace hn1 := SqT.same es hn1
  replace hn2 := SqT.same es hn2
  replace Lj := Lj.same es
  replace htj := tab_same htj es
  generalize upd Hr x1 (.lst [V.ref p3]) = Hs at d1 d2 d3 hst hx1 hn1 hn2 Lj htj ⊢
  walk_at "go"
  refine ⟨st, x1, _, _, rfl, rfl, hst, hx1, by show 3 ≤ sizeLine; decide, fun st3 nst3 => ?_⟩
  have et := same_new (o := .lst ([V.ref p1, V.ref p2] ++ [V.ref p3])) nst3
  have hst3 : (upd Hs st3 (.lst ([V.ref p1, V.ref p2] ++ [V.ref p3]))) st3 = some (.lst [V.ref p1, V.ref p2, V.ref p3]) := upd_same
  replace d1 := Dp.dm (.of et) d1
  replace d2 := Dp.dm (.of et) d2
  replace d3 := Dp.dm (.of et) d3
  replace hst := et _ _ hst
  replace hn1 := SqT.same et hn1
  replace hn2 := SqT.same et hn2
  replace Lj := Lj.same et
  replace htj := tab_same htj et
  generalize upd Hs st3 (.lst ([V.ref p1, V.ref p2] ++ [V.ref p3])) = Ht at d1 d2 d3 hst hst3 hn1 hn2 Lj htj ⊢
  walk_at "go"
  refine ⟨by show 3 ≤ sizeLine; decide, fun n3 nn3 => ?_⟩
  have eu := same_new (o := .tup [V.str (wd c 10), V.int 7, V.ref st3]) nn3
  have hn3 : SqT K (upd Ht n3 (.tup [V.str (wd c 10), V.int 7, V.ref st3])) n3 [V.str (wd c 10), V.int 7, V.ref st3] := sqt upd_same
  have D1 : Dp K (upd Ht n3 (.tup [V.str (wd c 10), V.int 7, V.ref st3])) (.ref n1) (nmD (wd c 8) 0 [stD 0 1, stD (1 + r) 2]) := .tup (SqT.same eu hn1) (.cons (.str _) (.cons (.int _) (.cons (.lst (sql (eu _ _ hst)) (.cons (Dp.dm (.of eu) d1) (.cons (Dp.dm (.of eu) d2) .nil))) .nil)))
  have D2 : Dp K (upd Ht n3 (.tup [V.str (wd c 10), V.int 7, V.ref st3])) (.ref n2) (nmD (wd c 9) 5 [stD 0 1, stD (1 + r) 2]) := .tup (SqT.same eu hn2) (.cons (.str _) (.cons (.int _) (.cons (.lst (sql (eu _ _ hst)) (.cons (Dp.dm (.of eu) d1) (.cons (Dp.dm (.of eu) d2) .nil))) .nil)))
  have D3 : Dp K (upd Ht n3 (.tup [V.str (wd c 10), V.int 7, V.ref st3])) (.ref n3) (nmD (wd c 10) 7 [stD 0 1, stD (1 + r) 2, stD (-1) 3]) := .tup hn3 (.cons (.str _) (.cons (.int _) (.cons (.lst (sql (eu _ _ hst3)) (.cons (Dp.dm (.of eu) d1) (.cons (Dp.dm (.of eu) d2) (.cons (Dp.dm (.of eu) d3) .nil)))) .nil)))
  replace htj := tab_same htj eu
  clear d1 d2 d3 hst hst3 hn1 hn2 hn3 Lj
  generalize upd Ht n3 (.tup [V.str (wd c 10), V.int 7, V.ref st3]) = Hu at D1 D2 D3 htj ⊢
  walk_at "go"
  refine ⟨by show 3 ≤ sizeLine; decide, fun nl nnl => ?_⟩
  have ev := same_new (o := .lst [V.ref n1, V.ref n2, V.ref n3]) nnl
  have hnl : (upd Hu nl (.lst [V.ref n1, V.ref n2, V.ref n3])) nl = some (.lst [V.ref n1, V.ref n2, V.ref n3]) := upd_same
  replace D1 := Dp.dm (.of ev) D1
  replace D2 := Dp.dm (.of ev) D2
  replace D3 := Dp.dm (.of ev) D3
  replace htj := tab_same htj ev
  generalize upd Hu nl (.lst [V.ref n1, V.ref n2, V.ref n3]) = Hv at D1 D2 D3 hnl htj ⊢
  have o1 := ok_nm (wd_word okw (k := 8) (by decide)) (b := 0) (by decide) (by decide) (ok_two r0 r1)
  have o2 := ok_nm (wd_word okw (k := 9) (by decide)) (b := 5) (by decide) (by decide) (ok_two r0 r1)
  have o3 := ok_nm (wd_word okw (k := 10) (by decide)) (b := 7) (by decide) (by decide) (ok_three r0 r1)
  have x12 := wd_ne okw (i := 8) (j := 9) (by decide) (by decide) (by decide) (by decide) (by decide)
  have x13 := wd_ne okw (i := 8) (j := 10) (by decide) (by decide) (by decide) (by decide) (by decide)
  have x23 := wd_ne okw (i := 9) (j := 10) (by decide) (by decide) (by decide) (by decide) (by decide)
  have oa : [nmD (wd c 8) 0 [stD 0 1, stD (1 + r) 2], nmD (wd c 9) 5 [stD 0 1, stD (1 + r) 2], nmD (wd c 10) 7 [stD 0 1, stD (1 + r) 2, stD (-1) 3]].all okName = true := by
    rw [List.all_cons, List.all_cons, List.all_cons, o1, o2, o3]
    rfl
  have on : okNames (.list [nmD (wd c 8) 0 [stD 0 1, stD (1 + r) 2], nmD (wd c 9) 5 [stD 0 1, stD (1 + r) 2], nmD (wd c 10) 7 [stD 0 1, stD (1 + r) 2, stD (-1) 3]]) = true := by
    dsimp only [okNames]
    rw [oa, decide_eq_true (show ([nmD (wd c 8) 0 [stD 0 1, stD (1 + r) 2], nmD (wd c 9) 5 [stD 0 1, stD (1 + r) 2], nmD (wd c 10) 7 [stD 0 1, stD (1 + r) 2, stD (-1) 3]].map wordOf).Nodup from by
      show [wd c 8, wd c 9, wd c 10].Nodup
      simp [x12, x13, x23])]
    rfl
  have oa1 : [nmD (wd c 8) 0 [stD 0 1, stD (1 + r) 2]].all okName = true := by
    rw [List.all_cons, o1]
    rfl
  have on1 : okNames (.list [nmD (wd c 8) 0 [stD 0 1, stD (1 + r) 2]]) = true := by
    dsimp only [okNames]
    rw [oa1, decide_eq_true (show ([nmD (wd c 8) 0 [stD 0 1, stD (1 + r) 2]].map wordOf).Nodup from List.nodup_cons.mpr ⟨by simp, List.nodup_nil⟩)]
    rfl
  walk_at "go"
  refine g_meth ?_
  walk_at "go"
  refine g_callS ?_
  walk_at "go"
  have dN : Dp K Hv (.ref nl) (.list [nmD (wd c 8) 0 [stD 0 1, stD (1 + r) 2], nmD (wd c 9) 5 [stD 0 1, stD (1 + r) 2], nmD (wd c 10) 7 [stD 0 1, stD (1 + r) 2, stD (-1) 3]]) := .lst (sql hnl) (.cons D1 (.cons D2 (.cons D3 .nil)))
  refine use_mk (.int 3) dN (names_lay oa).2.2 htj (fun _ a2 Hw nfw tw obj => ?_) (fun bad => by
    have : okMk (.int 3) (.list [nmD (wd c 8) 0 [stD 0 1, stD (1 + r) 2], nmD (wd c 9) 5 [stD 0 1, stD (1 + r) 2], nmD (wd c 10) 7 [stD 0 1, stD (1 + r) 2, stD (-1) 3]]) = true := by
      show (inB 0 12 (.int 3) && okNames _) = true
      rw [on]
      rfl
    rw [this] at bad
    cases bad)
  have mk2 := obj 3 _ rfl rfl
  have dmw := tw.dm (K := K) htj
  replace D1 := Dp.dm dmw D1
  replace hnl := dmw.l _ _ (sql hnl)
  replace htj := tw.g
  clear dN D2 D3 obj tw
  obtain ⟨dx2, mt2, mus2, ha2, _, _⟩ := id mk2
  refine ⟨_, _, _, rfl, ha2, rfl, ?_⟩
  walk_at "go"
  have w3 := names_wok oa
  have nd3 : (([nmD (wd c 8) 0 [stD 0 1, stD (1 + r) 2], nmD (wd c 9) 5 [stD 0 1, stD (1 + r) 2], nmD (wd c 10) 7 [stD 0 1, stD (1 + r) 2, stD (-1) 3]].map nmOf).map (·.x)).Nodup := by
    show [wd c 8, wd c 9, wd c 10].Nodup
    simp [x12, x13, x23]
  have c3 : cntN 3 ([nmD (wd c 8) 0 [stD 0 1, stD (1 + r) 2], nmD (wd c 9) 5 [stD 0 1, stD (1 + r) 2], nmD (wd c 10) 7 [stD 0 1, stD (1 + r) 2, stD (-1) 3]].map nmOf) = 1728 := by
    show (1 * 2 * 2 * 3 : Nat) ^ 3 = 1728
    decide
  refine ⟨a2, 3, _, rfl, mk2, by show 3 ≤ 3; decide, nd3, w3, by decide, by decide, fun _ F3 ts3 Hx ex nF3 hF3 hts3 _ _ _ => ?_, fun z => absurd z (by rw [c3]; decide)⟩
  have l3b := (fuR_ok (la := 3) w3 (by show 3 ≤ 3; decide) nd3 (by decide) (by decide)).1
  have lts3 := hts3.len
  walk_at "go"
  refine ⟨_, _, rfl, .inl (sql hF3), ?_⟩
  walk_at "go"
  have hlen : (((ts3.map fun t => V.ref t.1).length : Nat) : Int) = 1728 := by
    rw [List.length_map]
    omega
  refine ifd (fun _ => ?_) (fun z => absurd hlen z)
  replace D1 := Dp.dm (.of ex) D1
  replace hnl := ex.seq hnl
  replace htj := tab_same htj ex
  clear hts3 hF3 lts3 mk2 ha2
  walk_at "go"
  refine g_callS ?_
  walk_at "go"
  refine ⟨_, _, rfl, hnl, fun n9 nn9 => ?_⟩
  rw [show cutV [V.ref n1, V.ref n2, V.ref n3] none (some 1) = [V.ref n1] from rfl]
  have sy := same_new (o := .lst [V.ref n1]) nn9
  have dY : Dp K (upd Hx n9 (.lst [V.ref n1])) (.ref n9) (.list [nmD (wd c 8) 0 [stD 0 1, stD (1 + r) 2]]) := .lst (sql upd_same) (.cons (Dp.dm (.of sy) D1) .nil)
  replace htj := tab_same htj sy
  generalize upd Hx n9 (.lst [V.ref n1]) = Hy at dY htj ⊢
  walk_at "go"
  refine use_mk (.int 11) dY (names_lay oa1).2.2 htj (fun _ a3 Hz nfz tz obj => ?_) (fun bad => by
    have : okMk (.int 11) (.list [nmD (wd c 8) 0 [stD 0 1, stD (1 + r) 2]]) = true := by
      show (inB 0 12 (.int 11) && okNames _) = true
      rw [on1]
      rfl
    rw [this] at bad
    cases bad)
  have mk3 := obj 11 _ rfl rfl
  walk_at "go"
  have c4 : cntN 11 ([nmD (wd c 8) 0 [stD 0 1, stD (1 + r) 2]].map nmOf) = 2048 := by
    show (1 * 2 : Nat) ^ 11 = 2048
    decide
  exact ⟨a3, 11, _, rfl, mk3, by show 1 ≤ 3; decide, List.nodup_cons.mpr ⟨by simp, List.nodup_nil⟩, names_wok oa1, by decide, by decide, by rw [c4]; decide, q _⟩
end

theorem all_mk {q : Program} {l : PySem.W.OpenLaw} {w : World} {K : PySem.W.Frag} {h : Heap} {mg : Str → Option Value} {fa : Addr} (X : K.In h) (G : h.Ns mainGlobals mg) (hfa : mg "law" = some (.ref fa)) (TO : TabsOf q K h)
    {C_Market : Addr}
    {f0 : Addr} {od0 an0 : Option Addr} {sl0 : Array (Option Value)} {oc0 kV0 dc0 pm0 ct0 : Value} {cd0 : Value}
    {f1 : Addr} {od1 an1 : Option Addr} {sl1 : Array (Option Value)} {oc1 kV1 dc1 pm1 ct1 : Value} {cd1 : Value}
    {f2 : Addr} {od2 an2 : Option Addr} {sl2 : Array (Option Value)} {oc2 kV2 dc2 pm2 ct2 : Value} {cd2 : Value}
    {f3 : Addr} {od3 an3 : Option Addr} {sl3 : Array (Option Value)} {oc3 kV3 dc3 pm3 ct3 : Value} {cd3 : Value}
    {f4 : Addr} {od4 an4 : Option Addr} {sl4 : Array (Option Value)} {oc4 kV4 dc4 pm4 ct4 : Value} {cT PT : Addr} {oq : Value} {oe : Option Addr} {vq : Array Value} {sq : Array (Option Value)}
    {f5 : Addr} {od5 an5 : Option Addr} {sl5 : Array (Option Value)} {oc5 kV5 dc5 pm5 ct5 : Value} {cd5 : Value}
    {f6 : Addr} {od6 an6 : Option Addr} {sl6 : Array (Option Value)} {oc6 kV6 dc6 pm6 ct6 : Value} {cd6 : Value}
    {f7 : Addr} {od7 an7 : Option Addr} {sl7 : Array (Option Value)} {oc7 kV7 dc7 pm7 ct7 : Value} {cd7 : Value}
    {f8 : Addr} {od8 an8 : Option Addr} {sl8 : Array (Option Value)} {oc8 kV8 dc8 pm8 ct8 : Value} {cd8 : Value}
    {f9 : Addr} {od9 an9 : Option Addr} {sl9 : Array (Option Value)} {oc9 kV9 dc9 pm9 ct9 : Value} {cd9 : Value}
    {f10 : Addr} {od10 an10 : Option Addr} {sl10 : Array (Option Value)} {oc10 kV10 dc10 pm10 ct10 : Value} {cd10 : Value}
    {f11 : Addr} {od11 an11 : Option Addr} {sl11 : Array (Option Value)} {oc11 kV11 dc11 pm11 ct11 : Value} {cd11 : Value}
    {f12 : Addr} {od12 an12 : Option Addr} {sl12 : Array (Option Value)} {oc12 kV12 dc12 pm12 ct12 cd12 : Value}
    {f13 : Addr} {od13 an13 : Option Addr} {sl13 : Array (Option Value)} {oc13 kV13 dc13 pm13 ct13 cd13 : Value}
    {f14 : Addr} {od14 an14 : Option Addr} {sl14 : Array (Option Value)} {oc14 kV14 dc14 pm14 ct14 cd14 : Value}
    {f15 : Addr} {od15 an15 : Option Addr} {sl15 : Array (Option Value)} {oc15 kV15 dc15 pm15 ct15 cd15 : Value}
    {f16 : Addr} {od16 an16 : Option Addr} {sl16 : Array (Option Value)} {oc16 kV16 dc16 pm16 ct16 cd16 : Value}
    {f17 : Addr} {od17 an17 : Option Addr} {sl17 : Array (Option Value)} {oc17 kV17 dc17 pm17 ct17 cd17 : Value}
    {f18 : Addr} {od18 an18 : Option Addr} {sl18 : Array (Option Value)} {oc18 kV18 dc18 pm18 ct18 : Value} {cd18 : Value}
    {f19 : Addr} {od19 an19 : Option Addr} {sl19 : Array (Option Value)} {oc19 kV19 dc19 pm19 ct19 : Value} {cd19 : Value}
    {f20 : Addr} {od20 an20 : Option Addr} {sl20 : Array (Option Value)} {oc20 kV20 dc20 pm20 ct20 : Value} {cd20 : Value}
    {f21 : Addr} {od21 an21 : Option Addr} {sl21 : Array (Option Value)} {oc21 kV21 dc21 pm21 ct21 : Value} {cd21 : Value}
    {f22 : Addr} {od22 an22 : Option Addr} {sl22 : Array (Option Value)} {oc22 kV22 dc22 pm22 ct22 : Value} {cd22 : Value}
    {C_BadMarket : Addr}
    {C_TooMany : Addr}
    {C_BadText : Addr}
    {C_BadContract : Addr}
    {t_LETTERS : Tok}
    {t_LONGEST_WORD : Tok}
    {t_TOO_LARGE : Tok}
    {t_MOST_WEIGHT : Tok}
    {t_MOST_STEPS : Tok}
    {t_MOST_NAMES : Tok}
    {t_LAST_HOUR : Tok}
    {t_MOST_FUTURES : Tok}
    (ca_Market : PySem.W.nsIn K mainGlobals "Market" = some (some (.ref C_Market))) (pg_Market : PySem.W.plainGet K C_Market Str.empty = true) (hd_Market : PySem.W.hasDictIn K C_Market = true) (po_Market : PySem.W.plainOver K C_Market = true) (sa_Market : PySem.W.findIn K (.ref C_Market) "__setattr__" = some (some (.builtin "object.__setattr__"))) (n_Market_last : PySem.W.findIn K (.ref C_Market) "last" = some none) (n_Market_names : PySem.W.findIn K (.ref C_Market) "names" = some none)
    (a0 : PySem.W.nsIn K mainGlobals "_law_taken" = some (some (.ref f0))) (l0 : K.lookup f0 = some ⟨oc0, od0, .func (PySem.W.fnOf "_law_taken" "_law_taken" (defArgs s__law_taken) (defBody s__law_taken) (defScope s__law_taken) .none kV0 dc0 pm0 an0 cd0 ct0), sl0⟩) (c0 : PySem.W.codeIn K cd0 "_law_taken" = true) (k0 : PySem.W.keepIn K (.ref f0) = true)
    (a1 : PySem.W.nsIn K mainGlobals "_law_word" = some (some (.ref f1))) (l1 : K.lookup f1 = some ⟨oc1, od1, .func (PySem.W.fnOf "_law_word" "_law_word" (defArgs s__law_word) (defBody s__law_word) (defScope s__law_word) .none kV1 dc1 pm1 an1 cd1 ct1), sl1⟩) (c1 : PySem.W.codeIn K cd1 "_law_word" = true) (k1 : PySem.W.keepIn K (.ref f1) = true)
    (a2 : PySem.W.nsIn K mainGlobals "_law_number" = some (some (.ref f2))) (l2 : K.lookup f2 = some ⟨oc2, od2, .func (PySem.W.fnOf "_law_number" "_law_number" (defArgs s__law_number) (defBody s__law_number) (defScope s__law_number) .none kV2 dc2 pm2 an2 cd2 ct2), sl2⟩) (c2 : PySem.W.codeIn K cd2 "_law_number" = true) (k2 : PySem.W.keepIn K (.ref f2) = true)
    (a3 : PySem.W.nsIn K mainGlobals "_law_begun" = some (some (.ref f3))) (l3 : K.lookup f3 = some ⟨oc3, od3, .func (PySem.W.fnOf "_law_begun" "_law_begun" (defArgs s__law_begun) (defBody s__law_begun) (defScope s__law_begun) .none kV3 dc3 pm3 an3 cd3 ct3), sl3⟩) (c3 : PySem.W.codeIn K cd3 "_law_begun" = true) (k3 : PySem.W.keepIn K (.ref f3) = true)
    (a4 : PySem.W.nsIn K mainGlobals "is_word" = some (some (.ref f4))) (l4 : K.lookup f4 = some ⟨oc4, od4, .func (PySem.W.fnOf "is_word" "is_word" (defArgs s_is_word) (defBody s_is_word) (defScope s_is_word) .none kV4 dc4 pm4 an4 (.ref cT) ct4), sl4⟩) (c4 : PySem.W.codeIn K (.ref cT) "is_word" = true) (k4 : PySem.W.keepIn K (.ref f4) = true)
    (cc : K.lookup cT = some ⟨oq, oe, .fields vq, sq⟩) (v11 : (vq[11]? : Option Value) = some (.ref PT)) (rT : ((recsOf q).find? (fun e => e.name == ("is_word" : Str))).isSome = true) (nP : K.lookup PT = none)
    (a5 : PySem.W.nsIn K mainGlobals "is_whole" = some (some (.ref f5))) (l5 : K.lookup f5 = some ⟨oc5, od5, .func (PySem.W.fnOf "is_whole" "is_whole" (defArgs s_is_whole) (defBody s_is_whole) (defScope s_is_whole) .none kV5 dc5 pm5 an5 cd5 ct5), sl5⟩) (c5 : PySem.W.codeIn K cd5 "is_whole" = true) (k5 : PySem.W.keepIn K (.ref f5) = true)
    (a6 : PySem.W.nsIn K mainGlobals "is_between" = some (some (.ref f6))) (l6 : K.lookup f6 = some ⟨oc6, od6, .func (PySem.W.fnOf "is_between" "is_between" (defArgs s_is_between) (defBody s_is_between) (defScope s_is_between) .none kV6 dc6 pm6 an6 cd6 ct6), sl6⟩) (c6 : PySem.W.codeIn K cd6 "is_between" = true) (k6 : PySem.W.keepIn K (.ref f6) = true)
    (a7 : PySem.W.nsIn K mainGlobals "is_amount" = some (some (.ref f7))) (l7 : K.lookup f7 = some ⟨oc7, od7, .func (PySem.W.fnOf "is_amount" "is_amount" (defArgs s_is_amount) (defBody s_is_amount) (defScope s_is_amount) .none kV7 dc7 pm7 an7 cd7 ct7), sl7⟩) (c7 : PySem.W.codeIn K cd7 "is_amount" = true) (k7 : PySem.W.keepIn K (.ref f7) = true)
    (a8 : PySem.W.nsIn K mainGlobals "_need_steps" = some (some (.ref f8))) (l8 : K.lookup f8 = some ⟨oc8, od8, .func (PySem.W.fnOf "_need_steps" "_need_steps" (defArgs s__need_steps) (defBody s__need_steps) (defScope s__need_steps) .none kV8 dc8 pm8 an8 cd8 ct8), sl8⟩) (c8 : PySem.W.codeIn K cd8 "_need_steps" = true) (k8 : PySem.W.keepIn K (.ref f8) = true)
    (a9 : PySem.W.nsIn K mainGlobals "_need_names" = some (some (.ref f9))) (l9 : K.lookup f9 = some ⟨oc9, od9, .func (PySem.W.fnOf "_need_names" "_need_names" (defArgs s__need_names) (defBody s__need_names) (defScope s__need_names) .none kV9 dc9 pm9 an9 cd9 ct9), sl9⟩) (c9 : PySem.W.codeIn K cd9 "_need_names" = true) (k9 : PySem.W.keepIn K (.ref f9) = true)
    (a10 : PySem.W.nsIn K mainGlobals "_law_steps" = some (some (.ref f10))) (l10 : K.lookup f10 = some ⟨oc10, od10, .func (PySem.W.fnOf "_law_steps" "_law_steps" (defArgs s__law_steps) (defBody s__law_steps) (defScope s__law_steps) .none kV10 dc10 pm10 an10 cd10 ct10), sl10⟩) (c10 : PySem.W.codeIn K cd10 "_law_steps" = true) (k10 : PySem.W.keepIn K (.ref f10) = true)
    (a11 : PySem.W.nsIn K mainGlobals "_law_market" = some (some (.ref f11))) (l11 : K.lookup f11 = some ⟨oc11, od11, .func (PySem.W.fnOf "_law_market" "_law_market" (defArgs s__law_market) (defBody s__law_market) (defScope s__law_market) .none kV11 dc11 pm11 an11 cd11 ct11), sl11⟩) (c11 : PySem.W.codeIn K cd11 "_law_market" = true) (k11 : PySem.W.keepIn K (.ref f11) = true)
    (i12 : PySem.W.findIn K (.ref C_Market) "__init__" = some (some (.ref f12))) (j12 : PySem.W.isFn K (.ref f12) = true) (l12 : K.lookup f12 = some ⟨oc12, od12, .func (PySem.W.fnOf "__init__" "Market.__init__" (defArgs s_Market) (defBody s_Market) (defScope s_Market) .none kV12 dc12 pm12 an12 cd12 ct12), sl12⟩) (c12 : PySem.W.codeIn K cd12 "Market.__init__" = true) (k12 : PySem.W.keepIn K (.ref f12) = true) (mk12 : PySem.W.makesIn K C_Market = true) (kc12 : PySem.W.keepIn K (.ref C_Market) = true)
    (i13 : PySem.W.findIn K (.ref C_Market) "_first" = some (some (.ref f13))) (j13 : PySem.W.isFn K (.ref f13) = true) (l13 : K.lookup f13 = some ⟨oc13, od13, .func (PySem.W.fnOf "_first" "Market._first" (defArgs s_Market__first) (defBody s_Market__first) (defScope s_Market__first) .none kV13 dc13 pm13 an13 cd13 ct13), sl13⟩) (c13 : PySem.W.codeIn K cd13 "Market._first" = true) (k13 : PySem.W.keepIn K (.ref f13) = true)
    (i14 : PySem.W.findIn K (.ref C_Market) "_row" = some (some (.ref f14))) (j14 : PySem.W.isFn K (.ref f14) = true) (l14 : K.lookup f14 = some ⟨oc14, od14, .func (PySem.W.fnOf "_row" "Market._row" (defArgs s_Market__row) (defBody s_Market__row) (defScope s_Market__row) .none kV14 dc14 pm14 an14 cd14 ct14), sl14⟩) (c14 : PySem.W.codeIn K cd14 "Market._row" = true) (k14 : PySem.W.keepIn K (.ref f14) = true)
    (i15 : PySem.W.findIn K (.ref C_Market) "_count" = some (some (.ref f15))) (j15 : PySem.W.isFn K (.ref f15) = true) (l15 : K.lookup f15 = some ⟨oc15, od15, .func (PySem.W.fnOf "_count" "Market._count" (defArgs s_Market__count) (defBody s_Market__count) (defScope s_Market__count) .none kV15 dc15 pm15 an15 cd15 ct15), sl15⟩) (c15 : PySem.W.codeIn K cd15 "Market._count" = true) (k15 : PySem.W.keepIn K (.ref f15) = true)
    (i16 : PySem.W.findIn K (.ref C_Market) "_moved" = some (some (.ref f16))) (j16 : PySem.W.isFn K (.ref f16) = true) (l16 : K.lookup f16 = some ⟨oc16, od16, .func (PySem.W.fnOf "_moved" "Market._moved" (defArgs s_Market__moved) (defBody s_Market__moved) (defScope s_Market__moved) .none kV16 dc16 pm16 an16 cd16 ct16), sl16⟩) (c16 : PySem.W.codeIn K cd16 "Market._moved" = true) (k16 : PySem.W.keepIn K (.ref f16) = true)
    (i17 : PySem.W.findIn K (.ref C_Market) "futures" = some (some (.ref f17))) (j17 : PySem.W.isFn K (.ref f17) = true) (l17 : K.lookup f17 = some ⟨oc17, od17, .func (PySem.W.fnOf "futures" "Market.futures" (defArgs s_Market_futures) (defBody s_Market_futures) (defScope s_Market_futures) .none kV17 dc17 pm17 an17 cd17 ct17), sl17⟩) (c17 : PySem.W.codeIn K cd17 "Market.futures" = true) (k17 : PySem.W.keepIn K (.ref f17) = true)
    (a18 : PySem.W.nsIn K mainGlobals "_law_nexts" = some (some (.ref f18))) (l18 : K.lookup f18 = some ⟨oc18, od18, .func (PySem.W.fnOf "_law_nexts" "_law_nexts" (defArgs s__law_nexts) (defBody s__law_nexts) (defScope s__law_nexts) .none kV18 dc18 pm18 an18 cd18 ct18), sl18⟩) (c18 : PySem.W.codeIn K cd18 "_law_nexts" = true) (k18 : PySem.W.keepIn K (.ref f18) = true)
    (a19 : PySem.W.nsIn K mainGlobals "_law_futures" = some (some (.ref f19))) (l19 : K.lookup f19 = some ⟨oc19, od19, .func (PySem.W.fnOf "_law_futures" "_law_futures" (defArgs s__law_futures) (defBody s__law_futures) (defScope s__law_futures) .none kV19 dc19 pm19 an19 cd19 ct19), sl19⟩) (c19 : PySem.W.codeIn K cd19 "_law_futures" = true) (k19 : PySem.W.keepIn K (.ref f19) = true)
    (a20 : PySem.W.nsIn K mainGlobals "_law_alike" = some (some (.ref f20))) (l20 : K.lookup f20 = some ⟨oc20, od20, .func (PySem.W.fnOf "_law_alike" "_law_alike" (defArgs s__law_alike) (defBody s__law_alike) (defScope s__law_alike) .none kV20 dc20 pm20 an20 cd20 ct20), sl20⟩) (c20 : PySem.W.codeIn K cd20 "_law_alike" = true) (k20 : PySem.W.keepIn K (.ref f20) = true)
    (a21 : PySem.W.nsIn K mainGlobals "_law_too_many" = some (some (.ref f21))) (l21 : K.lookup f21 = some ⟨oc21, od21, .func (PySem.W.fnOf "_law_too_many" "_law_too_many" (defArgs s__law_too_many) (defBody s__law_too_many) (defScope s__law_too_many) .none kV21 dc21 pm21 an21 cd21 ct21), sl21⟩) (c21 : PySem.W.codeIn K cd21 "_law_too_many" = true) (k21 : PySem.W.keepIn K (.ref f21) = true)
    (a22 : PySem.W.nsIn K mainGlobals "law" = some (some (.ref f22))) (l22 : K.lookup f22 = some ⟨oc22, od22, .func (PySem.W.fnOf "law" "law" (defArgs s_law) (defBody s_law) (defScope s_law) .none kV22 dc22 pm22 an22 cd22 ct22), sl22⟩) (c22 : PySem.W.codeIn K cd22 "law" = true) (k22 : PySem.W.keepIn K (.ref f22) = true)
    (xg_BadMarket : PySem.W.nsIn K mainGlobals "BadMarket" = some (some (.ref C_BadMarket))) (xx_BadMarket : PySem.W.excIn K C_BadMarket [.type "ValueError", .type "Exception", .type "BaseException", .type "object"] "ValueError.__new__" = true) (xk_BadMarket : PySem.W.keepIn K (.ref C_BadMarket) = true) (xs_BadMarket : PySem.W.subIn K (.ref C_BadMarket) (.type "BaseException") = some true) (xt_BadMarket : PySem.W.typeIn K (.ref C_BadMarket) = some (.type "type"))
    (xg_TooMany : PySem.W.nsIn K mainGlobals "TooMany" = some (some (.ref C_TooMany))) (xx_TooMany : PySem.W.excIn K C_TooMany [.type "ValueError", .type "Exception", .type "BaseException", .type "object"] "ValueError.__new__" = true) (xk_TooMany : PySem.W.keepIn K (.ref C_TooMany) = true) (xs_TooMany : PySem.W.subIn K (.ref C_TooMany) (.type "BaseException") = some true) (xt_TooMany : PySem.W.typeIn K (.ref C_TooMany) = some (.type "type"))
    (xg_BadText : PySem.W.nsIn K mainGlobals "BadText" = some (some (.ref C_BadText))) (xx_BadText : PySem.W.excIn K C_BadText [.type "ValueError", .type "Exception", .type "BaseException", .type "object"] "ValueError.__new__" = true) (xk_BadText : PySem.W.keepIn K (.ref C_BadText) = true) (xs_BadText : PySem.W.subIn K (.ref C_BadText) (.type "BaseException") = some true) (xt_BadText : PySem.W.typeIn K (.ref C_BadText) = some (.type "type"))
    (xg_BadContract : PySem.W.nsIn K mainGlobals "BadContract" = some (some (.ref C_BadContract))) (xx_BadContract : PySem.W.excIn K C_BadContract [.type "ValueError", .type "Exception", .type "BaseException", .type "object"] "ValueError.__new__" = true) (xk_BadContract : PySem.W.keepIn K (.ref C_BadContract) = true) (xs_BadContract : PySem.W.subIn K (.ref C_BadContract) (.type "BaseException") = some true) (xt_BadContract : PySem.W.typeIn K (.ref C_BadContract) = some (.type "type"))
    (e1 : PySem.W.exmOne K (.ref C_TooMany) (.ref C_TooMany) = some true)
    (e2 : PySem.W.findIn K (.ref C_TooMany) "__getattribute__" = some (some (.builtin "BaseException.__getattribute__")))
    (e3 : PySem.W.findIn K (.ref C_TooMany) "__getattr__" = some none)
    (e4 : PySem.W.hasDictIn K C_TooMany = true)
    (e5 : PySem.W.findIn K (.ref C_TooMany) "__class__" = some (some (.builtin "object.__class__")))
    (e6 : PySem.W.specialIn K (.builtin "object.__class__") "__get__" = some (some (.builtin "getset_descriptor.__get__")))
    (e7 : PySem.W.takesIn K (.builtin "object.__class__") = some true)
    (e8 : PySem.W.mroIn K C_TooMany (.type "object") = some true)
    (e9 : PySem.W.kitOne K (.ref C_TooMany) (.ref C_BadContract) = some false)
    (e10 : PySem.W.kitOne K (.ref C_TooMany) (.ref C_BadMarket) = some false)
    (e11 : PySem.W.kitOne K (.ref C_TooMany) (.ref C_BadText) = some false)
    (e12 : PySem.W.kitOne K (.ref C_TooMany) (.ref C_TooMany) = some true)
    (e13 : PySem.W.kitOne K (.ref C_TooMany) (.type "ValueError") = some true)
    (z_len : PySem.W.nsIn K mainGlobals "len" = some none)
    (z_int : PySem.W.nsIn K mainGlobals "int" = some none)
    (z_all : PySem.W.nsIn K mainGlobals "all" = some none)
    (z_LETTERS : PySem.W.nsIn K mainGlobals "LETTERS" = some (some (.str "abcdefghijklmnopqrstuvwxyz" t_LETTERS)))
    (z_LONGEST_WORD : PySem.W.nsIn K mainGlobals "LONGEST_WORD" = some (some (.int 8 t_LONGEST_WORD)))
    (z_isinstance : PySem.W.nsIn K mainGlobals "isinstance" = some none)
    (z_str : PySem.W.nsIn K mainGlobals "str" = some none)
    (z_bool : PySem.W.nsIn K mainGlobals "bool" = some none)
    (z_TOO_LARGE : PySem.W.nsIn K mainGlobals "TOO_LARGE" = some (some (.int 1000000000000 t_TOO_LARGE)))
    (z_set : PySem.W.nsIn K mainGlobals "set" = some none)
    (z_MOST_WEIGHT : PySem.W.nsIn K mainGlobals "MOST_WEIGHT" = some (some (.int 999 t_MOST_WEIGHT)))
    (z_tuple : PySem.W.nsIn K mainGlobals "tuple" = some none)
    (z_MOST_STEPS : PySem.W.nsIn K mainGlobals "MOST_STEPS" = some (some (.int 4 t_MOST_STEPS)))
    (z_list : PySem.W.nsIn K mainGlobals "list" = some none)
    (z_MOST_NAMES : PySem.W.nsIn K mainGlobals "MOST_NAMES" = some (some (.int 3 t_MOST_NAMES)))
    (z_range : PySem.W.nsIn K mainGlobals "range" = some none)
    (z_max : PySem.W.nsIn K mainGlobals "max" = some none)
    (z_min : PySem.W.nsIn K mainGlobals "min" = some none)
    (z_LAST_HOUR : PySem.W.nsIn K mainGlobals "LAST_HOUR" = some (some (.int 12 t_LAST_HOUR)))
    (z_zip : PySem.W.nsIn K mainGlobals "zip" = some none)
    (z_MOST_FUTURES : PySem.W.nsIn K mainGlobals "MOST_FUTURES" = some (some (.int 2000 t_MOST_FUTURES)))
    (z_dict : PySem.W.nsIn K mainGlobals "dict" = some none)
    (z_ValueError : PySem.W.nsIn K mainGlobals "ValueError" = some none)
    : LamX.LawAtS l w K CX0 7 63 "_law_script" mg fa h := by
  have e := hfa.symm.trans (PySem.W.mg_of X G a22)
  cases e
  have tab := TO "is_word" cT PT rT (tabIn_of a4 l4 rfl cc v11)
  refine ⟨(PySem.W.fnOf "law" "law" (defArgs s_law) (defBody s_law) (defScope s_law) .none kV22 dc22 pm22 an22 cd22 ct22), [(cT, PT)], (spLaw K PT), fun p hp => ?_, fun p hp => ?_, fun p hp => ?_, fun s v => .of_eq rfl, fun H a ns hl _ hT hS => ⟨ns, a, rfl, hS, hl, ⟨#[], hT _ (List.mem_singleton.mpr rfl), trivial⟩, fun _ => rfl⟩, fun base _ _ hTB => ?_⟩
  · rw [List.mem_singleton.mp hp]; exact tab.2
  · rw [List.mem_singleton.mp hp]; exact nP
  · rw [List.mem_singleton.mp hp]; exact tab.1
  · have tq := hTB _ (List.mem_singleton.mpr rfl)
    have tb : GxR.TabB base mg cT PT := ⟨tq.code, tq.bm, tq.gP⟩
    have X_BadMarket : ExcT K mg "BadMarket" C_BadMarket := ⟨PySem.W.mg_of X G xg_BadMarket, xx_BadMarket, xk_BadMarket, xs_BadMarket, xt_BadMarket⟩
    have X_TooMany : ExcT K mg "TooMany" C_TooMany := ⟨PySem.W.mg_of X G xg_TooMany, xx_TooMany, xk_TooMany, xs_TooMany, xt_TooMany⟩
    have X_BadText : ExcT K mg "BadText" C_BadText := ⟨PySem.W.mg_of X G xg_BadText, xx_BadText, xk_BadText, xs_BadText, xt_BadText⟩
    have X_BadContract : ExcT K mg "BadContract" C_BadContract := ⟨PySem.W.mg_of X G xg_BadContract, xx_BadContract, xk_BadContract, xs_BadContract, xt_BadContract⟩
    have ER : Errs K C_TooMany C_TooMany C_BadContract C_BadMarket C_BadText := ⟨e1, ⟨e2, e3, xs_TooMany, e4, e5, e6, e7, e8⟩, e9, e10, e11, e12, e13⟩
    have m_len : mg "len" = none := PySem.W.mg_none_of X G z_len
    have m_int : mg "int" = none := PySem.W.mg_none_of X G z_int
    have m_all : mg "all" = none := PySem.W.mg_none_of X G z_all
    have m_LETTERS := PySem.W.mg_of X G z_LETTERS
    have m_LONGEST_WORD := PySem.W.mg_of X G z_LONGEST_WORD
    have m_isinstance : mg "isinstance" = none := PySem.W.mg_none_of X G z_isinstance
    have m_str : mg "str" = none := PySem.W.mg_none_of X G z_str
    have m_bool : mg "bool" = none := PySem.W.mg_none_of X G z_bool
    have m_TOO_LARGE := PySem.W.mg_of X G z_TOO_LARGE
    have m_set : mg "set" = none := PySem.W.mg_none_of X G z_set
    have m_MOST_WEIGHT := PySem.W.mg_of X G z_MOST_WEIGHT
    have m_tuple : mg "tuple" = none := PySem.W.mg_none_of X G z_tuple
    have m_MOST_STEPS := PySem.W.mg_of X G z_MOST_STEPS
    have m_list : mg "list" = none := PySem.W.mg_none_of X G z_list
    have m_MOST_NAMES := PySem.W.mg_of X G z_MOST_NAMES
    have m_range : mg "range" = none := PySem.W.mg_none_of X G z_range
    have m_max : mg "max" = none := PySem.W.mg_none_of X G z_max
    have m_min : mg "min" = none := PySem.W.mg_none_of X G z_min
    have m_LAST_HOUR := PySem.W.mg_of X G z_LAST_HOUR
    have m_zip : mg "zip" = none := PySem.W.mg_none_of X G z_zip
    have m_MOST_FUTURES := PySem.W.mg_of X G z_MOST_FUTURES
    have m_dict : mg "dict" = none := PySem.W.mg_none_of X G z_dict
    have m_ValueError : mg "ValueError" = none := PySem.W.mg_none_of X G z_ValueError
    have cl_Market : Cls K C_Market := ⟨pg_Market, hd_Market, po_Market, sa_Market⟩
    have O0 : Own K mg "_law_taken" s__law_taken ["_law_s", "_law_most"] f0 _ := ⟨fun_mk (st := s__law_taken) l0 c0 k0, PySem.W.mg_of X G a0, (fun_mk (st := s__law_taken) l0 c0 k0).binds (ps := ["_law_s", "_law_most"]) fun _ _ _ _ _ _ us hl => match us, hl with | [_, _], _ => rfl⟩
    have O1 : Own K mg "_law_word" s__law_word ["_law_s", "_law_k"] f1 _ := ⟨fun_mk (st := s__law_word) l1 c1 k1, PySem.W.mg_of X G a1, (fun_mk (st := s__law_word) l1 c1 k1).binds (ps := ["_law_s", "_law_k"]) fun _ _ _ _ _ _ us hl => match us, hl with | [_, _], _ => rfl⟩
    have O2 : Own K mg "_law_number" s__law_number ["_law_s"] f2 _ := ⟨fun_mk (st := s__law_number) l2 c2 k2, PySem.W.mg_of X G a2, (fun_mk (st := s__law_number) l2 c2 k2).binds (ps := ["_law_s"]) fun _ _ _ _ _ _ us hl => match us, hl with | [_], _ => rfl⟩
    have O3 : Own K mg "_law_begun" s__law_begun ["_law_script"] f3 _ := ⟨fun_mk (st := s__law_begun) l3 c3 k3, PySem.W.mg_of X G a3, (fun_mk (st := s__law_begun) l3 c3 k3).binds (ps := ["_law_script"]) fun _ _ _ _ _ _ us hl => match us, hl with | [_], _ => rfl⟩
    have O4 : OwnC cT K mg "is_word" s_is_word ["told"] f4 _ := OwnC.mk' (st := s_is_word) l4 c4 k4 (PySem.W.mg_of X G a4) (.all fun us hl => match us, hl with | [_], _ => rfl)
    have O5 : Own K mg "is_whole" s_is_whole ["told"] f5 _ := ⟨fun_mk (st := s_is_whole) l5 c5 k5, PySem.W.mg_of X G a5, (fun_mk (st := s_is_whole) l5 c5 k5).binds (ps := ["told"]) fun _ _ _ _ _ _ us hl => match us, hl with | [_], _ => rfl⟩
    have O6 : Own K mg "is_between" s_is_between ["told", "low", "high"] f6 _ := ⟨fun_mk (st := s_is_between) l6 c6 k6, PySem.W.mg_of X G a6, (fun_mk (st := s_is_between) l6 c6 k6).binds (ps := ["told", "low", "high"]) fun _ _ _ _ _ _ us hl => match us, hl with | [_, _, _], _ => rfl⟩
    have O7 : Own K mg "is_amount" s_is_amount ["told"] f7 _ := ⟨fun_mk (st := s_is_amount) l7 c7 k7, PySem.W.mg_of X G a7, (fun_mk (st := s_is_amount) l7 c7 k7).binds (ps := ["told"]) fun _ _ _ _ _ _ us hl => match us, hl with | [_], _ => rfl⟩
    have O8 : Own K mg "_need_steps" s__need_steps ["steps"] f8 _ := ⟨fun_mk (st := s__need_steps) l8 c8 k8, PySem.W.mg_of X G a8, (fun_mk (st := s__need_steps) l8 c8 k8).binds (ps := ["steps"]) fun _ _ _ _ _ _ us hl => match us, hl with | [_], _ => rfl⟩
    have O9 : Own K mg "_need_names" s__need_names ["names"] f9 _ := ⟨fun_mk (st := s__need_names) l9 c9 k9, PySem.W.mg_of X G a9, (fun_mk (st := s__need_names) l9 c9 k9).binds (ps := ["names"]) fun _ _ _ _ _ _ us hl => match us, hl with | [_], _ => rfl⟩
    have O10 : Own K mg "_law_steps" s__law_steps ["_law_s"] f10 _ := ⟨fun_mk (st := s__law_steps) l10 c10 k10, PySem.W.mg_of X G a10, (fun_mk (st := s__law_steps) l10 c10 k10).binds (ps := ["_law_s"]) fun _ _ _ _ _ _ us hl => match us, hl with | [_], _ => rfl⟩
    have O11 : Own K mg "_law_market" s__law_market ["_law_s", "_law_many"] f11 _ := ⟨fun_mk (st := s__law_market) l11 c11 k11, PySem.W.mg_of X G a11, (fun_mk (st := s__law_market) l11 c11 k11).binds (ps := ["_law_s", "_law_many"]) fun _ _ _ _ _ _ us hl => match us, hl with | [_, _], _ => rfl⟩
    have O12 : OwnM K "__init__" "Market.__init__" s_Market ["self", "last", "names"] f12 _ := ⟨fun_mk (st := s_Market) l12 c12 k12, (fun_mk (st := s_Market) l12 c12 k12).binds (ps := ["self", "last", "names"]) fun _ _ _ _ _ _ us hl => match us, hl with | [_, _, _], _ => rfl⟩
    have T12 : ClsT K mg "Market" C_Market f12 := ⟨PySem.W.mg_of X G ca_Market, ⟨mk12, i12, j12, kc12⟩, cl_Market⟩
    have O13 : OwnM K "_first" "Market._first" s_Market__first ["self"] f13 _ := ⟨fun_mk (st := s_Market__first) l13 c13 k13, (fun_mk (st := s_Market__first) l13 c13 k13).binds (ps := ["self"]) fun _ _ _ _ _ _ us hl => match us, hl with | [_], _ => rfl⟩
    have M13 : Meth K C_Market "_first" f13 := ⟨i13, j13, k13⟩
    have O14 : OwnM K "_row" "Market._row" s_Market__row ["self", "numbers"] f14 _ := ⟨fun_mk (st := s_Market__row) l14 c14 k14, (fun_mk (st := s_Market__row) l14 c14 k14).binds (ps := ["self", "numbers"]) fun _ _ _ _ _ _ us hl => match us, hl with | [_, _], _ => rfl⟩
    have M14 : Meth K C_Market "_row" f14 := ⟨i14, j14, k14⟩
    have O15 : OwnM K "_count" "Market._count" s_Market__count ["self"] f15 _ := ⟨fun_mk (st := s_Market__count) l15 c15 k15, (fun_mk (st := s_Market__count) l15 c15 k15).binds (ps := ["self"]) fun _ _ _ _ _ _ us hl => match us, hl with | [_], _ => rfl⟩
    have M15 : Meth K C_Market "_count" f15 := ⟨i15, j15, k15⟩
    have O16 : OwnM K "_moved" "Market._moved" s_Market__moved ["self", "numbers"] f16 _ := ⟨fun_mk (st := s_Market__moved) l16 c16 k16, (fun_mk (st := s_Market__moved) l16 c16 k16).binds (ps := ["self", "numbers"]) fun _ _ _ _ _ _ us hl => match us, hl with | [_, _], _ => rfl⟩
    have M16 : Meth K C_Market "_moved" f16 := ⟨i16, j16, k16⟩
    have O17 : OwnM K "futures" "Market.futures" s_Market_futures ["self"] f17 _ := ⟨fun_mk (st := s_Market_futures) l17 c17 k17, (fun_mk (st := s_Market_futures) l17 c17 k17).binds (ps := ["self"]) fun _ _ _ _ _ _ us hl => match us, hl with | [_], _ => rfl⟩
    have M17 : Meth K C_Market "futures" f17 := ⟨i17, j17, k17⟩
    have O18 : Own K mg "_law_nexts" s__law_nexts ["_law_names", "_law_row"] f18 _ := ⟨fun_mk (st := s__law_nexts) l18 c18 k18, PySem.W.mg_of X G a18, (fun_mk (st := s__law_nexts) l18 c18 k18).binds (ps := ["_law_names", "_law_row"]) fun _ _ _ _ _ _ us hl => match us, hl with | [_, _], _ => rfl⟩
    have O19 : Own K mg "_law_futures" s__law_futures ["_law_market_here"] f19 _ := ⟨fun_mk (st := s__law_futures) l19 c19 k19, PySem.W.mg_of X G a19, (fun_mk (st := s__law_futures) l19 c19 k19).binds (ps := ["_law_market_here"]) fun _ _ _ _ _ _ us hl => match us, hl with | [_], _ => rfl⟩
    have O20 : Own K mg "_law_alike" s__law_alike ["_law_found", "_law_due"] f20 _ := ⟨fun_mk (st := s__law_alike) l20 c20 k20, PySem.W.mg_of X G a20, (fun_mk (st := s__law_alike) l20 c20 k20).binds (ps := ["_law_found", "_law_due"]) fun _ _ _ _ _ _ us hl => match us, hl with | [_, _], _ => rfl⟩
    have O21 : Own K mg "_law_too_many" s__law_too_many ["_law_market_here"] f21 _ := ⟨fun_mk (st := s__law_too_many) l21 c21 k21, PySem.W.mg_of X G a21, (fun_mk (st := s__law_too_many) l21 c21 k21).binds (ps := ["_law_market_here"]) fun _ _ _ _ _ _ us hl => match us, hl with | [_], _ => rfl⟩
    have O22 : Own K mg "law" s_law ["_law_script"] fa _ := ⟨fun_mk (st := s_law) l22 c22 k22, PySem.W.mg_of X G a22, (fun_mk (st := s_law) l22 c22 k22).binds (ps := ["_law_script"]) fun _ _ _ _ _ _ us hl => match us, hl with | [_], _ => rfl⟩
    have H__law_taken := h__law_taken (P := l.prog) (w := w) (mg := mg) (base := base) (k := 0) O0   m_len m_int
    have H__law_word := h__law_word (P := l.prog) (w := w) (mg := mg) (base := base) (k := 0) O1   
    have H__law_number := h__law_number (P := l.prog) (w := w) (mg := mg) (base := base) (k := 1) O2  (H__law_taken.mono (by omega)) 
    have H__law_begun := h__law_begun (P := l.prog) (w := w) (mg := mg) (base := base) (k := 1) O3  (H__law_taken.mono (by omega)) m_int m_len
    have H_is_word := h_is_word (P := l.prog) (w := w) (mg := mg) (base := base) (k := 0) tb O4   m_all m_LETTERS m_len m_LONGEST_WORD m_isinstance m_str
    have H_is_whole := h_is_whole (P := l.prog) (w := w) (mg := mg) (base := base) (k := 0) O5   m_isinstance m_bool m_int
    have H_is_between := h_is_between (P := l.prog) (w := w) (mg := mg) (base := base) (k := 1) O6  (H_is_whole.mono (by omega)) 
    have H_is_amount := h_is_amount (P := l.prog) (w := w) (mg := mg) (base := base) (k := 1) O7  (H_is_whole.mono (by omega)) m_TOO_LARGE
    have H__need_steps := h__need_steps (P := l.prog) (w := w) (mg := mg) (base := base) (k := 2) O8 X_BadMarket (H_is_between.mono (by omega)) (H_is_amount.mono (by omega)) m_len m_set m_MOST_WEIGHT m_isinstance m_tuple m_MOST_STEPS m_list
    have H__need_names := h__need_names (P := l.prog) (w := w) (mg := mg) (base := base) (k := 3) O9 X_BadMarket (H__need_steps.mono (by omega)) (H_is_amount.mono (by omega)) (H_is_word.mono (by omega)) m_len m_set m_isinstance m_tuple m_MOST_NAMES m_list
    have H__law_steps := h__law_steps (P := l.prog) (w := w) (mg := mg) (base := base) (k := 1) O10  (H__law_taken.mono (by omega)) m_range
    have H__law_market := h__law_market (P := l.prog) (w := w) (mg := mg) (base := base) (k := 2) O11  (H__law_taken.mono (by omega)) (H__law_steps.mono (by omega)) (H__law_word.mono (by omega)) (H__law_number.mono (by omega)) m_range m_max m_min
    have H_Market := h_Market (P := l.prog) (w := w) (mg := mg) (base := base) (k := 4) T12 O12 n_Market_last n_Market_names X_BadMarket (H__need_names.mono (by omega)) (H_is_between.mono (by omega)) m_tuple m_LAST_HOUR
    have H_Market__first := h_Market__first (P := l.prog) (w := w) (mg := mg) (base := base) (k := 0) cl_Market M13 O13 n_Market_names  
    have H_Market__row := h_Market__row (P := l.prog) (w := w) (mg := mg) (base := base) (k := 0) cl_Market M14 O14 n_Market_names  m_zip
    have H_Market__count := h_Market__count (P := l.prog) (w := w) (mg := mg) (base := base) (k := 0) cl_Market M15 O15 n_Market_last n_Market_names  m_range m_len
    have H_Market__moved := h_Market__moved (P := l.prog) (w := w) (mg := mg) (base := base) (k := 0) cl_Market M16 O16 n_Market_names  m_zip
    have H_Market_futures := h_Market_futures (P := l.prog) (w := w) (mg := mg) (base := base) (k := 1) cl_Market M17 O17 X_TooMany n_Market_last (H_Market__row.mono (by omega)) (H_Market__moved.mono (by omega)) (H_Market__first.mono (by omega)) (H_Market__count.mono (by omega)) m_range m_MOST_FUTURES
    have H__law_nexts := h__law_nexts (P := l.prog) (w := w) (mg := mg) (base := base) (k := 0) O18   m_dict
    have H__law_futures := h__law_futures (P := l.prog) (w := w) (mg := mg) (base := base) (k := 1) O19  (H__law_nexts.mono (by omega)) m_range
    have R__law_alike : ∀ n : Nat, Has l.prog w K mg base "_law_alike" ["_law_found", "_law_due"] (0 + n) CX0 (spAlk K n) f20 (PySem.W.fnOf "_law_alike" "_law_alike" (defArgs s__law_alike) (defBody s__law_alike) (defScope s__law_alike) .none kV20 dc20 pm20 an20 cd20 ct20) := fun n => by
      induction n with
      | zero => exact O20.has ((none_alk (P := l.prog) (w := w) (mg := mg) (base := base)).mono (Nat.zero_le _))
      | succ n ih => exact h__law_alike (P := l.prog) (w := w) (mg := mg) (base := base) (n := n) (k := 0 + n) O20  ih m_all m_range m_len m_isinstance m_list m_tuple m_dict m_str m_int m_bool
    have H__law_alike := R__law_alike 5
    have H__law_too_many := h__law_too_many (P := l.prog) (w := w) (mg := mg) (base := base) (k := 2) O21 X_TooMany X_BadText X_BadMarket X_BadContract ER cl_Market (H_Market_futures.mono (by omega)) m_isinstance m_ValueError
    have H_law := h_law (P := l.prog) (w := w) (mg := mg) (base := base) (k := 6) O22 X_BadMarket X_TooMany cl_Market (H__law_too_many.mono (by omega)) (H_Market.mono (by omega)) (H_Market_futures.mono (by omega)) (H__law_word.mono (by omega)) (H__law_taken.mono (by omega)) (H__law_alike.mono (by omega)) (H__law_futures.mono (by omega)) (H__law_market.mono (by omega)) (H__law_begun.mono (by omega)) m_len
    exact H_law.G
end Bk
open PySem PySem.W PyProof.Rows
set_option maxHeartbeats 0 in
theorem PySem.Challenge.cw_contractbook_k05_futures_in_order_holds : PySem.Challenge.rw_contractbook_k05_futures_in_order.Holds := by
  w_on; o_law; k_head; (case hw => w_witness2)
  k_fill
  refine Bk.walk_tabs (l := PySem.Challenge.rw_contractbook_k05_futures_in_order) (n := 63) (k := 7) (x := "_law_script") (CX := fun _ => L2.CX0) rfl (by decide) rfl ⟨rfl, by decide, by decide⟩ (fun w h Y => PySem.W.kIn_of Y) ?F (fun _ _ _ _ _ h => h)
  case F =>
    intro w mg fa h KX G hmg TO
    refine' Bk.all_mk KX G hmg TO ?ca_Market ?pg_Market ?hd_Market ?po_Market ?sa_Market ?n_Market_last ?n_Market_names ?a0 ?l0 ?c0 ?k0 ?a1 ?l1 ?c1 ?k1 ?a2 ?l2 ?c2 ?k2 ?a3 ?l3 ?c3 ?k3 ?a4 ?l4 ?c4 ?k4 ?cc ?v11 ?rT ?nP ?a5 ?l5 ?c5 ?k5 ?a6 ?l6 ?c6 ?k6 ?a7 ?l7 ?c7 ?k7 ?a8 ?l8 ?c8 ?k8 ?a9 ?l9 ?c9 ?k9 ?a10 ?l10 ?c10 ?k10 ?a11 ?l11 ?c11 ?k11 ?i12 ?j12 ?l12 ?c12 ?k12 ?mk12 ?kc12 ?i13 ?j13 ?l13 ?c13 ?k13 ?i14 ?j14 ?l14 ?c14 ?k14 ?i15 ?j15 ?l15 ?c15 ?k15 ?i16 ?j16 ?l16 ?c16 ?k16 ?i17 ?j17 ?l17 ?c17 ?k17 ?a18 ?l18 ?c18 ?k18 ?a19 ?l19 ?c19 ?k19 ?a20 ?l20 ?c20 ?k20 ?a21 ?l21 ?c21 ?k21 ?a22 ?l22 ?c22 ?k22 ?xg_BadMarket ?xx_BadMarket ?xk_BadMarket ?xs_BadMarket ?xt_BadMarket ?xg_TooMany ?xx_TooMany ?xk_TooMany ?xs_TooMany ?xt_TooMany ?xg_BadText ?xx_BadText ?xk_BadText ?xs_BadText ?xt_BadText ?xg_BadContract ?xx_BadContract ?xk_BadContract ?xs_BadContract ?xt_BadContract ?e1 ?e2 ?e3 ?e4 ?e5 ?e6 ?e7 ?e8 ?e9 ?e10 ?e11 ?e12 ?e13 ?z_len ?z_int ?z_all ?z_LETTERS ?z_LONGEST_WORD ?z_isinstance ?z_str ?z_bool ?z_TOO_LARGE ?z_set ?z_MOST_WEIGHT ?z_tuple ?z_MOST_STEPS ?z_list ?z_MOST_NAMES ?z_range ?z_max ?z_min ?z_LAST_HOUR ?z_zip ?z_MOST_FUTURES ?z_dict ?z_ValueError
    (case ca_Market => k_is)
    (case pg_Market => k_is)
    (case hd_Market => k_is)
    (case po_Market => k_is)
    (case sa_Market => k_is)
    (case n_Market_last => k_is)
    (case n_Market_names => k_is)
    (case a0 => k_is)
    (case l0 => k_is)
    (case c0 => k_is)
    (case k0 => k_is)
    (case a1 => k_is)
    (case l1 => k_is)
    (case c1 => k_is)
    (case k1 => k_is)
    (case a2 => k_is)
    (case l2 => k_is)
    (case c2 => k_is)
    (case k2 => k_is)
    (case a3 => k_is)
    (case l3 => k_is)
    (case c3 => k_is)
    (case k3 => k_is)
    (case a4 => k_is)
    (case l4 => k_is)
    (case c4 => k_is)
    (case k4 => k_is)
    (case cc => k_is)
    (case v11 => rfl)
    (case rT => kernel_rfl)
    (case nP => kernel_rfl)
    (case a5 => k_is)
    (case l5 => k_is)
    (case c5 => k_is)
    (case k5 => k_is)
    (case a6 => k_is)
    (case l6 => k_is)
    (case c6 => k_is)
    (case k6 => k_is)
    (case a7 => k_is)
    (case l7 => k_is)
    (case c7 => k_is)
    (case k7 => k_is)
    (case a8 => k_is)
    (case l8 => k_is)
    (case c8 => k_is)
    (case k8 => k_is)
    (case a9 => k_is)
    (case l9 => k_is)
    (case c9 => k_is)
    (case k9 => k_is)
    (case a10 => k_is)
    (case l10 => k_is)
    (case c10 => k_is)
    (case k10 => k_is)
    (case a11 => k_is)
    (case l11 => k_is)
    (case c11 => k_is)
    (case k11 => k_is)
    (case i12 => k_is)
    (case j12 => k_is)
    (case l12 => k_is)
    (case c12 => k_is)
    (case k12 => k_is)
    (case mk12 => k_is)
    (case kc12 => k_is)
    (case i13 => k_is)
    (case j13 => k_is)
    (case l13 => k_is)
    (case c13 => k_is)
    (case k13 => k_is)
    (case i14 => k_is)
    (case j14 => k_is)
    (case l14 => k_is)
    (case c14 => k_is)
    (case k14 => k_is)
    (case i15 => k_is)
    (case j15 => k_is)
    (case l15 => k_is)
    (case c15 => k_is)
    (case k15 => k_is)
    (case i16 => k_is)
    (case j16 => k_is)
    (case l16 => k_is)
    (case c16 => k_is)
    (case k16 => k_is)
    (case i17 => k_is)
    (case j17 => k_is)
    (case l17 => k_is)
    (case c17 => k_is)
    (case k17 => k_is)
    (case a18 => k_is)
    (case l18 => k_is)
    (case c18 => k_is)
    (case k18 => k_is)
    (case a19 => k_is)
    (case l19 => k_is)
    (case c19 => k_is)
    (case k19 => k_is)
    (case a20 => k_is)
    (case l20 => k_is)
    (case c20 => k_is)
    (case k20 => k_is)
    (case a21 => k_is)
    (case l21 => k_is)
    (case c21 => k_is)
    (case k21 => k_is)
    (case a22 => k_is)
    (case l22 => k_is)
    (case c22 => k_is)
    (case k22 => k_is)
    (case xg_BadMarket => k_is)
    (case xx_BadMarket => k_exc)
    (case xk_BadMarket => k_is)
    (case xs_BadMarket => k_is)
    (case xt_BadMarket => k_is)
    (case xg_TooMany => k_is)
    (case xx_TooMany => k_exc)
    (case xk_TooMany => k_is)
    (case xs_TooMany => k_is)
    (case xt_TooMany => k_is)
    (case xg_BadText => k_is)
    (case xx_BadText => k_exc)
    (case xk_BadText => k_is)
    (case xs_BadText => k_is)
    (case xt_BadText => k_is)
    (case xg_BadContract => k_is)
    (case xx_BadContract => k_exc)
    (case xk_BadContract => k_is)
    (case xs_BadContract => k_is)
    (case xt_BadContract => k_is)
    (case e1 => kernel_rfl)
    (case e2 => k_is)
    (case e3 => k_is)
    (case e4 => k_is)
    (case e5 => k_is)
    (case e6 => k_is)
    (case e7 => k_is)
    (case e8 => k_is)
    (case e9 => kernel_rfl)
    (case e10 => kernel_rfl)
    (case e11 => kernel_rfl)
    (case e12 => kernel_rfl)
    (case e13 => kernel_rfl)
    (case z_len => k_is)
    (case z_int => k_is)
    (case z_all => k_is)
    (case z_LETTERS => k_is)
    (case z_LONGEST_WORD => k_is)
    (case z_isinstance => k_is)
    (case z_str => k_is)
    (case z_bool => k_is)
    (case z_TOO_LARGE => k_is)
    (case z_set => k_is)
    (case z_MOST_WEIGHT => k_is)
    (case z_tuple => k_is)
    (case z_MOST_STEPS => k_is)
    (case z_list => k_is)
    (case z_MOST_NAMES => k_is)
    (case z_range => k_is)
    (case z_max => k_is)
    (case z_min => k_is)
    (case z_LAST_HOUR => k_is)
    (case z_zip => k_is)
    (case z_MOST_FUTURES => k_is)
    (case z_dict => k_is)
    (case z_ValueError => k_is)
