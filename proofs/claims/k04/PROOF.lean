import PyProof.Rows.All
import Wide.All
import OpenK.AllK
import Wide.FinOn
import HandS.ForMost
import HandS.More
import HandS.DictComp
import HandS.IsInst
import HandS.Wide
import HandS.TupAny
import PyProof.StrOps2
import HandS.AnyAll
import HandS.Text
import HandS.ForExc
import HandS.FStr
import HandS.Small
import HandS.Zip
import HandS.ExcIs
import HandS.EndTab
import KE.KNest
import HandS.Walk
import HandS.Deep
import HandS.HeadHook3
import HandS.Strs
import PySem.Challenge.RW_contractbook_k04_markets_refused
set_option Elab.async false
set_option linter.all false
set_option maxRecDepth 100000
namespace Bk
open PySem PySem.Spec PyProof.Rows L2

/-! ### steps of a reading -/
section steps
variable {D : Ends} {σ : L2.St} {H : Hp} {Q : VK} {v : V}
theorem g_seq {t u : TS} (h : t { D with nx := u D } σ H) : tSeq t u D σ H := h
theorem g_next (h : D.nx σ H) : tNext D σ H := h
theorem g_asg {te : TE} {g : TG} (h : te σ H fun x H1 => g x σ H1 D.nx) : tAsg te g D σ H := h
theorem g_name {i : Nat} {R : L2.St → Hp → Prop} (h : R (σ.set i (some v)) H) : gName i v σ H R := h
theorem g_ret {te : TE} (h : te σ H D.rt) : tRet te D σ H := h
theorem g_drop {te : TE} (h : te σ H fun _ H1 => D.nx σ H1) : tDrop te D σ H := h
theorem g_ifs {c : TT} {t u : TS} (h : c σ H fun b H1 => if b = true then t D σ H1 else u D σ H1) : tIfS c t u D σ H := h
theorem g_if {c : TT} {t u : TE} (h : c σ H fun b H1 => if b = true then t σ H1 Q else u σ H1 Q) : tIf c t u σ H Q := h
theorem g_c (h : Q v H) : tC v σ H Q := h
theorem g_op {r : R2} {ta tb : TE} (h : ta σ H fun x H1 => tb σ H1 fun y H2 => r x y H2 Q) : tOp r ta tb σ H Q := h
theorem g_un {r : V → Hp → VK → Prop} {ta : TE} (h : ta σ H fun x H1 => r x H1 Q) : tUn r ta σ H Q := h
theorem g_neg {g : Int → V} {i : Int} (h : Q (g i) H) : rU g (.int i) H Q := ⟨i, rfl, h⟩
theorem g_I0 {g : Int → Int → V} {i j : Int} (h : Q (g i j) H) : rI0 g (.int i) (.int j) H Q := ⟨i, j, rfl, rfl, h⟩
theorem g_I {C : Int → Int → Prop} {g : Int → Int → V} {i j : Int} (hc : C i j) (h : Q (g i j) H) : rI C g (.int i) (.int j) H Q := ⟨i, j, rfl, rfl, hc, h⟩
theorem dec_int {i j : Int} : decide (V.int i = V.int j) = decide (i = j) := by
  by_cases e : i = j
  · rw [e]; simp
  · rw [decide_eq_false e]
    exact decide_eq_false (fun z => e (V.int.inj z))
theorem dec_str {i j : Str} : decide (V.str i = V.str j) = decide (i = j) := by
  by_cases e : i = j
  · rw [e]; simp
  · rw [decide_eq_false e]
    exact decide_eq_false (fun z => e (V.str.inj z))
theorem dec_bl {i j : Bool} : decide (V.bl i = V.bl j) = decide (i = j) := by
  cases i <;> cases j <;> rfl
theorem g_eqI {i j : Int} (h : Q (.bl (decide (i = j))) H) : rEq (.int i) (.int j) H Q := ⟨rfl, by rw [dec_int]; exact h⟩
theorem g_eqS {i j : Str} (h : Q (.bl (decide (i = j))) H) : rEq (.str i) (.str j) H Q := ⟨rfl, by rw [dec_str]; exact h⟩
theorem g_eqB {i j : Bool} (h : Q (.bl (decide (i = j))) H) : rEq (.bl i) (.bl j) H Q := ⟨rfl, by rw [dec_bl]; exact h⟩
theorem g_neI {i j : Int} (h : Q (.bl (!decide (i = j))) H) : rNe (.int i) (.int j) H Q := ⟨rfl, by rw [dec_int]; exact h⟩
theorem g_neS {i j : Str} (h : Q (.bl (!decide (i = j))) H) : rNe (.str i) (.str j) H Q := ⟨rfl, by rw [dec_str]; exact h⟩
theorem g_neB {i j : Bool} (h : Q (.bl (!decide (i = j))) H) : rNe (.bl i) (.bl j) H Q := ⟨rfl, by rw [dec_bl]; exact h⟩
theorem g_test {te : TE} {R : Bool → Hp → Prop} (h : te σ H fun x H' => ∃ k, x = .bl k ∧ R k H') : tTest te σ H R := h
theorem g_b {te : TE} {R : Bool → Hp → Prop} (h : te σ H fun x H' => ∃ k, x = .bl k ∧ R k H') : tB te σ H R := h
theorem g_and {t u : TT} {R : Bool → Hp → Prop} (h : t σ H fun c H1 => if c = true then u σ H1 R else R false H1) : tAnd t u σ H R := h
theorem g_or {t u : TT} {R : Bool → Hp → Prop} (h : t σ H fun c H1 => if c = true then R true H1 else u σ H1 R) : tOr t u σ H R := h
theorem g_not {t : TT} {R : Bool → Hp → Prop} (h : t σ H fun c H1 => R (!c) H1) : tNot t σ H R := h
theorem g_andV {ta tb : TE} (h : ta σ H fun x H1 => ∃ c, x = .bl c ∧ if c = true then tb σ H1 Q else Q (.bl false) H1) : tAndV ta tb σ H Q := h
theorem g_orV {ta tb : TE} (h : ta σ H fun x H1 => ∃ c, x = .bl c ∧ if c = true then Q (.bl true) H1 else tb σ H1 Q) : tOrV ta tb σ H Q := h
theorem g_notV {ta : TE} (h : ta σ H fun x H1 => ∃ c, x = .bl c ∧ Q (.bl (!c)) H1) : tNotV ta σ H Q := h
theorem g_cons {ta : TE} {tr : TA} {R : List V → Hp → Prop} (h : ta σ H fun x H1 => tr σ H1 fun xs H2 => R (x :: xs) H2) : tCons ta tr σ H R := h
theorem g_chain {r r' : R2} {ta tb tc : TE} (h : ta σ H fun x H1 => tb σ H1 fun y H2 => r x y H2 fun z H3 => ∃ k, z = .bl k ∧ (if k = true then tc σ H3 fun z' H4 => r' y z' H4 Q else Q (.bl false) H3)) : tChain r r' ta tb tc σ H Q := h
theorem g_nil {R : List V → Hp → Prop} (h : R [] H) : tNil σ H R := h
theorem g_call {sp : Sp} {dvs : List V} {E : XK} {t : TA} (h : t σ H fun vs H1 => sp (vs ++ dvs) H1 Q E) : tCall sp dvs E t σ H Q := h
theorem g_cb {r : List V → Hp → VK → Prop} {t : TA} (h : t σ H fun vs H1 => r vs H1 Q) : tCB r t σ H Q := h
theorem g_dget {td ty : TE} (h : td σ H fun x H1 => ty σ H1 fun y H2 => ∃ a v, x = .ref a ∧ DGet H2 a y (some v) ∧ Q v H2) : tDGet td ty σ H Q := h
theorem g_dput {td ty tv : TE} (h : tv σ H fun v H1 => td σ H1 fun x H2 => ty σ H2 fun y H3 => ∃ a H4, x = .ref a ∧ DPut H3 a y v H4 ∧ D.nx σ H4) : sDPut td ty tv D σ H := h
theorem g_tup {t : TA} (h : t σ H fun xs H1 => xs.length ≤ sizeLine ∧ ∀ p, H1 p = none → Q (.ref p) (upd H1 p (.tup xs))) : tTup t σ H Q := h
theorem g_lst {t : TA} (h : t σ H fun xs H1 => xs.length ≤ sizeLine ∧ ∀ p, H1 p = none → Q (.ref p) (upd H1 p (.lst xs))) : tLst t σ H Q := h
theorem g_for {wi : TI} {g : TG} {tb : TS} (h : wi σ H fun J H1 => ∃ W : Nat → Nat → L2.St → Hp → Prop, (∃ m, W 0 m σ H1) ∧ ∀ i m σ H, W i m σ H →
  (J.stop i H ∧ D.nx σ H) ∨ (J.go i H ∧ ∃ N : L2.St → Hp → Prop, (∀ σ' H', N σ' H' → ∃ m', m' < m ∧ W (i + 1) m' σ' H') ∧ ∀ x H', J.yld i H x H' → g x σ H' fun σ2 H2 => tb { D with nx := N, ct := N, bk := D.nx } σ2 H2)) : tFor wi g tb D σ H := h
theorem g_rng1 {ta : TA} {R : It → Hp → Prop} (h : ta σ H fun vs H1 => ∃ j : Int, vs = [.int j] ∧ -(2 ^ 62) ≤ j ∧ j < 2 ^ 62 ∧ R (Itr 0 j.toNat) H1) : iRng1 ta σ H R := h
theorem g_rng2 {ta : TA} {R : It → Hp → Prop} (h : ta σ H fun vs H1 => ∃ i j : Int, vs = [.int i, .int j] ∧ (-(2 ^ 62) ≤ i ∧ i < 2 ^ 62 ∧ -(2 ^ 62) ≤ j ∧ j < 2 ^ 62) ∧ R (Itr i (j - i).toNat) H1) : iRng2 ta σ H R := h
theorem g_ilist {K : PySem.W.Frag} {tl : TE} {R : It → Hp → Prop} (h : tl σ H fun x H1 => ∃ a, x = .ref a ∧ (∃ xs, SqL K H1 a xs) ∧ R (Itl K a) H1) : iList K tl σ H R := h
theorem g_itup {K : PySem.W.Frag} {tl : TE} {R : It → Hp → Prop} (h : tl σ H fun x H1 => ∃ a, x = .ref a ∧ (∃ xs, SqT K H1 a xs) ∧ R (Itt K a) H1) : iTup K tl σ H R := h
theorem g_lc {wi : TI} {g : TG} {tt : TT} {te : TE} {vs : List Nat} (h : wi σ H fun J H1 => ∀ D, H1 D = none → ∃ W : Nat → Nat → Hp → Prop, (∃ m, W 0 m (upd H1 D (.lst []))) ∧ ∀ i m H, W i m H →
  (J.stop i H ∧ Q (.ref D) H) ∨ (J.go i H ∧ ∃ Nx : Hp → Prop, (∀ H', Nx H' → ∃ m', m' < m ∧ W (i + 1) m' H') ∧ ∀ x H', J.yld i H x H' → g x (wipe σ vs) H' fun σ2 H2 => wipe σ2 vs = wipe σ vs ∧ tt σ2 H2 fun b H3 =>
    if b = true then te σ2 H3 fun y H4 => ∃ acc, H4 D = some (.lst acc) ∧ acc.length < sizeLine ∧ Nx (upd H4 D (.lst (acc ++ [y]))) else Nx H3)) : tLc wi g tt te vs σ H Q := h
theorem g_yes {R : Bool → Hp → Prop} (h : R true H) : tYes σ H R := h
theorem g_sl {r : V → Option Int → Option Int → Hp → VK → Prop} {te : TE} {tl th : TO} (h : te σ H fun x H1 => tl σ H1 fun l H2 => th σ H2 fun u H3 => r x l u H3 Q) : tSl r te tl th σ H Q := h
theorem g_nopart {R : Option Int → Hp → Prop} (h : R none H) : tNoPart σ H R := h
theorem g_part {t : TE} {R : Option Int → Hp → Prop} (h : t σ H fun x H1 => ∃ i, x = .int i ∧ R (some i) H1) : tPart t σ H R := h
theorem g_disp {trs : List (TE × TE)} (h : ∀ p, H p = none → tPairs trs σ (upd H p (.dK [])) fun ps H2 => H2 p = some (.dK []) ∧ ∃ kvs : List (Key × V), ps = kvs.map (fun kv => (kV kv.1, kv.2)) ∧ kvs.length ≤ 15 ∧ Q (.ref p) (upd H2 p (.dK (mergeK [] kvs)))) : tDisp trs σ H Q := h
theorem g_pairs0 {R : List (V × V) → Hp → Prop} (h : R [] H) : tPairs [] σ H R := h
theorem g_pairs {tk tv : TE} {r : List (TE × TE)} {R : List (V × V) → Hp → Prop} (h : tk σ H fun x H1 => tv σ H1 fun y H2 => tPairs r σ H2 fun ps H3 => R ((x, y) :: ps) H3) : tPairs ((tk, tv) :: r) σ H R := h
theorem g_gtup {K : PySem.W.Frag} {n : Nat} {t : TGs} {a : Addr} {xs : List V} {R : L2.St → Hp → Prop} (h : SqT K H a xs) (hl : xs.length = n) (q : t xs σ H R) : gTup K n t (.ref a) σ H R := ⟨a, xs, rfl, h, hl, q⟩
theorem g_gcons {t : TG} {u : TGs} {x : V} {r : List V} {R : L2.St → Hp → Prop} (q : t x σ H fun σ' H' => u r σ' H' R) : gCons t u (x :: r) σ H R := ⟨x, r, rfl, q⟩
theorem g_gnil {R : L2.St → Hp → Prop} (q : R σ H) : gNil [] σ H R := ⟨rfl, q⟩
theorem g_isN {x : V} {R : Bool → Hp → Prop} (h : R (decide (x = .non)) H) : ∃ k, V.bl (decide (x = .non)) = .bl k ∧ R k H := ⟨_, rfl, h⟩
theorem g_bm {K : PySem.W.Frag} {T : String} {r : V → List V → Hp → VK → Prop} {to : TE} {t : TA} (h : to σ H fun x H1 => tyV K T x H1 ∧ t σ H1 fun xs H2 => r x xs H2 Q) : tBM K T r to t σ H Q := h
theorem g_bm0 {K : PySem.W.Frag} {T : String} {r : V → List V → Hp → VK → Prop} {to : TE} (h : to σ H fun x H1 => tyV K T x H1 ∧ r x [] H1 Q) : tBM0 K T r to σ H Q := h
theorem ifd {p A B : Prop} [Decidable p] (h1 : p → A) (h2 : ¬ p → B) : if decide p = true then A else B := by
  by_cases h : p
  · rw [if_pos (decide_eq_true h)]; exact h1 h
  · rw [if_neg (by simp [h])]; exact h2 h
theorem ifdn {p A B : Prop} [Decidable p] (h1 : p → B) (h2 : ¬ p → A) : if (!decide p) = true then A else B := by
  by_cases h : p
  · rw [if_neg (by simp [h])]; exact h1 h
  · rw [if_pos (by simp [h])]; exact h2 h
theorem ifn {b : Bool} {A B : Prop} (h1 : b = true → B) (h2 : b = false → A) : if (!b) = true then A else B := by
  cases b
  · exact h2 rfl
  · exact h1 rfl
theorem ifb {b : Bool} {A B : Prop} (h1 : b = true → A) (h2 : b = false → B) : if b = true then A else B := by
  cases b
  · exact h2 rfl
  · exact h1 rfl
theorem iteNF {A B : Prop} (h : A) : if (!false) = true then A else B := h
theorem iteNT {A B : Prop} (h : B) : if (!true) = true then A else B := h
/-- a and b, a or b: the way that two tests may take is read once -/
theorem and_cut {p U F : Prop} [Decidable p] (q : Prop) (hF : ¬ (p ∧ q) → F) (hU : p → (¬ q → F) → U) : if decide p = true then U else F :=
  ifd (fun c => hU c fun z => hF fun y => z y.2) (fun c => hF fun y => c y.1)
theorem or_cut {p U T : Prop} [Decidable p] (q : Prop) (hT : p ∨ q → T) (hU : ¬ p → (q → T) → U) : if decide p = true then T else U :=
  ifd (fun c => hT (.inl c)) (fun c => hU c fun z => hT (.inr z))
/-- a key of a dict that stands at a -/
theorem g_key {a : Addr} {kvs : List (Key × V)} {k : Str} {w : V} {R : V → Prop} (hd : H a = some (.dK kvs)) (hv : valV kvs (.inr k) = some w) (h : R w) :
    ∃ b v, V.ref a = .ref b ∧ DGet H b (.str k) (some v) ∧ R v := ⟨a, w, rfl, .inl ⟨kvs, .inr k, .inl hd, rfl, hv.symm⟩, h⟩
theorem g_put {a : Addr} {kvs kvs' : List (Key × V)} {k : Str} {w : V} {R : Hp → Prop} (hd : H a = some (.dK kvs)) (hl : kvs.length < sizeLine) (hv : putK kvs (.inr k) w = kvs') (h : R (upd H a (.dK kvs'))) :
    ∃ b H4, V.ref a = .ref b ∧ DPut H b (.str k) w H4 ∧ R H4 := ⟨a, _, rfl, .inl ⟨kvs, .inr k, hd, rfl, hl, rfl⟩, by rw [hv]; exact h⟩
end steps

/-! ### what a def of the text is known to keep -/
structure Own (K : PySem.W.Frag) (mg : Str → Option Value) (x : Str) (st : Stmt) (ps : List Str) (f : Addr) (fd : FuncData) : Prop where
  F : Fun K x x st f fd
  g : mg x = some (.ref f)
  b : Binds K fd ps []
structure Has (P : Program) (w : World) (K : PySem.W.Frag) (mg : Str → Option Value) (base : Heap) (x : Str) (ps : List Str) (lv : Nat) (CX : CXT) (sp : Sp) (f : Addr) (fd : FuncData) : Prop where
  G : FnOk P w K mg base CX lv f fd ps sp
  g : mg x = some (.ref f)
  k : PySem.W.keepIn K (.ref f) = true
  b : Binds K fd ps []
theorem Has.mono {P : Program} {w : World} {K : PySem.W.Frag} {mg : Str → Option Value} {base : Heap} {x : Str} {ps : List Str} {j i : Nat} {CX : CXT} {sp : Sp} {f : Addr} {fd : FuncData} (D : Has P w K mg base x ps j CX sp f fd) (h : j ≤ i) :
    Has P w K mg base x ps i CX sp f fd := ⟨D.G.mono h, D.g, D.k, D.b⟩
theorem Own.has {P : Program} {w : World} {K : PySem.W.Frag} {mg : Str → Option Value} {base : Heap} {x : Str} {st : Stmt} {ps : List Str} {f : Addr} {fd : FuncData} {lv : Nat} {CX : CXT} {sp : Sp} (O : Own K mg x st ps f fd)
    (G : FnOk P w K mg base CX lv f fd ps sp) : Has P w K mg base x ps lv CX sp f fd := ⟨G, O.g, O.F.kp, O.b⟩

/-! ### what stays -/
/-- all stays but what stands at s -/
def KB (s : Addr) (H H' : Hp) : Prop := ∀ a o, a ≠ s → H a = some o → H' a = some o
theorem KB.refl (s : Addr) (H : Hp) : KB s H H := fun _ _ _ h => h
theorem KB.trans {s : Addr} {H H1 H2 : Hp} (a : KB s H H1) (b : KB s H1 H2) : KB s H H2 := fun x o n h => b x o n (a x o n h)
theorem KB.of {s : Addr} {H H' : Hp} (e : Same H H') : KB s H H' := fun a o _ h => e a o h
theorem KB.upd {s : Addr} {H : Hp} {o : HO} : KB s H (upd H s o) := fun a u n h => by rw [upd_ne n]; exact h
theorem same_new {H : Hp} {p : Addr} {o : HO} (h : H p = none) : Same H (upd H p o) := fun b x e => by
  rw [upd_ne (ne_of_none e h)]
  exact e
theorem Rd.same {H H' : Hp} {a : Addr} {u : HO} (e : Same H H') (h : Rd H a u) : Rd H' a u := by
  rcases h with h | ⟨o, h⟩
  · exact .inl (e _ _ h)
  · exact .inr ⟨o, e _ _ h⟩
theorem SqT.same {K : PySem.W.Frag} {H H' : Hp} {a : Addr} {xs : List V} (e : Same H H') (h : SqT K H a xs) : SqT K H' a xs := by
  rcases h with h | h
  · exact .inl (Rd.same e h)
  · exact .inr h
theorem sqt {K : PySem.W.Frag} {H : Hp} {a : Addr} {xs : List V} (h : H a = some (.tup xs)) : SqT K H a xs := .inl (.inl h)
theorem sql {K : PySem.W.Frag} {H : Hp} {a : Addr} {xs : List V} (h : H a = some (.lst xs)) : SqL K H a xs := .inl (.inl h)
theorem KB.rd {s : Addr} {H H' : Hp} {a : Addr} {u : HO} {kvs : List (Key × V)} (e : KB s H H') (hs : H s = some (.dK kvs)) (hu : ∀ k, u ≠ .dK k) (h : Rd H a u) : Rd H' a u := by
  rcases h with h | ⟨o, h⟩
  · exact .inl (e _ _ (fun z => by rw [z, hs] at h; exact hu _ (Option.some.inj h).symm) h)
  · exact .inr ⟨o, e _ _ (fun z => by rw [z, hs] at h; cases h) h⟩
theorem KB.seq {K : PySem.W.Frag} {s : Addr} {H H' : Hp} {a : Addr} {xs : List V} {kvs : List (Key × V)} (e : KB s H H') (hs : H s = some (.dK kvs)) (h : SqL K H a xs) : SqL K H' a xs := by
  rcases h with h | h
  · exact .inl (e.rd hs (fun _ z => by cases z) h)
  · exact .inr h
theorem KB.tup {K : PySem.W.Frag} {s : Addr} {H H' : Hp} {a : Addr} {xs : List V} {kvs : List (Key × V)} (e : KB s H H') (hs : H s = some (.dK kvs)) (h : SqT K H a xs) : SqT K H' a xs := by
  rcases h with h | h
  · exact .inl (e.rd hs (fun _ z => by cases z) h)
  · exact .inr h
/-- tuples stay -/
def TM (K : PySem.W.Frag) (H H' : Hp) : Prop := ∀ a xs, SqT K H a xs → SqT K H' a xs
theorem TM.refl {K : PySem.W.Frag} (H : Hp) : TM K H H := fun _ _ h => h
theorem TM.trans {K : PySem.W.Frag} {H H1 H2 : Hp} (a : TM K H H1) (b : TM K H1 H2) : TM K H H2 := fun x y h => b x y (a x y h)
theorem TM.of {K : PySem.W.Frag} {H H' : Hp} (e : Same H H') : TM K H H' := fun _ _ h => SqT.same e h
theorem KB.tm {K : PySem.W.Frag} {s : Addr} {H H' : Hp} {kvs : List (Key × V)} (e : KB s H H') (hs : H s = some (.dK kvs)) : TM K H H' := fun _ _ h => e.tup hs h
theorem sz {n : Nat} (h : n ≤ 1000) : n ≤ sizeLine := Nat.le_of_lt (small1000 h)

theorem at_any {α : Type} {xs : List α} {z : Int} {j : Nat} {v : α} (e : z = (j : Int)) (h : xs[j]? = some v) : atI xs z = some v := by
  rw [e]
  exact atI_nat h

/-! ### a text told n times -/
/-- one sign, n times -/
def rp (c : Nat) (n : Int) : Str := ⟨(List.replicate n.toNat c).toArray⟩
theorem rp_fold (c : Nat) : ∀ (k : Nat) (a : Array Nat), (List.replicate k (#[c] : Array Nat)).foldl (· ++ ·) a = a ++ (List.replicate k c).toArray
  | 0, a => by simp
  | k + 1, a => by
    rw [List.replicate_succ, List.foldl_cons, rp_fold c k, List.replicate_succ]
    apply Array.ext'
    simp
theorem rp_len {c : Nat} {n : Int} : (rp c n).length = n.toNat := by
  show ((List.replicate n.toNat c).toArray).size = n.toNat
  simp
def rRepS : R2 := fun x y H Q => ∃ (c : Nat) (n : Int), x = .str ⟨#[c]⟩ ∧ y = .int n ∧ 0 ≤ n ∧ n ≤ 1000 ∧ Q (.str (rp c n)) H
theorem op_rep_str {X : Cx} : OpR X (binaryOp .Mult) rRepS := by
  intro pins s σ H x y v u Q I rx ry h
  obtain ⟨c, n, rfl, rfl, h0, h1, q⟩ := h
  obtain ⟨t, rfl⟩ := rx
  obtain ⟨t', rfl⟩ := ry
  have hz : (1000 : Nat) ≤ sizeLine := by decide
  refine PySem.P.mul_str (by simp; omega) (fun h2 h3 => ?_) (fun h2 h3 => ?_) ?_
  · have : (1 : Int) ≤ (2 ^ 63 - 1) / n := by
      apply (Int.le_ediv_iff_mul_le (by omega)).mpr
      omega
    show ¬ ((1 : Nat) : Int) > _
    omega
  · show decide _ = false
    refine decide_eq_false ?_
    show ¬ (1 * n.toNat > _)
    have : n.toNat ≤ 1000 := by omega
    omega
  · by_cases h2 : n < 1
    · rw [if_pos h2]
      have e : rp c n = Str.empty := by
        unfold rp
        rw [show n.toNat = 0 by omega]
        rfl
      rw [e] at q
      exact ⟨by decide, ⟨.str Str.empty, H, I.tok _, ⟨_, rfl⟩, q⟩⟩
    · rw [if_neg h2]
      by_cases h3 : n = 1
      · subst h3
        rw [if_pos (by rfl)]
        have e : rp c 1 = ⟨#[c]⟩ := rfl
        rw [e] at q
        exact ⟨.str ⟨#[c]⟩, H, I, ⟨_, rfl⟩, q⟩
      · rw [if_neg (by simp [h3]; intro z; cases z)]
        have e : (⟨(List.replicate n.toNat (#[c] : Array Nat)).foldl (· ++ ·) #[]⟩ : Str) = rp c n := by
          rw [rp_fold]
          simp [rp]
        rw [e]
        refine ⟨?_, ⟨.str (rp c n), H, I.tok _, ⟨_, rfl⟩, q⟩⟩
        rw [rp_len]
        omega
end Bk

set_option Elab.async false
set_option linter.all false
set_option maxRecDepth 100000
set_option maxHeartbeats 2000000
namespace Bk
open PySem PySem.Spec PyProof.Rows L2 GxR
/-! ### all(.. for x in text) where the element reads the module's names -/
/-- an element, with the module's names at hand -/
def Elm (prog : Program) (w : World) (mg : Str → Option Value) (sc : Scope) (x : Str) (elt : Expr) (pb : Nat → Bool) : Prop :=
  ∀ (en : Env) (B : Around) (Er : Value → Shared → Prop) (c : Nat) (t : Tok) (u : Shared) (m : Str → Option Value), en.scope = sc → en.globals = mainGlobals →
    u.heap.Ns mainGlobals mg → u.heap.Ns en.locals m → m x = some (.str ⟨#[c]⟩ t) → wpAny (model prog w) B (eval elt en) (fun y u' => y = .bool (pb c) ∧ Keeps u u') Er u
/-- x in NAME, a text of the module -/
theorem elm_in {prog : Program} {w : World} {mg : Str → Option Value} {sc : Scope} {x n : Str} {z : Str} {tz : Tok} {p1 p2 p3 : Pos} (hk : sc.kind = .function) (hl : sc.names.lookup x = some .local) (hn : sc.names.lookup n = some .globalImplicit)
    (hz : mg n = some (.str z tz)) (dx : (x == ("__debug__" : Str)) = false := by decide) (dn : (n == ("__debug__" : Str)) = false := by decide) :
    Elm prog w mg sc x (.Compare (.Name x p1) [.In] [.Name n p2] p3) (fun c => decide (c ∈ z.cps.toList)) := by
  intro en B Er c t u m es eg hg hloc hm
  refine wpAny_Compare1 (wpAny_Name (wpAny_loadName_local (by rw [es]; exact hk) (show en.scope.names.lookup x = some .local by rw [es]; exact hl) hloc hm ?_) dx)
  refine Calls.Name_function_global (by rw [es]; exact hk) (show en.scope.names.lookup n = some .globalImplicit by rw [es]; exact hn) (Calls.loadGlobal_global (by rw [eg]; exact hg) hz ?_) dn
  exact PyProof.Rows.in_str ⟨congrArg Value.bool (PySem.StrLaws.found_one z c), keeps_tok _ _⟩
/-- the code of a generator expression is found or made: the def's table may grow -/
theorem code_any {prog : Program} {w : World} {A : Around} {Er : Value → Shared → Prop} {env : Env} {c P : Addr} {u : Shared} {ps : Array Value} {sc : Scope} {q : Str} {gpos : Pos} {Q : Value → Shared → Prop}
    (hc : env.code = .ref c) (cd : PySem.W.CodeHd u.heap c P) (hP : u.heap.get? P = some { cls := .none, data := .fields ps }) (ht : TriplesOk ps.toList)
    (h : ∀ (code : Value) (g : Heap) (tk : Nat) (more : Array Value), Heap.ExtBut P u.heap g → u.heap.objs.size ≤ g.objs.size → g.get? P = some { cls := .none, data := .fields (ps ++ more) } → TriplesOk (ps ++ more).toList → Q code { u with heap := g, toks := tk }) :
    wpAny (model prog w) A (genexprCode env gpos q sc) Q Er u := by
  cases hf : codeAmong gpos ps.toList with
  | some cv => exact wpAny_genexprCode_hit hc (cd.code hP ht) hf (h cv u.heap u.toks #[] (Heap.ExtBut.refl _ _) (Nat.le_refl _) (by simpa using hP) (by simpa using ht))
  | none =>
    refine wpAny_genexprCodeX hc (cd.code hP ht) (cd.tab hP) hf fun c' g tk gx gge glt gco _ gtab _ => ?_
    obtain ⟨_, _, _, _, _, _, _, _, _, _, _, _, _, _, _, _, _, _, _, tr, _⟩ := gco
    exact h _ g tk _ gx (Nat.le_trans gge (Nat.le_of_lt glt)) gtab.2 tr
section
variable {X : Cx} {pins : List (Addr × Obj)} {σ : L2.St} {H : Hp} {s : Shared}
theorem gen_text {c P : Addr} {elt iter : Expr} {x : Str} {px gpos : Pos} {sc : Scope} {pb : Nat → Bool} {te : TE} {k : Nat} {W : Value → Shared → Prop} {R : Str → Hp → Prop}
    (hr : Room k X.A) (tb : TabB X.base X.mg c P) (hc : X.env.code = .ref c) (S : GenS X.env sc x) (hi : PE X iter te) (hel : Elm X.prog X.w X.mg sc x elt pb)
    (hs : ∀ v, genFold iter X.env v = pure v) (I : Inv X pins σ H s) (h : te σ H fun v H1 => ∃ a : Str, v = .str a ∧ TabG H1 P ∧ R a H1)
    (hW : ∀ (a : Str) (H1 : Hp) (g : Addr) (u : Shared), R a H1 → Ready X pins σ H1 P a pb g u → W (.ref g) u) :
    wpAny (model X.prog X.w) X.A (eval (.GeneratorExp elt [⟨.Name x px, iter, [], 0⟩] sc gpos) X.env) W X.xe s := by
  refine wpAny_GeneratorExp_walksQ hr.hd S.co (closure_ok S.free) S.cell S.dot S.loc S.kind (by have := hr.dp; omega) (thn (hi.run pins s σ H _ I h) ?_) hs
  rintro xv u ⟨v, H1, I1, r1, a, rfl, ⟨ps, hP, ht⟩, hR⟩
  obtain ⟨t, rfl⟩ := _root_.id r1
  refine wpAny_pyIter_str fun o St Wk st0 => ?_
  have atP : u.heap.get? P = some { cls := .none, data := .fields ps } := I1.hok P _ hP
  have atP2 := Heap.get?_push_of_some o atP
  have free := I1.nolimit
  have free2 := free.push o
  have old : ∀ b v, X.base.get? b = some v → (u.heap.push o).get? b = some v := fun b v e => Heap.get?_push_of_some _ (I1.bk b v e)
  refine ⟨free2, code_any hc (tb.code.keeps old) atP2 ht fun code g tk more gx gge gP gt => ?_⟩
  have hsz : (u.heap.push o).objs.size = u.heap.objs.size + 1 := Heap.size_push ..
  have hg : u.heap.objs.size < g.objs.size := by
    have gge : (u.heap.push o).objs.size ≤ g.objs.size := gge
    omega
  have ltP : P < u.heap.objs.size := Heap.lt_size atP
  have stat : cStatics ≠ P ∧ cStatics < u.heap.objs.size := by
    obtain ⟨_, ns, _⟩ := free
    refine ⟨fun e => ?_, ns.lt⟩
    obtain ⟨ob, es, ep, ho, hd, _⟩ := ns
    rw [e, atP] at ho
    cases ho
    cases hd
  obtain ⟨bm, ob, b1, b2, b3, b4, b5, b6, b7, b8⟩ := tb.bm
  have toG : ∀ b v, b ≠ P → u.heap.get? b = some v → g.get? b = some v := fun b v n e => gx b v n (Heap.get?_push_of_some _ e)
  have names : g.Ns mainGlobals X.mg := ((I1.mod.glob.keeps I1.bk).push o).extBut gx tb.gP
  have notW : ∀ b v, u.heap.get? b = some v → b ≠ u.heap.objs.size := fun b v e => Nat.ne_of_lt (Heap.lt_size e)
  refine wpAny_builtinsFor (m := X.mg) (by rw [I1.ok.glob]; exact names) b1 b2 (toG _ _ b4 (I1.bk _ _ b5)) b6 b7 b8 ?_
  refine ⟨u.heap.objs.size, [u.heap.objs.size], [u.heap.objs.size], a.cps.size, SignAt a, St, fun _ => true, fun i y => ∃ z, a.cps[i]? = some z ∧ y = .bool (pb z), rfl, Wk,
    (Wk X.A hr.hd).frame _ _ _ st0 fun b hb v e => gx b v (fun q => ?_) e, fun b hb => ?_, free2.extBut gx stat.1, fun q => ?_, fun hf hhf => ⟨?_, ?_⟩, ?_⟩
  · rw [List.mem_singleton.mp hb] at q
    exact Nat.ne_of_lt ltP q.symm
  · rw [List.mem_singleton.mp hb]
    exact hg
  · exact Nat.ne_of_lt stat.2 (List.mem_singleton.mp q)
  · intro A' E' i v s2 m2 _ _ _ _ _
    simp only [List.forIn_nil]
    exact wpAny_pure ⟨rfl, keeps_refl _⟩
  · intro A' E' i v s2 m2 _ hv _ hloc hm hk
    obtain ⟨z, tz, hz, rfl⟩ := hv
    have names2 : s2.heap.Ns mainGlobals X.mg := by
      obtain ⟨og, es, ep, e0, rr⟩ := names
      refine ⟨og, es, ep, hk mainGlobals (List.mem_range.mpr (Heap.lt_size e0)) (fun q => ?_) og (hhf _ _ e0), rr⟩
      obtain ⟨o3, _, _, e3, _⟩ := I1.mod.glob
      exact notW _ _ (I1.bk _ _ e3) (List.mem_singleton.mp q)
    refine wpAny_mono (hel _ A' E' z tz s2 m2 rfl I1.ok.glob names2 hloc hm) (fun y s3 r => ⟨⟨z, hz, r.1⟩, r.2⟩) fun _ _ e => e
  · intro q h5 tk5 gs bare ltq sz5 to5 W5 st5
    simp only [GxR.passing_true, List.length_range] at W5
    refine hW a H1 q _ hR ⟨_, _, _, _, _, W5.in4_1, st5, ?_, fun s' hm => ?_⟩
    · intro j y sj Qj Ej hy hQj
      obtain ⟨i, hi, z, hz, rfl⟩ := hy
      obtain ⟨hj, ej⟩ := List.getElem?_eq_some_iff.mp hi
      rw [List.getElem_range] at ej
      subst ej
      have ez : a.cps.toList[j]? = some z := by rw [Array.getElem?_toList]; exact hz
      have q2 : Qj (trF pb a.cps.toList j) sj := hQj
      rw [trF_some ez] at q2
      exact wpAny_truthy_bool q2
    · have out : ∀ b v, u.heap.get? b = some v → b ∉ g.objs.size :: [u.heap.objs.size] := fun b v e hb => by
        have hl := Heap.lt_size e
        rcases List.mem_cons.mp hb with z | z
        · rw [z] at hl
          exact absurd hl (Nat.not_lt.mpr (Nat.le_of_lt hg))
        · exact notW b v e (List.mem_singleton.mp z)
      have J := inv_tab (more := more) (h' := s'.heap) (g' := s'.gens) (d' := s'.drawn) (t' := s'.toks) I1 hP (fun b v n e => hm.heap b v (out b v e) (to5 b v (toG b v n e))) (hm.heap P _ (out P _ atP) (to5 P _ gP)) (AllBare.movedS (I1.bare.push bare) hm)
      rw [sh_eta u s' hm.os] at J
      exact ⟨_, ⟨⟨_, upd_same, gt⟩, fun b n => upd_ne n⟩, J⟩
/-- all(element for x in text) -/
theorem pe_allG {c P : Addr} {elt iter : Expr} {x : Str} {px p pos gpos : Pos} {sc : Scope} {pb : Nat → Bool} {te : TE} {k : Nat}
    (hr : Room k X.A) (gl : Gl X "all") (hm : X.mg "all" = none) (hb : bootBuiltins "all" = some (.builtin "all")) (tb : TabB X.base X.mg c P) (hc : X.env.code = .ref c) (S : GenS X.env sc x) (hi : PE X iter te) (hel : Elm X.prog X.w X.mg sc x elt pb)
    (hs : ∀ v, genFold iter X.env v = pure v)
    (he : starEach [.GeneratorExp elt [⟨.Name x px, iter, [], 0⟩] sc gpos] X.env = (false, eval (.GeneratorExp elt [⟨.Name x px, iter, [], 0⟩] sc gpos) X.env) :: starEach [] X.env := by rfl) :
    PE X (.Call (.Name "all" p) [.GeneratorExp elt [⟨.Name x px, iter, [], 0⟩] sc gpos] [] pos) (tAllS P pb te) := by
  refine ⟨fun pins s σ H Q I h => wpAny_Call_Name_kw (ld_blt (u := .builtin "all") I gl hm hb (PyProof.Rows.callWith_builtin1 ?_ he (by rfl)))⟩
  rw [he]
  refine Calls.spliced_cons (gen_text (R := fun a H1 => ∀ H2, Tabbed P H1 H2 → Q (.bl (a.cps.toList.all pb)) H2) hr tb hc S hi hel hs I h fun a H1 g u hR ⟨fp, wr, G, F, Sw, W, st, tr, hI⟩ => Calls.spliced_nil ?_)
  refine call_all_walkS (W.self 0 _ _ _ st ⟨g, fp, wr, G, _, F, Sw, _, rfl, W, st, tr, fun s' mv => ?_⟩)
  obtain ⟨H2, hT, J⟩ := hI s' mv
  exact ⟨.bl _, H2, J, rfl, by rw [all_signs a pb]; exact hR H2 hT⟩
end
end Bk

set_option Elab.async false
set_option linter.all false
set_option maxRecDepth 100000
set_option maxHeartbeats 2000000
namespace Bk
open PySem PySem.Spec PyProof.Rows L2
/-! ### NAME.get(key): a dict of the module whose keys are texts -/
def tKGet (K : PySem.W.Frag) (d : Addr) (ty : TE) : TE := fun σ H Q => ty σ H fun y H1 => ∃ (z : Str) (r : Option Value) (v : V), y = .str z ∧ PySem.W.nsIn K d z = some r ∧ RelV v (r.getD .none) ∧ Q v H1
theorem pe_kget {X : Cx} {n : Str} {p apos cpos : Pos} {e : Expr} {ty : TE} {d : Addr} {es : Array DictEntry} {c : Nat} (D : KDict X.K X.w d es c) (hg : Gl X n) (hm : X.mg n = some (.ref d)) (he : PE X e ty) (m : M1 X (.Name n p) "get" apos e cpos)
    (dn : (n == ("__debug__" : Str)) = false := by decide) : PE X (.Call (.Attribute (.Name n p) "get" apos) [e] [] cpos) (tKGet X.K d ty) := by
  refine ⟨fun pn u τ G W I h => wpAny_Call_method m.base m.few m.line PySem.F.plainAttrs_dict PySem.F.slot_dict_get PySem.F.type_dict_get (ld_glob I hg hm ?_ dn)⟩
  have M0 := PySem.W.mapOf_K (prog := X.prog) (w := X.w) I.kIn D.at_ D.lit
  refine ⟨M0.typeIs, M0.noDict, ?_⟩
  rw [m.trees]
  refine Calls.callWith_builtin rfl (Calls.evalArgs_plain (Calls.spliced_cons (thn (he.run pn u τ G _ I h) fun uv u1 hh => Calls.spliced_nil ?_)))
  obtain ⟨y, G1, I1, ry, z, r, v, ey, en, rv, q⟩ := hh
  subst ey
  obtain ⟨t, rfl⟩ := ry
  have M1 := PySem.W.mapOf_K (prog := X.prog) (w := X.w) I1.kIn D.at_ D.lit
  refine call_meetsIn PySem.F.slot_dict_get M1.typeIs PySem.F.entry_dict_get (PySem.F.args_dict_get_2 _ _) (meets_dict_get (strKind X.prog X.w) d (PySem.strKind_is X.prog X.w z t) D.low) ⟨_, M1, ?_⟩
  rw [PySem.W.find_K D.at_ en]
  exact ⟨v, G1, I1.tok _, rv, q⟩

/-! ### handed-in data -/
/-- what is told by tuples and lists stays -/
structure DM (K : PySem.W.Frag) (H H' : Hp) : Prop where
  t : ∀ a xs, SqT K H a xs → SqT K H' a xs
  l : ∀ a xs, SqL K H a xs → SqL K H' a xs
theorem DM.refl {K : PySem.W.Frag} (H : Hp) : DM K H H := ⟨fun _ _ h => h, fun _ _ h => h⟩
theorem DM.trans {K : PySem.W.Frag} {H H1 H2 : Hp} (a : DM K H H1) (b : DM K H1 H2) : DM K H H2 := ⟨fun x y h => b.t x y (a.t x y h), fun x y h => b.l x y (a.l x y h)⟩
theorem DM.of {K : PySem.W.Frag} {H H' : Hp} (e : Same H H') : DM K H H' := ⟨fun _ _ h => SqT.same e h, fun _ _ h => e.seq h⟩
theorem DM.tm {K : PySem.W.Frag} {H H' : Hp} (d : DM K H H') : TM K H H' := d.t
theorem KB.dm {K : PySem.W.Frag} {s : Addr} {H H' : Hp} {kvs : List (Key × V)} (e : KB s H H') (hs : H s = some (.dK kvs)) : DM K H H' := ⟨fun _ _ h => e.tup hs h, fun _ _ h => e.seq hs h⟩
mutual
theorem Dp.dm {K : PySem.W.Frag} {H H' : Hp} (m : DM K H H') : ∀ {d : PyData} {v : V}, Dp K H v d → Dp K H' v d
  | .none, _, .non => .non
  | .bool _, _, .bl b => .bl b
  | .int _, _, .int i => .int i
  | .str _, _, .str x => .str x
  | .list _, _, .lst h r => .lst (m.l _ _ h) (DpAll.dm m r)
  | .tuple _, _, .tup h r => .tup (m.t _ _ h) (DpAll.dm m r)
theorem DpAll.dm {K : PySem.W.Frag} {H H' : Hp} (m : DM K H H') : ∀ {ds : List PyData} {vs : List V}, DpAll K H vs ds → DpAll K H' vs ds
  | [], _, .nil => .nil
  | _ :: _, _, .cons h r => .cons (Dp.dm m h) (DpAll.dm m r)
end
theorem DpAll.len {K : PySem.W.Frag} {H : Hp} : ∀ {ds : List PyData} {vs : List V}, DpAll K H vs ds → vs.length = ds.length
  | [], _, .nil => rfl
  | _ :: _, _, .cons _ r => by rw [List.length_cons, List.length_cons, DpAll.len r]
theorem DpAll.at {K : PySem.W.Frag} {H : Hp} : ∀ {ds : List PyData} {vs : List V} {i : Nat} {d : PyData}, DpAll K H vs ds → ds[i]? = some d → ∃ v, vs[i]? = some v ∧ Dp K H v d
  | [], _, i, d, .nil, h => by simp at h
  | e :: ds, v :: vs, 0, d, .cons a r, h => by
    simp only [List.getElem?_cons_zero, Option.some.injEq] at h
    subst h
    exact ⟨v, rfl, a⟩
  | e :: ds, v :: vs, i + 1, d, .cons a r, h => by
    simp only [List.getElem?_cons_succ] at h
    obtain ⟨u, h1, h2⟩ := DpAll.at r h
    exact ⟨u, by simpa using h1, h2⟩
theorem DpAll.app {K : PySem.W.Frag} {H : Hp} : ∀ {ds es : List PyData} {vs us : List V}, DpAll K H vs ds → DpAll K H us es → DpAll K H (vs ++ us) (ds ++ es)
  | [], _, _, _, .nil, s => s
  | _ :: _, _, _, _, .cons a r, s => .cons a (DpAll.app r s)
theorem DpAll.drop {K : PySem.W.Frag} {H : Hp} : ∀ (n : Nat) {ds : List PyData} {vs : List V}, DpAll K H vs ds → DpAll K H (vs.drop n) (ds.drop n)
  | 0, _, _, r => r
  | _ + 1, [], _, .nil => .nil
  | n + 1, _ :: _, _, .cons _ r => DpAll.drop n r
theorem DpAll.take {K : PySem.W.Frag} {H : Hp} : ∀ (n : Nat) {ds : List PyData} {vs : List V}, DpAll K H vs ds → DpAll K H (vs.take n) (ds.take n)
  | 0, _, _, _ => .nil
  | _ + 1, [], _, .nil => .nil
  | n + 1, _ :: _, _, .cons a r => .cons a (DpAll.take n r)
/-- the built-in type's name -/
def tyn : PyData → String
  | .none => "NoneType"
  | .bool _ => "bool"
  | .int _ => "int"
  | .str _ => "str"
  | .list _ => "list"
  | .tuple _ => "tuple"
  | .dict _ => "dict"
theorem ty_of {K : PySem.W.Frag} {H : Hp} {v : V} {d : PyData} (h : Dp K H v d) : TyX K H v (.type (tyn d)) := by
  cases h with
  | non => exact .base .non
  | bl b => exact .base (.bl b)
  | int i => exact .base (.int i)
  | str x => exact .base (.str x)
  | lst a r =>
    rcases a with (a | ⟨o, a⟩) | ⟨o, its, n, a, c, _⟩
    · exact .base (.lst a)
    · exact .base (.frz a)
    · exact .kList a c
  | tup a r =>
    rcases a with (a | ⟨o, a⟩) | ⟨o, its, n, a, c, _⟩
    · exact .base (.tup a)
    · exact .fTuple a
    · exact .kTuple a c
def isStr : PyData → Bool
  | .str _ => true
  | _ => false
def isTup : PyData → Bool
  | .tuple _ => true
  | _ => false
def isLst : PyData → Bool
  | .list _ => true
  | _ => false
def isInt : PyData → Bool
  | .int _ => true
  | .bool _ => true
  | _ => false
def isBool : PyData → Bool
  | .bool _ => true
  | _ => false
section
variable {K : PySem.W.Frag} {H : Hp} {v : V} {d : PyData} {Q : VK}
theorem use_isStr (h : Dp K H v d) (q : Q (.bl (isStr d)) H) : rIsi K [v, .ty "str"] H Q := ⟨v, .ty "str", _, _, isStr d, rfl, .ty _, ty_of h, kit_ty (by cases h with | non => exact (by decide +kernel : kitB "NoneType" "str" = some false) | bl _ => exact (by decide +kernel : kitB "bool" "str" = some false) | int _ => exact (by decide +kernel : kitB "int" "str" = some false) | str _ => exact (by decide +kernel : kitB "str" "str" = some true) | lst _ _ => exact (by decide +kernel : kitB "list" "str" = some false) | tup _ _ => exact (by decide +kernel : kitB "tuple" "str" = some false)), q⟩
theorem use_isTup (h : Dp K H v d) (q : Q (.bl (isTup d)) H) : rIsi K [v, .ty "tuple"] H Q := ⟨v, .ty "tuple", _, _, isTup d, rfl, .ty _, ty_of h, kit_ty (by cases h with | non => exact (by decide +kernel : kitB "NoneType" "tuple" = some false) | bl _ => exact (by decide +kernel : kitB "bool" "tuple" = some false) | int _ => exact (by decide +kernel : kitB "int" "tuple" = some false) | str _ => exact (by decide +kernel : kitB "str" "tuple" = some false) | lst _ _ => exact (by decide +kernel : kitB "list" "tuple" = some false) | tup _ _ => exact (by decide +kernel : kitB "tuple" "tuple" = some true)), q⟩
theorem use_isLst (h : Dp K H v d) (q : Q (.bl (isLst d)) H) : rIsi K [v, .ty "list"] H Q := ⟨v, .ty "list", _, _, isLst d, rfl, .ty _, ty_of h, kit_ty (by cases h with | non => exact (by decide +kernel : kitB "NoneType" "list" = some false) | bl _ => exact (by decide +kernel : kitB "bool" "list" = some false) | int _ => exact (by decide +kernel : kitB "int" "list" = some false) | str _ => exact (by decide +kernel : kitB "str" "list" = some false) | lst _ _ => exact (by decide +kernel : kitB "list" "list" = some true) | tup _ _ => exact (by decide +kernel : kitB "tuple" "list" = some false)), q⟩
theorem use_isInt (h : Dp K H v d) (q : Q (.bl (isInt d)) H) : rIsi K [v, .ty "int"] H Q := ⟨v, .ty "int", _, _, isInt d, rfl, .ty _, ty_of h, kit_ty (by cases h with | non => exact (by decide +kernel : kitB "NoneType" "int" = some false) | bl _ => exact (by decide +kernel : kitB "bool" "int" = some true) | int _ => exact (by decide +kernel : kitB "int" "int" = some true) | str _ => exact (by decide +kernel : kitB "str" "int" = some false) | lst _ _ => exact (by decide +kernel : kitB "list" "int" = some false) | tup _ _ => exact (by decide +kernel : kitB "tuple" "int" = some false)), q⟩
theorem use_isBool (h : Dp K H v d) (q : Q (.bl (isBool d)) H) : rIsi K [v, .ty "bool"] H Q := ⟨v, .ty "bool", _, _, isBool d, rfl, .ty _, ty_of h, kit_ty (by cases h with | non => exact (by decide +kernel : kitB "NoneType" "bool" = some false) | bl _ => exact (by decide +kernel : kitB "bool" "bool" = some true) | int _ => exact (by decide +kernel : kitB "int" "bool" = some false) | str _ => exact (by decide +kernel : kitB "str" "bool" = some false) | lst _ _ => exact (by decide +kernel : kitB "list" "bool" = some false) | tup _ _ => exact (by decide +kernel : kitB "tuple" "bool" = some false)), q⟩
end
/-- all stays but a def's table at P, which may grow -/
structure Tb (P : Addr) (H H' : Hp) : Prop where
  g : GxR.TabG H' P
  k : ∀ a o, a ≠ P → H a = some o → H' a = some o
theorem Tb.refl {P : Addr} {H : Hp} (g : GxR.TabG H P) : Tb P H H := ⟨g, fun _ _ _ h => h⟩
theorem Tb.trans {P : Addr} {H H1 H2 : Hp} (a : Tb P H H1) (b : Tb P H1 H2) : Tb P H H2 := ⟨b.g, fun x o n h => b.k x o n (a.k x o n h)⟩
theorem tab_same {P : Addr} {H H' : Hp} (g : GxR.TabG H P) (e : Same H H') : GxR.TabG H' P := by
  obtain ⟨ps, h, t⟩ := g
  exact ⟨ps, e _ _ h, t⟩
theorem Tb.of {P : Addr} {H H' : Hp} (g : GxR.TabG H P) (e : Same H H') : Tb P H H' := ⟨tab_same g e, fun _ _ _ h => e _ _ h⟩
theorem Tb.grown {P : Addr} {H H' : Hp} (t : GxR.Tabbed P H H') : Tb P H H' := ⟨t.1, fun a o n h => by rw [t.2 a n]; exact h⟩
theorem Tb.rd {P : Addr} {H H' : Hp} {a : Addr} {u : HO} (g : GxR.TabG H P) (t : Tb P H H') (hu : ∀ ps, u ≠ .tbl ps) (h : Rd H a u) : Rd H' a u := by
  obtain ⟨ps, e, _⟩ := g
  rcases h with h | ⟨o, h⟩
  · exact .inl (t.k _ _ (fun z => by rw [z, e] at h; exact hu _ (Option.some.inj h).symm) h)
  · exact .inr ⟨o, t.k _ _ (fun z => by rw [z, e] at h; cases h) h⟩
theorem Tb.dm {K : PySem.W.Frag} {P : Addr} {H H' : Hp} (g : GxR.TabG H P) (t : Tb P H H') : DM K H H' := by
  refine ⟨fun a xs h => ?_, fun a xs h => ?_⟩
  · rcases h with h | h
    · exact .inl (t.rd g (fun _ z => by cases z) h)
    · exact .inr h
  · rcases h with h | h
    · exact .inl (t.rd g (fun _ z => by cases z) h)
    · exact .inr h
theorem tab_kb {P s : Addr} {H H' : Hp} {kvs : List (Key × V)} (g : GxR.TabG H P) (e : KB s H H') (hs : H s = some (.dK kvs)) : GxR.TabG H' P := by
  obtain ⟨ps, h, t⟩ := g
  exact ⟨ps, e _ _ (fun z => by rw [z, hs] at h; cases h) h, t⟩
/-! ### sizes -/
mutual
def szOk : PyData → Bool
  | .str x => decide (x.length ≤ 1000)
  | .list xs => szAll xs
  | .tuple xs => szAll xs
  | _ => true
def szAll : List PyData → Bool
  | [] => true
  | d :: ds => szOk d && szAll ds
end
theorem szAll_at : ∀ {ds : List PyData} {i : Nat} {d : PyData}, szAll ds = true → ds[i]? = some d → szOk d = true
  | [], i, d, _, h => by simp at h
  | e :: ds, 0, d, h, q => by
    simp only [List.getElem?_cons_zero, Option.some.injEq] at q
    subst q
    unfold szAll at h
    exact (Bool.and_eq_true_iff.mp h).1
  | e :: ds, i + 1, d, h, q => by
    simp only [List.getElem?_cons_succ] at q
    unfold szAll at h
    exact szAll_at (Bool.and_eq_true_iff.mp h).2 q
end Bk

set_option Elab.async false
set_option linter.all false
set_option maxRecDepth 100000
set_option maxHeartbeats 2000000
namespace Bk
open PySem PySem.Spec PyProof.Rows L2
/-! ### the forms -/
abbrev Forms := List (Str × List Str)
def numForms : Forms := [("num", ["amount"]), ("read", ["name"]), ("plus", ["number", "number"]), ("minus", ["number", "number"]), ("times", ["number", "number"]), ("most", ["number", "number"]), ("least", ["number", "number"])]
def condForms : Forms := [("below", ["number", "number"]), ("not", ["condition"]), ("all", ["condition", "condition"]), ("any", ["condition", "condition"])]
def ctrForms : Forms := [("none", []), ("give", ["side", "side", "good", "number"]), ("both", ["contract", "contract"]), ("turned", ["side", "side", "contract"]), ("later", ["wait", "contract"]), ("often", ["times", "gap", "contract"]),
  ("if", ["condition", "contract", "contract"]), ("when", ["condition", "contract"]), ("until", ["condition", "contract"])]
def strsAre : List Value → List Str → Bool
  | [], [] => true
  | .str x _ :: r, y :: s => decide (x = y) && strsAre r s
  | _, _ => false
theorem strsAre_vals : ∀ {us : List Value} {ks : List Str}, strsAre us ks = true → Vals (ks.map V.str) us
  | [], [], _ => .nil
  | .str x t :: r, y :: s, h => by
    have h' : (decide (x = y) && strsAre r s) = true := h
    rw [Bool.and_eq_true] at h'
    have e := of_decide_eq_true h'.1
    subst e
    exact .cons ⟨t, rfl⟩ (strsAre_vals h'.2)
def tupOk (K : PySem.W.Frag) (a : Addr) (ks : List Str) : Bool := match K.lookup a with
  | some ⟨.type c, _, .seq its _, _⟩ => decide (c = "tuple") && (decide (its.size ≤ 100) && strsAre its.toList ks)
  | _ => false
theorem tupOk_sq {K : PySem.W.Frag} {a : Addr} {ks : List Str} (h : tupOk K a ks = true) (H : Hp) : SqT K H a (ks.map V.str) := by
  unfold tupOk at h
  split at h
  · rename_i c dd its n sl e
    simp only [Bool.and_eq_true, decide_eq_true_eq] at h
    obtain ⟨h1, h2, h3⟩ := h
    subst h1
    exact .inr ⟨_, its, n, e, rfl, rfl, Nat.le_trans h2 (by decide), strsAre_vals h3⟩
  · cases h
def rowOk (K : PySem.W.Frag) (e : DictEntry) (p : Str × List Str) : Bool := match e.key, e.val with
  | .str x _, .ref a => decide (x = p.1) && tupOk K a p.2
  | _, _ => false
def rowsOk (K : PySem.W.Frag) : List DictEntry → Forms → Bool
  | [], [] => true
  | e :: r, p :: s => rowOk K e p && rowsOk K r s
  | _, _ => false
def formOf (L : Forms) (z : Str) : Option (List Str) := match L with
  | [] => none
  | p :: s => if p.1 = z then some p.2 else formOf s z
theorem rowsOk_find {K : PySem.W.Frag} {z : Str} : ∀ {es : List DictEntry} {L : Forms}, rowsOk K es L = true →
    match formOf L z with
    | none => es.find? (fun e => e.key.isStr z) = none
    | some ks => ∃ e a, es.find? (fun e => e.key.isStr z) = some e ∧ e.val = .ref a ∧ tupOk K a ks = true
  | [], [], _ => rfl
  | e :: r, p :: s, h => by
    have h' : (rowOk K e p && rowsOk K r s) = true := h
    rw [Bool.and_eq_true] at h'
    obtain ⟨h1, h2⟩ := h'
    have ih := rowsOk_find (z := z) h2
    unfold rowOk at h1
    split at h1
    · rename_i x t a ek ev
      rw [Bool.and_eq_true, decide_eq_true_eq] at h1
      obtain ⟨e1, e2⟩ := h1
      by_cases c : p.1 = z
      · have e3 : e.key.isStr z = true := by rw [ek, PySem.W.isStr_of, e1, c]; simp [Value.isStrOf]
        unfold formOf
        rw [if_pos c]
        exact ⟨e, a, by rw [List.find?_cons, e3], ev, e2⟩
      · have e3 : e.key.isStr z = false := by
          rw [ek, PySem.W.isStr_of, e1]
          simp only [Value.isStrOf]
          simpa using c
        unfold formOf
        rw [if_neg c, List.find?_cons, e3]
        exact ih
    · cases h1
def tabOk (K : PySem.W.Frag) (d : Addr) (L : Forms) : Bool := match K.lookup d with
  | some ⟨_, _, .dict es _, _⟩ => !(es.toList.any (·.refKey)) && rowsOk K es.toList L
  | _ => false
theorem tabOk_ns {K : PySem.W.Frag} {d : Addr} {L : Forms} (h : tabOk K d L = true) (z : Str) :
    match formOf L z with
    | none => PySem.W.nsIn K d z = some none
    | some ks => ∃ a, PySem.W.nsIn K d z = some (some (.ref a)) ∧ ∀ H, SqT K H a (ks.map V.str) := by
  unfold tabOk at h
  split at h
  · rename_i c dd es n sl e
    rw [Bool.and_eq_true] at h
    have q := rowsOk_find (z := z) h.2
    have r : es.toList.any (·.refKey) = false := by simpa using h.1
    unfold PySem.W.nsIn
    rw [e]
    cases hf : formOf L z with
    | none =>
      rw [hf] at q
      dsimp only at q ⊢
      rw [q, r]
      rfl
    | some ks =>
      rw [hf] at q
      obtain ⟨en, a, q1, q2, q3⟩ := q
      dsimp only
      rw [q1]
      dsimp only
      exact ⟨a, by rw [q2], tupOk_sq q3⟩
  · cases h
/-- a dict of the module that tells the forms of a kind -/
structure FTab (K : PySem.W.Frag) (w : World) (mg : Str → Option Value) (n : Str) (L : Forms) (d : Addr) : Prop where
  g : mg n = some (.ref d)
  kd : ∃ es c, KDict K w d es c
  ok : tabOk K d L = true
/-! ### what a contract is -/
def kindsOf (kind w : Str) : Option (List Str) := if kind = "contract" then formOf ctrForms w else if kind = "condition" then formOf condForms w else formOf numForms w
def isDeep (k : Str) : Bool := decide (k = "contract") || (decide (k = "condition") || decide (k = "number"))
def isW' : PyData → Bool
  | .str x => decide (1 ≤ x.length) && (decide (x.length ≤ 8) && x.cps.toList.all fun c => decide (97 ≤ c) && decide (c ≤ 122))
  | _ => false
def inB (lo hi : Int) : PyData → Bool
  | .int i => decide (lo ≤ i) && decide (i ≤ hi)
  | _ => false
def plainOk (k : Str) (d : PyData) : Bool :=
  if k = "amount" then inB (-999999999999) 999999999999 d else if k = "wait" then inB 0 99 d else if k = "times" then inB 1 9 d else if k = "gap" then inB 1 99 d else isW' d
def sameSides : List PyData → Bool
  | .str a :: .str b :: _ => decide (a = b)
  | _ => false
def twoSides (ks : List Str) : Bool := decide (ks.take 2 = [("side" : Str), ("side" : Str)])
/-- a contract, condition or number (by its kind) of at most so many levels -/
def wf : Nat → Str → PyData → Bool
  | 0, _, _ => false
  | n + 1, kind, .tuple (.str w :: ds) => match kindsOf kind w with
    | none => false
    | some ks => decide (ks.length = ds.length) && ((List.zip ks ds).all (fun p => if isDeep p.1 = true then wf n p.1 p.2 else plainOk p.1 p.2) && !(twoSides ks && sameSides ds))
  | _ + 1, _, _ => false
theorem wf_tup {n : Nat} {kind w : Str} {ds : List PyData} : wf (n + 1) kind (.tuple (.str w :: ds)) = match kindsOf kind w with
    | none => false
    | some ks => decide (ks.length = ds.length) && ((List.zip ks ds).all (fun p => if isDeep p.1 = true then wf n p.1 p.2 else plainOk p.1 p.2) && !(twoSides ks && sameSides ds)) := rfl
theorem wf_not {n : Nat} {kind : Str} {d : PyData} (h : ∀ w ds, d ≠ .tuple (.str w :: ds)) : wf n kind d = false := by
  cases n with
  | zero => rfl
  | succ n =>
    cases d with
    | tuple ds =>
      cases ds with
      | nil => rfl
      | cons x r =>
        cases x with
        | str w => exact absurd rfl (h w r)
        | _ => rfl
    | _ => rfl
end Bk

set_option Elab.async false
set_option linter.all false
set_option maxRecDepth 100000
set_option maxHeartbeats 2000000
namespace Bk
open PySem PySem.Spec PyProof.Rows L2
/-! ### a def whose code object is known -/
structure FunC (c : Addr) (K : PySem.W.Frag) (x : Str) (st : Stmt) (f : Addr) (fd : FuncData) : Prop where
  ex : ∃ (oc : Value) (od : Option Addr) (kV doc pm : Value) (an : Option Addr) (ct : Value) (osl : Array (Option Value)),
    fd = PySem.W.fnOf x x (defArgs st) (defBody st) (defScope st) .none kV doc pm an (.ref c) ct ∧ K.lookup f = some ⟨oc, od, .func fd, osl⟩ ∧ PySem.W.codeIn K (.ref c) x = true
  kp : PySem.W.keepIn K (.ref f) = true
theorem FunC.ok {c : Addr} {P : Program} {w : World} {K : PySem.W.Frag} {mg : Str → Option Value} {base : Heap} {x : Str} {st : Stmt} {f : Addr} {fd : FuncData} {N ps : List Str} {k : Nat} {sp : Sp} (F : FunC c K x st f fd) (S : FnScope N ps (defScope st))
    (len : ∀ vs H Q E, sp vs H Q E → vs.length = ps.length)
    (hb : ∀ (A : Around) (outer : List Env) (s : Shared) (H : Hp) (vs : List V) (Q : VK) (E : XK), Room k (A.deeper (envOfC x (defScope st) s.heap.objs.size f (.ref c))) → sp vs H Q E →
      ∃ t, PSs (cxOf CX0 P w K mg base N x (defScope st) f (.ref c) A outer s H E).nox (defBody st) t ∧ t { nx := fun _ H' => Q .non H', rt := Q } (start N vs) H) : FnOk P w K mg base CX0 (k + 1) f fd ps sp := by
  obtain ⟨oc, od, kV, doc, pm, an, ct, osl, rfl, lk, hcd⟩ := F.ex
  refine fn_of lk hcd S len fun A outer s H vs Q E hr hsp => ?_
  obtain ⟨t, h, q⟩ := hb A outer s H vs Q E hr hsp
  exact ⟨t, h.nox, q⟩
structure OwnC (c : Addr) (K : PySem.W.Frag) (mg : Str → Option Value) (x : Str) (st : Stmt) (ps : List Str) (f : Addr) (fd : FuncData) : Prop where
  F : FunC c K x st f fd
  g : mg x = some (.ref f)
  b : Binds K fd ps []
theorem OwnC.has {c : Addr} {P : Program} {w : World} {K : PySem.W.Frag} {mg : Str → Option Value} {base : Heap} {x : Str} {st : Stmt} {ps : List Str} {f : Addr} {fd : FuncData} {lv : Nat} {CX : CXT} {sp : Sp} (O : OwnC c K mg x st ps f fd)
    (G : FnOk P w K mg base CX lv f fd ps sp) : Has P w K mg base x ps lv CX sp f fd := ⟨G, O.g, O.F.kp, O.b⟩
theorem OwnC.mk' {c : Addr} {K : PySem.W.Frag} {mg : Str → Option Value} {x : Str} {st : Stmt} {ps : List Str} {f : Addr} {oc : Value} {od an : Option Addr} {osl : Array (Option Value)} {kV doc pm ct : Value}
    (l : K.lookup f = some ⟨oc, od, .func (PySem.W.fnOf x x (defArgs st) (defBody st) (defScope st) .none kV doc pm an (.ref c) ct), osl⟩) (hc : PySem.W.codeIn K (.ref c) x = true) (kp : PySem.W.keepIn K (.ref f) = true) (g : mg x = some (.ref f))
    (b : Binds K (PySem.W.fnOf x x (defArgs st) (defBody st) (defScope st) .none kV doc pm an (.ref c) ct) ps []) : OwnC c K mg x st ps f (PySem.W.fnOf x x (defArgs st) (defBody st) (defScope st) .none kV doc pm an (.ref c) ct) :=
  ⟨⟨⟨oc, od, kV, doc, pm, an, ct, osl, rfl, l, hc⟩, kp⟩, g, b⟩
/-! ### the package's errors -/
structure ExcT (K : PySem.W.Frag) (mg : Str → Option Value) (x : Str) (C : Addr) : Prop where
  g : mg x = some (.ref C)
  x : PySem.W.excIn K C [.type "ValueError", .type "Exception", .type "BaseException", .type "object"] "ValueError.__new__" = true
  k : PySem.W.keepIn K (.ref C) = true
  s : PySem.W.subIn K (.ref C) (.type "BaseException") = some true
  t : PySem.W.typeIn K (.ref C) = some (.type "type")
/-- isinstance(e, c) in a suite: the reading asks of what class e is -/
def rIsX (K : PySem.W.Frag) (a : Addr) (cls : Value) (d : Option Addr) : List V → Hp → VK → Prop := fun xs H Q => ∃ D, cls = .ref D ∧ d = none ∧ ExcC K D ∧ rIsE K D a xs H Q
theorem call_isX {X : Cx} {a : Addr} {cls : Value} {d : Option Addr} {oe : Obj} {pn : List (Addr × Obj)} (hz : Zc cls d oe) (hf : ∃ vs, oe.data = .fields vs) : CallR (X.suite a ((a, oe) :: pn)) (.builtin "isinstance") (rIsX X.K a cls d) := by
  intro pins s τ G xs us W I r h
  obtain ⟨D, rfl, rfl, C, h⟩ := h
  exact call_isE C hz hf pins s τ G xs us W I r h
/-! ### a raised text -/
theorem str_app_len (a b : Str) : (a ++ b).length = a.length + b.length := by
  show (a.cps ++ b.cps).size = a.cps.size + b.cps.size
  simp
theorem five_k : (5000 : Nat) ≤ sizeLine := by decide
section
variable {σ : L2.St} {H : Hp} {R : List V → Hp → Prop} {a b x : Str} {i : Nat}
theorem fs3 (hx : σ[i]? = some (some (.str x))) (lx : x.length ≤ 1000) (la : a.length ≤ 1000) (lb : b.length ≤ 1000) (h : ∀ z, R [.str z] H) :
    tCons (fun σ H Q => tJs [tC (.str a), tFmt (tVar i), tC (.str b)] Str.empty σ H fun out H1 => Q (.str out) H1) tNil σ H R := by
  have e0 : (Str.empty : Str).length = 0 := rfl
  have z := five_k
  refine ⟨a, rfl, by rw [str_app_len]; omega, _, hx, .inl ⟨x, rfl, by omega, x, rfl, by rw [str_app_len, str_app_len]; omega, b, rfl, by rw [str_app_len, str_app_len, str_app_len]; omega, h _⟩⟩
theorem fs2 (hx : σ[i]? = some (some (.str x))) (lx : x.length ≤ 1000) (la : a.length ≤ 1000) (h : ∀ z, R [.str z] H) :
    tCons (fun σ H Q => tJs [tC (.str a), tFmt (tVar i)] Str.empty σ H fun out H1 => Q (.str out) H1) tNil σ H R := by
  have e0 : (Str.empty : Str).length = 0 := rfl
  have z := five_k
  refine ⟨a, rfl, by rw [str_app_len]; omega, _, hx, .inl ⟨x, rfl, by omega, x, rfl, by rw [str_app_len, str_app_len]; omega, h _⟩⟩
end
theorem inDeep (k : Str) : inV (.str k) [.str "contract", .str "condition", .str "number"] = isDeep k := by
  have e : ∀ a b : Str, (a == b) = decide (b = a) := fun a b => by
    by_cases c : a = b
    · subst c; simp
    · rw [decide_eq_false (fun z => c z.symm)]
      simpa using c
  simp only [inV, List.any_cons, List.any_nil, eqV, isDeep, e, Bool.or_false]
theorem cut1 (x : V) (xs : List V) : cutV (x :: xs) (some 1) none = xs := by
  have e : HT.sIx (xs.length + 1) 0 (some 1) = 1 := by
    have q := HT.sIx_nat (xs.length + 1) 0 1
    refine q.trans ?_
    omega
  unfold cutV
  rw [List.length_cons, HT.sIx_none, e]
  simp
theorem not_whole1 (x : V) (xs : List V) : ¬ (HT.sIx (x :: xs).length 0 (some 1) = 0 ∧ HT.sIx (x :: xs).length (x :: xs).length none = (x :: xs).length) := by
  rintro ⟨h, _⟩
  have e : HT.sIx (xs.length + 1) 0 (some 1) = 1 := by
    have q := HT.sIx_nat (xs.length + 1) 0 1
    refine q.trans ?_
    omega
  rw [List.length_cons, e] at h
  cases h
theorem formOf_mem {z : Str} {ks : List Str} : ∀ {L : Forms}, formOf L z = some ks → ∃ p ∈ L, p.2 = ks
  | [], h => by cases h
  | p :: s, h => by
    unfold formOf at h
    split at h
    · exact ⟨p, List.mem_cons_self, Option.some.inj h⟩
    · obtain ⟨q, hq, e⟩ := formOf_mem h
      exact ⟨q, List.mem_cons_of_mem _ hq, e⟩
def allKinds : List (List Str) := (ctrForms ++ condForms ++ numForms).map (·.2)
theorem kinds_mem {kind z : Str} {ks : List Str} (h : kindsOf kind z = some ks) : ks ∈ allKinds := by
  unfold kindsOf at h
  unfold allKinds
  rw [List.mem_map]
  split at h
  · obtain ⟨p, hp, e⟩ := formOf_mem h
    exact ⟨p, List.mem_append_left _ (List.mem_append_left _ hp), e⟩
  · split at h
    · obtain ⟨p, hp, e⟩ := formOf_mem h
      exact ⟨p, List.mem_append_left _ (List.mem_append_right _ hp), e⟩
    · obtain ⟨p, hp, e⟩ := formOf_mem h
      exact ⟨p, List.mem_append_right _ hp, e⟩
theorem kinds_short : ∀ ks ∈ allKinds, ∀ k ∈ ks, k.length ≤ 100 := by decide +kernel
theorem kinds_two : ∀ ks ∈ allKinds, twoSides ks = true → ∃ s, ks = ("side" : Str) :: ("side" : Str) :: s := by
  intro ks h e
  unfold twoSides at e
  have e := of_decide_eq_true e
  cases ks with
  | nil => cases e
  | cons x r =>
    cases r with
    | nil => cases e
    | cons y s =>
      injection e with e1 e2
      injection e2 with e2 e3
      exact ⟨s, by rw [e1, e2]⟩
/-- the parts, so far -/
def partOk (n : Nat) (p : Str × PyData) : Bool := if isDeep p.1 = true then wf n p.1 p.2 else plainOk p.1 p.2
theorem zip_at {ks : List Str} {ds : List PyData} {i : Nat} {k : Str} {d : PyData} (h1 : ks[i]? = some k) (h2 : ds[i]? = some d) : (List.zip ks ds)[i]? = some (k, d) := by
  rw [List.getElem?_zip_eq_some]
  exact ⟨h1, h2⟩
theorem all_not {α : Type} {f : α → Bool} {l : List α} {i : Nat} {x : α} (h : l[i]? = some x) (e : f x = false) : l.all f = false := by
  rw [Bool.eq_false_iff]
  intro z
  have := List.all_eq_true.mp z x (List.mem_of_getElem? h)
  rw [e] at this
  cases this
theorem take_all {α : Type} {f : α → Bool} {l : List α} {i : Nat} {x : α} (h : l[i]? = some x) (e : f x = true) (q : (l.take i).all f = true) : (l.take (i + 1)).all f = true := by
  have hi : i < l.length := (List.getElem?_eq_some_iff.mp h).1
  have hx : l[i] = x := (List.getElem?_eq_some_iff.mp h).2
  rw [List.take_succ_eq_append_getElem hi, List.all_append, q, hx]
  simp [e]
theorem g_zipA {K : PySem.W.Frag} {ta : TA} {σ : L2.St} {H : Hp} {R : It → Hp → Prop} (h : ta σ H fun vs H1 => ∃ a b xs ys, vs = [.ref a, .ref b] ∧ ((SqL K H1 a xs ∧ SqL K H1 b ys ∧ R (Itz K a b) H1) ∨ (SqT K H1 a xs ∧ SqT K H1 b ys ∧ R (RZ.ItzT K a b) H1))) : RZ.iZipA K ta σ H R := h
theorem wf_tup' {n : Nat} {kind w : Str} {ds : List PyData} : wf (n + 1) kind (.tuple (.str w :: ds)) = match kindsOf kind w with
    | none => false
    | some ks => decide (ks.length = ds.length) && ((List.zip ks ds).all (partOk n) && !(twoSides ks && sameSides ds)) := rfl
theorem two_shaped : ∀ ks ∈ allKinds, SeqAt.shaped (.tuple ((ks.take 2).map PyData.str)) = true := by decide +kernel
theorem two_eqv : ∀ ks ∈ allKinds, PyData.eqv (.tuple ((ks.take 2).map PyData.str)) (.tuple [.str "side", .str "side"]) = twoSides ks := by decide +kernel
theorem dpStrs {K : PySem.W.Frag} {H : Hp} : ∀ ks : List Str, DpAll K H (ks.map V.str) (ks.map PyData.str)
  | [] => .nil
  | k :: ks => .cons (.str k) (dpStrs ks)
theorem word_str {m : Nat} {d : PyData} (h : partOk m ("side", d) = true) : ∃ x, d = .str x := by
  have e : partOk m ("side", d) = isW' d := by
    have e1 : isDeep "side" = false := by decide +kernel
    unfold partOk
    rw [if_neg (by rw [e1]; exact Bool.false_ne_true)]
    show plainOk "side" d = isW' d
    have e1 : ¬ ("side" : Str) = "amount" := by decide +kernel
    have e2 : ¬ ("side" : Str) = "wait" := by decide +kernel
    have e3 : ¬ ("side" : Str) = "times" := by decide +kernel
    have e4 : ¬ ("side" : Str) = "gap" := by decide +kernel
    unfold plainOk
    rw [if_neg e1, if_neg e2, if_neg e3, if_neg e4]
  rw [e] at h
  cases d with
  | str x => exact ⟨x, rfl⟩
  | _ => cases h
end Bk

set_option Elab.async false
set_option linter.all false
set_option maxRecDepth 100000
set_option maxHeartbeats 2000000
namespace Bk
open PySem PySem.Spec PyProof.Rows L2
/-! ### what displays evaluate to -/
abbrev Env4 := Nat → Option PyData
def SlotsOk (K : PySem.W.Frag) (Γ : Env4) (σ : L2.St) (H : Hp) : Prop := ∀ i d, Γ i = some d → ∃ v, σ[i]? = some (some v) ∧ Dp K H v d
theorem SlotsOk.same {K : PySem.W.Frag} {Γ : Env4} {σ : L2.St} {H H' : Hp} (s : SlotsOk K Γ σ H) (e : Same H H') : SlotsOk K Γ σ H' := fun i d h => by
  obtain ⟨v, h1, h2⟩ := s i d h
  exact ⟨v, h1, Dp.dm (.of e) h2⟩
def EvD (K : PySem.W.Frag) (Γ : Env4) (t : TE) (d : PyData) : Prop := ∀ (σ : L2.St) (H : Hp) (Q : VK), SlotsOk K Γ σ H → (∀ v H', Same H H' → Dp K H' v d → Q v H') → t σ H Q
def EvA (K : PySem.W.Frag) (Γ : Env4) (t : TA) (ds : List PyData) : Prop := ∀ (σ : L2.St) (H : Hp) (Q : List V → Hp → Prop), SlotsOk K Γ σ H → (∀ vs H', Same H H' → DpAll K H' vs ds → Q vs H') → t σ H Q
section
variable {K : PySem.W.Frag} {Γ : Env4}
theorem evd_str (x : Str) : EvD K Γ (tC (.str x)) (.str x) := fun σ H Q _ q => q _ _ (Same.refl H) (.str x)
theorem evd_int (x : Int) : EvD K Γ (tC (.int x)) (.int x) := fun σ H Q _ q => q _ _ (Same.refl H) (.int x)
theorem evd_bl (x : Bool) : EvD K Γ (tC (.bl x)) (.bool x) := fun σ H Q _ q => q _ _ (Same.refl H) (.bl x)
theorem evd_non : EvD K Γ (tC .non) .none := fun σ H Q _ q => q _ _ (Same.refl H) .non
theorem evd_var {i : Nat} {d : PyData} (h : Γ i = some d) : EvD K Γ (tVar i) d := fun σ H Q s q => by
  obtain ⟨v, h1, h2⟩ := s i d h
  exact ⟨v, h1, q _ _ (Same.refl H) h2⟩
theorem eva_nil : EvA K Γ tNil [] := fun σ H Q _ q => q _ _ (Same.refl H) .nil
theorem eva_cons {t : TE} {r : TA} {d : PyData} {ds : List PyData} (h : EvD K Γ t d) (hr : EvA K Γ r ds) : EvA K Γ (tCons t r) (d :: ds) := fun σ H Q s q =>
  h σ H _ s fun v H1 e1 d1 => hr σ H1 _ (s.same e1) fun vs H2 e2 d2 => q _ _ (e1.trans e2) (.cons (Dp.dm (.of e2) d1) d2)
theorem evd_tup {t : TA} {ds : List PyData} (h : EvA K Γ t ds) (hl : ds.length ≤ 1000) : EvD K Γ (tTup t) (.tuple ds) := fun σ H Q s q =>
  h σ H _ s fun vs H1 e1 d1 => ⟨sz (by rw [DpAll.len d1]; exact hl), fun p np => q _ _ (e1.trans (same_new np)) (.tup (sqt upd_same) (DpAll.dm (.of (same_new np)) d1))⟩
theorem evd_lst {t : TA} {ds : List PyData} (h : EvA K Γ t ds) (hl : ds.length ≤ 1000) : EvD K Γ (tLst t) (.list ds) := fun σ H Q s q =>
  h σ H _ s fun vs H1 e1 d1 => ⟨sz (by rw [DpAll.len d1]; exact hl), fun p np => q _ _ (e1.trans (same_new np)) (.lst (sql upd_same) (DpAll.dm (.of (same_new np)) d1))⟩
theorem evd_I0 {f : Int → Int → Int} {ta tb : TE} {i j : Int} (ha : EvD K Γ ta (.int i)) (hb : EvD K Γ tb (.int j)) : EvD K Γ (tOp (rI0 fun i j => .int (f i j)) ta tb) (.int (f i j)) := fun σ H Q s q =>
  ha σ H _ s fun v H1 e1 d1 => hb σ H1 _ (s.same e1) fun u H2 e2 d2 => by
    cases d1
    cases d2
    exact ⟨i, j, rfl, rfl, q _ _ (e1.trans e2) (.int _)⟩
theorem evd_I {C : Int → Int → Prop} {f : Int → Int → Int} {ta tb : TE} {i j : Int} (ha : EvD K Γ ta (.int i)) (hb : EvD K Γ tb (.int j)) (hc : C i j) : EvD K Γ (tOp (rI C fun i j => .int (f i j)) ta tb) (.int (f i j)) := fun σ H Q s q =>
  ha σ H _ s fun v H1 e1 d1 => hb σ H1 _ (s.same e1) fun u H2 e2 d2 => by
    cases d1
    cases d2
    exact ⟨i, j, rfl, rfl, hc, q _ _ (e1.trans e2) (.int _)⟩
theorem evd_neg {f : Int → Int} {ta : TE} {i : Int} (ha : EvD K Γ ta (.int i)) : EvD K Γ (tUn (rU fun i => .int (f i)) ta) (.int (f i)) := fun σ H Q s q =>
  ha σ H _ s fun v H1 e1 d1 => by
    cases d1
    exact ⟨i, rfl, q _ _ e1 (.int _)⟩
/-- a list that is laid anew -/
theorem ev_lst {t : TA} {ds : List PyData} {σ : L2.St} {H : Hp} {Q : VK} (h : EvA K Γ t ds) (hl : ds.length ≤ 1000) (s : SlotsOk K Γ σ H) (q : ∀ p xs H1, Same H H1 → H1 p = none → DpAll K H1 xs ds → Q (.ref p) (upd H1 p (.lst xs))) : tLst t σ H Q :=
  h σ H _ s fun vs H1 e1 d1 => ⟨sz (by rw [DpAll.len d1]; exact hl), fun p np => q p vs H1 e1 np d1⟩
end
/-! ### fewer levels tell no more -/
theorem wf_more : ∀ {n m : Nat} {kind : Str} {d : PyData}, n ≤ m → wf n kind d = true → wf m kind d = true
  | 0, _, _, _, _, h => by cases h
  | n + 1, 0, _, _, hl, _ => by omega
  | n + 1, m + 1, kind, d, hl, h => by
    have hl : n ≤ m := by omega
    cases d with
    | tuple ds =>
      cases ds with
      | nil => cases h
      | cons x r =>
        cases x with
        | str w =>
          rw [wf_tup'] at h ⊢
          split at h
          · cases h
          · rename_i ks hk
            rw [Bool.and_eq_true, Bool.and_eq_true] at h ⊢
            refine ⟨h.1, ?_, h.2.2⟩
            rw [List.all_eq_true] at *
            intro p hp
            have z := h.2.1 p hp
            unfold partOk at z ⊢
            split
            · rename_i c
              rw [if_pos c] at z
              exact wf_more hl z
            · rename_i c
              rw [if_neg c] at z
              exact z
        | _ => cases h
    | _ => cases h
theorem wf_fewer {n m : Nat} {kind : Str} {d : PyData} (hl : n ≤ m) (h : wf m kind d = false) : wf n kind d = false := by
  cases e : wf n kind d with
  | false => rfl
  | true =>
    rw [wf_more hl e] at h
    cases h
theorem g_callS {sp : Sp} {E : L2.St → XK} {t : TA} {σ : L2.St} {H : Hp} {Q : VK} (h : t σ H fun vs H1 => sp vs H1 Q (E σ)) : tCallS sp E t σ H Q := h
/-- what the classes of the errors are to one another, C being raised -/
structure Errs (K : PySem.W.Frag) (B C M X T : Addr) : Prop where
  exm : PySem.W.exmOne K (.ref C) (.ref B) = some true
  ec : ExcC K C
  iM : PySem.W.kitOne K (.ref C) (.ref M) = some false
  iX : PySem.W.kitOne K (.ref C) (.ref X) = some false
  iT : PySem.W.kitOne K (.ref C) (.ref T) = some false
  iC : PySem.W.kitOne K (.ref C) (.ref C) = some true
  iV : PySem.W.kitOne K (.ref C) (.type "ValueError") = some true
theorem use_isX {K : PySem.W.Frag} {a D : Addr} {c : V} {cv : Value} {b : Bool} {H : Hp} {Q : VK} (ec : ExcC K D) (hc : ∀ u, RelV c u → u = cv) (h : PySem.W.kitOne K (.ref D) cv = some b) (q : Q (.bl b) H) : rIsX K a (.ref D) none [.ref a, c] H Q :=
  ⟨D, rfl, rfl, ec, c, cv, b, rfl, hc, h, q⟩
end Bk

set_option Elab.async false
set_option linter.all false
set_option maxRecDepth 100000
set_option maxHeartbeats 2000000
namespace Bk
open PySem PySem.Spec PyProof.Rows L2
/-! ### the end: a law over a package with tables of code objects -/
/-- what the top tells of a def's table -/
def TabsOf (q : Program) (K : PySem.W.Frag) (h : Heap) : Prop := ∀ (x : Str) (c P : Addr), ((recsOf q).find? (fun e => e.name == x)).isSome = true → PySem.W.tabIn K x = some (c, P) → PySem.W.CodeHd h c P ∧ h.get? P = some (PySem.W.tabObj #[])
theorem walk_tabs {l : PySem.W.OpenLaw} {n k : Nat} {q : Program} {loose : List Str} {XP : (Str → Option Value) → Heap → Prop} {YP : World → Heap → Prop} {d : DefRec} {K : Params → PySem.W.Frag} {CX : World → CXT} {x : Str}
    (hn : l.most = some n) (hn2 : n ≤ sizeLine) (hdf : d.params.defaults = []) (hr : Room k callerA) (hY : ∀ (w : World) (h : Heap), YP w h → (K w.params).In h)
    (F : ∀ (w : World) (mg : Str → Option Value) (fa : Addr) (h : Heap), (K w.params).In h → h.Ns mainGlobals mg → mg d.name = some (.ref fa) → TabsOf q (K w.params) h → LamX.LawAtS l w (K w.params) (CX w) k n x mg fa h)
    (hCX : ∀ (w : World) (H : Hp) (s : Shared) (e : Value) (s' : Shared), CX w [] H s (fun _ _ _ => False) e s' → False) :
    PySem.W.WalkO q loose XP YP l.row.toRowW d [] (fun f vs => PySem.call f vs) :=
  Att.attach_callB hn hdf fun w u u1 mg mb fa ob pm cd doc a vs ns gr yp hob hda hco hmg hls hin hlen hbits hge => by
    have kin := hY w _ yp
    obtain ⟨fd, cs, sp, c1, c2, c3, c4, c5, c6⟩ := F w mg fa _ kin gr.T.g hmg fun z c P hs ht => by
      obtain ⟨e, he⟩ := Option.isSome_iff_exists.mp hs
      exact PySem.W.tab_of gr.T kin he ht
    exact LamX.law_callTs kin gr.T.g gr.T.b gr.T.builtins gr.T.nolimit hge c1 c2 c3 gr.T.bmain hls hin (Nat.le_trans hlen hn2) hr c6 c4 (fun G g1 g2 => c5 G a ns hlen hbits g1 g2) fun G e u2 => hCX w G u1 e u2
theorem tabIn_of {K : PySem.W.Frag} {x : Str} {f c P : Addr} {oc oc2 : Value} {od od2 : Option Addr} {sl sl2 : Array (Option Value)} {fd : FuncData} {vs : Array Value} (a : PySem.W.nsIn K mainGlobals x = some (some (.ref f))) (l : K.lookup f = some ⟨oc, od, .func fd, sl⟩)
    (hc : fd.code = .ref c) (cc : K.lookup c = some ⟨oc2, od2, .fields vs, sl2⟩) (v : (vs[11]? : Option Value) = some (.ref P)) : PySem.W.tabIn K x = some (c, P) := by
  unfold PySem.W.tabIn
  rw [a]
  dsimp only
  rw [l]
  dsimp only
  rw [hc]
  dsimp only
  rw [cc]
  dsimp only
  rw [v]
theorem FTab.of {K : PySem.W.Frag} {w : World} {mg : Str → Option Value} {n : Str} {L : Forms} {d : Addr} (g : mg n = some (.ref d)) (k : He.dicW K d = some (He.keysIn w.params (L.map (·.1)))) (ok : tabOk K d L = true) : FTab K w mg n L d := ⟨g, He.dicW_ok k, ok⟩
end Bk

set_option Elab.async false
set_option linter.all false
set_option maxRecDepth 100000
/-! len(set(xs)), xs a list of texts or of whole numbers, alike ones among them. -/
namespace BkS
open PySem PySem.Spec PyProof.Rows

section
variable {K : Type} [DecidableEq K]
/-- the unlike ones, each where it is first met, behind these -/
def metA : List K → List K → List K
  | ys, [] => ys
  | ys, x :: xs => metA (if x ∈ ys then ys else ys ++ [x]) xs
def met (xs : List K) : List K := metA [] xs
theorem metA_snoc : ∀ (xs ys : List K) (x : K), metA ys (xs ++ [x]) = if x ∈ metA ys xs then metA ys xs else metA ys xs ++ [x]
  | [], _, _ => rfl
  | _ :: xs, _, x => metA_snoc xs _ x
theorem mem_metA : ∀ (xs ys : List K) (y : K), y ∈ metA ys xs ↔ y ∈ ys ∨ y ∈ xs
  | [], ys, y => by simp [metA]
  | x :: xs, ys, y => by
    show y ∈ metA _ xs ↔ _
    rw [mem_metA xs _ y]
    by_cases h : x ∈ ys
    · rw [if_pos h, List.mem_cons]
      exact ⟨fun q => q.elim .inl fun z => .inr (.inr z), fun q => q.elim .inl fun z => z.elim (fun e => .inl (e ▸ h)) .inr⟩
    · rw [if_neg h]
      simp [or_assoc]
theorem metA_le : ∀ (xs ys : List K), (metA ys xs).length ≤ ys.length + xs.length
  | [], ys => Nat.le_refl _
  | x :: xs, ys => by
    have h := metA_le xs (if x ∈ ys then ys else ys ++ [x])
    show (metA _ xs).length ≤ _
    split at h <;> simp at h ⊢ <;> split <;> simp_all <;> omega
theorem met_mem (xs : List K) (y : K) : y ∈ met xs ↔ y ∈ xs := by
  rw [met, mem_metA]; simp
theorem met_le (xs : List K) : (met xs).length ≤ xs.length := by
  have h := metA_le xs []
  simpa [met] using h
theorem met_snoc (xs : List K) (x : K) : met (xs ++ [x]) = if x ∈ xs then met xs else met xs ++ [x] := by
  unfold met
  rw [metA_snoc]
  by_cases h : x ∈ xs
  · rw [if_pos h]; exact if_pos ((met_mem xs x).mpr h)
  · rw [if_neg h]; exact if_neg fun z => h ((met_mem xs x).mp z)
theorem metA_eq : ∀ (xs ys : List K), (ys ++ xs).Nodup → metA ys xs = ys ++ xs
  | [], ys, _ => by simp [metA]
  | x :: xs, ys, h => by
    have hx : x ∉ ys := fun z => (List.pairwise_append.mp h).2.2 x z x (by simp) rfl
    show metA _ xs = _
    rw [if_neg hx, metA_eq xs (ys ++ [x]) (by simpa using h)]
    simp
theorem metA_lt : ∀ (xs ys : List K), ys.Nodup → ¬ (ys ++ xs).Nodup → (metA ys xs).length < ys.length + xs.length
  | [], ys, h, n => absurd (by simpa using h) n
  | x :: xs, ys, h, n => by
    show (metA _ xs).length < _
    by_cases hx : x ∈ ys
    · rw [if_pos hx]
      have := metA_le xs ys
      simp; omega
    · rw [if_neg hx]
      have z := metA_lt xs (ys ++ [x]) (List.pairwise_append.mpr ⟨h, by simp, fun a ha b hb => by simp at hb; subst hb; exact fun e => hx (e ▸ ha)⟩) (by simpa using n)
      simp at z ⊢
      omega
theorem met_eq {xs : List K} (h : xs.Nodup) : (met xs).length = xs.length := by rw [met, metA_eq xs [] (by simpa using h)]; simp
theorem met_lt {xs : List K} (h : ¬ xs.Nodup) : (met xs).length < xs.length := by
  have z := metA_lt xs [] (by simp) (by simpa using h)
  simpa [met] using z
end

section
variable {prog : Program} {w : World} {K : Type} [DecidableEq K] {knd : KeyKind prog w K}
theorem setOf_to {h : Heap} {a : Addr} {S S' : K → Bool} {n n' : Nat} (hS : h.SetOf knd a S n) (e : ∀ k, S k = S' k) (en : n = n') : h.SetOf knd a S' n' := by
  have : S = S' := funext e
  subst this; subst en; exact hS
variable {A : Around} {R : Result → Shared → Prop} {I : Addr} {fp wr : List Addr} {G : Array GenState → Array GenState → Prop} {n : Nat} {P : Nat → Value → Prop} {St : Nat → Shared → Prop}
/-- the set takes the iterator's items, one by one -/
theorem taken_all (W : WalksS prog w A.in1 I fp wr G n P St) (S : Addr) (hSf : S ∉ fp) (xs : List K) (hn : xs.length = n) (hb : n + 1 < scanBound)
    (hv : ∀ i v, P i v → ∃ k, xs[i]? = some k ∧ knd.is k v = true ∧ v.scannable = true) :
    ∀ (k i : Nat) (s : Shared), n - i = k → i ≤ n → St i s → s.heap.SetOf knd S (fun k => decide (k ∈ xs.take i)) (met (xs.take i)).length →
      (∀ s', Moved (S :: wr) G s s' → s'.heap.SetOf knd S (fun k => decide (k ∈ xs)) (met xs).length → R (.ok (.ret .none)) s') →
      codeAny (model prog w) A (.builtin "set.update.loop" ⟨[.ref S, .ref I], []⟩) R s := by
  have hSw : S ∉ wr := fun h => hSf (W.sub _ h)
  have up : ∀ b ∈ wr, b ∈ S :: wr := fun b hb => List.mem_cons_of_mem _ hb
  intro k
  induction k with
  | zero =>
    intro i s hk hi hst hS hq
    obtain rfl : i = n := by omega
    refine codeAny_builtin PyProof.Rows.F.entry_set_update_loop ?_
    rw [Around.under_plainId PyProof.Rows.F.plain_set_update_loop _]
    show wpAny _ A.in1 (pyNext (.ref I) >>= _) _ _ s
    refine wpAny_bind (W.done s _ _ hst fun s' hm => ?_)
    show wpAny _ A.in1 (ret Value.none) _ _ s'
    refine wpAny_pure (hq s' (hm.mono up) ?_)
    rw [← hn, List.take_length] at hS
    obtain ⟨o, es, ep, t, ho, z⟩ := hS
    exact ⟨o, es, ep, t, hm.heap S _ hSw ho, z⟩
  | succ k ih =>
    intro i s hk hi hst hS hq
    have hlt : i < n := by omega
    refine codeAny_builtin PyProof.Rows.F.entry_set_update_loop ?_
    rw [Around.under_plainId PyProof.Rows.F.plain_set_update_loop _]
    show wpAny _ A.in1 (pyNext (.ref I) >>= _) _ _ s
    refine wpAny_bind (W.item i s _ _ hlt hst fun v s' hP hst' hm => ?_)
    obtain ⟨x, ex, hx, hs⟩ := hv i v hP
    have et : xs.take (i + 1) = xs.take i ++ [x] := by rw [List.take_add_one, ex]; rfl
    have hS' : s'.heap.SetOf knd S (fun k => decide (k ∈ xs.take i)) (met (xs.take i)).length := by
      obtain ⟨o, es, ep, t, ho, z⟩ := hS
      exact ⟨o, es, ep, t, hm.heap S _ hSw ho, z⟩
    show wpAny _ A.in1 (holding [v] (setAdd S v) >>= _) _ _ s'
    refine wpAny_bind (wpAny_holding ?_)
    unfold setAdd
    refine wpAny_holding ?_
    refine wpAny_bind (knd.pyHash (k := x) hx ?_)
    have room : (met (xs.take i)).length + 1 < scanBound := by
      have h1 := met_le (xs.take i)
      have h2 : (xs.take i).length ≤ i := by rw [List.length_take]; omega
      omega
    refine wpAny_setAddHashed_of (knd := knd) (s := { s' with toks := s'.toks + 1 }) hx hs hS' room fun h' hsb hS2 => ?_
    have hSi : h'.SetOf knd S (fun k => decide (k ∈ xs.take (i + 1))) (met (xs.take (i + 1))).length := by
      refine setOf_to hS2 (fun k' => ?_) ?_
      · rw [et]; simp
      · rw [et, met_snoc]
        by_cases h : x ∈ xs.take i
        · rw [if_pos (by simpa using h), if_pos h]
        · rw [if_neg (by simpa using h), if_neg h]; simp
    refine wpAny_pure ⟨plainId_quiet PyProof.Rows.F.plain_set_update_loop _, ih (i + 1) _ (by omega) hlt (W.frame _ s' _ _ hst' (Nat.le_succ _) fun b hb o e => ?_) hSi fun s'' hm'' hS'' => ?_⟩
    · rw [hsb.2 b (fun h : b = S => hSf (by rw [← h]; exact hb))]; exact e
    · refine hq s'' (Moved.trans W.gtrans ((hm.mono up).then_heap (Nat.le_succ _) fun b o hb e => ?_) hm'') hS''
      rw [hsb.2 b (fun h : b = S => hb (by rw [h]; exact List.mem_cons_self))]; exact e
end

section
variable {prog : Program} {w : World} {A : Around} {E : Value → Shared → Prop} {s : Shared} {K : Type} [DecidableEq K] {knd : KeyKind prog w K}
set_option maxHeartbeats 3200000 in
/-- set(l) of a list whose items tell these keys -/
theorem call_set_keys {l : Addr} {items : Array Value} {xs : List K} {Q : Value → Shared → Prop} (hh : A.handled = none) (hl : s.heap.IsList l items) (hn : xs.length = items.size)
    (hv : ∀ (i : Nat) v, items[i]? = some v → ∃ k, xs[i]? = some k ∧ knd.is k v = true ∧ v.scannable = true) (hb : items.size + 1 < scanBound)
    (h : ∀ (h' : Heap) (tk : Nat), h'.SetOf knd s.heap.objs.size (fun k => decide (k ∈ xs)) (met xs).length → (∀ b o, b < s.heap.objs.size → s.heap.get? b = some o → h'.get? b = some o) →
      Q (.ref s.heap.objs.size) { s with heap := h', toks := tk }) :
    wpAny (model prog w) A (call (.type "set") [.ref l]) Q E s := by
  have hc := PySem.F.called_set
  obtain ⟨_, _, hmro⟩ := hc.mro
  have hmade := hc.made
  have hsub := hc.sub
  have h1 := hc.notType
  have h2 := hc.canCreate
  have h3 := PySem.F.typeCall_set_1 (.ref l)
  refine wpAny_call (codeAny_of_tree ?_)
  show wpAny _ _ (callAny (.type "set") _) _ _ _
  refine wpAny_pure ⟨Code.quiet_builtin _ (by decide +kernel), codeAny_builtin PySem.F.entry_type_call ?_⟩
  rw [Around.under_plain (weight_type_call_type "set" [.ref l] []) rfl]
  repeat (any_goals (first | assumption | wp_step))
  let ob : Bool → Obj := fun led => { cls := .type "set", dict := none, data := .set #[] 0 (.fresh 0 0 led) }
  refine codeAny_mono (code_set_new_1 (.ref l) (E := E) (Q₁ := fun v t => ∃ led : Bool, v = .ref s.heap.objs.size ∧ t = { s with heap := s.heap.push (ob led) }) fun led => ⟨led, rfl, rfl⟩) fun r t hr => ?_
  rcases r with e | fl
  · exact hr
  cases fl with
  | ret v =>
    obtain ⟨led, rfl, rfl⟩ := hr
    have hS : (s.heap.push (ob led)).get? s.heap.objs.size = some (ob led) := Heap.get?_push_size _ rfl
    have hT : Shared.TypeIs { s with heap := s.heap.push (ob led) } (.ref s.heap.objs.size) "set" := ⟨_, hS, rfl⟩
    have hli := hc.init.lookup
    have hbi := hc.init.bind (.ref s.heap.objs.size)
    repeat (any_goals (first | assumption | wp_step))
    let After : Value → Shared → Prop := fun r t => r = .none ∧ ∃ h' tk, t = { s with heap := h', toks := tk } ∧ h'.SetOf knd s.heap.objs.size (fun k => decide (k ∈ xs)) (met xs).length ∧
      (∀ b o, b < s.heap.objs.size → s.heap.get? b = some o → h'.get? b = some o)
    refine codeAny_mono (codeAny_call_builtin (R := wants After E) hc.init.plain PySem.F.entry_set_init (check_set_init_1 hT ?_)) fun r t hr => ?_
    · obtain ⟨⟨oc, od, ot, os⟩, hol, hcl, nl, hdl⟩ := hl
      obtain rfl : oc = _ := hcl
      obtain rfl : ot = _ := hdl
      have hol2 : (s.heap.push (ob led)).get? l = _ := Heap.get?_push_of_some _ hol
      have hl1 : (s.heap.push (ob led)).IsList l items := ⟨_, hol2, rfl, nl, rfl⟩
      have hs1 := PySem.F.sub_list_set
      have hs2 := PySem.F.sub_list_frozenset
      have hne : (Value.type "list" == Value.type "dict") = false := by decide
      have hlS : l < s.heap.objs.size := Heap.lt_size hol
      have h5 : A.in1.in1.in1.handled = none := by simp [hh]
      have z1 : (s.heap.push (ob led)).objs.size = s.heap.objs.size + 1 := Heap.size_push _ _
      have hI : l ≠ (s.heap.push (ob led)).objs.size := by rw [z1]; exact Nat.ne_of_lt (Nat.lt_succ_of_lt hlS)
      have hSf : s.heap.objs.size ∉ [(s.heap.push (ob led)).objs.size, l] := by
        rw [z1]; simp only [List.mem_cons, List.not_mem_nil, or_false, not_or]
        exact ⟨Nat.ne_of_lt (Nat.lt_succ_self _), Nat.ne_of_gt hlS⟩
      unfold Builtin.«set.__init__» noKeywords Builtin.Frozenset.updateFrom
      generalize hPI : pyIter = PI
      wp_walk
      subst hPI
      refine wpAny_pyIter_list hl1 ?_
      refine wpAny_bind (wpAny_runValue ?_)
      refine taken_all ((Walks.list h5 _ l hI items).toS) s.heap.objs.size hSf xs hn hb (fun i v hp => hv i v hp) (items.size - 0) 0 _ (by omega) (Nat.zero_le _) ⟨⟨_, Heap.get?_push_size _ rfl, rfl, rfl⟩, (hl1.push _)⟩ ?hS0 ?hR
      case hS0 =>
        have hget : ((s.heap.push (ob led)).push { cls := .type "list_iterator", data := .fields #[.ref l, .int 0 0] }).get? s.heap.objs.size = some (ob led) := Heap.get?_push_of_some _ hS
        exact setOf_to ((PyProof.Rows.setObjOf_fresh (knd := knd) led).setOf hget (by unfold scanBound; omega)) (fun _ => by simp) rfl
      case hR =>
        intro t hm hS'
        obtain ⟨h', g', d', tk', os'⟩ := t
        obtain rfl : g' = s.gens := hm.gens
        obtain rfl : d' = s.drawn := hm.drawn
        obtain rfl : os' = s.os := hm.os
        show wpAny _ _ _ _ _ _
        refine wpAny_pure ?_
        show wpAny _ _ (ret Value.none) _ _ _
        refine wpAny_pure ⟨rfl, h', tk', rfl, hS', fun b o hb e => hm.heap b o ?_ (Heap.get?_push_of_some _ (Heap.get?_push_of_some _ e))⟩
        simp only [List.mem_cons, List.not_mem_nil, or_false, not_or]
        exact ⟨Nat.ne_of_lt hb, by rw [z1]; exact Nat.ne_of_lt (Nat.lt_succ_of_lt hb)⟩
    · rcases r with e | fl
      · exact hr
      cases fl with
      | ret r =>
        obtain ⟨rfl, h', tk, rfl, hS', hk'⟩ := hr
        repeat (any_goals (first | assumption | wp_step))
        exact h _ _ hS' hk'
      | _ => exact hr.elim
  | _ => exact hr.elim
end

section
open L2
theorem strs_of : ∀ {ys : List Str} {us : List Value}, Vals (ys.map V.str) us → ∀ (i : Nat) v, us[i]? = some v → ∃ x t, ys[i]? = some x ∧ v = .str x t
  | [], _, .nil, i, v, h => by simp at h
  | y :: ys, _, .cons r t, 0, v, h => by
    obtain ⟨k, rfl⟩ := r
    simp at h
    exact ⟨y, k, rfl, h.symm⟩
  | y :: ys, _, .cons r t, i + 1, v, h => strs_of t i v (by simpa using h)
theorem ints_of : ∀ {ys : List Int} {us : List Value}, Vals (ys.map V.int) us → ∀ (i : Nat) v, us[i]? = some v → ∃ x t, ys[i]? = some x ∧ v = .int x t
  | [], _, .nil, i, v, h => by simp at h
  | y :: ys, _, .cons r t, 0, v, h => by
    obtain ⟨k, rfl⟩ := r
    simp at h
    exact ⟨y, k, rfl, h.symm⟩
  | y :: ys, _, .cons r t, i + 1, v, h => ints_of t i v (by simpa using h)
/-- how many unlike ones there are: all, or fewer -/
def Unlike {K : Type} (xs : List K) (Q : V → Prop) : Prop := ∀ m : Nat, (xs.Nodup → m = xs.length) → (¬ xs.Nodup → m < xs.length) → Q (.int (m : Nat))
def tLenU (K : PySem.W.Frag) (ta : TE) : TE := fun σ H Q => ta σ H fun x H1 => ∃ l, x = .ref l ∧
  ((∃ ns : List Int, SqL K H1 l (ns.map V.int) ∧ ns.length ≤ 4000 ∧ Unlike ns fun v => Q v H1) ∨ (∃ xs : List Str, SqL K H1 l (xs.map V.str) ∧ xs.length ≤ 4000 ∧ Unlike xs fun v => Q v H1))
theorem pe_lenU {X : Cx} {a : Expr} {ta : TE} {p p2 q pos : Pos} (hc : X.calm = true) (hg : Gl X "len") (hm : X.mg "len" = none) (hg2 : Gl X "set") (hm2 : X.mg "set" = none) (ha : PE X a ta)
    (na : starEach [a] X.env = (false, eval a X.env) :: starEach [] X.env := by rfl) : PE X (.Call (.Name "len" p) [.Call (.Name "set" p2) [a] [] q] [] pos) (tLenU X.K ta) := by
  refine ⟨fun pins s σ H Q I h => ?_⟩
  refine Call_ (ld_blt I hg hm PySem.boot_len ?_)
  refine PyProof.Rows.callWith_builtin1 (PyProof.Rows.args_cons ?_ rfl) rfl rfl
  refine Call_ (ld_blt I hg2 hm2 PyProof.Rows.boot_set ?_)
  refine PyProof.Rows.callWith_type1 (PyProof.Rows.args_cons (thn (ha.run pins s σ H _ I h) fun v s1 ⟨x, H1, I1, r1, q1⟩ => PyProof.Rows.args_nil ?_) na) na rfl
  obtain ⟨l, rfl, q1⟩ := q1
  cases r1
  have fin : ∀ {K : Type} [DecidableEq K] {knd : KeyKind X.prog X.w K} {xs : List K}, xs.length ≤ 4000 → Unlike xs (fun v => Q v H1) → ∀ (h' : Heap) (tk : Nat),
      h'.SetOf knd s1.heap.objs.size (fun k => decide (k ∈ xs)) (met xs).length → (∀ b o, b < s1.heap.objs.size → s1.heap.get? b = some o → h'.get? b = some o) →
      wpAny (model X.prog X.w) X.A (spliced (backTo pos (starEach [] X.env))) (fun vs s₂ => wpAny (model X.prog X.w) X.A (call (.builtin "len") (Value.ref s1.heap.objs.size :: vs)) (EP X pins σ Q) X.xe s₂) X.xe { s1 with heap := h', toks := tk } := fun {K} _ {knd xs} hl q h' tk hS hk => by
    refine PyProof.Rows.args_nil ?_
    have hle := met_le xs
    obtain ⟨o, es, ep, t, ho, hex, hd, _, _, _, hf, hn⟩ := hS
    have I2 : Inv X pins σ H1 { s1 with heap := h', toks := tk } := I1.kept fun b o e => hk b o (Heap.lt_size e) e
    refine call_len_set ho hex hd hf (by rw [hn] <;> omega) ⟨.int (met xs).length, H1, I2.tok _, ⟨_, by rw [hn]⟩, q _ met_eq met_lt⟩
  rcases q1 with ⟨ns, hq, hl, q⟩ | ⟨xs, hq, hl, q⟩
  · obtain ⟨its, r, pl, hz⟩ := I1.list hq
    have e : ns.length = its.toArray.size := by rw [List.size_toArray, ← r.length, List.length_map]
    exact call_set_keys (knd := intKind X.prog X.w) (I1.ok.hd hc) pl.isList e (fun i v hv => by
      obtain ⟨x, t, ex, rfl⟩ := ints_of r i v (by simpa using hv)
      exact ⟨x, ex, intKind_is _ _ _ _, rfl⟩) (by rw [← e]; unfold scanBound; omega) fun h' tk hS hk => fin hl q h' tk hS hk
  · obtain ⟨its, r, pl, hz⟩ := I1.list hq
    have e : xs.length = its.toArray.size := by rw [List.size_toArray, ← r.length, List.length_map]
    exact call_set_keys (knd := strKind X.prog X.w) (I1.ok.hd hc) pl.isList e (fun i v hv => by
      obtain ⟨x, t, ex, rfl⟩ := strs_of r i v (by simpa using hv)
      exact ⟨x, ex, strKind_is _ _ _ _, rfl⟩) (by rw [← e]; unfold scanBound; omega) fun h' tk hS hk => fin hl q h' tk hS hk
end
end BkS

set_option Elab.async false
set_option linter.all false
set_option maxRecDepth 100000
set_option maxHeartbeats 2000000
namespace Bk
open PySem PySem.Spec PyProof.Rows L2
/-! ### a class of the package: made within a try -/
structure OwnM (K : PySem.W.Frag) (m q : Str) (st : Stmt) (ps : List Str) (f : Addr) (fd : FuncData) : Prop where
  F : Fun K m q st f fd
  b : Binds K fd ps []
structure ClsT (K : PySem.W.Frag) (mg : Str → Option Value) (x : Str) (C f : Addr) : Prop where
  g : mg x = some (.ref C)
  M : Mk K C f
  cl : Cls K C
/-- the class, and what its __init__ promises -/
structure HasM (P : Program) (w : World) (K : PySem.W.Frag) (mg : Str → Option Value) (base : Heap) (x : Str) (ps : List Str) (lv : Nat) (CX : CXT) (sp : Sp) (C f : Addr) (fd : FuncData) : Prop where
  G : ∃ k, lv = k + 1 ∧ FnOk P w K mg base CX k f fd ps sp
  g : mg x = some (.ref C)
  M : Mk K C f
  b : Binds K fd ps []
section
variable {P : Program} {w : World} {K : PySem.W.Frag} {mg : Str → Option Value} {base : Heap} {x : Str} {ps : List Str} {C f : Addr} {fd : FuncData} {CX : CXT} {sp : Sp}
theorem HasM.mono {j i : Nat} (D : HasM P w K mg base x ps j CX sp C f fd) (h : j ≤ i) : HasM P w K mg base x ps i CX sp C f fd := by
  obtain ⟨⟨k, e, G⟩, g, M, b⟩ := D
  exact ⟨⟨i - 1, by omega, G.mono (by omega)⟩, g, M, b⟩
theorem HasM.of {k : Nat} {m q : Str} {st : Stmt} (T : ClsT K mg x C f) (O : OwnM K m q st ps f fd) (G : FnOk P w K mg base CX k f fd ps sp) : HasM P w K mg base x ps (k + 1) CX sp C f fd := ⟨⟨k, rfl, G⟩, T.g, T.M, O.b⟩
end
section
variable {X : Cx} {CX : CXT} {f C : Addr} {fd : FuncData} {ps : List Str} {sp : Sp} {E : L2.St → XK} {x : Str} {p pos : Pos} {e : Expr} {es : List Expr} {t : TA}
/-- what the new object's __init__ is handed: a bare object first -/
def spNew (C : Addr) (sp : Sp) : Sp := fun vs H Q E => ∀ a dx, H a = none → H dx = none → dx ≠ a → sp (.ref a :: vs) (upd (upd H dx (.own a)) a (.ins C dx [])) (fun v H2 => v = .non ∧ Q (.ref a) H2) E
theorem new_at {k : Nat} {pins : List (Addr × Obj)} {σ : L2.St} {H : Hp} {s : Shared} {Q : VK} {us : List Value} {vs : List V} (M : Mk X.K C f) (F : FnOk X.prog X.w X.K X.mg X.base CX k f fd ps sp) (hr : Room (k + 1) X.A) (hb : Binds X.K fd ps [])
    (hx : PassesAt CX X σ (E σ)) (I : Inv X pins σ H s) (r : Vals vs us) (h : spNew C sp vs H Q (E σ)) : wpAny (model X.prog X.w) X.A (call (.ref C) us) (EP X pins σ Q) X.xe s := by
  have q := h (s.heap.objs.size + 1) s.heap.objs.size (I.hok.fresh (Nat.le_succ _)) (I.hok.fresh (Nat.le_refl _)) (Nat.ne_of_lt (Nat.lt_succ_self _))
  have J := Inv.made (C := C) I
  have rr : Vals (V.ref (s.heap.objs.size + 1) :: vs) (Value.ref (s.heap.objs.size + 1) :: us) := .cons rfl r
  have hl : (Value.ref (s.heap.objs.size + 1) :: us).length = ps.length := rr.length.symm.trans (F.len _ _ _ _ q)
  have b := hb _ (Value.ref (s.heap.objs.size + 1) :: us) J.kIn (by rw [List.append_nil]; exact hl)
  rw [List.append_nil] at b
  have go := F.run _ X.stack _ _ ⟨Value.ref (s.heap.objs.size + 1) :: us, []⟩ _ _ _ (E σ) (hr.make C us []) (J.env0.make C us []) b rr q
  refine wpAny_call (make_map (f := f) I.kIn M.makes M.init (beq_iff_eq.mp M.fn) (codeAny_mono go fun r s' hq => ?_))
  rcases r with e | fl
  · exact hx pins _ _ e s' J hq
  cases fl with
  | ret u =>
    obtain ⟨v, H', I3, rv, ev, z⟩ := J.after hq
    subst ev
    exact ⟨rv, ⟨.ref (s.heap.objs.size + 1), H', I3, rfl, z⟩⟩
  | _ => exact False.elim hq
theorem pe_new {lv : Nat} (D : HasM X.prog X.w X.K X.mg X.base x ps lv CX sp C f fd) (hr : Room lv X.A) (hg : Gl X x) (hx : ∀ σ, PassesAt CX X σ (E σ)) (ha : PA X (e :: es) t)
    (hdb : (x == ("__debug__" : Str)) = false := by decide) (he : starEach (e :: es) X.env = (false, eval e X.env) :: starEach es X.env := by rfl) (hpl : (backTo pos (starEach es X.env)).any (·.1) = false := by rfl) :
    PE X (.Call (.Name x p) (e :: es) [] pos) (tCallS (spNew C sp) E t) := by
  obtain ⟨⟨k, rfl, G⟩, g, M, b⟩ := D
  refine ⟨fun pins s σ H Q I h => ?_⟩
  refine wpAny_Call_Name_kw (ld_glob I hg g ?_ hdb)
  exact PySem.W.callWith_K (h₀ := X.base) I.ok.mod.kin M.kp (thn (ha.run pos pins s σ H _ I h) fun us s1 ⟨vs, H1, I1, r, q⟩ => ⟨I1.kIn, new_at M G hr b (hx σ) I1 r q⟩) he hpl
end
/-! ### comprehensions over a list that stays -/
/-- so far fs of the xs stand in the new list, and all else as it stood -/
structure Comp (H0 : Hp) (D : Addr) (R : Nat → V → Hp → Prop) (i : Nat) (H : Hp) : Prop where
  e : Same H0 H
  n : H0 D = none
  acc : ∃ ys, H D = some (.lst ys) ∧ ys.length = i ∧ ∀ j y, ys[j]? = some y → R j y H
theorem Comp.start {H : Hp} {D : Addr} {R : Nat → V → Hp → Prop} (n : H D = none) : Comp H D R 0 (upd H D (.lst [])) := ⟨same_new n, n, [], upd_same, rfl, fun j y h => by simp at h⟩
theorem Comp.next {H0 H H' : Hp} {D : Addr} {R : Nat → V → Hp → Prop} {i : Nat} {y : V} (hR : ∀ j y Ha Hb, R j y Ha → (∀ b o, b ≠ D → Ha b = some o → Hb b = some o) → R j y Hb) (c : Comp H0 D R i H) (e : Same H H') (hi : i < 4000) (q : R i y H') :
    ∃ acc, H' D = some (.lst acc) ∧ acc.length < sizeLine ∧ Comp H0 D R (i + 1) (upd H' D (.lst (acc ++ [y]))) := by
  obtain ⟨e0, n, ys, h, hl, hy⟩ := c
  have k1 : ∀ b o, b ≠ D → H b = some o → upd H' D (.lst (ys ++ [y])) b = some o := fun b o hb z => by rw [upd_ne hb]; exact e _ _ z
  have k2 : ∀ b o, b ≠ D → H' b = some o → upd H' D (.lst (ys ++ [y])) b = some o := fun b o hb z => by rw [upd_ne hb]; exact z
  refine ⟨ys, e _ _ h, Nat.lt_of_lt_of_le (show ys.length < 4000 by omega) (by decide), fun b o z => ?_, n, ys ++ [y], upd_same, by rw [List.length_append, hl]; rfl, fun j v z => ?_⟩
  · have hb : b ≠ D := fun h => by rw [h, n] at z; cases z
    exact k1 b o hb (e0 _ _ z)
  · rcases Nat.lt_or_ge j ys.length with lt | ge
    · rw [List.getElem?_append_left lt] at z
      exact hR j v H _ (hy j v z) k1
    · rw [List.getElem?_append_right ge] at z
      obtain ⟨rfl, rfl⟩ : j = i ∧ v = y := by
        rcases Nat.eq_zero_or_pos (j - ys.length) with h0 | h0
        · rw [h0] at z
          exact ⟨by omega, (Option.some.inj z).symm⟩
        · rw [List.getElem?_eq_none (by simp; omega)] at z; cases z
      exact hR _ _ H' _ q k2
def rTupOf (K : PySem.W.Frag) : List V → Hp → VK → Prop := fun xs H Q => ∃ p ys, xs = [.ref p] ∧ ((SqL K H p ys ∧ ∀ l, H l = none → Q (.ref l) (upd H l (.tup ys))) ∨ (SqT K H p ys ∧ Q (.ref p) H))
def rLstOf (K : PySem.W.Frag) : List V → Hp → VK → Prop := fun xs H Q => ∃ p ys, xs = [.ref p] ∧ (SqL K H p ys ∨ SqT K H p ys) ∧ ∀ l, H l = none → Q (.ref l) (upd H l (.lst ys))
theorem callTupOf {X : Cx} : CallR X (.type "tuple") (rTupOf X.K) := call_tuple_of
theorem callLstOf {X : Cx} : CallR X (.type "list") (rLstOf X.K) := call_list_of
end Bk

set_option maxHeartbeats 4000000
namespace Bk
open PySem PySem.Spec PyProof.Rows L2
local macro_rules
  | `(tactic| walk_at "go") => `(tactic| repeat (first
      | with_reducible refine g_seq ?_
      | with_reducible refine g_next ?_
      | with_reducible refine g_asg ?_
      | with_reducible refine g_name ?_
      | with_reducible refine g_ret ?_
      | with_reducible refine g_drop ?_
      | with_reducible refine g_ifs ?_
      | with_reducible refine g_if ?_
      | with_reducible refine g_c ?_
      | ((with_reducible refine (?_ : tVar _ _ _ _)); refine ⟨_, rfl, ?_⟩)
      | with_reducible refine g_op ?_
      | with_reducible refine g_un ?_
      | with_reducible refine g_I0 ?_
      | with_reducible refine g_neg ?_
      | with_reducible refine g_eqI ?_
      | with_reducible refine g_eqS ?_
      | with_reducible refine g_neI ?_
      | with_reducible refine g_neS ?_
      | with_reducible refine g_eqB ?_
      | with_reducible refine g_neB ?_
      | with_reducible refine g_test ?_
      | with_reducible refine g_b ?_
      | with_reducible refine g_and ?_
      | with_reducible refine g_or ?_
      | with_reducible refine g_not ?_
      | with_reducible refine g_andV ?_
      | with_reducible refine g_orV ?_
      | with_reducible refine g_notV ?_
      | with_reducible refine iteT ?_
      | with_reducible refine iteF ?_
      | with_reducible refine iteNF ?_
      | with_reducible refine iteNT ?_
      | with_reducible refine ⟨_, rfl, ?_⟩
      | with_reducible refine ⟨rfl, ?_⟩
      | with_reducible refine ⟨_, _, rfl, rfl, ?_⟩
      | with_reducible refine ⟨_, _, rfl, ?_⟩
      | with_reducible refine g_call ?_
      | with_reducible refine g_cb ?_
      | with_reducible refine g_cons ?_
      | with_reducible refine g_nil ?_
      | with_reducible refine g_chain ?_
      | with_reducible refine g_dget ?_
      | with_reducible refine g_dput ?_
      | with_reducible refine g_tup ?_
      | with_reducible refine g_lst ?_
      | with_reducible refine g_bm ?_
      | with_reducible refine g_disp ?_
      | with_reducible refine g_pairs0 ?_
      | with_reducible refine g_pairs ?_
      | with_reducible refine g_for ?_
      | with_reducible refine g_gcons ?_
      | with_reducible refine g_gnil ?_
      | with_reducible refine g_rng1 ?_
      | with_reducible refine g_rng2 ?_
      | with_reducible refine g_ilist ?_
      | with_reducible refine g_itup ?_
      | with_reducible refine g_lc ?_
      | with_reducible refine g_yes ?_
      | with_reducible refine g_sl ?_
      | with_reducible refine g_nopart ?_
      | with_reducible refine g_part ?_
      | with_reducible refine g_bm0 ?_
      ))

local macro_rules
  | `(tactic| walk_at "ev") => `(tactic| repeat' (first
      | exact eva_nil
      | apply eva_cons
      | exact evd_str _
      | exact evd_int _
      | exact evd_bl _
      | exact evd_non
      | exact evd_var rfl
      | apply evd_tup
      | apply evd_lst
      | apply evd_I0
      | apply evd_I
      | apply evd_neg
      | exact Nat.le_of_ble_eq_true rfl
      | decide
      | exact ⟨by decide, by decide, by decide⟩))
def topS (i : Nat) : Stmt := PySem.Challenge.pw_contractbook_k04_markets_refused.main.body.getD i (.Pass ⟨0, 0, 0, 0⟩)
/-! ### the law's own drawing: what stands in the dict of the script -/
structure Cfg where
  sz : Int
  pl : Int
  tu : Int
  ta : Int
structure Cfg.Ok (c : Cfg) : Prop where
  sz1 : 1 ≤ c.sz
  sz8 : c.sz ≤ 8
  pl0 : 0 ≤ c.pl
  plz : c.pl < c.sz
  tu0 : 0 ≤ c.tu
  tuz : c.tu < 26
  ta : c.ta = 0 ∨ c.ta = 1
def sd (c : Cfg) (na nm : Addr) (n re mx : Int) : List (Key × V) :=
  [(.inr "numbers", .ref na), (.inr "at", .int n), (.inr "size", .int c.sz), (.inr "place", .int c.pl), (.inr "turn", .int c.tu), (.inr "talk", .int c.ta), (.inr "rest", .int re), (.inr "names", .ref nm), (.inr "mixed", .int mx)]
structure LS (K : PySem.W.Frag) (c : Cfg) (ns : List Int) (xs : List Str) (s na nm : Addr) (H : Hp) : Prop where
  st : ∃ n re mx : Int, H s = some (.dK (sd c na nm n re mx)) ∧ 0 ≤ n ∧ 0 ≤ re ∧ 0 ≤ mx ∧ mx < 2147483647
  num : SqL K H na (ns.map V.int)
  nms : SqL K H nm (xs.map V.str)
  ok : c.Ok
  len : ns.length ≤ 63
  few : xs.length ≤ 8
theorem LS.same {K : PySem.W.Frag} {c : Cfg} {ns : List Int} {xs : List Str} {s na nm : Addr} {H H' : Hp} (L : LS K c ns xs s na nm H) (e : Same H H') : LS K c ns xs s na nm H' := by
  obtain ⟨⟨n, re, mx, h, r⟩, h1, h2, h3, h4, h5⟩ := L
  exact ⟨⟨n, re, mx, e _ _ h, r⟩, e.seq h1, e.seq h2, h3, h4, h5⟩
theorem LS.put {K : PySem.W.Frag} {c : Cfg} {ns : List Int} {xs : List Str} {s na nm : Addr} {H : Hp} (L : LS K c ns xs s na nm H) {n re mx : Int} (h0 : 0 ≤ n) (h1 : 0 ≤ re) (h2 : 0 ≤ mx) (h3 : mx < 2147483647) :
    LS K c ns xs s na nm (upd H s (.dK (sd c na nm n re mx))) := by
  obtain ⟨⟨n', re', mx', h, r⟩, g1, g2, g3, g4, g5⟩ := L
  exact ⟨⟨n, re, mx, upd_same, h0, h1, h2, h3⟩, KB.seq KB.upd h g1, KB.seq KB.upd h g2, g3, g4, g5⟩
theorem LS.tm {K : PySem.W.Frag} {c : Cfg} {ns : List Int} {xs : List Str} {s na nm : Addr} {H H' : Hp} (L : LS K c ns xs s na nm H) (e : KB s H H') : TM K H H' := by
  obtain ⟨⟨n, re, mx, h, r⟩, _⟩ := L
  exact e.tm h
/-- a number is taken: 0 up to m -/
def spTaken (K : PySem.W.Frag) : Sp := fun vs H Q _ => ∃ (c : Cfg) (ns : List Int) (xs : List Str) (s na nm : Addr) (m : Int), vs = [.ref s, .int m] ∧ LS K c ns xs s na nm H ∧ 0 < m ∧ m ≤ 10000000000000 ∧
  ∀ (r : Int) (H' : Hp), 0 ≤ r → r < m → KB s H H' → LS K c ns xs s na nm H' → Q (.int r) H'
theorem use_taken {K : PySem.W.Frag} {c : Cfg} {ns : List Int} {xs : List Str} {s na nm : Addr} {m : Int} {H : Hp} {Q : VK} {E : XK} (L : LS K c ns xs s na nm H) (h0 : 0 < m) (h1 : m ≤ 10000000000000)
    (q : ∀ (r : Int) (H' : Hp), 0 ≤ r → r < m → KB s H H' → LS K c ns xs s na nm H' → Q (.int r) H') : spTaken K ([.ref s, .int m] ++ []) H Q E := ⟨c, ns, xs, s, na, nm, m, rfl, L, h0, h1, q⟩
theorem log_small {i m : Int} (h0 : 0 < m) (h1 : m ≤ 10000000000000) : CDivW i m := wide_div (b := 64) h0 (by omega) (by decide) (by decide)
section
variable {P : Program} {w : World} {K : PySem.W.Frag} {mg : Str → Option Value} {base : Heap}
abbrev s__law_taken : Stmt := topS 26
theorem sc__law_taken : FnScope ["_law_s", "_law_most", "_law_found", "_law_number_here"] ["_law_s", "_law_most"] (defScope s__law_taken) := ⟨rfl, rfl, rfl, by decide +kernel, rfl, by decide +kernel, by decide +kernel⟩
theorem h__law_taken {k : Nat} {f : Addr} {fd : FuncData} (O : Own K mg "_law_taken" s__law_taken ["_law_s", "_law_most"] f fd)  (m_len : mg "len" = none) (m_int : mg "int" = none) : Has P w K mg base "_law_taken" ["_law_s", "_law_most"] (k + 1) CX0 (spTaken K) f fd := by
  refine O.has (O.F.ok sc__law_taken (fun vs H Q E h => ?_) (fun cdv A outer s H vs Q E hr h => ?_))
  · obtain ⟨c, ns, xs, s, na, nm, m, rfl, _⟩ := h
    rfl
  obtain ⟨c, ns, xs, s, na, nm, m, rfl, L, h0, h1, q⟩ := h
  obtain ⟨n, re, mx, hs, g0, g1, g2, g3⟩ := L.st
  refine ⟨_, (pss_cons (ps_if (pt_cmpR op_gt (pe_dget (hu_of hr) (pv 0) pe_str (fun _ _ => rfl)) pe_int (nomark _)) (pss_cons (ps_set (i := 2) sc__law_taken.nd rfl (.inl rfl) (pe_op op_mod (pe_dget (hu_of hr) (pv 0) pe_str (fun _ _ => rfl)) (pv 1))) (pss_cons (ps_dput (hu_of hr) (pv 0) pe_str (pe_op op_fdivW (pe_dget (hu_of hr) (pv 0) pe_str (fun _ _ => rfl)) (pv 1)) (by rfl)) (pss_one (ps_ret (pv 2))))) pss_nil) (pss_cons (ps_dput (hu_of hr) (pv 0) pe_str (pe_op op_add (pe_dget (hu_of hr) (pv 0) pe_str (fun _ _ => rfl)) pe_int) (by rfl)) (pss_cons (ps_if (pt_cmpR op_le (pe_dget (hu_of hr) (pv 0) pe_str (fun _ _ => rfl)) (pe_callB call_len_seq (by rfl) m_len (by decide +kernel) (pa_cons (pe_dget (hu_of hr) (pv 0) pe_str (fun _ _ => rfl)) pa_nil)) (nomark _)) (pss_cons (ps_set (i := 3) sc__law_taken.nd rfl (.inl rfl) (pe_ix ix_list (pe_dget (hu_of hr) (pv 0) pe_str (fun _ _ => rfl)) (pe_op op_sub (pe_dget (hu_of hr) (pv 0) pe_str (fun _ _ => rfl)) pe_int) (fun _ _ => rfl))) (pss_cons (ps_dput (hu_of hr) (pv 0) pe_str (pe_op op_mul (pe_op op_fdivW (pv 3) (pv 1)) (pe_callTy call_int1 (by rfl) m_int (by decide +kernel) (pa_cons (pe_cmpR op_ge (pv 3) (pe_op op_pow pe_int pe_int) (nomark _)) pa_nil))) (by rfl)) (pss_one (ps_ret (pe_op op_mod (pv 3) (pv 1)))))) pss_nil) (pss_cons (ps_dput (hu_of hr) (pv 0) pe_str (pe_op op_mod (pe_op op_mul (pe_dget (hu_of hr) (pv 0) pe_str (fun _ _ => rfl)) pe_int) pe_int) (by rfl)) (pss_one (ps_ret (pe_ifExp (pt_cmpR op_gt (pv 1) (pe_op op_pow pe_int pe_int) (nomark _)) (pe_op op_mod (pe_op op_pow (pe_op op_fdivW (pe_dget (hu_of hr) (pv 0) pe_str (fun _ _ => rfl)) pe_int) pe_int) (pv 1)) (pe_op op_mod (pe_op op_fdivW (pe_dget (hu_of hr) (pv 0) pe_str (fun _ _ => rfl)) pe_int) (pv 1))))))))), ?_⟩
  walk_at "go"
  refine g_key hs (by rfl) ?_
  walk_at "go"
  refine ifd (fun c1 => ?_) (fun c1 => ?_)
  · walk_at "go"
    refine g_key hs (by rfl) ?_
    walk_at "go"
    refine g_I h0 ?_
    walk_at "go"
    refine g_key hs (by rfl) ?_
    walk_at "go"
    refine g_I (log_small h0 h1) ?_
    walk_at "go"
    refine g_put hs (by show 9 < sizeLine; decide) (by rfl) ?_
    walk_at "go"
    exact q _ _ (Int.emod_nonneg _ (by omega)) (Int.emod_lt_of_pos _ h0) KB.upd (L.put g0 (Int.ediv_nonneg g1 (by omega)) g2 g3)
  walk_at "go"
  refine g_key hs (by rfl) ?_
  walk_at "go"
  refine g_put hs (by show 9 < sizeLine; decide) (by rfl) ?_
  have L2 := L.put (n := n + 1) (re := re) (mx := mx) (by omega) g1 g2 g3
  have hs2 : (upd H s (.dK (sd c na nm (n + 1) re mx))) s = some (.dK (sd c na nm (n + 1) re mx)) := upd_same
  walk_at "go"
  refine g_key hs2 (by rfl) ?_
  walk_at "go"
  refine g_key hs2 (by rfl) ?_
  walk_at "go"
  refine ⟨_, _, rfl, .inl L2.num, ?_⟩
  walk_at "go"
  refine ifd (fun c2 => ?_) (fun c2 => ?_)
  · walk_at "go"
    refine g_key hs2 (by rfl) ?_
    walk_at "go"
    refine g_key hs2 (by rfl) ?_
    walk_at "go"
    rw [List.length_map] at c2
    have hk : n.toNat < ns.length := by omega
    refine ⟨_, _, _, .int ns[n.toNat], rfl, rfl, L2.num, at_of (j := n.toNat) (by omega) (by rw [List.getElem?_map, List.getElem?_eq_getElem hk]; rfl), ?_⟩
    generalize ns[n.toNat] = z
    walk_at "go"
    refine g_I (log_small h0 h1) ?_
    walk_at "go"
    refine g_I ⟨by decide, by decide, by decide⟩ ?_
    walk_at "go"
    refine .inr ⟨_, rfl, ?_⟩
    refine g_I (.inr (by split <;> decide)) ?_
    walk_at "go"
    refine g_put hs2 (by show 9 < sizeLine; decide) (by rfl) ?_
    walk_at "go"
    refine g_I h0 ?_
    rw [upd_upd]
    refine q _ _ (Int.emod_nonneg _ (by omega)) (Int.emod_lt_of_pos _ h0) KB.upd (L.put (by omega) ?_ g2 g3)
    by_cases hz : (10 : Int) ^ (18 : Int).toNat ≤ z
    · rw [decide_eq_true hz]
      have : 0 ≤ z := Int.le_trans (by decide) hz
      exact Int.mul_nonneg (Int.ediv_nonneg this (by omega)) (by decide)
    · rw [decide_eq_false hz]
      simp
  walk_at "go"
  refine g_key hs2 (by rfl) ?_
  walk_at "go"
  refine g_I (.inl (by omega)) ?_
  walk_at "go"
  refine g_I (by decide) ?_
  walk_at "go"
  refine g_put hs2 (by show 9 < sizeLine; decide) (by rfl) ?_
  rw [upd_upd]
  have b0 : 0 ≤ mx * 48271 % 2147483647 := Int.emod_nonneg _ (by decide)
  have b1 : mx * 48271 % 2147483647 < 2147483647 := Int.emod_lt_of_pos _ (by decide)
  generalize mx * 48271 % 2147483647 = my at b0 b1 ⊢
  have L3 := L.put (n := n + 1) (re := re) (mx := my) (by omega) g1 b0 b1
  have hs3 : (upd H s (.dK (sd c na nm (n + 1) re my))) s = some (.dK (sd c na nm (n + 1) re my)) := upd_same
  walk_at "go"
  refine g_I ⟨by decide, by decide, by decide⟩ ?_
  walk_at "go"
  refine ifd (fun c3 => ?_) (fun c3 => ?_)
  · walk_at "go"
    refine g_key hs3 (by rfl) ?_
    walk_at "go"
    refine g_I ⟨by decide, by decide⟩ ?_
    walk_at "go"
    refine g_I ⟨by decide, by decide, by omega⟩ ?_
    walk_at "go"
    refine g_I h0 ?_
    exact q _ _ (Int.emod_nonneg _ (by omega)) (Int.emod_lt_of_pos _ h0) KB.upd L3
  · walk_at "go"
    refine g_key hs3 (by rfl) ?_
    walk_at "go"
    refine g_I ⟨by decide, by decide⟩ ?_
    walk_at "go"
    refine g_I h0 ?_
    exact q _ _ (Int.emod_nonneg _ (by omega)) (Int.emod_lt_of_pos _ h0) KB.upd L3
end

/-! ### words, numbers -/
def wordsL : List Str := ["none", "give", "both", "turned", "later", "often", "if", "num", "read", "plus", "below", "all"]
def wd (c : Cfg) (k : Int) : Str := if c.ta = 1 ∧ k < 12 then wordsL.getD k.toNat "none" else rp 113 c.pl ++ ⟨#[97 + ((k + c.tu) % 26).toNat]⟩ ++ rp 113 (c.sz - c.pl - 1)
theorem letters_at : ∀ j : Fin 26, (Str.ofString "abcdefghijklmnopqrstuvwxyz").cps.toList[j.val]? = some (97 + j.val) := by decide +kernel
theorem app_len (a b : Str) : (a ++ b).length = a.length + b.length := by
  show (a.cps ++ b.cps).size = a.cps.size + b.cps.size
  simp
def spWord (K : PySem.W.Frag) : Sp := fun vs H Q _ => ∃ (c : Cfg) (ns : List Int) (xs : List Str) (s na nm : Addr) (k : Int), vs = [.ref s, .int k] ∧ LS K c ns xs s na nm H ∧ 0 ≤ k ∧ k ≤ 1000 ∧ ∀ H', Same H H' → Q (.str (wd c k)) H'
theorem use_word {K : PySem.W.Frag} {c : Cfg} {ns : List Int} {xs : List Str} {s na nm : Addr} {k : Int} {H : Hp} {Q : VK} {E : XK} (L : LS K c ns xs s na nm H) (h0 : 0 ≤ k) (h1 : k ≤ 1000) (q : ∀ H', Same H H' → Q (.str (wd c k)) H') :
    spWord K ([.ref s, .int k] ++ []) H Q E := ⟨c, ns, xs, s, na, nm, k, rfl, L, h0, h1, q⟩
def spNumber (K : PySem.W.Frag) : Sp := fun vs H Q _ => ∃ (c : Cfg) (ns : List Int) (xs : List Str) (s na nm : Addr), vs = [.ref s] ∧ LS K c ns xs s na nm H ∧
  ∀ (r : Int) (H' : Hp), -1000000000000 < r → r < 1000000000000 → KB s H H' → LS K c ns xs s na nm H' → Q (.int r) H'
theorem use_number {K : PySem.W.Frag} {c : Cfg} {ns : List Int} {xs : List Str} {s na nm : Addr} {H : Hp} {Q : VK} {E : XK} (L : LS K c ns xs s na nm H)
    (q : ∀ (r : Int) (H' : Hp), -1000000000000 < r → r < 1000000000000 → KB s H H' → LS K c ns xs s na nm H' → Q (.int r) H') : spNumber K ([.ref s] ++ []) H Q E := ⟨c, ns, xs, s, na, nm, rfl, L, q⟩
section
variable {P : Program} {w : World} {K : PySem.W.Frag} {mg : Str → Option Value} {base : Heap}
abbrev s__law_word : Stmt := topS 27
theorem sc__law_word : FnScope ["_law_s", "_law_k", "_law_words", "_law_sign"] ["_law_s", "_law_k"] (defScope s__law_word) := ⟨rfl, rfl, rfl, by decide +kernel, rfl, by decide +kernel, by decide +kernel⟩
theorem h__law_word {k : Nat} {f : Addr} {fd : FuncData} (O : Own K mg "_law_word" s__law_word ["_law_s", "_law_k"] f fd)  : Has P w K mg base "_law_word" ["_law_s", "_law_k"] (k + 1) CX0 (spWord K) f fd := by
  refine O.has (O.F.ok sc__law_word (fun vs H Q E h => ?_) (fun cdv A outer s H vs Q E hr h => ?_))
  · obtain ⟨c, ns, xs, s, na, nm, k, rfl, _⟩ := h
    rfl
  obtain ⟨c, ns, xs, s, na, nm, k, rfl, L, h0, h1, q⟩ := h
  obtain ⟨n, re, mx, hs, g0, g1, g2, g3⟩ := L.st
  have c0 := L.ok
  refine ⟨_, (pss_cons (ps_if (PW.pt (pw_and (pt_cmpR op_eq (pe_dget (hu_of hr) (pv 0) pe_str (fun _ _ => rfl)) pe_int (nomark _)) (pw_and1 (pt_cmpR op_lt (pv 1) pe_int (nomark _))))) (pss_cons (ps_set (i := 2) sc__law_word.nd rfl (.inl rfl) (pe_lst (pa_cons pe_str (pa_cons pe_str (pa_cons pe_str (pa_cons pe_str (pa_cons pe_str (pa_cons pe_str (pa_cons pe_str (pa_cons pe_str (pa_cons pe_str (pa_cons pe_str (pa_cons pe_str (pa_cons pe_str pa_nil)))))))))))))) (pss_one (ps_ret (pe_ix ix_list (pv 2) (pv 1) (fun _ _ => rfl))))) pss_nil) (pss_cons (ps_set (i := 3) sc__law_word.nd rfl (.inl rfl) (pe_ix ix_str pe_str (pe_op op_mod (pe_op op_add (pv 1) (pe_dget (hu_of hr) (pv 0) pe_str (fun _ _ => rfl))) pe_int) (fun _ _ => rfl))) (pss_one (ps_ret (pe_op op_add_str (pe_op op_add_str (pe_op op_rep_str pe_str (pe_dget (hu_of hr) (pv 0) pe_str (fun _ _ => rfl))) (pv 3)) (pe_op op_rep_str pe_str (pe_op op_sub (pe_op op_sub (pe_dget (hu_of hr) (pv 0) pe_str (fun _ _ => rfl)) (pe_dget (hu_of hr) (pv 0) pe_str (fun _ _ => rfl))) pe_int))))))), ?_⟩
  have tail : ∀ (H1 : Hp), Same H H1 → ¬ (c.ta = 1 ∧ k < 12) → Q (.str (rp 113 c.pl ++ ⟨#[97 + ((k + c.tu) % 26).toNat]⟩ ++ rp 113 (c.sz - c.pl - 1))) H1 := fun H1 e hc => by
    have z := q H1 e
    unfold wd at z
    rw [if_neg hc] at z
    exact z
  walk_at "go"
  refine g_key hs (by rfl) ?_
  walk_at "go"
  refine and_cut (k < 12) (fun hc => ?_) (fun c1 back => ?_)
  · walk_at "go"
    refine g_key hs (by rfl) ?_
    walk_at "go"
    refine g_I (by decide) ?_
    have b0 : 0 ≤ (k + c.tu) % 26 := Int.emod_nonneg _ (by decide)
    have b1 : (k + c.tu) % 26 < 26 := Int.emod_lt_of_pos _ (by decide)
    have bn : ((k + c.tu) % 26).toNat < 26 := by omega
    refine ⟨_, (k + c.tu) % 26, 97 + ((k + c.tu) % 26).toNat, rfl, rfl, by decide +kernel, at_any (j := ((k + c.tu) % 26).toNat) (by omega) (letters_at ⟨((k + c.tu) % 26).toNat, bn⟩), ?_⟩
    walk_at "go"
    refine g_key hs (by rfl) ?_
    have p0 := c0.pl0
    have p1 := c0.plz
    have p2 := c0.sz8
    refine ⟨113, c.pl, rfl, rfl, p0, by omega, ?_⟩
    walk_at "go"
    have e1 : (rp 113 c.pl).length ≤ 8 := by rw [rp_len]; omega
    have e2 : (⟨#[97 + ((k + c.tu) % 26).toNat]⟩ : Str).length = 1 := rfl
    have hz : (1000 : Nat) ≤ sizeLine := by decide
    refine ⟨by omega, ?_⟩
    walk_at "go"
    refine g_key hs (by rfl) ?_
    walk_at "go"
    refine g_key hs (by rfl) ?_
    walk_at "go"
    refine ⟨113, c.sz - c.pl - 1, rfl, rfl, by omega, by omega, ?_⟩
    have e3 : (rp 113 (c.sz - c.pl - 1)).length ≤ 8 := by rw [rp_len]; omega
    walk_at "go"
    refine ⟨?_, ?_⟩
    · rw [app_len]; omega
    · exact tail H (Same.refl H) hc
  · walk_at "go"
    refine ifd (fun c2 => ?_) back
    walk_at "go"
    refine ⟨by show 12 ≤ sizeLine; decide, fun p hp => ?_⟩
    walk_at "go"
    have hk : k.toNat < wordsL.length := by show k.toNat < 12; omega
    have hi : (wordsL.map V.str)[k.toNat]? = some (.str (wordsL.getD k.toNat "none")) := by
      rw [List.getElem?_map, List.getD, List.getElem?_eq_getElem hk]
      rfl
    refine ⟨_, wordsL.map V.str, _, _, rfl, rfl, sql upd_same, at_of (j := k.toNat) (by omega) hi, ?_⟩
    have z := q _ (same_new (o := .lst (wordsL.map V.str)) hp)
    unfold wd at z
    rw [if_pos ⟨c1, c2⟩] at z
    exact z
abbrev s__law_number : Stmt := topS 28
theorem sc__law_number : FnScope ["_law_s"] ["_law_s"] (defScope s__law_number) := ⟨rfl, rfl, rfl, by decide +kernel, rfl, by decide +kernel, by decide +kernel⟩
theorem h__law_number {k : Nat} {f : Addr} {fd : FuncData} (O : Own K mg "_law_number" s__law_number ["_law_s"] f fd)  {f__law_taken : Addr} {fd__law_taken : FuncData} (D__law_taken : Has P w K mg base "_law_taken" ["_law_s", "_law_most"] k CX0 (spTaken K) f__law_taken fd__law_taken) : Has P w K mg base "_law_number" ["_law_s"] (k + 1) CX0 (spNumber K) f fd := by
  refine O.has (O.F.ok sc__law_number (fun vs H Q E h => ?_) (fun cdv A outer s H vs Q E hr h => ?_))
  · obtain ⟨c, ns, xs, s, na, nm, rfl, _⟩ := h
    rfl
  obtain ⟨c, ns, xs, s, na, nm, rfl, L, q⟩ := h
  refine ⟨_, (pss_cons (ps_if (pt_cmpR op_eq (pe_call D__law_taken.G hr (by rfl) D__law_taken.g D__law_taken.k D__law_taken.b .nil pass0 (pa_cons (pv 0) (pa_cons pe_int pa_nil))) pe_int (nomark _)) (pss_one (ps_ret (pe_op op_add (pe_op op_sub (pe_call D__law_taken.G hr (by rfl) D__law_taken.g D__law_taken.k D__law_taken.b .nil pass0 (pa_cons (pv 0) (pa_cons (pe_op op_sub (pe_op op_mul pe_int (pe_op op_pow pe_int pe_int)) pe_int) pa_nil))) (pe_op op_pow pe_int pe_int)) pe_int))) pss_nil) (pss_one (ps_ret (pe_op op_sub (pe_call D__law_taken.G hr (by rfl) D__law_taken.g D__law_taken.k D__law_taken.b .nil pass0 (pa_cons (pv 0) (pa_cons pe_int pa_nil))) pe_int)))), ?_⟩
  walk_at "go"
  refine use_taken L (by decide) (by decide) fun r H1 a0 a1 e1 L1 => ?_
  walk_at "go"
  refine ifd (fun c1 => ?_) (fun c1 => ?_)
  · walk_at "go"
    refine g_I ⟨by decide, by decide, by decide⟩ ?_
    walk_at "go"
    refine g_I (.inl ⟨by decide, by decide⟩) ?_
    walk_at "go"
    refine use_taken L1 (by decide) (by decide) fun r2 H2 b0 b1 e2 L2 => ?_
    walk_at "go"
    refine g_I ⟨by decide, by decide, by decide⟩ ?_
    walk_at "go"
    have e : (10 : Int) ^ (12 : Int).toNat = 1000000000000 := by decide
    rw [e] at b1 ⊢
    exact q _ _ (by omega) (by omega) (e1.trans e2) L2
  · walk_at "go"
    refine use_taken L1 (by decide) (by decide) fun r2 H2 b0 b1 e2 L2 => ?_
    walk_at "go"
    exact q _ _ (by omega) (by omega) (e1.trans e2) L2
end

/-! ### words are words, and differ -/
def isW (x : Str) : Bool := decide (1 ≤ x.length) && (decide (x.length ≤ 8) && x.cps.toList.all fun c => decide (97 ≤ c) && decide (c ≤ 122))
theorem wd_codes {c : Cfg} {k : Int} (h : ¬ (c.ta = 1 ∧ k < 12)) : (wd c k).cps.toList = List.replicate c.pl.toNat 113 ++ (97 + ((k + c.tu) % 26).toNat) :: List.replicate (c.sz - c.pl - 1).toNat 113 := by
  unfold wd
  rw [if_neg h]
  show ((rp 113 c.pl).cps ++ #[97 + ((k + c.tu) % 26).toNat] ++ (rp 113 (c.sz - c.pl - 1)).cps).toList = _
  simp [rp]
theorem talk_words : ∀ i : Fin 12, isW (wordsL.getD i.val "none") = true := by decide +kernel
theorem talk_ne : ∀ i j : Fin 12, wordsL.getD i.val "none" = wordsL.getD j.val "none" → i = j := by decide +kernel
theorem wd_word {c : Cfg} (ok : c.Ok) {k : Int} (h0 : 0 ≤ k) : isW (wd c k) = true := by
  by_cases h : c.ta = 1 ∧ k < 12
  · unfold wd
    rw [if_pos h]
    exact talk_words ⟨k.toNat, by omega⟩
  · have e := wd_codes h
    have h1 := ok.pl0
    have h2 := ok.plz
    have h3 := ok.sz8
    have l : (wd c k).length = c.pl.toNat + (1 + (c.sz - c.pl - 1).toNat) := by
      show (wd c k).cps.size = _
      rw [← Array.length_toList, e]
      simp
      omega
    unfold isW
    rw [l, e]
    have b0 : 0 ≤ (k + c.tu) % 26 := Int.emod_nonneg _ (by decide)
    have b1 : (k + c.tu) % 26 < 26 := Int.emod_lt_of_pos _ (by decide)
    simp only [Bool.and_eq_true, decide_eq_true_eq, List.all_eq_true, List.mem_append, List.mem_cons, List.mem_replicate]
    refine ⟨by omega, by omega, fun x hx => ?_⟩
    rcases hx with hx | hx | hx <;> omega
theorem wd_ne {c : Cfg} (ok : c.Ok) {i j : Int} (h0 : 0 ≤ i) (h1 : i < 12) (h2 : 0 ≤ j) (h3 : j < 12) (h : i ≠ j) : wd c i ≠ wd c j := fun e => by
  by_cases ht : c.ta = 1
  · have e1 : wd c i = wordsL.getD i.toNat "none" := by unfold wd; rw [if_pos ⟨ht, h1⟩]
    have e2 : wd c j = wordsL.getD j.toNat "none" := by unfold wd; rw [if_pos ⟨ht, h3⟩]
    rw [e1, e2] at e
    have := talk_ne ⟨i.toNat, by omega⟩ ⟨j.toNat, by omega⟩ e
    have := congrArg Fin.val this
    simp at this
    omega
  · have q := congrArg (fun z : Str => z.cps.toList) e
    simp only [wd_codes (fun z => ht z.1)] at q
    have q2 := List.append_cancel_left q
    have q3 := (List.cons.inj q2).1
    omega
theorem isW_short {x : Str} (h : isW x = true) : szOk (.str x) = true := by
  unfold isW at h
  simp only [Bool.and_eq_true, decide_eq_true_eq] at h
  show decide (x.length ≤ 1000) = true
  exact decide_eq_true (by omega)

/-! ### the drawing's beginning -/
def spBegun (K : PySem.W.Frag) : Sp := fun vs H Q _ => ∃ (ns : List Int) (na : Addr), vs = [.ref na] ∧ SqL K H na (ns.map V.int) ∧ ns.length ≤ 63 ∧
  ∀ (c : Cfg) (s nm : Addr) (H' : Hp), Same H H' → H s = none → LS K c ns [] s na nm H' → Q (.ref s) H'
theorem use_begun {K : PySem.W.Frag} {ns : List Int} {na : Addr} {H : Hp} {Q : VK} {E : XK} (h : SqL K H na (ns.map V.int)) (hl : ns.length ≤ 63)
    (q : ∀ (c : Cfg) (s nm : Addr) (H' : Hp), Same H H' → H s = none → LS K c ns [] s na nm H' → Q (.ref s) H') : spBegun K ([.ref na] ++ []) H Q E := ⟨ns, na, rfl, h, hl, q⟩
def sd0 (na : Addr) : List (Key × V) :=
  [(.inr "numbers", .ref na), (.inr "at", .int 0), (.inr "size", .int 1), (.inr "place", .int 0), (.inr "turn", .int 0), (.inr "talk", .int 0), (.inr "rest", .int 0)]
def cfg0 : Cfg := ⟨1, 0, 0, 0⟩
theorem cfg0_ok : cfg0.Ok := ⟨by decide, by decide, by decide, by decide, by decide, by decide, .inl rfl⟩
/-- a number of the dict is set anew -/
theorem LS.cfg {K : PySem.W.Frag} {c c' : Cfg} {ns : List Int} {xs : List Str} {s na nm : Addr} {H : Hp} {n re mx : Int} (L : LS K c ns xs s na nm H) (h0 : 0 ≤ n) (h1 : 0 ≤ re) (h2 : 0 ≤ mx) (h3 : mx < 2147483647) (ok : c'.Ok) :
    LS K c' ns xs s na nm (upd H s (.dK (sd c' na nm n re mx))) := by
  obtain ⟨⟨n', re', mx', h, r⟩, g1, g2, g3, g4, g5⟩ := L
  exact ⟨⟨n, re, mx, upd_same, h0, h1, h2, h3⟩, KB.seq KB.upd h g1, KB.seq KB.upd h g2, ok, g4, g5⟩
theorem same_kb {s : Addr} {H H1 H2 : Hp} (a : Same H H1) (n : H s = none) (b : KB s H1 H2) : Same H H2 := fun x o h => b x o (ne_of_none h n) (a x o h)
section
variable {P : Program} {w : World} {K : PySem.W.Frag} {mg : Str → Option Value} {base : Heap}
abbrev s__law_begun : Stmt := topS 25
theorem sc__law_begun : FnScope ["_law_script", "_law_mixed", "_law_cell", "_law_s"] ["_law_script"] (defScope s__law_begun) := ⟨rfl, rfl, rfl, by decide +kernel, rfl, by decide +kernel, by decide +kernel⟩
theorem h__law_begun {k : Nat} {f : Addr} {fd : FuncData} (O : Own K mg "_law_begun" s__law_begun ["_law_script"] f fd)  {f__law_taken : Addr} {fd__law_taken : FuncData} (D__law_taken : Has P w K mg base "_law_taken" ["_law_s", "_law_most"] k CX0 (spTaken K) f__law_taken fd__law_taken) (m_int : mg "int" = none) (m_len : mg "len" = none) : Has P w K mg base "_law_begun" ["_law_script"] (k + 1) CX0 (spBegun K) f fd := by
  refine O.has (O.F.ok sc__law_begun (fun vs H Q E h => ?_) (fun cdv A outer s H vs Q E hr h => ?_))
  · obtain ⟨ns, na, rfl, _⟩ := h
    rfl
  obtain ⟨ns, na, rfl, hS, h63, q⟩ := h
  refine ⟨_, (pss_cons (ps_set (i := 1) sc__law_begun.nd rfl (.inl rfl) pe_int) (pss_cons (ps_for PassesOwn.never rfl (pi_list (pv 0)) (pg_name (i := 2) sc__law_begun.nd rfl (.inl rfl)) (pss_one (ps_set (i := 1) sc__law_begun.nd rfl (.inl rfl) (pe_op op_mod (pe_op op_add (pe_op op_add (pe_op op_mul (pv 1) pe_int) (pe_op op_mul (pv 2) pe_int)) pe_int) pe_int)))) (pss_cons (ps_set (i := 3) sc__law_begun.nd rfl (.inl rfl) (pe_disp (pps_cons pe_str (pv 0) (pps_cons pe_str pe_int (pps_cons pe_str pe_int (pps_cons pe_str pe_int (pps_cons pe_str pe_int (pps_cons pe_str pe_int (pps_cons pe_str pe_int pps_nil))))))) (by rfl) (by rfl) (fun z => by cases z) (by decide))) (pss_cons (ps_dput (hu_of hr) (pv 3) pe_str (pe_lst pa_nil) (by rfl)) (pss_cons (ps_dput (hu_of hr) (pv 3) pe_str (pe_op op_mul (pv 1) (pe_callTy call_int1 (by rfl) m_int (by decide +kernel) (pa_cons (pe_cmpR op_gt (pe_callB call_len_seq (by rfl) m_len (by decide +kernel) (pa_cons (pv 0) pa_nil)) pe_int (nomark _)) pa_nil))) (by rfl)) (pss_cons (ps_dput (hu_of hr) (pv 3) pe_str (pe_op op_add pe_int (pe_call D__law_taken.G hr (by rfl) D__law_taken.g D__law_taken.k D__law_taken.b .nil pass0 (pa_cons (pv 3) (pa_cons pe_int pa_nil)))) (by rfl)) (pss_cons (ps_dput (hu_of hr) (pv 3) pe_str (pe_call D__law_taken.G hr (by rfl) D__law_taken.g D__law_taken.k D__law_taken.b .nil pass0 (pa_cons (pv 3) (pa_cons (pe_dget (hu_of hr) (pv 3) pe_str (fun _ _ => rfl)) pa_nil))) (by rfl)) (pss_cons (ps_dput (hu_of hr) (pv 3) pe_str (pe_call D__law_taken.G hr (by rfl) D__law_taken.g D__law_taken.k D__law_taken.b .nil pass0 (pa_cons (pv 3) (pa_cons pe_int pa_nil))) (by rfl)) (pss_cons (ps_dput (hu_of hr) (pv 3) pe_str (pe_callTy call_int1 (by rfl) m_int (by decide +kernel) (pa_cons (pe_cmpR op_eq (pe_call D__law_taken.G hr (by rfl) D__law_taken.g D__law_taken.k D__law_taken.b .nil pass0 (pa_cons (pv 3) (pa_cons pe_int pa_nil))) pe_int (nomark _)) pa_nil)) (by rfl)) (pss_one (ps_ret (pv 3)))))))))))), ?_⟩
  walk_at "go"
  refine ⟨⟨_, hS⟩, for_list (xs := ns.map V.int) (fun i σ H3 => H3 = H ∧ ∃ (m : Int) (y : Option V), σ = [some (.ref na), some (.int m), y, none] ∧ 0 ≤ m ∧ m < 2147483647)
    ⟨rfl, 0, none, rfl, by decide, by decide⟩ (fun i σ H3 hi hW => ?_) (fun i x σ H3 hx hW => ?_) (fun σ H3 hW => ?_)⟩
  · obtain ⟨rfl, _⟩ := hW
    exact hS
  · obtain ⟨rfl, m, y, rfl, m0, m1⟩ := hW
    rw [List.getElem?_map] at hx
    obtain ⟨z, hz, rfl⟩ := Option.map_eq_some_iff.mp hx
    walk_at "go"
    refine g_I (.inl (by omega)) ?_
    walk_at "go"
    refine g_I (.inr (by decide)) ?_
    walk_at "go"
    refine g_I (by decide) ?_
    walk_at "go"
    exact ⟨Int.emod_nonneg _ (by decide), Int.emod_lt_of_pos _ (by decide)⟩
  obtain ⟨rfl, m, y, rfl, m0, m1⟩ := hW
  walk_at "go"
  intro s nsn
  walk_at "go"
  refine ⟨upd_same, sd0 na, rfl, by show 7 ≤ 15; decide, ?_⟩
  rw [upd_upd]
  have s1 := same_new (o := .dK (sd0 na)) nsn
  have hs1 : (upd H3 s (.dK (sd0 na))) s = some (.dK (sd0 na)) := upd_same
  show _
  walk_at "go"
  refine ⟨by show 0 ≤ sizeLine; decide, fun nm nn => ?_⟩
  walk_at "go"
  have s2 := same_new (o := .lst []) nn
  have hsn : s ≠ nm := ne_of_none hs1 nn
  refine g_put (s2 _ _ hs1) (by show 7 < sizeLine; decide) (by rfl) ?_
  walk_at "go"
  refine ⟨_, _, rfl, .inl (KB.seq KB.upd (s2 _ _ hs1) ((s1.trans s2).seq hS)), ?_⟩
  walk_at "go"
  refine .inr ⟨_, rfl, ?_⟩
  refine g_I (.inl (by omega)) ?_
  walk_at "go"
  refine g_put upd_same (by show 8 < sizeLine; decide) (by rfl) ?_
  rw [upd_upd]
  have hmx : 0 ≤ m * (if decide (2 < (((ns.map V.int).length : Nat) : Int)) = true then 1 else 0) ∧ m * (if decide (2 < (((ns.map V.int).length : Nat) : Int)) = true then 1 else 0) < 2147483647 := by
    split <;> omega
  generalize m * (if decide (2 < (((ns.map V.int).length : Nat) : Int)) = true then 1 else 0) = mx at hmx ⊢
  have L1 : LS K cfg0 ns [] s na nm (upd (upd (upd H3 s (.dK (sd0 na))) nm (.lst [])) s (.dK (sd cfg0 na nm 0 0 mx))) :=
    ⟨⟨0, 0, mx, upd_same, by decide, by decide, hmx.1, hmx.2⟩, KB.seq KB.upd (s2 _ _ hs1) ((s1.trans s2).seq hS), sql (by rw [upd_ne hsn.symm]; exact upd_same), cfg0_ok, h63, by decide⟩
  have e1 : Same H3 (upd (upd (upd H3 s (.dK (sd0 na))) nm (.lst [])) s (.dK (sd cfg0 na nm 0 0 mx))) := same_kb (s1.trans s2) nsn KB.upd
  show tSeq _ _ _ _ (upd (upd (upd H3 s (.dK (sd0 na))) nm (.lst [])) s (.dK (sd cfg0 na nm 0 0 mx)))
  generalize upd (upd (upd H3 s (.dK (sd0 na))) nm (.lst [])) s (.dK (sd cfg0 na nm 0 0 mx)) = H4 at L1 e1 ⊢
  -- size
  walk_at "go"
  refine use_taken L1 (by decide) (by decide) fun a H5 a0 a1 e5 L5 => ?_
  walk_at "go"
  obtain ⟨n5, re5, mx5, hs5, g0, g1, g2, g3⟩ := L5.st
  refine g_put hs5 (by show 9 < sizeLine; decide) (by rfl) ?_
  have L6 := L5.cfg (c' := ⟨1 + a, 0, 0, 0⟩) g0 g1 g2 g3 ⟨by show 1 ≤ 1 + a; omega, by show 1 + a ≤ 8; omega, Int.le_refl 0, by show 0 < 1 + a; omega, Int.le_refl 0, (by decide : (0 : Int) < 26), .inl rfl⟩
  have hs6 : upd H5 s (.dK (sd ⟨1 + a, 0, 0, 0⟩ na nm n5 re5 mx5)) s = some (.dK (sd ⟨1 + a, 0, 0, 0⟩ na nm n5 re5 mx5)) := upd_same
  have e6 : KB s H4 (upd H5 s (.dK (sd ⟨1 + a, 0, 0, 0⟩ na nm n5 re5 mx5))) := e5.trans KB.upd
  -- place
  walk_at "go"
  refine g_key hs6 (by rfl) ?_
  walk_at "go"
  refine use_taken L6 (by show 0 < 1 + a; omega) (by show 1 + a ≤ 10000000000000; omega) fun b H7 b0 b1 e7 L7 => ?_
  walk_at "go"
  obtain ⟨n7, re7, mx7, hs7, i0, i1, i2, i3⟩ := L7.st
  refine g_put hs7 (by show 9 < sizeLine; decide) (by rfl) ?_
  have L8 := L7.cfg (c' := ⟨1 + a, b, 0, 0⟩) i0 i1 i2 i3 ⟨by show 1 ≤ 1 + a; omega, by show 1 + a ≤ 8; omega, b0, b1, Int.le_refl 0, (by decide : (0 : Int) < 26), .inl rfl⟩
  -- turn
  walk_at "go"
  refine use_taken L8 (by decide) (by decide) fun t H9 t0 t1 e9 L9 => ?_
  walk_at "go"
  obtain ⟨n9, re9, mx9, hs9, j0, j1, j2, j3⟩ := L9.st
  refine g_put hs9 (by show 9 < sizeLine; decide) (by rfl) ?_
  have L10 := L9.cfg (c' := ⟨1 + a, b, t, 0⟩) j0 j1 j2 j3 ⟨by show 1 ≤ 1 + a; omega, by show 1 + a ≤ 8; omega, b0, b1, t0, t1, .inl rfl⟩
  -- talk
  walk_at "go"
  refine use_taken L10 (by decide) (by decide) fun u H11 u0 u1 e11 L11 => ?_
  walk_at "go"
  refine .inr ⟨_, rfl, ?_⟩
  walk_at "go"
  obtain ⟨n11, re11, mx11, hs11, k0, k1, k2, k3⟩ := L11.st
  refine g_put hs11 (by show 9 < sizeLine; decide) (by rfl) ?_
  have L12 := L11.cfg (c' := ⟨1 + a, b, t, if decide (u = 8) = true then 1 else 0⟩) k0 k1 k2 k3 ⟨by show 1 ≤ 1 + a; omega, by show 1 + a ≤ 8; omega, b0, b1, t0, t1, by
    show (if decide (u = 8) = true then (1 : Int) else 0) = 0 ∨ (if decide (u = 8) = true then (1 : Int) else 0) = 1
    split
    · exact .inr rfl
    · exact .inl rfl⟩
  walk_at "go"
  refine q _ s nm _ (same_kb e1 nsn ?_) nsn L12
  exact ((((((e6.trans e7).trans KB.upd).trans e9).trans KB.upd).trans e11).trans KB.upd)
end

/-! ### words and whole numbers -/
def isWh : PyData → Bool
  | .int _ => true
  | _ => false
def spIsWord (K : PySem.W.Frag) (PT : Addr) : Sp := fun vs H Q _ => ∃ (v : V) (d : PyData), vs = [v] ∧ Dp K H v d ∧ szOk d = true ∧ GxR.TabG H PT ∧ ∀ H', Tb PT H H' → Q (.bl (isW' d)) H'
def spWhole (K : PySem.W.Frag) : Sp := fun vs H Q _ => ∃ (v : V) (d : PyData), vs = [v] ∧ Dp K H v d ∧ Q (.bl (isWh d)) H
def spBetween (K : PySem.W.Frag) : Sp := fun vs H Q _ => ∃ (v : V) (d : PyData) (lo hi : Int), vs = [v, .int lo, .int hi] ∧ Dp K H v d ∧ Q (.bl (inB lo hi d)) H
def spAmount (K : PySem.W.Frag) : Sp := fun vs H Q _ => ∃ (v : V) (d : PyData), vs = [v] ∧ Dp K H v d ∧ Q (.bl (inB (-999999999999) 999999999999 d)) H
theorem in_letters (c : Nat) : decide (c ∈ (Str.ofString "abcdefghijklmnopqrstuvwxyz").cps.toList) = (decide (97 ≤ c) && decide (c ≤ 122)) := by
  have e : (Str.ofString "abcdefghijklmnopqrstuvwxyz").cps.toList = (List.range 26).map (97 + ·) := by decide +kernel
  rw [e, Bool.eq_iff_iff]
  simp only [decide_eq_true_eq, List.mem_map, List.mem_range, Bool.and_eq_true]
  constructor
  · rintro ⟨i, h, rfl⟩
    omega
  · intro h
    exact ⟨c - 97, by omega, by omega⟩
theorem use_whole {K : PySem.W.Frag} {H : Hp} {v : V} {d : PyData} {Q : VK} {E : XK} (h : Dp K H v d) (q : Q (.bl (isWh d)) H) : spWhole K ([v] ++ []) H Q E := ⟨v, d, rfl, h, q⟩
theorem use_isWord {K : PySem.W.Frag} {PT : Addr} {H : Hp} {v : V} {d : PyData} {Q : VK} {E : XK} (h : Dp K H v d) (z : szOk d = true) (t : GxR.TabG H PT) (q : ∀ H', Tb PT H H' → Q (.bl (isW' d)) H') : spIsWord K PT ([v] ++ []) H Q E := ⟨v, d, rfl, h, z, t, q⟩
theorem use_between {K : PySem.W.Frag} {H : Hp} {v : V} {d : PyData} {lo hi : Int} {Q : VK} {E : XK} (h : Dp K H v d) (q : Q (.bl (inB lo hi d)) H) : spBetween K ([v, .int lo, .int hi] ++ []) H Q E := ⟨v, d, lo, hi, rfl, h, q⟩
theorem use_amount {K : PySem.W.Frag} {H : Hp} {v : V} {d : PyData} {Q : VK} {E : XK} (h : Dp K H v d) (q : Q (.bl (inB (-999999999999) 999999999999 d)) H) : spAmount K ([v] ++ []) H Q E := ⟨v, d, rfl, h, q⟩
theorem thousand : (1000 : Nat) ≤ sizeLine := by decide
section
variable {P : Program} {w : World} {K : PySem.W.Frag} {mg : Str → Option Value} {base : Heap}
abbrev s_is_word : Stmt := topS 11
theorem sc_is_word : FnScope ["told"] ["told"] (defScope s_is_word) := ⟨rfl, rfl, rfl, by decide +kernel, rfl, by decide +kernel, by decide +kernel⟩
theorem h_is_word {cT PT : Addr} (tb : GxR.TabB base mg cT PT) {k : Nat} {f : Addr} {fd : FuncData} (O : OwnC cT K mg "is_word" s_is_word ["told"] f fd)  (m_all : mg "all" = none) {t_LETTERS : Tok} (m_LETTERS : mg "LETTERS" = some (.str "abcdefghijklmnopqrstuvwxyz" t_LETTERS)) (m_len : mg "len" = none) {t_LONGEST_WORD : Tok} (m_LONGEST_WORD : mg "LONGEST_WORD" = some (.int 8 t_LONGEST_WORD)) (m_isinstance : mg "isinstance" = none) (m_str : mg "str" = none) : Has P w K mg base "is_word" ["told"] (k + 1) CX0 (spIsWord K PT) f fd := by
  refine O.has (O.F.ok sc_is_word (fun vs H Q E h => ?_) (fun A outer s H vs Q E hr h => ?_))
  · obtain ⟨v, d, rfl, _⟩ := h
    rfl
  obtain ⟨v, d, rfl, hd, hz, ht, q⟩ := h
  refine ⟨_, (pss_cons (ps_if (PW.pt (pw_or (pt_not (pt_val (pe_callB call_isi (by rfl) m_isinstance (by decide +kernel) (pa_cons (pv 0) (pa_cons (pe_bltn (v := .ty "str") (by rfl) m_str (by decide +kernel) rfl) pa_nil))))) (pw_or1 (pt_not (pt_chain op_le op_le pe_int (pe_callB call_len_str (by rfl) m_len (by decide +kernel) (pa_cons (pv 0) pa_nil)) (pe_glob (v := .int (8)) (by rfl) m_LONGEST_WORD ⟨_, rfl⟩)))))) (pss_one (ps_ret pe_bl)) pss_nil) (pss_one (ps_ret (pe_allG hr rfl m_all (by decide +kernel) tb rfl ⟨rfl, rfl, by decide +kernel, rfl, rfl, fun y hy hf => absurd hf ((by decide +kernel : ∀ z ∈ _, z.2 ≠ NameKind.free) y hy)⟩ (pv 0) (elm_in rfl rfl rfl m_LETTERS) (fun _ => rfl))))), ?_⟩
  walk_at "go"
  refine use_isStr hd ?_
  cases hd with
  | str x =>
    have e : ∀ H', Tb PT H H' → isW' (.str x) = false → Q (.bl false) H' := fun H' t e => by
      have z := q H' t
      rw [e] at z
      exact z
    have hz : x.length ≤ 1000 := of_decide_eq_true hz
    dsimp only [isStr]
    walk_at "go"
    refine ⟨Nat.le_trans hz thousand, ?_⟩
    walk_at "go"
    refine ifd (fun c => ?_) (fun c => ?_)
    · walk_at "go"
      refine ifdn (fun c2 => ?_) (fun c2 => ?_)
      · walk_at "go"
        refine ⟨_, rfl, x, rfl, ht, fun H2 t => ?_⟩
        have z := q H2 (.grown t)
        have e : (fun c => decide (c ∈ (Str.ofString "abcdefghijklmnopqrstuvwxyz").cps.toList)) = fun c => decide (97 ≤ c) && decide (c ≤ 122) := funext in_letters
        rw [e]
        have e1 : isW' (.str x) = (x.cps.toList.all fun c => decide (97 ≤ c) && decide (c ≤ 122)) := by
          dsimp only [isW']
          rw [decide_eq_true (show 1 ≤ x.length by omega), decide_eq_true (show x.length ≤ 8 by omega)]
          rfl
        rw [e1] at z
        exact z
      · walk_at "go"
        refine e _ (.refl ht) ?_
        dsimp only [isW']
        rw [decide_eq_false (show ¬ x.length ≤ 8 by omega)]
        simp
    · walk_at "go"
      refine e _ (.refl ht) ?_
      dsimp only [isW']
      rw [decide_eq_false (show ¬ 1 ≤ x.length by omega)]
      rfl
  | _ =>
    dsimp only [isStr]
    walk_at "go"
    exact q _ (.refl ht)
abbrev s_is_whole : Stmt := topS 12
theorem sc_is_whole : FnScope ["told"] ["told"] (defScope s_is_whole) := ⟨rfl, rfl, rfl, by decide +kernel, rfl, by decide +kernel, by decide +kernel⟩
theorem h_is_whole {k : Nat} {f : Addr} {fd : FuncData} (O : Own K mg "is_whole" s_is_whole ["told"] f fd)  (m_isinstance : mg "isinstance" = none) (m_bool : mg "bool" = none) (m_int : mg "int" = none) : Has P w K mg base "is_whole" ["told"] (k + 1) CX0 (spWhole K) f fd := by
  refine O.has (O.F.ok sc_is_whole (fun vs H Q E h => ?_) (fun cdv A outer s H vs Q E hr h => ?_))
  · obtain ⟨v, d, rfl, _⟩ := h
    rfl
  obtain ⟨v, d, rfl, hd, q⟩ := h
  refine ⟨_, (pss_one (ps_ret (pe_and (pe_callB call_isi (by rfl) m_isinstance (by decide +kernel) (pa_cons (pv 0) (pa_cons (pe_bltn (v := .ty "int") (by rfl) m_int (by decide +kernel) rfl) pa_nil))) (pe_one (pe_not (pe_callB call_isi (by rfl) m_isinstance (by decide +kernel) (pa_cons (pv 0) (pa_cons (pe_bltn (v := .ty "bool") (by rfl) m_bool (by decide +kernel) rfl) pa_nil)))))))), ?_⟩
  walk_at "go"
  refine use_isInt hd ?_
  refine ⟨_, rfl, ?_⟩
  cases hd with
  | int i =>
    dsimp only [isInt]
    refine iteT ?_
    walk_at "go"
    refine use_isBool (.int i) ?_
    walk_at "go"
    exact q
  | bl i =>
    dsimp only [isInt]
    refine iteT ?_
    walk_at "go"
    refine use_isBool (.bl i) ?_
    walk_at "go"
    exact q
  | _ =>
    dsimp only [isInt]
    walk_at "go"
    exact q
abbrev s_is_between : Stmt := topS 13
theorem sc_is_between : FnScope ["told", "low", "high"] ["told", "low", "high"] (defScope s_is_between) := ⟨rfl, rfl, rfl, by decide +kernel, rfl, by decide +kernel, by decide +kernel⟩
theorem h_is_between {k : Nat} {f : Addr} {fd : FuncData} (O : Own K mg "is_between" s_is_between ["told", "low", "high"] f fd)  {f_is_whole : Addr} {fd_is_whole : FuncData} (D_is_whole : Has P w K mg base "is_whole" ["told"] k CX0 (spWhole K) f_is_whole fd_is_whole) : Has P w K mg base "is_between" ["told", "low", "high"] (k + 1) CX0 (spBetween K) f fd := by
  refine O.has (O.F.ok sc_is_between (fun vs H Q E h => ?_) (fun cdv A outer s H vs Q E hr h => ?_))
  · obtain ⟨v, d, lo, hi, rfl, _⟩ := h
    rfl
  obtain ⟨v, d, lo, hi, rfl, hd, q⟩ := h
  refine ⟨_, (pss_one (ps_ret (pe_and (pe_call D_is_whole.G hr (by rfl) D_is_whole.g D_is_whole.k D_is_whole.b .nil pass0 (pa_cons (pv 0) pa_nil)) (pe_one (pe_chain op_le op_le (pv 1) (pv 0) (pv 2)))))), ?_⟩
  walk_at "go"
  refine use_whole hd ?_
  refine ⟨_, rfl, ?_⟩
  cases hd with
  | int i =>
    have e : inB lo hi (.int i) = (decide (lo ≤ i) && decide (i ≤ hi)) := rfl
    rw [e] at q
    dsimp only [isWh]
    refine iteT ?_
    walk_at "go"
    refine ifd (fun c => ?_) (fun c => ?_)
    · rw [decide_eq_true c] at q
      walk_at "go"
      exact q
    · rw [decide_eq_false c] at q
      exact q
  | _ =>
    dsimp only [isWh]
    refine iteF ?_
    exact q
abbrev s_is_amount : Stmt := topS 14
theorem sc_is_amount : FnScope ["told"] ["told"] (defScope s_is_amount) := ⟨rfl, rfl, rfl, by decide +kernel, rfl, by decide +kernel, by decide +kernel⟩
theorem h_is_amount {k : Nat} {f : Addr} {fd : FuncData} (O : Own K mg "is_amount" s_is_amount ["told"] f fd)  {f_is_whole : Addr} {fd_is_whole : FuncData} (D_is_whole : Has P w K mg base "is_whole" ["told"] k CX0 (spWhole K) f_is_whole fd_is_whole) {t_TOO_LARGE : Tok} (m_TOO_LARGE : mg "TOO_LARGE" = some (.int 1000000000000 t_TOO_LARGE)) : Has P w K mg base "is_amount" ["told"] (k + 1) CX0 (spAmount K) f fd := by
  refine O.has (O.F.ok sc_is_amount (fun vs H Q E h => ?_) (fun cdv A outer s H vs Q E hr h => ?_))
  · obtain ⟨v, d, rfl, _⟩ := h
    rfl
  obtain ⟨v, d, rfl, hd, q⟩ := h
  refine ⟨_, (pss_one (ps_ret (pe_and (pe_call D_is_whole.G hr (by rfl) D_is_whole.g D_is_whole.k D_is_whole.b .nil pass0 (pa_cons (pv 0) pa_nil)) (pe_one (pe_chain op_lt op_lt (pe_un un_neg (pe_glob (v := .int (1000000000000)) (by rfl) m_TOO_LARGE ⟨_, rfl⟩)) (pv 0) (pe_glob (v := .int (1000000000000)) (by rfl) m_TOO_LARGE ⟨_, rfl⟩)))))), ?_⟩
  walk_at "go"
  refine use_whole hd ?_
  refine ⟨_, rfl, ?_⟩
  cases hd with
  | int i =>
    have e : inB (-999999999999) 999999999999 (.int i) = (decide (-1000000000000 < i) && decide (i < 1000000000000)) := by
      unfold inB
      rw [Bool.eq_iff_iff]
      simp only [Bool.and_eq_true, decide_eq_true_eq]
      omega
    rw [e] at q
    dsimp only [isWh]
    refine iteT ?_
    walk_at "go"
    refine ifd (fun c => ?_) (fun c => ?_)
    · have c : -1000000000000 < i := c
      rw [decide_eq_true c] at q
      walk_at "go"
      exact q
    · have c : ¬ -1000000000000 < i := c
      rw [decide_eq_false c] at q
      exact q
  | _ =>
    dsimp only [isWh]
    refine iteF ?_
    exact q
end

/-! ### what a market is -/
def amt (d : PyData) : Bool := inB (-999999999999) 999999999999 d
def okStep : PyData → Bool
  | .tuple [a, b] => amt a && inB 1 999 b
  | _ => false
def byOf : PyData → Int
  | .tuple (.int i :: _) => i
  | _ => 0
def okSteps : PyData → Bool
  | .list ds => decide (1 ≤ ds.length) && (decide (ds.length ≤ 4) && (ds.all okStep && decide (ds.map byOf).Nodup))
  | _ => false
def wordOf : PyData → Str
  | .tuple (.str x :: _) => x
  | _ => Str.empty
def okName : PyData → Bool
  | .tuple [n, b, s] => isW' n && (amt b && okSteps s)
  | _ => false
def okNames : PyData → Bool
  | .list ds => decide (ds.length ≤ 3) && (ds.all okName && decide (ds.map wordOf).Nodup)
  | _ => false
def okMk (l n : PyData) : Bool := inB 0 12 l && okNames n
theorem okStep_tup {d : PyData} (h : okStep d = true) : ∃ i b, d = .tuple [.int i, b] := by
  unfold okStep at h
  split at h
  · rename_i a b
    rw [Bool.and_eq_true] at h
    cases a with
    | int i => exact ⟨i, b, rfl⟩
    | _ => cases h.1
  · cases h
theorem isW_str {d : PyData} (h : isW' d = true) : ∃ x, d = .str x := by
  cases d with
  | str x => exact ⟨x, rfl⟩
  | _ => cases h
theorem okName_tup {d : PyData} (h : okName d = true) : ∃ x b s, d = .tuple [.str x, b, s] ∧ okSteps s = true := by
  unfold okName at h
  split at h
  · rename_i a b s
    rw [Bool.and_eq_true, Bool.and_eq_true] at h
    obtain ⟨x, rfl⟩ := isW_str h.1
    exact ⟨x, b, s, rfl, h.2.2⟩
  · cases h
theorem okSteps_lst {d : PyData} (h : okSteps d = true) : ∃ ds, d = .list ds ∧ ds.length ≤ 4 := by
  unfold okSteps at h
  split at h
  · rename_i ds
    simp only [Bool.and_eq_true, decide_eq_true_eq] at h
    exact ⟨ds, rfl, h.2.1⟩
  · cases h
theorem all_take {f : PyData → Bool} {ds : List PyData} {i : Nat} {d : PyData} (h : ds[i]? = some d) (ok : f d = true) (al : (ds.take i).all f = true) : (ds.take (i + 1)).all f = true := by
  rw [List.take_add_one, h, List.all_append, al]
  simp [ok]
theorem all_no {f : PyData → Bool} {ds : List PyData} {i : Nat} {d : PyData} (h : ds[i]? = some d) (no : f d = false) : ds.all f = false := by
  cases e : ds.all f with
  | false => rfl
  | true => rw [List.all_eq_true.mp e d (List.mem_of_getElem? h)] at no; cases no
def spNSteps (K : PySem.W.Frag) (C : Addr) : Sp := fun vs H Q E => ∃ (v : V) (d : PyData), vs = [v] ∧ Dp K H v d ∧ (okSteps d = true → ∀ H', Same H H' → Q .non H') ∧ (okSteps d = false → ∀ H', Same H H' → E (.ref C) none H')
theorem use_nsteps {K : PySem.W.Frag} {C : Addr} {v : V} {d : PyData} {H : Hp} {Q : VK} {E : XK} (h : Dp K H v d) (q0 : okSteps d = true → ∀ H', Same H H' → Q .non H') (q1 : okSteps d = false → ∀ H', Same H H' → E (.ref C) none H') : spNSteps K C ([v] ++ []) H Q E := ⟨v, d, rfl, h, q0, q1⟩
theorem g_lenU {K : PySem.W.Frag} {ta : TE} {σ : L2.St} {H : Hp} {Q : VK} (h : ta σ H fun x H1 => ∃ l, x = .ref l ∧
  ((∃ ns : List Int, SqL K H1 l (ns.map V.int) ∧ ns.length ≤ 4000 ∧ BkS.Unlike ns fun v => Q v H1) ∨ (∃ xs : List Str, SqL K H1 l (xs.map V.str) ∧ xs.length ≤ 4000 ∧ BkS.Unlike xs fun v => Q v H1))) : BkS.tLenU K ta σ H Q := h
section
variable {P : Program} {w : World} {K : PySem.W.Frag} {mg : Str → Option Value} {base : Heap}
abbrev s__need_steps : Stmt := topS 23
theorem sc__need_steps : FnScope ["steps", "told", "number", "weight"] ["steps"] (defScope s__need_steps) := ⟨rfl, rfl, rfl, by decide +kernel, rfl, by decide +kernel, by decide +kernel⟩
theorem h__need_steps {k : Nat} {f : Addr} {fd : FuncData} (O : Own K mg "_need_steps" s__need_steps ["steps"] f fd) {C_BadMarket : Addr} (X_BadMarket : ExcT K mg "BadMarket" C_BadMarket)  {f_is_between : Addr} {fd_is_between : FuncData} (D_is_between : Has P w K mg base "is_between" ["told", "low", "high"] k CX0 (spBetween K) f_is_between fd_is_between) {f_is_amount : Addr} {fd_is_amount : FuncData} (D_is_amount : Has P w K mg base "is_amount" ["told"] k CX0 (spAmount K) f_is_amount fd_is_amount) (m_len : mg "len" = none) (m_set : mg "set" = none) {t_MOST_WEIGHT : Tok} (m_MOST_WEIGHT : mg "MOST_WEIGHT" = some (.int 999 t_MOST_WEIGHT)) (m_isinstance : mg "isinstance" = none) (m_tuple : mg "tuple" = none) {t_MOST_STEPS : Tok} (m_MOST_STEPS : mg "MOST_STEPS" = some (.int 4 t_MOST_STEPS)) (m_list : mg "list" = none) : Has P w K mg base "_need_steps" ["steps"] (k + 1) (L2.CX P w) (spNSteps K C_BadMarket) f fd := by
  refine O.has (O.F.okX sc__need_steps (fun vs H Q E h => ?_) (fun cdv A outer s H vs Q E hr h => ?_))
  · obtain ⟨v, d, rfl, _⟩ := h
    rfl
  obtain ⟨v, d, rfl, hd, q0, q1⟩ := h
  refine ⟨_, (pss_cons (ps_if (PW.pt (pw_or (pt_not (pt_val (pe_callB call_isi (by rfl) m_isinstance (by decide +kernel) (pa_cons (pv 0) (pa_cons (pe_bltn (v := .ty "list") (by rfl) m_list (by decide +kernel) rfl) pa_nil))))) (pw_or1 (pt_not (pt_chain op_le op_le pe_int (pe_callB call_len_seq (by rfl) m_len (by decide +kernel) (pa_cons (pv 0) pa_nil)) (pe_glob (v := .int (4)) (by rfl) m_MOST_STEPS ⟨_, rfl⟩)))))) (pss_one (ps_raise rfl (takes_of rfl rfl rfl rfl) (pmk_own PySem.F.excBase_ValueError X_BadMarket.x X_BadMarket.g X_BadMarket.k (raises_own X_BadMarket.s X_BadMarket.t) rfl))) pss_nil) (pss_cons (ps_for (passes_of rfl) rfl (pi_list (pv 0)) (pg_name (i := 1) sc__need_steps.nd rfl (.inl rfl)) (pss_cons (ps_if (PW.pt (pw_or (pt_not (pt_val (pe_callB call_isi (by rfl) m_isinstance (by decide +kernel) (pa_cons (pv 1) (pa_cons (pe_bltn (v := .ty "tuple") (by rfl) m_tuple (by decide +kernel) rfl) pa_nil))))) (pw_or1 (pt_cmpR op_ne (pe_callB call_len_seq (by rfl) m_len (by decide +kernel) (pa_cons (pv 1) pa_nil)) pe_int (nomark _))))) (pss_one (ps_raise rfl (takes_of rfl rfl rfl rfl) (pmk_own PySem.F.excBase_ValueError X_BadMarket.x X_BadMarket.g X_BadMarket.k (raises_own X_BadMarket.s X_BadMarket.t) rfl))) pss_nil) (pss_cons (ps_asg (pv 1) (pg_tup rfl (pgs_cons (pg_name (i := 2) sc__need_steps.nd rfl (.inl rfl)) (pgs_cons (pg_name (i := 3) sc__need_steps.nd rfl (.inl rfl)) pgs_nil)))) (pss_one (ps_if (PW.pt (pw_or (pt_not (pt_val (pe_call D_is_amount.G hr (by rfl) D_is_amount.g D_is_amount.k D_is_amount.b .nil pass0 (pa_cons (pv 2) pa_nil)))) (pw_or1 (pt_not (pt_val (pe_call D_is_between.G hr (by rfl) D_is_between.g D_is_between.k D_is_between.b .nil pass0 (pa_cons (pv 3) (pa_cons pe_int (pa_cons (pe_glob (v := .int (999)) (by rfl) m_MOST_WEIGHT ⟨_, rfl⟩) pa_nil))))))))) (pss_one (ps_raise rfl (takes_of rfl rfl rfl rfl) (pmk_own PySem.F.excBase_ValueError X_BadMarket.x X_BadMarket.g X_BadMarket.k (raises_own X_BadMarket.s X_BadMarket.t) rfl))) pss_nil))))) (pss_one (ps_if (pt_cmpR op_lt (BkS.pe_lenU rfl (by rfl) m_len (by rfl) m_set (pe_lc (own := [("told", 1)]) (g := gName 1) rfl sc__need_steps.nd (pi_list (pv 0)) (blkOk_by (own := [("told", 1)]) (N := ["steps", "told", "number", "weight"]) (sc := defScope s__need_steps) (by decide +kernel)) (fun _ _ _ _ _ => pg_name (i := 1) sc__need_steps.nd rfl (.inl rfl)) (fun _ _ _ _ _ => pts_nil) (fun _ _ _ _ _ => (pe_ix (r := rIxT K) ix_tup (pv 1) pe_int (fun _ _ => rfl))))) (pe_callB call_len_seq (by rfl) m_len (by decide +kernel) (pa_cons (pv 0) pa_nil)) (nomark _)) (pss_one (ps_raise rfl (takes_of rfl rfl rfl rfl) (pmk_own PySem.F.excBase_ValueError X_BadMarket.x X_BadMarket.g X_BadMarket.k (raises_own X_BadMarket.s X_BadMarket.t) rfl))) pss_nil)))), ?_⟩
  walk_at "go"
  refine use_isLst hd ?_
  cases hd with
  | @lst a vs ds ha hall =>
    dsimp only [isLst]
    have hlen := DpAll.len hall
    have bad : ∀ {H'}, okSteps (.list ds) = false → Same H H' → E (.ref C_BadMarket) none H' := fun e s => q1 e _ s
    refine ⟨_, rfl, iteNT ?_⟩
    walk_at "go"
    refine ⟨_, _, rfl, .inl ha, ?_⟩
    walk_at "go"
    refine ifd (fun c1 => ?_) (fun c1 => ?_)
    · walk_at "go"
      refine ifdn (fun c2 => ?_) (fun c2 => ?_)
      · walk_at "go"
        refine ⟨⟨_, ha⟩, for_list (xs := vs) (fun i σ H2 => ∃ y1 y2 y3, σ = [some (.ref a), y1, y2, y3] ∧ Same H H2 ∧ (ds.take i).all okStep = true) ⟨_, _, _, rfl, .refl _, rfl⟩ (fun i σ H2 _ h => by
          obtain ⟨_, _, _, _, s2, _⟩ := h
          exact s2.seq ha) (fun i x σ H2 hx h => ?_) (fun σ H2 h => ?_)⟩
        · obtain ⟨y1, y2, y3, rfl, s2, al⟩ := h
          have hi : i < ds.length := by have := (List.getElem?_eq_some_iff.mp hx).1; omega
          have hdi : ds[i]? = some ds[i] := List.getElem?_eq_getElem hi
          obtain ⟨x', hx', hD⟩ := DpAll.at hall hdi
          obtain rfl : x' = x := Option.some.inj (hx'.symm.trans hx)
          have no : okStep ds[i] = false → okSteps (.list ds) = false := fun e => by
            dsimp only [okSteps]
            rw [all_no hdi e]
            simp
          have yes := fun e => all_take (f := okStep) hdi e al
          generalize ds[i] = di at hD no yes
          replace hD := Dp.dm (.of s2) hD
          walk_at "go"
          refine use_isTup hD ?_
          cases hD with
          | @tup b us es hb he =>
            dsimp only [isTup]
            refine ⟨_, rfl, iteNT ?_⟩
            walk_at "go"
            refine ⟨_, _, rfl, .inr hb, ?_⟩
            walk_at "go"
            have le := DpAll.len he
            refine ifdn (fun c3 => ?_) (fun c3 => ?_)
            · obtain ⟨n, m, rfl⟩ : ∃ n m, us = [n, m] := by
                match us, (show us.length = 2 by have := c3; omega) with
                | [n, m], _ => exact ⟨n, m, rfl⟩
              cases he with
              | @cons _ _ d1 _ h1 he =>
              cases he with
              | @cons _ _ d2 _ h2 he =>
              cases he
              walk_at "go"
              refine g_gtup hb rfl ?_
              walk_at "go"
              refine use_amount h1 ?_
              walk_at "go"
              have e1 : okStep (.tuple [d1, d2]) = (amt d1 && inB 1 999 d2) := rfl
              refine ifn (fun c4 => ?_) (fun c4 => ?_)
              · walk_at "go"
                refine use_between h2 ?_
                walk_at "go"
                refine ifn (fun c5 => ?_) (fun c5 => ?_)
                · walk_at "go"
                  exact ⟨_, _, _, rfl, s2, yes (by rw [e1, c5]; unfold amt; rw [c4]; rfl)⟩
                · walk_at "go"
                  exact bad (no (by rw [e1, c5]; simp)) s2
              · walk_at "go"
                exact bad (no (by rw [e1]; unfold amt; rw [c4]; rfl)) s2
            · walk_at "go"
              refine bad (no ?_) s2
              unfold okStep
              split
              · rename_i u v e
                obtain rfl : es = [u, v] := by injection e
                exact absurd (show (us.length : Int) = 2 by rw [le]; rfl) c3
              · rfl
          | _ =>
            dsimp only [isTup]
            walk_at "go"
            exact bad (no rfl) s2
        · obtain ⟨y1, y2, y3, rfl, s2, al⟩ := h
          rw [hlen, List.take_length] at al
          walk_at "go"
          refine g_lenU ?_
          walk_at "go"
          refine ⟨⟨_, s2.seq ha⟩, fun D nD => lc_list (xs := vs) (Comp H2 D (fun j y H' => ∃ d, ds[j]? = some d ∧ y = .int (byOf d))) (.start nD) (fun i H' _ c => (s2.trans c.e).seq ha) (fun i x H' hx c => ?_) (fun H' c => ?_)⟩
          · have hi : i < ds.length := by have := (List.getElem?_eq_some_iff.mp hx).1; omega
            have hdi : ds[i]? = some ds[i] := List.getElem?_eq_getElem hi
            obtain ⟨x', hx', hD⟩ := DpAll.at hall hdi
            obtain rfl : x' = x := Option.some.inj (hx'.symm.trans hx)
            obtain ⟨n, b, ed⟩ := okStep_tup (List.all_eq_true.mp al _ (List.getElem_mem hi))
            rw [ed] at hdi hD
            replace hD := Dp.dm (.of (s2.trans c.e)) hD
            cases hD with
            | @tup b us es hb he =>
            cases he with
            | @cons _ _ d1 _ h1 he =>
            cases h1
            walk_at "go"
            refine ⟨_, _, _, _, rfl, rfl, hb, at_any (j := 0) rfl rfl, ?_⟩
            exact c.next (fun j y Ha Hb h _ => h) (.refl _) (by omega) ⟨_, hdi, rfl⟩
          · obtain ⟨e3, _, ys, hy, ly, ry⟩ := c
            have ey : ys = (ds.map byOf).map V.int := List.ext_getElem? fun j => by
              rcases Nat.lt_or_ge j ys.length with lt | ge
              · obtain ⟨d, hd1, e⟩ := ry j _ (List.getElem?_eq_getElem lt)
                rw [List.getElem?_eq_getElem lt, e, List.getElem?_map, List.getElem?_map, hd1]
                rfl
              · rw [List.getElem?_eq_none ge, List.getElem?_eq_none (by simp; omega)]
            rw [ey] at hy
            have s4 := s2.trans e3
            refine ⟨_, rfl, .inl ⟨ds.map byOf, sql hy, by rw [List.length_map]; omega, fun m u1 u2 => ?_⟩⟩
            rw [List.length_map] at u1 u2
            walk_at "go"
            refine ⟨_, _, rfl, .inl (s4.seq ha), ?_⟩
            walk_at "go"
            have okd : okSteps (.list ds) = decide (ds.map byOf).Nodup := by
              dsimp only [okSteps]
              rw [decide_eq_true (show 1 ≤ ds.length by omega), decide_eq_true (show ds.length ≤ 4 by omega), al]
              rfl
            by_cases nd : (ds.map byOf).Nodup
            · refine ifd (fun c6 => ?_) (fun c6 => ?_)
              · have := u1 nd
                omega
              · walk_at "go"
                exact q0 (by rw [okd]; exact decide_eq_true nd) _ s4
            · refine ifd (fun c6 => ?_) (fun c6 => ?_)
              · walk_at "go"
                exact bad (by rw [okd]; exact decide_eq_false nd) s4
              · have := u2 nd
                omega
      · walk_at "go"
        refine bad ?_ (.refl _)
        dsimp only [okSteps]
        rw [decide_eq_false (show ¬ ds.length ≤ 4 by omega)]
        simp
    · walk_at "go"
      refine bad ?_ (.refl _)
      dsimp only [okSteps]
      rw [decide_eq_false (show ¬ 1 ≤ ds.length by omega)]
      rfl
  | _ =>
    dsimp only [isLst]
    walk_at "go"
    exact q1 rfl _ (.refl _)
end
def spNNames (K : PySem.W.Frag) (C PT : Addr) : Sp := fun vs H Q E => ∃ (v : V) (d : PyData), vs = [v] ∧ Dp K H v d ∧ szOk d = true ∧ GxR.TabG H PT ∧ (okNames d = true → ∀ H', Tb PT H H' → Q .non H') ∧ (okNames d = false → ∀ H', Tb PT H H' → E (.ref C) none H')
theorem use_nnames {K : PySem.W.Frag} {C PT : Addr} {v : V} {d : PyData} {H : Hp} {Q : VK} {E : XK} (h : Dp K H v d) (z : szOk d = true) (t : GxR.TabG H PT) (q0 : okNames d = true → ∀ H', Tb PT H H' → Q .non H') (q1 : okNames d = false → ∀ H', Tb PT H H' → E (.ref C) none H') :
    spNNames K C PT ([v] ++ []) H Q E := ⟨v, d, rfl, h, z, t, q0, q1⟩
section
variable {P : Program} {w : World} {K : PySem.W.Frag} {mg : Str → Option Value} {base : Heap}
abbrev s__need_names : Stmt := topS 22
theorem sc__need_names : FnScope ["names", "told", "name", "number", "steps"] ["names"] (defScope s__need_names) := ⟨rfl, rfl, rfl, by decide +kernel, rfl, by decide +kernel, by decide +kernel⟩
theorem h__need_names {PT : Addr} {k : Nat} {f : Addr} {fd : FuncData} (O : Own K mg "_need_names" s__need_names ["names"] f fd) {C_BadMarket : Addr} (X_BadMarket : ExcT K mg "BadMarket" C_BadMarket)  {f__need_steps : Addr} {fd__need_steps : FuncData} (D__need_steps : Has P w K mg base "_need_steps" ["steps"] k (L2.CX P w) (spNSteps K C_BadMarket) f__need_steps fd__need_steps) {f_is_amount : Addr} {fd_is_amount : FuncData} (D_is_amount : Has P w K mg base "is_amount" ["told"] k CX0 (spAmount K) f_is_amount fd_is_amount) {f_is_word : Addr} {fd_is_word : FuncData} (D_is_word : Has P w K mg base "is_word" ["told"] k CX0 (spIsWord K PT) f_is_word fd_is_word) (m_len : mg "len" = none) (m_set : mg "set" = none) (m_isinstance : mg "isinstance" = none) (m_tuple : mg "tuple" = none) {t_MOST_NAMES : Tok} (m_MOST_NAMES : mg "MOST_NAMES" = some (.int 3 t_MOST_NAMES)) (m_list : mg "list" = none) : Has P w K mg base "_need_names" ["names"] (k + 1) (L2.CX P w) (spNNames K C_BadMarket PT) f fd := by
  refine O.has (O.F.okX sc__need_names (fun vs H Q E h => ?_) (fun cdv A outer s H vs Q E hr h => ?_))
  · obtain ⟨v, d, rfl, _⟩ := h
    rfl
  obtain ⟨v, d, rfl, hd, hz, ht, q0, q1⟩ := h
  refine ⟨_, (pss_cons (ps_if (PW.pt (pw_or (pt_not (pt_val (pe_callB call_isi (by rfl) m_isinstance (by decide +kernel) (pa_cons (pv 0) (pa_cons (pe_bltn (v := .ty "list") (by rfl) m_list (by decide +kernel) rfl) pa_nil))))) (pw_or1 (pt_cmpR op_gt (pe_callB call_len_seq (by rfl) m_len (by decide +kernel) (pa_cons (pv 0) pa_nil)) (pe_glob (v := .int (3)) (by rfl) m_MOST_NAMES ⟨_, rfl⟩) (nomark _))))) (pss_one (ps_raise rfl (takes_of rfl rfl rfl rfl) (pmk_own PySem.F.excBase_ValueError X_BadMarket.x X_BadMarket.g X_BadMarket.k (raises_own X_BadMarket.s X_BadMarket.t) rfl))) pss_nil) (pss_cons (ps_for (passes_of rfl) rfl (pi_list (pv 0)) (pg_name (i := 1) sc__need_names.nd rfl (.inl rfl)) (pss_cons (ps_if (PW.pt (pw_or (pt_not (pt_val (pe_callB call_isi (by rfl) m_isinstance (by decide +kernel) (pa_cons (pv 1) (pa_cons (pe_bltn (v := .ty "tuple") (by rfl) m_tuple (by decide +kernel) rfl) pa_nil))))) (pw_or1 (pt_cmpR op_ne (pe_callB call_len_seq (by rfl) m_len (by decide +kernel) (pa_cons (pv 1) pa_nil)) pe_int (nomark _))))) (pss_one (ps_raise rfl (takes_of rfl rfl rfl rfl) (pmk_own PySem.F.excBase_ValueError X_BadMarket.x X_BadMarket.g X_BadMarket.k (raises_own X_BadMarket.s X_BadMarket.t) rfl))) pss_nil) (pss_cons (ps_asg (pv 1) (pg_tup rfl (pgs_cons (pg_name (i := 2) sc__need_names.nd rfl (.inl rfl)) (pgs_cons (pg_name (i := 3) sc__need_names.nd rfl (.inl rfl)) (pgs_cons (pg_name (i := 4) sc__need_names.nd rfl (.inl rfl)) pgs_nil))))) (pss_cons (ps_if (PW.pt (pw_or (pt_not (pt_val (pe_call D_is_word.G hr (by rfl) D_is_word.g D_is_word.k D_is_word.b .nil pass0 (pa_cons (pv 2) pa_nil)))) (pw_or1 (pt_not (pt_val (pe_call D_is_amount.G hr (by rfl) D_is_amount.g D_is_amount.k D_is_amount.b .nil pass0 (pa_cons (pv 3) pa_nil))))))) (pss_one (ps_raise rfl (takes_of rfl rfl rfl rfl) (pmk_own PySem.F.excBase_ValueError X_BadMarket.x X_BadMarket.g X_BadMarket.k (raises_own X_BadMarket.s X_BadMarket.t) rfl))) pss_nil) (pss_one (ps_expr (pe_call D__need_steps.G hr (by rfl) D__need_steps.g D__need_steps.k D__need_steps.b .nil (passes_call (takes_of rfl rfl rfl rfl) (fun _ _ _ _ h => h)) (pa_cons (pv 4) pa_nil)))))))) (pss_one (ps_if (pt_cmpR op_lt (BkS.pe_lenU rfl (by rfl) m_len (by rfl) m_set (pe_lc (own := [("told", 1)]) (g := gName 1) rfl sc__need_names.nd (pi_list (pv 0)) (blkOk_by (own := [("told", 1)]) (N := ["names", "told", "name", "number", "steps"]) (sc := defScope s__need_names) (by decide +kernel)) (fun _ _ _ _ _ => pg_name (i := 1) sc__need_names.nd rfl (.inl rfl)) (fun _ _ _ _ _ => pts_nil) (fun _ _ _ _ _ => (pe_ix (r := rIxT K) ix_tup (pv 1) pe_int (fun _ _ => rfl))))) (pe_callB call_len_seq (by rfl) m_len (by decide +kernel) (pa_cons (pv 0) pa_nil)) (nomark _)) (pss_one (ps_raise rfl (takes_of rfl rfl rfl rfl) (pmk_own PySem.F.excBase_ValueError X_BadMarket.x X_BadMarket.g X_BadMarket.k (raises_own X_BadMarket.s X_BadMarket.t) rfl))) pss_nil)))), ?_⟩
  walk_at "go"
  refine use_isLst hd ?_
  cases hd with
  | @lst a vs ds ha hall =>
    dsimp only [isLst]
    have hlen := DpAll.len hall
    have bad : ∀ {H'}, okNames (.list ds) = false → Tb PT H H' → E (.ref C_BadMarket) none H' := fun e s => q1 e _ s
    have hzs : szAll ds = true := hz
    refine ⟨_, rfl, iteNT ?_⟩
    walk_at "go"
    refine ⟨_, _, rfl, .inl ha, ?_⟩
    walk_at "go"
    refine ifd (fun c1 => ?_) (fun c1 => ?_)
    · walk_at "go"
      refine bad ?_ (.refl ht)
      dsimp only [okNames]
      rw [decide_eq_false (show ¬ ds.length ≤ 3 by omega)]
      rfl
    walk_at "go"
    refine ⟨⟨_, ha⟩, for_list (xs := vs) (fun i σ H2 => ∃ y1 y2 y3 y4, σ = [some (.ref a), y1, y2, y3, y4] ∧ Tb PT H H2 ∧ (ds.take i).all okName = true) ⟨_, _, _, _, rfl, .refl ht, rfl⟩ (fun i σ H2 _ h => by
      obtain ⟨_, _, _, _, _, t2, _⟩ := h
      exact (t2.dm ht).l _ _ ha) (fun i x σ H2 hx h => ?_) (fun σ H2 h => ?_)⟩
    · obtain ⟨y1, y2, y3, y4, rfl, t2, al⟩ := h
      have hi : i < ds.length := by have := (List.getElem?_eq_some_iff.mp hx).1; omega
      have hdi : ds[i]? = some ds[i] := List.getElem?_eq_getElem hi
      obtain ⟨x', hx', hD⟩ := DpAll.at hall hdi
      obtain rfl : x' = x := Option.some.inj (hx'.symm.trans hx)
      have no : okName ds[i] = false → okNames (.list ds) = false := fun e => by
        dsimp only [okNames]
        rw [all_no hdi e]
        simp
      have yes := fun e => all_take (f := okName) hdi e al
      have hzi := szAll_at hzs hdi
      generalize ds[i] = di at hD no yes hzi
      replace hD := Dp.dm (t2.dm ht) hD
      walk_at "go"
      refine use_isTup hD ?_
      cases hD with
      | @tup b us es hb he =>
        dsimp only [isTup]
        refine ⟨_, rfl, iteNT ?_⟩
        walk_at "go"
        refine ⟨_, _, rfl, .inr hb, ?_⟩
        walk_at "go"
        have le := DpAll.len he
        refine ifdn (fun c3 => ?_) (fun c3 => ?_)
        · obtain ⟨n, m, r, rfl⟩ : ∃ n m r, us = [n, m, r] := by
            match us, (show us.length = 3 by have := c3; omega) with
            | [n, m, r], _ => exact ⟨n, m, r, rfl⟩
          cases he with
          | @cons _ _ d1 _ h1 he =>
          cases he with
          | @cons _ _ d2 _ h2 he =>
          cases he with
          | @cons _ _ d3 _ h3 he =>
          cases he
          have e1 : okName (.tuple [d1, d2, d3]) = (isW' d1 && (amt d2 && okSteps d3)) := rfl
          have hz1 : szOk d1 = true := by
            have z : (szOk d1 && szAll [d2, d3]) = true := hzi
            exact (Bool.and_eq_true_iff.mp z).1
          walk_at "go"
          refine g_gtup hb rfl ?_
          walk_at "go"
          refine use_isWord h1 hz1 t2.g fun H3 t3 => ?_
          have d23 : DM K H2 H3 := t3.dm t2.g
          have t23 := t2.trans t3
          walk_at "go"
          refine ifn (fun c4 => ?_) (fun c4 => ?_)
          · walk_at "go"
            refine use_amount (Dp.dm d23 h2) ?_
            walk_at "go"
            refine ifn (fun c5 => ?_) (fun c5 => ?_)
            · walk_at "go"
              refine use_nsteps (Dp.dm d23 h3) (fun c6 H4 s4 => ?_) (fun c6 H4 s4 => ?_)
              · exact ⟨_, _, _, _, rfl, t23.trans (.of t23.g s4), yes (by rw [e1, c4, c6]; unfold amt; rw [c5]; rfl)⟩
              · exact bad (no (by rw [e1, c6]; simp)) (t23.trans (.of t23.g s4))
            · walk_at "go"
              exact bad (no (by rw [e1]; unfold amt; rw [c5]; simp)) t23
          · walk_at "go"
            exact bad (no (by rw [e1, c4]; rfl)) t23
        · walk_at "go"
          refine bad (no ?_) t2
          unfold okName
          split
          · rename_i u v x e
            obtain rfl : es = [u, v, x] := by injection e
            exact absurd (show (us.length : Int) = 3 by rw [le]; rfl) c3
          · rfl
      | _ =>
        dsimp only [isTup]
        walk_at "go"
        exact bad (no rfl) t2
    · obtain ⟨y1, y2, y3, y4, rfl, t2, al⟩ := h
      rw [hlen, List.take_length] at al
      have ha2 : SqL K H2 a vs := (t2.dm ht).l _ _ ha
      walk_at "go"
      refine g_lenU ?_
      walk_at "go"
      refine ⟨⟨_, ha2⟩, fun D nD => lc_list (xs := vs) (Comp H2 D (fun j y H' => ∃ d, ds[j]? = some d ∧ y = .str (wordOf d))) (.start nD) (fun i H' _ c => c.e.seq ha2) (fun i x H' hx c => ?_) (fun H' c => ?_)⟩
      · have hi : i < ds.length := by have := (List.getElem?_eq_some_iff.mp hx).1; omega
        have hdi : ds[i]? = some ds[i] := List.getElem?_eq_getElem hi
        obtain ⟨x', hx', hD⟩ := DpAll.at hall hdi
        obtain rfl : x' = x := Option.some.inj (hx'.symm.trans hx)
        obtain ⟨n, b1, b2, ed, _⟩ := okName_tup (List.all_eq_true.mp al _ (List.getElem_mem hi))
        rw [ed] at hdi hD
        replace hD := Dp.dm ((t2.dm ht).trans (.of c.e)) hD
        cases hD with
        | @tup b us es hb he =>
        cases he with
        | @cons _ _ d1 _ h1 he =>
        cases h1
        walk_at "go"
        refine ⟨_, _, _, _, rfl, rfl, hb, at_any (j := 0) rfl rfl, ?_⟩
        exact c.next (fun j y Ha Hb h _ => h) (.refl _) (by omega) ⟨_, hdi, rfl⟩
      · obtain ⟨e3, _, ys, hy, ly, ry⟩ := c
        have ey : ys = (ds.map wordOf).map V.str := List.ext_getElem? fun j => by
          rcases Nat.lt_or_ge j ys.length with lt | ge
          · obtain ⟨d, hd1, e⟩ := ry j _ (List.getElem?_eq_getElem lt)
            rw [List.getElem?_eq_getElem lt, e, List.getElem?_map, List.getElem?_map, hd1]
            rfl
          · rw [List.getElem?_eq_none ge, List.getElem?_eq_none (by simp; omega)]
        rw [ey] at hy
        have t4 := t2.trans (.of t2.g e3)
        refine ⟨_, rfl, .inr ⟨ds.map wordOf, sql hy, by rw [List.length_map]; omega, fun m u1 u2 => ?_⟩⟩
        rw [List.length_map] at u1 u2
        walk_at "go"
        refine ⟨_, _, rfl, .inl (e3.seq ha2), ?_⟩
        walk_at "go"
        have okd : okNames (.list ds) = decide (ds.map wordOf).Nodup := by
          dsimp only [okNames]
          rw [decide_eq_true (show ds.length ≤ 3 by omega), al]
          rfl
        by_cases nd : (ds.map wordOf).Nodup
        · refine ifd (fun c6 => ?_) (fun c6 => ?_)
          · have := u1 nd
            omega
          · walk_at "go"
            exact q0 (by rw [okd]; exact decide_eq_true nd) _ t4
        · refine ifd (fun c6 => ?_) (fun c6 => ?_)
          · walk_at "go"
            exact bad (by rw [okd]; exact decide_eq_false nd) t4
          · have := u2 nd
            omega
  | _ =>
    dsimp only [isLst]
    walk_at "go"
    exact q1 rfl _ (.refl ht)
end

/-! ### a market is made -/
/-- all stays but a def's table and the object at p -/
structure Tx (PT p : Addr) (H H' : Hp) : Prop where
  g : GxR.TabG H' PT
  k : ∀ b o, b ≠ p → b ≠ PT → H b = some o → H' b = some o
theorem g_fld {K : PySem.W.Frag} {ta tv : TE} {f : Str} {D : Ends} {σ : L2.St} {H : Hp} (h : tv σ H fun y H1 => ta σ H1 fun x H2 => ∃ a C dx fs, x = .ref a ∧ H2 a = some (.ins C dx fs) ∧ Cls K C ∧ NoAttr K C f ∧ fs.length < 1000 ∧ D.nx σ (upd H2 a (.ins C dx (putF f y fs)))) : sFld K ta tv f D σ H := h
theorem ins_dm {K : PySem.W.Frag} {H H' : Hp} {p C dx : Addr} {fs : List (Str × V)} (hp : H p = some (.ins C dx fs)) (k : ∀ b o, b ≠ p → H b = some o → H' b = some o) : DM K H H' := by
  have rd : ∀ {a : Addr} {u : HO}, (∀ C dx fs, u ≠ .ins C dx fs) → Rd H a u → Rd H' a u := fun hu h => by
    rcases h with h | ⟨o, h⟩
    · exact .inl (k _ _ (fun z => by rw [z, hp] at h; exact hu _ _ _ (Option.some.inj h).symm) h)
    · exact .inr ⟨o, k _ _ (fun z => by rw [z, hp] at h; cases h) h⟩
  refine ⟨fun a xs h => ?_, fun a xs h => ?_⟩
  · rcases h with h | h
    · exact .inl (rd (fun _ _ _ z => by cases z) h)
    · exact .inr h
  · rcases h with h | h
    · exact .inl (rd (fun _ _ _ z => by cases z) h)
    · exact .inr h
theorem Tx.of {PT p : Addr} {H H' : Hp} (t : Tb PT H H') : Tx PT p H H' := ⟨t.g, fun b o _ n h => t.k b o n h⟩
def spMk (K : PySem.W.Frag) (X PT C : Addr) : Sp := fun vs H Q E => ∃ (p dx : Addr) (l n : V) (dl dn : PyData), vs = [.ref p, l, n] ∧ H p = some (.ins C dx []) ∧ Dp K H l dl ∧ Dp K H n dn ∧ szOk dn = true ∧ GxR.TabG H PT ∧
  (okMk dl dn = true → ∀ H', Tx PT p H H' → Q .non H') ∧ (okMk dl dn = false → ∀ H', Tx PT p H H' → E (.ref X) none H')
section
variable {P : Program} {w : World} {K : PySem.W.Frag} {mg : Str → Option Value} {base : Heap}
abbrev s_Market : Stmt := inClass (topS 21) 0
theorem sc_Market : FnScope ["self", "last", "names", "name", "number", "steps"] ["self", "last", "names"] (defScope s_Market) := ⟨rfl, rfl, rfl, by decide +kernel, rfl, by decide +kernel, by decide +kernel⟩
theorem h_Market {PT : Addr} {k : Nat} {C_Market f : Addr} {fd : FuncData} (T : ClsT K mg "Market" C_Market f) (O : OwnM K "__init__" "Market.__init__" s_Market ["self", "last", "names"] f fd) (n_last : NoAttr K C_Market "last") (n_names : NoAttr K C_Market "names") {C_BadMarket : Addr} (X_BadMarket : ExcT K mg "BadMarket" C_BadMarket)  {f__need_names : Addr} {fd__need_names : FuncData} (D__need_names : Has P w K mg base "_need_names" ["names"] k (L2.CX P w) (spNNames K C_BadMarket PT) f__need_names fd__need_names) {f_is_between : Addr} {fd_is_between : FuncData} (D_is_between : Has P w K mg base "is_between" ["told", "low", "high"] k CX0 (spBetween K) f_is_between fd_is_between) (m_tuple : mg "tuple" = none) {t_LAST_HOUR : Tok} (m_LAST_HOUR : mg "LAST_HOUR" = some (.int 12 t_LAST_HOUR)) : HasM P w K mg base "Market" ["self", "last", "names"] (k + 2) (L2.CX P w) (spMk K C_BadMarket PT C_Market) C_Market f fd := by
  refine HasM.of T O (O.F.okX sc_Market (fun vs H Q E h => ?_) (fun cdv A outer s H vs Q E hr h => ?_))
  · obtain ⟨p, dx, l, n, dl, dn, rfl, _⟩ := h
    rfl
  obtain ⟨p, dx, l, n, dl, dn, rfl, hp, hl, hn, hz, ht, q0, q1⟩ := h
  refine ⟨_, (pss_cons (ps_if (pt_not (pt_val (pe_call D_is_between.G hr (by rfl) D_is_between.g D_is_between.k D_is_between.b .nil pass0 (pa_cons (pv 1) (pa_cons pe_int (pa_cons (pe_glob (v := .int (12)) (by rfl) m_LAST_HOUR ⟨_, rfl⟩) pa_nil)))))) (pss_one (ps_raise rfl (takes_of rfl rfl rfl rfl) (pmk_own PySem.F.excBase_ValueError X_BadMarket.x X_BadMarket.g X_BadMarket.k (raises_own X_BadMarket.s X_BadMarket.t) rfl))) pss_nil) (pss_cons (ps_expr (pe_call D__need_names.G hr (by rfl) D__need_names.g D__need_names.k D__need_names.b .nil (passes_call (takes_of rfl rfl rfl rfl) (fun _ _ _ _ h => h)) (pa_cons (pv 2) pa_nil))) (pss_cons (ps_fld (pv 0) (pv 1) rfl) (pss_one (ps_fld (pv 0) (pe_callTy call_tuple_of (by rfl) m_tuple (by decide +kernel) (pa_cons (pe_lc (own := [("name", 3), ("number", 4), ("steps", 5)]) (g := gTup K 3 (gCons (gName 3) (gCons (gName 4) (gCons (gName 5) gNil)))) rfl sc_Market.nd (pi_list (pv 2)) (blkOk_by (own := [("name", 3), ("number", 4), ("steps", 5)]) (N := ["self", "last", "names", "name", "number", "steps"]) (sc := defScope s_Market) (by decide +kernel)) (fun _ _ _ _ _ => pg_tup rfl (pgs_cons (pg_name (i := 3) sc_Market.nd rfl (.inl rfl)) (pgs_cons (pg_name (i := 4) sc_Market.nd rfl (.inl rfl)) (pgs_cons (pg_name (i := 5) sc_Market.nd rfl (.inl rfl)) pgs_nil)))) (fun _ _ _ _ _ => pts_nil) (fun _ _ _ _ _ => (pe_tup (pa_cons (pv 3) (pa_cons (pv 4) (pa_cons (pe_callTy (r := rTupOf K) callTupOf (by rfl) m_tuple (by decide +kernel) (pa_cons (pv 5) pa_nil)) pa_nil)))))) pa_nil)) rfl))))), ?_⟩
  walk_at "go"
  refine use_between hl ?_
  walk_at "go"
  refine ifn (fun c1 => ?_) (fun c1 => ?_)
  · walk_at "go"
    refine use_nnames hn hz ht (fun c2 H2 t2 => ?_) (fun c2 H2 t2 => ?_)
    · walk_at "go"
      have np : p ≠ PT := fun z => by
        obtain ⟨ps, e, _⟩ := ht
        rw [← z, hp] at e
        cases e
      have hp2 := t2.k _ _ np hp
      unfold okMk at q0
      rw [c1, c2] at q0
      have q0 := q0 rfl
      refine ⟨_, rfl, _, rfl, p, C_Market, dx, [], rfl, hp2, T.cl, n_last, by decide, ?_⟩
      have k3 : ∀ b o, b ≠ p → H2 b = some o → upd H2 p (.ins C_Market dx (putF "last" l [])) b = some o := fun b o hb z => by rw [upd_ne hb]; exact z
      have hp3 : upd H2 p (.ins C_Market dx (putF "last" l [])) p = some (.ins C_Market dx (putF "last" l [])) := upd_same
      have m3 : DM K H2 (upd H2 p (.ins C_Market dx (putF "last" l []))) := ins_dm hp2 k3
      have x3 : Tx PT p H (upd H2 p (.ins C_Market dx (putF "last" l []))) := by
        obtain ⟨ps, e, z⟩ := t2.g
        exact ⟨⟨ps, k3 _ _ (fun z => np z.symm) e, z⟩, fun b o h1 h2 h => k3 b o h1 (t2.k b o h2 h)⟩
      generalize upd H2 p (.ins C_Market dx (putF "last" l [])) = H3 at k3 hp3 m3 x3 ⊢
      have hn3 : Dp K H3 n dn := Dp.dm ((t2.dm ht).trans m3) hn
      cases hn3 with
      | @lst a vs ds ha hall =>
        have hlen := DpAll.len hall
        obtain ⟨hd3, hal⟩ : ds.length ≤ 3 ∧ ds.all okName = true := by
          dsimp only [okNames] at c2
          simp only [Bool.and_eq_true, decide_eq_true_eq] at c2
          exact ⟨c2.1, c2.2.1⟩
        dsimp only [L2.start]
        refine g_fld ?_
        walk_at "go"
        refine ⟨⟨_, ha⟩, fun D nD => lc_list (xs := vs) (Comp H3 D (fun _ _ _ => True)) (.start nD) (fun i H' _ c => c.e.seq ha) (fun i x H' hx c => ?_) (fun H' c => ?_)⟩
        · have hi : i < ds.length := by have := (List.getElem?_eq_some_iff.mp hx).1; omega
          have hdi : ds[i]? = some ds[i] := List.getElem?_eq_getElem hi
          obtain ⟨x', hx', hD⟩ := DpAll.at hall hdi
          obtain rfl : x' = x := Option.some.inj (hx'.symm.trans hx)
          obtain ⟨n1, b1, b2, ed, e2⟩ := okName_tup (List.all_eq_true.mp hal _ (List.getElem_mem hi))
          obtain ⟨ds2, rfl, _⟩ := okSteps_lst e2
          rw [ed] at hD
          replace hD := Dp.dm (.of c.e) hD
          cases hD with
          | @tup b us es hb he =>
          cases he with
          | @cons y1 _ _ _ h1 he =>
          cases he with
          | @cons y2 _ _ _ h2 he =>
          cases he with
          | @cons y3 _ _ _ h3 he =>
          cases he
          cases h3 with
          | @lst a3 vs3 _ ha3 _ =>
          refine g_gtup hb rfl ?_
          walk_at "go"
          refine ⟨a3, vs3, rfl, .inl ⟨ha3, fun t nt => ?_⟩⟩
          walk_at "go"
          refine ⟨by show 3 ≤ sizeLine; decide, fun q nq => ?_⟩
          exact c.next (fun _ _ _ _ _ _ => trivial) ((same_new nt).trans (same_new nq)) (by omega) trivial
        · obtain ⟨e4, _, ys, hy, ly, _⟩ := c
          walk_at "go"
          refine ⟨D, ys, rfl, .inl ⟨sql hy, fun t nt => ?_⟩⟩
          have e5 := e4.trans (same_new (o := .tup ys) nt)
          refine ⟨_, rfl, p, C_Market, dx, _, rfl, e5 _ _ hp3, T.cl, n_names, by show 1 < 1000; decide, ?_⟩
          have x5 : Tx PT p H (upd (upd H' t (.tup ys)) p (.ins C_Market dx (putF "names" (.ref t) (putF "last" l [])))) := by
            obtain ⟨ps, e, z⟩ := x3.g
            exact ⟨⟨ps, by rw [upd_ne (fun z => np z.symm)]; exact e5 _ _ e, z⟩, fun b o h1 h2 h => by rw [upd_ne h1]; exact e5 _ _ (x3.k b o h1 h2 h)⟩
          exact q0 _ x5
      | _ => cases c2
    · walk_at "go"
      exact q1 (by unfold okMk; rw [c2]; simp) _ (.of t2)
  · walk_at "go"
    exact q1 (by unfold okMk; rw [c1]; rfl) _ (.of (.refl ht))
end
theorem use_mk {K : PySem.W.Frag} {X PT C : Addr} {v1 v2 : V} {d1 d2 : PyData} {H : Hp} {Q : VK} {E : XK} (h1 : Dp K H v1 d1) (h2 : Dp K H v2 d2) (hz : szOk d2 = true) (ht : GxR.TabG H PT)
    (q0 : okMk d1 d2 = true → ∀ a H', Tb PT H H' → Q (.ref a) H') (q1 : okMk d1 d2 = false → ∀ H', Tb PT H H' → E (.ref X) none H') : spNew C (spMk K X PT C) [v1, v2] H Q E := by
  intro a dx na ndx nax
  have s1 : Same H (upd (upd H dx (.own a)) a (.ins C dx [])) := fun b o h => by
    rw [upd_ne (fun z => by rw [z, na] at h; cases h), upd_ne (fun z => by rw [z, ndx] at h; cases h)]
    exact h
  have tb : ∀ {H'}, Tx PT a (upd (upd H dx (.own a)) a (.ins C dx [])) H' → Tb PT H H' := fun x => ⟨x.g, fun b o n h => x.k b o (fun z => by rw [z, na] at h; cases h) n (s1 b o h)⟩
  exact ⟨a, dx, v1, v2, d1, d2, rfl, upd_same, Dp.dm (.of s1) h1, Dp.dm (.of s1) h2, hz, tab_same ht s1, fun e H' x => ⟨rfl, q0 e a H' (tb x)⟩, fun e H' x => q1 e H' (tb x)⟩
/-! ### the law's own asking -/
def mgb (l n : PyData) : Str := if okMk l n = true then "good" else "bad"
def spMRef (K : PySem.W.Frag) (PT : Addr) : Sp := fun vs H Q _ => ∃ (v1 v2 : V) (d1 d2 : PyData), vs = [v1, v2] ∧ Dp K H v1 d1 ∧ Dp K H v2 d2 ∧ szOk d2 = true ∧ GxR.TabG H PT ∧ ∀ H', Tb PT H H' → Q (.str (mgb d1 d2)) H'
theorem use_mref {K : PySem.W.Frag} {PT : Addr} {v1 v2 : V} {d1 d2 : PyData} {H : Hp} {Q : VK} {E : XK} (h1 : Dp K H v1 d1) (h2 : Dp K H v2 d2) (hz : szOk d2 = true) (ht : GxR.TabG H PT) (q : ∀ H', Tb PT H H' → Q (.str (mgb d1 d2)) H') : spMRef K PT ([v1, v2] ++ []) H Q E :=
  ⟨v1, v2, d1, d2, rfl, h1, h2, hz, ht, q⟩
section
variable {P : Program} {w : World} {K : PySem.W.Frag} {mg : Str → Option Value} {base : Heap}
abbrev s__law_refused : Stmt := topS 31
theorem sc__law_refused : FnScope ["_law_last", "_law_names", "e"] ["_law_last", "_law_names"] (defScope s__law_refused) := ⟨rfl, rfl, rfl, by decide +kernel, rfl, by decide +kernel, by decide +kernel⟩
theorem h__law_refused {PT : Addr} {k : Nat} {f : Addr} {fd : FuncData} (O : Own K mg "_law_refused" s__law_refused ["_law_last", "_law_names"] f fd) {C_BookError : Addr} (X_BookError : ExcT K mg "BookError" C_BookError) {C_BadMarket : Addr} (X_BadMarket : ExcT K mg "BadMarket" C_BadMarket) {C_TooMany : Addr} (X_TooMany : ExcT K mg "TooMany" C_TooMany) {C_BadText : Addr} (X_BadText : ExcT K mg "BadText" C_BadText) {C_BadContract : Addr} (X_BadContract : ExcT K mg "BadContract" C_BadContract) (ER : Errs K C_BookError C_BadMarket C_BadContract C_BadText C_TooMany) {C_Market f_Market : Addr} {fd_Market : FuncData} (D_Market : HasM P w K mg base "Market" ["self", "last", "names"] k (L2.CX P w) (spMk K C_BadMarket PT C_Market) C_Market f_Market fd_Market) (m_isinstance : mg "isinstance" = none) (m_ValueError : mg "ValueError" = none) : Has P w K mg base "_law_refused" ["_law_last", "_law_names"] (k + 1) CX0 (spMRef K PT) f fd := by
  refine O.has (O.F.ok sc__law_refused (fun vs H Q E h => ?_) (fun cdv A outer s H vs Q E hr h => ?_))
  · obtain ⟨v1, v2, d1, d2, rfl, _⟩ := h
    rfl
  obtain ⟨v1, v2, d1, d2, rfl, h1, h2, hz, ht, q⟩ := h
  refine ⟨_, (pss_cons (ps_try_as (i := 2) rfl rfl sc__law_refused.nd rfl rfl ⟨rfl, by decide, .inl X_BookError.g⟩ takes0 (fun W pn xe tk _ => (pss_one (ps_expr (pe_new D_Market hr (by rfl) (fun σ => passAt tk σ) (pa_cons (pv 0) (pa_cons (pv 1) pa_nil)))))) (fun a oe cls d pn hz hf => (pss_cons (ps_if (PW.pt (pw_or (pt_val (pe_callB (call_isX hz hf) (by rfl) m_isinstance (by decide +kernel) (pa_cons (pv 2) (pa_cons (pe_glob (v := .ref C_BadContract) (by rfl) X_BadContract.g rfl) pa_nil)))) (pw_or (pt_val (pe_callB (call_isX hz hf) (by rfl) m_isinstance (by decide +kernel) (pa_cons (pv 2) (pa_cons (pe_glob (v := .ref C_BadText) (by rfl) X_BadText.g rfl) pa_nil)))) (pw_or1 (pt_val (pe_callB (call_isX hz hf) (by rfl) m_isinstance (by decide +kernel) (pa_cons (pv 2) (pa_cons (pe_glob (v := .ref C_TooMany) (by rfl) X_TooMany.g rfl) pa_nil)))))))) (pss_one (ps_ret pe_str)) pss_nil) (pss_one (ps_ret (pe_ifExp (PW.pt (pw_and (pt_val (pe_callB (call_isX hz hf) (by rfl) m_isinstance (by decide +kernel) (pa_cons (pv 2) (pa_cons (pe_glob (v := .ref C_BadMarket) (by rfl) X_BadMarket.g rfl) pa_nil)))) (pw_and1 (pt_val (pe_callB (call_isX hz hf) (by rfl) m_isinstance (by decide +kernel) (pa_cons (pv 2) (pa_cons (pe_bltn (v := .ty "ValueError") (by rfl) m_ValueError (by decide +kernel) rfl) pa_nil))))))) pe_str pe_str)))))) (pss_one (ps_ret pe_str))), ?_⟩
  walk_at "go"
  refine g_callS ?_
  walk_at "go"
  refine use_mk h1 h2 hz ht (fun e a H5 t5 => ?_) (fun e H5 t5 => ?_)
  · walk_at "go"
    have z := q H5 t5
    unfold mgb at z
    rw [if_pos e] at z
    exact z
  · refine ⟨true, ER.exm, fun _ a na => ?_, fun z => Bool.noConfusion z⟩
    walk_at "go"
    refine use_isX ER.ec (fun _ h => h) ER.iM ?_
    walk_at "go"
    refine use_isX ER.ec (fun _ h => h) ER.iX ?_
    walk_at "go"
    refine use_isX ER.ec (fun _ h => h) ER.iT ?_
    walk_at "go"
    refine use_isX ER.ec (fun _ h => h) ER.iC ?_
    walk_at "go"
    refine use_isX ER.ec (fun _ h => h) ER.iV ?_
    walk_at "go"
    have z := q H5 t5
    unfold mgb at z
    rw [if_neg (by rw [e]; exact Bool.false_ne_true)] at z
    exact z
end

/-! ### a drawn market -/
/-- the heap without what stands at p -/
def er (p : Addr) (H : Hp) : Hp := fun b => if b = p then none else H b
theorem er_ne {p b : Addr} {H : Hp} (h : b ≠ p) : er p H b = H b := if_neg h
theorem er_sub {p : Addr} {H : Hp} : Same (er p H) H := fun b o h => by
  unfold er at h
  split at h
  · cases h
  · exact h
theorem er_new {p : Addr} {H : Hp} (n : H p = none) : er p H = H := funext fun b => by
  unfold er
  split
  · rename_i e
    rw [e, n]
  · rfl
theorem er_upd {p : Addr} {H : Hp} {o : HO} : er p (upd H p o) = er p H := funext fun b => by
  unfold er
  split
  · rfl
  · rename_i h
    exact upd_ne h
theorem er_same {p : Addr} {H H' : Hp} (e : Same H H') : Same (er p H) (er p H') := fun b o h => by
  unfold er at h ⊢
  split at h
  · cases h
  · rename_i n
    rw [if_neg n]
    exact e _ _ h
theorem er_kb {p s : Addr} {H H' : Hp} (e : KB s H H') : KB s (er p H) (er p H') := fun b o n h => by
  unfold er at h ⊢
  split at h
  · cases h
  · rename_i n2
    rw [if_neg n2]
    exact e _ _ n h
/-- the drawing's dict and its lists stand apart from p -/
theorem LS.er {K : PySem.W.Frag} {c : Cfg} {ns : List Int} {xs : List Str} {s na nm p : Addr} {H H' : Hp} (L : LS K c ns xs s na nm (er p H)) (e : KB s H H') (L' : LS K c ns xs s na nm H') : LS K c ns xs s na nm (er p H') := by
  obtain ⟨⟨n, re, mx, h, _⟩, h1, h2, h3, h4, h5⟩ := L
  obtain ⟨⟨n', re', mx', h', r'⟩, _⟩ := L'
  have np : s ≠ p := fun z => by
    rw [z] at h
    unfold Bk.er at h
    rw [if_pos rfl] at h
    cases h
  exact ⟨⟨n', re', mx', (er_ne np).trans h', r'⟩, KB.seq (er_kb e) h h1, KB.seq (er_kb e) h h2, h3, h4, h5⟩
theorem LS.dm {K : PySem.W.Frag} {c : Cfg} {ns : List Int} {xs : List Str} {s na nm : Addr} {H H' : Hp} (L : LS K c ns xs s na nm H) (e : KB s H H') : DM K H H' := by
  obtain ⟨⟨n, re, mx, h, _⟩, _⟩ := L
  exact e.dm h
theorem inV_int {b : Int} {ns : List Int} : inV (.int b) (ns.map V.int) = decide (b ∈ ns) := by
  unfold inV
  rw [List.any_map, Bool.eq_iff_iff, List.any_eq_true, decide_eq_true_eq]
  constructor
  · rintro ⟨x, hx, e⟩
    have e' : (x == b) = true := by
      first
        | exact e
        | (have z : (b == x) = true := e; simpa [eq_comm] using z)
    rw [← eq_of_beq e']
    exact hx
  · intro h
    refine ⟨b, h, ?_⟩
    show (b == b) = true
    simp
structure StOk (ds : List PyData) : Prop where
  a : ds.all okStep = true
  n : (ds.map byOf).Nodup
theorem StOk.snoc {ds : List PyData} {b w : Int} (h : StOk ds) (hb : -4 < b) (hb2 : b < 4) (h0 : 1 ≤ w) (h1 : w ≤ 5) (hn : b ∉ ds.map byOf) : StOk (ds ++ [.tuple [.int b, .int w]]) := by
  refine ⟨?_, ?_⟩
  · rw [List.all_append, h.a]
    have e : okStep (.tuple [.int b, .int w]) = true := by
      show ((decide (-999999999999 ≤ b) && decide (b ≤ 999999999999)) && (decide (1 ≤ w) && decide (w ≤ 999))) = true
      simp only [Bool.and_eq_true, decide_eq_true_eq]
      omega
    simp [e]
  · rw [List.map_append]
    refine List.nodup_append.mpr ⟨h.n, by simp, fun a ha c hc => ?_⟩
    simp at hc
    subst hc
    exact fun e => hn (by rw [← e]; exact ha)
theorem StOk.sz : ∀ {ds : List PyData}, ds.all okStep = true → szAll ds = true
  | [], _ => rfl
  | d :: ds, h => by
    rw [List.all_cons, Bool.and_eq_true] at h
    show (szOk d && szAll ds) = true
    rw [StOk.sz h.2, Bool.and_true]
    have h1 := h.1
    unfold okStep at h1
    split at h1
    · rename_i a b
      rw [Bool.and_eq_true] at h1
      cases a with
      | int i =>
        cases b with
        | int j => rfl
        | _ => cases h1.2
      | _ => cases h1.1
    · cases h1
def spSteps (K : PySem.W.Frag) : Sp := fun vs H Q _ => ∃ (c : Cfg) (ns : List Int) (xs : List Str) (s na nm : Addr), vs = [.ref s] ∧ LS K c ns xs s na nm H ∧
  ∀ (p : Addr) (ds : List PyData) (H' : Hp), H p = none → KB s H H' → LS K c ns xs s na nm H' → Dp K H' (.ref p) (.list ds) → okSteps (.list ds) = true → Q (.ref p) H'
theorem use_steps {K : PySem.W.Frag} {c : Cfg} {ns : List Int} {xs : List Str} {s na nm : Addr} {H : Hp} {Q : VK} {E : XK} (L : LS K c ns xs s na nm H)
    (q : ∀ (p : Addr) (ds : List PyData) (H' : Hp), H p = none → KB s H H' → LS K c ns xs s na nm H' → Dp K H' (.ref p) (.list ds) → okSteps (.list ds) = true → Q (.ref p) H') : spSteps K ([.ref s] ++ []) H Q E := ⟨c, ns, xs, s, na, nm, rfl, L, q⟩
section
variable {P : Program} {w : World} {K : PySem.W.Frag} {mg : Str → Option Value} {base : Heap}
abbrev s__law_steps : Stmt := topS 29
theorem sc__law_steps : FnScope ["_law_s", "_law_steps_here", "_law_k", "_law_by", "_law_step"] ["_law_s"] (defScope s__law_steps) := ⟨rfl, rfl, rfl, by decide +kernel, rfl, by decide +kernel, by decide +kernel⟩
theorem h__law_steps {k : Nat} {f : Addr} {fd : FuncData} (O : Own K mg "_law_steps" s__law_steps ["_law_s"] f fd)  {f__law_taken : Addr} {fd__law_taken : FuncData} (D__law_taken : Has P w K mg base "_law_taken" ["_law_s", "_law_most"] k CX0 (spTaken K) f__law_taken fd__law_taken) (m_range : mg "range" = none) : Has P w K mg base "_law_steps" ["_law_s"] (k + 1) CX0 (spSteps K) f fd := by
  refine O.has (O.F.ok sc__law_steps (fun vs H Q E h => ?_) (fun cdv A outer s H vs Q E hr h => ?_))
  · obtain ⟨c, ns, xs, s, na, nm, rfl, _⟩ := h
    rfl
  obtain ⟨c, ns, xs, s, na, nm, rfl, L, q⟩ := h
  refine ⟨_, (pss_cons (ps_set (i := 1) sc__law_steps.nd rfl (.inl rfl) (pe_lst pa_nil)) (pss_cons (ps_for PassesOwn.never rfl (pi_range1 (by rfl) m_range (pa_cons (pe_op op_add pe_int (pe_call D__law_taken.G hr (by rfl) D__law_taken.g D__law_taken.k D__law_taken.b .nil pass0 (pa_cons (pv 0) (pa_cons pe_int pa_nil)))) pa_nil)) (pg_name (i := 2) sc__law_steps.nd rfl (.inl rfl)) (pss_cons (ps_set (i := 3) sc__law_steps.nd rfl (.inl rfl) (pe_op op_sub (pe_call D__law_taken.G hr (by rfl) D__law_taken.g D__law_taken.k D__law_taken.b .nil pass0 (pa_cons (pv 0) (pa_cons pe_int pa_nil))) pe_int)) (pss_one (ps_if (pt_cmpR op_notIn_seq (pv 3) (pe_lc (own := [("_law_step", 4)]) (g := gName 4) rfl sc__law_steps.nd (pi_list (pv 1)) (blkOk_by (own := [("_law_step", 4)]) (N := ["_law_s", "_law_steps_here", "_law_k", "_law_by", "_law_step"]) (sc := defScope s__law_steps) (by decide +kernel)) (fun _ _ _ _ _ => pg_name (i := 4) sc__law_steps.nd rfl (.inl rfl)) (fun _ _ _ _ _ => pts_nil) (fun _ _ _ _ _ => (pe_ix (r := rIxT K) ix_tup (pv 4) pe_int (fun _ _ => rfl)))) (by rfl)) (pss_one (ps_expr (pe_bm PySem.F.plainAttrs_list PySem.F.slot_list_append PySem.F.type_list_append mt_append (pv 1) (pa_cons (pe_tup (pa_cons (pv 3) (pa_cons (pe_op op_add pe_int (pe_call D__law_taken.G hr (by rfl) D__law_taken.g D__law_taken.k D__law_taken.b .nil pass0 (pa_cons (pv 0) (pa_cons pe_int pa_nil)))) pa_nil))) pa_nil)))) pss_nil)))) (pss_one (ps_ret (pv 1))))), ?_⟩
  walk_at "go"
  refine ⟨by show 0 ≤ sizeLine; decide, fun p np => ?_⟩
  have s1 := same_new (o := .lst []) np
  have L1 := L.same s1
  have hp1 : upd H p (.lst []) p = some (.lst []) := upd_same
  have E1 : er p (upd H p (.lst [])) = H := er_upd.trans (er_new np)
  walk_at "go"
  refine use_taken L1 (by decide) (by decide) fun r H2 r0 r1 e2 L2 => ?_
  have nps : p ≠ s := fun z => by
    obtain ⟨n, re, mx, h, _⟩ := L.st
    rw [z, h] at np
    cases np
  have hp2 := e2 _ _ nps hp1
  have F2 : LS K c ns xs s na nm (er p H2) := LS.er (by rw [E1]; exact L) e2 L2
  have k2 : KB s H (er p H2) := by
    have z := er_kb (p := p) e2
    rw [E1] at z
    exact z
  walk_at "go"
  refine ⟨by omega, by omega, for_range (lo := 0) (n := (1 + r).toNat) (fun i σ H3 => ∃ y2 y3, σ = [some (.ref s), some (.ref p), y2, y3, none] ∧ ∃ vs ds, H3 p = some (.lst vs) ∧ vs.length ≤ i ∧ DpAll K (er p H3) vs ds ∧ StOk ds ∧ (0 < i → ds ≠ []) ∧ LS K c ns xs s na nm (er p H3) ∧ KB s H (er p H3))
    ⟨_, _, rfl, [], [], hp2, Nat.le_refl _, .nil, ⟨rfl, List.nodup_nil⟩, fun h => absurd h (by decide), F2, k2⟩ (fun i σ H3 hi hW => ?_) (fun σ H3 hW => ?_)⟩
  · obtain ⟨y2, y3, rfl, vs, ds, hp3, hl3, D3, ok3, ne3, F3, k3⟩ := hW
    have L3 := F3.same er_sub
    walk_at "go"
    refine use_taken L3 (by decide) (by decide) fun b H4 b0 b1 e4 L4 => ?_
    have hp4 := e4 _ _ nps hp3
    have F4 := F3.er e4 L4
    have D4 := DpAll.dm (F3.dm (er_kb e4)) D3
    have k4 := k3.trans (er_kb e4)
    walk_at "go"
    have dl4 := DpAll.len D4
    refine ⟨⟨_, sql hp4⟩, fun D nD => lc_list (xs := vs) (Comp H4 D (fun j y H' => ∃ d, ds[j]? = some d ∧ y = .int (byOf d))) (.start nD) (fun i H' _ c => c.e.seq (sql hp4)) (fun j x H' hx c => ?_) (fun H5 c => ?_)⟩
    · have hj : j < ds.length := by have := (List.getElem?_eq_some_iff.mp hx).1; omega
      have hdj : ds[j]? = some ds[j] := List.getElem?_eq_getElem hj
      obtain ⟨x', hx', hD⟩ := DpAll.at D4 hdj
      obtain rfl : x' = x := Option.some.inj (hx'.symm.trans hx)
      obtain ⟨n, m, ed⟩ := okStep_tup (List.all_eq_true.mp ok3.a _ (List.getElem_mem hj))
      rw [ed] at hdj hD
      replace hD := Dp.dm (.of (er_sub.trans c.e)) hD
      cases hD with
      | @tup t us es ht he =>
      cases he with
      | @cons _ _ d1 _ h1 he =>
      cases h1
      walk_at "go"
      refine ⟨_, _, _, _, rfl, rfl, ht, at_any (j := 0) rfl rfl, ?_⟩
      exact c.next (fun j y Ha Hb h _ => h) (.refl _) (by omega) ⟨_, hdj, rfl⟩
    obtain ⟨e5, _, ys, hy, ly, ry⟩ := c
    have ey : ys = (ds.map byOf).map V.int := List.ext_getElem? fun j => by
      rcases Nat.lt_or_ge j ys.length with lt | ge
      · obtain ⟨d, hd1, e⟩ := ry j _ (List.getElem?_eq_getElem lt)
        rw [List.getElem?_eq_getElem lt, e, List.getElem?_map, List.getElem?_map, hd1]
        rfl
      · rw [List.getElem?_eq_none ge, List.getElem?_eq_none (by simp; omega)]
    rw [ey] at hy
    have hp5 := e5 _ _ hp4
    have F5 := F4.same (er_same e5)
    have D5 := DpAll.dm (.of (er_same e5)) D4
    have k5 := k4.trans (.of (er_same e5))
    have L5 := F5.same er_sub
    refine ⟨D, _, rfl, .inl (sql hy), rfl, by simp [flatV], ?_⟩
    rw [inV_int]
    refine ⟨_, rfl, ifdn (fun mem => ?_) (fun mem => ?_)⟩
    · walk_at "go"
      refine ⟨vs, ds, hp5, by omega, D5, ok3, fun _ z => ?_, F5, k5⟩
      rw [z] at mem
      cases mem
    · walk_at "go"
      refine ⟨.inl ⟨rfl, _, sql hp5⟩, ?_⟩
      walk_at "go"
      refine use_taken L5 (by decide) (by decide) fun w H6 w0 w1 e6 L6 => ?_
      have hp6 := e6 _ _ nps hp5
      have F6 := F5.er e6 L6
      have D6 := DpAll.dm (F5.dm (er_kb e6)) D5
      have k6 := k5.trans (er_kb e6)
      walk_at "go"
      refine ⟨by show 2 ≤ sizeLine; decide, fun t nt => ?_⟩
      have s7 := same_new (o := .tup [.int (b - 3), .int (1 + w)]) nt
      have npt : t ≠ p := fun z => by rw [z, hp6] at nt; cases nt
      have dt : Dp K (er p (upd H6 t (.tup [.int (b - 3), .int (1 + w)]))) (.ref t) (.tuple [.int (b - 3), .int (1 + w)]) := .tup (sqt ((er_ne npt).trans upd_same)) (.cons (.int _) (.cons (.int _) .nil))
      have hp7 := s7 _ _ hp6
      have F7 := F6.same (er_same s7)
      have D7 := DpAll.dm (.of (er_same s7)) D6
      have k7 := k6.trans (.of (er_same s7))
      generalize upd H6 t (.tup [.int (b - 3), .int (1 + w)]) = H7 at dt hp7 F7 D7 k7 ⊢
      walk_at "go"
      refine ⟨p, _, _, rfl, rfl, hp7, small1000 (by omega), ?_⟩
      refine ⟨_, _, rfl, _, _, upd_same, by rw [List.length_append]; show vs.length + 1 ≤ i + 1; omega, by rw [er_upd]; exact DpAll.app D7 (.cons dt .nil), ok3.snoc (by omega) (by omega) (by omega) (by omega) mem, fun _ z => by simp at z, by rw [er_upd]; exact F7, by rw [er_upd]; exact k7⟩
  · obtain ⟨y2, y3, rfl, vs, ds, hp3, hl3, D3, ok3, ne3, F3, k3⟩ := hW
    walk_at "go"
    have dl := DpAll.len D3
    refine q p ds H3 np (k3.trans (.of er_sub)) (F3.same er_sub) (.lst (sql hp3) (DpAll.dm (.of er_sub) D3)) ?_
    dsimp only [okSteps]
    have := List.length_pos_iff.mpr (ne3 (by omega))
    rw [decide_eq_true (show 1 ≤ ds.length by omega), decide_eq_true (show ds.length ≤ 4 by omega), ok3.a, decide_eq_true ok3.n]
    rfl
end

theorem okStep_ii {d : PyData} (h : okStep d = true) : ∃ i j, d = .tuple [.int i, .int j] := by
  unfold okStep at h
  split at h
  · rename_i a b
    rw [Bool.and_eq_true] at h
    cases a with
    | int i =>
      cases b with
      | int j => exact ⟨i, j, rfl⟩
      | _ => cases h.2
    | _ => cases h.1
  · cases h
theorem steps_lay : ∀ {es : List PyData}, es.all okStep = true → PyData.canLayAll0 es = true ∧ PyData.depthAll es ≤ 1
  | [], _ => ⟨rfl, by show 0 ≤ 1; decide⟩
  | d :: es, h => by
    rw [List.all_cons, Bool.and_eq_true] at h
    obtain ⟨i, j, rfl⟩ := okStep_ii h.1
    obtain ⟨a, b⟩ := steps_lay h.2
    exact ⟨by show (true && PyData.canLayAll0 es) = true; rw [a]; rfl, by show max 1 (PyData.depthAll es) ≤ 1; omega⟩
theorem word_lay {x : Str} (h : isW' (.str x) = true) : PyData.canLay0 (.str x) = true ∧ szOk (.str x) = true := by
  have z : (decide (1 ≤ x.length) && (decide (x.length ≤ 8) && x.cps.toList.all fun c => decide (97 ≤ c) && decide (c ≤ 122))) = true := h
  simp only [Bool.and_eq_true, decide_eq_true_eq, List.all_eq_true] at z
  refine ⟨?_, decide_eq_true (by omega)⟩
  show PyData.strOk x = true
  unfold PyData.strOk
  rw [Array.all_eq_true_iff_forall_mem]
  intro c hc
  have := z.2.2 c (by simpa using hc)
  exact decide_eq_true (by omega)
theorem okName_lay {d : PyData} (h : okName d = true) : PyData.canLay0 d = true ∧ PyData.depth d ≤ 3 ∧ szOk d = true := by
  unfold okName at h
  split at h
  · rename_i a b s
    simp only [Bool.and_eq_true] at h
    obtain ⟨h1, h2, h3⟩ := h
    obtain ⟨x, rfl⟩ := isW_str h1
    obtain ⟨es, rfl, _⟩ := okSteps_lst h3
    cases b with
    | int n =>
      dsimp only [okSteps] at h3
      simp only [Bool.and_eq_true] at h3
      obtain ⟨l1, l2⟩ := steps_lay h3.2.2.1
      obtain ⟨w1, w2⟩ := word_lay h1
      have sz := StOk.sz h3.2.2.1
      refine ⟨?_, ?_, ?_⟩
      · show (PyData.canLay0 (.str x) && (true && (PyData.canLayAll0 es && true))) = true
        rw [w1, l1]; rfl
      · show max 0 (max 0 (max (PyData.depthAll es + 1) 0)) + 1 ≤ 3
        omega
      · show (szOk (.str x) && (true && (szAll es && true))) = true
        rw [w2, sz]; rfl
    | _ => cases h2
  · cases h
theorem names_lay : ∀ {ds : List PyData}, ds.all okName = true → PyData.canLayAll0 ds = true ∧ PyData.depthAll ds ≤ 3 ∧ szAll ds = true
  | [], _ => ⟨rfl, by show 0 ≤ 3; decide, rfl⟩
  | d :: es, h => by
    rw [List.all_cons, Bool.and_eq_true] at h
    obtain ⟨a, b, c⟩ := okName_lay h.1
    obtain ⟨a', b', c'⟩ := names_lay h.2
    exact ⟨by show (PyData.canLay0 d && PyData.canLayAll0 es) = true; rw [a, a']; rfl, by show max (PyData.depth d) (PyData.depthAll es) ≤ 3; omega, by show (szOk d && szAll es) = true; rw [c, c']; rfl⟩
theorem names_shaped {ds : List PyData} (h : ds.all okName = true) : SeqAt.shaped (.list ds) = true := by
  obtain ⟨a, b, _⟩ := names_lay h
  unfold SeqAt.shaped
  rw [Bool.and_eq_true, decide_eq_true_eq]
  exact ⟨a, by show PyData.depthAll ds + 1 ≤ 64; omega⟩
theorem er_rd {p a : Addr} {H : Hp} {u : HO} (h : Rd H a u) (n : a ≠ p) : Rd (er p H) a u := by
  rcases h with h | ⟨o, h⟩
  · exact .inl ((er_ne n).trans h)
  · exact .inr ⟨o, (er_ne n).trans h⟩
theorem er_sqt {K : PySem.W.Frag} {p t : Addr} {H : Hp} {vs xs : List V} (hp : H p = some (.lst vs)) (h : SqT K H t xs) : SqT K (er p H) t xs := by
  rcases h with h | h
  · refine .inl (er_rd h fun z => ?_)
    rw [z] at h
    rcases h with h | ⟨o, h⟩ <;> rw [hp] at h <;> cases h
  · exact .inr h
theorem er_steps {K : PySem.W.Frag} {p : Addr} {H : Hp} {vs : List V} (hp : H p = some (.lst vs)) : ∀ {es : List PyData} {us : List V}, es.all okStep = true → DpAll K H us es → DpAll K (er p H) us es
  | [], _, _, .nil => .nil
  | d :: es, _, h, .cons hd hr => by
    rw [List.all_cons, Bool.and_eq_true] at h
    obtain ⟨i, j, rfl⟩ := okStep_ii h.1
    cases hd with
    | tup ht he =>
    cases he with
    | cons h1 he =>
    cases he with
    | cons h2 he =>
    cases he
    cases h1
    cases h2
    exact .cons (.tup (er_sqt hp ht) (.cons (.int _) (.cons (.int _) .nil))) (er_steps hp h.2 hr)
theorem er_stepsL {K : PySem.W.Frag} {p u : Addr} {H : Hp} {vs : List V} {es : List PyData} (hp : H p = some (.lst vs)) (n : u ≠ p) (h : Dp K H (.ref u) (.list es)) (ok : okSteps (.list es) = true) : Dp K (er p H) (.ref u) (.list es) := by
  have al : es.all okStep = true := by
    dsimp only [okSteps] at ok
    simp only [Bool.and_eq_true] at ok
    exact ok.2.2.1
  cases h with
  | lst hl ha =>
    refine .lst ?_ (er_steps hp al ha)
    rcases hl with hl | hl
    · exact .inl (er_rd hl n)
    · exact .inr hl
structure NmOk (c : Cfg) (i : Nat) (ds : List PyData) : Prop where
  a : ds.all okName = true
  n : (ds.map wordOf).Nodup
  w : ∀ x ∈ ds.map wordOf, ∃ j : Nat, j < i ∧ x = wd c (8 + (0 + (j : Int)))
theorem NmOk.snoc {c : Cfg} {i : Nat} {ds : List PyData} {n : Int} {es : List PyData} (ok : c.Ok) (h : NmOk c i ds) (hi : i < 3) (h0 : -1000000000000 < n) (h1 : n < 1000000000000) (he : okSteps (.list es) = true) :
    NmOk c (i + 1) (ds ++ [.tuple [.str (wd c (8 + (0 + (i : Int)))), .int n, .list es]]) := by
  have hw : isW' (.str (wd c (8 + (0 + (i : Int))))) = true := wd_word ok (by omega)
  refine ⟨?_, ?_, fun x hx => ?_⟩
  · rw [List.all_append, h.a]
    have e : okName (.tuple [.str (wd c (8 + (0 + (i : Int)))), .int n, .list es]) = true := by
      show (isW' (.str (wd c (8 + (0 + (i : Int))))) && ((decide (-999999999999 ≤ n) && decide (n ≤ 999999999999)) && okSteps (.list es))) = true
      rw [hw, he, decide_eq_true (show -999999999999 ≤ n by omega), decide_eq_true (show n ≤ 999999999999 by omega)]
      rfl
    rw [List.all_cons, e]
    rfl
  · rw [List.map_append]
    refine List.nodup_append.mpr ⟨h.n, by simp, fun a ha b hb => ?_⟩
    simp only [List.map_cons, List.map_nil, List.mem_singleton] at hb
    subst hb
    obtain ⟨j, hj, rfl⟩ := h.w a ha
    exact wd_ne ok (by omega) (by omega) (by omega) (by omega) (by omega)
  · rw [List.map_append, List.mem_append] at hx
    rcases hx with hx | hx
    · obtain ⟨j, hj, e⟩ := h.w x hx
      exact ⟨j, by omega, e⟩
    · simp only [List.map_cons, List.map_nil, List.mem_singleton] at hx
      exact ⟨i, by omega, hx⟩
def spMarket (K : PySem.W.Frag) : Sp := fun vs H Q _ => ∃ (c : Cfg) (ns : List Int) (xs : List Str) (s na nm : Addr) (m : Nat), vs = [.ref s, .int m] ∧ LS K c ns xs s na nm H ∧ m ≤ 3 ∧
  ∀ (t p : Addr) (la : Int) (ds : List PyData) (H' : Hp), KB s H H' → LS K c ns xs s na nm H' → SqT K H' t [.int la, .ref p] → 0 ≤ la → la < 9 → Dp K H' (.ref p) (.list ds) → ds.all okName = true → okNames (.list ds) = true → Q (.ref t) H'
theorem use_market {K : PySem.W.Frag} {c : Cfg} {ns : List Int} {xs : List Str} {s na nm : Addr} {m : Int} {H : Hp} {Q : VK} {E : XK} (L : LS K c ns xs s na nm H) (h0 : 0 ≤ m) (h1 : m < 4)
    (q : ∀ (t p : Addr) (la : Int) (ds : List PyData) (H' : Hp), KB s H H' → LS K c ns xs s na nm H' → SqT K H' t [.int la, .ref p] → 0 ≤ la → la < 9 → Dp K H' (.ref p) (.list ds) → ds.all okName = true → okNames (.list ds) = true → Q (.ref t) H') :
    spMarket K ([.ref s, .int m] ++ []) H Q E := ⟨c, ns, xs, s, na, nm, m.toNat, by rw [Int.toNat_of_nonneg h0]; rfl, L, by omega, q⟩
section
variable {P : Program} {w : World} {K : PySem.W.Frag} {mg : Str → Option Value} {base : Heap}
abbrev s__law_market : Stmt := topS 30
theorem sc__law_market : FnScope ["_law_s", "_law_many", "_law_names", "_law_k", "_law_begun_here"] ["_law_s", "_law_many"] (defScope s__law_market) := ⟨rfl, rfl, rfl, by decide +kernel, rfl, by decide +kernel, by decide +kernel⟩
theorem h__law_market {k : Nat} {f : Addr} {fd : FuncData} (O : Own K mg "_law_market" s__law_market ["_law_s", "_law_many"] f fd)  {f__law_taken : Addr} {fd__law_taken : FuncData} (D__law_taken : Has P w K mg base "_law_taken" ["_law_s", "_law_most"] k CX0 (spTaken K) f__law_taken fd__law_taken) {f__law_steps : Addr} {fd__law_steps : FuncData} (D__law_steps : Has P w K mg base "_law_steps" ["_law_s"] k CX0 (spSteps K) f__law_steps fd__law_steps) {f__law_word : Addr} {fd__law_word : FuncData} (D__law_word : Has P w K mg base "_law_word" ["_law_s", "_law_k"] k CX0 (spWord K) f__law_word fd__law_word) {f__law_number : Addr} {fd__law_number : FuncData} (D__law_number : Has P w K mg base "_law_number" ["_law_s"] k CX0 (spNumber K) f__law_number fd__law_number) (m_range : mg "range" = none) (m_max : mg "max" = none) (m_min : mg "min" = none) : Has P w K mg base "_law_market" ["_law_s", "_law_many"] (k + 1) CX0 (spMarket K) f fd := by
  refine O.has (O.F.ok sc__law_market (fun vs H Q E h => ?_) (fun cdv A outer s H vs Q E hr h => ?_))
  · obtain ⟨c, ns, xs, s, na, nm, m, rfl, _⟩ := h
    rfl
  obtain ⟨c, ns, xs, s, na, nm, m, rfl, L, hm, q⟩ := h
  refine ⟨_, (pss_cons (ps_set (i := 2) sc__law_market.nd rfl (.inl rfl) (pe_lst pa_nil)) (pss_cons (ps_for PassesOwn.never rfl (pi_range1 (by rfl) m_range (pa_cons (pv 1) pa_nil)) (pg_name (i := 3) sc__law_market.nd rfl (.inl rfl)) (pss_cons (ps_set (i := 4) sc__law_market.nd rfl (.inl rfl) (pe_callB (call_max2 rfl) (by rfl) m_max (by decide +kernel) (pa_cons (pe_op op_sub pe_int (pe_op op_pow pe_int pe_int)) (pa_cons (pe_callB (call_min2 rfl) (by rfl) m_min (by decide +kernel) (pa_cons (pe_op op_sub (pe_op op_pow pe_int pe_int) pe_int) (pa_cons (pe_call D__law_number.G hr (by rfl) D__law_number.g D__law_number.k D__law_number.b .nil pass0 (pa_cons (pv 0) pa_nil)) pa_nil))) pa_nil)))) (pss_one (ps_expr (pe_bm PySem.F.plainAttrs_list PySem.F.slot_list_append PySem.F.type_list_append mt_append (pv 2) (pa_cons (pe_tup (pa_cons (pe_call D__law_word.G hr (by rfl) D__law_word.g D__law_word.k D__law_word.b .nil pass0 (pa_cons (pv 0) (pa_cons (pe_op op_add pe_int (pv 3)) pa_nil))) (pa_cons (pv 4) (pa_cons (pe_call D__law_steps.G hr (by rfl) D__law_steps.g D__law_steps.k D__law_steps.b .nil pass0 (pa_cons (pv 0) pa_nil)) pa_nil)))) pa_nil)))))) (pss_one (ps_ret (pe_tup (pa_cons (pe_call D__law_taken.G hr (by rfl) D__law_taken.g D__law_taken.k D__law_taken.b .nil pass0 (pa_cons (pv 0) (pa_cons (pe_ix ix_list (pe_lst (pa_cons pe_int (pa_cons pe_int (pa_cons pe_int (pa_cons pe_int pa_nil))))) (pv 1) (fun _ _ => rfl)) pa_nil))) (pa_cons (pv 2) pa_nil))))))), ?_⟩
  have ok := L.ok
  walk_at "go"
  refine ⟨by show 0 ≤ sizeLine; decide, fun p np => ?_⟩
  have hp1 : upd H p (.lst []) p = some (.lst []) := upd_same
  have E1 : er p (upd H p (.lst [])) = H := er_upd.trans (er_new np)
  have nps : p ≠ s := fun z => by
    obtain ⟨n, re, mx, h, _⟩ := L.st
    rw [z, h] at np
    cases np
  walk_at "go"
  refine ⟨by omega, by omega, for_range (lo := 0) (n := m) (fun i σ H3 => ∃ y3 y4, σ = [some (.ref s), some (.int m), some (.ref p), y3, y4] ∧ ∃ vs ds, H3 p = some (.lst vs) ∧ ds.length = i ∧ DpAll K (er p H3) vs ds ∧ NmOk c i ds ∧ LS K c ns xs s na nm (er p H3) ∧ KB s H (er p H3))
    ⟨_, _, rfl, [], [], hp1, rfl, .nil, ⟨rfl, List.nodup_nil, fun x h => by cases h⟩, by rw [E1]; exact L, by rw [E1]; exact .refl _ _⟩ (fun i σ H3 hi hW => ?_) (fun σ H3 hW => ?_)⟩
  · obtain ⟨y3, y4, rfl, vs, ds, hp3, hl3, D3, ok3, F3, k3⟩ := hW
    have dl3 := DpAll.len D3
    have L3 := F3.same er_sub
    walk_at "go"
    refine g_I ⟨by decide, by decide, by decide⟩ ?_
    walk_at "go"
    refine g_I ⟨by decide, by decide, by decide⟩ ?_
    walk_at "go"
    refine use_number L3 fun r H4 b0 b1 e4 L4 => ?_
    have hp4 := e4 _ _ nps hp3
    have F4 := F3.er e4 L4
    have D4 := DpAll.dm (F3.dm (er_kb e4)) D3
    have k4 := k3.trans (er_kb e4)
    walk_at "go"
    have e10 : (10 : Int) ^ (12 : Int).toNat = 1000000000000 := by decide
    rw [e10]
    have hv : ∃ v : Int, (if (if r < 1000000000000 - 100 then r else 1000000000000 - 100) > 100 - 1000000000000 then (if r < 1000000000000 - 100 then r else 1000000000000 - 100) else 100 - 1000000000000) = v ∧ -1000000000000 < v ∧ v < 1000000000000 := ⟨_, rfl, by split <;> (try split) <;> omega, by split <;> (try split) <;> omega⟩
    obtain ⟨v, ev, v0, v1⟩ := hv
    rw [ev]
    walk_at "go"
    refine ⟨.inl ⟨rfl, _, sql hp4⟩, ?_⟩
    walk_at "go"
    refine use_word L4 (by omega) (by omega) fun H5 e5 => ?_
    have hp5 := e5 _ _ hp4
    have F5 := F4.same (er_same e5)
    have D5 := DpAll.dm (.of (er_same e5)) D4
    have k5 := k4.trans (.of (er_same e5))
    have L5 := L4.same e5
    walk_at "go"
    refine use_steps L5 fun u es H6 nu e6 L6 du oku => ?_
    have hp6 := e6 _ _ nps hp5
    have npu : u ≠ p := fun z => by rw [z, hp5] at nu; cases nu
    have F6 := F5.er e6 L6
    have D6 := DpAll.dm (F5.dm (er_kb e6)) D5
    have k6 := k5.trans (er_kb e6)
    walk_at "go"
    refine ⟨by show 3 ≤ sizeLine; decide, fun t nt => ?_⟩
    have s7 := same_new (o := .tup [.str (wd c (8 + (0 + (i : Int)))), .int v, .ref u]) nt
    have npt : t ≠ p := fun z => by rw [z, hp6] at nt; cases nt
    have du6 := er_stepsL hp6 npu du oku
    have dt : Dp K (er p (upd H6 t (.tup [.str (wd c (8 + (0 + (i : Int)))), .int v, .ref u]))) (.ref t) (.tuple [.str (wd c (8 + (0 + (i : Int)))), .int v, .list es]) :=
      .tup (sqt ((er_ne npt).trans upd_same)) (.cons (.str _) (.cons (.int _) (.cons (Dp.dm (.of (er_same s7)) du6) .nil)))
    have hp7 := s7 _ _ hp6
    have F7 := F6.same (er_same s7)
    have D7 := DpAll.dm (.of (er_same s7)) D6
    have k7 := k6.trans (.of (er_same s7))
    generalize upd H6 t (.tup [.str (wd c (8 + (0 + (i : Int)))), .int v, .ref u]) = H7 at dt hp7 F7 D7 k7 ⊢
    walk_at "go"
    refine ⟨p, _, _, rfl, rfl, hp7, small1000 (by omega), ?_⟩
    exact ⟨_, _, rfl, _, _, upd_same, by rw [List.length_append, hl3]; rfl, by rw [er_upd]; exact DpAll.app D7 (.cons dt .nil), ok3.snoc ok (by omega) v0 v1 oku, by rw [er_upd]; exact F7, by rw [er_upd]; exact k7⟩
  · obtain ⟨y3, y4, rfl, vs, ds, hp3, hl3, D3, ok3, F3, k3⟩ := hW
    have dl3 := DpAll.len D3
    have L3 := F3.same er_sub
    have k9 := k3.trans (.of er_sub)
    have d9 : Dp K H3 (.ref p) (.list ds) := .lst (sql hp3) (DpAll.dm (.of er_sub) D3)
    have okd : okNames (.list ds) = true := by
      dsimp only [okNames]
      rw [decide_eq_true (show ds.length ≤ 3 by omega), ok3.a, decide_eq_true ok3.n]
      rfl
    walk_at "go"
    refine ⟨by show 4 ≤ sizeLine; decide, fun l nl => ?_⟩
    have s4 := same_new (o := .lst [.int 9, .int 5, .int 3, .int 2]) nl
    obtain ⟨z, hz, z0, z1⟩ : ∃ z : Int, [V.int 9, V.int 5, V.int 3, V.int 2][m]? = some (.int z) ∧ 0 < z ∧ z ≤ 9 := by
      match m, hm with
      | 0, _ => exact ⟨9, rfl, by decide, by decide⟩
      | 1, _ => exact ⟨5, rfl, by decide, by decide⟩
      | 2, _ => exact ⟨3, rfl, by decide, by decide⟩
      | 3, _ => exact ⟨2, rfl, by decide, by decide⟩
    walk_at "go"
    refine ⟨_, _, _, _, rfl, rfl, sql upd_same, at_any (j := m) rfl hz, ?_⟩
    have L4 := L3.same s4
    have k4 := k9.trans (.of s4)
    have d4 := Dp.dm (.of s4) d9
    generalize upd H3 l (.lst [.int 9, .int 5, .int 3, .int 2]) = H4 at L4 k4 d4 ⊢
    walk_at "go"
    refine use_taken L4 (by omega) (by omega) fun r H5 r0 r1 e5 L5 => ?_
    have d5 := Dp.dm (L4.dm e5) d4
    have k5 := k4.trans e5
    walk_at "go"
    refine ⟨by show 2 ≤ sizeLine; decide, fun t nt => ?_⟩
    have s6 := same_new (o := .tup [.int r, .ref p]) nt
    exact q t p r ds _ (k5.trans (.of s6)) (L5.same s6) (sqt upd_same) r0 (by omega) (Dp.dm (.of s6) d5) ok3.a okd
end

/-! ### twenty-four markets that are none -/
theorem evd_tupOf {K : PySem.W.Frag} {Γ : Env4} {ta : TE} {ds : List PyData} (ha : EvD K Γ ta (.list ds)) : EvD K Γ (tCB (rTupOf K) (tCons ta tNil)) (.tuple ds) := fun σ H Q s q =>
  ha σ H _ s fun v H1 e1 d1 => by
    cases d1 with
    | lst hl hall => exact ⟨_, _, rfl, .inl ⟨hl, fun p np => q _ _ (e1.trans (same_new np)) (.tup (sqt upd_same) (DpAll.dm (.of (same_new np)) hall))⟩⟩
local macro_rules
  | `(tactic| walk_at "ev2") => `(tactic| repeat' (first
      | exact eva_nil
      | apply eva_cons
      | exact evd_str _
      | exact evd_int _
      | exact evd_bl _
      | exact evd_non
      | exact evd_var rfl
      | apply evd_tupOf
      | apply evd_tup
      | apply evd_lst
      | apply evd_I0
      | apply evd_I
      | apply evd_neg
      | exact Nat.le_of_ble_eq_true rfl
      | decide
      | exact ⟨by decide, by decide, by decide⟩))
theorem same_new' {H H1 : Hp} {p : Addr} {o : HO} (e : Same H H1) (n : H1 p = none) : Same H (upd H1 p o) := e.trans (same_new n)
def dSt : PyData := .list [.tuple [.int 1, .int 1]]
def G2 (ds : List PyData) : Env4
  | 1 => some (.list ds)
  | 2 => some dSt
  | _ => none
def G5 (ds d4 : List PyData) : Env4
  | 1 => some (.list ds)
  | 2 => some dSt
  | 4 => some (.list d4)
  | _ => none
theorem mb_ok {K : PySem.W.Frag} {ds : List PyData} {i : V} {v1 v2 : V} {x y : Option V} {H : Hp} (a : Dp K H v1 (.list ds)) (b : Dp K H v2 dSt) : SlotsOk K (G2 ds) [some i, some v1, some v2, x, y] H := by
  intro j d h
  match j, h with
  | 1, h => cases h; exact ⟨_, rfl, a⟩
  | 2, h => cases h; exact ⟨_, rfl, b⟩
theorem mb_ok5 {K : PySem.W.Frag} {ds d4 : List PyData} {i : V} {v1 v2 v4 : V} {x : Option V} {H : Hp} (a : Dp K H v1 (.list ds)) (b : Dp K H v2 dSt) (c : Dp K H v4 (.list d4)) : SlotsOk K (G5 ds d4) [some i, some v1, some v2, x, some v4] H := by
  intro j d h
  match j, h with
  | 1, h => cases h; exact ⟨_, rfl, a⟩
  | 2, h => cases h; exact ⟨_, rfl, b⟩
  | 4, h => cases h; exact ⟨_, rfl, c⟩
theorem mb_first {K : PySem.W.Frag} {D : Ends} {ds : List PyData} {i v1 v2 : V} {x y : Option V} {H : Hp} {ts : TA} {es : List PyData} (a : Dp K H v1 (.list ds)) (b : Dp K H v2 dSt) (e : EvA K (G2 ds) ts es) (hl : es.length ≤ 1000)
    (k : ∀ p xs H', Same H H' → H' p = some (.lst xs) → DpAll K H' xs es → D.nx [some i, some v1, some v2, some (.ref p), y] H') : tAsg (tLst ts) (gName 3) D [some i, some v1, some v2, x, y] H :=
  ev_lst e hl (mb_ok a b) fun p xs H1 e1 n1 d1 => k p xs _ (same_new' e1 n1) upd_same (DpAll.dm (.of (same_new n1)) d1)
theorem mb_cat {K : PySem.W.Frag} {Γ : Env4} {σ : L2.St} {p : Addr} {xs : List V} {H : Hp} {ts : TA} {d0 es : List PyData} {Q : VK} (h3 : σ[3]? = some (some (.ref p))) (S : SlotsOk K Γ σ H) (hp : H p = some (.lst xs)) (hx : DpAll K H xs d0) (e : EvA K Γ ts es) (h0 : d0.length ≤ 400) (hl : es.length ≤ 400)
    (k : ∀ r zs H', Same H H' → H' r = some (.lst zs) → DpAll K H' zs (d0 ++ es) → Q (.ref r) H') : tOp rCat (tVar 3) (tLst ts) σ H Q := by
  refine ⟨_, h3, ev_lst e (by omega) S fun q ys H1 e1 n1 d1 => ?_⟩
  have e2 : Same H (upd H1 q (.lst ys)) := same_new' e1 n1
  have l1 := DpAll.len hx
  have l2 := DpAll.len d1
  refine ⟨p, q, xs, ys, rfl, rfl, e2 _ _ hp, upd_same, sz (by omega), fun r nr => ?_⟩
  have e3 := same_new' (o := .lst (xs ++ ys)) e2 nr
  have e4 : Same H1 (upd (upd H1 q (.lst ys)) r (.lst (xs ++ ys))) := (same_new n1).trans (same_new nr)
  exact k r (xs ++ ys) _ e3 upd_same (DpAll.app (DpAll.dm (.of e3) hx) (DpAll.dm (.of e4) d1))
theorem mb_step {K : PySem.W.Frag} {D : Ends} {ds : List PyData} {i v1 v2 : V} {y : Option V} {p : Addr} {xs : List V} {H : Hp} {ts : TA} {d0 es : List PyData} (a : Dp K H v1 (.list ds)) (b : Dp K H v2 dSt) (hp : H p = some (.lst xs)) (hx : DpAll K H xs d0) (e : EvA K (G2 ds) ts es) (h0 : d0.length ≤ 400) (hl : es.length ≤ 400)
    (k : ∀ r zs H', Same H H' → H' r = some (.lst zs) → DpAll K H' zs (d0 ++ es) → D.nx [some i, some v1, some v2, some (.ref r), y] H') : tAsg (tOp rCat (tVar 3) (tLst ts)) (gName 3) D [some i, some v1, some v2, some (.ref p), y] H :=
  mb_cat rfl (mb_ok a b) hp hx e h0 hl k
def spMBad (K : PySem.W.Frag) : Sp := fun vs H Q _ => ∃ (i : Int) (v1 : V) (ds : List PyData), vs = [.int i, v1] ∧ 0 ≤ i ∧ i < 24 ∧ Dp K H v1 (.list ds) ∧ szAll ds = true ∧
  ∀ (t : Addr) (l n : V) (dl dn : PyData) (H' : Hp), Same H H' → SqT K H' t [l, n] → Dp K H' l dl → Dp K H' n dn → szOk dn = true → okMk dl dn = false → Q (.ref t) H'
theorem use_mbad {K : PySem.W.Frag} {i : Int} {v1 : V} {ds : List PyData} {H : Hp} {Q : VK} {E : XK} (i0 : 0 ≤ i) (i1 : i < 24) (h : Dp K H v1 (.list ds)) (z : szAll ds = true)
    (q : ∀ (t : Addr) (l n : V) (dl dn : PyData) (H' : Hp), Same H H' → SqT K H' t [l, n] → Dp K H' l dl → Dp K H' n dn → szOk dn = true → okMk dl dn = false → Q (.ref t) H') : spMBad K ([.int i, v1] ++ []) H Q E := ⟨i, v1, ds, rfl, i0, i1, h, z, q⟩
theorem pick_mbad {K : PySem.W.Frag} {H : Hp} {xs : List V} {es : List PyData} (hx : DpAll K H xs es) (ha : ∀ d ∈ es, ∃ l n, d = .tuple [l, n] ∧ okMk l n = false ∧ szOk n = true) (hl : es.length = 24) {i : Int} (i0 : 0 ≤ i) (i1 : i < 24) :
    ∃ t l n dl dn, atI xs i = some (.ref t) ∧ SqT K H t [l, n] ∧ Dp K H l dl ∧ Dp K H n dn ∧ szOk dn = true ∧ okMk dl dn = false := by
  have hi : i.toNat < es.length := by omega
  have hd := List.getElem?_eq_getElem hi
  obtain ⟨v, hv, h⟩ := DpAll.at hx hd
  obtain ⟨l, n, e, z1, z2⟩ := ha _ (List.getElem_mem hi)
  rw [e] at h
  cases h with
  | tup ht he =>
  cases he with
  | cons h1 he =>
  cases he with
  | cons h2 he =>
  cases he
  exact ⟨_, _, _, _, _, at_any (j := i.toNat) (by omega) hv, ht, h1, h2, z2, z1⟩
section
variable {P : Program} {w : World} {K : PySem.W.Frag} {mg : Str → Option Value} {base : Heap}
abbrev s__law_bad : Stmt := topS 32
theorem sc__law_bad : FnScope ["_law_way", "_law_names", "_law_steps_here", "_law_some", "_law_four"] ["_law_way", "_law_names"] (defScope s__law_bad) := ⟨rfl, rfl, rfl, by decide +kernel, rfl, by decide +kernel, by decide +kernel⟩
theorem h__law_bad {k : Nat} {f : Addr} {fd : FuncData} (O : Own K mg "_law_bad" s__law_bad ["_law_way", "_law_names"] f fd)  (m_tuple : mg "tuple" = none) : Has P w K mg base "_law_bad" ["_law_way", "_law_names"] (k + 1) CX0 (spMBad K) f fd := by
  refine O.has (O.F.ok sc__law_bad (fun vs H Q E h => ?_) (fun cdv A outer s H vs Q E hr h => ?_))
  · obtain ⟨i, v1, ds, rfl, _⟩ := h
    rfl
  obtain ⟨i, v1, ds, rfl, i0, i1, hd, hz, q⟩ := h
  refine ⟨_, (pss_cons (ps_set (i := 2) sc__law_bad.nd rfl (.inl rfl) (pe_lst (pa_cons (pe_tup (pa_cons pe_int (pa_cons pe_int pa_nil))) pa_nil))) (pss_cons (ps_set (i := 3) sc__law_bad.nd rfl (.inl rfl) (pe_lst (pa_cons (pe_tup (pa_cons (pe_un un_neg pe_int) (pa_cons (pv 1) pa_nil))) (pa_cons (pe_tup (pa_cons pe_int (pa_cons (pv 1) pa_nil))) (pa_cons (pe_tup (pa_cons pe_bl (pa_cons (pv 1) pa_nil))) (pa_cons (pe_tup (pa_cons pe_int (pa_cons pe_non pa_nil))) (pa_cons (pe_tup (pa_cons pe_int (pa_cons (pe_callTy (r := rTupOf K) callTupOf (by rfl) m_tuple (by decide +kernel) (pa_cons (pv 1) pa_nil)) pa_nil))) (pa_cons (pe_tup (pa_cons pe_int (pa_cons (pe_lst (pa_cons (pe_tup (pa_cons pe_str (pa_cons pe_int (pa_cons (pe_lst pa_nil) pa_nil)))) pa_nil)) pa_nil))) pa_nil)))))))) (pss_cons (ps_set (i := 3) sc__law_bad.nd rfl (.inl rfl) (pe_op op_cat (pv 3) (pe_lst (pa_cons (pe_tup (pa_cons pe_int (pa_cons (pe_lst (pa_cons (pe_tup (pa_cons pe_str (pa_cons pe_int (pa_cons (pv 2) pa_nil)))) (pa_cons (pe_tup (pa_cons pe_str (pa_cons pe_int (pa_cons (pv 2) pa_nil)))) pa_nil))) pa_nil))) (pa_cons (pe_tup (pa_cons pe_int (pa_cons (pe_lst (pa_cons (pe_tup (pa_cons pe_str (pa_cons pe_int (pa_cons (pv 2) pa_nil)))) pa_nil)) pa_nil))) (pa_cons (pe_tup (pa_cons pe_int (pa_cons (pe_lst (pa_cons (pe_tup (pa_cons pe_str (pa_cons pe_int (pa_cons (pv 2) pa_nil)))) pa_nil)) pa_nil))) pa_nil)))))) (pss_cons (ps_set (i := 3) sc__law_bad.nd rfl (.inl rfl) (pe_op op_cat (pv 3) (pe_lst (pa_cons (pe_tup (pa_cons pe_int (pa_cons (pe_lst (pa_cons (pe_tup (pa_cons pe_str (pa_cons pe_bl (pa_cons (pv 2) pa_nil)))) pa_nil)) pa_nil))) (pa_cons (pe_tup (pa_cons pe_int (pa_cons (pe_lst (pa_cons (pe_tup (pa_cons pe_str (pa_cons (pe_op op_pow pe_int pe_int) (pa_cons (pv 2) pa_nil)))) pa_nil)) pa_nil))) (pa_cons (pe_tup (pa_cons pe_int (pa_cons (pe_lst (pa_cons (pe_tup (pa_cons pe_str (pa_cons pe_int pa_nil))) pa_nil)) pa_nil))) (pa_cons (pe_tup (pa_cons pe_int (pa_cons (pe_lst (pa_cons (pe_lst (pa_cons pe_str (pa_cons pe_int (pa_cons (pv 2) pa_nil)))) pa_nil)) pa_nil))) pa_nil))))))) (pss_cons (ps_set (i := 3) sc__law_bad.nd rfl (.inl rfl) (pe_op op_cat (pv 3) (pe_lst (pa_cons (pe_tup (pa_cons pe_int (pa_cons (pe_lst (pa_cons (pe_tup (pa_cons pe_str (pa_cons pe_int (pa_cons (pe_lst (pa_cons (pe_tup (pa_cons pe_int (pa_cons pe_int pa_nil))) pa_nil)) pa_nil)))) pa_nil)) pa_nil))) (pa_cons (pe_tup (pa_cons pe_int (pa_cons (pe_lst (pa_cons (pe_tup (pa_cons pe_str (pa_cons pe_int (pa_cons (pe_lst (pa_cons (pe_tup (pa_cons pe_int (pa_cons pe_int pa_nil))) pa_nil)) pa_nil)))) pa_nil)) pa_nil))) (pa_cons (pe_tup (pa_cons pe_int (pa_cons (pe_lst (pa_cons (pe_tup (pa_cons pe_str (pa_cons pe_int (pa_cons (pe_lst (pa_cons (pe_tup (pa_cons pe_int (pa_cons pe_int pa_nil))) (pa_cons (pe_tup (pa_cons pe_int (pa_cons pe_int pa_nil))) pa_nil))) pa_nil)))) pa_nil)) pa_nil))) pa_nil)))))) (pss_cons (ps_set (i := 3) sc__law_bad.nd rfl (.inl rfl) (pe_op op_cat (pv 3) (pe_lst (pa_cons (pe_tup (pa_cons pe_int (pa_cons (pe_lst (pa_cons (pe_tup (pa_cons pe_str (pa_cons pe_int (pa_cons (pe_lst (pa_cons (pe_tup (pa_cons pe_int pa_nil)) pa_nil)) pa_nil)))) pa_nil)) pa_nil))) (pa_cons (pe_tup (pa_cons pe_int (pa_cons (pe_lst (pa_cons (pe_tup (pa_cons pe_str (pa_cons pe_int (pa_cons (pe_lst (pa_cons (pe_lst (pa_cons pe_int (pa_cons pe_int pa_nil))) pa_nil)) pa_nil)))) pa_nil)) pa_nil))) (pa_cons (pe_tup (pa_cons pe_int (pa_cons (pe_lst (pa_cons (pe_tup (pa_cons pe_str (pa_cons pe_int (pa_cons (pe_tup (pa_cons (pe_tup (pa_cons pe_int (pa_cons pe_int pa_nil))) pa_nil)) pa_nil)))) pa_nil)) pa_nil))) pa_nil)))))) (pss_cons (ps_set (i := 3) sc__law_bad.nd rfl (.inl rfl) (pe_op op_cat (pv 3) (pe_lst (pa_cons (pe_tup (pa_cons pe_int (pa_cons (pe_lst (pa_cons (pe_tup (pa_cons pe_str (pa_cons pe_int (pa_cons (pe_lst (pa_cons (pe_tup (pa_cons pe_int (pa_cons pe_int pa_nil))) (pa_cons (pe_tup (pa_cons pe_int (pa_cons pe_int pa_nil))) (pa_cons (pe_tup (pa_cons pe_int (pa_cons pe_int pa_nil))) (pa_cons (pe_tup (pa_cons pe_int (pa_cons pe_int pa_nil))) (pa_cons (pe_tup (pa_cons pe_int (pa_cons pe_int pa_nil))) pa_nil)))))) pa_nil)))) pa_nil)) pa_nil))) (pa_cons (pe_tup (pa_cons pe_int (pa_cons (pe_lst (pa_cons (pe_tup (pa_cons pe_str (pa_cons pe_int (pa_cons (pe_lst (pa_cons (pe_tup (pa_cons (pe_op op_sub pe_int (pe_op op_pow pe_int pe_int)) (pa_cons pe_int pa_nil))) pa_nil)) pa_nil)))) pa_nil)) pa_nil))) pa_nil))))) (pss_cons (ps_set (i := 4) sc__law_bad.nd rfl (.inl rfl) (pe_lst (pa_cons (pe_tup (pa_cons pe_str (pa_cons pe_int (pa_cons (pv 2) pa_nil)))) (pa_cons (pe_tup (pa_cons pe_str (pa_cons pe_int (pa_cons (pv 2) pa_nil)))) (pa_cons (pe_tup (pa_cons pe_str (pa_cons pe_int (pa_cons (pv 2) pa_nil)))) (pa_cons (pe_tup (pa_cons pe_str (pa_cons pe_int (pa_cons (pv 2) pa_nil)))) pa_nil)))))) (pss_one (ps_ret (pe_ix ix_list (pe_op op_cat (pv 3) (pe_lst (pa_cons (pe_tup (pa_cons pe_int (pa_cons (pv 4) pa_nil))) (pa_cons (pe_tup (pa_cons pe_non (pa_cons (pv 1) pa_nil))) (pa_cons (pe_tup (pa_cons pe_int (pa_cons (pe_lst (pa_cons (pe_tup (pa_cons pe_str (pa_cons pe_int (pa_cons (pe_lst (pa_cons (pe_tup (pa_cons pe_int (pa_cons pe_bl pa_nil))) pa_nil)) pa_nil)))) pa_nil)) pa_nil))) pa_nil))))) (pv 0) (fun _ _ => rfl)))))))))))), ?_⟩
  with_reducible refine g_seq ?_
  with_reducible refine g_asg ?_
  refine (evd_lst (Γ := fun _ => none) (K := K) (ds := [.tuple [.int 1, .int 1]]) (by walk_at "ev2") (by decide)) _ _ _ (fun _ _ h => by cases h) fun v2 H1 e1 d2 => ?_
  replace hd := Dp.dm (.of e1) hd
  with_reducible refine g_name ?_
  have E0 := e1
  with_reducible refine g_seq ?_
  show tAsg _ _ _ [some (V.int i), some v1, some v2, none, none] H1
  apply mb_first hd d2
  · walk_at "ev2"
  · exact Nat.le_of_ble_eq_true rfl
  intro p xs H4 e4 hp hx
  replace E0 := E0.trans e4
  replace hd := Dp.dm (.of e4) hd
  replace d2 := Dp.dm (.of e4) d2
  with_reducible refine g_seq ?_
  apply mb_step hd d2 hp hx
  · walk_at "ev2"
  · exact Nat.le_of_ble_eq_true rfl
  · exact Nat.le_of_ble_eq_true rfl
  clear hx hp
  intro p xs H4 e4 hp hx
  replace E0 := E0.trans e4
  replace hd := Dp.dm (.of e4) hd
  replace d2 := Dp.dm (.of e4) d2
  with_reducible refine g_seq ?_
  apply mb_step hd d2 hp hx
  · walk_at "ev2"
  · exact Nat.le_of_ble_eq_true rfl
  · exact Nat.le_of_ble_eq_true rfl
  clear hx hp
  intro p xs H4 e4 hp hx
  replace E0 := E0.trans e4
  replace hd := Dp.dm (.of e4) hd
  replace d2 := Dp.dm (.of e4) d2
  with_reducible refine g_seq ?_
  apply mb_step hd d2 hp hx
  · walk_at "ev2"
  · exact Nat.le_of_ble_eq_true rfl
  · exact Nat.le_of_ble_eq_true rfl
  clear hx hp
  intro p xs H4 e4 hp hx
  replace E0 := E0.trans e4
  replace hd := Dp.dm (.of e4) hd
  replace d2 := Dp.dm (.of e4) d2
  with_reducible refine g_seq ?_
  apply mb_step hd d2 hp hx
  · walk_at "ev2"
  · exact Nat.le_of_ble_eq_true rfl
  · exact Nat.le_of_ble_eq_true rfl
  clear hx hp
  intro p xs H4 e4 hp hx
  replace E0 := E0.trans e4
  replace hd := Dp.dm (.of e4) hd
  replace d2 := Dp.dm (.of e4) d2
  with_reducible refine g_seq ?_
  apply mb_step hd d2 hp hx
  · walk_at "ev2"
  · exact Nat.le_of_ble_eq_true rfl
  · exact Nat.le_of_ble_eq_true rfl
  clear hx hp
  intro p xs H4 e4 hp hx
  replace E0 := E0.trans e4
  replace hd := Dp.dm (.of e4) hd
  replace d2 := Dp.dm (.of e4) d2
  with_reducible refine g_seq ?_
  with_reducible refine g_asg ?_
  refine (evd_lst (Γ := G2 ds) (K := K) (ds := [.tuple [.str "w", .int 1, dSt], .tuple [.str "x", .int 1, dSt], .tuple [.str "y", .int 1, dSt], .tuple [.str "z", .int 1, dSt]]) (by walk_at "ev2") (by decide)) _ _ _ (mb_ok hd d2) fun v4 H5 e5 d4 => ?_
  replace E0 := E0.trans e5
  replace hd := Dp.dm (.of e5) hd
  replace d2 := Dp.dm (.of e5) d2
  replace hp := e5 _ _ hp
  replace hx := DpAll.dm (.of e5) hx
  with_reducible refine g_name ?_
  dsimp only [List.set]
  with_reducible refine g_ret ?_
  with_reducible refine g_op ?_
  apply mb_cat (Γ := G5 ds [.tuple [.str "w", .int 1, dSt], .tuple [.str "x", .int 1, dSt], .tuple [.str "y", .int 1, dSt], .tuple [.str "z", .int 1, dSt]]) rfl (mb_ok5 hd d2 d4) hp hx
  · walk_at "ev2"
  · exact Nat.le_of_ble_eq_true rfl
  · exact Nat.le_of_ble_eq_true rfl
  clear hx hp
  intro p xs H6 e6 hp hx
  replace E0 := E0.trans e6
  obtain ⟨t, l, n, dl, dn, hv, ht, hl, hn, z1, z2⟩ := pick_mbad hx (by
    intro d hd
    simp only [List.cons_append, List.nil_append, List.mem_cons, List.not_mem_nil, or_false] at hd
    rcases hd with rfl | rfl | rfl | rfl | rfl | rfl | rfl | rfl | rfl | rfl | rfl | rfl | rfl | rfl | rfl | rfl | rfl | rfl | rfl | rfl | rfl | rfl | rfl | rfl
    all_goals first
      | exact ⟨_, _, rfl, by decide +kernel, by decide +kernel⟩
      | exact ⟨_, _, rfl, rfl, hz⟩) rfl i0 i1
  walk_at "go"
  exact ⟨_, _, _, _, rfl, rfl, sql hp, hv, q t l n dl dn _ E0 ht hl hn z1 z2⟩
end

/-! ### the law -/
local macro_rules
  | `(tactic| walk_at "ev2") => `(tactic| repeat' (first
      | exact eva_nil
      | apply eva_cons
      | exact evd_str _
      | exact evd_int _
      | exact evd_bl _
      | exact evd_non
      | exact evd_var rfl
      | apply evd_tupOf
      | apply evd_tup
      | apply evd_lst
      | apply evd_I0
      | apply evd_I
      | apply evd_neg
      | exact Nat.le_of_ble_eq_true rfl
      | decide
      | exact ⟨by decide, by decide, by decide⟩))
theorem LS.tb {K : PySem.W.Frag} {PT : Addr} {c : Cfg} {ns : List Int} {xs : List Str} {s na nm : Addr} {H H' : Hp} (L : LS K c ns xs s na nm H) (g : GxR.TabG H PT) (t : Tb PT H H') : LS K c ns xs s na nm H' := by
  obtain ⟨⟨n, re, mx, h, r⟩, h1, h2, h3, h4, h5⟩ := L
  have m := t.dm (K := K) g
  obtain ⟨ps, hP, _⟩ := g
  exact ⟨⟨n, re, mx, t.k _ _ (fun z => by rw [z, hP] at h; cases h) h, r⟩, m.l _ _ h1, m.l _ _ h2, h3, h4, h5⟩
theorem LS.tab {K : PySem.W.Frag} {PT : Addr} {c : Cfg} {ns : List Int} {xs : List Str} {s na nm : Addr} {H H' : Hp} (L : LS K c ns xs s na nm H) (g : GxR.TabG H PT) (e : KB s H H') : GxR.TabG H' PT := by
  obtain ⟨⟨n, re, mx, h, r⟩, _⟩ := L
  exact tab_kb g e h
theorem DpAll_of {K : PySem.W.Frag} {H : Hp} : ∀ {ds : List PyData} {ys : List V}, ys.length = ds.length → (∀ (j : Nat) (y : V) (d : PyData), ys[j]? = some y → ds[j]? = some d → Dp K H y d) → DpAll K H ys ds
  | [], [], _, _ => .nil
  | d :: ds, y :: ys, h, q => .cons (q 0 y d rfl rfl) (DpAll_of (by simpa using h) fun j y d h1 h2 => q (j + 1) y d (by simpa using h1) (by simpa using h2))
theorem evd_asg {K : PySem.W.Frag} {Γ : Env4} {D : Ends} {t : TE} {d : PyData} {i : Nat} {σ : L2.St} {H : Hp} (e : EvD K Γ t d) (S : SlotsOk K Γ σ H) (k : ∀ v H', Same H H' → Dp K H' v d → gName i v σ H' D.nx) : tAsg t (gName i) D σ H := e σ H _ S k
theorem eva_use {K : PySem.W.Frag} {Γ : Env4} {t : TA} {ds : List PyData} {σ : L2.St} {H : Hp} {R : List V → Hp → Prop} (e : EvA K Γ t ds) (S : SlotsOk K Γ σ H) (k : ∀ vs H', Same H H' → DpAll K H' vs ds → R vs H') : t σ H R := e σ H R S k
def G4 : Env4
  | 4 => some dSt
  | _ => none
def spLaw (K : PySem.W.Frag) (PT : Addr) : Sp := fun vs H Q _ => ∃ (ns : List Int) (na : Addr), vs = [.ref na] ∧ SqL K H na (ns.map V.int) ∧ ns.length ≤ 63 ∧ GxR.TabG H PT ∧ ∀ H', Q (.bl true) H'
section
variable {P : Program} {w : World} {K : PySem.W.Frag} {mg : Str → Option Value} {base : Heap}
abbrev s_law : Stmt := topS 33
theorem sc_law : FnScope ["_law_script", "_law_s", "_law_last", "_law_names", "_law_one", "_law_handed", "_law_wide", "_law_bad_here", "_law_thrice"] ["_law_script"] (defScope s_law) := ⟨rfl, rfl, rfl, by decide +kernel, rfl, by decide +kernel, by decide +kernel⟩
theorem h_law {PT : Addr} {k : Nat} {f : Addr} {fd : FuncData} (O : Own K mg "law" s_law ["_law_script"] f fd) {C_BadMarket : Addr} (X_BadMarket : ExcT K mg "BadMarket" C_BadMarket)  {f__law_refused : Addr} {fd__law_refused : FuncData} (D__law_refused : Has P w K mg base "_law_refused" ["_law_last", "_law_names"] k CX0 (spMRef K PT) f__law_refused fd__law_refused) {f__law_bad : Addr} {fd__law_bad : FuncData} (D__law_bad : Has P w K mg base "_law_bad" ["_law_way", "_law_names"] k CX0 (spMBad K) f__law_bad fd__law_bad) {f__law_taken : Addr} {fd__law_taken : FuncData} (D__law_taken : Has P w K mg base "_law_taken" ["_law_s", "_law_most"] k CX0 (spTaken K) f__law_taken fd__law_taken) {f__law_market : Addr} {fd__law_market : FuncData} (D__law_market : Has P w K mg base "_law_market" ["_law_s", "_law_many"] k CX0 (spMarket K) f__law_market fd__law_market) {f__law_begun : Addr} {fd__law_begun : FuncData} (D__law_begun : Has P w K mg base "_law_begun" ["_law_script"] k CX0 (spBegun K) f__law_begun fd__law_begun) (m_list : mg "list" = none) : Has P w K mg base "law" ["_law_script"] (k + 1) CX0 (spLaw K PT) f fd := by
  refine O.has (O.F.ok sc_law (fun vs H Q E h => ?_) (fun cdv A outer s H vs Q E hr h => ?_))
  · obtain ⟨ns, na, rfl, _⟩ := h
    rfl
  obtain ⟨ns, na, rfl, hS, h63, ht, q⟩ := h
  refine ⟨_, (pss_cons (ps_set (i := 1) sc_law.nd rfl (.inl rfl) (pe_call D__law_begun.G hr (by rfl) D__law_begun.g D__law_begun.k D__law_begun.b .nil pass0 (pa_cons (pv 0) pa_nil))) (pss_cons (ps_asg (pe_call D__law_market.G hr (by rfl) D__law_market.g D__law_market.k D__law_market.b .nil pass0 (pa_cons (pv 1) (pa_cons (pe_call D__law_taken.G hr (by rfl) D__law_taken.g D__law_taken.k D__law_taken.b .nil pass0 (pa_cons (pv 1) (pa_cons pe_int pa_nil))) pa_nil))) (pg_tup rfl (pgs_cons (pg_name (i := 2) sc_law.nd rfl (.inl rfl)) (pgs_cons (pg_name (i := 3) sc_law.nd rfl (.inl rfl)) pgs_nil)))) (pss_cons (ps_setLc (i := 5) (own := [("_law_one", 4)]) (g := gName 4) rfl sc_law.nd rfl rfl (sw_true rfl rfl rfl (by decide +kernel)) (pi_list (pv 3)) (blkOk_by (own := [("_law_one", 4)]) (N := ["_law_script", "_law_s", "_law_last", "_law_names", "_law_one", "_law_handed", "_law_wide", "_law_bad_here", "_law_thrice"]) (sc := defScope s_law) (by decide +kernel)) (fun _ _ _ _ _ => pg_name (i := 4) sc_law.nd rfl (.inl rfl)) (fun _ _ _ _ _ => pts_nil) (fun _ _ _ _ _ => (pe_tup (pa_cons (pe_ix (r := rIxT K) ix_tup (pv 4) pe_int (fun _ _ => rfl)) (pa_cons (pe_ix (r := rIxT K) ix_tup (pv 4) pe_int (fun _ _ => rfl)) (pa_cons (pe_callTy (r := rLstOf K) callLstOf (by rfl) m_list (by decide +kernel) (pa_cons (pe_ix (r := rIxT K) ix_tup (pv 4) pe_int (fun _ _ => rfl)) pa_nil)) pa_nil)))))) (pss_cons (ps_if (PW.pt (pw_or (pt_cmpR op_ne (pe_call D__law_refused.G hr (by rfl) D__law_refused.g D__law_refused.k D__law_refused.b .nil pass0 (pa_cons (pv 2) (pa_cons (pv 5) pa_nil))) pe_str (nomark _)) (pw_or1 (pt_cmpR (op_neD hr.units) (pv 5) (pv 3) (nomark _))))) (pss_one (ps_ret pe_bl)) pss_nil) (pss_cons (ps_set (i := 6) sc_law.nd rfl (.inl rfl) (pe_lst (pa_cons (pe_tup (pa_cons pe_str (pa_cons pe_int (pa_cons (pe_lst (pa_cons (pe_tup (pa_cons pe_int (pa_cons pe_int pa_nil))) pa_nil)) pa_nil)))) (pa_cons (pe_tup (pa_cons pe_str (pa_cons (pe_op op_sub (pe_op op_pow pe_int pe_int) pe_int) (pa_cons (pe_lst (pa_cons (pe_tup (pa_cons (pe_op op_sub (pe_op op_pow pe_int pe_int) pe_int) (pa_cons pe_int pa_nil))) pa_nil)) pa_nil)))) (pa_cons (pe_tup (pa_cons pe_str (pa_cons (pe_op op_sub pe_int (pe_op op_pow pe_int pe_int)) (pa_cons (pe_lst (pa_cons (pe_tup (pa_cons pe_int (pa_cons pe_int pa_nil))) (pa_cons (pe_tup (pa_cons pe_int (pa_cons pe_int pa_nil))) pa_nil))) pa_nil)))) pa_nil))))) (pss_cons (ps_set (i := 7) sc_law.nd rfl (.inl rfl) (pe_call D__law_bad.G hr (by rfl) D__law_bad.g D__law_bad.k D__law_bad.b .nil pass0 (pa_cons (pe_call D__law_taken.G hr (by rfl) D__law_taken.g D__law_taken.k D__law_taken.b .nil pass0 (pa_cons (pv 1) (pa_cons pe_int pa_nil))) (pa_cons (pv 3) pa_nil)))) (pss_cons (ps_set (i := 4) sc_law.nd rfl (.inl rfl) (pe_lst (pa_cons (pe_tup (pa_cons pe_int (pa_cons pe_int pa_nil))) pa_nil))) (pss_cons (ps_set (i := 8) sc_law.nd rfl (.inl rfl) (pe_lst (pa_cons (pe_tup (pa_cons pe_str (pa_cons pe_int (pa_cons (pv 4) pa_nil)))) (pa_cons (pe_tup (pa_cons pe_str (pa_cons pe_int (pa_cons (pv 4) pa_nil)))) (pa_cons (pe_tup (pa_cons pe_str (pa_cons pe_int (pa_cons (pv 4) pa_nil)))) pa_nil))))) (pss_cons (ps_if (pt_cmpR (op_neD hr.units) (pe_lst (pa_cons (pe_call D__law_refused.G hr (by rfl) D__law_refused.g D__law_refused.k D__law_refused.b .nil pass0 (pa_cons pe_int (pa_cons (pv 8) pa_nil))) (pa_cons (pe_call D__law_refused.G hr (by rfl) D__law_refused.g D__law_refused.k D__law_refused.b .nil pass0 (pa_cons pe_int (pa_cons (pe_lst (pa_cons (pe_tup (pa_cons pe_str (pa_cons pe_int (pa_cons (pe_lst (pa_cons (pe_tup (pa_cons pe_int (pa_cons pe_int pa_nil))) (pa_cons (pe_tup (pa_cons pe_int (pa_cons pe_int pa_nil))) (pa_cons (pe_tup (pa_cons pe_int (pa_cons pe_int pa_nil))) pa_nil)))) pa_nil)))) pa_nil)) pa_nil))) pa_nil))) (pe_lst (pa_cons pe_str (pa_cons pe_str pa_nil))) (nomark _)) (pss_one (ps_ret pe_bl)) pss_nil) (pss_one (ps_ret (pe_and (pe_cmpR op_eq (pe_call D__law_refused.G hr (by rfl) D__law_refused.g D__law_refused.k D__law_refused.b .nil pass0 (pa_cons (pe_ix ix_tup (pv 7) pe_int (fun _ _ => rfl)) (pa_cons (pe_ix ix_tup (pv 7) pe_int (fun _ _ => rfl)) pa_nil))) pe_str (nomark _)) (pe_one (pe_cmpR op_eq (pe_call D__law_refused.G hr (by rfl) D__law_refused.g D__law_refused.k D__law_refused.b .nil pass0 (pa_cons pe_int (pa_cons (pv 6) pa_nil))) pe_str (nomark _))))))))))))))), ?_⟩
  walk_at "go"
  refine use_begun hS h63 fun c s nm H1 e1 ns1 L1 => ?_
  have ht1 := tab_same ht e1
  walk_at "go"
  refine use_taken L1 (by decide) (by decide) fun r H2 r0 r1 e2 L2 => ?_
  have ht2 := L1.tab ht1 e2
  walk_at "go"
  refine use_market L2 r0 r1 fun t p la ds H3 e3 L3 hT la0 la1 hd al okd => ?_
  have ht3 := L2.tab ht2 e3
  walk_at "go"
  refine g_gtup hT rfl ?_
  walk_at "go"
  have ln : ds.length ≤ 3 := by
    dsimp only [okNames] at okd
    simp only [Bool.and_eq_true, decide_eq_true_eq] at okd
    exact okd.1
  obtain ⟨sh, szd⟩ : SeqAt.shaped (.list ds) = true ∧ szAll ds = true := ⟨names_shaped al, (names_lay al).2.2⟩
  cases hd with
  | @lst _ vs _ hl hall =>
  have hlen := DpAll.len hall
  refine ⟨⟨_, hl⟩, fun D nD => lc_list (xs := vs) (Comp H3 D (fun j y H' => ∃ d, ds[j]? = some d ∧ Dp K (er D H') y d)) (.start nD) (fun i H' _ c => c.e.seq hl) (fun i x H' hx c => ?_) (fun H4 c => ?_)⟩
  · have hi : i < ds.length := by have := (List.getElem?_eq_some_iff.mp hx).1; omega
    have hdi : ds[i]? = some ds[i] := List.getElem?_eq_getElem hi
    obtain ⟨x', hx', hD⟩ := DpAll.at hall hdi
    obtain rfl : x' = x := Option.some.inj (hx'.symm.trans hx)
    obtain ⟨x1, b1, b2, ed, ok2⟩ := okName_tup (List.all_eq_true.mp al _ (List.getElem_mem hi))
    obtain ⟨es, rfl, _⟩ := okSteps_lst ok2
    rw [ed] at hdi hD
    obtain ⟨ys, hy, _, _⟩ := c.acc
    cases hD with
    | @tup b us _ hb he =>
    cases he with
    | @cons y1 _ _ _ h1 he =>
    cases he with
    | @cons y2 _ _ _ h2 he =>
    cases he with
    | @cons y3 _ _ _ h3 he =>
    cases he
    cases h3 with
    | @lst a3 us3 _ ha3 hall3 =>
    walk_at "go"
    refine ⟨_, _, _, _, rfl, rfl, SqT.same c.e hb, at_any (j := 0) rfl rfl, ?_⟩
    walk_at "go"
    refine ⟨_, _, _, _, rfl, rfl, SqT.same c.e hb, at_any (j := 1) rfl rfl, ?_⟩
    walk_at "go"
    refine ⟨_, _, _, _, rfl, rfl, SqT.same c.e hb, at_any (j := 2) rfl rfl, ?_⟩
    walk_at "go"
    refine ⟨_, _, rfl, .inl (c.e.seq ha3), fun l nl => ?_⟩
    walk_at "go"
    refine ⟨by show 3 ≤ sizeLine; decide, fun q nq => ?_⟩
    have s1 := same_new (o := .lst us3) nl
    have s2 := same_new (o := .tup [y1, y2, .ref l]) nq
    have nlD : l ≠ D := fun z => by rw [z, hy] at nl; cases nl
    have nqD : q ≠ D := fun z => by rw [z, s1 _ _ hy] at nq; cases nq
    have nql : l ≠ q := fun z => by rw [← z, upd_same] at nq; cases nq
    have S : Same H3 (er D (upd (upd H' l (.lst us3)) q (.tup [y1, y2, .ref l]))) := by
      have z := er_same (p := D) (c.e.trans (s1.trans s2))
      rw [er_new nD] at z
      exact z
    have dq : Dp K (er D (upd (upd H' l (.lst us3)) q (.tup [y1, y2, .ref l]))) (.ref q) (.tuple [.str x1, b1, .list es]) :=
      .tup (sqt ((er_ne nqD).trans upd_same)) (.cons (Dp.dm (.of S) h1) (.cons (Dp.dm (.of S) h2) (.cons (.lst (sql ((er_ne nlD).trans ((upd_ne nql).trans upd_same))) (DpAll.dm (.of S) hall3)) .nil)))
    refine c.next (fun j y Ha Hb h k => ?_) (s1.trans s2) (by omega) ⟨_, hdi, dq⟩
    obtain ⟨d, z1, z2⟩ := h
    refine ⟨d, z1, Dp.dm (.of fun b o h => ?_) z2⟩
    unfold er at h ⊢
    split at h
    · cases h
    · rename_i n
      rw [if_neg n]
      exact k _ _ n h
  obtain ⟨e4, _, ys, hy, ly, ry⟩ := c
  have hd4 : Dp K H4 (.ref D) (.list ds) := .lst (sql hy) (DpAll_of (by omega) fun j y d h1 h2 => by
    obtain ⟨d', z1, z2⟩ := ry j y h1
    obtain rfl : d' = d := Option.some.inj (z1.symm.trans h2)
    exact Dp.dm (.of er_sub) z2)
  have hn4 : Dp K H4 (.ref p) (.list ds) := Dp.dm (.of e4) (.lst hl hall)
  have L4 := L3.same e4
  have ht4 := tab_same ht3 e4
  clear hl hall hy ry
  walk_at "go"
  refine use_mref (.int la) hd4 (show szOk (.list ds) = true from szd) ht4 fun H5 t5 => ?_
  have g0 : mgb (.int la) (.list ds) = "good" := if_pos (by
    unfold okMk
    rw [okd, show inB 0 12 (.int la) = true from by show (decide (0 ≤ la) && decide (la ≤ 12)) = true; rw [decide_eq_true la0, decide_eq_true (show la ≤ 12 by omega)]; rfl]
    rfl)
  rw [g0]
  have L5 := L4.tb ht4 t5
  have hn5 := Dp.dm (t5.dm ht4) hn4
  have hd5 := Dp.dm (t5.dm ht4) hd4
  have ht5 := t5.g
  walk_at "go"
  refine ifdn (fun _ => ?_) (fun c => absurd rfl c)
  walk_at "go"
  refine ⟨.list ds, .list ds, hd5, hn5, sh, sh, ?_⟩
  rw [SeqAt.eqv_refl (.list ds) (SeqAt.canLay_of_shaped sh)]
  refine ⟨_, rfl, ?_⟩
  refine iteNT ?_
  with_reducible refine g_next ?_
  dsimp only
  with_reducible refine g_seq ?_
  refine evd_asg (K := K) (Γ := fun _ => none) (by walk_at "ev2") (fun _ _ h => by cases h) fun v6 H6 e6 d6 => ?_
  with_reducible refine g_name ?_
  have L6 := L5.same e6
  have hn6 := Dp.dm (.of e6) hn5
  have ht6 := tab_same ht5 e6
  walk_at "go"
  refine use_taken L6 (by decide) (by decide) fun r7 H7 a7 b7 e7 L7 => ?_
  have ht7 := L6.tab ht6 e7
  have hn7 := Dp.dm (L6.dm e7) hn6
  replace d6 := Dp.dm (L6.dm e7) d6
  walk_at "go"
  refine use_mbad a7 b7 hn7 szd fun tb lb nb dlb dnb H8 e8 hTb hlb hnb zb nob => ?_
  have ht8 := tab_same ht7 e8
  replace d6 := Dp.dm (.of e8) d6
  with_reducible refine g_name ?_
  dsimp only
  with_reducible refine g_seq ?_
  refine evd_asg (K := K) (Γ := fun _ => none) (by walk_at "ev2") (fun _ _ h => by cases h) fun v4 H9 e9 d4 => ?_
  with_reducible refine g_name ?_
  dsimp only
  with_reducible refine g_seq ?_
  refine evd_asg (K := K) (Γ := G4) (by walk_at "ev2") (fun j d h => by
    match j, h with
    | 4, h => cases h; exact ⟨_, rfl, d4⟩) fun v8 H10 e10 d8 => ?_
  have e810 := e9.trans e10
  replace d6 := Dp.dm (.of e810) d6
  replace hlb := Dp.dm (.of e810) hlb
  replace hnb := Dp.dm (.of e810) hnb
  replace hTb := SqT.same e810 hTb
  have ht10 := tab_same ht8 e810
  with_reducible refine g_name ?_
  walk_at "go"
  refine use_mref (.int 2) d8 (by decide +kernel) ht10 fun H11 t11 => ?_
  rw [show mgb (.int 2) (.list [.tuple [.str "x", .int 1, dSt], .tuple [.str "y", .int 1, dSt], .tuple [.str "x", .int 2, dSt]]) = "bad" from if_neg (by decide +kernel)]
  replace d6 := Dp.dm (t11.dm ht10) d6
  replace hlb := Dp.dm (t11.dm ht10) hlb
  replace hnb := Dp.dm (t11.dm ht10) hnb
  replace hTb := (t11.dm ht10).t _ _ hTb
  have ht11 := t11.g
  with_reducible refine g_cons ?_
  with_reducible refine g_call ?_
  refine eva_use (K := K) (Γ := fun _ => none) (by walk_at "ev2") (fun _ _ h => by cases h) fun vs12 H12 e12 d12 => ?_
  replace d6 := Dp.dm (.of e12) d6
  replace hlb := Dp.dm (.of e12) hlb
  replace hnb := Dp.dm (.of e12) hnb
  replace hTb := SqT.same e12 hTb
  have ht12 := tab_same ht11 e12
  cases d12 with
  | @cons v121 _ _ _ d121 dr =>
  cases dr with
  | @cons v122 _ _ _ d122 dr =>
  cases dr
  refine use_mref d121 d122 (by decide +kernel) ht12 fun H13 t13 => ?_
  rw [show mgb (.int 2) (.list [.tuple [.str "x", .int 1, .list [.tuple [.int 1, .int 1], .tuple [.int 2, .int 1], .tuple [.int 1, .int 2]]]]) = "bad" from if_neg (by decide +kernel)]
  replace d6 := Dp.dm (t13.dm ht12) d6
  replace hlb := Dp.dm (t13.dm ht12) hlb
  replace hnb := Dp.dm (t13.dm ht12) hnb
  replace hTb := (t13.dm ht12).t _ _ hTb
  have ht13 := t13.g
  walk_at "go"
  refine ⟨by show 2 ≤ sizeLine; decide, fun pa npa => ?_⟩
  have sa := same_new (o := .lst [.str "bad", .str "bad"]) npa
  have da : Dp K (upd H13 pa (.lst [.str "bad", .str "bad"])) (.ref pa) (.list [.str "bad", .str "bad"]) := .lst (sql upd_same) (.cons (.str _) (.cons (.str _) .nil))
  walk_at "go"
  refine ⟨by show 2 ≤ sizeLine; decide, fun pb npb => ?_⟩
  have sb := same_new (o := .lst [.str "bad", .str "bad"]) npb
  refine ⟨.list [.str "bad", .str "bad"], .list [.str "bad", .str "bad"], Dp.dm (.of sb) da, .lst (sql upd_same) (.cons (.str _) (.cons (.str _) .nil)), by decide +kernel, by decide +kernel, ?_⟩
  rw [show PyData.eqv (.list [.str "bad", .str "bad"]) (.list [.str "bad", .str "bad"]) = true from by decide +kernel]
  have s14 := sa.trans sb
  replace d6 := Dp.dm (.of s14) d6
  replace hlb := Dp.dm (.of s14) hlb
  replace hnb := Dp.dm (.of s14) hnb
  replace hTb := SqT.same s14 hTb
  have ht14 := tab_same ht13 s14
  generalize upd (upd H13 pa (.lst [.str "bad", .str "bad"])) pb (.lst [.str "bad", .str "bad"]) = H14 at d6 hlb hnb hTb ht14 ⊢
  refine ⟨_, rfl, ?_⟩
  refine iteNT ?_
  walk_at "go"
  refine ⟨_, _, _, _, rfl, rfl, hTb, at_any (j := 0) rfl rfl, ?_⟩
  walk_at "go"
  refine ⟨_, _, _, _, rfl, rfl, hTb, at_any (j := 1) rfl rfl, ?_⟩
  walk_at "go"
  refine use_mref hlb hnb zb ht14 fun H15 t15 => ?_
  rw [show mgb dlb dnb = "bad" from if_neg (by rw [nob]; exact Bool.false_ne_true)]
  replace d6 := Dp.dm (t15.dm ht14) d6
  have ht15 := t15.g
  walk_at "go"
  refine ifd (fun _ => ?_) (fun c => absurd rfl c)
  walk_at "go"
  refine use_mref (.int 12) d6 (by decide +kernel) ht15 fun H16 t16 => ?_
  rw [show mgb (.int 12) (.list [.tuple [.str "w", .int 0, .list [.tuple [.int 0, .int 999]]], .tuple [.str "x", .int (10 ^ Int.toNat 12 - 1), .list [.tuple [.int (10 ^ Int.toNat 12 - 1), .int 1]]], .tuple [.str "y", .int (1 - 10 ^ Int.toNat 12), .list [.tuple [.int 0, .int 1], .tuple [.int 1, .int 1]]]]) = "good" from if_pos (by decide +kernel)]
  walk_at "go"
  rw [show decide (Str.ofString "good" = Str.ofString "good") = true from decide_eq_true rfl]
  exact q _
end

theorem all_mk {q : Program} {l : PySem.W.OpenLaw} {w : World} {K : PySem.W.Frag} {h : Heap} {mg : Str → Option Value} {fa : Addr} (X : K.In h) (G : h.Ns mainGlobals mg) (hfa : mg "law" = some (.ref fa)) (TO : TabsOf q K h)
    {f0 : Addr} {od0 an0 : Option Addr} {sl0 : Array (Option Value)} {oc0 kV0 dc0 pm0 ct0 : Value} {cd0 : Value}
    {f1 : Addr} {od1 an1 : Option Addr} {sl1 : Array (Option Value)} {oc1 kV1 dc1 pm1 ct1 : Value} {cd1 : Value}
    {f2 : Addr} {od2 an2 : Option Addr} {sl2 : Array (Option Value)} {oc2 kV2 dc2 pm2 ct2 : Value} {cd2 : Value}
    {f3 : Addr} {od3 an3 : Option Addr} {sl3 : Array (Option Value)} {oc3 kV3 dc3 pm3 ct3 : Value} {cd3 : Value}
    {f4 : Addr} {od4 an4 : Option Addr} {sl4 : Array (Option Value)} {oc4 kV4 dc4 pm4 ct4 : Value} {cT PT : Addr} {oq : Value} {oe : Option Addr} {vq : Array Value} {sq : Array (Option Value)}
    {f5 : Addr} {od5 an5 : Option Addr} {sl5 : Array (Option Value)} {oc5 kV5 dc5 pm5 ct5 : Value} {cd5 : Value}
    {f6 : Addr} {od6 an6 : Option Addr} {sl6 : Array (Option Value)} {oc6 kV6 dc6 pm6 ct6 : Value} {cd6 : Value}
    {f7 : Addr} {od7 an7 : Option Addr} {sl7 : Array (Option Value)} {oc7 kV7 dc7 pm7 ct7 : Value} {cd7 : Value}
    {f8 : Addr} {od8 an8 : Option Addr} {sl8 : Array (Option Value)} {oc8 kV8 dc8 pm8 ct8 : Value} {cd8 : Value}
    {f9 : Addr} {od9 an9 : Option Addr} {sl9 : Array (Option Value)} {oc9 kV9 dc9 pm9 ct9 : Value} {cd9 : Value}
    {C_Market f10 : Addr} {od10 an10 : Option Addr} {sl10 : Array (Option Value)} {oc10 kV10 dc10 pm10 ct10 cd10 : Value}
    {f11 : Addr} {od11 an11 : Option Addr} {sl11 : Array (Option Value)} {oc11 kV11 dc11 pm11 ct11 : Value} {cd11 : Value}
    {f12 : Addr} {od12 an12 : Option Addr} {sl12 : Array (Option Value)} {oc12 kV12 dc12 pm12 ct12 : Value} {cd12 : Value}
    {f13 : Addr} {od13 an13 : Option Addr} {sl13 : Array (Option Value)} {oc13 kV13 dc13 pm13 ct13 : Value} {cd13 : Value}
    {f14 : Addr} {od14 an14 : Option Addr} {sl14 : Array (Option Value)} {oc14 kV14 dc14 pm14 ct14 : Value} {cd14 : Value}
    {f15 : Addr} {od15 an15 : Option Addr} {sl15 : Array (Option Value)} {oc15 kV15 dc15 pm15 ct15 : Value} {cd15 : Value}
    {C_BadMarket : Addr}
    {C_BookError : Addr}
    {C_TooMany : Addr}
    {C_BadText : Addr}
    {C_BadContract : Addr}
    {t_LETTERS : Tok}
    {t_LONGEST_WORD : Tok}
    {t_TOO_LARGE : Tok}
    {t_MOST_WEIGHT : Tok}
    {t_MOST_STEPS : Tok}
    {t_MOST_NAMES : Tok}
    {t_LAST_HOUR : Tok}
    (a0 : PySem.W.nsIn K mainGlobals "_law_taken" = some (some (.ref f0))) (l0 : K.lookup f0 = some ⟨oc0, od0, .func (PySem.W.fnOf "_law_taken" "_law_taken" (defArgs s__law_taken) (defBody s__law_taken) (defScope s__law_taken) .none kV0 dc0 pm0 an0 cd0 ct0), sl0⟩) (c0 : PySem.W.codeIn K cd0 "_law_taken" = true) (k0 : PySem.W.keepIn K (.ref f0) = true)
    (a1 : PySem.W.nsIn K mainGlobals "_law_word" = some (some (.ref f1))) (l1 : K.lookup f1 = some ⟨oc1, od1, .func (PySem.W.fnOf "_law_word" "_law_word" (defArgs s__law_word) (defBody s__law_word) (defScope s__law_word) .none kV1 dc1 pm1 an1 cd1 ct1), sl1⟩) (c1 : PySem.W.codeIn K cd1 "_law_word" = true) (k1 : PySem.W.keepIn K (.ref f1) = true)
    (a2 : PySem.W.nsIn K mainGlobals "_law_number" = some (some (.ref f2))) (l2 : K.lookup f2 = some ⟨oc2, od2, .func (PySem.W.fnOf "_law_number" "_law_number" (defArgs s__law_number) (defBody s__law_number) (defScope s__law_number) .none kV2 dc2 pm2 an2 cd2 ct2), sl2⟩) (c2 : PySem.W.codeIn K cd2 "_law_number" = true) (k2 : PySem.W.keepIn K (.ref f2) = true)
    (a3 : PySem.W.nsIn K mainGlobals "_law_begun" = some (some (.ref f3))) (l3 : K.lookup f3 = some ⟨oc3, od3, .func (PySem.W.fnOf "_law_begun" "_law_begun" (defArgs s__law_begun) (defBody s__law_begun) (defScope s__law_begun) .none kV3 dc3 pm3 an3 cd3 ct3), sl3⟩) (c3 : PySem.W.codeIn K cd3 "_law_begun" = true) (k3 : PySem.W.keepIn K (.ref f3) = true)
    (a4 : PySem.W.nsIn K mainGlobals "is_word" = some (some (.ref f4))) (l4 : K.lookup f4 = some ⟨oc4, od4, .func (PySem.W.fnOf "is_word" "is_word" (defArgs s_is_word) (defBody s_is_word) (defScope s_is_word) .none kV4 dc4 pm4 an4 (.ref cT) ct4), sl4⟩) (c4 : PySem.W.codeIn K (.ref cT) "is_word" = true) (k4 : PySem.W.keepIn K (.ref f4) = true)
    (cc : K.lookup cT = some ⟨oq, oe, .fields vq, sq⟩) (v11 : (vq[11]? : Option Value) = some (.ref PT)) (rT : ((recsOf q).find? (fun e => e.name == ("is_word" : Str))).isSome = true) (nP : K.lookup PT = none)
    (a5 : PySem.W.nsIn K mainGlobals "is_whole" = some (some (.ref f5))) (l5 : K.lookup f5 = some ⟨oc5, od5, .func (PySem.W.fnOf "is_whole" "is_whole" (defArgs s_is_whole) (defBody s_is_whole) (defScope s_is_whole) .none kV5 dc5 pm5 an5 cd5 ct5), sl5⟩) (c5 : PySem.W.codeIn K cd5 "is_whole" = true) (k5 : PySem.W.keepIn K (.ref f5) = true)
    (a6 : PySem.W.nsIn K mainGlobals "is_between" = some (some (.ref f6))) (l6 : K.lookup f6 = some ⟨oc6, od6, .func (PySem.W.fnOf "is_between" "is_between" (defArgs s_is_between) (defBody s_is_between) (defScope s_is_between) .none kV6 dc6 pm6 an6 cd6 ct6), sl6⟩) (c6 : PySem.W.codeIn K cd6 "is_between" = true) (k6 : PySem.W.keepIn K (.ref f6) = true)
    (a7 : PySem.W.nsIn K mainGlobals "is_amount" = some (some (.ref f7))) (l7 : K.lookup f7 = some ⟨oc7, od7, .func (PySem.W.fnOf "is_amount" "is_amount" (defArgs s_is_amount) (defBody s_is_amount) (defScope s_is_amount) .none kV7 dc7 pm7 an7 cd7 ct7), sl7⟩) (c7 : PySem.W.codeIn K cd7 "is_amount" = true) (k7 : PySem.W.keepIn K (.ref f7) = true)
    (a8 : PySem.W.nsIn K mainGlobals "_need_steps" = some (some (.ref f8))) (l8 : K.lookup f8 = some ⟨oc8, od8, .func (PySem.W.fnOf "_need_steps" "_need_steps" (defArgs s__need_steps) (defBody s__need_steps) (defScope s__need_steps) .none kV8 dc8 pm8 an8 cd8 ct8), sl8⟩) (c8 : PySem.W.codeIn K cd8 "_need_steps" = true) (k8 : PySem.W.keepIn K (.ref f8) = true)
    (a9 : PySem.W.nsIn K mainGlobals "_need_names" = some (some (.ref f9))) (l9 : K.lookup f9 = some ⟨oc9, od9, .func (PySem.W.fnOf "_need_names" "_need_names" (defArgs s__need_names) (defBody s__need_names) (defScope s__need_names) .none kV9 dc9 pm9 an9 cd9 ct9), sl9⟩) (c9 : PySem.W.codeIn K cd9 "_need_names" = true) (k9 : PySem.W.keepIn K (.ref f9) = true)
    (a10 : PySem.W.nsIn K mainGlobals "Market" = some (some (.ref C_Market))) (i10 : PySem.W.findIn K (.ref C_Market) "__init__" = some (some (.ref f10))) (j10 : PySem.W.isFn K (.ref f10) = true) (l10 : K.lookup f10 = some ⟨oc10, od10, .func (PySem.W.fnOf "__init__" "Market.__init__" (defArgs s_Market) (defBody s_Market) (defScope s_Market) .none kV10 dc10 pm10 an10 cd10 ct10), sl10⟩) (c10 : PySem.W.codeIn K cd10 "Market.__init__" = true) (k10 : PySem.W.keepIn K (.ref f10) = true) (pg10 : PySem.W.plainGet K C_Market Str.empty = true) (hd10 : PySem.W.hasDictIn K C_Market = true) (po10 : PySem.W.plainOver K C_Market = true) (sa10 : PySem.W.findIn K (.ref C_Market) "__setattr__" = some (some (.builtin "object.__setattr__"))) (mk10 : PySem.W.makesIn K C_Market = true) (kc10 : PySem.W.keepIn K (.ref C_Market) = true) (n10_last : PySem.W.findIn K (.ref C_Market) "last" = some none) (n10_names : PySem.W.findIn K (.ref C_Market) "names" = some none)
    (a11 : PySem.W.nsIn K mainGlobals "_law_refused" = some (some (.ref f11))) (l11 : K.lookup f11 = some ⟨oc11, od11, .func (PySem.W.fnOf "_law_refused" "_law_refused" (defArgs s__law_refused) (defBody s__law_refused) (defScope s__law_refused) .none kV11 dc11 pm11 an11 cd11 ct11), sl11⟩) (c11 : PySem.W.codeIn K cd11 "_law_refused" = true) (k11 : PySem.W.keepIn K (.ref f11) = true)
    (a12 : PySem.W.nsIn K mainGlobals "_law_steps" = some (some (.ref f12))) (l12 : K.lookup f12 = some ⟨oc12, od12, .func (PySem.W.fnOf "_law_steps" "_law_steps" (defArgs s__law_steps) (defBody s__law_steps) (defScope s__law_steps) .none kV12 dc12 pm12 an12 cd12 ct12), sl12⟩) (c12 : PySem.W.codeIn K cd12 "_law_steps" = true) (k12 : PySem.W.keepIn K (.ref f12) = true)
    (a13 : PySem.W.nsIn K mainGlobals "_law_market" = some (some (.ref f13))) (l13 : K.lookup f13 = some ⟨oc13, od13, .func (PySem.W.fnOf "_law_market" "_law_market" (defArgs s__law_market) (defBody s__law_market) (defScope s__law_market) .none kV13 dc13 pm13 an13 cd13 ct13), sl13⟩) (c13 : PySem.W.codeIn K cd13 "_law_market" = true) (k13 : PySem.W.keepIn K (.ref f13) = true)
    (a14 : PySem.W.nsIn K mainGlobals "_law_bad" = some (some (.ref f14))) (l14 : K.lookup f14 = some ⟨oc14, od14, .func (PySem.W.fnOf "_law_bad" "_law_bad" (defArgs s__law_bad) (defBody s__law_bad) (defScope s__law_bad) .none kV14 dc14 pm14 an14 cd14 ct14), sl14⟩) (c14 : PySem.W.codeIn K cd14 "_law_bad" = true) (k14 : PySem.W.keepIn K (.ref f14) = true)
    (a15 : PySem.W.nsIn K mainGlobals "law" = some (some (.ref f15))) (l15 : K.lookup f15 = some ⟨oc15, od15, .func (PySem.W.fnOf "law" "law" (defArgs s_law) (defBody s_law) (defScope s_law) .none kV15 dc15 pm15 an15 cd15 ct15), sl15⟩) (c15 : PySem.W.codeIn K cd15 "law" = true) (k15 : PySem.W.keepIn K (.ref f15) = true)
    (xg_BadMarket : PySem.W.nsIn K mainGlobals "BadMarket" = some (some (.ref C_BadMarket))) (xx_BadMarket : PySem.W.excIn K C_BadMarket [.type "ValueError", .type "Exception", .type "BaseException", .type "object"] "ValueError.__new__" = true) (xk_BadMarket : PySem.W.keepIn K (.ref C_BadMarket) = true) (xs_BadMarket : PySem.W.subIn K (.ref C_BadMarket) (.type "BaseException") = some true) (xt_BadMarket : PySem.W.typeIn K (.ref C_BadMarket) = some (.type "type"))
    (xg_BookError : PySem.W.nsIn K mainGlobals "BookError" = some (some (.ref C_BookError))) (xx_BookError : PySem.W.excIn K C_BookError [.type "ValueError", .type "Exception", .type "BaseException", .type "object"] "ValueError.__new__" = true) (xk_BookError : PySem.W.keepIn K (.ref C_BookError) = true) (xs_BookError : PySem.W.subIn K (.ref C_BookError) (.type "BaseException") = some true) (xt_BookError : PySem.W.typeIn K (.ref C_BookError) = some (.type "type"))
    (xg_TooMany : PySem.W.nsIn K mainGlobals "TooMany" = some (some (.ref C_TooMany))) (xx_TooMany : PySem.W.excIn K C_TooMany [.type "ValueError", .type "Exception", .type "BaseException", .type "object"] "ValueError.__new__" = true) (xk_TooMany : PySem.W.keepIn K (.ref C_TooMany) = true) (xs_TooMany : PySem.W.subIn K (.ref C_TooMany) (.type "BaseException") = some true) (xt_TooMany : PySem.W.typeIn K (.ref C_TooMany) = some (.type "type"))
    (xg_BadText : PySem.W.nsIn K mainGlobals "BadText" = some (some (.ref C_BadText))) (xx_BadText : PySem.W.excIn K C_BadText [.type "ValueError", .type "Exception", .type "BaseException", .type "object"] "ValueError.__new__" = true) (xk_BadText : PySem.W.keepIn K (.ref C_BadText) = true) (xs_BadText : PySem.W.subIn K (.ref C_BadText) (.type "BaseException") = some true) (xt_BadText : PySem.W.typeIn K (.ref C_BadText) = some (.type "type"))
    (xg_BadContract : PySem.W.nsIn K mainGlobals "BadContract" = some (some (.ref C_BadContract))) (xx_BadContract : PySem.W.excIn K C_BadContract [.type "ValueError", .type "Exception", .type "BaseException", .type "object"] "ValueError.__new__" = true) (xk_BadContract : PySem.W.keepIn K (.ref C_BadContract) = true) (xs_BadContract : PySem.W.subIn K (.ref C_BadContract) (.type "BaseException") = some true) (xt_BadContract : PySem.W.typeIn K (.ref C_BadContract) = some (.type "type"))
    (e1 : PySem.W.exmOne K (.ref C_BadMarket) (.ref C_BookError) = some true)
    (e2 : PySem.W.findIn K (.ref C_BadMarket) "__getattribute__" = some (some (.builtin "BaseException.__getattribute__")))
    (e3 : PySem.W.findIn K (.ref C_BadMarket) "__getattr__" = some none)
    (e4 : PySem.W.hasDictIn K C_BadMarket = true)
    (e5 : PySem.W.findIn K (.ref C_BadMarket) "__class__" = some (some (.builtin "object.__class__")))
    (e6 : PySem.W.specialIn K (.builtin "object.__class__") "__get__" = some (some (.builtin "getset_descriptor.__get__")))
    (e7 : PySem.W.takesIn K (.builtin "object.__class__") = some true)
    (e8 : PySem.W.mroIn K C_BadMarket (.type "object") = some true)
    (e9 : PySem.W.kitOne K (.ref C_BadMarket) (.ref C_BadContract) = some false)
    (e10 : PySem.W.kitOne K (.ref C_BadMarket) (.ref C_BadText) = some false)
    (e11 : PySem.W.kitOne K (.ref C_BadMarket) (.ref C_TooMany) = some false)
    (e12 : PySem.W.kitOne K (.ref C_BadMarket) (.ref C_BadMarket) = some true)
    (e13 : PySem.W.kitOne K (.ref C_BadMarket) (.type "ValueError") = some true)
    (z_len : PySem.W.nsIn K mainGlobals "len" = some none)
    (z_int : PySem.W.nsIn K mainGlobals "int" = some none)
    (z_all : PySem.W.nsIn K mainGlobals "all" = some none)
    (z_LETTERS : PySem.W.nsIn K mainGlobals "LETTERS" = some (some (.str "abcdefghijklmnopqrstuvwxyz" t_LETTERS)))
    (z_LONGEST_WORD : PySem.W.nsIn K mainGlobals "LONGEST_WORD" = some (some (.int 8 t_LONGEST_WORD)))
    (z_isinstance : PySem.W.nsIn K mainGlobals "isinstance" = some none)
    (z_str : PySem.W.nsIn K mainGlobals "str" = some none)
    (z_bool : PySem.W.nsIn K mainGlobals "bool" = some none)
    (z_TOO_LARGE : PySem.W.nsIn K mainGlobals "TOO_LARGE" = some (some (.int 1000000000000 t_TOO_LARGE)))
    (z_set : PySem.W.nsIn K mainGlobals "set" = some none)
    (z_MOST_WEIGHT : PySem.W.nsIn K mainGlobals "MOST_WEIGHT" = some (some (.int 999 t_MOST_WEIGHT)))
    (z_tuple : PySem.W.nsIn K mainGlobals "tuple" = some none)
    (z_MOST_STEPS : PySem.W.nsIn K mainGlobals "MOST_STEPS" = some (some (.int 4 t_MOST_STEPS)))
    (z_list : PySem.W.nsIn K mainGlobals "list" = some none)
    (z_MOST_NAMES : PySem.W.nsIn K mainGlobals "MOST_NAMES" = some (some (.int 3 t_MOST_NAMES)))
    (z_LAST_HOUR : PySem.W.nsIn K mainGlobals "LAST_HOUR" = some (some (.int 12 t_LAST_HOUR)))
    (z_ValueError : PySem.W.nsIn K mainGlobals "ValueError" = some none)
    (z_range : PySem.W.nsIn K mainGlobals "range" = some none)
    (z_max : PySem.W.nsIn K mainGlobals "max" = some none)
    (z_min : PySem.W.nsIn K mainGlobals "min" = some none)
    : LamX.LawAtS l w K CX0 8 63 "_law_script" mg fa h := by
  have e := hfa.symm.trans (PySem.W.mg_of X G a15)
  cases e
  have tab := TO "is_word" cT PT rT (tabIn_of a4 l4 rfl cc v11)
  refine ⟨(PySem.W.fnOf "law" "law" (defArgs s_law) (defBody s_law) (defScope s_law) .none kV15 dc15 pm15 an15 cd15 ct15), [(cT, PT)], (spLaw K PT), fun p hp => ?_, fun p hp => ?_, fun p hp => ?_, fun s v => .of_eq rfl, fun H a ns hl _ hT hS => ⟨ns, a, rfl, hS, hl, ⟨#[], hT _ (List.mem_singleton.mpr rfl), trivial⟩, fun _ => rfl⟩, fun base _ _ hTB => ?_⟩
  · rw [List.mem_singleton.mp hp]; exact tab.2
  · rw [List.mem_singleton.mp hp]; exact nP
  · rw [List.mem_singleton.mp hp]; exact tab.1
  · have tq := hTB _ (List.mem_singleton.mpr rfl)
    have tb : GxR.TabB base mg cT PT := ⟨tq.code, tq.bm, tq.gP⟩
    have X_BadMarket : ExcT K mg "BadMarket" C_BadMarket := ⟨PySem.W.mg_of X G xg_BadMarket, xx_BadMarket, xk_BadMarket, xs_BadMarket, xt_BadMarket⟩
    have X_BookError : ExcT K mg "BookError" C_BookError := ⟨PySem.W.mg_of X G xg_BookError, xx_BookError, xk_BookError, xs_BookError, xt_BookError⟩
    have X_TooMany : ExcT K mg "TooMany" C_TooMany := ⟨PySem.W.mg_of X G xg_TooMany, xx_TooMany, xk_TooMany, xs_TooMany, xt_TooMany⟩
    have X_BadText : ExcT K mg "BadText" C_BadText := ⟨PySem.W.mg_of X G xg_BadText, xx_BadText, xk_BadText, xs_BadText, xt_BadText⟩
    have X_BadContract : ExcT K mg "BadContract" C_BadContract := ⟨PySem.W.mg_of X G xg_BadContract, xx_BadContract, xk_BadContract, xs_BadContract, xt_BadContract⟩
    have ER : Errs K C_BookError C_BadMarket C_BadContract C_BadText C_TooMany := ⟨e1, ⟨e2, e3, xs_BadMarket, e4, e5, e6, e7, e8⟩, e9, e10, e11, e12, e13⟩
    have m_len : mg "len" = none := PySem.W.mg_none_of X G z_len
    have m_int : mg "int" = none := PySem.W.mg_none_of X G z_int
    have m_all : mg "all" = none := PySem.W.mg_none_of X G z_all
    have m_LETTERS := PySem.W.mg_of X G z_LETTERS
    have m_LONGEST_WORD := PySem.W.mg_of X G z_LONGEST_WORD
    have m_isinstance : mg "isinstance" = none := PySem.W.mg_none_of X G z_isinstance
    have m_str : mg "str" = none := PySem.W.mg_none_of X G z_str
    have m_bool : mg "bool" = none := PySem.W.mg_none_of X G z_bool
    have m_TOO_LARGE := PySem.W.mg_of X G z_TOO_LARGE
    have m_set : mg "set" = none := PySem.W.mg_none_of X G z_set
    have m_MOST_WEIGHT := PySem.W.mg_of X G z_MOST_WEIGHT
    have m_tuple : mg "tuple" = none := PySem.W.mg_none_of X G z_tuple
    have m_MOST_STEPS := PySem.W.mg_of X G z_MOST_STEPS
    have m_list : mg "list" = none := PySem.W.mg_none_of X G z_list
    have m_MOST_NAMES := PySem.W.mg_of X G z_MOST_NAMES
    have m_LAST_HOUR := PySem.W.mg_of X G z_LAST_HOUR
    have m_ValueError : mg "ValueError" = none := PySem.W.mg_none_of X G z_ValueError
    have m_range : mg "range" = none := PySem.W.mg_none_of X G z_range
    have m_max : mg "max" = none := PySem.W.mg_none_of X G z_max
    have m_min : mg "min" = none := PySem.W.mg_none_of X G z_min
    have O0 : Own K mg "_law_taken" s__law_taken ["_law_s", "_law_most"] f0 _ := ⟨fun_mk (st := s__law_taken) l0 c0 k0, PySem.W.mg_of X G a0, (fun_mk (st := s__law_taken) l0 c0 k0).binds (ps := ["_law_s", "_law_most"]) fun _ _ _ _ _ _ us hl => match us, hl with | [_, _], _ => rfl⟩
    have O1 : Own K mg "_law_word" s__law_word ["_law_s", "_law_k"] f1 _ := ⟨fun_mk (st := s__law_word) l1 c1 k1, PySem.W.mg_of X G a1, (fun_mk (st := s__law_word) l1 c1 k1).binds (ps := ["_law_s", "_law_k"]) fun _ _ _ _ _ _ us hl => match us, hl with | [_, _], _ => rfl⟩
    have O2 : Own K mg "_law_number" s__law_number ["_law_s"] f2 _ := ⟨fun_mk (st := s__law_number) l2 c2 k2, PySem.W.mg_of X G a2, (fun_mk (st := s__law_number) l2 c2 k2).binds (ps := ["_law_s"]) fun _ _ _ _ _ _ us hl => match us, hl with | [_], _ => rfl⟩
    have O3 : Own K mg "_law_begun" s__law_begun ["_law_script"] f3 _ := ⟨fun_mk (st := s__law_begun) l3 c3 k3, PySem.W.mg_of X G a3, (fun_mk (st := s__law_begun) l3 c3 k3).binds (ps := ["_law_script"]) fun _ _ _ _ _ _ us hl => match us, hl with | [_], _ => rfl⟩
    have O4 : OwnC cT K mg "is_word" s_is_word ["told"] f4 _ := OwnC.mk' (st := s_is_word) l4 c4 k4 (PySem.W.mg_of X G a4) (.all fun us hl => match us, hl with | [_], _ => rfl)
    have O5 : Own K mg "is_whole" s_is_whole ["told"] f5 _ := ⟨fun_mk (st := s_is_whole) l5 c5 k5, PySem.W.mg_of X G a5, (fun_mk (st := s_is_whole) l5 c5 k5).binds (ps := ["told"]) fun _ _ _ _ _ _ us hl => match us, hl with | [_], _ => rfl⟩
    have O6 : Own K mg "is_between" s_is_between ["told", "low", "high"] f6 _ := ⟨fun_mk (st := s_is_between) l6 c6 k6, PySem.W.mg_of X G a6, (fun_mk (st := s_is_between) l6 c6 k6).binds (ps := ["told", "low", "high"]) fun _ _ _ _ _ _ us hl => match us, hl with | [_, _, _], _ => rfl⟩
    have O7 : Own K mg "is_amount" s_is_amount ["told"] f7 _ := ⟨fun_mk (st := s_is_amount) l7 c7 k7, PySem.W.mg_of X G a7, (fun_mk (st := s_is_amount) l7 c7 k7).binds (ps := ["told"]) fun _ _ _ _ _ _ us hl => match us, hl with | [_], _ => rfl⟩
    have O8 : Own K mg "_need_steps" s__need_steps ["steps"] f8 _ := ⟨fun_mk (st := s__need_steps) l8 c8 k8, PySem.W.mg_of X G a8, (fun_mk (st := s__need_steps) l8 c8 k8).binds (ps := ["steps"]) fun _ _ _ _ _ _ us hl => match us, hl with | [_], _ => rfl⟩
    have O9 : Own K mg "_need_names" s__need_names ["names"] f9 _ := ⟨fun_mk (st := s__need_names) l9 c9 k9, PySem.W.mg_of X G a9, (fun_mk (st := s__need_names) l9 c9 k9).binds (ps := ["names"]) fun _ _ _ _ _ _ us hl => match us, hl with | [_], _ => rfl⟩
    have O10 : OwnM K "__init__" "Market.__init__" s_Market ["self", "last", "names"] f10 _ := ⟨fun_mk (st := s_Market) l10 c10 k10, (fun_mk (st := s_Market) l10 c10 k10).binds (ps := ["self", "last", "names"]) fun _ _ _ _ _ _ us hl => match us, hl with | [_, _, _], _ => rfl⟩
    have T10 : ClsT K mg "Market" C_Market f10 := ⟨PySem.W.mg_of X G a10, ⟨mk10, i10, j10, kc10⟩, ⟨pg10, hd10, po10, sa10⟩⟩
    have O11 : Own K mg "_law_refused" s__law_refused ["_law_last", "_law_names"] f11 _ := ⟨fun_mk (st := s__law_refused) l11 c11 k11, PySem.W.mg_of X G a11, (fun_mk (st := s__law_refused) l11 c11 k11).binds (ps := ["_law_last", "_law_names"]) fun _ _ _ _ _ _ us hl => match us, hl with | [_, _], _ => rfl⟩
    have O12 : Own K mg "_law_steps" s__law_steps ["_law_s"] f12 _ := ⟨fun_mk (st := s__law_steps) l12 c12 k12, PySem.W.mg_of X G a12, (fun_mk (st := s__law_steps) l12 c12 k12).binds (ps := ["_law_s"]) fun _ _ _ _ _ _ us hl => match us, hl with | [_], _ => rfl⟩
    have O13 : Own K mg "_law_market" s__law_market ["_law_s", "_law_many"] f13 _ := ⟨fun_mk (st := s__law_market) l13 c13 k13, PySem.W.mg_of X G a13, (fun_mk (st := s__law_market) l13 c13 k13).binds (ps := ["_law_s", "_law_many"]) fun _ _ _ _ _ _ us hl => match us, hl with | [_, _], _ => rfl⟩
    have O14 : Own K mg "_law_bad" s__law_bad ["_law_way", "_law_names"] f14 _ := ⟨fun_mk (st := s__law_bad) l14 c14 k14, PySem.W.mg_of X G a14, (fun_mk (st := s__law_bad) l14 c14 k14).binds (ps := ["_law_way", "_law_names"]) fun _ _ _ _ _ _ us hl => match us, hl with | [_, _], _ => rfl⟩
    have O15 : Own K mg "law" s_law ["_law_script"] fa _ := ⟨fun_mk (st := s_law) l15 c15 k15, PySem.W.mg_of X G a15, (fun_mk (st := s_law) l15 c15 k15).binds (ps := ["_law_script"]) fun _ _ _ _ _ _ us hl => match us, hl with | [_], _ => rfl⟩
    have H__law_taken := h__law_taken (P := l.prog) (w := w) (base := base) (k := 0) O0   m_len m_int
    have H__law_word := h__law_word (P := l.prog) (w := w) (base := base) (k := 0) O1   
    have H__law_number := h__law_number (P := l.prog) (w := w) (base := base) (k := 1) O2  (H__law_taken.mono (by omega)) 
    have H__law_begun := h__law_begun (P := l.prog) (w := w) (base := base) (k := 1) O3  (H__law_taken.mono (by omega)) m_int m_len
    have H_is_word := h_is_word (P := l.prog) (w := w) (base := base) (k := 0) tb O4   m_all m_LETTERS m_len m_LONGEST_WORD m_isinstance m_str
    have H_is_whole := h_is_whole (P := l.prog) (w := w) (base := base) (k := 0) O5   m_isinstance m_bool m_int
    have H_is_between := h_is_between (P := l.prog) (w := w) (base := base) (k := 1) O6  (H_is_whole.mono (by omega)) 
    have H_is_amount := h_is_amount (P := l.prog) (w := w) (base := base) (k := 1) O7  (H_is_whole.mono (by omega)) m_TOO_LARGE
    have H__need_steps := h__need_steps (P := l.prog) (w := w) (base := base) (k := 2) O8 X_BadMarket (H_is_between.mono (by omega)) (H_is_amount.mono (by omega)) m_len m_set m_MOST_WEIGHT m_isinstance m_tuple m_MOST_STEPS m_list
    have H__need_names := h__need_names (P := l.prog) (w := w) (base := base) (k := 3) O9 X_BadMarket (H__need_steps.mono (by omega)) (H_is_amount.mono (by omega)) (H_is_word.mono (by omega)) m_len m_set m_isinstance m_tuple m_MOST_NAMES m_list
    have H_Market := h_Market (P := l.prog) (w := w) (base := base) (k := 4) T10 O10 n10_last n10_names X_BadMarket (H__need_names.mono (by omega)) (H_is_between.mono (by omega)) m_tuple m_LAST_HOUR
    have H__law_refused := h__law_refused (P := l.prog) (w := w) (base := base) (k := 6) O11 X_BookError X_BadMarket X_TooMany X_BadText X_BadContract ER (H_Market.mono (by omega)) m_isinstance m_ValueError
    have H__law_steps := h__law_steps (P := l.prog) (w := w) (base := base) (k := 1) O12  (H__law_taken.mono (by omega)) m_range
    have H__law_market := h__law_market (P := l.prog) (w := w) (base := base) (k := 2) O13  (H__law_taken.mono (by omega)) (H__law_steps.mono (by omega)) (H__law_word.mono (by omega)) (H__law_number.mono (by omega)) m_range m_max m_min
    have H__law_bad := h__law_bad (P := l.prog) (w := w) (base := base) (k := 0) O14   m_tuple
    have H_law := h_law (P := l.prog) (w := w) (base := base) (k := 7) O15 X_BadMarket (H__law_refused.mono (by omega)) (H__law_bad.mono (by omega)) (H__law_taken.mono (by omega)) (H__law_market.mono (by omega)) (H__law_begun.mono (by omega)) m_list
    exact H_law.G
end Bk
open PySem PySem.W PyProof.Rows
set_option maxHeartbeats 0 in
theorem PySem.Challenge.cw_contractbook_k04_markets_refused_holds : PySem.Challenge.rw_contractbook_k04_markets_refused.Holds := by
  w_on; o_law; k_head; (case hw => w_witness2)
  k_fill
  refine Bk.walk_tabs (l := PySem.Challenge.rw_contractbook_k04_markets_refused) (n := 63) (k := 8) (x := "_law_script") (CX := fun _ => L2.CX0) rfl (by decide) rfl ⟨rfl, by decide, by decide⟩ (fun w h Y => PySem.W.kIn_of Y) ?F (fun _ _ _ _ _ h => h)
  case F =>
    intro w mg fa h KX G hmg TO
    refine' Bk.all_mk KX G hmg TO ?a0 ?l0 ?c0 ?k0 ?a1 ?l1 ?c1 ?k1 ?a2 ?l2 ?c2 ?k2 ?a3 ?l3 ?c3 ?k3 ?a4 ?l4 ?c4 ?k4 ?cc ?v11 ?rT ?nP ?a5 ?l5 ?c5 ?k5 ?a6 ?l6 ?c6 ?k6 ?a7 ?l7 ?c7 ?k7 ?a8 ?l8 ?c8 ?k8 ?a9 ?l9 ?c9 ?k9 ?a10 ?i10 ?j10 ?l10 ?c10 ?k10 ?pg10 ?hd10 ?po10 ?sa10 ?mk10 ?kc10 ?n10_last ?n10_names ?a11 ?l11 ?c11 ?k11 ?a12 ?l12 ?c12 ?k12 ?a13 ?l13 ?c13 ?k13 ?a14 ?l14 ?c14 ?k14 ?a15 ?l15 ?c15 ?k15 ?xg_BadMarket ?xx_BadMarket ?xk_BadMarket ?xs_BadMarket ?xt_BadMarket ?xg_BookError ?xx_BookError ?xk_BookError ?xs_BookError ?xt_BookError ?xg_TooMany ?xx_TooMany ?xk_TooMany ?xs_TooMany ?xt_TooMany ?xg_BadText ?xx_BadText ?xk_BadText ?xs_BadText ?xt_BadText ?xg_BadContract ?xx_BadContract ?xk_BadContract ?xs_BadContract ?xt_BadContract ?e1 ?e2 ?e3 ?e4 ?e5 ?e6 ?e7 ?e8 ?e9 ?e10 ?e11 ?e12 ?e13 ?z_len ?z_int ?z_all ?z_LETTERS ?z_LONGEST_WORD ?z_isinstance ?z_str ?z_bool ?z_TOO_LARGE ?z_set ?z_MOST_WEIGHT ?z_tuple ?z_MOST_STEPS ?z_list ?z_MOST_NAMES ?z_LAST_HOUR ?z_ValueError ?z_range ?z_max ?z_min
    (case a0 => k_is)
    (case l0 => k_is)
    (case c0 => k_is)
    (case k0 => k_is)
    (case a1 => k_is)
    (case l1 => k_is)
    (case c1 => k_is)
    (case k1 => k_is)
    (case a2 => k_is)
    (case l2 => k_is)
    (case c2 => k_is)
    (case k2 => k_is)
    (case a3 => k_is)
    (case l3 => k_is)
    (case c3 => k_is)
    (case k3 => k_is)
    (case a4 => k_is)
    (case l4 => k_is)
    (case c4 => k_is)
    (case k4 => k_is)
    (case cc => k_is)
    (case v11 => rfl)
    (case rT => kernel_rfl)
    (case nP => kernel_rfl)
    (case a5 => k_is)
    (case l5 => k_is)
    (case c5 => k_is)
    (case k5 => k_is)
    (case a6 => k_is)
    (case l6 => k_is)
    (case c6 => k_is)
    (case k6 => k_is)
    (case a7 => k_is)
    (case l7 => k_is)
    (case c7 => k_is)
    (case k7 => k_is)
    (case a8 => k_is)
    (case l8 => k_is)
    (case c8 => k_is)
    (case k8 => k_is)
    (case a9 => k_is)
    (case l9 => k_is)
    (case c9 => k_is)
    (case k9 => k_is)
    (case a10 => k_is)
    (case i10 => k_is)
    (case j10 => k_is)
    (case l10 => k_is)
    (case c10 => k_is)
    (case k10 => k_is)
    (case pg10 => k_is)
    (case hd10 => k_is)
    (case po10 => k_is)
    (case sa10 => k_is)
    (case mk10 => k_is)
    (case kc10 => k_is)
    (case n10_last => k_is)
    (case n10_names => k_is)
    (case a11 => k_is)
    (case l11 => k_is)
    (case c11 => k_is)
    (case k11 => k_is)
    (case a12 => k_is)
    (case l12 => k_is)
    (case c12 => k_is)
    (case k12 => k_is)
    (case a13 => k_is)
    (case l13 => k_is)
    (case c13 => k_is)
    (case k13 => k_is)
    (case a14 => k_is)
    (case l14 => k_is)
    (case c14 => k_is)
    (case k14 => k_is)
    (case a15 => k_is)
    (case l15 => k_is)
    (case c15 => k_is)
    (case k15 => k_is)
    (case xg_BadMarket => k_is)
    (case xx_BadMarket => k_exc)
    (case xk_BadMarket => k_is)
    (case xs_BadMarket => k_is)
    (case xt_BadMarket => k_is)
    (case xg_BookError => k_is)
    (case xx_BookError => k_exc)
    (case xk_BookError => k_is)
    (case xs_BookError => k_is)
    (case xt_BookError => k_is)
    (case xg_TooMany => k_is)
    (case xx_TooMany => k_exc)
    (case xk_TooMany => k_is)
    (case xs_TooMany => k_is)
    (case xt_TooMany => k_is)
    (case xg_BadText => k_is)
    (case xx_BadText => k_exc)
    (case xk_BadText => k_is)
    (case xs_BadText => k_is)
    (case xt_BadText => k_is)
    (case xg_BadContract => k_is)
    (case xx_BadContract => k_exc)
    (case xk_BadContract => k_is)
    (case xs_BadContract => k_is)
    (case xt_BadContract => k_is)
    (case e1 => kernel_rfl)
    (case e2 => k_is)
    (case e3 => k_is)
    (case e4 => k_is)
    (case e5 => k_is)
    (case e6 => k_is)
    (case e7 => k_is)
    (case e8 => k_is)
    (case e9 => kernel_rfl)
    (case e10 => kernel_rfl)
    (case e11 => kernel_rfl)
    (case e12 => kernel_rfl)
    (case e13 => kernel_rfl)
    (case z_len => k_is)
    (case z_int => k_is)
    (case z_all => k_is)
    (case z_LETTERS => k_is)
    (case z_LONGEST_WORD => k_is)
    (case z_isinstance => k_is)
    (case z_str => k_is)
    (case z_bool => k_is)
    (case z_TOO_LARGE => k_is)
    (case z_set => k_is)
    (case z_MOST_WEIGHT => k_is)
    (case z_tuple => k_is)
    (case z_MOST_STEPS => k_is)
    (case z_list => k_is)
    (case z_MOST_NAMES => k_is)
    (case z_LAST_HOUR => k_is)
    (case z_ValueError => k_is)
    (case z_range => k_is)
    (case z_max => k_is)
    (case z_min => k_is)
