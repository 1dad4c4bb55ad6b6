import PyProof.Rows.All
import Wide.All
import OpenK.AllK
import Wide.FinOn
import HandS.ForMost
import HandS.More
import HandS.DictComp
import HandS.IsInst
import HandS.Wide
import HandS.TupAny
import PyProof.StrOps2
import HandS.AnyAll
import HandS.Text
import HandS.ForExc
import HandS.FStr
import HandS.Small
import HandS.Zip
import HandS.ExcIs
import HandS.EndTab
import KE.KNest
import HandS.Walk
import HandS.Deep
import HandS.HeadHook3
import HandS.Strs
import HandS.RaiseMore
import HandS.Evl
import HandS.DeepEq
import KE.KSortTupAny
import HandS.SortRule
import KE.KDictKeyed
import HandS.SetTxt0
import HandS.TupSets
import HandS.SetBool
import HandS.SetFor
import PyProof.FactsAll.set_2
import PyProof.FString5
import PyProof.MinMaxWalk
import Flt.Ops
import HandS.TupLe
import KE.KEqNest
import HandS.ExcOwn
import HandS.CallSlots
import HandS.Comp
import HandS.Finally
import PyProof.NeKinds
import HandS.StrMore
import HandS.SuiteRaise
import HandS.RaiseFrom
import KE.KExcStr
import HandS.Star
import KE.KRevSl
import KE.GoesEnum
import PyProof.StrLawsReplace
import KE.IntTextLaws
import KE.IntTextText
import PySem.Challenge.RW_contractbook_k35_whole_what_is_read
set_option Elab.async false
set_option linter.all false
set_option maxRecDepth 100000
namespace Bk
open PySem PySem.Spec PyProof.Rows L2

/-! ### steps of a reading -/
section steps
variable {D : Ends} {σ : L2.St} {H : Hp} {Q : VK} {v : V}
theorem g_seq {t u : TS} (h : t { D with nx := u D } σ H) : tSeq t u D σ H := h
theorem g_next (h : D.nx σ H) : tNext D σ H := h
theorem g_asg {te : TE} {g : TG} (h : te σ H fun x H1 => g x σ H1 D.nx) : tAsg te g D σ H := h
theorem g_name {i : Nat} {R : L2.St → Hp → Prop} (h : R (σ.set i (some v)) H) : gName i v σ H R := h
theorem g_ret {te : TE} (h : te σ H D.rt) : tRet te D σ H := h
theorem g_drop {te : TE} (h : te σ H fun _ H1 => D.nx σ H1) : tDrop te D σ H := h
theorem g_ifs {c : TT} {t u : TS} (h : c σ H fun b H1 => if b = true then t D σ H1 else u D σ H1) : tIfS c t u D σ H := h
theorem g_if {c : TT} {t u : TE} (h : c σ H fun b H1 => if b = true then t σ H1 Q else u σ H1 Q) : tIf c t u σ H Q := h
theorem g_c (h : Q v H) : tC v σ H Q := h
theorem g_op {r : R2} {ta tb : TE} (h : ta σ H fun x H1 => tb σ H1 fun y H2 => r x y H2 Q) : tOp r ta tb σ H Q := h
theorem g_un {r : V → Hp → VK → Prop} {ta : TE} (h : ta σ H fun x H1 => r x H1 Q) : tUn r ta σ H Q := h
theorem g_neg {g : Int → V} {i : Int} (h : Q (g i) H) : rU g (.int i) H Q := ⟨i, rfl, h⟩
theorem g_I0 {g : Int → Int → V} {i j : Int} (h : Q (g i j) H) : rI0 g (.int i) (.int j) H Q := ⟨i, j, rfl, rfl, h⟩
theorem g_I {C : Int → Int → Prop} {g : Int → Int → V} {i j : Int} (hc : C i j) (h : Q (g i j) H) : rI C g (.int i) (.int j) H Q := ⟨i, j, rfl, rfl, hc, h⟩
theorem dec_int {i j : Int} : decide (V.int i = V.int j) = decide (i = j) := by
  by_cases e : i = j
  · rw [e]; simp
  · rw [decide_eq_false e]
    exact decide_eq_false (fun z => e (V.int.inj z))
theorem dec_str {i j : Str} : decide (V.str i = V.str j) = decide (i = j) := by
  by_cases e : i = j
  · rw [e]; simp
  · rw [decide_eq_false e]
    exact decide_eq_false (fun z => e (V.str.inj z))
theorem dec_bl {i j : Bool} : decide (V.bl i = V.bl j) = decide (i = j) := by
  cases i <;> cases j <;> rfl
theorem g_eqI {i j : Int} (h : Q (.bl (decide (i = j))) H) : rEq (.int i) (.int j) H Q := ⟨rfl, by rw [dec_int]; exact h⟩
theorem g_eqS {i j : Str} (h : Q (.bl (decide (i = j))) H) : rEq (.str i) (.str j) H Q := ⟨rfl, by rw [dec_str]; exact h⟩
theorem g_eqB {i j : Bool} (h : Q (.bl (decide (i = j))) H) : rEq (.bl i) (.bl j) H Q := ⟨rfl, by rw [dec_bl]; exact h⟩
theorem g_neI {i j : Int} (h : Q (.bl (!decide (i = j))) H) : rNe (.int i) (.int j) H Q := ⟨rfl, by rw [dec_int]; exact h⟩
theorem g_neS {i j : Str} (h : Q (.bl (!decide (i = j))) H) : rNe (.str i) (.str j) H Q := ⟨rfl, by rw [dec_str]; exact h⟩
theorem g_neB {i j : Bool} (h : Q (.bl (!decide (i = j))) H) : rNe (.bl i) (.bl j) H Q := ⟨rfl, by rw [dec_bl]; exact h⟩
theorem g_test {te : TE} {R : Bool → Hp → Prop} (h : te σ H fun x H' => ∃ k, x = .bl k ∧ R k H') : tTest te σ H R := h
theorem g_b {te : TE} {R : Bool → Hp → Prop} (h : te σ H fun x H' => ∃ k, x = .bl k ∧ R k H') : tB te σ H R := h
theorem g_and {t u : TT} {R : Bool → Hp → Prop} (h : t σ H fun c H1 => if c = true then u σ H1 R else R false H1) : tAnd t u σ H R := h
theorem g_or {t u : TT} {R : Bool → Hp → Prop} (h : t σ H fun c H1 => if c = true then R true H1 else u σ H1 R) : tOr t u σ H R := h
theorem g_not {t : TT} {R : Bool → Hp → Prop} (h : t σ H fun c H1 => R (!c) H1) : tNot t σ H R := h
theorem g_andV {ta tb : TE} (h : ta σ H fun x H1 => ∃ c, x = .bl c ∧ if c = true then tb σ H1 Q else Q (.bl false) H1) : tAndV ta tb σ H Q := h
theorem g_orV {ta tb : TE} (h : ta σ H fun x H1 => ∃ c, x = .bl c ∧ if c = true then Q (.bl true) H1 else tb σ H1 Q) : tOrV ta tb σ H Q := h
theorem g_notV {ta : TE} (h : ta σ H fun x H1 => ∃ c, x = .bl c ∧ Q (.bl (!c)) H1) : tNotV ta σ H Q := h
theorem g_cons {ta : TE} {tr : TA} {R : List V → Hp → Prop} (h : ta σ H fun x H1 => tr σ H1 fun xs H2 => R (x :: xs) H2) : tCons ta tr σ H R := h
theorem g_chain {r r' : R2} {ta tb tc : TE} (h : ta σ H fun x H1 => tb σ H1 fun y H2 => r x y H2 fun z H3 => ∃ k, z = .bl k ∧ (if k = true then tc σ H3 fun z' H4 => r' y z' H4 Q else Q (.bl false) H3)) : tChain r r' ta tb tc σ H Q := h
theorem g_nil {R : List V → Hp → Prop} (h : R [] H) : tNil σ H R := h
theorem g_call {sp : Sp} {dvs : List V} {E : XK} {t : TA} (h : t σ H fun vs H1 => sp (vs ++ dvs) H1 Q E) : tCall sp dvs E t σ H Q := h
theorem g_cb {r : List V → Hp → VK → Prop} {t : TA} (h : t σ H fun vs H1 => r vs H1 Q) : tCB r t σ H Q := h
theorem g_dget {td ty : TE} (h : td σ H fun x H1 => ty σ H1 fun y H2 => ∃ a v, x = .ref a ∧ DGet H2 a y (some v) ∧ Q v H2) : tDGet td ty σ H Q := h
theorem g_dput {td ty tv : TE} (h : tv σ H fun v H1 => td σ H1 fun x H2 => ty σ H2 fun y H3 => ∃ a H4, x = .ref a ∧ DPut H3 a y v H4 ∧ D.nx σ H4) : sDPut td ty tv D σ H := h
theorem g_tup {t : TA} (h : t σ H fun xs H1 => xs.length ≤ sizeLine ∧ ∀ p, H1 p = none → Q (.ref p) (upd H1 p (.tup xs))) : tTup t σ H Q := h
theorem g_lst {t : TA} (h : t σ H fun xs H1 => xs.length ≤ sizeLine ∧ ∀ p, H1 p = none → Q (.ref p) (upd H1 p (.lst xs))) : tLst t σ H Q := h
theorem g_for {wi : TI} {g : TG} {tb : TS} (h : wi σ H fun J H1 => ∃ W : Nat → Nat → L2.St → Hp → Prop, (∃ m, W 0 m σ H1) ∧ ∀ i m σ H, W i m σ H →
  (J.stop i H ∧ D.nx σ H) ∨ (J.go i H ∧ ∃ N : L2.St → Hp → Prop, (∀ σ' H', N σ' H' → ∃ m', m' < m ∧ W (i + 1) m' σ' H') ∧ ∀ x H', J.yld i H x H' → g x σ H' fun σ2 H2 => tb { D with nx := N, ct := N, bk := D.nx } σ2 H2)) : tFor wi g tb D σ H := h
theorem g_rng1 {ta : TA} {R : It → Hp → Prop} (h : ta σ H fun vs H1 => ∃ j : Int, vs = [.int j] ∧ -(2 ^ 62) ≤ j ∧ j < 2 ^ 62 ∧ R (Itr 0 j.toNat) H1) : iRng1 ta σ H R := h
theorem g_rng2 {ta : TA} {R : It → Hp → Prop} (h : ta σ H fun vs H1 => ∃ i j : Int, vs = [.int i, .int j] ∧ (-(2 ^ 62) ≤ i ∧ i < 2 ^ 62 ∧ -(2 ^ 62) ≤ j ∧ j < 2 ^ 62) ∧ R (Itr i (j - i).toNat) H1) : iRng2 ta σ H R := h
theorem g_ilist {K : PySem.W.Frag} {tl : TE} {R : It → Hp → Prop} (h : tl σ H fun x H1 => ∃ a, x = .ref a ∧ (∃ xs, SqL K H1 a xs) ∧ R (Itl K a) H1) : iList K tl σ H R := h
theorem g_itup {K : PySem.W.Frag} {tl : TE} {R : It → Hp → Prop} (h : tl σ H fun x H1 => ∃ a, x = .ref a ∧ (∃ xs, SqT K H1 a xs) ∧ R (Itt K a) H1) : iTup K tl σ H R := h
theorem g_lc {wi : TI} {g : TG} {tt : TT} {te : TE} {vs : List Nat} (h : wi σ H fun J H1 => ∀ D, H1 D = none → ∃ W : Nat → Nat → Hp → Prop, (∃ m, W 0 m (upd H1 D (.lst []))) ∧ ∀ i m H, W i m H →
  (J.stop i H ∧ Q (.ref D) H) ∨ (J.go i H ∧ ∃ Nx : Hp → Prop, (∀ H', Nx H' → ∃ m', m' < m ∧ W (i + 1) m' H') ∧ ∀ x H', J.yld i H x H' → g x (wipe σ vs) H' fun σ2 H2 => wipe σ2 vs = wipe σ vs ∧ tt σ2 H2 fun b H3 =>
    if b = true then te σ2 H3 fun y H4 => ∃ acc, H4 D = some (.lst acc) ∧ acc.length < sizeLine ∧ Nx (upd H4 D (.lst (acc ++ [y]))) else Nx H3)) : tLc wi g tt te vs σ H Q := h
theorem g_yes {R : Bool → Hp → Prop} (h : R true H) : tYes σ H R := h
theorem g_sl {r : V → Option Int → Option Int → Hp → VK → Prop} {te : TE} {tl th : TO} (h : te σ H fun x H1 => tl σ H1 fun l H2 => th σ H2 fun u H3 => r x l u H3 Q) : tSl r te tl th σ H Q := h
theorem g_nopart {R : Option Int → Hp → Prop} (h : R none H) : tNoPart σ H R := h
theorem g_part {t : TE} {R : Option Int → Hp → Prop} (h : t σ H fun x H1 => ∃ i, x = .int i ∧ R (some i) H1) : tPart t σ H R := h
theorem g_disp {trs : List (TE × TE)} (h : ∀ p, H p = none → tPairs trs σ (upd H p (.dK [])) fun ps H2 => H2 p = some (.dK []) ∧ ∃ kvs : List (Key × V), ps = kvs.map (fun kv => (kV kv.1, kv.2)) ∧ kvs.length ≤ 15 ∧ Q (.ref p) (upd H2 p (.dK (mergeK [] kvs)))) : tDisp trs σ H Q := h
theorem g_pairs0 {R : List (V × V) → Hp → Prop} (h : R [] H) : tPairs [] σ H R := h
theorem g_pairs {tk tv : TE} {r : List (TE × TE)} {R : List (V × V) → Hp → Prop} (h : tk σ H fun x H1 => tv σ H1 fun y H2 => tPairs r σ H2 fun ps H3 => R ((x, y) :: ps) H3) : tPairs ((tk, tv) :: r) σ H R := h
theorem g_gtup {K : PySem.W.Frag} {n : Nat} {t : TGs} {a : Addr} {xs : List V} {R : L2.St → Hp → Prop} (h : SqT K H a xs) (hl : xs.length = n) (q : t xs σ H R) : gTup K n t (.ref a) σ H R := ⟨a, xs, rfl, h, hl, q⟩
theorem g_gcons {t : TG} {u : TGs} {x : V} {r : List V} {R : L2.St → Hp → Prop} (q : t x σ H fun σ' H' => u r σ' H' R) : gCons t u (x :: r) σ H R := ⟨x, r, rfl, q⟩
theorem g_gnil {R : L2.St → Hp → Prop} (q : R σ H) : gNil [] σ H R := ⟨rfl, q⟩
theorem g_isN {x : V} {R : Bool → Hp → Prop} (h : R (decide (x = .non)) H) : ∃ k, V.bl (decide (x = .non)) = .bl k ∧ R k H := ⟨_, rfl, h⟩
theorem g_bm {K : PySem.W.Frag} {T : String} {r : V → List V → Hp → VK → Prop} {to : TE} {t : TA} (h : to σ H fun x H1 => tyV K T x H1 ∧ t σ H1 fun xs H2 => r x xs H2 Q) : tBM K T r to t σ H Q := h
theorem g_bm0 {K : PySem.W.Frag} {T : String} {r : V → List V → Hp → VK → Prop} {to : TE} (h : to σ H fun x H1 => tyV K T x H1 ∧ r x [] H1 Q) : tBM0 K T r to σ H Q := h
theorem ifd {p A B : Prop} [Decidable p] (h1 : p → A) (h2 : ¬ p → B) : if decide p = true then A else B := by
  by_cases h : p
  · rw [if_pos (decide_eq_true h)]; exact h1 h
  · rw [if_neg (by simp [h])]; exact h2 h
theorem ifdn {p A B : Prop} [Decidable p] (h1 : p → B) (h2 : ¬ p → A) : if (!decide p) = true then A else B := by
  by_cases h : p
  · rw [if_neg (by simp [h])]; exact h1 h
  · rw [if_pos (by simp [h])]; exact h2 h
theorem ifn {b : Bool} {A B : Prop} (h1 : b = true → B) (h2 : b = false → A) : if (!b) = true then A else B := by
  cases b
  · exact h2 rfl
  · exact h1 rfl
theorem ifb {b : Bool} {A B : Prop} (h1 : b = true → A) (h2 : b = false → B) : if b = true then A else B := by
  cases b
  · exact h2 rfl
  · exact h1 rfl
theorem iteNF {A B : Prop} (h : A) : if (!false) = true then A else B := h
theorem iteNT {A B : Prop} (h : B) : if (!true) = true then A else B := h
/-- a and b, a or b: the way that two tests may take is read once -/
theorem and_cut {p U F : Prop} [Decidable p] (q : Prop) (hF : ¬ (p ∧ q) → F) (hU : p → (¬ q → F) → U) : if decide p = true then U else F :=
  ifd (fun c => hU c fun z => hF fun y => z y.2) (fun c => hF fun y => c y.1)
theorem or_cut {p U T : Prop} [Decidable p] (q : Prop) (hT : p ∨ q → T) (hU : ¬ p → (q → T) → U) : if decide p = true then T else U :=
  ifd (fun c => hT (.inl c)) (fun c => hU c fun z => hT (.inr z))
/-- a key of a dict that stands at a -/
theorem g_key {a : Addr} {kvs : List (Key × V)} {k : Str} {w : V} {R : V → Prop} (hd : H a = some (.dK kvs)) (hv : valV kvs (.inr k) = some w) (h : R w) :
    ∃ b v, V.ref a = .ref b ∧ DGet H b (.str k) (some v) ∧ R v := ⟨a, w, rfl, .inl ⟨kvs, .inr k, .inl hd, rfl, hv.symm⟩, h⟩
theorem g_put {a : Addr} {kvs kvs' : List (Key × V)} {k : Str} {w : V} {R : Hp → Prop} (hd : H a = some (.dK kvs)) (hl : kvs.length < sizeLine) (hv : putK kvs (.inr k) w = kvs') (h : R (upd H a (.dK kvs'))) :
    ∃ b H4, V.ref a = .ref b ∧ DPut H b (.str k) w H4 ∧ R H4 := ⟨a, _, rfl, .inl ⟨kvs, .inr k, hd, rfl, hl, rfl⟩, by rw [hv]; exact h⟩
end steps

/-! ### what a def of the text is known to keep -/
structure Own (K : PySem.W.Frag) (mg : Str → Option Value) (x : Str) (st : Stmt) (ps : List Str) (f : Addr) (fd : FuncData) : Prop where
  F : Fun K x x st f fd
  g : mg x = some (.ref f)
  b : Binds K fd ps []
structure Has (P : Program) (w : World) (K : PySem.W.Frag) (mg : Str → Option Value) (base : Heap) (x : Str) (ps : List Str) (lv : Nat) (CX : CXT) (sp : Sp) (f : Addr) (fd : FuncData) : Prop where
  G : FnOk P w K mg base CX lv f fd ps sp
  g : mg x = some (.ref f)
  k : PySem.W.keepIn K (.ref f) = true
  b : Binds K fd ps []
theorem Has.mono {P : Program} {w : World} {K : PySem.W.Frag} {mg : Str → Option Value} {base : Heap} {x : Str} {ps : List Str} {j i : Nat} {CX : CXT} {sp : Sp} {f : Addr} {fd : FuncData} (D : Has P w K mg base x ps j CX sp f fd) (h : j ≤ i) :
    Has P w K mg base x ps i CX sp f fd := ⟨D.G.mono h, D.g, D.k, D.b⟩
theorem Own.has {P : Program} {w : World} {K : PySem.W.Frag} {mg : Str → Option Value} {base : Heap} {x : Str} {st : Stmt} {ps : List Str} {f : Addr} {fd : FuncData} {lv : Nat} {CX : CXT} {sp : Sp} (O : Own K mg x st ps f fd)
    (G : FnOk P w K mg base CX lv f fd ps sp) : Has P w K mg base x ps lv CX sp f fd := ⟨G, O.g, O.F.kp, O.b⟩

/-! ### what stays -/
/-- all stays but what stands at s -/
def KB (s : Addr) (H H' : Hp) : Prop := ∀ a o, a ≠ s → H a = some o → H' a = some o
theorem KB.refl (s : Addr) (H : Hp) : KB s H H := fun _ _ _ h => h
theorem KB.trans {s : Addr} {H H1 H2 : Hp} (a : KB s H H1) (b : KB s H1 H2) : KB s H H2 := fun x o n h => b x o n (a x o n h)
theorem KB.of {s : Addr} {H H' : Hp} (e : Same H H') : KB s H H' := fun a o _ h => e a o h
theorem KB.upd {s : Addr} {H : Hp} {o : HO} : KB s H (upd H s o) := fun a u n h => by rw [upd_ne n]; exact h
theorem same_new {H : Hp} {p : Addr} {o : HO} (h : H p = none) : Same H (upd H p o) := fun b x e => by
  rw [upd_ne (ne_of_none e h)]
  exact e
theorem Rd.same {H H' : Hp} {a : Addr} {u : HO} (e : Same H H') (h : Rd H a u) : Rd H' a u := by
  rcases h with h | ⟨o, h⟩
  · exact .inl (e _ _ h)
  · exact .inr ⟨o, e _ _ h⟩
theorem SqT.same {K : PySem.W.Frag} {H H' : Hp} {a : Addr} {xs : List V} (e : Same H H') (h : SqT K H a xs) : SqT K H' a xs := by
  rcases h with h | h
  · exact .inl (Rd.same e h)
  · exact .inr h
theorem sqt {K : PySem.W.Frag} {H : Hp} {a : Addr} {xs : List V} (h : H a = some (.tup xs)) : SqT K H a xs := .inl (.inl h)
theorem sql {K : PySem.W.Frag} {H : Hp} {a : Addr} {xs : List V} (h : H a = some (.lst xs)) : SqL K H a xs := .inl (.inl h)
theorem KB.rd {s : Addr} {H H' : Hp} {a : Addr} {u : HO} {kvs : List (Key × V)} (e : KB s H H') (hs : H s = some (.dK kvs)) (hu : ∀ k, u ≠ .dK k) (h : Rd H a u) : Rd H' a u := by
  rcases h with h | ⟨o, h⟩
  · exact .inl (e _ _ (fun z => by rw [z, hs] at h; exact hu _ (Option.some.inj h).symm) h)
  · exact .inr ⟨o, e _ _ (fun z => by rw [z, hs] at h; cases h) h⟩
theorem KB.seq {K : PySem.W.Frag} {s : Addr} {H H' : Hp} {a : Addr} {xs : List V} {kvs : List (Key × V)} (e : KB s H H') (hs : H s = some (.dK kvs)) (h : SqL K H a xs) : SqL K H' a xs := by
  rcases h with h | h
  · exact .inl (e.rd hs (fun _ z => by cases z) h)
  · exact .inr h
theorem KB.tup {K : PySem.W.Frag} {s : Addr} {H H' : Hp} {a : Addr} {xs : List V} {kvs : List (Key × V)} (e : KB s H H') (hs : H s = some (.dK kvs)) (h : SqT K H a xs) : SqT K H' a xs := by
  rcases h with h | h
  · exact .inl (e.rd hs (fun _ z => by cases z) h)
  · exact .inr h
/-- tuples stay -/
def TM (K : PySem.W.Frag) (H H' : Hp) : Prop := ∀ a xs, SqT K H a xs → SqT K H' a xs
theorem TM.refl {K : PySem.W.Frag} (H : Hp) : TM K H H := fun _ _ h => h
theorem TM.trans {K : PySem.W.Frag} {H H1 H2 : Hp} (a : TM K H H1) (b : TM K H1 H2) : TM K H H2 := fun x y h => b x y (a x y h)
theorem TM.of {K : PySem.W.Frag} {H H' : Hp} (e : Same H H') : TM K H H' := fun _ _ h => SqT.same e h
theorem KB.tm {K : PySem.W.Frag} {s : Addr} {H H' : Hp} {kvs : List (Key × V)} (e : KB s H H') (hs : H s = some (.dK kvs)) : TM K H H' := fun _ _ h => e.tup hs h
theorem sz {n : Nat} (h : n ≤ 1000) : n ≤ sizeLine := Nat.le_of_lt (small1000 h)

theorem at_any {α : Type} {xs : List α} {z : Int} {j : Nat} {v : α} (e : z = (j : Int)) (h : xs[j]? = some v) : atI xs z = some v := by
  rw [e]
  exact atI_nat h

/-! ### a text told n times -/
/-- one sign, n times -/
def rp (c : Nat) (n : Int) : Str := ⟨(List.replicate n.toNat c).toArray⟩
theorem rp_fold (c : Nat) : ∀ (k : Nat) (a : Array Nat), (List.replicate k (#[c] : Array Nat)).foldl (· ++ ·) a = a ++ (List.replicate k c).toArray
  | 0, a => by simp
  | k + 1, a => by
    rw [List.replicate_succ, List.foldl_cons, rp_fold c k, List.replicate_succ]
    apply Array.ext'
    simp
theorem rp_len {c : Nat} {n : Int} : (rp c n).length = n.toNat := by
  show ((List.replicate n.toNat c).toArray).size = n.toNat
  simp
def rRepS : R2 := fun x y H Q => ∃ (c : Nat) (n : Int), x = .str ⟨#[c]⟩ ∧ y = .int n ∧ 0 ≤ n ∧ n ≤ 1000 ∧ Q (.str (rp c n)) H
theorem op_rep_str {X : Cx} : OpR X (binaryOp .Mult) rRepS := by
  intro pins s σ H x y v u Q I rx ry h
  obtain ⟨c, n, rfl, rfl, h0, h1, q⟩ := h
  obtain ⟨t, rfl⟩ := rx
  obtain ⟨t', rfl⟩ := ry
  have hz : (1000 : Nat) ≤ sizeLine := by decide
  refine PySem.P.mul_str (by simp; omega) (fun h2 h3 => ?_) (fun h2 h3 => ?_) ?_
  · have : (1 : Int) ≤ (2 ^ 63 - 1) / n := by
      apply (Int.le_ediv_iff_mul_le (by omega)).mpr
      omega
    show ¬ ((1 : Nat) : Int) > _
    omega
  · show decide _ = false
    refine decide_eq_false ?_
    show ¬ (1 * n.toNat > _)
    have : n.toNat ≤ 1000 := by omega
    omega
  · by_cases h2 : n < 1
    · rw [if_pos h2]
      have e : rp c n = Str.empty := by
        unfold rp
        rw [show n.toNat = 0 by omega]
        rfl
      rw [e] at q
      exact ⟨by decide, ⟨.str Str.empty, H, I.tok _, ⟨_, rfl⟩, q⟩⟩
    · rw [if_neg h2]
      by_cases h3 : n = 1
      · subst h3
        rw [if_pos (by rfl)]
        have e : rp c 1 = ⟨#[c]⟩ := rfl
        rw [e] at q
        exact ⟨.str ⟨#[c]⟩, H, I, ⟨_, rfl⟩, q⟩
      · rw [if_neg (by simp [h3]; intro z; cases z)]
        have e : (⟨(List.replicate n.toNat (#[c] : Array Nat)).foldl (· ++ ·) #[]⟩ : Str) = rp c n := by
          rw [rp_fold]
          simp [rp]
        rw [e]
        refine ⟨?_, ⟨.str (rp c n), H, I.tok _, ⟨_, rfl⟩, q⟩⟩
        rw [rp_len]
        omega
end Bk

set_option Elab.async false
set_option linter.all false
set_option maxRecDepth 100000
set_option maxHeartbeats 2000000
namespace Bk
open PySem PySem.Spec PyProof.Rows L2 GxR
/-! ### all(.. for x in text) where the element reads the module's names -/
/-- an element, with the module's names at hand -/
def Elm (prog : Program) (w : World) (mg : Str → Option Value) (sc : Scope) (x : Str) (elt : Expr) (pb : Nat → Bool) : Prop :=
  ∀ (en : Env) (B : Around) (Er : Value → Shared → Prop) (c : Nat) (t : Tok) (u : Shared) (m : Str → Option Value), en.scope = sc → en.globals = mainGlobals →
    u.heap.Ns mainGlobals mg → u.heap.Ns en.locals m → m x = some (.str ⟨#[c]⟩ t) → wpAny (model prog w) B (eval elt en) (fun y u' => y = .bool (pb c) ∧ Keeps u u') Er u
/-- x in NAME, a text of the module -/
theorem elm_in {prog : Program} {w : World} {mg : Str → Option Value} {sc : Scope} {x n : Str} {z : Str} {tz : Tok} {p1 p2 p3 : Pos} (hk : sc.kind = .function) (hl : sc.names.lookup x = some .local) (hn : sc.names.lookup n = some .globalImplicit)
    (hz : mg n = some (.str z tz)) (dx : (x == ("__debug__" : Str)) = false := by decide) (dn : (n == ("__debug__" : Str)) = false := by decide) :
    Elm prog w mg sc x (.Compare (.Name x p1) [.In] [.Name n p2] p3) (fun c => decide (c ∈ z.cps.toList)) := by
  intro en B Er c t u m es eg hg hloc hm
  refine wpAny_Compare1 (wpAny_Name (wpAny_loadName_local (by rw [es]; exact hk) (show en.scope.names.lookup x = some .local by rw [es]; exact hl) hloc hm ?_) dx)
  refine Calls.Name_function_global (by rw [es]; exact hk) (show en.scope.names.lookup n = some .globalImplicit by rw [es]; exact hn) (Calls.loadGlobal_global (by rw [eg]; exact hg) hz ?_) dn
  exact PyProof.Rows.in_str ⟨congrArg Value.bool (PySem.StrLaws.found_one z c), keeps_tok _ _⟩
/-- the code of a generator expression is found or made: the def's table may grow -/
theorem code_any {prog : Program} {w : World} {A : Around} {Er : Value → Shared → Prop} {env : Env} {c P : Addr} {u : Shared} {ps : Array Value} {sc : Scope} {q : Str} {gpos : Pos} {Q : Value → Shared → Prop}
    (hc : env.code = .ref c) (cd : PySem.W.CodeHd u.heap c P) (hP : u.heap.get? P = some { cls := .none, data := .fields ps }) (ht : TriplesOk ps.toList)
    (h : ∀ (code : Value) (g : Heap) (tk : Nat) (more : Array Value), Heap.ExtBut P u.heap g → u.heap.objs.size ≤ g.objs.size → g.get? P = some { cls := .none, data := .fields (ps ++ more) } → TriplesOk (ps ++ more).toList → Q code { u with heap := g, toks := tk }) :
    wpAny (model prog w) A (genexprCode env gpos q sc) Q Er u := by
  cases hf : codeAmong gpos ps.toList with
  | some cv => exact wpAny_genexprCode_hit hc (cd.code hP ht) hf (h cv u.heap u.toks #[] (Heap.ExtBut.refl _ _) (Nat.le_refl _) (by simpa using hP) (by simpa using ht))
  | none =>
    refine wpAny_genexprCodeX hc (cd.code hP ht) (cd.tab hP) hf fun c' g tk gx gge glt gco _ gtab _ => ?_
    obtain ⟨_, _, _, _, _, _, _, _, _, _, _, _, _, _, _, _, _, _, _, tr, _⟩ := gco
    exact h _ g tk _ gx (Nat.le_trans gge (Nat.le_of_lt glt)) gtab.2 tr
section
variable {X : Cx} {pins : List (Addr × Obj)} {σ : L2.St} {H : Hp} {s : Shared}
theorem gen_text {c P : Addr} {elt iter : Expr} {x : Str} {px gpos : Pos} {sc : Scope} {pb : Nat → Bool} {te : TE} {k : Nat} {W : Value → Shared → Prop} {R : Str → Hp → Prop}
    (hr : Room k X.A) (tb : TabB X.base X.mg c P) (hc : X.env.code = .ref c) (S : GenS X.env sc x) (hi : PE X iter te) (hel : Elm X.prog X.w X.mg sc x elt pb)
    (hs : ∀ v, genFold iter X.env v = pure v) (I : Inv X pins σ H s) (h : te σ H fun v H1 => ∃ a : Str, v = .str a ∧ TabG H1 P ∧ R a H1)
    (hW : ∀ (a : Str) (H1 : Hp) (g : Addr) (u : Shared), R a H1 → Ready X pins σ H1 P a pb g u → W (.ref g) u) :
    wpAny (model X.prog X.w) X.A (eval (.GeneratorExp elt [⟨.Name x px, iter, [], 0⟩] sc gpos) X.env) W X.xe s := by
  refine wpAny_GeneratorExp_walksQ hr.hd S.co (closure_ok S.free) S.cell S.dot S.loc S.kind (by have := hr.dp; omega) (thn (hi.run pins s σ H _ I h) ?_) hs
  rintro xv u ⟨v, H1, I1, r1, a, rfl, ⟨ps, hP, ht⟩, hR⟩
  obtain ⟨t, rfl⟩ := _root_.id r1
  refine wpAny_pyIter_str fun o St Wk st0 => ?_
  have atP : u.heap.get? P = some { cls := .none, data := .fields ps } := I1.hok P _ hP
  have atP2 := Heap.get?_push_of_some o atP
  have free := I1.nolimit
  have free2 := free.push o
  have old : ∀ b v, X.base.get? b = some v → (u.heap.push o).get? b = some v := fun b v e => Heap.get?_push_of_some _ (I1.bk b v e)
  refine ⟨free2, code_any hc (tb.code.keeps old) atP2 ht fun code g tk more gx gge gP gt => ?_⟩
  have hsz : (u.heap.push o).objs.size = u.heap.objs.size + 1 := Heap.size_push ..
  have hg : u.heap.objs.size < g.objs.size := by
    have gge : (u.heap.push o).objs.size ≤ g.objs.size := gge
    omega
  have ltP : P < u.heap.objs.size := Heap.lt_size atP
  have stat : cStatics ≠ P ∧ cStatics < u.heap.objs.size := by
    obtain ⟨_, ns, _⟩ := free
    refine ⟨fun e => ?_, ns.lt⟩
    obtain ⟨ob, es, ep, ho, hd, _⟩ := ns
    rw [e, atP] at ho
    cases ho
    cases hd
  obtain ⟨bm, ob, b1, b2, b3, b4, b5, b6, b7, b8⟩ := tb.bm
  have toG : ∀ b v, b ≠ P → u.heap.get? b = some v → g.get? b = some v := fun b v n e => gx b v n (Heap.get?_push_of_some _ e)
  have names : g.Ns mainGlobals X.mg := ((I1.mod.glob.keeps I1.bk).push o).extBut gx tb.gP
  have notW : ∀ b v, u.heap.get? b = some v → b ≠ u.heap.objs.size := fun b v e => Nat.ne_of_lt (Heap.lt_size e)
  refine wpAny_builtinsFor (m := X.mg) (by rw [I1.ok.glob]; exact names) b1 b2 (toG _ _ b4 (I1.bk _ _ b5)) b6 b7 b8 ?_
  refine ⟨u.heap.objs.size, [u.heap.objs.size], [u.heap.objs.size], a.cps.size, SignAt a, St, fun _ => true, fun i y => ∃ z, a.cps[i]? = some z ∧ y = .bool (pb z), rfl, Wk,
    (Wk X.A hr.hd).frame _ _ _ st0 fun b hb v e => gx b v (fun q => ?_) e, fun b hb => ?_, free2.extBut gx stat.1, fun q => ?_, fun hf hhf => ⟨?_, ?_⟩, ?_⟩
  · rw [List.mem_singleton.mp hb] at q
    exact Nat.ne_of_lt ltP q.symm
  · rw [List.mem_singleton.mp hb]
    exact hg
  · exact Nat.ne_of_lt stat.2 (List.mem_singleton.mp q)
  · intro A' E' i v s2 m2 _ _ _ _ _
    simp only [List.forIn_nil]
    exact wpAny_pure ⟨rfl, keeps_refl _⟩
  · intro A' E' i v s2 m2 _ hv _ hloc hm hk
    obtain ⟨z, tz, hz, rfl⟩ := hv
    have names2 : s2.heap.Ns mainGlobals X.mg := by
      obtain ⟨og, es, ep, e0, rr⟩ := names
      refine ⟨og, es, ep, hk mainGlobals (List.mem_range.mpr (Heap.lt_size e0)) (fun q => ?_) og (hhf _ _ e0), rr⟩
      obtain ⟨o3, _, _, e3, _⟩ := I1.mod.glob
      exact notW _ _ (I1.bk _ _ e3) (List.mem_singleton.mp q)
    refine wpAny_mono (hel _ A' E' z tz s2 m2 rfl I1.ok.glob names2 hloc hm) (fun y s3 r => ⟨⟨z, hz, r.1⟩, r.2⟩) fun _ _ e => e
  · intro q h5 tk5 gs bare ltq sz5 to5 W5 st5
    simp only [GxR.passing_true, List.length_range] at W5
    refine hW a H1 q _ hR ⟨_, _, _, _, _, W5.in4_1, st5, ?_, fun s' hm => ?_⟩
    · intro j y sj Qj Ej hy hQj
      obtain ⟨i, hi, z, hz, rfl⟩ := hy
      obtain ⟨hj, ej⟩ := List.getElem?_eq_some_iff.mp hi
      rw [List.getElem_range] at ej
      subst ej
      have ez : a.cps.toList[j]? = some z := by rw [Array.getElem?_toList]; exact hz
      have q2 : Qj (trF pb a.cps.toList j) sj := hQj
      rw [trF_some ez] at q2
      exact wpAny_truthy_bool q2
    · have out : ∀ b v, u.heap.get? b = some v → b ∉ g.objs.size :: [u.heap.objs.size] := fun b v e hb => by
        have hl := Heap.lt_size e
        rcases List.mem_cons.mp hb with z | z
        · rw [z] at hl
          exact absurd hl (Nat.not_lt.mpr (Nat.le_of_lt hg))
        · exact notW b v e (List.mem_singleton.mp z)
      have J := inv_tab (more := more) (h' := s'.heap) (g' := s'.gens) (d' := s'.drawn) (t' := s'.toks) I1 hP (fun b v n e => hm.heap b v (out b v e) (to5 b v (toG b v n e))) (hm.heap P _ (out P _ atP) (to5 P _ gP)) (AllBare.movedS (I1.bare.push bare) hm)
      rw [sh_eta u s' hm.os] at J
      exact ⟨_, ⟨⟨_, upd_same, gt⟩, fun b n => upd_ne n⟩, J⟩
/-- all(element for x in text) -/
theorem pe_allG {c P : Addr} {elt iter : Expr} {x : Str} {px p pos gpos : Pos} {sc : Scope} {pb : Nat → Bool} {te : TE} {k : Nat}
    (hr : Room k X.A) (gl : Gl X "all") (hm : X.mg "all" = none) (hb : bootBuiltins "all" = some (.builtin "all")) (tb : TabB X.base X.mg c P) (hc : X.env.code = .ref c) (S : GenS X.env sc x) (hi : PE X iter te) (hel : Elm X.prog X.w X.mg sc x elt pb)
    (hs : ∀ v, genFold iter X.env v = pure v)
    (he : starEach [.GeneratorExp elt [⟨.Name x px, iter, [], 0⟩] sc gpos] X.env = (false, eval (.GeneratorExp elt [⟨.Name x px, iter, [], 0⟩] sc gpos) X.env) :: starEach [] X.env := by rfl) :
    PE X (.Call (.Name "all" p) [.GeneratorExp elt [⟨.Name x px, iter, [], 0⟩] sc gpos] [] pos) (tAllS P pb te) := by
  refine ⟨fun pins s σ H Q I h => wpAny_Call_Name_kw (ld_blt (u := .builtin "all") I gl hm hb (PyProof.Rows.callWith_builtin1 ?_ he (by rfl)))⟩
  rw [he]
  refine Calls.spliced_cons (gen_text (R := fun a H1 => ∀ H2, Tabbed P H1 H2 → Q (.bl (a.cps.toList.all pb)) H2) hr tb hc S hi hel hs I h fun a H1 g u hR ⟨fp, wr, G, F, Sw, W, st, tr, hI⟩ => Calls.spliced_nil ?_)
  refine call_all_walkS (W.self 0 _ _ _ st ⟨g, fp, wr, G, _, F, Sw, _, rfl, W, st, tr, fun s' mv => ?_⟩)
  obtain ⟨H2, hT, J⟩ := hI s' mv
  exact ⟨.bl _, H2, J, rfl, by rw [all_signs a pb]; exact hR H2 hT⟩
end
end Bk

set_option Elab.async false
set_option linter.all false
set_option maxRecDepth 100000
set_option maxHeartbeats 2000000
namespace Bk
open PySem PySem.Spec PyProof.Rows L2
/-! ### NAME.get(key): a dict of the module whose keys are texts -/
def tKGet (K : PySem.W.Frag) (d : Addr) (ty : TE) : TE := fun σ H Q => ty σ H fun y H1 => ∃ (z : Str) (r : Option Value) (v : V), y = .str z ∧ PySem.W.nsIn K d z = some r ∧ RelV v (r.getD .none) ∧ Q v H1
theorem pe_kget {X : Cx} {n : Str} {p apos cpos : Pos} {e : Expr} {ty : TE} {d : Addr} {es : Array DictEntry} {c : Nat} (D : KDict X.K X.w d es c) (hg : Gl X n) (hm : X.mg n = some (.ref d)) (he : PE X e ty) (m : M1 X (.Name n p) "get" apos e cpos)
    (dn : (n == ("__debug__" : Str)) = false := by decide) : PE X (.Call (.Attribute (.Name n p) "get" apos) [e] [] cpos) (tKGet X.K d ty) := by
  refine ⟨fun pn u τ G W I h => wpAny_Call_method m.base m.few m.line PySem.F.plainAttrs_dict PySem.F.slot_dict_get PySem.F.type_dict_get (ld_glob I hg hm ?_ dn)⟩
  have M0 := PySem.W.mapOf_K (prog := X.prog) (w := X.w) I.kIn D.at_ D.lit
  refine ⟨M0.typeIs, M0.noDict, ?_⟩
  rw [m.trees]
  refine Calls.callWith_builtin rfl (Calls.evalArgs_plain (Calls.spliced_cons (thn (he.run pn u τ G _ I h) fun uv u1 hh => Calls.spliced_nil ?_)))
  obtain ⟨y, G1, I1, ry, z, r, v, ey, en, rv, q⟩ := hh
  subst ey
  obtain ⟨t, rfl⟩ := ry
  have M1 := PySem.W.mapOf_K (prog := X.prog) (w := X.w) I1.kIn D.at_ D.lit
  refine call_meetsIn PySem.F.slot_dict_get M1.typeIs PySem.F.entry_dict_get (PySem.F.args_dict_get_2 _ _) (meets_dict_get (strKind X.prog X.w) d (PySem.strKind_is X.prog X.w z t) D.low) ⟨_, M1, ?_⟩
  rw [PySem.W.find_K D.at_ en]
  exact ⟨v, G1, I1.tok _, rv, q⟩

/-! ### handed-in data -/
/-- what is told by tuples and lists stays -/
structure DM (K : PySem.W.Frag) (H H' : Hp) : Prop where
  t : ∀ a xs, SqT K H a xs → SqT K H' a xs
  l : ∀ a xs, SqL K H a xs → SqL K H' a xs
theorem DM.refl {K : PySem.W.Frag} (H : Hp) : DM K H H := ⟨fun _ _ h => h, fun _ _ h => h⟩
theorem DM.trans {K : PySem.W.Frag} {H H1 H2 : Hp} (a : DM K H H1) (b : DM K H1 H2) : DM K H H2 := ⟨fun x y h => b.t x y (a.t x y h), fun x y h => b.l x y (a.l x y h)⟩
theorem DM.of {K : PySem.W.Frag} {H H' : Hp} (e : Same H H') : DM K H H' := ⟨fun _ _ h => SqT.same e h, fun _ _ h => e.seq h⟩
theorem DM.tm {K : PySem.W.Frag} {H H' : Hp} (d : DM K H H') : TM K H H' := d.t
theorem KB.dm {K : PySem.W.Frag} {s : Addr} {H H' : Hp} {kvs : List (Key × V)} (e : KB s H H') (hs : H s = some (.dK kvs)) : DM K H H' := ⟨fun _ _ h => e.tup hs h, fun _ _ h => e.seq hs h⟩
mutual
theorem Dp.dm {K : PySem.W.Frag} {H H' : Hp} (m : DM K H H') : ∀ {d : PyData} {v : V}, Dp K H v d → Dp K H' v d
  | .none, _, .non => .non
  | .bool _, _, .bl b => .bl b
  | .int _, _, .int i => .int i
  | .str _, _, .str x => .str x
  | .list _, _, .lst h r => .lst (m.l _ _ h) (DpAll.dm m r)
  | .tuple _, _, .tup h r => .tup (m.t _ _ h) (DpAll.dm m r)
theorem DpAll.dm {K : PySem.W.Frag} {H H' : Hp} (m : DM K H H') : ∀ {ds : List PyData} {vs : List V}, DpAll K H vs ds → DpAll K H' vs ds
  | [], _, .nil => .nil
  | _ :: _, _, .cons h r => .cons (Dp.dm m h) (DpAll.dm m r)
end
theorem DpAll.len {K : PySem.W.Frag} {H : Hp} : ∀ {ds : List PyData} {vs : List V}, DpAll K H vs ds → vs.length = ds.length
  | [], _, .nil => rfl
  | _ :: _, _, .cons _ r => by rw [List.length_cons, List.length_cons, DpAll.len r]
theorem DpAll.at {K : PySem.W.Frag} {H : Hp} : ∀ {ds : List PyData} {vs : List V} {i : Nat} {d : PyData}, DpAll K H vs ds → ds[i]? = some d → ∃ v, vs[i]? = some v ∧ Dp K H v d
  | [], _, i, d, .nil, h => by simp at h
  | e :: ds, v :: vs, 0, d, .cons a r, h => by
    simp only [List.getElem?_cons_zero, Option.some.injEq] at h
    subst h
    exact ⟨v, rfl, a⟩
  | e :: ds, v :: vs, i + 1, d, .cons a r, h => by
    simp only [List.getElem?_cons_succ] at h
    obtain ⟨u, h1, h2⟩ := DpAll.at r h
    exact ⟨u, by simpa using h1, h2⟩
theorem DpAll.app {K : PySem.W.Frag} {H : Hp} : ∀ {ds es : List PyData} {vs us : List V}, DpAll K H vs ds → DpAll K H us es → DpAll K H (vs ++ us) (ds ++ es)
  | [], _, _, _, .nil, s => s
  | _ :: _, _, _, _, .cons a r, s => .cons a (DpAll.app r s)
theorem DpAll.drop {K : PySem.W.Frag} {H : Hp} : ∀ (n : Nat) {ds : List PyData} {vs : List V}, DpAll K H vs ds → DpAll K H (vs.drop n) (ds.drop n)
  | 0, _, _, r => r
  | _ + 1, [], _, .nil => .nil
  | n + 1, _ :: _, _, .cons _ r => DpAll.drop n r
theorem DpAll.take {K : PySem.W.Frag} {H : Hp} : ∀ (n : Nat) {ds : List PyData} {vs : List V}, DpAll K H vs ds → DpAll K H (vs.take n) (ds.take n)
  | 0, _, _, _ => .nil
  | _ + 1, [], _, .nil => .nil
  | n + 1, _ :: _, _, .cons a r => .cons a (DpAll.take n r)
/-- the built-in type's name -/
def tyn : PyData → String
  | .none => "NoneType"
  | .bool _ => "bool"
  | .int _ => "int"
  | .str _ => "str"
  | .list _ => "list"
  | .tuple _ => "tuple"
  | .dict _ => "dict"
theorem ty_of {K : PySem.W.Frag} {H : Hp} {v : V} {d : PyData} (h : Dp K H v d) : TyX K H v (.type (tyn d)) := by
  cases h with
  | non => exact .base .non
  | bl b => exact .base (.bl b)
  | int i => exact .base (.int i)
  | str x => exact .base (.str x)
  | lst a r =>
    rcases a with (a | ⟨o, a⟩) | ⟨o, its, n, a, c, _⟩
    · exact .base (.lst a)
    · exact .base (.frz a)
    · exact .kList a c
  | tup a r =>
    rcases a with (a | ⟨o, a⟩) | ⟨o, its, n, a, c, _⟩
    · exact .base (.tup a)
    · exact .fTuple a
    · exact .kTuple a c
def isStr : PyData → Bool
  | .str _ => true
  | _ => false
def isTup : PyData → Bool
  | .tuple _ => true
  | _ => false
def isLst : PyData → Bool
  | .list _ => true
  | _ => false
def isInt : PyData → Bool
  | .int _ => true
  | .bool _ => true
  | _ => false
def isBool : PyData → Bool
  | .bool _ => true
  | _ => false
section
variable {K : PySem.W.Frag} {H : Hp} {v : V} {d : PyData} {Q : VK}
theorem use_isStr (h : Dp K H v d) (q : Q (.bl (isStr d)) H) : rIsi K [v, .ty "str"] H Q := ⟨v, .ty "str", _, _, isStr d, rfl, .ty _, ty_of h, kit_ty (by cases h with | non => exact (by decide +kernel : kitB "NoneType" "str" = some false) | bl _ => exact (by decide +kernel : kitB "bool" "str" = some false) | int _ => exact (by decide +kernel : kitB "int" "str" = some false) | str _ => exact (by decide +kernel : kitB "str" "str" = some true) | lst _ _ => exact (by decide +kernel : kitB "list" "str" = some false) | tup _ _ => exact (by decide +kernel : kitB "tuple" "str" = some false)), q⟩
theorem use_isTup (h : Dp K H v d) (q : Q (.bl (isTup d)) H) : rIsi K [v, .ty "tuple"] H Q := ⟨v, .ty "tuple", _, _, isTup d, rfl, .ty _, ty_of h, kit_ty (by cases h with | non => exact (by decide +kernel : kitB "NoneType" "tuple" = some false) | bl _ => exact (by decide +kernel : kitB "bool" "tuple" = some false) | int _ => exact (by decide +kernel : kitB "int" "tuple" = some false) | str _ => exact (by decide +kernel : kitB "str" "tuple" = some false) | lst _ _ => exact (by decide +kernel : kitB "list" "tuple" = some false) | tup _ _ => exact (by decide +kernel : kitB "tuple" "tuple" = some true)), q⟩
theorem use_isLst (h : Dp K H v d) (q : Q (.bl (isLst d)) H) : rIsi K [v, .ty "list"] H Q := ⟨v, .ty "list", _, _, isLst d, rfl, .ty _, ty_of h, kit_ty (by cases h with | non => exact (by decide +kernel : kitB "NoneType" "list" = some false) | bl _ => exact (by decide +kernel : kitB "bool" "list" = some false) | int _ => exact (by decide +kernel : kitB "int" "list" = some false) | str _ => exact (by decide +kernel : kitB "str" "list" = some false) | lst _ _ => exact (by decide +kernel : kitB "list" "list" = some true) | tup _ _ => exact (by decide +kernel : kitB "tuple" "list" = some false)), q⟩
theorem use_isInt (h : Dp K H v d) (q : Q (.bl (isInt d)) H) : rIsi K [v, .ty "int"] H Q := ⟨v, .ty "int", _, _, isInt d, rfl, .ty _, ty_of h, kit_ty (by cases h with | non => exact (by decide +kernel : kitB "NoneType" "int" = some false) | bl _ => exact (by decide +kernel : kitB "bool" "int" = some true) | int _ => exact (by decide +kernel : kitB "int" "int" = some true) | str _ => exact (by decide +kernel : kitB "str" "int" = some false) | lst _ _ => exact (by decide +kernel : kitB "list" "int" = some false) | tup _ _ => exact (by decide +kernel : kitB "tuple" "int" = some false)), q⟩
theorem use_isBool (h : Dp K H v d) (q : Q (.bl (isBool d)) H) : rIsi K [v, .ty "bool"] H Q := ⟨v, .ty "bool", _, _, isBool d, rfl, .ty _, ty_of h, kit_ty (by cases h with | non => exact (by decide +kernel : kitB "NoneType" "bool" = some false) | bl _ => exact (by decide +kernel : kitB "bool" "bool" = some true) | int _ => exact (by decide +kernel : kitB "int" "bool" = some false) | str _ => exact (by decide +kernel : kitB "str" "bool" = some false) | lst _ _ => exact (by decide +kernel : kitB "list" "bool" = some false) | tup _ _ => exact (by decide +kernel : kitB "tuple" "bool" = some false)), q⟩
end
/-- all stays but a def's table at P, which may grow -/
structure Tb (P : Addr) (H H' : Hp) : Prop where
  g : GxR.TabG H' P
  k : ∀ a o, a ≠ P → H a = some o → H' a = some o
theorem Tb.refl {P : Addr} {H : Hp} (g : GxR.TabG H P) : Tb P H H := ⟨g, fun _ _ _ h => h⟩
theorem Tb.trans {P : Addr} {H H1 H2 : Hp} (a : Tb P H H1) (b : Tb P H1 H2) : Tb P H H2 := ⟨b.g, fun x o n h => b.k x o n (a.k x o n h)⟩
theorem tab_same {P : Addr} {H H' : Hp} (g : GxR.TabG H P) (e : Same H H') : GxR.TabG H' P := by
  obtain ⟨ps, h, t⟩ := g
  exact ⟨ps, e _ _ h, t⟩
theorem Tb.of {P : Addr} {H H' : Hp} (g : GxR.TabG H P) (e : Same H H') : Tb P H H' := ⟨tab_same g e, fun _ _ _ h => e _ _ h⟩
theorem Tb.grown {P : Addr} {H H' : Hp} (t : GxR.Tabbed P H H') : Tb P H H' := ⟨t.1, fun a o n h => by rw [t.2 a n]; exact h⟩
theorem Tb.rd {P : Addr} {H H' : Hp} {a : Addr} {u : HO} (g : GxR.TabG H P) (t : Tb P H H') (hu : ∀ ps, u ≠ .tbl ps) (h : Rd H a u) : Rd H' a u := by
  obtain ⟨ps, e, _⟩ := g
  rcases h with h | ⟨o, h⟩
  · exact .inl (t.k _ _ (fun z => by rw [z, e] at h; exact hu _ (Option.some.inj h).symm) h)
  · exact .inr ⟨o, t.k _ _ (fun z => by rw [z, e] at h; cases h) h⟩
theorem Tb.dm {K : PySem.W.Frag} {P : Addr} {H H' : Hp} (g : GxR.TabG H P) (t : Tb P H H') : DM K H H' := by
  refine ⟨fun a xs h => ?_, fun a xs h => ?_⟩
  · rcases h with h | h
    · exact .inl (t.rd g (fun _ z => by cases z) h)
    · exact .inr h
  · rcases h with h | h
    · exact .inl (t.rd g (fun _ z => by cases z) h)
    · exact .inr h
theorem tab_kb {P s : Addr} {H H' : Hp} {kvs : List (Key × V)} (g : GxR.TabG H P) (e : KB s H H') (hs : H s = some (.dK kvs)) : GxR.TabG H' P := by
  obtain ⟨ps, h, t⟩ := g
  exact ⟨ps, e _ _ (fun z => by rw [z, hs] at h; cases h) h, t⟩
/-! ### sizes -/
mutual
def szOk : PyData → Bool
  | .str x => decide (x.length ≤ 100000)
  | .list xs => szAll xs
  | .tuple xs => szAll xs
  | _ => true
def szAll : List PyData → Bool
  | [] => true
  | d :: ds => szOk d && szAll ds
end
theorem szAll_at : ∀ {ds : List PyData} {i : Nat} {d : PyData}, szAll ds = true → ds[i]? = some d → szOk d = true
  | [], i, d, _, h => by simp at h
  | e :: ds, 0, d, h, q => by
    simp only [List.getElem?_cons_zero, Option.some.injEq] at q
    subst q
    unfold szAll at h
    exact (Bool.and_eq_true_iff.mp h).1
  | e :: ds, i + 1, d, h, q => by
    simp only [List.getElem?_cons_succ] at q
    unfold szAll at h
    exact szAll_at (Bool.and_eq_true_iff.mp h).2 q
end Bk

set_option Elab.async false
set_option linter.all false
set_option maxRecDepth 100000
set_option maxHeartbeats 2000000
namespace Bk
open PySem PySem.Spec PyProof.Rows L2
/-! ### the forms -/
abbrev Forms := List (Str × List Str)
def numForms : Forms := [("num", ["amount"]), ("read", ["name"]), ("plus", ["number", "number"]), ("minus", ["number", "number"]), ("times", ["number", "number"]), ("most", ["number", "number"]), ("least", ["number", "number"])]
def condForms : Forms := [("below", ["number", "number"]), ("not", ["condition"]), ("all", ["condition", "condition"]), ("any", ["condition", "condition"])]
def ctrForms : Forms := [("none", []), ("give", ["side", "side", "good", "number"]), ("both", ["contract", "contract"]), ("turned", ["side", "side", "contract"]), ("later", ["wait", "contract"]), ("often", ["times", "gap", "contract"]),
  ("if", ["condition", "contract", "contract"]), ("when", ["condition", "contract"]), ("until", ["condition", "contract"])]
def strsAre : List Value → List Str → Bool
  | [], [] => true
  | .str x _ :: r, y :: s => decide (x = y) && strsAre r s
  | _, _ => false
theorem strsAre_vals : ∀ {us : List Value} {ks : List Str}, strsAre us ks = true → Vals (ks.map V.str) us
  | [], [], _ => .nil
  | .str x t :: r, y :: s, h => by
    have h' : (decide (x = y) && strsAre r s) = true := h
    rw [Bool.and_eq_true] at h'
    have e := of_decide_eq_true h'.1
    subst e
    exact .cons ⟨t, rfl⟩ (strsAre_vals h'.2)
def tupOk (K : PySem.W.Frag) (a : Addr) (ks : List Str) : Bool := match K.lookup a with
  | some ⟨.type c, _, .seq its _, _⟩ => decide (c = "tuple") && (decide (its.size ≤ 100) && strsAre its.toList ks)
  | _ => false
theorem tupOk_sq {K : PySem.W.Frag} {a : Addr} {ks : List Str} (h : tupOk K a ks = true) (H : Hp) : SqT K H a (ks.map V.str) := by
  unfold tupOk at h
  split at h
  · rename_i c dd its n sl e
    simp only [Bool.and_eq_true, decide_eq_true_eq] at h
    obtain ⟨h1, h2, h3⟩ := h
    subst h1
    exact .inr ⟨_, its, n, e, rfl, rfl, Nat.le_trans h2 (by decide), strsAre_vals h3⟩
  · cases h
def rowOk (K : PySem.W.Frag) (e : DictEntry) (p : Str × List Str) : Bool := match e.key, e.val with
  | .str x _, .ref a => decide (x = p.1) && tupOk K a p.2
  | _, _ => false
def rowsOk (K : PySem.W.Frag) : List DictEntry → Forms → Bool
  | [], [] => true
  | e :: r, p :: s => rowOk K e p && rowsOk K r s
  | _, _ => false
def formOf (L : Forms) (z : Str) : Option (List Str) := match L with
  | [] => none
  | p :: s => if p.1 = z then some p.2 else formOf s z
theorem rowsOk_find {K : PySem.W.Frag} {z : Str} : ∀ {es : List DictEntry} {L : Forms}, rowsOk K es L = true →
    match formOf L z with
    | none => es.find? (fun e => e.key.isStr z) = none
    | some ks => ∃ e a, es.find? (fun e => e.key.isStr z) = some e ∧ e.val = .ref a ∧ tupOk K a ks = true
  | [], [], _ => rfl
  | e :: r, p :: s, h => by
    have h' : (rowOk K e p && rowsOk K r s) = true := h
    rw [Bool.and_eq_true] at h'
    obtain ⟨h1, h2⟩ := h'
    have ih := rowsOk_find (z := z) h2
    unfold rowOk at h1
    split at h1
    · rename_i x t a ek ev
      rw [Bool.and_eq_true, decide_eq_true_eq] at h1
      obtain ⟨e1, e2⟩ := h1
      by_cases c : p.1 = z
      · have e3 : e.key.isStr z = true := by rw [ek, PySem.W.isStr_of, e1, c]; simp [Value.isStrOf]
        unfold formOf
        rw [if_pos c]
        exact ⟨e, a, by rw [List.find?_cons, e3], ev, e2⟩
      · have e3 : e.key.isStr z = false := by
          rw [ek, PySem.W.isStr_of, e1]
          simp only [Value.isStrOf]
          simpa using c
        unfold formOf
        rw [if_neg c, List.find?_cons, e3]
        exact ih
    · cases h1
def tabOk (K : PySem.W.Frag) (d : Addr) (L : Forms) : Bool := match K.lookup d with
  | some ⟨_, _, .dict es _, _⟩ => !(es.toList.any (·.refKey)) && rowsOk K es.toList L
  | _ => false
theorem tabOk_ns {K : PySem.W.Frag} {d : Addr} {L : Forms} (h : tabOk K d L = true) (z : Str) :
    match formOf L z with
    | none => PySem.W.nsIn K d z = some none
    | some ks => ∃ a, PySem.W.nsIn K d z = some (some (.ref a)) ∧ ∀ H, SqT K H a (ks.map V.str) := by
  unfold tabOk at h
  split at h
  · rename_i c dd es n sl e
    rw [Bool.and_eq_true] at h
    have q := rowsOk_find (z := z) h.2
    have r : es.toList.any (·.refKey) = false := by simpa using h.1
    unfold PySem.W.nsIn
    rw [e]
    cases hf : formOf L z with
    | none =>
      rw [hf] at q
      dsimp only at q ⊢
      rw [q, r]
      rfl
    | some ks =>
      rw [hf] at q
      obtain ⟨en, a, q1, q2, q3⟩ := q
      dsimp only
      rw [q1]
      dsimp only
      exact ⟨a, by rw [q2], tupOk_sq q3⟩
  · cases h
/-- a dict of the module that tells the forms of a kind -/
structure FTab (K : PySem.W.Frag) (w : World) (mg : Str → Option Value) (n : Str) (L : Forms) (d : Addr) : Prop where
  g : mg n = some (.ref d)
  kd : ∃ es c, KDict K w d es c
  ok : tabOk K d L = true
/-! ### what a contract is -/
def kindsOf (kind w : Str) : Option (List Str) := if kind = "contract" then formOf ctrForms w else if kind = "condition" then formOf condForms w else formOf numForms w
def isDeep (k : Str) : Bool := decide (k = "contract") || (decide (k = "condition") || decide (k = "number"))
def isW' : PyData → Bool
  | .str x => decide (1 ≤ x.length) && (decide (x.length ≤ 8) && x.cps.toList.all fun c => decide (97 ≤ c) && decide (c ≤ 122))
  | _ => false
def inB (lo hi : Int) : PyData → Bool
  | .int i => decide (lo ≤ i) && decide (i ≤ hi)
  | _ => false
def plainOk (k : Str) (d : PyData) : Bool :=
  if k = "amount" then inB (-999999999999) 999999999999 d else if k = "wait" then inB 0 99 d else if k = "times" then inB 1 9 d else if k = "gap" then inB 1 99 d else isW' d
def sameSides : List PyData → Bool
  | .str a :: .str b :: _ => decide (a = b)
  | _ => false
def twoSides (ks : List Str) : Bool := decide (ks.take 2 = [("side" : Str), ("side" : Str)])
/-- a contract, condition or number (by its kind) of at most so many levels -/
def wf : Nat → Str → PyData → Bool
  | 0, _, _ => false
  | n + 1, kind, .tuple (.str w :: ds) => match kindsOf kind w with
    | none => false
    | some ks => decide (ks.length = ds.length) && ((List.zip ks ds).all (fun p => if isDeep p.1 = true then wf n p.1 p.2 else plainOk p.1 p.2) && !(twoSides ks && sameSides ds))
  | _ + 1, _, _ => false
theorem wf_tup {n : Nat} {kind w : Str} {ds : List PyData} : wf (n + 1) kind (.tuple (.str w :: ds)) = match kindsOf kind w with
    | none => false
    | some ks => decide (ks.length = ds.length) && ((List.zip ks ds).all (fun p => if isDeep p.1 = true then wf n p.1 p.2 else plainOk p.1 p.2) && !(twoSides ks && sameSides ds)) := rfl
theorem wf_not {n : Nat} {kind : Str} {d : PyData} (h : ∀ w ds, d ≠ .tuple (.str w :: ds)) : wf n kind d = false := by
  cases n with
  | zero => rfl
  | succ n =>
    cases d with
    | tuple ds =>
      cases ds with
      | nil => rfl
      | cons x r =>
        cases x with
        | str w => exact absurd rfl (h w r)
        | _ => rfl
    | _ => rfl
end Bk

set_option Elab.async false
set_option linter.all false
set_option maxRecDepth 100000
set_option maxHeartbeats 2000000
namespace Bk
open PySem PySem.Spec PyProof.Rows L2
/-! ### a def whose code object is known -/
structure FunC (c : Addr) (K : PySem.W.Frag) (x : Str) (st : Stmt) (f : Addr) (fd : FuncData) : Prop where
  ex : ∃ (oc : Value) (od : Option Addr) (kV doc pm : Value) (an : Option Addr) (ct : Value) (osl : Array (Option Value)),
    fd = PySem.W.fnOf x x (defArgs st) (defBody st) (defScope st) .none kV doc pm an (.ref c) ct ∧ K.lookup f = some ⟨oc, od, .func fd, osl⟩ ∧ PySem.W.codeIn K (.ref c) x = true
  kp : PySem.W.keepIn K (.ref f) = true
theorem FunC.ok {c : Addr} {P : Program} {w : World} {K : PySem.W.Frag} {mg : Str → Option Value} {base : Heap} {x : Str} {st : Stmt} {f : Addr} {fd : FuncData} {N ps : List Str} {k : Nat} {sp : Sp} (F : FunC c K x st f fd) (S : FnScope N ps (defScope st))
    (len : ∀ vs H Q E, sp vs H Q E → vs.length = ps.length)
    (hb : ∀ (A : Around) (outer : List Env) (s : Shared) (H : Hp) (vs : List V) (Q : VK) (E : XK), Room k (A.deeper (envOfC x (defScope st) s.heap.objs.size f (.ref c))) → sp vs H Q E →
      ∃ t, PSs (cxOf CX0 P w K mg base N x (defScope st) f (.ref c) A outer s H E).nox (defBody st) t ∧ t { nx := fun _ H' => Q .non H', rt := Q } (start N vs) H) : FnOk P w K mg base CX0 (k + 1) f fd ps sp := by
  obtain ⟨oc, od, kV, doc, pm, an, ct, osl, rfl, lk, hcd⟩ := F.ex
  refine fn_of lk hcd S len fun A outer s H vs Q E hr hsp => ?_
  obtain ⟨t, h, q⟩ := hb A outer s H vs Q E hr hsp
  exact ⟨t, h.nox, q⟩
structure OwnC (c : Addr) (K : PySem.W.Frag) (mg : Str → Option Value) (x : Str) (st : Stmt) (ps : List Str) (f : Addr) (fd : FuncData) : Prop where
  F : FunC c K x st f fd
  g : mg x = some (.ref f)
  b : Binds K fd ps []
theorem OwnC.has {c : Addr} {P : Program} {w : World} {K : PySem.W.Frag} {mg : Str → Option Value} {base : Heap} {x : Str} {st : Stmt} {ps : List Str} {f : Addr} {fd : FuncData} {lv : Nat} {CX : CXT} {sp : Sp} (O : OwnC c K mg x st ps f fd)
    (G : FnOk P w K mg base CX lv f fd ps sp) : Has P w K mg base x ps lv CX sp f fd := ⟨G, O.g, O.F.kp, O.b⟩
theorem OwnC.mk' {c : Addr} {K : PySem.W.Frag} {mg : Str → Option Value} {x : Str} {st : Stmt} {ps : List Str} {f : Addr} {oc : Value} {od an : Option Addr} {osl : Array (Option Value)} {kV doc pm ct : Value}
    (l : K.lookup f = some ⟨oc, od, .func (PySem.W.fnOf x x (defArgs st) (defBody st) (defScope st) .none kV doc pm an (.ref c) ct), osl⟩) (hc : PySem.W.codeIn K (.ref c) x = true) (kp : PySem.W.keepIn K (.ref f) = true) (g : mg x = some (.ref f))
    (b : Binds K (PySem.W.fnOf x x (defArgs st) (defBody st) (defScope st) .none kV doc pm an (.ref c) ct) ps []) : OwnC c K mg x st ps f (PySem.W.fnOf x x (defArgs st) (defBody st) (defScope st) .none kV doc pm an (.ref c) ct) :=
  ⟨⟨⟨oc, od, kV, doc, pm, an, ct, osl, rfl, l, hc⟩, kp⟩, g, b⟩
/-! ### the package's errors -/
structure ExcT (K : PySem.W.Frag) (mg : Str → Option Value) (x : Str) (C : Addr) : Prop where
  g : mg x = some (.ref C)
  x : PySem.W.excIn K C [.type "ValueError", .type "Exception", .type "BaseException", .type "object"] "ValueError.__new__" = true
  k : PySem.W.keepIn K (.ref C) = true
  s : PySem.W.subIn K (.ref C) (.type "BaseException") = some true
  t : PySem.W.typeIn K (.ref C) = some (.type "type")
/-- isinstance(e, c) in a suite: the reading asks of what class e is -/
def rIsX (K : PySem.W.Frag) (a : Addr) (cls : Value) (d : Option Addr) : List V → Hp → VK → Prop := fun xs H Q => ∃ D, cls = .ref D ∧ d = none ∧ ExcC K D ∧ rIsE K D a xs H Q
theorem call_isX {X : Cx} {a : Addr} {cls : Value} {d : Option Addr} {oe : Obj} {pn : List (Addr × Obj)} (hz : Zc cls d oe) (hf : ∃ vs, oe.data = .fields vs) : CallR (X.suite a ((a, oe) :: pn)) (.builtin "isinstance") (rIsX X.K a cls d) := by
  intro pins s τ G xs us W I r h
  obtain ⟨D, rfl, rfl, C, h⟩ := h
  exact call_isE C hz hf pins s τ G xs us W I r h
/-! ### a raised text -/
theorem str_app_len (a b : Str) : (a ++ b).length = a.length + b.length := by
  show (a.cps ++ b.cps).size = a.cps.size + b.cps.size
  simp
theorem five_k : (5000 : Nat) ≤ sizeLine := by decide
section
variable {σ : L2.St} {H : Hp} {R : List V → Hp → Prop} {a b x : Str} {i : Nat}
theorem fs3 (hx : σ[i]? = some (some (.str x))) (lx : x.length ≤ 1000) (la : a.length ≤ 1000) (lb : b.length ≤ 1000) (h : ∀ z, R [.str z] H) :
    tCons (fun σ H Q => tJs [tC (.str a), tFmt (tVar i), tC (.str b)] Str.empty σ H fun out H1 => Q (.str out) H1) tNil σ H R := by
  have e0 : (Str.empty : Str).length = 0 := rfl
  have z := five_k
  refine ⟨a, rfl, by rw [str_app_len]; omega, _, hx, .inl ⟨x, rfl, by omega, x, rfl, by rw [str_app_len, str_app_len]; omega, b, rfl, by rw [str_app_len, str_app_len, str_app_len]; omega, h _⟩⟩
theorem fs2 (hx : σ[i]? = some (some (.str x))) (lx : x.length ≤ 1000) (la : a.length ≤ 1000) (h : ∀ z, R [.str z] H) :
    tCons (fun σ H Q => tJs [tC (.str a), tFmt (tVar i)] Str.empty σ H fun out H1 => Q (.str out) H1) tNil σ H R := by
  have e0 : (Str.empty : Str).length = 0 := rfl
  have z := five_k
  refine ⟨a, rfl, by rw [str_app_len]; omega, _, hx, .inl ⟨x, rfl, by omega, x, rfl, by rw [str_app_len, str_app_len]; omega, h _⟩⟩
end
theorem inDeep (k : Str) : inV (.str k) [.str "contract", .str "condition", .str "number"] = isDeep k := by
  have e : ∀ a b : Str, (a == b) = decide (b = a) := fun a b => by
    by_cases c : a = b
    · subst c; simp
    · rw [decide_eq_false (fun z => c z.symm)]
      simpa using c
  simp only [inV, List.any_cons, List.any_nil, eqV, isDeep, e, Bool.or_false]
theorem cut1 (x : V) (xs : List V) : cutV (x :: xs) (some 1) none = xs := by
  have e : HT.sIx (xs.length + 1) 0 (some 1) = 1 := by
    have q := HT.sIx_nat (xs.length + 1) 0 1
    refine q.trans ?_
    omega
  unfold cutV
  rw [List.length_cons, HT.sIx_none, e]
  simp
theorem not_whole1 (x : V) (xs : List V) : ¬ (HT.sIx (x :: xs).length 0 (some 1) = 0 ∧ HT.sIx (x :: xs).length (x :: xs).length none = (x :: xs).length) := by
  rintro ⟨h, _⟩
  have e : HT.sIx (xs.length + 1) 0 (some 1) = 1 := by
    have q := HT.sIx_nat (xs.length + 1) 0 1
    refine q.trans ?_
    omega
  rw [List.length_cons, e] at h
  cases h
theorem formOf_mem {z : Str} {ks : List Str} : ∀ {L : Forms}, formOf L z = some ks → ∃ p ∈ L, p.2 = ks
  | [], h => by cases h
  | p :: s, h => by
    unfold formOf at h
    split at h
    · exact ⟨p, List.mem_cons_self, Option.some.inj h⟩
    · obtain ⟨q, hq, e⟩ := formOf_mem h
      exact ⟨q, List.mem_cons_of_mem _ hq, e⟩
def allKinds : List (List Str) := (ctrForms ++ condForms ++ numForms).map (·.2)
theorem kinds_mem {kind z : Str} {ks : List Str} (h : kindsOf kind z = some ks) : ks ∈ allKinds := by
  unfold kindsOf at h
  unfold allKinds
  rw [List.mem_map]
  split at h
  · obtain ⟨p, hp, e⟩ := formOf_mem h
    exact ⟨p, List.mem_append_left _ (List.mem_append_left _ hp), e⟩
  · split at h
    · obtain ⟨p, hp, e⟩ := formOf_mem h
      exact ⟨p, List.mem_append_left _ (List.mem_append_right _ hp), e⟩
    · obtain ⟨p, hp, e⟩ := formOf_mem h
      exact ⟨p, List.mem_append_right _ hp, e⟩
theorem kinds_short : ∀ ks ∈ allKinds, ∀ k ∈ ks, k.length ≤ 100 := by decide +kernel
theorem kinds_two : ∀ ks ∈ allKinds, twoSides ks = true → ∃ s, ks = ("side" : Str) :: ("side" : Str) :: s := by
  intro ks h e
  unfold twoSides at e
  have e := of_decide_eq_true e
  cases ks with
  | nil => cases e
  | cons x r =>
    cases r with
    | nil => cases e
    | cons y s =>
      injection e with e1 e2
      injection e2 with e2 e3
      exact ⟨s, by rw [e1, e2]⟩
/-- the parts, so far -/
def partOk (n : Nat) (p : Str × PyData) : Bool := if isDeep p.1 = true then wf n p.1 p.2 else plainOk p.1 p.2
theorem zip_at {ks : List Str} {ds : List PyData} {i : Nat} {k : Str} {d : PyData} (h1 : ks[i]? = some k) (h2 : ds[i]? = some d) : (List.zip ks ds)[i]? = some (k, d) := by
  rw [List.getElem?_zip_eq_some]
  exact ⟨h1, h2⟩
theorem all_not {α : Type} {f : α → Bool} {l : List α} {i : Nat} {x : α} (h : l[i]? = some x) (e : f x = false) : l.all f = false := by
  rw [Bool.eq_false_iff]
  intro z
  have := List.all_eq_true.mp z x (List.mem_of_getElem? h)
  rw [e] at this
  cases this
theorem take_all {α : Type} {f : α → Bool} {l : List α} {i : Nat} {x : α} (h : l[i]? = some x) (e : f x = true) (q : (l.take i).all f = true) : (l.take (i + 1)).all f = true := by
  have hi : i < l.length := (List.getElem?_eq_some_iff.mp h).1
  have hx : l[i] = x := (List.getElem?_eq_some_iff.mp h).2
  rw [List.take_succ_eq_append_getElem hi, List.all_append, q, hx]
  simp [e]
theorem g_zipA {K : PySem.W.Frag} {ta : TA} {σ : L2.St} {H : Hp} {R : It → Hp → Prop} (h : ta σ H fun vs H1 => ∃ a b xs ys, vs = [.ref a, .ref b] ∧ ((SqL K H1 a xs ∧ SqL K H1 b ys ∧ R (Itz K a b) H1) ∨ (SqT K H1 a xs ∧ SqT K H1 b ys ∧ R (RZ.ItzT K a b) H1))) : RZ.iZipA K ta σ H R := h
theorem wf_tup' {n : Nat} {kind w : Str} {ds : List PyData} : wf (n + 1) kind (.tuple (.str w :: ds)) = match kindsOf kind w with
    | none => false
    | some ks => decide (ks.length = ds.length) && ((List.zip ks ds).all (partOk n) && !(twoSides ks && sameSides ds)) := rfl
theorem two_shaped : ∀ ks ∈ allKinds, SeqAt.shaped (.tuple ((ks.take 2).map PyData.str)) = true := by decide +kernel
theorem two_eqv : ∀ ks ∈ allKinds, PyData.eqv (.tuple ((ks.take 2).map PyData.str)) (.tuple [.str "side", .str "side"]) = twoSides ks := by decide +kernel
theorem dpStrs {K : PySem.W.Frag} {H : Hp} : ∀ ks : List Str, DpAll K H (ks.map V.str) (ks.map PyData.str)
  | [] => .nil
  | k :: ks => .cons (.str k) (dpStrs ks)
theorem word_str {m : Nat} {d : PyData} (h : partOk m ("side", d) = true) : ∃ x, d = .str x := by
  have e : partOk m ("side", d) = isW' d := by
    have e1 : isDeep "side" = false := by decide +kernel
    unfold partOk
    rw [if_neg (by rw [e1]; exact Bool.false_ne_true)]
    show plainOk "side" d = isW' d
    have e1 : ¬ ("side" : Str) = "amount" := by decide +kernel
    have e2 : ¬ ("side" : Str) = "wait" := by decide +kernel
    have e3 : ¬ ("side" : Str) = "times" := by decide +kernel
    have e4 : ¬ ("side" : Str) = "gap" := by decide +kernel
    unfold plainOk
    rw [if_neg e1, if_neg e2, if_neg e3, if_neg e4]
  rw [e] at h
  cases d with
  | str x => exact ⟨x, rfl⟩
  | _ => cases h
end Bk

set_option Elab.async false
set_option linter.all false
set_option maxRecDepth 100000
set_option maxHeartbeats 2000000
namespace Bk
open PySem PySem.Spec PyProof.Rows L2
/-! ### what displays evaluate to -/
abbrev Env4 := Nat → Option PyData
def SlotsOk (K : PySem.W.Frag) (Γ : Env4) (σ : L2.St) (H : Hp) : Prop := ∀ i d, Γ i = some d → ∃ v, σ[i]? = some (some v) ∧ Dp K H v d
theorem SlotsOk.same {K : PySem.W.Frag} {Γ : Env4} {σ : L2.St} {H H' : Hp} (s : SlotsOk K Γ σ H) (e : Same H H') : SlotsOk K Γ σ H' := fun i d h => by
  obtain ⟨v, h1, h2⟩ := s i d h
  exact ⟨v, h1, Dp.dm (.of e) h2⟩
def EvD (K : PySem.W.Frag) (Γ : Env4) (t : TE) (d : PyData) : Prop := ∀ (σ : L2.St) (H : Hp) (Q : VK), SlotsOk K Γ σ H → (∀ v H', Same H H' → Dp K H' v d → Q v H') → t σ H Q
def EvA (K : PySem.W.Frag) (Γ : Env4) (t : TA) (ds : List PyData) : Prop := ∀ (σ : L2.St) (H : Hp) (Q : List V → Hp → Prop), SlotsOk K Γ σ H → (∀ vs H', Same H H' → DpAll K H' vs ds → Q vs H') → t σ H Q
section
variable {K : PySem.W.Frag} {Γ : Env4}
theorem evd_str (x : Str) : EvD K Γ (tC (.str x)) (.str x) := fun σ H Q _ q => q _ _ (Same.refl H) (.str x)
theorem evd_int (x : Int) : EvD K Γ (tC (.int x)) (.int x) := fun σ H Q _ q => q _ _ (Same.refl H) (.int x)
theorem evd_bl (x : Bool) : EvD K Γ (tC (.bl x)) (.bool x) := fun σ H Q _ q => q _ _ (Same.refl H) (.bl x)
theorem evd_non : EvD K Γ (tC .non) .none := fun σ H Q _ q => q _ _ (Same.refl H) .non
theorem evd_var {i : Nat} {d : PyData} (h : Γ i = some d) : EvD K Γ (tVar i) d := fun σ H Q s q => by
  obtain ⟨v, h1, h2⟩ := s i d h
  exact ⟨v, h1, q _ _ (Same.refl H) h2⟩
theorem eva_nil : EvA K Γ tNil [] := fun σ H Q _ q => q _ _ (Same.refl H) .nil
theorem eva_cons {t : TE} {r : TA} {d : PyData} {ds : List PyData} (h : EvD K Γ t d) (hr : EvA K Γ r ds) : EvA K Γ (tCons t r) (d :: ds) := fun σ H Q s q =>
  h σ H _ s fun v H1 e1 d1 => hr σ H1 _ (s.same e1) fun vs H2 e2 d2 => q _ _ (e1.trans e2) (.cons (Dp.dm (.of e2) d1) d2)
theorem evd_tup {t : TA} {ds : List PyData} (h : EvA K Γ t ds) (hl : ds.length ≤ 1000) : EvD K Γ (tTup t) (.tuple ds) := fun σ H Q s q =>
  h σ H _ s fun vs H1 e1 d1 => ⟨sz (by rw [DpAll.len d1]; exact hl), fun p np => q _ _ (e1.trans (same_new np)) (.tup (sqt upd_same) (DpAll.dm (.of (same_new np)) d1))⟩
theorem evd_lst {t : TA} {ds : List PyData} (h : EvA K Γ t ds) (hl : ds.length ≤ 1000) : EvD K Γ (tLst t) (.list ds) := fun σ H Q s q =>
  h σ H _ s fun vs H1 e1 d1 => ⟨sz (by rw [DpAll.len d1]; exact hl), fun p np => q _ _ (e1.trans (same_new np)) (.lst (sql upd_same) (DpAll.dm (.of (same_new np)) d1))⟩
theorem evd_I0 {f : Int → Int → Int} {ta tb : TE} {i j : Int} (ha : EvD K Γ ta (.int i)) (hb : EvD K Γ tb (.int j)) : EvD K Γ (tOp (rI0 fun i j => .int (f i j)) ta tb) (.int (f i j)) := fun σ H Q s q =>
  ha σ H _ s fun v H1 e1 d1 => hb σ H1 _ (s.same e1) fun u H2 e2 d2 => by
    cases d1
    cases d2
    exact ⟨i, j, rfl, rfl, q _ _ (e1.trans e2) (.int _)⟩
theorem evd_I {C : Int → Int → Prop} {f : Int → Int → Int} {ta tb : TE} {i j : Int} (ha : EvD K Γ ta (.int i)) (hb : EvD K Γ tb (.int j)) (hc : C i j) : EvD K Γ (tOp (rI C fun i j => .int (f i j)) ta tb) (.int (f i j)) := fun σ H Q s q =>
  ha σ H _ s fun v H1 e1 d1 => hb σ H1 _ (s.same e1) fun u H2 e2 d2 => by
    cases d1
    cases d2
    exact ⟨i, j, rfl, rfl, hc, q _ _ (e1.trans e2) (.int _)⟩
theorem evd_neg {f : Int → Int} {ta : TE} {i : Int} (ha : EvD K Γ ta (.int i)) : EvD K Γ (tUn (rU fun i => .int (f i)) ta) (.int (f i)) := fun σ H Q s q =>
  ha σ H _ s fun v H1 e1 d1 => by
    cases d1
    exact ⟨i, rfl, q _ _ e1 (.int _)⟩
/-- a list that is laid anew -/
theorem ev_lst {t : TA} {ds : List PyData} {σ : L2.St} {H : Hp} {Q : VK} (h : EvA K Γ t ds) (hl : ds.length ≤ 1000) (s : SlotsOk K Γ σ H) (q : ∀ p xs H1, Same H H1 → H1 p = none → DpAll K H1 xs ds → Q (.ref p) (upd H1 p (.lst xs))) : tLst t σ H Q :=
  h σ H _ s fun vs H1 e1 d1 => ⟨sz (by rw [DpAll.len d1]; exact hl), fun p np => q p vs H1 e1 np d1⟩
end
/-! ### fewer levels tell no more -/
theorem wf_more : ∀ {n m : Nat} {kind : Str} {d : PyData}, n ≤ m → wf n kind d = true → wf m kind d = true
  | 0, _, _, _, _, h => by cases h
  | n + 1, 0, _, _, hl, _ => by omega
  | n + 1, m + 1, kind, d, hl, h => by
    have hl : n ≤ m := by omega
    cases d with
    | tuple ds =>
      cases ds with
      | nil => cases h
      | cons x r =>
        cases x with
        | str w =>
          rw [wf_tup'] at h ⊢
          split at h
          · cases h
          · rename_i ks hk
            rw [Bool.and_eq_true, Bool.and_eq_true] at h ⊢
            refine ⟨h.1, ?_, h.2.2⟩
            rw [List.all_eq_true] at *
            intro p hp
            have z := h.2.1 p hp
            unfold partOk at z ⊢
            split
            · rename_i c
              rw [if_pos c] at z
              exact wf_more hl z
            · rename_i c
              rw [if_neg c] at z
              exact z
        | _ => cases h
    | _ => cases h
theorem wf_fewer {n m : Nat} {kind : Str} {d : PyData} (hl : n ≤ m) (h : wf m kind d = false) : wf n kind d = false := by
  cases e : wf n kind d with
  | false => rfl
  | true =>
    rw [wf_more hl e] at h
    cases h
theorem g_callS {sp : Sp} {E : L2.St → XK} {t : TA} {σ : L2.St} {H : Hp} {Q : VK} (h : t σ H fun vs H1 => sp vs H1 Q (E σ)) : tCallS sp E t σ H Q := h
/-- what the classes of the errors are to one another, C being raised -/
structure Errs (K : PySem.W.Frag) (B C M X T : Addr) : Prop where
  exm : PySem.W.exmOne K (.ref C) (.ref B) = some true
  ec : ExcC K C
  iM : PySem.W.kitOne K (.ref C) (.ref M) = some false
  iX : PySem.W.kitOne K (.ref C) (.ref X) = some false
  iT : PySem.W.kitOne K (.ref C) (.ref T) = some false
  iC : PySem.W.kitOne K (.ref C) (.ref C) = some true
  iV : PySem.W.kitOne K (.ref C) (.type "ValueError") = some true
theorem use_isX {K : PySem.W.Frag} {a D : Addr} {c : V} {cv : Value} {b : Bool} {H : Hp} {Q : VK} (ec : ExcC K D) (hc : ∀ u, RelV c u → u = cv) (h : PySem.W.kitOne K (.ref D) cv = some b) (q : Q (.bl b) H) : rIsX K a (.ref D) none [.ref a, c] H Q :=
  ⟨D, rfl, rfl, ec, c, cv, b, rfl, hc, h, q⟩
end Bk

set_option Elab.async false
set_option linter.all false
set_option maxRecDepth 100000
set_option maxHeartbeats 2000000
namespace Bk
open PySem PySem.Spec PyProof.Rows L2
/-! ### the end: a law over a package with tables of code objects -/
/-- what the top tells of a def's table -/
def TabsOf (q : Program) (K : PySem.W.Frag) (h : Heap) : Prop := ∀ (x : Str) (c P : Addr), ((recsOf q).find? (fun e => e.name == x)).isSome = true → PySem.W.tabIn K x = some (c, P) → PySem.W.CodeHd h c P ∧ h.get? P = some (PySem.W.tabObj #[])
theorem walk_tabs {l : PySem.W.OpenLaw} {n k : Nat} {q : Program} {loose : List Str} {XP : (Str → Option Value) → Heap → Prop} {YP : World → Heap → Prop} {d : DefRec} {K : Params → PySem.W.Frag} {CX : World → CXT} {x : Str}
    (hn : l.most = some n) (hn2 : n ≤ sizeLine) (hdf : d.params.defaults = []) (hr : Room k callerA) (hY : ∀ (w : World) (h : Heap), YP w h → (K w.params).In h)
    (F : ∀ (w : World) (mg : Str → Option Value) (fa : Addr) (h : Heap), (K w.params).In h → h.Ns mainGlobals mg → mg d.name = some (.ref fa) → TabsOf q (K w.params) h → LamX.LawAtS l w (K w.params) (CX w) k n x mg fa h)
    (hCX : ∀ (w : World) (H : Hp) (s : Shared) (e : Value) (s' : Shared), CX w [] H s (fun _ _ _ => False) e s' → False) :
    PySem.W.WalkO q loose XP YP l.row.toRowW d [] (fun f vs => PySem.call f vs) :=
  Att.attach_callB hn hdf fun w u u1 mg mb fa ob pm cd doc a vs ns gr yp hob hda hco hmg hls hin hlen hbits hge => by
    have kin := hY w _ yp
    obtain ⟨fd, cs, sp, c1, c2, c3, c4, c5, c6⟩ := F w mg fa _ kin gr.T.g hmg fun z c P hs ht => by
      obtain ⟨e, he⟩ := Option.isSome_iff_exists.mp hs
      exact PySem.W.tab_of gr.T kin he ht
    exact LamX.law_callTs kin gr.T.g gr.T.b gr.T.builtins gr.T.nolimit hge c1 c2 c3 gr.T.bmain hls hin (Nat.le_trans hlen hn2) hr c6 c4 (fun G g1 g2 => c5 G a ns hlen hbits g1 g2) fun G e u2 => hCX w G u1 e u2
theorem tabIn_of {K : PySem.W.Frag} {x : Str} {f c P : Addr} {oc oc2 : Value} {od od2 : Option Addr} {sl sl2 : Array (Option Value)} {fd : FuncData} {vs : Array Value} (a : PySem.W.nsIn K mainGlobals x = some (some (.ref f))) (l : K.lookup f = some ⟨oc, od, .func fd, sl⟩)
    (hc : fd.code = .ref c) (cc : K.lookup c = some ⟨oc2, od2, .fields vs, sl2⟩) (v : (vs[11]? : Option Value) = some (.ref P)) : PySem.W.tabIn K x = some (c, P) := by
  unfold PySem.W.tabIn
  rw [a]
  dsimp only
  rw [l]
  dsimp only
  rw [hc]
  dsimp only
  rw [cc]
  dsimp only
  rw [v]
theorem FTab.of {K : PySem.W.Frag} {w : World} {mg : Str → Option Value} {n : Str} {L : Forms} {d : Addr} (g : mg n = some (.ref d)) (k : He.dicW K d = some (He.keysIn w.params (L.map (·.1)))) (ok : tabOk K d L = true) : FTab K w mg n L d := ⟨g, He.dicW_ok k, ok⟩
end Bk

set_option Elab.async false
set_option linter.all false
set_option maxRecDepth 100000
/-! len(set(xs)), xs a list of texts or of whole numbers, alike ones among them. -/
namespace BkS
open PySem PySem.Spec PyProof.Rows

section
variable {K : Type} [DecidableEq K]
/-- the unlike ones, each where it is first met, behind these -/
def metA : List K → List K → List K
  | ys, [] => ys
  | ys, x :: xs => metA (if x ∈ ys then ys else ys ++ [x]) xs
def met (xs : List K) : List K := metA [] xs
theorem metA_snoc : ∀ (xs ys : List K) (x : K), metA ys (xs ++ [x]) = if x ∈ metA ys xs then metA ys xs else metA ys xs ++ [x]
  | [], _, _ => rfl
  | _ :: xs, _, x => metA_snoc xs _ x
theorem mem_metA : ∀ (xs ys : List K) (y : K), y ∈ metA ys xs ↔ y ∈ ys ∨ y ∈ xs
  | [], ys, y => by simp [metA]
  | x :: xs, ys, y => by
    show y ∈ metA _ xs ↔ _
    rw [mem_metA xs _ y]
    by_cases h : x ∈ ys
    · rw [if_pos h, List.mem_cons]
      exact ⟨fun q => q.elim .inl fun z => .inr (.inr z), fun q => q.elim .inl fun z => z.elim (fun e => .inl (e ▸ h)) .inr⟩
    · rw [if_neg h]
      simp [or_assoc]
theorem metA_le : ∀ (xs ys : List K), (metA ys xs).length ≤ ys.length + xs.length
  | [], ys => Nat.le_refl _
  | x :: xs, ys => by
    have h := metA_le xs (if x ∈ ys then ys else ys ++ [x])
    show (metA _ xs).length ≤ _
    split at h <;> simp at h ⊢ <;> split <;> simp_all <;> omega
theorem met_mem (xs : List K) (y : K) : y ∈ met xs ↔ y ∈ xs := by
  rw [met, mem_metA]; simp
theorem met_le (xs : List K) : (met xs).length ≤ xs.length := by
  have h := metA_le xs []
  simpa [met] using h
theorem met_snoc (xs : List K) (x : K) : met (xs ++ [x]) = if x ∈ xs then met xs else met xs ++ [x] := by
  unfold met
  rw [metA_snoc]
  by_cases h : x ∈ xs
  · rw [if_pos h]; exact if_pos ((met_mem xs x).mpr h)
  · rw [if_neg h]; exact if_neg fun z => h ((met_mem xs x).mp z)
theorem metA_eq : ∀ (xs ys : List K), (ys ++ xs).Nodup → metA ys xs = ys ++ xs
  | [], ys, _ => by simp [metA]
  | x :: xs, ys, h => by
    have hx : x ∉ ys := fun z => (List.pairwise_append.mp h).2.2 x z x (by simp) rfl
    show metA _ xs = _
    rw [if_neg hx, metA_eq xs (ys ++ [x]) (by simpa using h)]
    simp
theorem metA_lt : ∀ (xs ys : List K), ys.Nodup → ¬ (ys ++ xs).Nodup → (metA ys xs).length < ys.length + xs.length
  | [], ys, h, n => absurd (by simpa using h) n
  | x :: xs, ys, h, n => by
    show (metA _ xs).length < _
    by_cases hx : x ∈ ys
    · rw [if_pos hx]
      have := metA_le xs ys
      simp; omega
    · rw [if_neg hx]
      have z := metA_lt xs (ys ++ [x]) (List.pairwise_append.mpr ⟨h, by simp, fun a ha b hb => by simp at hb; subst hb; exact fun e => hx (e ▸ ha)⟩) (by simpa using n)
      simp at z ⊢
      omega
theorem met_eq {xs : List K} (h : xs.Nodup) : (met xs).length = xs.length := by rw [met, metA_eq xs [] (by simpa using h)]; simp
theorem met_lt {xs : List K} (h : ¬ xs.Nodup) : (met xs).length < xs.length := by
  have z := metA_lt xs [] (by simp) (by simpa using h)
  simpa [met] using z
end

section
variable {prog : Program} {w : World} {K : Type} [DecidableEq K] {knd : KeyKind prog w K}
theorem setOf_to {h : Heap} {a : Addr} {S S' : K → Bool} {n n' : Nat} (hS : h.SetOf knd a S n) (e : ∀ k, S k = S' k) (en : n = n') : h.SetOf knd a S' n' := by
  have : S = S' := funext e
  subst this; subst en; exact hS
variable {A : Around} {R : Result → Shared → Prop} {I : Addr} {fp wr : List Addr} {G : Array GenState → Array GenState → Prop} {n : Nat} {P : Nat → Value → Prop} {St : Nat → Shared → Prop}
/-- the set takes the iterator's items, one by one -/
theorem taken_all (W : WalksS prog w A.in1 I fp wr G n P St) (S : Addr) (hSf : S ∉ fp) (xs : List K) (hn : xs.length = n) (hb : n + 1 < scanBound)
    (hv : ∀ i v, P i v → ∃ k, xs[i]? = some k ∧ knd.is k v = true ∧ v.scannable = true) :
    ∀ (k i : Nat) (s : Shared), n - i = k → i ≤ n → St i s → s.heap.SetOf knd S (fun k => decide (k ∈ xs.take i)) (met (xs.take i)).length →
      (∀ s', Moved (S :: wr) G s s' → s'.heap.SetOf knd S (fun k => decide (k ∈ xs)) (met xs).length → R (.ok (.ret .none)) s') →
      codeAny (model prog w) A (.builtin "set.update.loop" ⟨[.ref S, .ref I], []⟩) R s := by
  have hSw : S ∉ wr := fun h => hSf (W.sub _ h)
  have up : ∀ b ∈ wr, b ∈ S :: wr := fun b hb => List.mem_cons_of_mem _ hb
  intro k
  induction k with
  | zero =>
    intro i s hk hi hst hS hq
    obtain rfl : i = n := by omega
    refine codeAny_builtin PyProof.Rows.F.entry_set_update_loop ?_
    rw [Around.under_plainId PyProof.Rows.F.plain_set_update_loop _]
    show wpAny _ A.in1 (pyNext (.ref I) >>= _) _ _ s
    refine wpAny_bind (W.done s _ _ hst fun s' hm => ?_)
    show wpAny _ A.in1 (ret Value.none) _ _ s'
    refine wpAny_pure (hq s' (hm.mono up) ?_)
    rw [← hn, List.take_length] at hS
    obtain ⟨o, es, ep, t, ho, z⟩ := hS
    exact ⟨o, es, ep, t, hm.heap S _ hSw ho, z⟩
  | succ k ih =>
    intro i s hk hi hst hS hq
    have hlt : i < n := by omega
    refine codeAny_builtin PyProof.Rows.F.entry_set_update_loop ?_
    rw [Around.under_plainId PyProof.Rows.F.plain_set_update_loop _]
    show wpAny _ A.in1 (pyNext (.ref I) >>= _) _ _ s
    refine wpAny_bind (W.item i s _ _ hlt hst fun v s' hP hst' hm => ?_)
    obtain ⟨x, ex, hx, hs⟩ := hv i v hP
    have et : xs.take (i + 1) = xs.take i ++ [x] := by rw [List.take_add_one, ex]; rfl
    have hS' : s'.heap.SetOf knd S (fun k => decide (k ∈ xs.take i)) (met (xs.take i)).length := by
      obtain ⟨o, es, ep, t, ho, z⟩ := hS
      exact ⟨o, es, ep, t, hm.heap S _ hSw ho, z⟩
    show wpAny _ A.in1 (holding [v] (setAdd S v) >>= _) _ _ s'
    refine wpAny_bind (wpAny_holding ?_)
    unfold setAdd
    refine wpAny_holding ?_
    refine wpAny_bind (knd.pyHash (k := x) hx ?_)
    have room : (met (xs.take i)).length + 1 < scanBound := by
      have h1 := met_le (xs.take i)
      have h2 : (xs.take i).length ≤ i := by rw [List.length_take]; omega
      omega
    refine wpAny_setAddHashed_of (knd := knd) (s := { s' with toks := s'.toks + 1 }) hx hs hS' room fun h' hsb hS2 => ?_
    have hSi : h'.SetOf knd S (fun k => decide (k ∈ xs.take (i + 1))) (met (xs.take (i + 1))).length := by
      refine setOf_to hS2 (fun k' => ?_) ?_
      · rw [et]; simp
      · rw [et, met_snoc]
        by_cases h : x ∈ xs.take i
        · rw [if_pos (by simpa using h), if_pos h]
        · rw [if_neg (by simpa using h), if_neg h]; simp
    refine wpAny_pure ⟨plainId_quiet PyProof.Rows.F.plain_set_update_loop _, ih (i + 1) _ (by omega) hlt (W.frame _ s' _ _ hst' (Nat.le_succ _) fun b hb o e => ?_) hSi fun s'' hm'' hS'' => ?_⟩
    · rw [hsb.2 b (fun h : b = S => hSf (by rw [← h]; exact hb))]; exact e
    · refine hq s'' (Moved.trans W.gtrans ((hm.mono up).then_heap (Nat.le_succ _) fun b o hb e => ?_) hm'') hS''
      rw [hsb.2 b (fun h : b = S => hb (by rw [h]; exact List.mem_cons_self))]; exact e
end

section
variable {prog : Program} {w : World} {A : Around} {E : Value → Shared → Prop} {s : Shared} {K : Type} [DecidableEq K] {knd : KeyKind prog w K}
set_option maxHeartbeats 3200000 in
/-- set(l) of a list whose items tell these keys -/
theorem call_set_keys {l : Addr} {items : Array Value} {xs : List K} {Q : Value → Shared → Prop} (hh : A.handled = none) (hl : s.heap.IsList l items) (hn : xs.length = items.size)
    (hv : ∀ (i : Nat) v, items[i]? = some v → ∃ k, xs[i]? = some k ∧ knd.is k v = true ∧ v.scannable = true) (hb : items.size + 1 < scanBound)
    (h : ∀ (h' : Heap) (tk : Nat), h'.SetOf knd s.heap.objs.size (fun k => decide (k ∈ xs)) (met xs).length → (∀ b o, b < s.heap.objs.size → s.heap.get? b = some o → h'.get? b = some o) →
      Q (.ref s.heap.objs.size) { s with heap := h', toks := tk }) :
    wpAny (model prog w) A (call (.type "set") [.ref l]) Q E s := by
  have hc := PySem.F.called_set
  obtain ⟨_, _, hmro⟩ := hc.mro
  have hmade := hc.made
  have hsub := hc.sub
  have h1 := hc.notType
  have h2 := hc.canCreate
  have h3 := PySem.F.typeCall_set_1 (.ref l)
  refine wpAny_call (codeAny_of_tree ?_)
  show wpAny _ _ (callAny (.type "set") _) _ _ _
  refine wpAny_pure ⟨Code.quiet_builtin _ (by decide +kernel), codeAny_builtin PySem.F.entry_type_call ?_⟩
  rw [Around.under_plain (weight_type_call_type "set" [.ref l] []) rfl]
  repeat (any_goals (first | assumption | wp_step))
  let ob : Bool → Obj := fun led => { cls := .type "set", dict := none, data := .set #[] 0 (.fresh 0 0 led) }
  refine codeAny_mono (code_set_new_1 (.ref l) (E := E) (Q₁ := fun v t => ∃ led : Bool, v = .ref s.heap.objs.size ∧ t = { s with heap := s.heap.push (ob led) }) fun led => ⟨led, rfl, rfl⟩) fun r t hr => ?_
  rcases r with e | fl
  · exact hr
  cases fl with
  | ret v =>
    obtain ⟨led, rfl, rfl⟩ := hr
    have hS : (s.heap.push (ob led)).get? s.heap.objs.size = some (ob led) := Heap.get?_push_size _ rfl
    have hT : Shared.TypeIs { s with heap := s.heap.push (ob led) } (.ref s.heap.objs.size) "set" := ⟨_, hS, rfl⟩
    have hli := hc.init.lookup
    have hbi := hc.init.bind (.ref s.heap.objs.size)
    repeat (any_goals (first | assumption | wp_step))
    let After : Value → Shared → Prop := fun r t => r = .none ∧ ∃ h' tk, t = { s with heap := h', toks := tk } ∧ h'.SetOf knd s.heap.objs.size (fun k => decide (k ∈ xs)) (met xs).length ∧
      (∀ b o, b < s.heap.objs.size → s.heap.get? b = some o → h'.get? b = some o)
    refine codeAny_mono (codeAny_call_builtin (R := wants After E) hc.init.plain PySem.F.entry_set_init (check_set_init_1 hT ?_)) fun r t hr => ?_
    · obtain ⟨⟨oc, od, ot, os⟩, hol, hcl, nl, hdl⟩ := hl
      obtain rfl : oc = _ := hcl
      obtain rfl : ot = _ := hdl
      have hol2 : (s.heap.push (ob led)).get? l = _ := Heap.get?_push_of_some _ hol
      have hl1 : (s.heap.push (ob led)).IsList l items := ⟨_, hol2, rfl, nl, rfl⟩
      have hs1 := PySem.F.sub_list_set
      have hs2 := PySem.F.sub_list_frozenset
      have hne : (Value.type "list" == Value.type "dict") = false := by decide
      have hlS : l < s.heap.objs.size := Heap.lt_size hol
      have h5 : A.in1.in1.in1.handled = none := by simp [hh]
      have z1 : (s.heap.push (ob led)).objs.size = s.heap.objs.size + 1 := Heap.size_push _ _
      have hI : l ≠ (s.heap.push (ob led)).objs.size := by rw [z1]; exact Nat.ne_of_lt (Nat.lt_succ_of_lt hlS)
      have hSf : s.heap.objs.size ∉ [(s.heap.push (ob led)).objs.size, l] := by
        rw [z1]; simp only [List.mem_cons, List.not_mem_nil, or_false, not_or]
        exact ⟨Nat.ne_of_lt (Nat.lt_succ_self _), Nat.ne_of_gt hlS⟩
      unfold Builtin.«set.__init__» noKeywords Builtin.Frozenset.updateFrom
      generalize hPI : pyIter = PI
      wp_walk
      subst hPI
      refine wpAny_pyIter_list hl1 ?_
      refine wpAny_bind (wpAny_runValue ?_)
      refine taken_all ((Walks.list h5 _ l hI items).toS) s.heap.objs.size hSf xs hn hb (fun i v hp => hv i v hp) (items.size - 0) 0 _ (by omega) (Nat.zero_le _) ⟨⟨_, Heap.get?_push_size _ rfl, rfl, rfl⟩, (hl1.push _)⟩ ?hS0 ?hR
      case hS0 =>
        have hget : ((s.heap.push (ob led)).push { cls := .type "list_iterator", data := .fields #[.ref l, .int 0 0] }).get? s.heap.objs.size = some (ob led) := Heap.get?_push_of_some _ hS
        exact setOf_to ((PyProof.Rows.setObjOf_fresh (knd := knd) led).setOf hget (by unfold scanBound; omega)) (fun _ => by simp) rfl
      case hR =>
        intro t hm hS'
        obtain ⟨h', g', d', tk', os'⟩ := t
        obtain rfl : g' = s.gens := hm.gens
        obtain rfl : d' = s.drawn := hm.drawn
        obtain rfl : os' = s.os := hm.os
        show wpAny _ _ _ _ _ _
        refine wpAny_pure ?_
        show wpAny _ _ (ret Value.none) _ _ _
        refine wpAny_pure ⟨rfl, h', tk', rfl, hS', fun b o hb e => hm.heap b o ?_ (Heap.get?_push_of_some _ (Heap.get?_push_of_some _ e))⟩
        simp only [List.mem_cons, List.not_mem_nil, or_false, not_or]
        exact ⟨Nat.ne_of_lt hb, by rw [z1]; exact Nat.ne_of_lt (Nat.lt_succ_of_lt hb)⟩
    · rcases r with e | fl
      · exact hr
      cases fl with
      | ret r =>
        obtain ⟨rfl, h', tk, rfl, hS', hk'⟩ := hr
        repeat (any_goals (first | assumption | wp_step))
        exact h _ _ hS' hk'
      | _ => exact hr.elim
  | _ => exact hr.elim
end

section
open L2
theorem strs_of : ∀ {ys : List Str} {us : List Value}, Vals (ys.map V.str) us → ∀ (i : Nat) v, us[i]? = some v → ∃ x t, ys[i]? = some x ∧ v = .str x t
  | [], _, .nil, i, v, h => by simp at h
  | y :: ys, _, .cons r t, 0, v, h => by
    obtain ⟨k, rfl⟩ := r
    simp at h
    exact ⟨y, k, rfl, h.symm⟩
  | y :: ys, _, .cons r t, i + 1, v, h => strs_of t i v (by simpa using h)
theorem ints_of : ∀ {ys : List Int} {us : List Value}, Vals (ys.map V.int) us → ∀ (i : Nat) v, us[i]? = some v → ∃ x t, ys[i]? = some x ∧ v = .int x t
  | [], _, .nil, i, v, h => by simp at h
  | y :: ys, _, .cons r t, 0, v, h => by
    obtain ⟨k, rfl⟩ := r
    simp at h
    exact ⟨y, k, rfl, h.symm⟩
  | y :: ys, _, .cons r t, i + 1, v, h => ints_of t i v (by simpa using h)
/-- how many unlike ones there are: all, or fewer -/
def Unlike {K : Type} (xs : List K) (Q : V → Prop) : Prop := ∀ m : Nat, (xs.Nodup → m = xs.length) → (¬ xs.Nodup → m < xs.length) → Q (.int (m : Nat))
def tLenU (K : PySem.W.Frag) (ta : TE) : TE := fun σ H Q => ta σ H fun x H1 => ∃ l, x = .ref l ∧
  ((∃ ns : List Int, SqL K H1 l (ns.map V.int) ∧ ns.length ≤ 4000 ∧ Unlike ns fun v => Q v H1) ∨ (∃ xs : List Str, SqL K H1 l (xs.map V.str) ∧ xs.length ≤ 4000 ∧ Unlike xs fun v => Q v H1))
theorem pe_lenU {X : Cx} {a : Expr} {ta : TE} {p p2 q pos : Pos} (hc : X.calm = true) (hg : Gl X "len") (hm : X.mg "len" = none) (hg2 : Gl X "set") (hm2 : X.mg "set" = none) (ha : PE X a ta)
    (na : starEach [a] X.env = (false, eval a X.env) :: starEach [] X.env := by rfl) : PE X (.Call (.Name "len" p) [.Call (.Name "set" p2) [a] [] q] [] pos) (tLenU X.K ta) := by
  refine ⟨fun pins s σ H Q I h => ?_⟩
  refine Call_ (ld_blt I hg hm PySem.boot_len ?_)
  refine PyProof.Rows.callWith_builtin1 (PyProof.Rows.args_cons ?_ rfl) rfl rfl
  refine Call_ (ld_blt I hg2 hm2 PyProof.Rows.boot_set ?_)
  refine PyProof.Rows.callWith_type1 (PyProof.Rows.args_cons (thn (ha.run pins s σ H _ I h) fun v s1 ⟨x, H1, I1, r1, q1⟩ => PyProof.Rows.args_nil ?_) na) na rfl
  obtain ⟨l, rfl, q1⟩ := q1
  cases r1
  have fin : ∀ {K : Type} [DecidableEq K] {knd : KeyKind X.prog X.w K} {xs : List K}, xs.length ≤ 4000 → Unlike xs (fun v => Q v H1) → ∀ (h' : Heap) (tk : Nat),
      h'.SetOf knd s1.heap.objs.size (fun k => decide (k ∈ xs)) (met xs).length → (∀ b o, b < s1.heap.objs.size → s1.heap.get? b = some o → h'.get? b = some o) →
      wpAny (model X.prog X.w) X.A (spliced (backTo pos (starEach [] X.env))) (fun vs s₂ => wpAny (model X.prog X.w) X.A (call (.builtin "len") (Value.ref s1.heap.objs.size :: vs)) (EP X pins σ Q) X.xe s₂) X.xe { s1 with heap := h', toks := tk } := fun {K} _ {knd xs} hl q h' tk hS hk => by
    refine PyProof.Rows.args_nil ?_
    have hle := met_le xs
    obtain ⟨o, es, ep, t, ho, hex, hd, _, _, _, hf, hn⟩ := hS
    have I2 : Inv X pins σ H1 { s1 with heap := h', toks := tk } := I1.kept fun b o e => hk b o (Heap.lt_size e) e
    refine call_len_set ho hex hd hf (by rw [hn] <;> omega) ⟨.int (met xs).length, H1, I2.tok _, ⟨_, by rw [hn]⟩, q _ met_eq met_lt⟩
  rcases q1 with ⟨ns, hq, hl, q⟩ | ⟨xs, hq, hl, q⟩
  · obtain ⟨its, r, pl, hz⟩ := I1.list hq
    have e : ns.length = its.toArray.size := by rw [List.size_toArray, ← r.length, List.length_map]
    exact call_set_keys (knd := intKind X.prog X.w) (I1.ok.hd hc) pl.isList e (fun i v hv => by
      obtain ⟨x, t, ex, rfl⟩ := ints_of r i v (by simpa using hv)
      exact ⟨x, ex, intKind_is _ _ _ _, rfl⟩) (by rw [← e]; unfold scanBound; omega) fun h' tk hS hk => fin hl q h' tk hS hk
  · obtain ⟨its, r, pl, hz⟩ := I1.list hq
    have e : xs.length = its.toArray.size := by rw [List.size_toArray, ← r.length, List.length_map]
    exact call_set_keys (knd := strKind X.prog X.w) (I1.ok.hd hc) pl.isList e (fun i v hv => by
      obtain ⟨x, t, ex, rfl⟩ := strs_of r i v (by simpa using hv)
      exact ⟨x, ex, strKind_is _ _ _ _, rfl⟩) (by rw [← e]; unfold scanBound; omega) fun h' tk hS hk => fin hl q h' tk hS hk
end
end BkS

set_option Elab.async false
set_option linter.all false
set_option maxRecDepth 100000
set_option maxHeartbeats 2000000
namespace Bk
open PySem PySem.Spec PyProof.Rows L2
/-! ### a class of the package: made within a try -/
structure OwnM (K : PySem.W.Frag) (m q : Str) (st : Stmt) (ps : List Str) (f : Addr) (fd : FuncData) : Prop where
  F : Fun K m q st f fd
  b : Binds K fd ps []
structure ClsT (K : PySem.W.Frag) (mg : Str → Option Value) (x : Str) (C f : Addr) : Prop where
  g : mg x = some (.ref C)
  M : Mk K C f
  cl : Cls K C
/-- the class, and what its __init__ promises -/
structure HasM (P : Program) (w : World) (K : PySem.W.Frag) (mg : Str → Option Value) (base : Heap) (x : Str) (ps : List Str) (lv : Nat) (CX : CXT) (sp : Sp) (C f : Addr) (fd : FuncData) : Prop where
  G : ∃ k, lv = k + 1 ∧ FnOk P w K mg base CX k f fd ps sp
  g : mg x = some (.ref C)
  M : Mk K C f
  b : Binds K fd ps []
section
variable {P : Program} {w : World} {K : PySem.W.Frag} {mg : Str → Option Value} {base : Heap} {x : Str} {ps : List Str} {C f : Addr} {fd : FuncData} {CX : CXT} {sp : Sp}
theorem HasM.mono {j i : Nat} (D : HasM P w K mg base x ps j CX sp C f fd) (h : j ≤ i) : HasM P w K mg base x ps i CX sp C f fd := by
  obtain ⟨⟨k, e, G⟩, g, M, b⟩ := D
  exact ⟨⟨i - 1, by omega, G.mono (by omega)⟩, g, M, b⟩
theorem HasM.of {k : Nat} {m q : Str} {st : Stmt} (T : ClsT K mg x C f) (O : OwnM K m q st ps f fd) (G : FnOk P w K mg base CX k f fd ps sp) : HasM P w K mg base x ps (k + 1) CX sp C f fd := ⟨⟨k, rfl, G⟩, T.g, T.M, O.b⟩
end
section
variable {X : Cx} {CX : CXT} {f C : Addr} {fd : FuncData} {ps : List Str} {sp : Sp} {E : L2.St → XK} {x : Str} {p pos : Pos} {e : Expr} {es : List Expr} {t : TA}
/-- what the new object's __init__ is handed: a bare object first -/
def spNew (C : Addr) (sp : Sp) : Sp := fun vs H Q E => ∀ a dx, H a = none → H dx = none → dx ≠ a → sp (.ref a :: vs) (upd (upd H dx (.own a)) a (.ins C dx [])) (fun v H2 => v = .non ∧ Q (.ref a) H2) E
theorem new_at {k : Nat} {pins : List (Addr × Obj)} {σ : L2.St} {H : Hp} {s : Shared} {Q : VK} {us : List Value} {vs : List V} (M : Mk X.K C f) (F : FnOk X.prog X.w X.K X.mg X.base CX k f fd ps sp) (hr : Room (k + 1) X.A) (hb : Binds X.K fd ps [])
    (hx : PassesAt CX X σ (E σ)) (I : Inv X pins σ H s) (r : Vals vs us) (h : spNew C sp vs H Q (E σ)) : wpAny (model X.prog X.w) X.A (call (.ref C) us) (EP X pins σ Q) X.xe s := by
  have q := h (s.heap.objs.size + 1) s.heap.objs.size (I.hok.fresh (Nat.le_succ _)) (I.hok.fresh (Nat.le_refl _)) (Nat.ne_of_lt (Nat.lt_succ_self _))
  have J := Inv.made (C := C) I
  have rr : Vals (V.ref (s.heap.objs.size + 1) :: vs) (Value.ref (s.heap.objs.size + 1) :: us) := .cons rfl r
  have hl : (Value.ref (s.heap.objs.size + 1) :: us).length = ps.length := rr.length.symm.trans (F.len _ _ _ _ q)
  have b := hb _ (Value.ref (s.heap.objs.size + 1) :: us) J.kIn (by rw [List.append_nil]; exact hl)
  rw [List.append_nil] at b
  have go := F.run _ X.stack _ _ ⟨Value.ref (s.heap.objs.size + 1) :: us, []⟩ _ _ _ (E σ) (hr.make C us []) (J.env0.make C us []) b rr q
  refine wpAny_call (make_map (f := f) I.kIn M.makes M.init (beq_iff_eq.mp M.fn) (codeAny_mono go fun r s' hq => ?_))
  rcases r with e | fl
  · exact hx pins _ _ e s' J hq
  cases fl with
  | ret u =>
    obtain ⟨v, H', I3, rv, ev, z⟩ := J.after hq
    subst ev
    exact ⟨rv, ⟨.ref (s.heap.objs.size + 1), H', I3, rfl, z⟩⟩
  | _ => exact False.elim hq
theorem pe_new {lv : Nat} (D : HasM X.prog X.w X.K X.mg X.base x ps lv CX sp C f fd) (hr : Room lv X.A) (hg : Gl X x) (hx : ∀ σ, PassesAt CX X σ (E σ)) (ha : PA X (e :: es) t)
    (hdb : (x == ("__debug__" : Str)) = false := by decide) (he : starEach (e :: es) X.env = (false, eval e X.env) :: starEach es X.env := by rfl) (hpl : (backTo pos (starEach es X.env)).any (·.1) = false := by rfl) :
    PE X (.Call (.Name x p) (e :: es) [] pos) (tCallS (spNew C sp) E t) := by
  obtain ⟨⟨k, rfl, G⟩, g, M, b⟩ := D
  refine ⟨fun pins s σ H Q I h => ?_⟩
  refine wpAny_Call_Name_kw (ld_glob I hg g ?_ hdb)
  exact PySem.W.callWith_K (h₀ := X.base) I.ok.mod.kin M.kp (thn (ha.run pos pins s σ H _ I h) fun us s1 ⟨vs, H1, I1, r, q⟩ => ⟨I1.kIn, new_at M G hr b (hx σ) I1 r q⟩) he hpl
end
/-! ### comprehensions over a list that stays -/
/-- so far fs of the xs stand in the new list, and all else as it stood -/
structure Comp (H0 : Hp) (D : Addr) (R : Nat → V → Hp → Prop) (i : Nat) (H : Hp) : Prop where
  e : Same H0 H
  n : H0 D = none
  acc : ∃ ys, H D = some (.lst ys) ∧ ys.length = i ∧ ∀ j y, ys[j]? = some y → R j y H
theorem Comp.start {H : Hp} {D : Addr} {R : Nat → V → Hp → Prop} (n : H D = none) : Comp H D R 0 (upd H D (.lst [])) := ⟨same_new n, n, [], upd_same, rfl, fun j y h => by simp at h⟩
theorem Comp.next {H0 H H' : Hp} {D : Addr} {R : Nat → V → Hp → Prop} {i : Nat} {y : V} (hR : ∀ j y Ha Hb, R j y Ha → (∀ b o, b ≠ D → Ha b = some o → Hb b = some o) → R j y Hb) (c : Comp H0 D R i H) (e : Same H H') (hi : i < 4000) (q : R i y H') :
    ∃ acc, H' D = some (.lst acc) ∧ acc.length < sizeLine ∧ Comp H0 D R (i + 1) (upd H' D (.lst (acc ++ [y]))) := by
  obtain ⟨e0, n, ys, h, hl, hy⟩ := c
  have k1 : ∀ b o, b ≠ D → H b = some o → upd H' D (.lst (ys ++ [y])) b = some o := fun b o hb z => by rw [upd_ne hb]; exact e _ _ z
  have k2 : ∀ b o, b ≠ D → H' b = some o → upd H' D (.lst (ys ++ [y])) b = some o := fun b o hb z => by rw [upd_ne hb]; exact z
  refine ⟨ys, e _ _ h, Nat.lt_of_lt_of_le (show ys.length < 4000 by omega) (by decide), fun b o z => ?_, n, ys ++ [y], upd_same, by rw [List.length_append, hl]; rfl, fun j v z => ?_⟩
  · have hb : b ≠ D := fun h => by rw [h, n] at z; cases z
    exact k1 b o hb (e0 _ _ z)
  · rcases Nat.lt_or_ge j ys.length with lt | ge
    · rw [List.getElem?_append_left lt] at z
      exact hR j v H _ (hy j v z) k1
    · rw [List.getElem?_append_right ge] at z
      obtain ⟨rfl, rfl⟩ : j = i ∧ v = y := by
        rcases Nat.eq_zero_or_pos (j - ys.length) with h0 | h0
        · rw [h0] at z
          exact ⟨by omega, (Option.some.inj z).symm⟩
        · rw [List.getElem?_eq_none (by simp; omega)] at z; cases z
      exact hR _ _ H' _ q k2
def rTupOf (K : PySem.W.Frag) : List V → Hp → VK → Prop := fun xs H Q => ∃ p ys, xs = [.ref p] ∧ ((SqL K H p ys ∧ ∀ l, H l = none → Q (.ref l) (upd H l (.tup ys))) ∨ (SqT K H p ys ∧ Q (.ref p) H))
def rLstOf (K : PySem.W.Frag) : List V → Hp → VK → Prop := fun xs H Q => ∃ p ys, xs = [.ref p] ∧ (SqL K H p ys ∨ SqT K H p ys) ∧ ∀ l, H l = none → Q (.ref l) (upd H l (.lst ys))
theorem callTupOf {X : Cx} : CallR X (.type "tuple") (rTupOf X.K) := call_tuple_of
theorem callLstOf {X : Cx} : CallR X (.type "list") (rLstOf X.K) := call_list_of
end Bk

set_option Elab.async false
set_option linter.all false
set_option maxRecDepth 100000
set_option maxHeartbeats 2000000
namespace Bk
open PySem PySem.Spec PyProof.Rows L2
def isx (i : Int) : Str := toString i
def rStrA : List V → Hp → VK → Prop := fun xs H Q => (∃ i, xs = [.int i] ∧ i.natAbs.log2 < 1920 ∧ Q (.str (isx i)) H) ∨ (∃ a, xs = [.str a] ∧ Q (.str a) H)
theorem call_strA {X : Cx} : CallR X (.type "str") rStrA := by
  intro pins s τ G xs us W I r h
  rcases h with h | h
  · exact call_str_int pins s τ G xs us W I r h
  · exact SkE.call_str_str pins s τ G xs us W I r h
end Bk

set_option Elab.async false
set_option linter.all false
set_option maxRecDepth 100000
set_option maxHeartbeats 2000000
namespace Bk
open PySem PySem.Spec PyProof.Rows L2
/-- zip of two tuples -/
theorem walk_zipT {K : PySem.W.Frag} {a b : Addr} {xs ys : List V} {n : Nat} (hn : n = min xs.length ys.length) : Walk (RZ.ItzT K a b) n (fun H => SqT K H a xs ∧ SqT K H b ys) (YPair (fun i => xs[i]?) (fun i => ys[i]?)) := by
  subst hn
  refine ⟨fun i _ hi q => ?_, fun _ q => ⟨xs, ys, q.1, q.2, by omega⟩, fun i H v H' _ q y => ?_⟩
  · have h1 : i < xs.length := by omega
    have h2 : i < ys.length := by omega
    exact ⟨xs, ys, xs[i], ys[i], q.1, q.2, by simp [h1], by simp [h2]⟩
  · obtain ⟨T, x, z, h1, h2, h3, h4, h5⟩ := y
    exact ⟨T, x, z, h1, h2, h3, h4 xs q.1, h5 ys q.2⟩
/-- a dict of the module that tells the forms: read at a word -/
theorem FTab.at {K : PySem.W.Frag} {w : World} {mg : Str → Option Value} {n : Str} {L : Forms} {d : Addr} (F : FTab K w mg n L d) {z : Str} {ks : List Str} (h : formOf L z = some ks) :
    ∃ a : Addr, KDct K w d z (.ref a) ∧ ∀ H, SqT K H a (ks.map V.str) := by
  obtain ⟨g, ⟨es, c, k⟩, ok⟩ := F
  have q := tabOk_ns ok z
  rw [h] at q
  obtain ⟨a, q1, q2⟩ := q
  exact ⟨a, ⟨es, c, _, k.at_, k.lit, q1, rfl⟩, q2⟩
/-- a tuple of texts of the module -/
structure TupC (K : PySem.W.Frag) (mg : Str → Option Value) (n : Str) (ks : List Str) (d : Addr) : Prop where
  g : mg n = some (.ref d)
  ok : tupOk K d ks = true
theorem TupC.sq {K : PySem.W.Frag} {mg : Str → Option Value} {n : Str} {ks : List Str} {d : Addr} (T : TupC K mg n ks d) (H : Hp) : SqT K H d (ks.map V.str) := tupOk_sq T.ok H
theorem use_isDict {K : PySem.W.Frag} {H : Hp} {v : V} {d : PyData} {Q : VK} (h : Dp K H v d) (q : Q (.bl false) H) : rIsi K [v, .ty "dict"] H Q := ⟨v, .ty "dict", _, _, false, rfl, .ty _, ty_of h, kit_ty (by cases h with | non => exact (by decide +kernel : kitB "NoneType" "dict" = some false) | bl _ => exact (by decide +kernel : kitB "bool" "dict" = some false) | int _ => exact (by decide +kernel : kitB "int" "dict" = some false) | str _ => exact (by decide +kernel : kitB "str" "dict" = some false) | lst _ _ => exact (by decide +kernel : kitB "list" "dict" = some false) | tup _ _ => exact (by decide +kernel : kitB "tuple" "dict" = some false)), q⟩
theorem inTwo (s a b : Str) : inV (.str s) [.str a, .str b] = decide (s = a ∨ s = b) := by
  have e : ∀ a b : Str, (a == b) = decide (b = a) := fun a b => by
    by_cases c : a = b
    · subst c; simp
    · rw [decide_eq_false (fun z => c z.symm)]
      simpa using c
  simp only [inV, List.any_cons, List.any_nil, eqV, e, Bool.or_false, Bool.decide_or]
/-! ### data that are alike -/
def aOk : Nat → PyData → Prop
  | _ + 1, .none => True
  | _ + 1, .bool _ => True
  | _ + 1, .int _ => True
  | _ + 1, .str _ => True
  | n + 1, .list ds => ds.length ≤ 2000 ∧ ∀ d ∈ ds, aOk n d
  | n + 1, .tuple ds => ds.length ≤ 2000 ∧ ∀ d ∈ ds, aOk n d
  | _, _ => False
def spAlike (K : PySem.W.Frag) (n : Nat) : Sp := fun vs H Q _ => ∃ (v u : V) (d : PyData), vs = [v, u] ∧ Dp K H v d ∧ Dp K H u d ∧ aOk n d ∧ ∀ H', Same H H' → Q (.bl true) H'
theorem use_alike {K : PySem.W.Frag} {n : Nat} {v u : V} {d : PyData} {H : Hp} {Q : VK} {E : XK} (h1 : Dp K H v d) (h2 : Dp K H u d) (k : aOk n d) (q : ∀ H', Same H H' → Q (.bl true) H') : spAlike K n ([v, u] ++ []) H Q E := ⟨v, u, d, rfl, h1, h2, k, q⟩
theorem none_alike {P : Program} {w : World} {K : PySem.W.Frag} {mg : Str → Option Value} {base : Heap} {f : Addr} {fd : FuncData} {ps : List Str} : FnOk P w K mg base CX0 0 f fd ps (spAlike K 0) := by
  have no : ∀ vs H Q E, ¬ spAlike K 0 vs H Q E := fun vs H Q E h => by
    obtain ⟨v, u, d, _, _, _, h1, _⟩ := h
    cases d <;> exact h1
  exact ⟨fun vs H Q E h => absurd h (no vs H Q E), fun A outer s H args us vs Q E _ _ _ _ h => absurd h (no vs H Q E)⟩
/-! ### lists told item by item -/
def All2 {α β : Type} (R : α → β → Prop) : List α → List β → Prop
  | [], [] => True
  | a :: as, b :: bs => R a b ∧ All2 R as bs
  | _, _ => False
theorem All2.len {α β : Type} {R : α → β → Prop} : ∀ {as : List α} {bs : List β}, All2 R as bs → as.length = bs.length
  | [], [], _ => rfl
  | _ :: _, _ :: _, h => by rw [List.length_cons, List.length_cons, All2.len h.2]
  | [], _ :: _, h => h.elim
  | _ :: _, [], h => h.elim
theorem All2.mono {α β : Type} {R S : α → β → Prop} (m : ∀ a b, R a b → S a b) : ∀ {as : List α} {bs : List β}, All2 R as bs → All2 S as bs
  | [], [], _ => trivial
  | _ :: _, _ :: _, h => ⟨m _ _ h.1, All2.mono m h.2⟩
  | [], _ :: _, h => h.elim
  | _ :: _, [], h => h.elim
theorem All2.at {α β : Type} {R : α → β → Prop} : ∀ {as : List α} {bs : List β} {i : Nat} {a : α}, All2 R as bs → as[i]? = some a → ∃ b, bs[i]? = some b ∧ R a b
  | a :: as, b :: bs, 0, x, h, e => by
    simp only [List.getElem?_cons_zero, Option.some.injEq] at e
    exact ⟨b, rfl, e ▸ h.1⟩
  | a :: as, b :: bs, i + 1, x, h, e => by
    simp only [List.getElem?_cons_succ] at e
    obtain ⟨c, h1, h2⟩ := All2.at h.2 e
    exact ⟨c, by simpa using h1, h2⟩
  | [], [], i, x, h, e => by simp at e
  | [], _ :: _, _, _, h, _ => h.elim
  | _ :: _, [], _, _, h, _ => h.elim
theorem All2.snoc {α β : Type} {R : α → β → Prop} : ∀ {as : List α} {bs : List β} {a : α} {b : β}, All2 R as bs → R a b → All2 R (as ++ [a]) (bs ++ [b])
  | [], [], _, _, _, r => ⟨r, trivial⟩
  | _ :: _, _ :: _, _, _, h, r => ⟨h.1, All2.snoc h.2 r⟩
  | [], _ :: _, _, _, h, _ => h.elim
  | _ :: _, [], _, _, h, _ => h.elim
theorem All2.nil_r {α β : Type} {R : α → β → Prop} {bs : List β} (h : All2 R ([] : List α) bs) : bs = [] := by
  cases bs with
  | nil => rfl
  | cons _ _ => exact h.elim
theorem tm_lst {K : PySem.W.Frag} {H : Hp} {D : Addr} {xs ys : List V} (h : H D = some (.lst xs)) : TM K H (upd H D (.lst ys)) := fun a zs q => by
  rcases q with (q | ⟨o, q⟩) | q
  · exact .inl (.inl (by rw [upd_ne (fun z => by rw [z, h] at q; cases q)]; exact q))
  · exact .inl (.inr ⟨o, by rw [upd_ne (fun z => by rw [z, h] at q; cases q)]; exact q⟩)
  · exact .inr q
theorem take_map_snoc {α β : Type} {f : α → β} {l : List α} {i : Nat} {c : α} (h : l[i]? = some c) : (l.take (i + 1)).map f = (l.take i).map f ++ [f c] := by
  rw [List.take_succ, h, List.map_append]
  rfl
theorem fresh_same {H H' : Hp} {p : Addr} (e : Same H H') (h : H' p = none) : H p = none := by
  cases h1 : H p with
  | none => rfl
  | some o =>
    rw [e p o h1] at h
    cases h
end Bk

set_option Elab.async false
set_option linter.all false
set_option maxRecDepth 100000
set_option maxHeartbeats 2000000
namespace Bk
open PySem PySem.Spec PyProof.Rows L2
/-! ### a method of a class of the package -/
structure HasMeth (P : Program) (w : World) (K : PySem.W.Frag) (mg : Str → Option Value) (base : Heap) (C : Addr) (m : Str) (ps : List Str) (lv : Nat) (CX : CXT) (sp : Sp) (f : Addr) (fd : FuncData) : Prop where
  G : FnOk P w K mg base CX lv f fd ps sp
  M : Meth K C m f
  b : Binds K fd ps []
  cl : Cls K C
section
variable {P : Program} {w : World} {K : PySem.W.Frag} {mg : Str → Option Value} {base : Heap} {m q : Str} {ps : List Str} {C f : Addr} {fd : FuncData} {CX : CXT} {sp : Sp} {st : Stmt}
theorem HasMeth.mono {j i : Nat} (D : HasMeth P w K mg base C m ps j CX sp f fd) (h : j ≤ i) : HasMeth P w K mg base C m ps i CX sp f fd := ⟨D.G.mono h, D.M, D.b, D.cl⟩
theorem HasMeth.of {k : Nat} (cl : Cls K C) (M : Meth K C m f) (O : OwnM K m q st ps f fd) (G : FnOk P w K mg base CX k f fd ps sp) : HasMeth P w K mg base C m ps k CX sp f fd := ⟨G, M, O.b, cl⟩
end
section
variable {D : Ends} {σ : L2.St} {H : Hp} {Q : VK} {v : V}
theorem g_rfld {K : PySem.W.Frag} {ta : TE} {f : Str} (h : ta σ H fun x H1 => ∃ a C dx fs v, x = .ref a ∧ H1 a = some (.ins C dx fs) ∧ Cls K C ∧ NoAttr K C f ∧ fs.lookup f = some v ∧ Q v H1) : tFld K ta f σ H Q := h
theorem g_meth {C : Addr} {m : Str} {sp : Sp} {dvs : List V} {E : XK} {ta : TE} {t : TA} (h : ta σ H fun x H1 => ∃ a dx fs, x = .ref a ∧ H1 a = some (.ins C dx fs) ∧ fs.lookup m = none ∧ t σ H1 fun vs H2 => sp (x :: (vs ++ dvs)) H2 Q E) : tMeth C m sp dvs E ta t σ H Q := h
end
end Bk

set_option Elab.async false
set_option linter.all false
set_option maxRecDepth 100000
set_option maxHeartbeats 4000000
namespace Bk
open PySem PySem.Spec PyProof.Rows L2
/-! ### zip of a tuple and a list: what zip draws from is told by a feed -/
structure Feed (St : Heap → Nat → Prop) (Src : Heap → Prop) (it src : Addr) (its : Array Value) : Prop where
  item : ∀ {p : Program} {w : World} {A : Around} {E : Value → Shared → Prop} {s : Shared} {i : Nat} {x : Value} {Q : Value → Shared → Prop}, St s.heap i → Src s.heap → its[i]? = some x →
    (∀ g, St g (i + 1) → Heap.SameBut it s.heap g → Q x { s with heap := g }) → wpAny (model p w) A (Builtin.SmallTypes.nextOf (.ref it)) Q E s
  fin : ∀ {p : Program} {w : World} {A : Around} {E : Value → Shared → Prop} {s : Shared} {i : Nat} {Q : Value → Shared → Prop}, A.handled = none → St s.heap i → Src s.heap → its[i]? = none →
    (∀ g e, Heap.ExtBut it s.heap g → (∃ o, g.get? e = some o ∧ o.cls = .type "StopIteration") → E (.ref e) { s with heap := g }) → wpAny (model p w) A (Builtin.SmallTypes.nextOf (.ref it)) Q E s
  on : ∀ {c : Addr} {h g : Heap} {i : Nat}, St h i → Heap.ExtBut c h g → it ≠ c → St g i
  src : ∀ {c : Addr} {h g : Heap}, Src h → Heap.ExtBut c h g → src ≠ c → Src g
  atI : ∀ {h g : Heap} {i : Nat}, St h i → (∀ o, h.get? it = some o → g.get? it = some o) → St g i
  has : ∀ {h : Heap} {i : Nat}, St h i → ∃ o, h.get? it = some o ∧ ∀ v, o.data ≠ .cell v
theorem feed_list (it l : Addr) (its : Array Value) : Feed (fun h i => h.IsListIter it l i) (fun h => h.IsList l its) it l its where
  item := fun a b c q => wpAny_nextOf_list_item a b c q
  fin := fun hh a b c q => wpAny_nextOf_list_end hh a b c q
  on := fun a e n => a.extBut e n
  src := fun a e n => a.extBut e n
  atI := fun a e => a.at e
  has := fun ⟨o, e, _, d⟩ => ⟨o, e, fun v q => by rw [d] at q; cases q⟩
theorem feed_tup (it l : Addr) (its : Array Value) : Feed (fun h i => h.IsTupleIter it l i) (fun h => h.IsTuple l its) it l its where
  item := fun a b c q => RZ.nextOf_tuple_item a b c q
  fin := fun hh a b c q => RZ.nextOf_tuple_end hh a b c q
  on := fun a e n => a.extBut e n
  src := fun a e n => a.extBut e n
  atI := fun a e => a.at e
  has := fun ⟨o, e, _, d⟩ => ⟨o, e, fun v q => by rw [d] at q; cases q⟩
section
variable {p : Program} {w : World} {A : Around} {E : Value → Shared → Prop} {s : Shared} {S1 S2 : Heap → Nat → Prop} {R1 R2 : Heap → Prop} {z TI TO i1 i2 l1 l2 : Addr} {k : Nat} {xs ys : Array Value} {x y a b : Value}
/-- what stands apart from the zip's own objects stays -/
def Still (z TO i1 i2 : Addr) (h g : Heap) : Prop := ∀ c o, c ≠ z → c ≠ TO → c ≠ i1 → c ≠ i2 → h.get? c = some o → g.get? c = some o
theorem feed_next {Q : Value → Shared → Prop} (F1 : Feed S1 R1 i1 l1 xs) (F2 : Feed S2 R2 i2 l2 ys) (D : ZipApart z TI TO i1 i2 l1 l2) (zz : IsZip s.heap z TI TO .none) (zi : IsPair s.heap TI (.ref i1) (.ref i2)) (zo : IsPair s.heap TO a b)
    (s1 : S1 s.heap k) (s2 : S2 s.heap k) (r1 : R1 s.heap) (r2 : R2 s.heap) (ex : xs[k]? = some x) (ey : ys[k]? = some y)
    (q : ∀ g, IsZip g z TI TO (rawInt s.heap.objs.size) → IsPair g TO x y → S1 g (k + 1) → S2 g (k + 1) → IsPair g s.heap.objs.size x y → g.objs.size = s.heap.objs.size + 1 → Still z TO i1 i2 s.heap g → Q (.ref s.heap.objs.size) { s with heap := g }) :
    wpAny (model p w) A (Builtin.«zip.__next__» ⟨[.ref z], []⟩) (fun fin t => ∃ v, fin = .done (.ret v) ∧ Q v t) E s := by
  show wpAny _ _ (field (.ref z) 2 >>= _) _ _ s
  refine wpAny_bind (wpAny_field zz rfl (x := .bool false) rfl (?_ : wpAny _ _ (field (.ref z) 3 >>= _) _ _ s))
  refine wpAny_bind (wpAny_field zz rfl (x := .ref TI) rfl (wpAny_bind (wpAny_seqItems zi rfl (?_ : wpAny _ _ (Builtin.SmallTypes.ownedTupleIsFree (.ref z) >>= _) _ _ s))))
  refine wpAny_bind (?_ : wpAny _ _ (Builtin.SmallTypes.ownedTupleIsFree (.ref z)) _ _ s)
  unfold Builtin.SmallTypes.ownedTupleIsFree
  refine wpAny_bind (wpAny_field zz rfl (x := .none) rfl (wpAny_pure ?_)); simp only [if_true]
  refine wpAny_bind (wpAny_rule (wpAny_bind (wpAny_field zz rfl (x := .ref TO) rfl (wpAny_bind (wpAny_setField_rec zz (by simp) fun g1 z1 t1 => ?_)))))
  have z1 : IsZip g1 z TI TO .ellipsis := z1
  refine wpAny_bind ?_; simp only [List.zipIdx_cons, List.zipIdx_nil, List.forIn_cons, List.forIn_nil]
  refine wpAny_bind (wpAny_bind (wpAny_onRaise (?_ : wpAny _ _ (Builtin.SmallTypes.nextOf (.ref i1) >>= _) _ _ _)))
  refine wpAny_bind (F1.item (F1.on s1 t1.extBut D.i1z) (F1.src r1 t1.extBut D.l1z) ex fun g2 a2 t2 => wpAny_pure ?_)
  have o2 : IsPair g2 TO a b := t2.extBut _ _ D.TOi1 (t1.extBut _ _ D.TOz zo)
  refine wpAny_bind (wpAny_seqItems o2 rfl (wpAny_bind (wpAny_updateSeq_pair o2 fun g3 o3 t3 => wpAny_bind (wpAny_letGo (wpAny_pure ?_)))))
  have o3 : IsPair g3 TO x b := o3
  refine wpAny_bind (wpAny_bind (wpAny_onRaise (?_ : wpAny _ _ (Builtin.SmallTypes.nextOf (.ref i2) >>= _) _ _ _)))
  refine wpAny_bind (F2.item (F2.on (F2.on (F2.on s2 t1.extBut D.i2z) t2.extBut D.i12.symm) t3.extBut D.TOi2.symm) (F2.src (F2.src (F2.src r2 t1.extBut D.l2z) t2.extBut D.l2i1) t3.extBut D.l2TO) ey fun g4 b4 t4 => wpAny_pure ?_)
  have o4 : IsPair g4 TO x b := t4.extBut _ _ D.TOi2 o3
  refine wpAny_bind (wpAny_seqItems o4 rfl (wpAny_bind (wpAny_updateSeq_pair o4 fun g5 o5 t5 => wpAny_bind (wpAny_letGo (wpAny_pure (wpAny_pure ?_))))))
  have o5 : IsPair g5 TO x y := o5
  refine wpAny_bind (wpAny_seqItems o5 rfl (wpAny_bind (wpAny_newTuple ?_)))
  have n5 : g5.objs.size = s.heap.objs.size := by rw [t5.1, t4.1, t3.1, t2.1, t1.1]
  have z5 : IsZip g5 z TI TO .ellipsis := t5.extBut _ _ D.TOz.symm (t4.extBut _ _ D.i2z.symm (t3.extBut _ _ D.TOz.symm (t2.extBut _ _ D.i1z.symm z1)))
  have k5 : Still z TO i1 i2 s.heap g5 := fun c o c1 c2 c3 c4 e => t5.extBut _ _ c2 (t4.extBut _ _ c4 (t3.extBut _ _ c2 (t2.extBut _ _ c3 (t1.extBut _ _ c1 e))))
  have a5 : S1 g5 (k + 1) := F1.on (F1.on (F1.on a2 t3.extBut D.TOi1.symm) t4.extBut D.i12) t5.extBut D.TOi1.symm
  have b5 : S2 g5 (k + 1) := F2.on b4 t5.extBut D.TOi2.symm
  have zl : z < g5.objs.size := Heap.lt_size z5
  refine (?_ : wpAny _ _ (Builtin.SmallTypes.ownedTupleHandOut (.ref z) (.ref g5.objs.size) >>= _) _ _ _)
  refine wpAny_bind ?_
  unfold Builtin.SmallTypes.ownedTupleHandOut
  have z6 : IsZip (g5.push { cls := .type "tuple", data := .seq #[x, y] }) z TI TO .ellipsis := Heap.get?_push_of_some _ z5
  refine wpAny_bind (wpAny_setField_rec z6 (by simp) fun g7 z7 t7 => ?_)
  have z7 : IsZip g7 z TI TO (rawInt g5.objs.size) := z7
  refine wpAny_setField_rec z7 (by simp) fun g8 z8 t8 => ?_
  have z8 : IsZip g8 z TI TO (rawInt g5.objs.size) := z8
  have up : ∀ c o, c ≠ z → g5.get? c = some o → g8.get? c = some o := fun c o c1 e => t8.extBut _ _ c1 (t7.extBut _ _ c1 (Heap.get?_push_of_some _ e))
  have T8 : IsPair g8 g5.objs.size x y := t8.extBut _ _ (Nat.ne_of_gt zl) (t7.extBut _ _ (Nat.ne_of_gt zl) (Heap.get?_push_size _ rfl))
  have n8 : g8.objs.size = g5.objs.size + 1 := by rw [t8.1, t7.1, Heap.size_push]
  rw [n5] at z8 T8 n8
  refine wpAny_pure ⟨_, rfl, (?_ : Q (.ref g5.objs.size) _)⟩
  rw [n5]
  exact q g8 z8 (up _ _ D.TOz o5) (F1.atI a5 fun o e => up _ o D.i1z e) (F2.atI b5 fun o e => up _ o D.i2z e) T8 n8 fun c o c1 c2 c3 c4 e => up c o c1 (k5 c o c1 c2 c3 c4 e)
theorem feed_end {Q : Fin → Shared → Prop} (hh : A.handled = none) (F1 : Feed S1 R1 i1 l1 xs) (F2 : Feed S2 R2 i2 l2 ys) (D : ZipApart z TI TO i1 i2 l1 l2) (zz : IsZip s.heap z TI TO .none) (zi : IsPair s.heap TI (.ref i1) (.ref i2)) (zo : IsPair s.heap TO a b)
    (s1 : S1 s.heap k) (s2 : S2 s.heap k) (r1 : R1 s.heap) (r2 : R2 s.heap) (over : xs[k]? = none ∨ ys[k]? = none)
    (q : ∀ g e, Still z TO i1 i2 s.heap g → (∃ o, g.get? e = some o ∧ o.cls = .type "StopIteration") → E (.ref e) { s with heap := g }) : wpAny (model p w) A (Builtin.«zip.__next__» ⟨[.ref z], []⟩) Q E s := by
  show wpAny _ _ (field (.ref z) 2 >>= _) _ _ s
  refine wpAny_bind (wpAny_field zz rfl (x := .bool false) rfl (?_ : wpAny _ _ (field (.ref z) 3 >>= _) _ _ s))
  refine wpAny_bind (wpAny_field zz rfl (x := .ref TI) rfl (wpAny_bind (wpAny_seqItems zi rfl (?_ : wpAny _ _ (Builtin.SmallTypes.ownedTupleIsFree (.ref z) >>= _) _ _ s))))
  refine wpAny_bind (?_ : wpAny _ _ (Builtin.SmallTypes.ownedTupleIsFree (.ref z)) _ _ s)
  unfold Builtin.SmallTypes.ownedTupleIsFree
  refine wpAny_bind (wpAny_field zz rfl (x := .none) rfl (wpAny_pure ?_)); simp only [if_true]
  refine wpAny_bind (wpAny_rule (wpAny_bind (wpAny_field zz rfl (x := .ref TO) rfl (wpAny_bind (wpAny_setField_rec zz (by simp) fun g1 z1 t1 => ?_)))))
  have z1 : IsZip g1 z TI TO .ellipsis := z1
  refine wpAny_bind ?_; simp only [List.zipIdx_cons, List.zipIdx_nil, List.forIn_cons, List.forIn_nil]
  refine wpAny_bind (wpAny_bind (wpAny_onRaise (?_ : wpAny _ _ (Builtin.SmallTypes.nextOf (.ref i1) >>= _) _ _ _)))
  cases ex : xs[k]? with
  | none =>
    refine wpAny_bind (F1.fin hh (F1.on s1 t1.extBut D.i1z) (F1.src r1 t1.extBut D.l1z) ex fun g2 e t2 ⟨oe, e1, e2⟩ => ?_)
    have z2 : IsZip g2 z TI TO .ellipsis := t2 _ _ D.i1z.symm z1
    have ez : e ≠ z := fun c => by rw [c, z2] at e1; cases e1; simp at e2
    exact wpAny_setField_rec z2 (by simp) fun g3 _ t3 => q g3 e (fun c o c1 _ c3 _ h => t3.extBut _ _ c1 (t2 _ _ c3 (t1.extBut _ _ c1 h))) ⟨oe, t3.extBut _ _ ez e1, e2⟩
  | some x =>
    have ey : ys[k]? = none := over.resolve_left (by rw [ex]; exact fun c => nomatch c)
    refine wpAny_bind (F1.item (F1.on s1 t1.extBut D.i1z) (F1.src r1 t1.extBut D.l1z) ex fun g2 a2 t2 => wpAny_pure ?_)
    have o2 : IsPair g2 TO a b := t2.extBut _ _ D.TOi1 (t1.extBut _ _ D.TOz zo)
    refine wpAny_bind (wpAny_seqItems o2 rfl (wpAny_bind (wpAny_updateSeq_pair o2 fun g3 o3 t3 => wpAny_bind (wpAny_letGo (wpAny_pure ?_)))))
    refine wpAny_bind (wpAny_bind (wpAny_onRaise (?_ : wpAny _ _ (Builtin.SmallTypes.nextOf (.ref i2) >>= _) _ _ _)))
    refine wpAny_bind (F2.fin hh (F2.on (F2.on (F2.on s2 t1.extBut D.i2z) t2.extBut D.i12.symm) t3.extBut D.TOi2.symm) (F2.src (F2.src (F2.src r2 t1.extBut D.l2z) t2.extBut D.l2i1) t3.extBut D.l2TO) ey fun g4 e t4 ⟨oe, e1, e2⟩ => ?_)
    have z4 : IsZip g4 z TI TO .ellipsis := t4 _ _ D.i2z.symm (t3.extBut _ _ D.TOz.symm (t2.extBut _ _ D.i1z.symm z1))
    have ez : e ≠ z := fun c => by rw [c, z4] at e1; cases e1; simp at e2
    exact wpAny_setField_rec z4 (by simp) fun g5 _ t5 => q g5 e (fun c o c1 c2 c3 c4 h => t5.extBut _ _ c1 (t4 _ _ c4 (t3.extBut _ _ c2 (t2.extBut _ _ c3 (t1.extBut _ _ c1 h))))) ⟨oe, t5.extBut _ _ ez e1, e2⟩
end
section
variable {p : Program} {w : World} {A : Around} {E : Value → Shared → Prop} {s : Shared} {S1 S2 : Heap → Nat → Prop} {R1 R2 : Heap → Prop} {z TI TO i1 i2 l1 l2 : Addr} {k : Nat} {xs ys : Array Value} {x y a b : Value}
theorem feed_py_next {Q : Option Value → Shared → Prop} (F1 : Feed S1 R1 i1 l1 xs) (F2 : Feed S2 R2 i2 l2 ys) (D : ZipApart z TI TO i1 i2 l1 l2) (zz : IsZip s.heap z TI TO .none) (zi : IsPair s.heap TI (.ref i1) (.ref i2)) (zo : IsPair s.heap TO a b)
    (s1 : S1 s.heap k) (s2 : S2 s.heap k) (r1 : R1 s.heap) (r2 : R2 s.heap) (ex : xs[k]? = some x) (ey : ys[k]? = some y)
    (q : ∀ g, IsZip g z TI TO (rawInt s.heap.objs.size) → IsPair g TO x y → S1 g (k + 1) → S2 g (k + 1) → IsPair g s.heap.objs.size x y → g.objs.size = s.heap.objs.size + 1 → Still z TO i1 i2 s.heap g → Q (some (.ref s.heap.objs.size)) { s with heap := g }) :
    wpAny (model p w) A (pyNext (.ref z)) Q E s := by
  have T : s.TypeIs (.ref z) "zip" := ⟨_, zz, rfl⟩
  unfold pyNext
  exact wpAny_bind (wpAny_attempt (wpAny_callSpecial?_slot (name := Str.ofString "__next__") T F.slot_zip_next (wpAny_call_entry F.slot_zip_next T F.entry_zip_next
    (feed_next F1 F2 D zz zi zo s1 s2 r1 r2 ex ey fun g b1 b2 b3 b4 b5 b6 b7 => wpAny_pure (q g b1 b2 b3 b4 b5 b6 b7)) (F.args_zip_next_1 _))))
theorem feed_py_end {Q : Option Value → Shared → Prop} (hh : A.handled = none) (F1 : Feed S1 R1 i1 l1 xs) (F2 : Feed S2 R2 i2 l2 ys) (D : ZipApart z TI TO i1 i2 l1 l2) (zz : IsZip s.heap z TI TO .none) (zi : IsPair s.heap TI (.ref i1) (.ref i2)) (zo : IsPair s.heap TO a b)
    (s1 : S1 s.heap k) (s2 : S2 s.heap k) (r1 : R1 s.heap) (r2 : R2 s.heap) (over : xs[k]? = none ∨ ys[k]? = none) (q : ∀ g, Still z TO i1 i2 s.heap g → Q none { s with heap := g }) : wpAny (model p w) A (pyNext (.ref z)) Q E s := by
  have T : s.TypeIs (.ref z) "zip" := ⟨_, zz, rfl⟩
  unfold pyNext
  refine wpAny_bind (wpAny_attempt (wpAny_callSpecial?_slot (name := Str.ofString "__next__") T F.slot_zip_next (wpAny_call_entry F.slot_zip_next T F.entry_zip_next
    (feed_end hh F1 F2 D zz zi zo s1 s2 r1 r2 over fun g e st ⟨o, e1, e2⟩ => ?_) (F.args_zip_next_1 _))))
  exact wpAny_bind (wpAny_isInstance (T := "StopIteration") (b := true) ⟨o, e1, e2⟩ isSubtype_stop (wpAny_pure (q _ st)))
end
/-- a tuple and a list, as they stand at each turn, the items in new pairs -/
def ItzM (K : PySem.W.Frag) (a b : Addr) : It :=
  ⟨fun i H => ∃ (xs ys : List V) (x y : V), SqT K H a xs ∧ SqL K H b ys ∧ xs[i]? = some x ∧ ys[i]? = some y,
   fun i H v G => ∃ (T : Addr) (x y : V), v = .ref T ∧ H T = none ∧ G = upd H T (.tup [x, y]) ∧ (∀ xs, SqT K H a xs → xs[i]? = some x) ∧ (∀ ys, SqL K H b ys → ys[i]? = some y),
   fun i H => ∃ xs ys : List V, SqT K H a xs ∧ SqL K H b ys ∧ (xs.length ≤ i ∨ ys.length ≤ i)⟩
theorem walk_zipM {K : PySem.W.Frag} {a b : Addr} {xs ys : List V} {n : Nat} (hn : n = min xs.length ys.length) : Walk (ItzM K a b) n (fun H => SqT K H a xs ∧ SqL K H b ys) (YPair (fun i => xs[i]?) (fun i => ys[i]?)) := by
  subst hn
  refine ⟨fun i H hi q => ?_, fun H q => ⟨xs, ys, q.1, q.2, by omega⟩, fun i H v G _ q y => ?_⟩
  · have h1 : i < xs.length := by omega
    have h2 : i < ys.length := by omega
    exact ⟨xs, ys, xs[i], ys[i], q.1, q.2, List.getElem?_eq_getElem h1, List.getElem?_eq_getElem h2⟩
  · obtain ⟨T, x, u, h1, h2, h3, h4, h5⟩ := y
    exact ⟨T, x, u, h1, h2, h3, h4 xs q.1, h5 ys q.2⟩
theorem turn_zipM {P : Program} {w : World} {K : PySem.W.Frag} {es : List Expr} {kk : Nat} {tp : Pos} {a b z TI TO i1 i2 : Addr} (D : ZipApart z TI TO i1 i2 a b) :
    Turn P w K (.Tuple es kk tp) (ItzM K a b) [z, TI, TO, i1, i2] z (fun i h => (IsZip h z TI TO .none ∧ IsPair h TI (.ref i1) (.ref i2) ∧ ∃ x y, IsPair h TO x y) ∧ h.IsTupleIter i1 a i ∧ h.IsListIter i2 b i) where
  mem := List.mem_cons_self
  obj := fun i h ⟨⟨e1, e2, x, y, e3⟩, e4, e5⟩ c hc => by
    simp only [List.mem_cons, List.not_mem_nil, or_false] at hc
    rcases hc with rfl | rfl | rfl | rfl | rfl
    · exact ⟨_, e1, fun v q => nomatch q⟩
    · exact ⟨_, e2, fun v q => nomatch q⟩
    · exact ⟨_, e3, fun v q => nomatch q⟩
    · exact (feed_tup _ a #[]).has e4
    · exact (feed_list _ b #[]).has e5
  keep := fun i h g ⟨⟨e1, e2, x, y, e3⟩, e4, e5⟩ k => ⟨⟨k z (by simp) _ e1, k TI (by simp) _ e2, x, y, k TO (by simp) _ e3⟩, e4.at fun o e => k i1 (by simp) o e, e5.at fun o e => k i2 (by simp) o e⟩
  item := by
    intro X eP ew eK calm i pins s σ H E I hf st go
    subst eP ew eK
    obtain ⟨⟨e1, e2, x0, y0, e3⟩, e4, e5⟩ := st
    obtain ⟨xs, ys, x, y, qx, qy, hx, hy⟩ := go
    obtain ⟨us, ru, pu, _⟩ := I.tuple qx
    obtain ⟨vs, rv, pv, _⟩ := I.list qy
    obtain ⟨u, hu, xu⟩ := ru.get hx
    obtain ⟨v, hv, yv⟩ := rv.get hy
    have zl : z < s.heap.objs.size := Heap.lt_size e1
    refine feed_py_next (feed_tup i1 a us.toArray) (feed_list i2 b vs.toArray) D e1 e2 e3 e4 e5 pu pv.isList (x := u) (y := v) (by simpa using hu) (by simpa using hv) fun g z' o' a' b' T' n' k' => ⟨_, rfl, ?_⟩
    refine wpAny_letOwnedTupleGo_zip (s := { s with heap := g }) z' fun g2 z2 same => ?_
    have T2 : g2.get? s.heap.objs.size = some { cls := .type "tuple", data := .seq #[u, v] } := (same.2 _ (Nat.ne_of_gt zl)).trans T'
    have J : Inv X pins σ (upd H s.heap.objs.size (.tup [x, y])) { s with heap := g2 } :=
      I.turnedNew (t' := s.toks) (ch := [z, TI, TO, i1, i2]) (fun c o hb q => (same.2 c (fun e => hb (by simp [e]))).trans (k' c o (fun e => hb (by simp [e])) (fun e => hb (by simp [e])) (fun e => hb (by simp [e])) (fun e => hb (by simp [e])) q)) hf (Nat.le_refl _)
        ⟨by show 2 ≤ sizeLine; decide, [u, v], .cons xu (.cons yv .nil), ⟨_, T2, rfl, _, rfl⟩⟩
    refine ⟨.ref s.heap.objs.size, _, J, rfl, ⟨_, x, y, rfl, I.hok.fresh (Nat.le_refl _), rfl, fun l hl => by rw [I.tuple_inj hl qx]; exact hx, fun l hl => by rw [I.list_inj hl qy]; exact hy⟩, ?_, fun c hc => ?_⟩
    · exact ⟨⟨z2, (same.2 _ D.TIz).trans (k' _ _ D.TIz D.TITO D.TIi1 D.TIi2 e2), u, v, (same.2 _ D.TOz).trans o'⟩, a'.at fun o e => (same.2 _ D.i1z).trans e, b'.at fun o e => (same.2 _ D.i2z).trans e⟩
    · have lt : c < s.heap.objs.size := by
        simp only [List.mem_cons, List.not_mem_nil, or_false] at hc
        rcases hc with rfl | rfl | rfl | rfl | rfl
        · exact zl
        · exact Heap.lt_size e2
        · exact Heap.lt_size e3
        · exact Heap.lt_size e4.choose_spec.1
        · exact Heap.lt_size e5.choose_spec.1
      rw [upd_ne (Nat.ne_of_lt lt)]
      exact (hf c hc).1
  done := by
    intro X eP ew eK calm i pins s σ H E I hf st go
    subst eP ew eK
    obtain ⟨⟨e1, e2, x0, y0, e3⟩, e4, e5⟩ := st
    obtain ⟨xs, ys, qx, qy, over⟩ := go
    obtain ⟨us, ru, pu, _⟩ := I.tuple qx
    obtain ⟨vs, rv, pv, _⟩ := I.list qy
    have n1 := ru.length
    have n2 := rv.length
    have no : us.toArray[i]? = none ∨ vs.toArray[i]? = none := over.imp (fun e => by simp; omega) (fun e => by simp; omega)
    exact feed_py_end (I.ok.hd calm) (feed_tup i1 a us.toArray) (feed_list i2 b vs.toArray) D e1 e2 e3 e4 e5 pu pv.isList no fun g k' => ⟨rfl, I.turnedL (t' := s.toks) (ch := [z, TI, TO, i1, i2])
      (fun c o hb q => k' c o (fun e => hb (by simp [e])) (fun e => hb (by simp [e])) (fun e => hb (by simp [e])) (fun e => hb (by simp [e])) q) hf⟩
  self := fun A i s Q E st h => wpAny_pyIter_zip st.1.1 h
/-- the five new objects of zip(tuple, list) -/
def zm1 (h : Heap) (a : Addr) : Heap := h.push { cls := .type "tuple_iterator", data := .fields #[.ref a, .int 0 0] }
def zm2 (h : Heap) (a b : Addr) : Heap := (zm1 h a).push { cls := .type "list_iterator", data := .fields #[.ref b, .int 0 0] }
def zm3 (h : Heap) (a b : Addr) : Heap := (zm2 h a b).push { cls := .type "tuple", data := .seq #[.ref h.objs.size, .ref (zm1 h a).objs.size] }
def zm4 (h : Heap) (a b : Addr) : Heap := (zm3 h a b).push { cls := .type "tuple", data := .seq #[.none, .none] }
def zm5 (h : Heap) (a b : Addr) : Heap := (zm4 h a b).push { cls := .type "zip", data := .fields #[.none, .bool false, .bool false, .ref (zm2 h a b).objs.size, .ref (zm3 h a b).objs.size] }
theorem meets_zipM (a b : Addr) (xs ys : Array Value) : Meets (Builtin.«zip.__new__» ⟨[.type "zip", .ref a, .ref b], []⟩) (fun _ R s => s.heap.IsTuple a xs ∧ s.heap.IsList b ys ∧ R (.ok (.ret (.ref (zm4 s.heap a b).objs.size))) { s with heap := zm5 s.heap a b }) :=
  .of_wp fun prog w A R s ⟨ha, hb, h⟩ => by
    obtain ⟨hp, gs, dr, tk, os⟩ := s
    have sz := sub_zip
    have t1 : Heap.IsTuple (Shared.heap ⟨hp, gs, dr, tk, os⟩) a xs := ha
    have t2 : Heap.IsList (Shared.heap ⟨hp.push { cls := .type "tuple_iterator", data := .fields #[.ref a, .int 0 0] }, gs, dr, tk, os⟩) b ys := Heap.IsList.push hb _
    wp_walk using wpAny_pyIter_tuple t1, wpAny_pyIter_list t2
    exact ⟨_, rfl, h⟩
theorem call_zipM {p : Program} {w : World} {A : Around} {E : Value → Shared → Prop} {s : Shared} {a b : Addr} {xs ys : Array Value} {Q : Value → Shared → Prop} (ha : s.heap.IsTuple a xs) (hb : s.heap.IsList b ys)
    (q : ∀ g, IsZip g (s.heap.objs.size + 4) (s.heap.objs.size + 2) (s.heap.objs.size + 3) .none → IsPair g (s.heap.objs.size + 2) (.ref s.heap.objs.size) (.ref (s.heap.objs.size + 1)) → IsPair g (s.heap.objs.size + 3) .none .none →
      g.IsTupleIter s.heap.objs.size a 0 → g.IsListIter (s.heap.objs.size + 1) b 0 → (∀ c o, s.heap.get? c = some o → g.get? c = some o) → Q (.ref (s.heap.objs.size + 4)) { s with heap := g }) : wpAny (model p w) A (call (.type "zip") [.ref a, .ref b]) Q E s := by
  refine callType_new F.called_zip (by decide) (F.typeCall_zip_2 _ _) (F.newCall_zip_2 _ _) (fun obj => F.args_object_init_3 obj _ _) F.entry_zip_new (meets_zipM a b xs ys) ⟨ha, hb, ?_⟩
  have n1 : (zm1 s.heap a).objs.size = s.heap.objs.size + 1 := Heap.size_push ..
  have n2 : (zm2 s.heap a b).objs.size = s.heap.objs.size + 2 := (Heap.size_push ..).trans (by rw [n1])
  have n3 : (zm3 s.heap a b).objs.size = s.heap.objs.size + 3 := (Heap.size_push ..).trans (by rw [n2])
  have n4 : (zm4 s.heap a b).objs.size = s.heap.objs.size + 4 := (Heap.size_push ..).trans (by rw [n3])
  have up : ∀ {c o}, (zm2 s.heap a b).get? c = some o → (zm5 s.heap a b).get? c = some o := fun e => Heap.get?_push_of_some _ (Heap.get?_push_of_some _ (Heap.get?_push_of_some _ e))
  have f5 : (zm5 s.heap a b).get? (zm4 s.heap a b).objs.size = some { cls := .type "zip", data := .fields #[.none, .bool false, .bool false, .ref (zm2 s.heap a b).objs.size, .ref (zm3 s.heap a b).objs.size] } := Heap.get?_push_size _ rfl
  have f4 : (zm5 s.heap a b).get? (zm3 s.heap a b).objs.size = some { cls := .type "tuple", data := .seq #[.none, .none] } := Heap.get?_push_of_some _ (Heap.get?_push_size _ rfl)
  have f3 : (zm5 s.heap a b).get? (zm2 s.heap a b).objs.size = some { cls := .type "tuple", data := .seq #[.ref s.heap.objs.size, .ref (zm1 s.heap a).objs.size] } := Heap.get?_push_of_some _ (Heap.get?_push_of_some _ (Heap.get?_push_size _ rfl))
  have f2 : (zm5 s.heap a b).get? (zm1 s.heap a).objs.size = some { cls := .type "list_iterator", data := .fields #[.ref b, .int 0 0] } := up (Heap.get?_push_size _ rfl)
  have f1 : (zm5 s.heap a b).get? s.heap.objs.size = some { cls := .type "tuple_iterator", data := .fields #[.ref a, .int 0 0] } := up (Heap.get?_push_of_some _ (Heap.get?_push_size _ rfl))
  rw [n2, n3, n4] at f5
  rw [n1, n2] at f3
  rw [n3] at f4
  rw [n1] at f2
  show _ ∧ _
  rw [n4]
  exact ⟨⟨_, f5, rfl⟩, q _ f5 f3 f4 ⟨_, f1, rfl, rfl⟩ ⟨_, f2, rfl, rfl⟩ fun c o e => up (Heap.get?_push_of_some _ (Heap.get?_push_of_some _ e))⟩
def iZipM (K : PySem.W.Frag) (ta : TA) : TI := fun σ H R => ta σ H fun vs H1 => ∃ (a b : Addr) (xs ys : List V), vs = [.ref a, .ref b] ∧ SqT K H1 a xs ∧ SqL K H1 b ys ∧ R (ItzM K a b) H1
theorem g_zipM {K : PySem.W.Frag} {ta : TA} {σ : L2.St} {H : Hp} {R : It → Hp → Prop} (h : ta σ H fun vs H1 => ∃ (a b : Addr) (xs ys : List V), vs = [.ref a, .ref b] ∧ SqT K H1 a xs ∧ SqL K H1 b ys ∧ R (ItzM K a b) H1) : iZipM K ta σ H R := h
theorem pi_zipM {X : Cx} {e e2 : Expr} {ta : TA} {p pos tp : Pos} {es : List Expr} {kk : Nat} (hg : Gl X "zip") (hm : X.mg "zip" = none) (ha : PA X [e, e2] ta)
    (hs : starEach [e, e2] X.env = (false, eval e X.env) :: starEach [e2] X.env := by rfl) (hpl : (backTo pos (starEach [e2] X.env)).any (·.1) = false := by rfl) : PI X (.Tuple es kk tp) (.Call (.Name "zip" p) [e, e2] [] pos) (iZipM X.K ta) := by
  refine ⟨fun pins s σ H R I h => Call_ (ld_blt I hg hm PyProof.Rows.boot_zip (PyProof.Rows.callWith_type1 (thn (ha.run pos pins s σ H _ I h) fun us s1 ⟨vs, H1, I1, r1, a, b, xs, ys, ev, qx, qy, q⟩ => ?_) hs hpl))⟩
  subst ev
  cases r1 with
  | cons ra rr =>
  cases rr with
  | cons rb rr =>
  cases rr
  cases ra
  cases rb
  obtain ⟨us, ru, pu, _⟩ := I1.tuple qx
  obtain ⟨vs, rv, pv, _⟩ := I1.list qy
  obtain ⟨oa, la, _⟩ := id pu
  have fresh : ∀ c, c ∈ [s1.heap.objs.size + 4, s1.heap.objs.size + 2, s1.heap.objs.size + 3, s1.heap.objs.size, s1.heap.objs.size + 1] → FpOk X pins H1 c := fun c hc => by
    have le : s1.heap.objs.size ≤ c := by
      simp only [List.mem_cons, List.not_mem_nil, or_false] at hc
      omega
    exact I1.fpOk le (I1.hok.fresh le)
  refine call_zipM pu pv.isList fun g z' t' o' a' b' k' => wpAny_pyIter_zip z' ?_
  exact ⟨s1.heap.objs.size + 4, [s1.heap.objs.size + 4, s1.heap.objs.size + 2, s1.heap.objs.size + 3, s1.heap.objs.size, s1.heap.objs.size + 1], _, _, H1, rfl, I1.kept (t' := s1.toks) k',
    turn_zipM (PySem.W.ktu_apart s1.heap.objs.size a b (Heap.lt_size la) pv.lt), ⟨⟨z', t', _, _, o'⟩, a', b'⟩, fresh, q⟩
end Bk

set_option Elab.async false
set_option linter.all false
set_option maxRecDepth 100000
set_option maxHeartbeats 2000000
namespace Bk
open PySem PySem.Spec PyProof.Rows L2
/-! ### rows compared, either way -/
def IntVals (ks : List (Key × V)) : Prop := ∀ p ∈ ks, ∃ i : Int, p.2 = .int i
def sameRows (ks ls : List (Key × V)) : Bool := (ks.length == ls.length) && ks.all fun p => decide (valV ls p.1 = some p.2)
theorem valV_in {kvs : List (Key × V)} {k : Key} {v : V} (h : valV kvs k = some v) : (k, v) ∈ kvs := by
  unfold valV at h
  obtain ⟨⟨a, b⟩, h1, h2⟩ := Option.map_eq_some_iff.mp h
  have e : a = k := of_decide_eq_true (List.find?_some (p := fun kv : Key × V => decide (kv.1 = k)) h1)
  have h2 : b = v := h2
  subst e
  subst h2
  exact List.mem_of_find?_eq_some h1
theorem hits_ints {A : Around} {s : Shared} {ls : List (Key × V)} {vb : List (Key × Value)} (rb : KV ls vb) (hb : IntVals ls) : ∀ {ks : List (Key × V)} {va : List (Key × Value)}, KV ks va → IntVals ks → PySem.W.KeqHits A s vb va (ks.all fun p => decide (valV ls p.1 = some p.2)) := by
  intro ks va ra
  unfold KV at ra
  induction ra with
  | nil => exact fun _ => .nil
  | @cons p q ps qs h t ih =>
    intro hp
    obtain ⟨pk, pv⟩ := p
    obtain ⟨qk, qv⟩ := q
    obtain ⟨h1, h2⟩ := h
    have h1 : pk = qk := h1
    subst h1
    obtain ⟨i, hi⟩ := hp _ List.mem_cons_self
    have hi : pv = .int i := hi
    subst hi
    obtain ⟨t1, e1⟩ := (show ∃ t, qv = Value.int i t from h2)
    subst e1
    have rr : RelO (valV ls pk) (valueAt vb pk) := rb.val pk
    have rest := ih fun p' hm => hp p' (List.mem_cons_of_mem _ hm)
    rw [List.all_cons]
    cases hv : valV ls pk with
    | none =>
      rw [hv] at rr
      rw [show decide ((none : Option V) = some (.int i)) = false from decide_eq_false (fun z => nomatch z), Bool.false_and]
      exact .miss rr.none_of
    | some y =>
      rw [hv] at rr
      obtain ⟨u, hu, ru⟩ := rr.some_of
      obtain ⟨j, hj⟩ := hb _ (valV_in hv)
      have hj : y = .int j := hj
      subst hj
      obtain ⟨t2, e2⟩ := (show ∃ t, u = Value.int j t from ru)
      subst e2
      have q := SeqAt.EqAt.int_int (A := A) (s := s) i t1 j t2
      have e : (i == j) = decide (some (V.int j) = some (V.int i)) := by
        by_cases c : i = j
        · subst c; simp
        · rw [decide_eq_false (fun z => c (V.int.inj (Option.some.inj z)).symm)]
          simpa using c
      rw [e] at q
      exact .hit hu q rest
def rNeDI : R2 := fun x y H Q => ∃ a b ks ls, x = .ref a ∧ y = .ref b ∧ H a = some (.dK ks) ∧ H b = some (.dK ls) ∧ IntVals ks ∧ IntVals ls ∧ Q (.bl (!sameRows ks ls)) H
theorem op_neDI {X : Cx} (hu : X.A.units < cLine) : OpR X (compareOp .NotEq) rNeDI := by
  intro pins s σ H x y v u Q I rx ry h
  obtain ⟨a, b, ks, ls, rfl, rfl, ea, eb, ha, hb, q⟩ := h
  obtain rfl : v = Value.ref a := rx
  obtain rfl : u = Value.ref b := ry
  obtain ⟨_, ya, va, ra, da⟩ := (show ObjOk X.prog X.w H s.heap a (.dK ks) from I.hok a _ ea)
  obtain ⟨_, yb, vb, rb, db⟩ := (show ObjOk X.prog X.w H s.heap b (.dK ls) from I.hok b _ eb)
  have l1 : ks.length = va.length := ra.length
  have l2 : ls.length = vb.length := rb.length
  refine PySem.W.keq_ne (knd := mixKind X.prog X.w) (r := ks.all fun p => decide (valV ls p.1 = some p.2)) ya yb da db hu (fun _ => hits_ints rb hb ra ha) ?_
  rw [← l1, ← l2]
  exact fin_bl I q rfl
def rEqDI : R2 := fun x y H Q => ∃ a b ks ls, x = .ref a ∧ y = .ref b ∧ H a = some (.dK ks) ∧ H b = some (.dK ls) ∧ IntVals ks ∧ IntVals ls ∧ Q (.bl (sameRows ks ls)) H
theorem op_eqDI {X : Cx} (hu : X.A.units < cLine) : OpR X (compareOp .Eq) rEqDI := by
  intro pins s σ H x y v u Q I rx ry h
  obtain ⟨a, b, ks, ls, rfl, rfl, ea, eb, ha, hb, q⟩ := h
  obtain rfl : v = Value.ref a := rx
  obtain rfl : u = Value.ref b := ry
  obtain ⟨_, ya, va, ra, da⟩ := (show ObjOk X.prog X.w H s.heap a (.dK ks) from I.hok a _ ea)
  obtain ⟨_, yb, vb, rb, db⟩ := (show ObjOk X.prog X.w H s.heap b (.dK ls) from I.hok b _ eb)
  have l1 : ks.length = va.length := ra.length
  have l2 : ls.length = vb.length := rb.length
  refine PySem.W.keq_eq (knd := mixKind X.prog X.w) (r := ks.all fun p => decide (valV ls p.1 = some p.2)) ya yb da db hu (fun _ => hits_ints rb hb ra ha) ?_
  rw [← l1, ← l2]
  exact fin_bl I q rfl
/-! ### a dict comprehension over any walk -/
theorem g_dc {wi : TI} {g : TG} {tt : TT} {tk tv : TE} {vs : List Nat} {σ : L2.St} {H : Hp} {Q : VK} (h : wi σ H fun J H1 => ∀ D, H1 D = none → ∃ W : Nat → Nat → Hp → Prop, (∃ m, W 0 m (upd H1 D (.dK []))) ∧ ∀ i m H, W i m H →
    (J.stop i H ∧ Q (.ref D) H) ∨ (J.go i H ∧ ∃ Nx : Hp → Prop, (∀ H', Nx H' → ∃ m', m' < m ∧ W (i + 1) m' H') ∧ ∀ x H', J.yld i H x H' → g x (wipe σ vs) H' fun σ2 H2 => wipe σ2 vs = wipe σ vs ∧ tt σ2 H2 fun b H3 =>
      if b = true then tk σ2 H3 fun y H4 => tv σ2 H4 fun z H5 => ∃ kvs k, y = kV k ∧ H5 D = some (.dK kvs) ∧ kvs.length < sizeLine ∧ Nx (upd H5 D (.dK (putK kvs k z))) else Nx H3)) : tDc wi g tt tk tv vs σ H Q := h
theorem dc_it {J : It} {n : Nat} {G : Hp → Prop} {Y : Nat → Hp → V → Hp → Prop} (w : Walk J n G Y) {g : TG} {tt : TT} {tk tv : TE} {vs : List Nat} {σ : L2.St} {H1 : Hp} {D : Addr} {Qd : Hp → Prop} (Pv : Nat → Hp → Prop) (h0 : Pv 0 (upd H1 D (.dK []))) (hG : ∀ i H, i ≤ n → Pv i H → G H)
    (hs : ∀ i x H H', i < n → Pv i H → Y i H x H' → g x (wipe σ vs) H' fun σ2 H2 => wipe σ2 vs = wipe σ vs ∧ tt σ2 H2 fun b H3 =>
      if b = true then tk σ2 H3 fun y H4 => tv σ2 H4 fun z H5 => ∃ kvs k, y = kV k ∧ H5 D = some (.dK kvs) ∧ kvs.length < sizeLine ∧ Pv (i + 1) (upd H5 D (.dK (putK kvs k z))) else Pv (i + 1) H3) (hd : ∀ H, Pv n H → Qd H) :
    ∃ W : Nat → Nat → Hp → Prop, (∃ m, W 0 m (upd H1 D (.dK []))) ∧ ∀ i m H, W i m H →
      (J.stop i H ∧ Qd H) ∨ (J.go i H ∧ ∃ Nx : Hp → Prop, (∀ H', Nx H' → ∃ m', m' < m ∧ W (i + 1) m' H') ∧ ∀ x H', J.yld i H x H' → g x (wipe σ vs) H' fun σ2 H2 => wipe σ2 vs = wipe σ vs ∧ tt σ2 H2 fun b H3 =>
        if b = true then tk σ2 H3 fun y H4 => tv σ2 H4 fun z H5 => ∃ kvs k, y = kV k ∧ H5 D = some (.dK kvs) ∧ kvs.length < sizeLine ∧ Nx (upd H5 D (.dK (putK kvs k z))) else Nx H3) := by
  refine ⟨fun i m H => m = n - i ∧ (i ≤ n ∧ Pv i H), ⟨n - 0, rfl, Nat.zero_le _, h0⟩, fun i m H ⟨em, le, pv⟩ => ?_⟩
  have gg := hG i H le pv
  rcases Nat.lt_or_ge i n with lt | ge
  · exact .inr ⟨w.goes i H lt gg, Pv (i + 1), fun G' p' => ⟨n - (i + 1), by omega, rfl, lt, p'⟩, fun x G' y => hs i x H G' lt pv (w.yields i H x G' lt gg y)⟩
  · have e : i = n := Nat.le_antisymm le ge
    subst e
    exact .inl ⟨w.stops H gg, hd H pv⟩
theorem g_din {ty td : TE} {σ : L2.St} {H : Hp} {Q : VK} (h : ty σ H fun y H1 => td σ H1 fun x H2 => ∃ a o, x = .ref a ∧ DGet H2 a y o ∧ Q (.bl o.isSome) H2) : tDIn ty td σ H Q := h
theorem g_dnotin {ty td : TE} {σ : L2.St} {H : Hp} {Q : VK} (h : ty σ H fun y H1 => td σ H1 fun x H2 => ∃ a o, x = .ref a ∧ DGet H2 a y o ∧ Q (.bl (!o.isSome)) H2) : tDNotIn ty td σ H Q := h
theorem g_has {H : Hp} {d : Addr} {kvs : List (Key × V)} {x : Str} {R : Bool → Prop} (hd : H d = some (.dK kvs)) (h : R (valV kvs (.inr x)).isSome) : ∃ a o, V.ref d = .ref a ∧ DGet H a (.str x) o ∧ R o.isSome :=
  ⟨d, _, rfl, .inl ⟨kvs, .inr x, .inl hd, rfl, rfl⟩, h⟩
/-! ### the same rules with the frag's own name (within comprehensions) -/
theorem pi_tupK {X : Cx} {K : PySem.W.Frag} {tg l : Expr} {tl : TE} (h : X.K = K) (he : PE X l tl) : PI X tg l (iTup K tl) := by
  subst h
  exact pi_tup he
theorem pi_listK {X : Cx} {K : PySem.W.Frag} {tg l : Expr} {tl : TE} (h : X.K = K) (he : PE X l tl) : PI X tg l (iList K tl) := by
  subst h
  exact pi_list he
theorem op_inK {X : Cx} {K : PySem.W.Frag} (h : X.K = K) : OpR X (compareOp .In) (rIn K false) := by
  subst h
  exact op_in_seq
theorem op_notInK {X : Cx} {K : PySem.W.Frag} (h : X.K = K) : OpR X (compareOp .NotIn) (rIn K true) := by
  subst h
  exact op_notIn_seq
theorem g_dpop {td ty : TE} {σ : L2.St} {H : Hp} {Q : VK} (h : td σ H fun x H1 => ∃ a, x = .ref a ∧ IsD H1 a ∧ ty σ H1 fun y H2 => ∃ kvs k v, H2 a = some (.dK kvs) ∧ y = kV k ∧ valV kvs k = some v ∧ Q v (upd H2 a (.dK (dropK kvs k)))) : tDPop1 td ty σ H Q := h
end Bk

set_option Elab.async false
set_option linter.all false
set_option maxRecDepth 100000
set_option maxHeartbeats 2000000
/-! sorted of a list of tuples of ints and texts -/
namespace Bk
open PySem PySem.Spec PyProof.Rows L2
abbrev Itm := Int ⊕ List Nat
def kItm : Key → Itm
  | .inl i => .inl i
  | .inr x => .inr x.cps.toList
def isS : Key → Bool
  | .inl _ => false
  | .inr _ => true
def kk (ks : List Key) : List Itm := ks.map kItm
/-- one row before another: item by item -/
def ltK (a b : List Key) : Bool := PyProof.Rows.lexLt itemOrd (kk a) (kk b)
theorem ltK_irr (a : List Key) : ltK a a = false := lex_irrefl (O := itemOrd) _
theorem ltK_tr {a b c : List Key} (h1 : ltK a b = true) (h2 : ltK b c = true) : ltK a c = true := lex_trans (O := itemOrd) _ _ _ h1 h2
theorem ltK_neg {a b c : List Key} (h : ltK a c = true) : ltK a b = true ∨ ltK b c = true := lex_negTrans (O := itemOrd) _ _ _ h
theorem kItm_inj {a b : Key} (h : kItm a = kItm b) : a = b := by
  cases a <;> cases b
  · exact congrArg _ (Sum.inl.inj h)
  · cases h
  · cases h
  · rename_i x y
    obtain ⟨x⟩ := x
    obtain ⟨y⟩ := y
    have := Array.ext' (Sum.inr.inj h)
    rw [show x = y from this]
theorem kk_inj : ∀ {a b : List Key}, kk a = kk b → a = b
  | [], [], _ => rfl
  | [], _ :: _, h => by cases h
  | _ :: _, [], h => by cases h
  | x :: a, y :: b, h => by
    have h : kItm x :: kk a = kItm y :: kk b := h
    obtain ⟨h1, h2⟩ := List.cons.inj h
    rw [kItm_inj h1, kk_inj h2]
theorem ltK_total {a b : List Key} (h1 : ltK a b = false) (h2 : ltK b a = false) : a = b := kk_inj (lex_total (O := itemOrd) _ _ h1 h2)
theorem ltK_swo {α : Type} (k : α → List Key) : SrtO.Swo fun x y : α => ltK (k x) (k y) := by
  refine ⟨fun x y h => ?_, fun x y z h1 h2 => ?_⟩
  · cases e : ltK (k y) (k x)
    · rfl
    · have := ltK_tr h e
      rw [ltK_irr] at this
      cases this
  · cases e : ltK (k z) (k x)
    · rfl
    · rcases ltK_neg (b := k y) e with c | c
      · rw [h2] at c; cases c
      · rw [h1] at c; cases c
/-- an object that is a tuple of these -/
def IsRow (h : Heap) (v : Value) (ks : List Key) : Prop := ∃ a o n us, v = .ref a ∧ h.get? a = some o ∧ o.cls = .type "tuple" ∧ o.data = .seq us n ∧ Vals (ks.map kV) us.toList
theorem IsRow.keeps {h h' : Heap} {v : Value} {ks : List Key} (x : IsRow h v ks) (k : ∀ b o, h.get? b = some o → o.cls = .type "tuple" → h'.get? b = some o) : IsRow h' v ks := by
  obtain ⟨a, o, n, us, e, ho, hc, hd, hv⟩ := x
  exact ⟨a, o, n, us, e, k _ _ ho hc, hc, hd, hv⟩
theorem items_at {shape : Nat → Bool} : ∀ {ks : List Key} {us : List Value} (i : Nat), Vals (ks.map kV) us → (∀ j k, ks[j]? = some k → shape (i + j) = isS k) → tupItems shape i us = some (kk ks)
  | [], _, _, .nil, _ => rfl
  | .inl n :: ks, u :: us, i, .cons r t, h => by
    obtain ⟨tk, rfl⟩ := (r : RelV (.int n) u)
    have h0 : shape i = false := h 0 (.inl n) rfl
    have ih := items_at (i + 1) t fun j k hj => by
      have := h (j + 1) k hj
      rwa [show i + (j + 1) = i + 1 + j by omega] at this
    show (if shape i = true then none else (tupItems shape (i + 1) us).map (Sum.inl n :: ·)) = _
    rw [h0, if_neg Bool.false_ne_true, ih]
    rfl
  | .inr x :: ks, u :: us, i, .cons r t, h => by
    obtain ⟨tk, rfl⟩ := (r : RelV (.str x) u)
    have h0 : shape i = true := h 0 (.inr x) rfl
    have ih := items_at (i + 1) t fun j k hj => by
      have := h (j + 1) k hj
      rwa [show i + (j + 1) = i + 1 + j by omega] at this
    show (if shape i = true then (tupItems shape (i + 1) us).map (Sum.inr x.cps.toList :: ·) else none) = _
    rw [h0, if_pos rfl, ih]
    rfl
def shp (sh : List Bool) (i : Nat) : Bool := sh.getD i false
theorem shp_at {sh : List Bool} {ks : List Key} (e : ks.map isS = sh) : ∀ j k, ks[j]? = some k → shp sh (0 + j) = isS k := fun j k h => by
  unfold shp
  rw [Nat.zero_add, ← e, List.getD_eq_getElem?_getD, List.getElem?_map, h]
  rfl
theorem IsRow.key {h : Heap} {v : Value} {ks : List Key} {sh : List Bool} (x : IsRow h v ks) (e : ks.map isS = sh) : tupKey h (shp sh) v = some (kk ks) := by
  obtain ⟨a, o, n, us, rfl, ho, hc, hd, hv⟩ := x
  unfold tupKey
  simp only [ho, hd]
  exact items_at 0 hv (shp_at e)
theorem rows_tups {h : Heap} {k : Value → List Key} {sh : List Bool} (ne : sh ≠ []) : ∀ {vs : List Value}, (∀ v ∈ vs, IsRow h v (k v) ∧ (k v).map isS = sh) → ∃ fs, fs.length = vs.length ∧ TupsOf h (shp sh) vs fs
  | [], _ => ⟨[], rfl, .nil⟩
  | v :: vs, H => by
    obtain ⟨fs, hl, r⟩ := rows_tups ne fun u hu => H u (List.mem_cons_of_mem _ hu)
    obtain ⟨⟨a, o, n, us, e, ho, hc, hd, hv⟩, hs⟩ := H v List.mem_cons_self
    generalize hkv : k v = ks at hv hs
    cases ks with
    | nil => exact absurd hs.symm ne
    | cons x ks =>
      match hus : us.toList, hv with
      | u :: us', .cons r1 t =>
        have h0 : us[0]? = some u := by rw [← Array.getElem?_toList, hus]; rfl
        have hx := shp_at hs 0 x rfl
        refine ⟨u :: fs, by rw [List.length_cons, List.length_cons, hl], .cons ⟨a, o, us, n, e, ho, hc, hd, h0, fun z => ?_, fun z => ?_⟩ r⟩
        · have hx : shp sh 0 = isS x := hx
          rw [z] at hx
          cases x with
          | inl i => exact ⟨i, (r1 : RelV (.int i) u)⟩
          | inr y => cases hx
        · have hx : shp sh 0 = isS x := hx
          rw [z] at hx
          cases x with
          | inl i => cases hx
          | inr y => exact ⟨y, (r1 : RelV (.str y) u)⟩
section
variable {prog : Program} {w : World} {A : Around} {s : Shared} {E : Value → Shared → Prop}
theorem rows_cmp {vs : List Value} {k : Value → List Key} {sh : List Bool} (hp : ∀ v ∈ vs, IsRow s.heap v (k v) ∧ (k v).map isS = sh) : SrtO.Cmp prog w A s (tuples' true) (fun p => p.1 ∈ vs) (SrtO.lt2 fun v u => ltK (k v) (k u)) := by
  intro p q hm hm'
  obtain ⟨h1, e1⟩ := hp _ hm
  obtain ⟨h2, e2⟩ := hp _ hm'
  exact tup_ltAt (shape := shp sh) true A _ p.1 q.1 (kk (k p.1)) (kk (k q.1)) (h1.key e1) (h2.key e2) ⟨rfl, rfl⟩
theorem rows_sortable {a : Addr} {vs : List Value} {k : Value → List Key} {sh : List Bool} (ne : sh ≠ []) (h0 : 0 < vs.length) (hp : ∀ v ∈ vs, IsRow s.heap v (k v) ∧ (k v).map isS = sh) (ha : ∀ o, s.heap.get? a = some o → o.cls ≠ .type "tuple") : SrtO.SortableO prog w A s a vs fun v u => ltK (k v) (k u) := by
  intro h' keep
  have hp' : ∀ v ∈ vs, IsRow h' v (k v) ∧ (k v).map isS = sh := fun v hm => ⟨(hp v hm).1.keeps fun b o e c => keep b o (fun z => by subst z; exact ha o e c) e, (hp v hm).2⟩
  obtain ⟨fs, hl, ht⟩ := rows_tups ne hp'
  exact ⟨tuples' true, fun Q E hq => tup_kind (shape := shp sh) (by omega) ht hq, rows_cmp hp'⟩
theorem sorted_rows {l : Addr} {vs : List Value} {k : Value → List Key} {sh : List Bool} {Q : Value → Shared → Prop} (ne : sh ≠ []) (hl : s.heap.IsList l vs.toArray) (hz : vs.length ≤ sizeLine) (hp : ∀ v ∈ vs, IsRow s.heap v (k v) ∧ (k v).map isS = sh)
    (h : ∀ (h' : Heap) (d : Addr) (out : List Value), SrtO.Srtd (fun v u => ltK (k v) (k u)) out → SrtO.Stb (fun v u => ltK (k v) (k u)) out vs → (∀ b o, s.heap.get? b = some o → h'.get? b = some o) → s.heap.objs.size ≤ d → (∃ n, h'.get? d = some (seqObj "list" out.toArray n)) → Q (.ref d) { s with heap := h' }) :
    wpAny (model prog w) A (call (.builtin "sorted") [.ref l]) Q E s := by
  refine SrtO.sorted_ord (ltK_swo k) hl hz (fun h2 h₁ a ha kp => ?_) fun out hs hb => ?_
  · refine rows_sortable (s := { s with heap := h₁ }) ne (by omega) (fun v hm => ⟨(hp v hm).1.keeps fun b o e _ => (kp b o e).2, (hp v hm).2⟩) fun o e => ?_
    have e' : some o = some (seqObj "list" vs.toArray 0) := e.symm.trans ha
    cases e'
    intro c
    exact absurd (Value.type.inj c) (by decide)
  · exact h _ _ out hs hb (fun b o e => PyProof.Rows.sortedAll_old e) (Nat.le_succ _) (PyProof.Rows.sortedAll_at s.heap vs out.toArray)
end
/-- sorted(xs), xs a list of tuples of ints and texts, all of one shape: a new list, sorted, equal ones in their order -/
def rSortedF (K : PySem.W.Frag) : List V → Hp → VK → Prop := fun vs H Q => ∃ (a : Addr) (xs : List V) (k : V → List Key) (sh : List Bool), vs = [V.ref a] ∧ SqL K H a xs ∧ sh ≠ [] ∧ (∀ x ∈ xs, ∃ t, x = V.ref t ∧ H t = some (.tup ((k x).map kV)) ∧ (k x).map isS = sh) ∧
  ∀ ys p, SrtO.Srtd (fun x y => ltK (k x) (k y)) ys → SrtO.Stb (fun x y => ltK (k x) (k y)) ys xs → H p = none → Q (.ref p) (upd H p (.lst ys))
theorem cr_sortedF {X : Cx} : CallR X (.builtin "sorted") (rSortedF X.K) := by
  intro pins s σ H vs us Q I r h
  obtain ⟨a, xs, k, sh, rfl, hs, ne, hx, q⟩ := h
  obtain ⟨its, rv, hl, hz⟩ := I.list hs
  obtain ⟨u, rfl, ru⟩ := vals1 r
  obtain rfl : u = Value.ref a := ru
  obtain ⟨e1, e2⟩ := refs_back rv fun x m => by
    obtain ⟨t, e, _⟩ := hx x m
    exact ⟨t, e⟩
  refine sorted_rows (k := fun u => k (backV u)) ne hl.isList (by rw [← rv.length]; exact hz) (fun v hv => ?_) fun h' d out h1 h2 kp hd hn => ?_
  · obtain ⟨t, rfl⟩ := e2 v hv
    have hm : V.ref t ∈ xs := by rw [e1]; exact List.mem_map.mpr ⟨_, hv, rfl⟩
    obtain ⟨t', e, ht, hs⟩ := hx _ hm
    cases e
    obtain ⟨_, its2, r2, o, ho, hc, n, hd⟩ := I.hok _ _ ht
    exact ⟨⟨t, o, n, _, rfl, ho, hc, hd, by show Vals ((k (V.ref t)).map kV) _; simpa using r2⟩, hs⟩
  · have h3 : ∀ u ∈ out, ∃ a, u = Value.ref a := fun u hu => e2 u (h2.perm.mem_iff.mp hu)
    obtain ⟨n, hn⟩ := hn
    have hb : SrtO.Stb (fun x y => ltK (k x) (k y)) (out.map backV) xs := by
      rw [e1]
      exact SrtO.Stb.map (ltK_swo k) backV h2
    refine ⟨.ref d, upd H d (.lst (out.map backV)), I.laid (t' := s.toks) kp hd ⟨?_, out, n, vals_back h3, hn⟩, rfl, q _ d (SrtO.srtd_map h1) hb (I.hok.fresh hd)⟩
    rw [hb.len]
    exact hz
end Bk

set_option Elab.async false
set_option linter.all false
set_option maxRecDepth 100000
set_option maxHeartbeats 2000000
/-! Dicts whose keys are tuples within tuples: k in d, d[k], d[k] = v for a new k. -/
namespace Bk
open PySem PySem.Spec PyProof.Rows L2
mutual
/-- the value tells this key in the heap -/
inductive NV (H : Hp) : NestedKey → V → Prop
  | num (i : Int) : NV H (.num i) (.int i)
  | text (x : Str) : NV H (.text x) (.str x)
  | tup {a : Addr} {vs : List V} {ks : List NestedKey} : H a = some (.tup vs) → NVs H ks vs → NV H (.tup ks) (.ref a)
inductive NVs (H : Hp) : List NestedKey → List V → Prop
  | nil : NVs H [] []
  | cons {k : NestedKey} {v : V} {ks : List NestedKey} {vs : List V} : NV H k v → NVs H ks vs → NVs H (k :: ks) (v :: vs)
end
mutual
/-- tuples stay -/
theorem NV.tups {H H' : Hp} (t : ∀ a vs, H a = some (.tup vs) → H' a = some (.tup vs)) : ∀ {k : NestedKey} {v : V}, NV H k v → NV H' k v
  | .num _, _, .num i => .num i
  | .text _, _, .text x => .text x
  | .tup ks, _, .tup h r => .tup (t _ _ h) (NVs.tups t r)
theorem NVs.tups {H H' : Hp} (t : ∀ a vs, H a = some (.tup vs) → H' a = some (.tup vs)) : ∀ {ks : List NestedKey} {vs : List V}, NVs H ks vs → NVs H' ks vs
  | [], _, .nil => .nil
  | _ :: _, _, .cons h r => .cons (NV.tups t h) (NVs.tups t r)
end
mutual
theorem NV.one {H : Hp} : ∀ {k k' : NestedKey} {v : V}, NV H k v → NV H k' v → k = k'
  | .num _, _, _, .num i, h => by cases h; rfl
  | .text _, _, _, .text x, h => by cases h; rfl
  | .tup ks, _, _, .tup h r, h' => by
    cases h' with
    | tup h2 r2 =>
      rw [h] at h2
      cases h2
      rw [NVs.one r r2]
theorem NVs.one {H : Hp} : ∀ {ks ks' : List NestedKey} {vs : List V}, NVs H ks vs → NVs H ks' vs → ks = ks'
  | [], _, _, .nil, h => by cases h; rfl
  | _ :: _, _, _, .cons h r, h' => by
    cases h' with
    | cons h2 r2 => rw [NV.one h h2, NVs.one r r2]
end
section
variable {P : Program} {w : World} {H : Hp} {h : Heap}
mutual
theorem NV.is (ok : HOk P w H h) : ∀ {k : NestedKey} {v : V} {u : Value}, NV H k v → RelV v u → NestedIs h k u
  | .num _, _, _, .num i, r => by
    obtain ⟨t, rfl⟩ := r
    exact .int i t
  | .text _, _, _, .text x, r => by
    obtain ⟨t, rfl⟩ := r
    exact .text x t
  | .tup ks, .ref a, _, .tup ha rs, r => by
    cases r
    obtain ⟨_, its, rel, o, h1, h2, n, h3⟩ := ok a _ ha
    exact .tup h1 h2 h3 (by simpa using NVs.is ok rs rel)
theorem NVs.is (ok : HOk P w H h) : ∀ {ks : List NestedKey} {vs : List V} {us : List Value}, NVs H ks vs → Vals vs us → NestedAll h ks us
  | [], _, _, .nil, r => by
    cases r
    exact .nil
  | _ :: _, _, _, .cons h1 h2, r => by
    cases r with
    | cons r1 r2 => exact .cons (NV.is ok h1 r1) (NVs.is ok h2 r2)
end
end
/-- the rows of such a dict: key, the key's tuple, value -/
abbrev NRow := NestedKey × Addr × V
def getN (kvs : List NRow) (k : NestedKey) : Option V := (kvs.find? fun x => decide (x.1 = k)).map (·.2.2)
def PN : List NRow → List (NestedKey × Addr × Value) → Prop := Paired fun p q => (p.1 = q.1 ∧ p.2.1 = q.2.1) ∧ RelV p.2.2 q.2.2
theorem PN.get : ∀ {kvs : List NRow} {xs : List (NestedKey × Addr × Value)}, PN kvs xs → ∀ k, RelO (getN kvs k) ((atKey xs k).map (·.2))
  | _, _, .nil, _ => trivial
  | (k1, a1, v1) :: kvs, (k2, a2, u2) :: xs, .cons ⟨⟨e1, _⟩, r⟩ t, k => by
    have e1 : k1 = k2 := e1
    subst e1
    have ih := PN.get t k
    unfold getN atKey at ih ⊢
    rw [List.find?_cons, List.find?_cons]
    by_cases c : k1 = k
    · rw [decide_eq_true c]
      exact r
    · rw [decide_eq_false c]
      exact ih
theorem PN.len {kvs : List NRow} {xs : List (NestedKey × Addr × Value)} (r : PN kvs xs) : kvs.length = xs.length := Paired.length r
theorem PN.snoc : ∀ {kvs : List NRow} {xs : List (NestedKey × Addr × Value)} {k : NestedKey} {a : Addr} {v : V} {u : Value}, PN kvs xs → RelV v u → PN (kvs ++ [(k, a, v)]) (xs ++ [(k, a, u)])
  | _, _, _, _, _, _, .nil, r => .cons ⟨⟨rfl, rfl⟩, r⟩ .nil
  | _, _, _, _, _, _, .cons q t, r => .cons q (PN.snoc t r)
theorem PN.mem : ∀ {kvs : List NRow} {xs : List (NestedKey × Addr × Value)}, PN kvs xs → ∀ x ∈ xs, ∃ v, (x.1, x.2.1, v) ∈ kvs
  | _, _, .nil, x, hx => by cases hx
  | (k1, a1, v1) :: kvs, (k2, a2, u2) :: xs, .cons ⟨⟨e1, e2⟩, r⟩ t, x, hx => by
    rcases List.mem_cons.mp hx with rfl | hx
    · have e1 : k1 = k2 := e1
      have e2 : a1 = a2 := e2
      exact ⟨v1, by rw [e1, e2]; exact List.mem_cons_self⟩
    · obtain ⟨v, hv⟩ := PN.mem t x hx
      exact ⟨v, List.mem_cons_of_mem _ hv⟩
/-- the dict's own object -/
def phiN (w : World) (d : Addr) (kvs : List NRow) (h : Heap) : Prop := kvs.length ≤ sizeLine ∧ (d == sysModules) = false ∧ ∃ xs, PN kvs xs ∧ ∃ (o : Obj) (es : Array DictEntry) (ep : Nat),
  h.get? d = some o ∧ o.ExactDict ∧ o.data = .dict es ep ∧ es.toList = xs.map (fun x => (⟨x.1.hash w, .ref x.2.1, x.2.2⟩ : DictEntry)) ∧ (xs.map (·.1)).Nodup
/-- a dict keyed by nested tuples -/
def dNO (w : World) (d : Addr) (kvs : List NRow) : HO := .ext (phiN w d kvs)
/-- its keys stand in the heap -/
def NKs (H : Hp) (kvs : List NRow) : Prop := ∀ r ∈ kvs, NV H r.1 (.ref r.2.1) ∧ r.1.depth ≤ 8
theorem NKs.tups {H H' : Hp} {kvs : List NRow} (t : ∀ a vs, H a = some (.tup vs) → H' a = some (.tup vs)) (n : NKs H kvs) : NKs H' kvs := fun r hr => ⟨(n r hr).1.tups t, (n r hr).2⟩
theorem phiN_new {P : Program} {w : World} {H : Hp} {h : Heap} {d : Addr} {kvs : List NRow} (R : phiN w d kvs h) : ObjOk P w H h d (dNO w d kvs) := by
  have ⟨_, _, xs, _, o, es, ep, ho, _⟩ := R
  refine ⟨R, ⟨o, ho⟩, fun h1 h2 p k => ?_⟩
  obtain ⟨z, y, xs, r, o, es, ep, ho, q⟩ := p
  exact ⟨z, y, xs, r, o, es, ep, k o ho, q⟩
section
variable {X : Cx} {pins : List (Addr × Obj)} {σ : L2.St} {H : Hp} {s : Shared} {d : Addr} {kvs : List NRow}
theorem dN_of (I : Inv X pins σ H s) (e : H d = some (dNO X.w d kvs)) (n : NKs H kvs) : kvs.length ≤ sizeLine ∧ (d == sysModules) = false ∧ ∃ xs, PN kvs xs ∧ s.heap.DictOfH (nestedKind X.prog X.w) d xs := by
  obtain ⟨⟨z, y, xs, r, o, es, ep, h1, h2, h3, h4, h5⟩, _⟩ := I.hok d _ e
  refine ⟨z, y, xs, r, o, es, ep, h1, h2, h3, h4, fun x hx => ?_, h5⟩
  obtain ⟨v, hv⟩ := r.mem x hx
  obtain ⟨n1, n2⟩ := n _ hv
  exact ⟨NV.is I.hok n1 rfl, n2⟩
theorem nkey_of (I : Inv X pins σ H s) {k : NestedKey} {a : Addr} (n : NV H k (.ref a)) (h : k.depth ≤ 8) : (nestedKind X.prog X.w).is s.heap k a := ⟨NV.is I.hok n rfl, h⟩
/-- {} that is to hold such keys -/
theorem phiN_fresh {w : World} {h : Heap} (hs : (h.objs.size == sysModules) = false) : phiN w h.objs.size [] (h.push { cls := .type "dict", data := .dict #[] }) :=
  ⟨Nat.zero_le _, hs, [], .nil, _, #[], 0, Heap.get?_push_size _ rfl, ⟨rfl, rfl, rfl⟩, rfl, rfl, .nil⟩
/-- k in d, k not in d -/
def rInN (w : World) (neg : Bool) : R2 := fun x y H Q => ∃ (a d : Addr) (kvs : List NRow) (k : NestedKey), x = .ref a ∧ y = .ref d ∧ H d = some (dNO w d kvs) ∧ NKs H kvs ∧ NV H k (.ref a) ∧ k.depth ≤ 8 ∧ Q (.bl (if neg then !(getN kvs k).isSome else (getN kvs k).isSome)) H
theorem op_notInN (hu : X.A.units + 64 < cLine) : OpR X (compareOp .NotIn) (rInN X.w true) := by
  intro pins s σ H x y v u Q I rx ry h
  obtain ⟨a, d, kvs, k, rfl, rfl, hd, nk, hk, dp, q⟩ := h
  cases rx
  cases ry
  obtain ⟨z, y, xs, r, dd⟩ := dN_of I hd nk
  show wpAny _ _ (do return Value.bool (!(← contains (.ref d) (.ref a)))) _ _ s
  refine wpAny_bind (wpAny_contains_heap (show X.A.in1.units + 8 < cLine by rw [Around.in1_units]; omega) (nkey_of I hk dp) y dd (wpAny_pure ?_))
  have e := (r.get k).isSome_eq
  rw [Option.isSome_map] at e
  rw [← e]
  exact ⟨.bl _, H, I.tok _, rfl, q⟩
/-- d[k] -/
def rIxN (w : World) : R2 := fun x y H Q => ∃ (a d : Addr) (kvs : List NRow) (k : NestedKey) (v : V), x = .ref d ∧ y = .ref a ∧ H d = some (dNO w d kvs) ∧ NKs H kvs ∧ NV H k (.ref a) ∧ k.depth ≤ 8 ∧ getN kvs k = some v ∧ Q v H
theorem ix_ndict (hu : X.A.units + 64 < cLine) : IxR X (rIxN X.w) := by
  intro value slice pins s σ H x y v u Q I rx ry h hs
  obtain ⟨a, d, kvs, k, r, rfl, rfl, hd, nk, hk, dp, e, q⟩ := h
  cases rx
  cases ry
  obtain ⟨z, y, xs, rr, dd⟩ := dN_of I hd nk
  have g := rr.get k
  rw [e] at g
  cases hp : atKey xs k with
  | none => rw [hp] at g; exact g.elim
  | some p =>
    rw [hp] at g
    exact tail_any dd.typeIs PySem.F.slot_dict_getitem.lookup (wpAny_getItem_heap (show X.A.in1.units + 8 < cLine by rw [Around.in1_units]; omega) (nkey_of I hk dp) dd hp ⟨r, H, I.tok _, g, q⟩) hs
/-- d[k] = v, k new -/
def rSetN (w : World) : TSet := fun o i v H Q => ∃ (a d : Addr) (kvs : List NRow) (k : NestedKey), o = .ref d ∧ i = .ref a ∧ H d = some (dNO w d kvs) ∧ NKs H kvs ∧ NV H k (.ref a) ∧ k.depth ≤ 8 ∧ getN kvs k = none ∧ kvs.length < sizeLine ∧ Q (upd H d (dNO w d (kvs ++ [(k, a, v)])))
theorem set_ndict (hu : X.A.units + 64 < cLine) : PSet X (rSetN X.w) := by
  intro pins s σ H o i v ov iv u Q I ro ri rv h
  obtain ⟨a, d, kvs, k, rfl, rfl, hd, nk, hk, dp, e, hl, q⟩ := h
  cases ro
  cases ri
  obtain ⟨z, y, xs, rr, dd⟩ := dN_of I hd nk
  have g := rr.get k
  rw [e] at g
  have hp : atKey xs k = none := by
    cases hp : atKey xs k with
    | none => rfl
    | some p => rw [hp] at g; exact g.elim
  refine wpAny_setItem_heap (hsz := by rw [← rr.len]; exact z) (show X.A.in1.units + 8 < cLine by rw [Around.in1_units]; omega) (nkey_of I hk dp) dd fun h' dd' hs => ?_
  rw [storedH_new hp] at dd'
  obtain ⟨o, es, ep, hq, h2, h3, h4, _, h5⟩ := dd'
  refine ⟨_, d_write I (by rw [hd]; exact True.intro) hs ⟨o, hq⟩ (phiN_new ⟨by rw [List.length_append]; exact hl, y, _, rr.snoc rv, o, es, ep, hq, h2, h3, h4, h5⟩), q⟩
end
/-- {} -/
def tNewN (w : World) : TE := fun _ H Q => ∀ p, H p = none → Q (.ref p) (upd H p (dNO w p []))
theorem pe_dnewN {X : Cx} {pos : Pos} : PE X (.Dict [] [] pos) (tNewN X.w) := ⟨fun pins s σ H Q I h => wpAny_Dict_empty (by
  have nb : (s.heap.objs.size == sysModules) = false := by
    have b := I.big
    exact beq_eq_false_iff_ne.mpr (Nat.ne_of_gt b)
  exact ⟨.ref s.heap.objs.size, _, I.laid (t' := s.toks) (fun _ _ q => Heap.get?_push_of_some _ q) (Nat.le_refl _) (phiN_new (phiN_fresh nb)), rfl, h _ (I.hok.fresh (Nat.le_refl _))⟩)⟩
end Bk

set_option Elab.async false
set_option linter.all false
set_option maxRecDepth 100000
set_option maxHeartbeats 2000000
namespace Bk
open PySem PySem.Spec PyProof.Rows L2
/-! ### texts in order -/
theorem rising_pw : ∀ (p : Str) (l : List Str), risingS p l = true → (p :: l).Pairwise fun a b => a.cps.toList ≤ b.cps.toList
  | p, [], _ => List.pairwise_singleton _ _
  | p, x :: r, h => by
    have h : (!ltCps x.cps.toList p.cps.toList && risingS x r) = true := h
    rw [Bool.and_eq_true, Bool.not_eq_true', ltCps_eq, decide_eq_false_iff_not] at h
    have ih := rising_pw x r h.2
    have px : p.cps.toList ≤ x.cps.toList := h.1
    refine List.pairwise_cons.mpr ⟨fun b hb => ?_, ih⟩
    rcases List.mem_cons.mp hb with rfl | hb
    · exact px
    · exact List.le_trans px (List.rel_of_pairwise_cons ih hb)
theorem sorted_pw {l : List Str} (h : sortedS l = true) : l.Pairwise fun a b => a.cps.toList ≤ b.cps.toList := by
  cases l with
  | nil => exact .nil
  | cons x r => exact rising_pw x r h
theorem str_ext {a b : Str} (h : a.cps.toList = b.cps.toList) : a = b := by
  obtain ⟨x⟩ := a
  obtain ⟨y⟩ := b
  have : x = y := Array.ext' h
  rw [this]
theorem sorted_one {xs ys : List Str} (p : xs.Perm ys) (hx : sortedS xs = true) (hy : sortedS ys = true) : xs = ys :=
  List.Perm.eq_of_pairwise (fun a b _ _ h1 h2 => str_ext (List.le_antisymm h1 h2)) (sorted_pw hx) (sorted_pw hy) p
/-- two lists of unlike words: the same words -/
theorem nodup_perm {xs ys : List Str} (nx : xs.Nodup) (ny : ys.Nodup) (hl : xs.length = ys.length) (h : ∀ y ∈ ys, y ∈ xs) : xs.Perm ys := by
  refine (List.perm_ext_iff_of_nodup nx ny).mpr fun a => ⟨fun ha => ?_, h a⟩
  refine Decidable.byContradiction fun hn => ?_
  have n2 : (a :: ys).Nodup := List.nodup_cons.mpr ⟨hn, ny⟩
  have := List.Nodup.length_le_of_subset n2 (l₂ := xs) (fun b hb => by
    rcases List.mem_cons.mp hb with rfl | hb
    · exact ha
    · exact h b hb)
  rw [List.length_cons] at this
  omega
theorem eqv_strs : ∀ xs ys : List Str, PyData.eqv (.list (xs.map PyData.str)) (.list (ys.map PyData.str)) = decide (xs = ys)
  | [], [] => rfl
  | [], y :: ys => rfl
  | x :: xs, [] => rfl
  | x :: xs, y :: ys => by
    have ih : PyData.eqvAll (xs.map PyData.str) (ys.map PyData.str) = decide (xs = ys) := eqv_strs xs ys
    show ((x == y) && PyData.eqvAll (xs.map PyData.str) (ys.map PyData.str)) = _
    rw [ih]
    by_cases c : x = y
    · subst c
      simp
    · have e : (x == y) = false := by rw [beq_eq_false_iff_ne]; exact c
      rw [e, Bool.false_and, decide_eq_false (fun z => c (List.cons.inj z).1)]
theorem inV_intL {b : Int} {ns : List Int} : inV (.int b) (ns.map V.int) = decide (b ∈ ns) := by
  unfold inV
  rw [List.any_map, Bool.eq_iff_iff, List.any_eq_true, decide_eq_true_eq]
  constructor
  · rintro ⟨x, hx, e⟩
    have e' : (x == b) = true := by
      first
        | exact e
        | (have z : (b == x) = true := e; simpa [eq_comm] using z)
    rw [← eq_of_beq e']
    exact hx
  · intro h
    exact ⟨b, h, by show (b == b) = true; simp⟩
theorem inV_strL {b : Str} {ns : List Str} : inV (.str b) (ns.map V.str) = decide (b ∈ ns) := by
  unfold inV
  rw [List.any_map, Bool.eq_iff_iff, List.any_eq_true, decide_eq_true_eq]
  constructor
  · rintro ⟨x, hx, e⟩
    have e' : (x == b) = true := by
      first
        | exact e
        | (have z : (b == x) = true := e; simpa [eq_comm] using z)
    rw [← eq_of_beq e']
    exact hx
  · intro h
    exact ⟨b, h, by show (b == b) = true; simp⟩
end Bk

set_option Elab.async false
set_option linter.all false
set_option maxRecDepth 100000
set_option maxHeartbeats 2000000
/-! Small sets of texts: {..}, set(xs), a | b, sorted. -/
namespace Bk
open PySem PySem.Spec PyProof.Rows L2 Froz
/-! ### the table -/
theorem free_at {t : SetTable} {hs : List Int} (T : TabOk t hs) (hl : hs.length ≤ t.mask) (h : Int) :
    ∃ K, way t.mask h K ∉ t.place.toList ∧ (∀ k, k < K → way t.mask h k ∈ t.place.toList) ∧ t.freeSlot h = some (way t.mask h K, false) := by
  obtain ⟨K, h1, h2, h3⟩ := T.first hl h
  refine ⟨K, h2, h3, ?_⟩
  have g := go_spec t T.ris T.dm (fun _ => h + 1) h (10 * SetTable.turns t.mask) K (t.probeStart h) rfl h1 h3 h2
  rcases g with ⟨k, i, _, _, e, _⟩ | ⟨_, e⟩
  · exact absurd e (by omega)
  · have e : t.probe (fun _ => h + 1) h (t.probeStart h) = some (.empty (way t.mask h K) none) := e
    unfold SetTable.freeSlot
    rw [e]
    rfl
/-- a small table: its rows are found again, and it is not to grow -/
structure Sml (D : SD) : Prop where
  tab : TabOk D.2.2 (D.1.toList.map (·.1))
  mask : D.2.2.mask = 7
theorem Sml.size {D : SD} (S : Sml D) : D.2.2.place.size = D.1.size := by
  have := S.tab.sz
  rw [List.length_map, Array.length_toList] at this
  exact this
theorem Sml.fill {D : SD} (S : Sml D) : D.2.2.fill = D.1.size := by
  show D.2.2.place.size + D.2.2.dummies.size = _
  rw [S.tab.dm, S.size]
  rfl
theorem tab_unplain {t : SetTable} {hs : List Int} (T : TabOk t hs) : TabOk { t with plain := false } hs := ⟨T.ris, T.dm, T.sz, T.mok, T.bd, T.reach⟩
theorem Sml.add {D : SD} (S : Sml D) (h : Int) (v : Value) (few : D.1.size ≤ 3) : Sml (addTx h v D) ∧ (addTx h v D).2.2.led = D.2.2.led := by
  obtain ⟨es, ep, t⟩ := D
  have T : TabOk t (es.toList.map (·.1)) := S.tab
  have m7 : t.mask = 7 := S.mask
  have few : es.size ≤ 3 := few
  have hl : (es.toList.map (·.1)).length = es.size := by rw [List.length_map, Array.length_toList]
  obtain ⟨K, k1, k2, fs⟩ := free_at T (by rw [hl, m7]; omega) h
  obtain ⟨p1, p2, T2, pm, pl, _, _, _, pf⟩ := T.put k1 k2
  generalize hj : way t.mask h K = j at fs p1 p2 T2 pm pl pf
  have ein : (SetTable.insertAt es (SetTable.below t.place j) (h, v)).toList = es.toList.take (SetTable.below t.place j) ++ (h, v) :: es.toList.drop (SetTable.below t.place j) := SetTable.toList_insertAt _ _ _
  have esz : (SetTable.insertAt es (SetTable.below t.place j) (h, v)).size = es.size + 1 := by
    rw [← Array.length_toList, ein, List.length_append, List.length_cons, List.length_take, List.length_drop, Array.length_toList]
    rw [hl] at p2
    omega
  have T3 : TabOk (t.put j).1 ((SetTable.insertAt es (SetTable.below t.place j) (h, v)).toList.map (·.1)) := by
    rw [ein, List.map_append, List.map_cons, List.map_take, List.map_drop]
    exact T2
  have fit : (t.put j).1.fits (SetTable.insertAt es (SetTable.below t.place j) (h, v)).size = true := by
    unfold SetTable.fits
    rw [Bool.and_eq_true, beq_iff_eq, decide_eq_true_eq, pf, pm, m7, hl]
    have := T3.sz
    rw [List.length_map, Array.length_toList] at this
    exact ⟨this, by omega⟩
  have lay : layNew t es h v = (SetTable.insertAt es (SetTable.below t.place j) (h, v), (t.put j).1, false, !(t.put j).1.fits (SetTable.insertAt es (SetTable.below t.place j) (h, v)).size) := by
    unfold layNew
    rw [fs]
    show (SetTable.insertAt es (SetTable.below t.place j) (h, v), (t.put j).1.orStandIn (SetTable.insertAt es (SetTable.below t.place j) (h, v)).size, false, _) = _
    unfold SetTable.orStandIn
    rw [if_pos fit]
    rfl
  have nf : ∀ t2 : SetTable, t2.fill = es.size + 1 → t2.mask = 7 → t2.tooFull = false := fun t2 e1 e2 => by
    unfold SetTable.tooFull
    rw [e1, e2]
    exact decide_eq_false (by omega)
  have key : ∀ t2 : SetTable, TabOk t2 ((SetTable.insertAt es (SetTable.below t.place j) (h, v)).toList.map (·.1)) → t2.fill = es.size + 1 → t2.mask = 7 → t2.led = t.led →
      Sml (tailTx ep (SetTable.insertAt es (SetTable.below t.place j) (h, v)) t2 false) ∧ (tailTx ep (SetTable.insertAt es (SetTable.below t.place j) (h, v)) t2 false).2.2.led = t.led := fun t2 a1 a2 a3 a4 => by
    unfold tailTx
    rw [nf t2 a2 a3]
    exact ⟨⟨a1, a3⟩, a4⟩
  show Sml (tailTx ep (layNew t es h v).1 (if (layNew t es h v).2.1.plain = true then { (layNew t es h v).2.1 with plain := false } else (layNew t es h v).2.1) (layNew t es h v).2.2.1) ∧
    (tailTx ep (layNew t es h v).1 (if (layNew t es h v).2.1.plain = true then { (layNew t es h v).2.1 with plain := false } else (layNew t es h v).2.1) (layNew t es h v).2.2.1).2.2.led = t.led
  rw [lay]
  dsimp only
  rw [hl] at pf
  split
  · exact key _ (tab_unplain T3) pf (pm.trans m7) pl
  · exact key _ T3 pf (pm.trans m7) pl
theorem Sml.fresh (b : Bool) : Sml (#[], 0, SetTable.fresh 0 0 b) := ⟨⟨.nil, rfl, rfl, .inl rfl, fun x hx => (by cases hx), fun i h j e _ => (by simp at e)⟩, rfl⟩
/-! ### the set -/
def IsTset (P : Program) (w : World) (a : Addr) (l : List Str) (h : Heap) : Prop := ∃ D : SD, h.get? a = some (sObj "set" D) ∧ TxOk P w D l ∧ l.Nodup ∧ Sml D ∧ (w.params.followText "set-order" = true ∨ D.2.2.led = true)
theorem IsTset.at {P : Program} {w : World} {a : Addr} {l : List Str} {h h' : Heap} (R : IsTset P w a l h) (k : ∀ o, h.get? a = some o → h'.get? a = some o) : IsTset P w a l h' := by
  obtain ⟨D, ho, r⟩ := R
  exact ⟨D, k _ ho, r⟩
theorem TxOk.same {P : Program} {w : World} {D : SD} {l l' : List Str} (F : TxOk P w D l) (h : l'.Perm l) : TxOk P w D l' := ⟨F.el, fun k => (h.mem_iff).trans (F.mem k), F.sz.trans h.length_eq.symm, F.fit⟩
section
variable {P : Program} {w : World} {A : Around} {E : Value → Shared → Prop} {s : Shared}
theorem newSet_tx {Q : Value → Shared → Prop} (h : ∀ h', IsTset P w s.heap.objs.size [] h' → (∀ b o, s.heap.get? b = some o → h'.get? b = some o) → h'.objs.size = s.heap.objs.size + 1 → Q (.ref s.heap.objs.size) { s with heap := h' }) :
    wpAny (model P w) A (newSet (.type "set")) Q E s := by
  refine PpSet.newSet_ok (h _ ?_ (fun b o e => Heap.get?_push_of_some _ e) (Heap.size_push _ _))
  refine ⟨(#[], 0, .fresh 0 0 (!w.params.followText "set-order")), Heap.get?_push_size _ rfl, TxOk.nil (by rfl), .nil, Sml.fresh _, ?_⟩
  cases e : w.params.followText "set-order"
  · exact .inr rfl
  · exact .inl rfl
/-- one that is there, or one more -/
theorem addH_tx {a : Addr} {l : List Str} {k : Str} {u : Tok} {Q : Bool → Shared → Prop} (R : IsTset P w a l s.heap) (few : l.length ≤ 3)
    (h : ∀ h' b, IsTset P w a (if k ∈ l then l else k :: l) h' → Heap.SameBut a s.heap h' → Q b { s with heap := h' }) : wpAny (model P w) A (setAddHashed a (.str k u) (hashStr w k)) Q E s := by
  obtain ⟨D, ho, F, nd, S, led⟩ := R
  by_cases hk : k ∈ l
  · rw [if_pos hk] at h
    have fin := h s.heap false ⟨D, ho, F, nd, S, led⟩ (Heap.SameBut.refl a s.heap)
    obtain ⟨es, ep, t⟩ := D
    have hd : (sObj "set" (es, ep, t)).data = .set es ep t := rfl
    have hf : t.fits es.size = true := F.fit
    have hel : ElemsOf (strKind P w) es.toList := F.el
    have hsz : es.size = l.length := F.sz
    unfold setAddHashed setAddHashedIn
    refine wpAny_holding (wpAny_bind (wpAny_setState_of ho hd hf ?_))
    dsimp only
    rw [byScan_of rfl (by unfold scanBound; omega) hel]
    simp only [↓reduceIte]
    unfold setAddByScan
    refine wpAny_bind ?_
    refine wpAny_bind (wpAny_rule ?_)
    refine wpAny_bind (wpAny_setScan_of (knd := strKind P w) (k := k) (is_str k u) ho hd hf hel ?_)
    cases hfi : List.findIdx? (fun e => (strKind P w).is k e.2) es.toList with
    | some j =>
      dsimp only
      exact wpAny_pure (wpAny_pure fin)
    | none =>
      obtain ⟨e, he, q⟩ := (F.mem k).mp hk
      have c := List.findIdx?_eq_none_iff.mp hfi e he
      rw [q] at c
      cases c
  · rw [if_neg hk] at h
    have few2 : D.1.size ≤ 3 := by
      have : D.1.size = l.length := F.sz
      omega
    obtain ⟨S2, l2⟩ := S.add (hashStr w k) (.str k u) few2
    refine add_x ho F hk (by unfold scanBound; omega) (h _ true ⟨_, Froz.get_upd _ ho rfl, add_ok u F, List.nodup_cons.mpr ⟨hk, nd⟩, S2, led.imp id fun z => l2.trans z⟩ (Heap.SameBut.update s.heap a _))
theorem add_tx {a : Addr} {l : List Str} {k : Str} {u : Tok} {Q : Value → Shared → Prop} (R : IsTset P w a l s.heap) (few : l.length ≤ 3)
    (h : ∀ h' tk, IsTset P w a (if k ∈ l then l else k :: l) h' → Heap.SameBut a s.heap h' → Q .none { s with heap := h', toks := tk }) : wpAny (model P w) A (call (.builtin "set.add") [.ref a, .str k u]) Q E s := by
  have hT : s.TypeIs (.ref a) "set" := by
    obtain ⟨D, ho, _⟩ := R
    exact ⟨_, ho, rfl⟩
  refine wpAny_call_entry PySem.F.slot_set_add hT PySem.F.entry_set_add ?_ (PySem.F.args_set_add_2 _ _)
  unfold Builtin.«set.add» Builtin.Frozenset.oneOther
  simp only [List.isEmpty_nil, bind_assoc]
  unfold Builtin.Frozenset.addrOf setAdd
  refine wpAny_bind (wpAny_pure ?_)
  try dsimp only
  refine wpAny_bind (wpAny_pure ?_)
  try dsimp only
  refine wpAny_bind (wpAny_holding (wpAny_bind ((strKind P w).pyHash (is_str k u) ?_)))
  refine addH_tx (s := { s with toks := s.toks + 1 }) R few fun h' b r sb => ?_
  show wpAny _ _ (ret Value.none) _ _ _
  exact wpAny_pure ⟨_, rfl, h h' _ r sb⟩
end
theorem sub_perm {α : Type} [DecidableEq α] : ∀ {l m : List α}, l.Nodup → (∀ x ∈ l, x ∈ m) → m.length ≤ l.length → l.Perm m
  | [], m, _, _, h => by
    rw [List.length_eq_zero_iff.mp (Nat.le_zero.mp h)]
  | x :: l, m, nd, sub, h => by
    obtain ⟨n1, n2⟩ := List.nodup_cons.mp nd
    have hx := sub x List.mem_cons_self
    have pm := List.perm_cons_erase hx
    refine List.Perm.trans (List.Perm.cons x (sub_perm n2 (fun y hy => ?_) ?_)) pm.symm
    · have ne : y ≠ x := fun z => n1 (z ▸ hy)
      exact (List.mem_erase_of_ne ne).mpr (sub y (List.mem_cons_of_mem _ hy))
    · have := pm.length_eq
      rw [List.length_cons] at this h
      omega
/-- the texts of a set's rows -/
theorem tx_strs {P : Program} {w : World} {D : SD} {l : List Str} (F : TxOk P w D l) (nd : l.Nodup) : ∃ ss : List Str, StrsAre (D.1.toList.map (·.2)) ss ∧ ss.Perm l := by
  have all : ∀ v ∈ D.1.toList.map (·.2), ∃ x t, v = Value.str x t := fun v hv => by
    obtain ⟨e, he, rfl⟩ := List.mem_map.mp hv
    obtain ⟨⟨k, hk, _⟩, _⟩ := F.el e he
    obtain ⟨t, e2⟩ := Value.isStrOf_shape (x := k) (v := e.2) hk
    exact ⟨k, t, e2⟩
  have mk : ∀ vs : List Value, (∀ v ∈ vs, ∃ x t, v = Value.str x t) → ∃ ss : List Str, StrsAre vs ss ∧ ss.length = vs.length ∧ ∀ x t, Value.str x t ∈ vs → x ∈ ss := fun vs => by
    induction vs with
    | nil => exact fun _ => ⟨[], .nil, rfl, fun x t h => by cases h⟩
    | cons v vs ih =>
      intro h
      obtain ⟨x, t, rfl⟩ := h v List.mem_cons_self
      obtain ⟨ss, s1, s2, s3⟩ := ih fun u hu => h u (List.mem_cons_of_mem _ hu)
      refine ⟨x :: ss, .cons x t s1, by rw [List.length_cons, List.length_cons, s2], fun y u hy => ?_⟩
      rcases List.mem_cons.mp hy with z | z
      · cases z
        exact List.mem_cons_self
      · exact List.mem_cons_of_mem _ (s3 y u z)
  obtain ⟨ss, s1, s2, s3⟩ := mk _ all
  refine ⟨ss, s1, (sub_perm nd (fun x hx => ?_) ?_).symm⟩
  · obtain ⟨e, he, q⟩ := (F.mem x).mp hx
    obtain ⟨t, e2⟩ := Value.isStrOf_shape (x := x) (v := e.2) q
    exact s3 x t (List.mem_map.mpr ⟨e, he, e2⟩)
  · rw [s2, List.length_map, Array.length_toList]
    exact Nat.le_of_eq F.sz
theorem strs_perm {vs us : List Value} (p : us.Perm vs) : ∀ {ss : List Str}, StrsAre vs ss → ∃ ss', StrsAre us ss' ∧ ss'.Perm ss := by
  induction p with
  | nil => exact fun {ss} h => ⟨ss, h, .refl _⟩
  | cons x _ ih =>
    intro ss h
    cases h with
    | cons k t h =>
      obtain ⟨s', h1, h2⟩ := ih h
      exact ⟨_, .cons k t h1, .cons _ h2⟩
  | swap x y l =>
    intro ss h
    cases h with
    | cons k t h =>
      cases h with
      | cons k2 t2 h => exact ⟨_, .cons k2 t2 (.cons k t h), .swap _ _ _⟩
  | trans _ _ ih1 ih2 =>
    intro ss h
    obtain ⟨s1, a1, a2⟩ := ih2 h
    obtain ⟨s2, b1, b2⟩ := ih1 a1
    exact ⟨s2, b1, b2.trans a2⟩
section
variable {P : Program} {w : World} {A : Around} {E : Value → Shared → Prop} {s : Shared}
theorem sorted_tx {a : Addr} {l : List Str} {Q : Value → Shared → Prop} (R : IsTset P w a l s.heap) (hh : A.handled = none) (few : l.length ≤ 4)
    (hQ : ∀ s' p (out : Array Value) (c : Nat) (ys : List Str), (∀ b o, s.heap.get? b = some o → s'.heap.get? b = some o) → s'.gens = s.gens → s'.os = s.os → s.heap.objs.size ≤ p →
      s'.heap.get? p = some (seqObj "list" out c) → StrsAre out.toList ys → ys.Perm l → sortedS ys = true → Q (.ref p) s') :
    wpAny (model P w) A (call (.builtin "sorted") [.ref a]) Q E s := by
  obtain ⟨D, ho, F, nd, S, led⟩ := R
  have dsz : D.1.size = l.length := F.sz
  obtain ⟨ss0, z1, z2⟩ := tx_strs F nd
  refine Calls.call_function_entry kind_sorted plain_sorted entry_sorted (args_sorted1 _) ?_
  unfold Builtin.«sorted»
  refine wpAny_bind (m := checkCount "sorted" 1 1 _) (wpAny_pure ?_)
  refine wpAny_bind (collect_set (A := A.in1) hh ⟨_, ho, rfl, rfl⟩ F.fit (by unfold scanBound; omega) S.tab.ris led fun s1 vs k1 hz g1 o1 pm => ?_)
  obtain ⟨ss, y1, y2⟩ := strs_perm pm z1
  have vl : vs.length = l.length := by rw [pm.length_eq, List.length_map, Array.length_toList, dsz]
  refine wpAny_bind (wpAny_newList ?_ (by rw [vl, sizeLine_eq]; omega))
  have hoL : (s1.heap.push (seqObj "list" vs.toArray 0)).get? s1.heap.objs.size = some (seqObj "list" vs.toArray 0) := Heap.get?_push_size _ rfl
  refine wpAny_bind (wpAny_holding (wpAny_call_entry slot_list_sort ⟨_, hoL, rfl⟩ entry_list_sort (list_sort_treeK strKind_oneLt hoL y1.keysOf (fun v₁ v₂ rest e => keyKind_strs (by rw [← e]; exact y1)) (by omega) fun st' a1 a2 => ⟨_, rfl, ?_⟩) (args_list_sort _)))
  obtain ⟨ys, b1, b2, b3⟩ := sorted_out_str y1 a1 a2
  obtain ⟨c, hc⟩ := sortedHeap_at (vs := vs) (out := (arrOf st').map (·.2)) hoL
  refine wpAny_pure ⟨_, rfl, hQ _ s1.heap.objs.size _ c ys (fun b u e => ?_) g1 o1 hz hc b1 ((b2.trans y2).trans z2) b3⟩
  have q := k1 b u e
  have lt := Heap.lt_size q
  show (sortedHeap (s1.heap.push (seqObj "list" vs.toArray 0)) s1.heap.objs.size vs ((arrOf st').map (·.2))).get? b = some u
  rw [sortedHeap_old (Nat.ne_of_lt lt) (by rw [size_push']; exact Nat.lt_succ_of_lt lt)]
  exact Heap.get?_push_of_some _ q
end
/-! ### as tracked things -/
def TsO (P : Program) (w : World) (a : Addr) (l : List Str) : HO := .ext (IsTset P w a l)
theorem tsO_new {P : Program} {w : World} {H : Hp} {h : Heap} {a : Addr} {l : List Str} (R : IsTset P w a l h) : ObjOk P w H h a (TsO P w a l) := by
  have ⟨_, ho, _⟩ := R
  exact ⟨R, ⟨_, ho⟩, fun h1 h2 p k => p.at k⟩
theorem vals_strs : ∀ {vs : List Value} {ss : List Str}, StrsAre vs ss → Vals (ss.map V.str) vs
  | _, _, .nil => .nil
  | _, _, .cons k t r => .cons ⟨t, rfl⟩ (vals_strs r)
section
variable {X : Cx}
theorem tsO_get {pins : List (Addr × Obj)} {σ : L2.St} {H : Hp} {s : Shared} {a : Addr} {l : List Str} (I : Inv X pins σ H s) (ha : H a = some (TsO X.prog X.w a l)) : IsTset X.prog X.w a l s.heap := (I.hok a _ ha).1
/-- sorted of a small set of texts -/
def rSortTx (P : Program) (w : World) : List V → Hp → VK → Prop := fun vs H Q => ∃ (a : Addr) (l : List Str), vs = [.ref a] ∧ H a = some (TsO P w a l) ∧ l.length ≤ 4 ∧ ∀ (ys : List Str) (p : Addr), ys.Perm l → ys.Nodup → sortedS ys = true → H p = none → Q (.ref p) (upd H p (.lst (ys.map V.str)))
theorem cr_sortTx (hc : X.calm = true) : CallR X (.builtin "sorted") (rSortTx X.prog X.w) := by
  intro pins s σ H vs us Q I r h
  obtain ⟨a, l, rfl, ha, few, q⟩ := h
  have R := tsO_get I ha
  rw [Vals.ref1 r]
  have dis : l.Nodup := by
    obtain ⟨_, _, _, z, _⟩ := id R
    exact z
  refine sorted_tx R (I.ok.hd hc) few fun s' p out c ys k g o hp hg hs pm so => ?_
  have hn : H p = none := I.hok.fresh hp
  have len : (ys.map V.str).length ≤ sizeLine := by rw [List.length_map, pm.length_eq, sizeLine_eq]; omega
  have J : Inv X pins σ (upd H p (.lst (ys.map V.str))) { s with heap := s'.heap, gens := s'.gens, drawn := s'.drawn, toks := s'.toks } :=
    I.call (ch := []) (Un.laid k hp hn) (I.hok.laid k hp ⟨len, out.toList, c, vals_strs hs, hg⟩) (by rw [g]; exact I.bare) (fun _ z => nomatch z)
  have e : s' = { s with heap := s'.heap, gens := s'.gens, drawn := s'.drawn, toks := s'.toks } := by
    cases s'
    cases s
    cases o
    rfl
  rw [e]
  exact ⟨.ref p, _, J, rfl, q ys p pm (pm.nodup_iff.mpr dis) so hn⟩
end
end Bk

set_option Elab.async false
set_option linter.all false
set_option maxRecDepth 100000
set_option maxHeartbeats 2000000
/-! {elt for a in xs for b in ys}: a small set of texts. -/
namespace Bk
open PySem PySem.Spec PyProof.Rows L2 Froz
/-- the expression: two clauses without tests -/
abbrev sc2X (elt t0 i0 t1 i1 : Expr) (sc : Scope) (ps : Pos) : Expr := .SetComp elt [⟨t0, i0, [], 0⟩, ⟨t1, i1, [], 0⟩] sc ps
theorem sc2_turn0 (elt t0 i0 t1 i1 : Expr) (sc : Scope) (ps : Pos) (it acc : Value) (env : Env) : compTurn (sc2X elt t0 i0 t1 i1 sc ps) 0 it acc env = (do
    standAt i0.pos
    match ← pyNext it with
    | none => pure (.done .next)
    | some v => do
      letOwnedTupleGo t0 it v
      assign t0 env v
      let mut ok := true
      for c in ([] : List Expr) do
        if ok then ok ← isTrue c env (eval c env)
      if ok then
        let x ← eval i1 env
        standAt i1.pos
        let x ← foldedSetIterable i1 env x
        let _ ← runOwn (.compStart (sc2X elt t0 i0 t1 i1 sc ps) 1 (← holding [x] (pyIter x)) acc env) env
      again (.compLoop (sc2X elt t0 i0 t1 i1 sc ps) 0 it acc env)) := by rfl
theorem sc2_turn1 (elt t0 i0 t1 i1 : Expr) (sc : Scope) (ps : Pos) (it acc : Value) (env : Env) : compTurn (sc2X elt t0 i0 t1 i1 sc ps) 1 it acc env = (do
    standAt i1.pos
    match ← pyNext it with
    | none => pure (.done .next)
    | some v => do
      letOwnedTupleGo t1 it v
      assign t1 env v
      let mut ok := true
      for c in ([] : List Expr) do
        if ok then ok ← isTrue c env (eval c env)
      if ok then
        (do let v ← eval elt env; standAt elt.pos; let _ ← call (.builtin "set.add") [acc, v])
      again (.compLoop (sc2X elt t0 i0 t1 i1 sc ps) 1 it acc env)) := by rfl
section
variable {prog : Program} {w : World} {A : Around} {R : Result → Shared → Prop} {s : Shared} {elt t0 i0 t1 i1 : Expr} {sc : Scope} {ps : Pos} {it acc : Value} {env : Env}
/-- what is raised within a comprehension is noted -/
abbrev NoteR (prog : Program) (w : World) (A : Around) (env : Env) (R : Result → Shared → Prop) : Value → Shared → Prop := notedBy (model prog w) A env fun e s' => R (.error e) s'
theorem sc2_loop0 (hs : ∀ x, foldedSetIterable i1 env x = pure x) (I : Nat → Shared → Prop)
    (turn : ∀ n s, I n s → wpAny (model prog w) A (pyNext it) (fun r s1 => match r with
      | none => R (.ok .next) s1
      | some v => wpAny (model prog w) A (letOwnedTupleGo t0 it v) (fun _ s2 => wpAny (model prog w) A (assign t0 env v) (fun _ s3 => wpAny (model prog w) A (eval i1 env) (fun x s4 => wpAny (model prog w) A (pyIter x) (fun j s5 =>
          codeAny (model prog w) A (.compStart (sc2X elt t0 i0 t1 i1 sc ps) 1 j acc env) (fun r s' => match r with
            | .ok _ => ∃ m, m < n ∧ I m s'
            | .error _ => False) s5) (NoteR prog w A env R) s4) (NoteR prog w A env R) s3) (NoteR prog w A env R) s2) (NoteR prog w A env R) s1) (NoteR prog w A env R) s)
    (n : Nat) (h : I n s) : codeAny (model prog w) A (.compLoop (sc2X elt t0 i0 t1 i1 sc ps) 0 it acc env) R s := by
  refine codeAny_loop rfl I (fun n s hI => ?_) n h
  show wpAny _ A ((compTurn (sc2X elt t0 i0 t1 i1 sc ps) 0 it acc env).onRaise (fun x => do noteFrame x env; theTreesLotGoes x)) _ _ s
  refine wpAny_noted ?_
  rw [sc2_turn0]
  refine wpAny_bind (wpAny_standAt (wpAny_bind (wpAny_mono (turn n s hI) (fun r s1 q1 => ?_) fun _ _ z => z)))
  rcases r with _ | v
  · exact wpAny_pure q1
  refine wpAny_bind (wpAny_mono q1 (fun _ s2 q2 => wpAny_bind (wpAny_mono q2 (fun _ s3 q3 => ?_) fun _ _ z => z)) fun _ _ z => z)
  refine wpAny_bind (wpAny_tests_nil ?_)
  refine wpAny_bind (wpAny_mono q3 (fun x s4 q4 => ?_) fun _ _ z => z)
  refine wpAny_bind (wpAny_standAt (wpAny_bind (wpAny_of_eq (hs x) (wpAny_bind (wpAny_holding (wpAny_mono q4 (fun j s5 q5 => ?_) fun _ _ z => z))))))
  refine wpAny_bind (wpAny_runOwn ?_)
  rw [Around.mark_none]
  refine codeAny_mono q5 fun r s' hr => ?_
  rcases r with e | f
  · exact hr.elim
  · first
      | exact wpAny_pure ⟨rfl, hr⟩
      | exact wpAny_bind (wpAny_pure (wpAny_pure ⟨rfl, hr⟩))
theorem sc2_loop1 (I : Nat → Shared → Prop)
    (turn : ∀ n s, I n s → wpAny (model prog w) A (pyNext it) (fun r s1 => match r with
      | none => R (.ok .next) s1
      | some v => wpAny (model prog w) A (letOwnedTupleGo t1 it v) (fun _ s2 => wpAny (model prog w) A (assign t1 env v) (fun _ s3 => wpAny (model prog w) A (eval elt env) (fun x s4 =>
          wpAny (model prog w) A (call (.builtin "set.add") [acc, x]) (fun _ s5 => ∃ m, m < n ∧ I m s5) (NoteR prog w A env R) s4) (NoteR prog w A env R) s3) (NoteR prog w A env R) s2) (NoteR prog w A env R) s1) (NoteR prog w A env R) s)
    (n : Nat) (h : I n s) : codeAny (model prog w) A (.compLoop (sc2X elt t0 i0 t1 i1 sc ps) 1 it acc env) R s := by
  refine codeAny_loop rfl I (fun n s hI => ?_) n h
  show wpAny _ A ((compTurn (sc2X elt t0 i0 t1 i1 sc ps) 1 it acc env).onRaise (fun x => do noteFrame x env; theTreesLotGoes x)) _ _ s
  refine wpAny_noted ?_
  rw [sc2_turn1]
  refine wpAny_bind (wpAny_standAt (wpAny_bind (wpAny_mono (turn n s hI) (fun r s1 q1 => ?_) fun _ _ z => z)))
  rcases r with _ | v
  · exact wpAny_pure q1
  refine wpAny_bind (wpAny_mono q1 (fun _ s2 q2 => wpAny_bind (wpAny_mono q2 (fun _ s3 q3 => ?_) fun _ _ z => z)) fun _ _ z => z)
  refine wpAny_bind (wpAny_tests_nil ?_)
  exact wpAny_bind (wpAny_bind (wpAny_mono q3 (fun x s4 q4 => wpAny_bind (wpAny_standAt (wpAny_bind (wpAny_mono q4 (fun _ s5 q5 => wpAny_pure (wpAny_pure ⟨rfl, q5⟩)) fun _ _ z => z)))) fun _ _ z => z))
theorem sc2_start1 (h0 : codeAny (model prog w) A (.compLoop (sc2X elt t0 i0 t1 i1 sc ps) 1 it acc env) R s)
    (h : wpAny (model prog w) A (pyIter it) (fun j s' => codeAny (model prog w) A (.compLoop (sc2X elt t0 i0 t1 i1 sc ps) 1 j acc env) R s') (NoteR prog w A env R) s) :
    codeAny (model prog w) A (.compStart (sc2X elt t0 i0 t1 i1 sc ps) 1 it acc env) R s := by
  refine codeAny_of_tree ?_
  show wpAny _ _ ((compStart (sc2X elt t0 i0 t1 i1 sc ps) 1 it acc env).onRaise (fun x => do noteFrame x env; standAt theWindowsPlace)) _ _ s
  refine wpAny_notedAt ?_
  unfold compStart
  show wpAny _ _ (ask >>= _) _ _ s
  refine wpAny_bind (wpAny_askSetting (wpAny_ite ?_))
  split
  · first
      | exact wpAny_bind (wpAny_pure (wpAny_pure (And.intro rfl h0)))
      | exact wpAny_pure (And.intro rfl h0)
  · refine wpAny_bind (wpAny_rule ?_)
    show wpAny _ _ (standAt i1.pos >>= _) _ _ s
    exact wpAny_bind (wpAny_standAt (wpAny_bind (wpAny_mono h (fun j s' z => wpAny_pure (And.intro rfl z)) fun _ _ z => z)))
end
section
variable {X : Cx} {pins : List (Addr × Obj)} {σ : L2.St} {H : Hp} {s : Shared}
theorem addTx_ok {E : Value → Shared → Prop} {D : Addr} {l : List Str} {k : Str} {v : Value} {Q : Value → Shared → Prop} (I : Inv X pins σ H s) (hD : H D = some (TsO X.prog X.w D l)) (few : l.length ≤ 3) (r : RelV (.str k) v)
    (h : ∀ s', Inv X pins σ (upd H D (TsO X.prog X.w D (if k ∈ l then l else k :: l))) s' → Q .none s') : wpAny (model X.prog X.w) X.A (call (.builtin "set.add") [.ref D, v]) Q E s := by
  obtain ⟨u, rfl⟩ : ∃ u, v = .str k u := r
  refine add_tx (tsO_get I hD) few fun h' tk R sb => ?_
  have ⟨_, ho, _⟩ := R
  exact h _ (I.write (e := D) (t' := tk) (by rw [hD]; trivial) (.inl rfl) (fun b u hb hu => (sb.2 b hb).trans hu) ⟨_, ho⟩ (tsO_new R))
/-- {elt for tg in iter for tg1 in iter1}, elt a text: D the new set -/
def tSc2 (P : Program) (w : World) (wi : TI) (g : TG) (wi1 : TI) (g1 : TG) (te : TE) (vs vs1 : List Nat) : TE := fun σ H Q => wi σ H fun J H1 => ∀ D, H1 D = none → ∃ W : Nat → Nat → Hp → Prop, (∃ m, W 0 m (upd H1 D (TsO P w D []))) ∧ ∀ i m Ha, W i m Ha →
      (J.stop i Ha ∧ Q (.ref D) Ha) ∨ (J.go i Ha ∧ ∃ Nx : Hp → Prop, (∀ Hb, Nx Hb → ∃ m', m' < m ∧ W (i + 1) m' Hb) ∧ ∀ x Hb, J.yld i Ha x Hb → g x (wipe σ vs) Hb fun σ2 H2 => wipe σ2 vs = wipe σ vs ∧ wi1 σ2 H2 fun J1 H3 =>
        ∃ W1 : Nat → Nat → Hp → Prop, (∃ m, W1 0 m H3) ∧ ∀ j k Hc, W1 j k Hc → (J1.stop j Hc ∧ Nx Hc) ∨ (J1.go j Hc ∧ ∃ Nx1 : Hp → Prop, (∀ Hd, Nx1 Hd → ∃ k', k' < k ∧ W1 (j + 1) k' Hd) ∧ ∀ y Hd, J1.yld j Hc y Hd → g1 y (wipe σ2 vs1) Hd fun σ3 H5 => wipe σ3 vs1 = wipe σ2 vs1 ∧ te σ3 H5 fun z H7 =>
          ∃ (k : Str) (l : List Str), z = .str k ∧ H7 D = some (TsO P w D l) ∧ l.length ≤ 3 ∧ Nx1 (upd H7 D (TsO P w D (if k ∈ l then l else k :: l)))))
theorem sc2_core {Q : VK} {elt tg iter tg1 iter1 : Expr} {scope : Scope} {own : List (PySem.Str × Nat)} {vs1 : List Nat} {pos pos' : Pos} {wi wi1 : TI} {g g1 : TG} {te : TE} {use : Option (Value → Sem Unit)} {Qf : Value → Shared → Prop}
    (hc : X.calm = true) (hN : X.N.Nodup) (I : Inv X pins σ H s) (hi : PI X tg iter wi) (ok : BlkOk X.N X.env.scope scope own) (hv : ∀ i ∈ vs1, i ∈ own.map (·.2))
    (hg : ∀ (s : Shared) (H : Hp) (C : Addr) (cl : List (PySem.Str × Addr)) (fp : List Addr), PG (X.blk s H scope (compEnvC scope cl C X.env) fp) tg g)
    (hi1 : ∀ (s : Shared) (H : Hp) (C : Addr) (cl : List (PySem.Str × Addr)) (fp : List Addr), PI (X.blk s H scope (compEnvC scope cl C X.env) fp) tg1 iter1 wi1)
    (hg1 : ∀ (s : Shared) (H : Hp) (C : Addr) (cl : List (PySem.Str × Addr)) (fp : List Addr), PG (X.blk s H scope (compEnvC scope cl C X.env) fp) tg1 g1)
    (he : ∀ (s : Shared) (H : Hp) (C : Addr) (cl : List (PySem.Str × Addr)) (fp : List Addr), PE (X.blk s H scope (compEnvC scope cl C X.env) fp) elt te) (hs : ∀ x, foldedSetIterable iter X.env x = pure x)
    (hs1 : ∀ env x, foldedSetIterable iter1 env x = pure x)
    (h : tSc2 X.prog X.w wi g wi1 g1 te (own.map (·.2)) vs1 σ H Q)
    (hRR : ∀ D C s' m H', Inv X pins σ H' s' → Q (.ref D) H' → s'.heap.Ns C m → FpOk X pins H' C → compPost (model X.prog X.w) X.A X.xe use Qf (.ref D) C (.ok .next) s') :
    wpAny (model X.prog X.w) X.A (comprehension (sc2X elt tg iter tg1 iter1 scope pos) scope X.env pos' (newSet (.type "set")) false (eval iter X.env) use) Qf X.xe s := by
  have hfree : ∀ y ∈ scope.names, y.2 = .free → ∃ c, X.env.cells.lookup y.1 = some c := fun y hy e => by
    rcases ok.free y hy e with k | k
    · exact I.ok.has _ (.inl k)
    · exact I.ok.has _ (.inr k)
  refine wpAny_comprehension_free (use := use) rfl hs (closure_ok hfree) ok.kind (fun y hy e => by rw [ok.uniq y hy, e])
    (thn (hi.run pins s σ H _ I h) fun xv s1 hx => thn hx fun itv s2 h2 => ?_)
  obtain ⟨it, fp, tn, J, H2, e, I2, T, st2, f2, q⟩ := h2
  subst e
  refine newSet_tx fun hp RT kp zp => newEnv_comp ?_
  generalize hD : s2.heap.objs.size = D at RT zp
  have hDn : H2 D = none := I2.hok.fresh (Nat.le_of_eq hD)
  obtain ⟨W, ⟨m0, w0⟩, turn⟩ := q D hDn
  generalize hs3 : ({ s2 with heap := hp } : Shared) = s3
  have h3 : s3.heap = hp := by rw [← hs3]
  have I3 : Inv X pins σ (upd H2 D (TsO X.prog X.w D [])) s3 := by
    rw [← hs3]
    exact I2.laid (t' := s2.toks) kp (Nat.le_of_eq hD) (tsO_new RT)
  have sz : ∀ b ∈ fp, b < s2.heap.objs.size := fun b hb => by
    obtain ⟨o, e, _⟩ := T.obj _ _ st2 b hb
    exact Heap.lt_size e
  have f3 : ∀ b ∈ fp, FpOk X pins (upd H2 D (TsO X.prog X.w D [])) b ∧ b < s3.heap.objs.size := fun b hb => by
    have hlt := sz b hb
    refine ⟨⟨?_, (f2 b hb).2⟩, by rw [h3, zp, ← hD]; exact Nat.lt_succ_of_lt hlt⟩
    rw [upd_ne (by rw [← hD]; exact Nat.ne_of_lt hlt)]
    exact (f2 b hb).1
  have st3 : tn 0 s3.heap := T.keep _ _ _ st2 fun b _ o e => by rw [h3]; exact kp _ _ e
  have I4 := block_start I3 ok hN f3
  have pg := hg s3 (upd H2 D (TsO X.prog X.w D [])) s3.heap.objs.size (cellsFrom (s3.heap.objs.size + 1) scope.names (cloFrom X.env.cells scope.names [])) fp
  have pe := he s3 (upd H2 D (TsO X.prog X.w D [])) s3.heap.objs.size (cellsFrom (s3.heap.objs.size + 1) scope.names (cloFrom X.env.cells scope.names [])) fp
  have pi1 := hi1 s3 (upd H2 D (TsO X.prog X.w D [])) s3.heap.objs.size (cellsFrom (s3.heap.objs.size + 1) scope.names (cloFrom X.env.cells scope.names [])) fp
  have pg1 := hg1 s3 (upd H2 D (TsO X.prog X.w D [])) s3.heap.objs.size (cellsFrom (s3.heap.objs.size + 1) scope.names (cloFrom X.env.cells scope.names [])) fp
  show codeAny _ _ (.compStart (sc2X elt tg iter tg1 iter1 scope pos) 0 (.ref it) (.ref D) (compEnvC scope (cellsFrom (s3.heap.objs.size + 1) scope.names (cloFrom X.env.cells scope.names [])) s3.heap.objs.size X.env)) (compPost (model X.prog X.w) X.A X.xe use Qf (.ref D) s3.heap.objs.size) { s3 with heap := pushCells (s3.heap.push { cls := .type "dict", data := .dict #[] }) scope.names }
  have nfp : ∀ b ∈ fp, (upd H2 D (TsO X.prog X.w D [])) b = none := fun b hb => (f3 b hb).1.1
  generalize hce : compEnvC scope (cellsFrom (s3.heap.objs.size + 1) scope.names (cloFrom X.env.cells scope.names [])) s3.heap.objs.size X.env = ce at I4 pg pe pi1 pg1 ⊢
  have cL : ce.locals = s3.heap.objs.size := by subst hce; rfl
  generalize hH3 : upd H2 D (TsO X.prog X.w D []) = H3 at I3 I4 pg pe pi1 pg1 w0 nfp f3
  generalize hs4 : ({ s3 with heap := pushCells (s3.heap.push { cls := .type "dict", data := .dict #[] }) scope.names } : Shared) = s4 at I4 ⊢
  have st4 : tn 0 s4.heap := T.keep _ _ _ st3 fun b _ o e => by rw [← hs4]; exact pushCells_keeps _ _ _ _ (Heap.get?_push_of_some _ e)
  have stat : ∀ {σ' : L2.St} {H' : Hp} {s' : Shared}, Inv (X.blk s3 H3 scope ce fp) [] σ' H' s' → (∀ b ∈ fp, H' b = none) → ∀ b ∈ fp, FpOk (X.blk s3 H3 scope ce fp) [] H' b := fun {σ' H' s'} I' hn b hb =>
    ⟨hn b hb, (I'.ok.exf b hb).1, I'.ok.exfs b hb, .inl hb, fun x c e => (I'.ok.exf b hb).2 x c e, fun p hp => absurd (show p ∈ ([] : List (Addr × Obj)) ++ [] from hp) (by simp)⟩
  have loop : codeAny (model X.prog X.w) X.A (.compLoop (sc2X elt tg iter tg1 iter1 scope pos) 0 (.ref it) (.ref D) ce) (compPost (model X.prog X.w) X.A X.xe use Qf (.ref D) s3.heap.objs.size) s4 := by
    refine sc2_loop0 (hs1 ce) (fun n s' => ∃ i H', Inv (X.blk s3 H3 scope ce fp) [] (wipe σ (own.map (·.2))) H' s' ∧ tn i s'.heap ∧ (∀ b ∈ fp, H' b = none) ∧ W i n H') ?_ m0 ⟨0, H3, I4, st4, nfp, w0⟩
    rintro n s5 ⟨i, H5, I5, st5, n5, w5⟩
    rcases turn i n H5 w5 with ⟨stop, qq⟩ | ⟨go, Nx, hNx, step⟩
    · have td := T.done (X.blk s3 H3 scope ce fp) rfl rfl rfl hc i [] s5 _ H5 (fun _ _ => False) I5 (stat I5 n5) st5 stop
      refine thnF td fun r s6 ⟨hr, I6⟩ => ?_
      subst hr
      have I7 : Inv X pins σ H5 s6 := I3.call' (ch := fp) I6.os I6.base I6.hok I6.bare fun b hb => ⟨(f3 b hb).1.2.2.2.1, (f3 b hb).1.2.1, (f3 b hb).1.2.2.2.2.1, (f3 b hb).1.2.2.2.2.2⟩
      have nC : H5 s3.heap.objs.size = none := by
        have z : H5 ce.locals = none := I6.free
        rw [cL] at z
        exact z
      obtain ⟨m, hn, _⟩ := I6.loc
      have hn : s6.heap.Ns ce.locals m := hn
      rw [cL] at hn
      exact hRR D s3.heap.objs.size s6 m H5 I7 qq hn (I3.fpOk (Nat.le_refl _) nC)
    · have ti := T.item (X.blk s3 H3 scope ce fp) rfl rfl rfl hc i [] s5 _ H5 (fun _ _ => False) I5 (stat I5 n5) st5 go
      refine thnF ti fun r s6 ⟨u, hr, h6⟩ => ?_
      subst hr
      refine thnF h6 fun _ s7 ⟨x, H7, I7, r7, y7, st7, n7⟩ => ?_
      have I7' := I7.pinned (stat I7 n7) (T.obj _ _ st7)
      refine thnF (pg.run _ s7 _ H7 x u _ I7' r7 (step x H7 y7)) fun _ s8 ⟨σ8, H8, I8, hw8, q8⟩ => ?_
      have fin : ∀ {σ9 : L2.St} {s' : Shared} {H' : Hp}, Inv (X.blk s3 H3 scope ce fp) ([] ++ pinsAt fp s7.heap) σ9 H' s' → (wipe σ (own.map (·.2))).length = σ9.length → (∀ (j : Nat) v, (wipe σ (own.map (·.2)))[j]? = some (some v) → σ9[j]? = some (some v)) → Nx H' →
          ∃ m, m < n ∧ ∃ i H', Inv (X.blk s3 H3 scope ce fp) [] (wipe σ (own.map (·.2))) H' s' ∧ tn i s'.heap ∧ (∀ b ∈ fp, H' b = none) ∧ W i m H' := fun {σ9 s' H'} I' hl hk nx => by
        obtain ⟨m', hm, w'⟩ := hNx H' nx
        have pin' : ∀ b ∈ fp, ∀ o, s7.heap.get? b = some o → s'.heap.get? b = some o ∧ H' b = none := fun b hb o e =>
          let z := I'.pin (b, o) (List.mem_append_right _ (List.mem_append_right _ (mem_pinsAt hb e)))
          ⟨z.1, z.2.1⟩
        refine ⟨m', hm, i + 1, H', (I'.unpinned (pins := [])).weak hl hk, T.keep _ _ _ st7 fun b hb o e => (pin' b hb o e).1, fun b hb => ?_, w'⟩
        obtain ⟨o, e, _⟩ := T.obj _ _ st7 b hb
        exact (pin' b hb o e).2
      have hl8 : (wipe σ (own.map (·.2))).length = σ8.length := by rw [← hw8, wipe_length]
      have hk9 : ∀ (j : Nat) v, (wipe σ (own.map (·.2)))[j]? = some (some v) → (wipe σ8 vs1)[j]? = some (some v) := fun j v e => by
        rw [← hw8] at e
        obtain ⟨e1, e2⟩ := wipe_some e
        rw [wipe_out fun z => e2 (hv j z)]
        exact e1
      refine thnF (pi1.run _ s8 σ8 H8 _ I8 q8) fun xv s10 hx => thnF hx fun itv s11 h11 => ?_
      obtain ⟨it1, fp1, tn1, J1, H11, e1, I11, T1, st11, f11, W1, ⟨m1, w1⟩, turn1⟩ := h11
      subst e1
      have stat1 : ∀ {H' : Hp}, (∀ b ∈ fp1, H' b = none) → ∀ b ∈ fp1, FpOk (X.blk s3 H3 scope ce fp) ([] ++ pinsAt fp s7.heap) H' b := fun hn b hb => ⟨hn b hb, (f11 b hb).2⟩
      have loop1 : codeAny (model X.prog X.w) X.A (.compLoop (sc2X elt tg iter tg1 iter1 scope pos) 1 (.ref it1) (.ref D) ce)
          (fun r s' => match r with
            | .ok _ => ∃ m, m < n ∧ ∃ i H', Inv (X.blk s3 H3 scope ce fp) [] (wipe σ (own.map (·.2))) H' s' ∧ tn i s'.heap ∧ (∀ b ∈ fp, H' b = none) ∧ W i m H'
            | .error _ => False) s11 := by
        refine sc2_loop1 (fun k s' => ∃ j H', Inv (X.blk s3 H3 scope ce fp) ([] ++ pinsAt fp s7.heap) (wipe σ8 vs1) H' s' ∧ tn1 j s'.heap ∧ (∀ b ∈ fp1, H' b = none) ∧ W1 j k H') ?_ m1 ⟨0, H11, I11.weak (wipe_length _ _) (fun j v e => (wipe_some e).1), st11, fun b hb => (f11 b hb).1, w1⟩
        rintro k s12 ⟨j, H12, I12, st12, n12, w12⟩
        rcases turn1 j k H12 w12 with ⟨stop1, nx1⟩ | ⟨go1, Nx1, hNx1, step1⟩
        · refine thnF (T1.done (X.blk s3 H3 scope ce fp) rfl rfl rfl hc j _ s12 (wipe σ8 vs1) H12 (fun _ _ => False) I12 (stat1 n12) st12 stop1) fun r s13 ⟨hr, I13⟩ => ?_
          subst hr
          exact fin I13 (hl8.trans (wipe_length σ8 vs1).symm) hk9 nx1
        · refine thnF (T1.item (X.blk s3 H3 scope ce fp) rfl rfl rfl hc j _ s12 (wipe σ8 vs1) H12 (fun _ _ => False) I12 (stat1 n12) st12 go1) fun r s13 ⟨u1, hr, h13⟩ => ?_
          subst hr
          refine thnF h13 fun _ s14 ⟨x1, H14, I14, r14, y14, st14, n14⟩ => ?_
          have I14' := I14.pinned (stat1 n14) (T1.obj _ _ st14)
          refine thnF (pg1.run _ s14 (wipe σ8 vs1) H14 x1 u1 _ I14' r14 (step1 x1 H14 y14)) fun _ s15 ⟨σ15, H15, I15, hw15, q15⟩ => ?_
          have fin1 : ∀ {s' : Shared} {H' : Hp}, Inv (X.blk s3 H3 scope ce fp) (([] ++ pinsAt fp s7.heap) ++ pinsAt fp1 s14.heap) σ15 H' s' → Nx1 H' → ∃ m, m < k ∧ ∃ j H', Inv (X.blk s3 H3 scope ce fp) ([] ++ pinsAt fp s7.heap) (wipe σ8 vs1) H' s' ∧ tn1 j s'.heap ∧ (∀ b ∈ fp1, H' b = none) ∧ W1 j m H' := fun {s' H'} I' nx => by
            obtain ⟨m', hm, w'⟩ := hNx1 H' nx
            have pin' : ∀ b ∈ fp1, ∀ o, s14.heap.get? b = some o → s'.heap.get? b = some o ∧ H' b = none := fun b hb o e =>
              let z := I'.pin (b, o) (List.mem_append_right _ (List.mem_append_right _ (mem_pinsAt hb e)))
              ⟨z.1, z.2.1⟩
            refine ⟨m', hm, j + 1, H', I'.unpinned.weak (by rw [← hw15, wipe_length]) (fun j v e => by rw [← hw15] at e; exact (wipe_some e).1), T1.keep _ _ _ st14 fun b hb o e => (pin' b hb o e).1, fun b hb => ?_, w'⟩
            obtain ⟨o, e, _⟩ := T1.obj _ _ st14 b hb
            exact (pin' b hb o e).2
          refine thnF (pe.run _ s15 σ15 H15 _ I15 q15) fun z s17 ⟨yv, H17, I17, r17, kk, l, ez, hD17, hz17, nx⟩ => ?_
          subst ez
          exact addTx_ok (X := X.blk s3 H3 scope ce fp) I17 hD17 hz17 r17 fun s18 I18 => fin1 I18 nx
      exact sc2_start1 loop1 (T1.self X.A 0 _ _ _ st11 loop1)
  exact PpSet.codeAny_compStart_set loop (T.self X.A 0 _ _ _ st4 loop)
theorem pe_sc2 {elt tg iter tg1 iter1 : Expr} {scope : Scope} {own : List (PySem.Str × Nat)} {vs1 : List Nat} {pos : Pos} {wi wi1 : TI} {g g1 : TG} {te : TE} (hc : X.calm = true) (hN : X.N.Nodup) (hi : PI X tg iter wi) (ok : BlkOk X.N X.env.scope scope own) (hv : ∀ i ∈ vs1, i ∈ own.map (·.2))
    (hg : ∀ (s : Shared) (H : Hp) (C : Addr) (cl : List (PySem.Str × Addr)) (fp : List Addr), PG (X.blk s H scope (compEnvC scope cl C X.env) fp) tg g)
    (hi1 : ∀ (s : Shared) (H : Hp) (C : Addr) (cl : List (PySem.Str × Addr)) (fp : List Addr), PI (X.blk s H scope (compEnvC scope cl C X.env) fp) tg1 iter1 wi1)
    (hg1 : ∀ (s : Shared) (H : Hp) (C : Addr) (cl : List (PySem.Str × Addr)) (fp : List Addr), PG (X.blk s H scope (compEnvC scope cl C X.env) fp) tg1 g1)
    (he : ∀ (s : Shared) (H : Hp) (C : Addr) (cl : List (PySem.Str × Addr)) (fp : List Addr), PE (X.blk s H scope (compEnvC scope cl C X.env) fp) elt te) (hs : ∀ x, foldedSetIterable iter X.env x = pure x := by intro _; rfl) (hs1 : ∀ env x, foldedSetIterable iter1 env x = pure x := by intro _ _; rfl) :
    PE X (sc2X elt tg iter tg1 iter1 scope pos) (tSc2 X.prog X.w wi g wi1 g1 te (own.map (·.2)) vs1) := by
  refine ⟨fun pins s σ H Q I h => ?_⟩
  rw [PpSet.eval_SetComp]
  refine sc2_core hc hN I hi ok hv hg hi1 hg1 he hs hs1 h fun D C s' m H' I' q hn f => ⟨m, hn, fun h'' sb => ?_⟩
  obtain ⟨f0, f1, f2, f3, f4, f5⟩ := f
  exact ⟨.ref D, H', I'.turned (t' := s'.toks) (fun b o hb e => (sb.2 b hb).trans e) f0 f1 f3 f4 f5, rfl, q⟩
end
end Bk

set_option Elab.async false
set_option linter.all false
set_option maxRecDepth 100000
set_option maxHeartbeats 2000000
/-! set(xs) of a short list of texts, and a | b of two. -/
namespace Bk
open PySem PySem.Spec PyProof.Rows L2 Froz
section
variable {prog : Program} {w : World} {A : Around} {R : Result → Shared → Prop} {I : Addr} {fp wr : List Addr} {G : Array GenState → Array GenState → Prop} {n : Nat} {P : Nat → Value → Prop} {St : Nat → Shared → Prop}
/-- the set takes the walk's texts, one by one -/
theorem tx_taken (W : WalksS prog w A.in1 I fp wr G n P St) (S : Addr) (hSf : S ∉ fp) (xs : List Str) (hn : xs.length = n) (few : n ≤ 4) (hv : ∀ i v, P i v → ∃ k t, xs[i]? = some k ∧ v = Value.str k t) :
    ∀ (k i : Nat) (s : Shared), n - i = k → i ≤ n → St i s → (∃ l, IsTset prog w S l s.heap ∧ (∀ y, y ∈ l ↔ y ∈ xs.take i) ∧ l.length ≤ i) →
      (∀ s' l, Moved (S :: wr) G s s' → IsTset prog w S l s'.heap → (∀ y, y ∈ l ↔ y ∈ xs) → l.length ≤ n → R (.ok (.ret .none)) s') → codeAny (model prog w) A (.builtin "set.update.loop" ⟨[.ref S, .ref I], []⟩) R s := by
  have hSw : S ∉ wr := fun h => hSf (W.sub _ h)
  have up : ∀ b ∈ wr, b ∈ S :: wr := fun b hb => List.mem_cons_of_mem _ hb
  intro k
  induction k with
  | zero =>
    intro i s hk hi hst ⟨l, hl, mem, len⟩ hq
    obtain rfl : i = n := by omega
    refine codeAny_builtin PyProof.Rows.F.entry_set_update_loop ?_
    rw [Around.under_plainId PyProof.Rows.F.plain_set_update_loop _]
    show wpAny _ A.in1 (pyNext (.ref I) >>= _) _ _ s
    refine wpAny_bind (W.done s _ _ hst fun s' hm => ?_)
    show wpAny _ A.in1 (ret Value.none) _ _ s'
    rw [← hn, List.take_length] at mem
    exact wpAny_pure (hq s' l (hm.mono up) (hl.at fun o e => hm.heap S o hSw e) mem len)
  | succ k ih =>
    intro i s hk hi hst ⟨l, hl, mem, len⟩ hq
    have lt : i < n := by omega
    refine codeAny_builtin PyProof.Rows.F.entry_set_update_loop ?_
    rw [Around.under_plainId PyProof.Rows.F.plain_set_update_loop _]
    show wpAny _ A.in1 (pyNext (.ref I) >>= _) _ _ s
    refine wpAny_bind (W.item i s _ _ lt hst fun v s' hP hst' hm => ?_)
    obtain ⟨x, t, ex, rfl⟩ := hv i v hP
    have et : xs.take (i + 1) = xs.take i ++ [x] := by rw [List.take_add_one, ex]; rfl
    show wpAny _ A.in1 (holding [.str x t] (setAdd S (.str x t)) >>= _) _ _ s'
    refine wpAny_bind (wpAny_holding ?_)
    unfold setAdd
    refine wpAny_holding (wpAny_bind ((strKind prog w).pyHash (is_str x t) ?_))
    refine addH_tx (s := { s' with toks := s'.toks + 1 }) (hl.at fun o e => hm.heap S o hSw e) (by omega) fun h' b r sb => ?_
    refine wpAny_pure ⟨plainId_quiet PyProof.Rows.F.plain_set_update_loop _, ih (i + 1) _ (by omega) lt (W.frame _ s' _ _ hst' (Nat.le_succ _) fun b hb o e => ?_) ⟨_, r, fun y => ?_, ?_⟩ fun s'' l' hm'' r' m' l2 => ?_⟩
    · rw [sb.2 b (fun h : b = S => hSf (by rw [← h]; exact hb))]; exact e
    · rw [et, List.mem_append, List.mem_singleton, ← mem y]
      split
      · rename_i c
        exact ⟨.inl, fun z => z.elim id fun e => e ▸ c⟩
      · rw [List.mem_cons]
        exact Or.comm
    · split
      · omega
      · rw [List.length_cons]; omega
    · refine hq s'' l' (Moved.trans W.gtrans ((hm.mono up).then_heap (Nat.le_succ _) fun b o hb e => ?_) hm'') r' m' l2
      rw [sb.2 b (fun h : b = S => hb (by rw [h]; exact List.mem_cons_self))]; exact e
end
section
variable {prog : Program} {w : World} {A : Around} {E : Value → Shared → Prop} {s : Shared}
/-- a new set's object -/
def freshO (w : World) : Obj := { cls := .type "set", dict := none, data := .set #[] 0 (.fresh 0 0 (!w.params.followText "set-order")) }
theorem fresh_tx {h : Heap} {a : Addr} (e : h.get? a = some (freshO w)) : IsTset prog w a [] h := by
  refine ⟨(#[], 0, .fresh 0 0 (!w.params.followText "set-order")), e, TxOk.nil (by rfl), .nil, Sml.fresh _, ?_⟩
  cases c : w.params.followText "set-order"
  · exact .inr rfl
  · exact .inl rfl
set_option maxHeartbeats 3200000 in
theorem setOf_tx {l : Addr} {items : Array Value} {xs : List Str} {Q : Value → Shared → Prop} (hh : A.handled = none) (hl : s.heap.IsList l items) (hn : xs.length = items.size) (hv : ∀ (i : Nat) v, items[i]? = some v → ∃ k t, xs[i]? = some k ∧ v = Value.str k t) (few : items.size ≤ 4)
    (h : ∀ (h' : Heap) (tk : Nat) (ys : List Str), IsTset prog w s.heap.objs.size ys h' → (∀ y, y ∈ ys ↔ y ∈ xs) → ys.length ≤ items.size → (∀ b o, s.heap.get? b = some o → h'.get? b = some o) → Q (.ref s.heap.objs.size) { s with heap := h', toks := tk }) :
    wpAny (model prog w) A (call (.type "set") [.ref l]) Q E s := by
  have hc := PySem.F.called_set
  obtain ⟨_, _, hmro⟩ := hc.mro
  have hmade := hc.made
  have hsub := hc.sub
  have h1 := hc.notType
  have h2 := hc.canCreate
  have h3 := PySem.F.typeCall_set_1 (.ref l)
  refine wpAny_call (codeAny_of_tree ?_)
  show wpAny _ _ (callAny (.type "set") _) _ _ _
  refine wpAny_pure ⟨Code.quiet_builtin _ (by decide +kernel), codeAny_builtin PySem.F.entry_type_call ?_⟩
  rw [Around.under_plain (weight_type_call_type "set" [.ref l] []) rfl]
  repeat (any_goals (first | assumption | wp_step))
  refine codeAny_mono (code_set_led1 (.ref l) (E := E) (Q₁ := fun v t => v = .ref s.heap.objs.size ∧ t = { s with heap := s.heap.push (freshO w) }) ⟨rfl, rfl⟩) fun r t hr => ?_
  rcases r with e | fl
  · exact hr
  cases fl with
  | ret v =>
    obtain ⟨rfl, rfl⟩ := hr
    have hS : (s.heap.push (freshO w)).get? s.heap.objs.size = some (freshO w) := Heap.get?_push_size _ rfl
    have hT : Shared.TypeIs { s with heap := s.heap.push (freshO w) } (.ref s.heap.objs.size) "set" := ⟨_, hS, rfl⟩
    have hli := hc.init.lookup
    have hbi := hc.init.bind (.ref s.heap.objs.size)
    repeat (any_goals (first | assumption | wp_step))
    let After : Value → Shared → Prop := fun r t => r = .none ∧ ∃ h' tk ys, t = { s with heap := h', toks := tk } ∧ IsTset prog w s.heap.objs.size ys h' ∧ (∀ y, y ∈ ys ↔ y ∈ xs) ∧ ys.length ≤ items.size ∧ (∀ b o, s.heap.get? b = some o → h'.get? b = some o)
    refine codeAny_mono (codeAny_call_builtin (R := wants After E) hc.init.plain PySem.F.entry_set_init (check_set_init_1 hT ?_)) fun r t hr => ?_
    · obtain ⟨⟨oc, od, ot, os⟩, hol, hcl, nl, hdl⟩ := hl
      obtain rfl : oc = _ := hcl
      obtain rfl : ot = _ := hdl
      have hol2 : (s.heap.push (freshO w)).get? l = _ := Heap.get?_push_of_some _ hol
      have hl1 : (s.heap.push (freshO w)).IsList l items := ⟨_, hol2, rfl, nl, rfl⟩
      have hs1 := PySem.F.sub_list_set
      have hs2 := PySem.F.sub_list_frozenset
      have hne : (Value.type "list" == Value.type "dict") = false := by decide
      have hlS : l < s.heap.objs.size := Heap.lt_size hol
      have h5 : A.in1.in1.in1.handled = none := by simp [hh]
      have z1 : (s.heap.push (freshO w)).objs.size = s.heap.objs.size + 1 := Heap.size_push _ _
      have hI : l ≠ (s.heap.push (freshO w)).objs.size := by rw [z1]; exact Nat.ne_of_lt (Nat.lt_succ_of_lt hlS)
      have hSf : s.heap.objs.size ∉ [(s.heap.push (freshO w)).objs.size, l] := by
        rw [z1]; simp only [List.mem_cons, List.not_mem_nil, or_false, not_or]
        exact ⟨Nat.ne_of_lt (Nat.lt_succ_self _), Nat.ne_of_gt hlS⟩
      unfold Builtin.«set.__init__» noKeywords Builtin.Frozenset.updateFrom
      generalize hPI : pyIter = PI
      wp_walk
      subst hPI
      refine wpAny_pyIter_list hl1 ?_
      refine wpAny_bind (wpAny_runValue ?_)
      refine tx_taken ((Walks.list h5 _ l hI items).toS) s.heap.objs.size hSf xs hn few (fun i v hp => hv i v hp) (items.size - 0) 0 _ (by omega) (Nat.zero_le _) ⟨⟨_, Heap.get?_push_size _ rfl, rfl, rfl⟩, (hl1.push _)⟩ ?hS0 ?hR
      case hS0 => exact ⟨[], fresh_tx (Heap.get?_push_of_some _ hS), fun y => by simp, Nat.le_refl _⟩
      case hR =>
        intro t ys hm hS' mem len
        obtain ⟨h', g', d', tk', os'⟩ := t
        obtain rfl : g' = s.gens := hm.gens
        obtain rfl : d' = s.drawn := hm.drawn
        obtain rfl : os' = s.os := hm.os
        show wpAny _ _ _ _ _ _
        refine wpAny_pure ?_
        show wpAny _ _ (ret Value.none) _ _ _
        refine wpAny_pure ⟨rfl, h', tk', ys, rfl, hS', mem, len, fun b o e => hm.heap b o ?_ (Heap.get?_push_of_some _ (Heap.get?_push_of_some _ e))⟩
        have hb := Heap.lt_size e
        simp only [List.mem_cons, List.not_mem_nil, or_false, not_or]
        exact ⟨Nat.ne_of_lt hb, by rw [z1]; exact Nat.ne_of_lt (Nat.lt_succ_of_lt hb)⟩
    · rcases r with e | fl
      · exact hr
      cases fl with
      | ret r =>
        obtain ⟨rfl, h', tk, ys, rfl, hS', mem, len, hk'⟩ := hr
        repeat (any_goals (first | assumption | wp_step))
        exact h _ _ _ hS' mem len hk'
      | _ => exact hr.elim
  | _ => exact hr.elim
end
end Bk

set_option Elab.async false
set_option linter.all false
set_option maxRecDepth 100000
set_option maxHeartbeats 2000000
/-! a | b of two short sets of texts. -/
namespace Bk
open PySem PySem.Spec PyProof.Rows L2 Froz
theorem tx_rows {P : Program} {w : World} {D : SD} {l : List Str} (F : TxOk P w D l) : ∀ e ∈ D.1.toList, ∃ k u, e = (hashStr w k, Value.str k u) ∧ k ∈ l := fun e he => by
  obtain ⟨⟨k, hk, hh⟩, _⟩ := F.el e he
  obtain ⟨u, e2⟩ := Value.isStrOf_shape (x := k) (v := e.2) hk
  exact ⟨k, u, Prod.ext hh e2, (F.mem k).mpr ⟨e, he, hk⟩⟩
section
variable {P : Program} {w : World} {A : Around} {E : Value → Shared → Prop} {s : Shared}
theorem walk_tx {a : Addr} {D : SD} {l : List Str} {Q : Array (Int × Value) → Shared → Prop} (ho : s.heap.get? a = some (sObj "set" D)) (F : TxOk P w D l) (led : w.params.followText "set-order" = true ∨ D.2.2.led = true)
    (h : ∀ xs d, xs.toList.Perm D.1.toList → Q xs { s with drawn := d }) : wpAny (model P w) A (setWalk a) Q E s := by
  obtain ⟨es, ep, t⟩ := D
  have hd : (sObj "set" (es, ep, t)).data = .set es ep t := rfl
  unfold setWalk
  refine wpAny_bind (wpAny_setState_of ho hd F.fit ?_)
  dsimp only
  refine wpAny_bind (wpAny_byText ?_)
  cases hb : w.params.followText "set-order" with
  | true =>
    refine wp_if_pos rfl ?_
    exact wpAny_bind (wpAny_askSetting (wpAny_pure (h _ s.drawn (pick_perm _ es))))
  | false =>
    refine wp_if_neg Bool.false_ne_true ?_
    have lt : t.led = true := led.resolve_left (by rw [hb]; exact Bool.false_ne_true)
    cases hdr : (!t.plain && decide (es.size > 1)) with
    | true =>
      refine wp_if_pos hdr ?_
      refine wpAny_bind (drawOrder_at _ _ _ _ (by rw [Array.length_toList]; exact Nat.le_refl _) fun ys d hp => wpAny_pure (h _ d (by simpa using hp)))
    | false =>
      refine wp_if_neg (by show ¬ ((!t.plain && decide (es.size > 1)) = true); rw [hdr]; exact Bool.false_ne_true) ?_
      refine wpAny_bind (wpAny_of_eq (a := ()) ?_ ?_)
      · show (if (!t.led && decide (es.size > 1)) = true then unsupported "set:maker-not-led" else pure ()) = pure ()
        rw [lt]
        rfl
      · exact wpAny_pure (h es s.drawn (.refl _))
/-- what stands of a set while its table's marks are changed -/
theorem put_tx {a : Addr} {D : SD} {l : List Str} {es : Array (Int × Value)} {t : SetTable} {Q : Unit → Shared → Prop} (ho : s.heap.get? a = some (sObj "set" D)) (F : TxOk P w (es, D.2.1, t) l) (nd : l.Nodup) (S : Sml (es, D.2.1, t)) (few : l.length ≤ 4) (led : w.params.followText "set-order" = true ∨ t.led = true)
    (h : ∀ h', h'.get? a = some (sObj "set" (es, D.2.1 + 1, t)) → IsTset P w a l h' → Heap.SameBut a s.heap h' → Q () { s with heap := h' }) : wpAny (model P w) A (storeSet a es t) Q E s := by
  obtain ⟨es0, ep, t0⟩ := D
  have hd : (sObj "set" (es0, ep, t0)).data = .set es0 ep t0 := rfl
  have e1 : s.heap.update a (Obj.putSet es t) = s.heap.update a (fun _ => sObj "set" (es, ep + 1, t)) := (upd_const _ ho).trans rfl
  have sz : es.size = l.length := F.sz
  refine wpAny_storeSet_of ho hd ?_ (by rw [sz, sizeLine_eq]; omega)
  rw [e1]
  have g : (s.heap.update a (fun _ => sObj "set" (es, ep + 1, t))).get? a = some (sObj "set" (es, ep + 1, t)) := Froz.get_upd _ ho rfl
  exact h _ g ⟨_, g, ⟨F.el, F.mem, F.sz, F.fit⟩, nd, ⟨S.tab, S.mask⟩, led⟩ (Heap.SameBut.update s.heap a _)
/-- the rows of a set, one by one, into another one -/
theorem fill_tx {a b : Addr} (ne : a ≠ b) {D : SD} {lb : List Str} (F : TxOk P w D lb) (each : Sem Unit) (hE : ∀ (s' : Shared) (Q' : Unit → Shared → Prop), s'.heap.get? b = some (sObj "set" D) → Q' () s' → wpAny (model P w) A each Q' E s') :
    ∀ (xs : List (Int × Value)) (la : List Str) (s : Shared) (Q : PUnit → Shared → Prop), (∀ e ∈ xs, ∃ k u, e = (hashStr w k, Value.str k u) ∧ k ∈ lb) → s.heap.get? b = some (sObj "set" D) → IsTset P w a la s.heap → la.length + xs.length ≤ 4 →
    (∀ h' l, IsTset P w a l h' → (∀ y, y ∈ l ↔ y ∈ la ∨ ∃ e ∈ xs, ∃ u, e.2 = Value.str y u) → l.length ≤ la.length + xs.length → Heap.SameBut a s.heap h' → Q ⟨⟩ { s with heap := h' }) →
    wpAny (model P w) A (forIn xs PUnit.unit fun (e : Int × Value) (_ : PUnit) => (do
      let _ ← holding [e.2] (setAddHashed a e.2 e.1)
      each
      let st ← setState b
      if (st.2.1 != D.2.1) = true then do
          unsupported "set.changed-during-merge"
          pure (ForInStep.yield PUnit.unit)
        else pure (ForInStep.yield PUnit.unit))) Q E s
  | [], la, s, Q, _, _, R, _, h => by
    rw [List.forIn_nil]
    exact wpAny_pure (h s.heap la R (fun y => ⟨.inl, fun z => z.elim id fun ⟨e, he, _⟩ => (by cases he)⟩) (Nat.le_add_right _ _) (Heap.SameBut.refl a s.heap))
  | e :: xs, la, s, Q, hx, hb, R, few, h => by
    obtain ⟨k, u, rfl, hk⟩ := hx e List.mem_cons_self
    rw [List.forIn_cons]
    rw [List.length_cons] at few
    refine wpAny_bind (wpAny_bind (wpAny_holding (addH_tx R (by omega) fun h1 c R1 sb => ?_)))
    have hb1 : h1.get? b = some (sObj "set" D) := (sb.2 b (Ne.symm ne)).trans hb
    refine wpAny_bind (hE { s with heap := h1 } _ hb1 ?_)
    refine wpAny_bind (wpAny_setState_of (s := { s with heap := h1 }) hb1 rfl F.fit ?_)
    refine wp_if_neg (by simp) (wpAny_pure ?_)
    have len : (if k ∈ la then la else k :: la).length ≤ la.length + 1 := by
      split
      · omega
      · rw [List.length_cons]; omega
    refine fill_tx ne F each hE xs _ { s with heap := h1 } Q (fun e he => hx e (List.mem_cons_of_mem _ he)) hb1 R1 (by omega) fun h2 l R2 mem l2 sb2 => ?_
    refine h h2 l R2 (fun y => ?_) (by rw [List.length_cons]; omega) (sb.trans sb2)
    rw [mem y]
    have c1 : y ∈ (if k ∈ la then la else k :: la) ↔ y ∈ la ∨ y = k := by
      split
      · rename_i c
        exact ⟨.inl, fun z => z.elim id fun e => e ▸ c⟩
      · rw [List.mem_cons]
        exact Or.comm
    rw [c1]
    constructor
    · rintro ((z | z) | ⟨e, he, v, q⟩)
      · exact .inl z
      · exact .inr ⟨_, List.mem_cons_self, u, by rw [z]⟩
      · exact .inr ⟨e, List.mem_cons_of_mem _ he, v, q⟩
    · rintro (z | ⟨e, he, v, q⟩)
      · exact .inl (.inl z)
      · rcases List.mem_cons.mp he with rfl | he
        · exact .inl (.inr (by
            have q : Value.str k u = Value.str y v := q
            cases q
            rfl))
        · exact .inr ⟨e, he, v, q⟩
end
section
variable {P : Program} {w : World} {A : Around} {E : Value → Shared → Prop} {s : Shared}
theorem quiet_tx {a b : Addr} {Da Db : SD} {la lb : List Str} {Q : Bool → Shared → Prop} (ha : s.heap.get? a = some (sObj "set" Da)) (hb : s.heap.get? b = some (sObj "set" Db)) (Fa : TxOk P w Da la) (Fb : TxOk P w Db lb) (h : Q true s) : wpAny (model P w) A (setsQuiet [b, a]) Q E s := by
  unfold setsQuiet
  refine wpAny_bind (wpAny_forIn_list _ (fun rest r s' => r = ((none, ()) : Option Bool × Unit) ∧ s' = s ∧ ∀ c ∈ rest, ∃ D l, s.heap.get? c = some (sObj "set" D) ∧ TxOk P w D l) _ ?_ ?_ _ _ ⟨rfl, rfl, fun c hc => ?_⟩)
  · rintro c rest r s' ⟨rfl, rfl, al⟩
    obtain ⟨D, l, hc, F⟩ := al c List.mem_cons_self
    unfold setEntries
    refine wpAny_bind (wpAny_bind (wpAny_setState_of hc rfl F.fit (wpAny_pure ?_)))
    refine wpAny_bind ?_
    rw [← Array.forIn_toList]
    refine wpAny_forIn_list _ (fun rest r s1 => r = ((none, ()) : Option Bool × Unit) ∧ s1 = s' ∧ ∀ e ∈ rest, ∃ k u, e = (hashStr w k, Value.str k u) ∧ k ∈ l) _ ?_ ?_ _ _ ⟨rfl, rfl, tx_rows F⟩
    · rintro e rest2 r s1 ⟨rfl, rfl, al2⟩
      obtain ⟨k, u, rfl, _⟩ := al2 e List.mem_cons_self
      exact wpAny_pure ⟨rfl, rfl, fun e he => al2 e (List.mem_cons_of_mem _ he)⟩
    · rintro r s1 ⟨rfl, rfl, _⟩
      exact wpAny_pure ⟨rfl, rfl, fun e he => al e (List.mem_cons_of_mem _ he)⟩
  · rintro r s1 ⟨rfl, rfl, _⟩
    exact wpAny_pure h
  · rcases List.mem_cons.mp hc with rfl | hc
    · exact ⟨_, _, hb, Fb⟩
    · rw [List.mem_singleton.mp hc]
      exact ⟨_, _, ha, Fa⟩
theorem unseen_tx {a b : Addr} (ne : a ≠ b) {Da Db : SD} {la lb : List Str} {Q : Array (Int × Value) → Shared → Prop} (ha : s.heap.get? a = some (sObj "set" Da)) (hb : s.heap.get? b = some (sObj "set" Db)) (Fa : TxOk P w Da la) (nda : la.Nodup) (Sa : Sml Da) (fa : la.length ≤ 4) (leda : w.params.followText "set-order" = true ∨ Da.2.2.led = true)
    (Fb : TxOk P w Db lb) (ledb : w.params.followText "set-order" = true ∨ Db.2.2.led = true)
    (h : ∀ xs h' d, xs.toList.Perm Db.1.toList → IsTset P w a la h' → Heap.SameBut a s.heap h' → Q xs { s with heap := h', drawn := d }) : wpAny (model P w) A (setWalkUnseen b [a] (some a)) Q E s := by
  have R0 : IsTset P w a la s.heap := ⟨Da, ha, Fa, nda, Sa, leda⟩
  have wk : wpAny (model P w) A (setWalk b) Q E s := walk_tx hb Fb ledb fun xs d pm => h xs s.heap d pm R0 (Heap.SameBut.refl a s.heap)
  obtain ⟨es, ep, t⟩ := Db
  obtain ⟨ea, pa, ta⟩ := Da
  unfold setWalkUnseen
  refine wpAny_bind (wpAny_setState_of hb rfl Fb.fit ?_)
  dsimp only
  refine wpAny_bind (wpAny_byText ?_)
  by_cases c : (w.params.followText "set-order" || t.led && t.plain || decide (es.size ≤ 1)) = true
  · refine wp_if_pos c ?_
    exact wk
  · refine wp_if_neg c ?_
    refine wpAny_bind (quiet_tx ha hb Fa Fb ?_)
    refine wp_if_neg (by simp) ?_
    refine wpAny_bind (wpAny_rule ?_)
    refine wpAny_bind (wpAny_setState_of ha rfl Fa.fit ?_)
    dsimp only
    by_cases c2 : (ta.led && !t.led || ta.plain && !t.plain) = true
    · refine wp_if_pos c2 ?_
      refine wpAny_bind (put_tx ha (t := { ta with led := ta.led && t.led, plain := ta.plain && t.plain }) ⟨Fa.el, Fa.mem, Fa.sz, Fa.fit⟩ nda ⟨⟨Sa.tab.ris, Sa.tab.dm, Sa.tab.sz, Sa.tab.mok, Sa.tab.bd, Sa.tab.reach⟩, Sa.mask⟩ fa ?_ fun h' _ R sb => wpAny_pure (h es h' s.drawn (.refl _) R sb))
      rcases leda with z | z
      · exact .inl z
      · rcases ledb with y | y
        · exact .inl y
        · exact .inr (by rw [z, show t.led = true from y]; rfl)
    · refine wp_if_neg c2 ?_
      exact wpAny_pure (h es s.heap s.drawn (.refl _) R0 (Heap.SameBut.refl a s.heap))
end
section
variable {P : Program} {w : World} {A : Around} {E : Value → Shared → Prop} {s : Shared}
theorem merge_tx {a b : Addr} (ne : a ≠ b) {la lb : List Str} (Ra : IsTset P w a la s.heap) (Rb : IsTset P w b lb s.heap) (few : la.length + lb.length ≤ 4) (each : Sem Unit)
    (hE : ∀ (s' : Shared) (Q' : Unit → Shared → Prop), s'.heap.get? b = s.heap.get? b → Q' () s' → wpAny (model P w) A each Q' E s') {Q : Unit → Shared → Prop}
    (h : ∀ h' d l, IsTset P w a l h' → (∀ y, y ∈ l ↔ y ∈ la ∨ y ∈ lb) → l.length ≤ la.length + lb.length → Heap.SameBut a s.heap h' → Q () { s with heap := h', drawn := d }) : wpAny (model P w) A (setMerge a b each) Q E s := by
  obtain ⟨Da, ha, Fa, nda, Sa, leda⟩ := id Ra
  obtain ⟨Db, hb, Fb, ndb, Sb, ledb⟩ := id Rb
  unfold setMerge
  refine wp_if_neg (by simpa using ne) ?_
  refine wpAny_bind (wpAny_setState_of hb rfl Fb.fit ?_)
  dsimp only
  have szb : Db.1.size = lb.length := Fb.sz
  have sza : Da.1.size = la.length := Fa.sz
  by_cases c0 : Db.1.isEmpty = true
  · refine wp_if_pos c0 ?_
    have e0 : lb = [] := List.length_eq_zero_iff.mp (by rw [← szb]; simpa using c0)
    subst e0
    exact wpAny_pure (h s.heap s.drawn la Ra (fun y => by simp) (Nat.le_add_right _ _) (Heap.SameBut.refl a s.heap))
  refine wp_if_neg c0 ?_
  have room : Da.2.2.roomFor Db.1.size = none := by
    unfold SetTable.roomFor
    rw [Sa.fill, Sa.mask, if_neg (by omega)]
  refine wpAny_bind ?_
  unfold setRoomFor
  refine wpAny_bind (wpAny_setState_of ha rfl Fa.fit ?_)
  dsimp only
  rw [room]
  refine wpAny_pure ?_
  refine wpAny_bind (wpAny_setState_of ha rfl Fa.fit ?_)
  dsimp only
  have ab : w.params.followText "set-order" = true ∨ (Da.2.2.led && Db.2.2.led) = true := by
    rcases leda with z | z
    · exact .inl z
    · rcases ledb with y | y
      · exact .inl y
      · exact .inr (by rw [z, y]; rfl)
  by_cases c1 : Da.2.2.fill = 0
  · have road : Da.2.2.road Db.2.2 = .slotForSlot := by
      unfold SetTable.road
      rw [c1, Sa.mask, Sb.mask, Sb.tab.dm]
      rfl
    rw [road]
    dsimp only
    have e0 : la = [] := List.length_eq_zero_iff.mp (by rw [← sza, ← Sa.fill]; exact c1)
    subst e0
    exact put_tx ha ⟨Fb.el, Fb.mem, Fb.sz, Fb.fit⟩ ndb ⟨⟨Sb.tab.ris, Sb.tab.dm, Sb.tab.sz, Sb.tab.mok, Sb.tab.bd, Sb.tab.reach⟩, Sb.mask⟩ (by rw [List.length_nil] at few; omega) ab fun h' _ R sb => h h' s.drawn lb R (fun y => by simp) (Nat.le_add_left _ _) sb
  · have road : Da.2.2.road Db.2.2 = .oneByOne := by
      unfold SetTable.road
      rw [if_pos (by simpa using c1)]
    rw [road]
    dsimp only
    refine wpAny_bind (unseen_tx ne ha hb Fa nda Sa (by omega) leda Fb ledb fun xs h1 d pm R1 sb1 => ?_)
    rw [← Array.forIn_toList]
    have hb1 : h1.get? b = some (sObj "set" Db) := (sb1.2 b (Ne.symm ne)).trans hb
    have xl : xs.toList.length = lb.length := by rw [pm.length_eq, Array.length_toList, szb]
    refine wpAny_bind (fill_tx ne Fb each (fun s' Q' e q => hE s' Q' (e.trans hb.symm) q) xs.toList la { s with heap := h1, drawn := d } _ (fun e he => tx_rows Fb e (pm.mem_iff.mp he)) hb1 R1 (by rw [xl]; exact few) fun h2 l R2 mem len sb2 => wpAny_pure ?_)
    refine h h2 d l R2 (fun y => ?_) (by rw [← xl]; exact len) (sb1.trans sb2)
    rw [mem y]
    refine ⟨fun z => z.elim .inl fun ⟨e, he, u, q⟩ => ?_, fun z => z.elim .inl fun z => ?_⟩
    · obtain ⟨k, v, rfl, hk⟩ := tx_rows Fb e (pm.mem_iff.mp he)
      have q : Value.str k v = Value.str y u := q
      cases q
      exact .inr hk
    · obtain ⟨e, he, q⟩ := (Fb.mem y).mp z
      obtain ⟨u, e2⟩ := Value.isStrOf_shape (x := y) (v := e.2) q
      exact .inr ⟨e, pm.mem_iff.mpr he, u, e2⟩
theorem entry_set_or : entryFor table "set.__or__" = some Builtin.«frozenset.__or__» :=
  entryFor_alias (id' := "frozenset.__or__") (by kernel_rfl) rfl (by decide +kernel) (by kernel_rfl)
theorem union_tx {a b : Addr} (ne : a ≠ b) {la lb : List Str} (Ra : IsTset P w a la s.heap) (Rb : IsTset P w b lb s.heap) (few : la.length + lb.length ≤ 4) {Q : Value → Shared → Prop}
    (h : ∀ h' d l, IsTset P w s.heap.objs.size l h' → (∀ y, y ∈ l ↔ y ∈ la ∨ y ∈ lb) → l.length ≤ la.length + lb.length → (∀ c o, s.heap.get? c = some o → h'.get? c = some o) → Q (.ref s.heap.objs.size) { s with heap := h', drawn := d }) : wpAny (model P w) A (binaryOp .BitOr (.ref a) (.ref b)) Q E s := by
  have ta : s.TypeIs (.ref a) "set" := by obtain ⟨_, e, _⟩ := Ra; exact ⟨_, e, rfl⟩
  have tb : s.TypeIs (.ref b) "set" := by obtain ⟨_, e, _⟩ := Rb; exact ⟨_, e, rfl⟩
  refine wpAny_binaryOp_same ta tb PySem.F.fills_set_or PySem.F.slot_set_or ?_
  refine wpAny_call_entry PySem.F.slot_set_or ta entry_set_or ?_ (PySem.F.args_set_or_2 _ _)
  unfold Builtin.«frozenset.__or__»
  refine wpAny_bind (m := Builtin.Frozenset.slot1 "__or__" _) (wpAny_of_eq (a := (Value.ref a, Value.ref b)) (by rfl) ?_)
  dsimp only
  simp only [Bool.false_eq_true, if_false]
  have any : ∀ {c : Addr} {s' : Shared} {Q' : Bool → Shared → Prop}, s'.TypeIs (.ref c) "set" → Q' true s' → wpAny (model P w) A.in1 (Builtin.Frozenset.isAnySet (.ref c)) Q' E s' := fun {c s' Q'} tc q => by
    unfold Builtin.Frozenset.isAnySet
    show wpAny _ _ (isInstance (.ref c) (.type "set") >>= _) _ _ _
    exact wpAny_bind (wpAny_isInstance tc sub_set_self (wpAny_pure q))
  refine wpAny_bind ?_
  show wpAny _ _ (Builtin.Frozenset.isAnySet (.ref a) >>= _) _ _ _
  refine wpAny_bind (any ta ?_)
  refine any tb ?_
  refine wp_if_neg (by simp) ?_
  refine wpAny_bind (m := Builtin.Frozenset.addrOf (.ref a)) (wpAny_pure ?_)
  refine wpAny_bind ?_
  show wpAny _ _ (Builtin.Frozenset.copyOf a >>= _) _ _ _
  refine wpAny_bind ?_
  unfold Builtin.Frozenset.copyOf
  refine wpAny_bind ?_
  unfold Builtin.Frozenset.baseOf
  refine wpAny_bind (wpAny_isInstance ta sub_set_self (wpAny_pure ?_))
  refine wpAny_bind (newSet_tx fun h1 R1 k1 z1 => ?_)
  refine wpAny_bind (m := Builtin.Frozenset.addrOf (.ref s.heap.objs.size)) (wpAny_pure ?_)
  have la1 : a < s.heap.objs.size := by obtain ⟨_, e, _⟩ := Ra; exact Heap.lt_size e
  have lb1 : b < s.heap.objs.size := by obtain ⟨_, e, _⟩ := Rb; exact Heap.lt_size e
  refine wpAny_bind (merge_tx (s := { s with heap := h1 }) (Nat.ne_of_gt la1) R1 (Ra.at (k1 a)) (by rw [List.length_nil]; omega) (pure ()) (fun s' Q' _ q => wpAny_pure q) fun h2 d l2 R2 m2 len2 sb2 => wpAny_pure ?_)
  refine wp_if_pos (by simpa using Ne.symm ne) ?_
  refine wpAny_bind (m := Builtin.Frozenset.addrOf (.ref s.heap.objs.size)) (wpAny_pure ?_)
  refine wpAny_bind (wpAny_holding ?_)
  have kb2 : ∀ o, s.heap.get? b = some o → h2.get? b = some o := fun o e => (sb2.2 b (Nat.ne_of_lt lb1)).trans (k1 b o e)
  have Rb2 := Rb.at kb2
  have tb2 : Shared.TypeIs { s with heap := h2, drawn := d } (.ref b) "set" := by obtain ⟨_, e, _⟩ := Rb2; exact ⟨_, e, rfl⟩
  unfold Builtin.Frozenset.updateFrom
  refine wpAny_bind (any tb2 ?_)
  refine wp_if_pos rfl ?_
  refine wpAny_bind (m := Builtin.Frozenset.addrOf (.ref b)) (wpAny_pure ?_)
  unfold Builtin.Frozenset.merge
  obtain ⟨Db, hb, Fb, _⟩ := id Rb2
  refine wpAny_bind (wpAny_setEpoch_of (s := { s with heap := h2, drawn := d }) hb rfl Fb.fit ?_)
  rw [List.length_nil, Nat.zero_add] at len2
  refine merge_tx (s := { s with heap := h2, drawn := d }) (Nat.ne_of_gt lb1) R2 Rb2 (by omega) _ (fun s' Q' e q => ?_) fun h3 d3 l3 R3 m3 len3 sb3 => ?_
  · unfold Builtin.Frozenset.unchanged
    refine wpAny_bind (wpAny_setEpoch_of (e.trans hb) rfl Fb.fit ?_)
    exact wp_if_neg (by simp) (wpAny_pure q)
  · refine wpAny_pure (wpAny_pure ⟨_, rfl, fun z => (by cases z), h h3 d3 l3 R3 (fun y => ?_) (by omega) fun c o e => ?_⟩)
    · rw [m3 y, m2 y]
      simp
    · have lc := Nat.ne_of_lt (Heap.lt_size e)
      exact (sb3.2 c lc).trans ((sb2.2 c lc).trans (k1 c o e))
end
/-! ### as readings -/
section
variable {X : Cx}
/-- set(xs) -/
def rSetTx (K : PySem.W.Frag) (P : Program) (w : World) : List V → Hp → VK → Prop := fun vs H Q => ∃ (l : Addr) (xs : List Str), vs = [.ref l] ∧ SqL K H l (xs.map V.str) ∧ xs.length ≤ 4 ∧ ∀ ys p, (∀ y, y ∈ ys ↔ y ∈ xs) → ys.length ≤ xs.length → H p = none → Q (.ref p) (upd H p (TsO P w p ys))
theorem cr_setTx (hc : X.calm = true) : CallR X (.type "set") (rSetTx X.K X.prog X.w) := by
  intro pins s σ H vs us Q I r h
  obtain ⟨l, xs, rfl, hl, few, q⟩ := h
  obtain ⟨its, rv, pl, hz⟩ := I.list hl
  rw [Vals.ref1 r]
  have e : xs.length = its.toArray.size := by rw [List.size_toArray, ← rv.length, List.length_map]
  refine setOf_tx (I.ok.hd hc) pl.isList e (fun i v hv => ?_) (by rw [← e]; exact few) fun h' tk ys R mem len k => ?_
  · obtain ⟨x, t, h1, h2⟩ := BkS.strs_of rv i v (by simpa using hv)
    exact ⟨x, t, h1, h2⟩
  · have hn : H s.heap.objs.size = none := I.hok.fresh (Nat.le_refl _)
    exact ⟨.ref _, _, I.laid (t' := tk) k (Nat.le_refl _) (tsO_new R), rfl, q ys _ mem (by rw [e]; exact len) hn⟩
/-- a | b -/
def rUniTx (P : Program) (w : World) : R2 := fun x y H Q => ∃ (a b : Addr) (la lb : List Str), x = .ref a ∧ y = .ref b ∧ a ≠ b ∧ H a = some (TsO P w a la) ∧ H b = some (TsO P w b lb) ∧ la.length + lb.length ≤ 4 ∧ ∀ ys p, (∀ z, z ∈ ys ↔ z ∈ la ∨ z ∈ lb) → ys.length ≤ la.length + lb.length → H p = none → Q (.ref p) (upd H p (TsO P w p ys))
theorem op_uniTx : OpR X (binaryOp .BitOr) (rUniTx X.prog X.w) := by
  intro pins s σ H x y v u Q I rx ry h
  obtain ⟨a, b, la, lb, rfl, rfl, ne, ha, hb, few, q⟩ := h
  cases rx
  cases ry
  refine union_tx ne (tsO_get I ha) (tsO_get I hb) few fun h' d l R mem len k => ?_
  have hn : H s.heap.objs.size = none := I.hok.fresh (Nat.le_refl _)
  have J : Inv X pins σ (upd H s.heap.objs.size (TsO X.prog X.w s.heap.objs.size l)) { s with heap := h', gens := s.gens, drawn := d, toks := s.toks } :=
    I.call (ch := []) (Un.laid k (Nat.le_refl _) hn) (I.hok.laid k (Nat.le_refl _) (tsO_new R)) I.bare (fun _ z => nomatch z)
  exact ⟨.ref _, _, J, rfl, q l _ mem len hn⟩
end
end Bk

set_option Elab.async false
set_option linter.all false
set_option maxRecDepth 100000
set_option maxHeartbeats 2000000
/-! {elt for a in xs}: a small set of texts. -/
namespace Bk
open PySem PySem.Spec PyProof.Rows L2 Froz
section
variable {X : Cx} {pins : List (Addr × Obj)} {σ : L2.St} {H : Hp} {s : Shared}
/-- {elt for tg in iter}, elt a text: D the new set -/
def tSc1 (P : Program) (w : World) (wi : TI) (g : TG) (te : TE) (vs : List Nat) : TE := fun σ H Q => wi σ H fun J H1 => ∀ D, H1 D = none → ∃ W : Nat → Nat → Hp → Prop, (∃ m, W 0 m (upd H1 D (TsO P w D []))) ∧ ∀ i m Ha, W i m Ha →
      (J.stop i Ha ∧ Q (.ref D) Ha) ∨ (J.go i Ha ∧ ∃ Nx : Hp → Prop, (∀ Hb, Nx Hb → ∃ m', m' < m ∧ W (i + 1) m' Hb) ∧ ∀ x Hb, J.yld i Ha x Hb → g x (wipe σ vs) Hb fun σ2 H2 => wipe σ2 vs = wipe σ vs ∧ te σ2 H2 fun z H7 =>
          ∃ (k : Str) (l : List Str), z = .str k ∧ H7 D = some (TsO P w D l) ∧ l.length ≤ 3 ∧ Nx (upd H7 D (TsO P w D (if k ∈ l then l else k :: l))))
theorem sc1_core {Q : VK} {elt tg iter : Expr} {scope : Scope} {own : List (PySem.Str × Nat)} {pos pos' : Pos} {wi : TI} {g : TG} {te : TE} {use : Option (Value → Sem Unit)} {Qf : Value → Shared → Prop}
    (hc : X.calm = true) (hN : X.N.Nodup) (I : Inv X pins σ H s) (hi : PI X tg iter wi) (ok : BlkOk X.N X.env.scope scope own)
    (hg : ∀ (s : Shared) (H : Hp) (C : Addr) (cl : List (PySem.Str × Addr)) (fp : List Addr), PG (X.blk s H scope (compEnvC scope cl C X.env) fp) tg g)
    (he : ∀ (s : Shared) (H : Hp) (C : Addr) (cl : List (PySem.Str × Addr)) (fp : List Addr), PE (X.blk s H scope (compEnvC scope cl C X.env) fp) elt te) (hs : ∀ x, foldedSetIterable iter X.env x = pure x)
    (h : tSc1 X.prog X.w wi g te (own.map (·.2)) σ H Q)
    (hRR : ∀ D C s' m H', Inv X pins σ H' s' → Q (.ref D) H' → s'.heap.Ns C m → FpOk X pins H' C → compPost (model X.prog X.w) X.A X.xe use Qf (.ref D) C (.ok .next) s') :
    wpAny (model X.prog X.w) X.A (comprehension (.SetComp elt [⟨tg, iter, [], 0⟩] scope pos) scope X.env pos' (newSet (.type "set")) false (eval iter X.env) use) Qf X.xe s := by
  have hfree : ∀ y ∈ scope.names, y.2 = .free → ∃ c, X.env.cells.lookup y.1 = some c := fun y hy e => by
    rcases ok.free y hy e with k | k
    · exact I.ok.has _ (.inl k)
    · exact I.ok.has _ (.inr k)
  refine wpAny_comprehension_free (use := use) rfl hs (closure_ok hfree) ok.kind (fun y hy e => by rw [ok.uniq y hy, e])
    (thn (hi.run pins s σ H _ I h) fun xv s1 hx => thn hx fun itv s2 h2 => ?_)
  obtain ⟨it, fp, tn, J, H2, e, I2, T, st2, f2, q⟩ := h2
  subst e
  refine newSet_tx fun hp RT kp zp => newEnv_comp ?_
  generalize hD : s2.heap.objs.size = D at RT zp
  have hDn : H2 D = none := I2.hok.fresh (Nat.le_of_eq hD)
  obtain ⟨W, ⟨m0, w0⟩, turn⟩ := q D hDn
  generalize hs3 : ({ s2 with heap := hp } : Shared) = s3
  have h3 : s3.heap = hp := by rw [← hs3]
  have I3 : Inv X pins σ (upd H2 D (TsO X.prog X.w D [])) s3 := by
    rw [← hs3]
    exact I2.laid (t' := s2.toks) kp (Nat.le_of_eq hD) (tsO_new RT)
  have sz : ∀ b ∈ fp, b < s2.heap.objs.size := fun b hb => by
    obtain ⟨o, e, _⟩ := T.obj _ _ st2 b hb
    exact Heap.lt_size e
  have f3 : ∀ b ∈ fp, FpOk X pins (upd H2 D (TsO X.prog X.w D [])) b ∧ b < s3.heap.objs.size := fun b hb => by
    have hlt := sz b hb
    refine ⟨⟨?_, (f2 b hb).2⟩, by rw [h3, zp, ← hD]; exact Nat.lt_succ_of_lt hlt⟩
    rw [upd_ne (by rw [← hD]; exact Nat.ne_of_lt hlt)]
    exact (f2 b hb).1
  have st3 : tn 0 s3.heap := T.keep _ _ _ st2 fun b _ o e => by rw [h3]; exact kp _ _ e
  have I4 := block_start I3 ok hN f3
  have pg := hg s3 (upd H2 D (TsO X.prog X.w D [])) s3.heap.objs.size (cellsFrom (s3.heap.objs.size + 1) scope.names (cloFrom X.env.cells scope.names [])) fp
  have pe := he s3 (upd H2 D (TsO X.prog X.w D [])) s3.heap.objs.size (cellsFrom (s3.heap.objs.size + 1) scope.names (cloFrom X.env.cells scope.names [])) fp
  show codeAny _ _ (.compStart (.SetComp elt [⟨tg, iter, [], 0⟩] scope pos) 0 (.ref it) (.ref D) (compEnvC scope (cellsFrom (s3.heap.objs.size + 1) scope.names (cloFrom X.env.cells scope.names [])) s3.heap.objs.size X.env)) (compPost (model X.prog X.w) X.A X.xe use Qf (.ref D) s3.heap.objs.size) { s3 with heap := pushCells (s3.heap.push { cls := .type "dict", data := .dict #[] }) scope.names }
  have nfp : ∀ b ∈ fp, (upd H2 D (TsO X.prog X.w D [])) b = none := fun b hb => (f3 b hb).1.1
  generalize hce : compEnvC scope (cellsFrom (s3.heap.objs.size + 1) scope.names (cloFrom X.env.cells scope.names [])) s3.heap.objs.size X.env = ce at I4 pg pe ⊢
  have cL : ce.locals = s3.heap.objs.size := by subst hce; rfl
  generalize hH3 : upd H2 D (TsO X.prog X.w D []) = H3 at I3 I4 pg pe w0 nfp f3
  generalize hs4 : ({ s3 with heap := pushCells (s3.heap.push { cls := .type "dict", data := .dict #[] }) scope.names } : Shared) = s4 at I4 ⊢
  have st4 : tn 0 s4.heap := T.keep _ _ _ st3 fun b _ o e => by rw [← hs4]; exact pushCells_keeps _ _ _ _ (Heap.get?_push_of_some _ e)
  have stat : ∀ {σ' : L2.St} {H' : Hp} {s' : Shared}, Inv (X.blk s3 H3 scope ce fp) [] σ' H' s' → (∀ b ∈ fp, H' b = none) → ∀ b ∈ fp, FpOk (X.blk s3 H3 scope ce fp) [] H' b := fun {σ' H' s'} I' hn b hb =>
    ⟨hn b hb, (I'.ok.exf b hb).1, I'.ok.exfs b hb, .inl hb, fun x c e => (I'.ok.exf b hb).2 x c e, fun p hp => absurd (show p ∈ ([] : List (Addr × Obj)) ++ [] from hp) (by simp)⟩
  have loop : codeAny (model X.prog X.w) X.A (.compLoop (.SetComp elt [⟨tg, iter, [], 0⟩] scope pos) 0 (.ref it) (.ref D) ce) (compPost (model X.prog X.w) X.A X.xe use Qf (.ref D) s3.heap.objs.size) s4 := by
    refine PpSet.compLoopS_any (fun n s' => ∃ i H', Inv (X.blk s3 H3 scope ce fp) [] (wipe σ (own.map (·.2))) H' s' ∧ tn i s'.heap ∧ (∀ b ∈ fp, H' b = none) ∧ W i n H') ?_ m0 ⟨0, H3, I4, st4, nfp, w0⟩
    rintro n s5 ⟨i, H5, I5, st5, n5, w5⟩
    rcases turn i n H5 w5 with ⟨stop, qq⟩ | ⟨go, Nx, hNx, step⟩
    · have td := T.done (X.blk s3 H3 scope ce fp) rfl rfl rfl hc i [] s5 _ H5 (fun _ _ => False) I5 (stat I5 n5) st5 stop
      refine thnF td fun r s6 ⟨hr, I6⟩ => ?_
      subst hr
      have I7 : Inv X pins σ H5 s6 := I3.call' (ch := fp) I6.os I6.base I6.hok I6.bare fun b hb => ⟨(f3 b hb).1.2.2.2.1, (f3 b hb).1.2.1, (f3 b hb).1.2.2.2.2.1, (f3 b hb).1.2.2.2.2.2⟩
      have nC : H5 s3.heap.objs.size = none := by
        have z : H5 ce.locals = none := I6.free
        rw [cL] at z
        exact z
      obtain ⟨m, hn, _⟩ := I6.loc
      have hn : s6.heap.Ns ce.locals m := hn
      rw [cL] at hn
      exact hRR D s3.heap.objs.size s6 m H5 I7 qq hn (I3.fpOk (Nat.le_refl _) nC)
    · have ti := T.item (X.blk s3 H3 scope ce fp) rfl rfl rfl hc i [] s5 _ H5 (fun _ _ => False) I5 (stat I5 n5) st5 go
      refine thnF ti fun r s6 ⟨u, hr, h6⟩ => ?_
      subst hr
      refine thnF h6 fun _ s7 ⟨x, H7, I7, r7, y7, st7, n7⟩ => ?_
      have I7' := I7.pinned (stat I7 n7) (T.obj _ _ st7)
      refine thnF (pg.run _ s7 _ H7 x u _ I7' r7 (step x H7 y7)) fun _ s8 ⟨σ8, H8, I8, hw8, q8⟩ => ?_
      have fin : ∀ {σ9 : L2.St} {s' : Shared} {H' : Hp}, Inv (X.blk s3 H3 scope ce fp) ([] ++ pinsAt fp s7.heap) σ9 H' s' → (wipe σ (own.map (·.2))).length = σ9.length → (∀ (j : Nat) v, (wipe σ (own.map (·.2)))[j]? = some (some v) → σ9[j]? = some (some v)) → Nx H' →
          ∃ m, m < n ∧ ∃ i H', Inv (X.blk s3 H3 scope ce fp) [] (wipe σ (own.map (·.2))) H' s' ∧ tn i s'.heap ∧ (∀ b ∈ fp, H' b = none) ∧ W i m H' := fun {σ9 s' H'} I' hl hk nx => by
        obtain ⟨m', hm, w'⟩ := hNx H' nx
        have pin' : ∀ b ∈ fp, ∀ o, s7.heap.get? b = some o → s'.heap.get? b = some o ∧ H' b = none := fun b hb o e =>
          let z := I'.pin (b, o) (List.mem_append_right _ (List.mem_append_right _ (mem_pinsAt hb e)))
          ⟨z.1, z.2.1⟩
        refine ⟨m', hm, i + 1, H', (I'.unpinned (pins := [])).weak hl hk, T.keep _ _ _ st7 fun b hb o e => (pin' b hb o e).1, fun b hb => ?_, w'⟩
        obtain ⟨o, e, _⟩ := T.obj _ _ st7 b hb
        exact (pin' b hb o e).2
      have hl8 : (wipe σ (own.map (·.2))).length = σ8.length := by rw [← hw8, wipe_length]
      have hk8 : ∀ (j : Nat) v, (wipe σ (own.map (·.2)))[j]? = some (some v) → σ8[j]? = some (some v) := fun j v e => by
        rw [← hw8] at e
        exact (wipe_some e).1
      refine wpAny_tests_nil ?_
      simp only [if_true]
      refine thnF (pe.run _ s8 σ8 H8 _ I8 q8) fun z s17 ⟨yv, H17, I17, r17, kk, l, ez, hD17, hz17, nx⟩ => ?_
      subst ez
      exact addTx_ok (X := X.blk s3 H3 scope ce fp) I17 hD17 hz17 r17 fun s18 I18 => fin I18 hl8 hk8 nx
  exact PpSet.codeAny_compStart_set loop (T.self X.A 0 _ _ _ st4 loop)
theorem pe_sc1 {elt tg iter : Expr} {scope : Scope} {own : List (PySem.Str × Nat)} {pos : Pos} {wi : TI} {g : TG} {te : TE} (hc : X.calm = true) (hN : X.N.Nodup) (hi : PI X tg iter wi) (ok : BlkOk X.N X.env.scope scope own)
    (hg : ∀ (s : Shared) (H : Hp) (C : Addr) (cl : List (PySem.Str × Addr)) (fp : List Addr), PG (X.blk s H scope (compEnvC scope cl C X.env) fp) tg g)
    (he : ∀ (s : Shared) (H : Hp) (C : Addr) (cl : List (PySem.Str × Addr)) (fp : List Addr), PE (X.blk s H scope (compEnvC scope cl C X.env) fp) elt te) (hs : ∀ x, foldedSetIterable iter X.env x = pure x := by intro _; rfl) :
    PE X (.SetComp elt [⟨tg, iter, [], 0⟩] scope pos) (tSc1 X.prog X.w wi g te (own.map (·.2))) := by
  refine ⟨fun pins s σ H Q I h => ?_⟩
  rw [PpSet.eval_SetComp]
  refine sc1_core hc hN I hi ok hg he hs h fun D C s' m H' I' q hn f => ⟨m, hn, fun h'' sb => ?_⟩
  obtain ⟨f0, f1, f2, f3, f4, f5⟩ := f
  exact ⟨.ref D, H', I'.turned (t' := s'.toks) (fun b o hb e => (sb.2 b hb).trans e) f0 f1 f3 f4 f5, rfl, q⟩
end
end Bk

set_option Elab.async false
set_option linter.all false
set_option maxRecDepth 100000
set_option maxHeartbeats 2000000
/-! sets of few texts out of many. -/
namespace Bk
open PySem PySem.Spec PyProof.Rows L2 Froz
theorem nodup_sub4 {l ws : List Str} (nd : l.Nodup) (h : ∀ y ∈ l, y ∈ ws) : l.length ≤ ws.length := List.Nodup.length_le_of_subset nd (l₂ := ws) h
section
variable {P : Program} {w : World} {A : Around} {E : Value → Shared → Prop} {s : Shared}
theorem addH_tx4 {a : Addr} {l : List Str} {k : Str} {u : Tok} {Q : Bool → Shared → Prop} (R : IsTset P w a l s.heap) (few4 : l.length ≤ 4) (few : k ∉ l → l.length ≤ 3)
    (h : ∀ h' b, IsTset P w a (if k ∈ l then l else k :: l) h' → Heap.SameBut a s.heap h' → Q b { s with heap := h' }) : wpAny (model P w) A (setAddHashed a (.str k u) (hashStr w k)) Q E s := by
  obtain ⟨D, ho, F, nd, S, led⟩ := R
  by_cases hk : k ∈ l
  · rw [if_pos hk] at h
    have fin := h s.heap false ⟨D, ho, F, nd, S, led⟩ (Heap.SameBut.refl a s.heap)
    obtain ⟨es, ep, t⟩ := D
    have hd : (sObj "set" (es, ep, t)).data = .set es ep t := rfl
    have hf : t.fits es.size = true := F.fit
    have hel : ElemsOf (strKind P w) es.toList := F.el
    have hsz : es.size = l.length := F.sz
    unfold setAddHashed setAddHashedIn
    refine wpAny_holding (wpAny_bind (wpAny_setState_of ho hd hf ?_))
    dsimp only
    rw [byScan_of rfl (by unfold scanBound; omega) hel]
    simp only [↓reduceIte]
    unfold setAddByScan
    refine wpAny_bind ?_
    refine wpAny_bind (wpAny_rule ?_)
    refine wpAny_bind (wpAny_setScan_of (knd := strKind P w) (k := k) (is_str k u) ho hd hf hel ?_)
    cases hfi : List.findIdx? (fun e => (strKind P w).is k e.2) es.toList with
    | some j =>
      dsimp only
      exact wpAny_pure (wpAny_pure fin)
    | none =>
      obtain ⟨e, he, q⟩ := (F.mem k).mp hk
      have c := List.findIdx?_eq_none_iff.mp hfi e he
      rw [q] at c
      cases c
  · rw [if_neg hk] at h
    have few2 : D.1.size ≤ 3 := by
      have : D.1.size = l.length := F.sz
      have := few hk
      omega
    obtain ⟨S2, l2⟩ := S.add (hashStr w k) (.str k u) few2
    refine add_x ho F hk (by unfold scanBound; omega) (h _ true ⟨_, Froz.get_upd _ ho rfl, add_ok u F, List.nodup_cons.mpr ⟨hk, nd⟩, S2, led.imp id fun z => l2.trans z⟩ (Heap.SameBut.update s.heap a _))
theorem add_tx4 {a : Addr} {l : List Str} {k : Str} {u : Tok} {Q : Value → Shared → Prop} (R : IsTset P w a l s.heap) (few4 : l.length ≤ 4) (few : k ∉ l → l.length ≤ 3)
    (h : ∀ h' tk, IsTset P w a (if k ∈ l then l else k :: l) h' → Heap.SameBut a s.heap h' → Q .none { s with heap := h', toks := tk }) : wpAny (model P w) A (call (.builtin "set.add") [.ref a, .str k u]) Q E s := by
  have hT : s.TypeIs (.ref a) "set" := by
    obtain ⟨D, ho, _⟩ := R
    exact ⟨_, ho, rfl⟩
  refine wpAny_call_entry PySem.F.slot_set_add hT PySem.F.entry_set_add ?_ (PySem.F.args_set_add_2 _ _)
  unfold Builtin.«set.add» Builtin.Frozenset.oneOther
  simp only [List.isEmpty_nil, bind_assoc]
  unfold Builtin.Frozenset.addrOf setAdd
  refine wpAny_bind (wpAny_pure ?_)
  try dsimp only
  refine wpAny_bind (wpAny_pure ?_)
  try dsimp only
  refine wpAny_bind (wpAny_holding (wpAny_bind ((strKind P w).pyHash (is_str k u) ?_)))
  refine addH_tx4 (s := { s with toks := s.toks + 1 }) R few4 few fun h' b r sb => ?_
  show wpAny _ _ (ret Value.none) _ _ _
  exact wpAny_pure ⟨_, rfl, h h' _ r sb⟩
end
section
variable {prog : Program} {w : World} {A : Around} {R : Result → Shared → Prop} {I : Addr} {fp wr : List Addr} {G : Array GenState → Array GenState → Prop} {n : Nat} {P : Nat → Value → Prop} {St : Nat → Shared → Prop}
/-- the set takes the walk's texts, one by one -/
theorem tx_taken4 (W : WalksS prog w A.in1 I fp wr G n P St) (S : Addr) (hSf : S ∉ fp) (xs : List Str) (hn : xs.length = n) (ws : List Str) (hw4 : ws.length ≤ 4) (sub : ∀ x ∈ xs, x ∈ ws) (hv : ∀ i v, P i v → ∃ k t, xs[i]? = some k ∧ v = Value.str k t) :
    ∀ (k i : Nat) (s : Shared), n - i = k → i ≤ n → St i s → (∃ l, IsTset prog w S l s.heap ∧ (∀ y, y ∈ l ↔ y ∈ xs.take i)) →
      (∀ s' l, Moved (S :: wr) G s s' → IsTset prog w S l s'.heap → (∀ y, y ∈ l ↔ y ∈ xs) → R (.ok (.ret .none)) s') → codeAny (model prog w) A (.builtin "set.update.loop" ⟨[.ref S, .ref I], []⟩) R s := by
  have hSw : S ∉ wr := fun h => hSf (W.sub _ h)
  have up : ∀ b ∈ wr, b ∈ S :: wr := fun b hb => List.mem_cons_of_mem _ hb
  intro k
  induction k with
  | zero =>
    intro i s hk hi hst ⟨l, hl, mem⟩ hq
    obtain rfl : i = n := by omega
    refine codeAny_builtin PyProof.Rows.F.entry_set_update_loop ?_
    rw [Around.under_plainId PyProof.Rows.F.plain_set_update_loop _]
    show wpAny _ A.in1 (pyNext (.ref I) >>= _) _ _ s
    refine wpAny_bind (W.done s _ _ hst fun s' hm => ?_)
    show wpAny _ A.in1 (ret Value.none) _ _ s'
    rw [← hn, List.take_length] at mem
    exact wpAny_pure (hq s' l (hm.mono up) (hl.at fun o e => hm.heap S o hSw e) mem)
  | succ k ih =>
    intro i s hk hi hst ⟨l, hl, mem⟩ hq
    have lt : i < n := by omega
    refine codeAny_builtin PyProof.Rows.F.entry_set_update_loop ?_
    rw [Around.under_plainId PyProof.Rows.F.plain_set_update_loop _]
    show wpAny _ A.in1 (pyNext (.ref I) >>= _) _ _ s
    refine wpAny_bind (W.item i s _ _ lt hst fun v s' hP hst' hm => ?_)
    obtain ⟨x, t, ex, rfl⟩ := hv i v hP
    have inw : ∀ y ∈ l, y ∈ ws := fun y hy => sub y (List.mem_of_mem_take ((mem y).mp hy))
    have ndl : l.Nodup := by
      obtain ⟨_, _, _, nd, _⟩ := hl
      exact nd
    have l4 : l.length ≤ 4 := Nat.le_trans (nodup_sub4 ndl inw) hw4
    have l3 : x ∉ l → l.length ≤ 3 := fun nx => by
      have := nodup_sub4 (l := x :: l) (List.nodup_cons.mpr ⟨nx, ndl⟩) fun y hy => (List.mem_cons.mp hy).elim (fun e => e ▸ sub x (List.mem_of_getElem? ex)) (inw y)
      rw [List.length_cons] at this
      omega
    have et : xs.take (i + 1) = xs.take i ++ [x] := by rw [List.take_add_one, ex]; rfl
    show wpAny _ A.in1 (holding [.str x t] (setAdd S (.str x t)) >>= _) _ _ s'
    refine wpAny_bind (wpAny_holding ?_)
    unfold setAdd
    refine wpAny_holding (wpAny_bind ((strKind prog w).pyHash (is_str x t) ?_))
    refine addH_tx4 (s := { s' with toks := s'.toks + 1 }) (hl.at fun o e => hm.heap S o hSw e) l4 l3 fun h' b r sb => ?_
    refine wpAny_pure ⟨plainId_quiet PyProof.Rows.F.plain_set_update_loop _, ih (i + 1) _ (by omega) lt (W.frame _ s' _ _ hst' (Nat.le_succ _) fun b hb o e => ?_) ⟨_, r, fun y => ?_⟩ fun s'' l' hm'' r' m' => ?_⟩
    · rw [sb.2 b (fun h : b = S => hSf (by rw [← h]; exact hb))]; exact e
    · rw [et, List.mem_append, List.mem_singleton, ← mem y]
      split
      · rename_i c
        exact ⟨.inl, fun z => z.elim id fun e => e ▸ c⟩
      · rw [List.mem_cons]
        exact Or.comm
    · refine hq s'' l' (Moved.trans W.gtrans ((hm.mono up).then_heap (Nat.le_succ _) fun b o hb e => ?_) hm'') r' m'
      rw [sb.2 b (fun h : b = S => hb (by rw [h]; exact List.mem_cons_self))]; exact e
end
section
variable {prog : Program} {w : World} {A : Around} {E : Value → Shared → Prop} {s : Shared}
set_option maxHeartbeats 3200000 in
theorem setOf_tx4 {l : Addr} {items : Array Value} {xs : List Str} {Q : Value → Shared → Prop} (hh : A.handled = none) (hl : s.heap.IsList l items) (hn : xs.length = items.size) (hv : ∀ (i : Nat) v, items[i]? = some v → ∃ k t, xs[i]? = some k ∧ v = Value.str k t) (ws : List Str) (hw4 : ws.length ≤ 4) (sub : ∀ x ∈ xs, x ∈ ws)
    (h : ∀ (h' : Heap) (tk : Nat) (ys : List Str), IsTset prog w s.heap.objs.size ys h' → (∀ y, y ∈ ys ↔ y ∈ xs) → (∀ b o, s.heap.get? b = some o → h'.get? b = some o) → Q (.ref s.heap.objs.size) { s with heap := h', toks := tk }) :
    wpAny (model prog w) A (call (.type "set") [.ref l]) Q E s := by
  have hc := PySem.F.called_set
  obtain ⟨_, _, hmro⟩ := hc.mro
  have hmade := hc.made
  have hsub := hc.sub
  have h1 := hc.notType
  have h2 := hc.canCreate
  have h3 := PySem.F.typeCall_set_1 (.ref l)
  refine wpAny_call (codeAny_of_tree ?_)
  show wpAny _ _ (callAny (.type "set") _) _ _ _
  refine wpAny_pure ⟨Code.quiet_builtin _ (by decide +kernel), codeAny_builtin PySem.F.entry_type_call ?_⟩
  rw [Around.under_plain (weight_type_call_type "set" [.ref l] []) rfl]
  repeat (any_goals (first | assumption | wp_step))
  refine codeAny_mono (code_set_led1 (.ref l) (E := E) (Q₁ := fun v t => v = .ref s.heap.objs.size ∧ t = { s with heap := s.heap.push (freshO w) }) ⟨rfl, rfl⟩) fun r t hr => ?_
  rcases r with e | fl
  · exact hr
  cases fl with
  | ret v =>
    obtain ⟨rfl, rfl⟩ := hr
    have hS : (s.heap.push (freshO w)).get? s.heap.objs.size = some (freshO w) := Heap.get?_push_size _ rfl
    have hT : Shared.TypeIs { s with heap := s.heap.push (freshO w) } (.ref s.heap.objs.size) "set" := ⟨_, hS, rfl⟩
    have hli := hc.init.lookup
    have hbi := hc.init.bind (.ref s.heap.objs.size)
    repeat (any_goals (first | assumption | wp_step))
    let After : Value → Shared → Prop := fun r t => r = .none ∧ ∃ h' tk ys, t = { s with heap := h', toks := tk } ∧ IsTset prog w s.heap.objs.size ys h' ∧ (∀ y, y ∈ ys ↔ y ∈ xs) ∧ (∀ b o, s.heap.get? b = some o → h'.get? b = some o)
    refine codeAny_mono (codeAny_call_builtin (R := wants After E) hc.init.plain PySem.F.entry_set_init (check_set_init_1 hT ?_)) fun r t hr => ?_
    · obtain ⟨⟨oc, od, ot, os⟩, hol, hcl, nl, hdl⟩ := hl
      obtain rfl : oc = _ := hcl
      obtain rfl : ot = _ := hdl
      have hol2 : (s.heap.push (freshO w)).get? l = _ := Heap.get?_push_of_some _ hol
      have hl1 : (s.heap.push (freshO w)).IsList l items := ⟨_, hol2, rfl, nl, rfl⟩
      have hs1 := PySem.F.sub_list_set
      have hs2 := PySem.F.sub_list_frozenset
      have hne : (Value.type "list" == Value.type "dict") = false := by decide
      have hlS : l < s.heap.objs.size := Heap.lt_size hol
      have h5 : A.in1.in1.in1.handled = none := by simp [hh]
      have z1 : (s.heap.push (freshO w)).objs.size = s.heap.objs.size + 1 := Heap.size_push _ _
      have hI : l ≠ (s.heap.push (freshO w)).objs.size := by rw [z1]; exact Nat.ne_of_lt (Nat.lt_succ_of_lt hlS)
      have hSf : s.heap.objs.size ∉ [(s.heap.push (freshO w)).objs.size, l] := by
        rw [z1]; simp only [List.mem_cons, List.not_mem_nil, or_false, not_or]
        exact ⟨Nat.ne_of_lt (Nat.lt_succ_self _), Nat.ne_of_gt hlS⟩
      unfold Builtin.«set.__init__» noKeywords Builtin.Frozenset.updateFrom
      generalize hPI : pyIter = PI
      wp_walk
      subst hPI
      refine wpAny_pyIter_list hl1 ?_
      refine wpAny_bind (wpAny_runValue ?_)
      refine tx_taken4 ((Walks.list h5 _ l hI items).toS) s.heap.objs.size hSf xs hn ws hw4 sub (fun i v hp => hv i v hp) (items.size - 0) 0 _ (by omega) (Nat.zero_le _) ⟨⟨_, Heap.get?_push_size _ rfl, rfl, rfl⟩, (hl1.push _)⟩ ?hS0 ?hR
      case hS0 => exact ⟨[], fresh_tx (Heap.get?_push_of_some _ hS), fun y => by simp⟩
      case hR =>
        intro t ys hm hS' mem
        obtain ⟨h', g', d', tk', os'⟩ := t
        obtain rfl : g' = s.gens := hm.gens
        obtain rfl : d' = s.drawn := hm.drawn
        obtain rfl : os' = s.os := hm.os
        show wpAny _ _ _ _ _ _
        refine wpAny_pure ?_
        show wpAny _ _ (ret Value.none) _ _ _
        refine wpAny_pure ⟨rfl, h', tk', ys, rfl, hS', mem, fun b o e => hm.heap b o ?_ (Heap.get?_push_of_some _ (Heap.get?_push_of_some _ e))⟩
        have hb := Heap.lt_size e
        simp only [List.mem_cons, List.not_mem_nil, or_false, not_or]
        exact ⟨Nat.ne_of_lt hb, by rw [z1]; exact Nat.ne_of_lt (Nat.lt_succ_of_lt hb)⟩
    · rcases r with e | fl
      · exact hr
      cases fl with
      | ret r =>
        obtain ⟨rfl, h', tk, ys, rfl, hS', mem, hk'⟩ := hr
        repeat (any_goals (first | assumption | wp_step))
        exact h _ _ _ hS' mem hk'
      | _ => exact hr.elim
  | _ => exact hr.elim
end
section
variable {X : Cx}
/-- set(xs) -/
def rSetTx4 (K : PySem.W.Frag) (P : Program) (w : World) : List V → Hp → VK → Prop := fun vs H Q => ∃ (l : Addr) (xs : List Str), vs = [.ref l] ∧ SqL K H l (xs.map V.str) ∧ (∃ ws : List Str, ws.length ≤ 4 ∧ ∀ x ∈ xs, x ∈ ws) ∧ ∀ ys p, ys.Nodup → (∀ y, y ∈ ys ↔ y ∈ xs) → H p = none → Q (.ref p) (upd H p (TsO P w p ys))
theorem cr_setTx4 (hc : X.calm = true) : CallR X (.type "set") (rSetTx4 X.K X.prog X.w) := by
  intro pins s σ H vs us Q I r h
  obtain ⟨l, xs, rfl, hl, ⟨ws, hw4, sub⟩, q⟩ := h
  obtain ⟨its, rv, pl, hz⟩ := I.list hl
  rw [Vals.ref1 r]
  have e : xs.length = its.toArray.size := by rw [List.size_toArray, ← rv.length, List.length_map]
  refine setOf_tx4 (I.ok.hd hc) pl.isList e (fun i v hv => ?_) ws hw4 sub fun h' tk ys R mem k => ?_
  · obtain ⟨x, t, h1, h2⟩ := BkS.strs_of rv i v (by simpa using hv)
    exact ⟨x, t, h1, h2⟩
  · have hn : H s.heap.objs.size = none := I.hok.fresh (Nat.le_refl _)
    exact ⟨.ref _, _, I.laid (t' := tk) k (Nat.le_refl _) (tsO_new R), rfl, q ys _ (by obtain ⟨_, _, _, nd, _⟩ := R; exact nd) mem hn⟩
end
section
variable {X : Cx} {pins : List (Addr × Obj)} {σ : L2.St} {H : Hp} {s : Shared}
theorem addTx_ok4 {E : Value → Shared → Prop} {D : Addr} {l : List Str} {k : Str} {v : Value} {Q : Value → Shared → Prop} (I : Inv X pins σ H s) (hD : H D = some (TsO X.prog X.w D l)) (few4 : l.length ≤ 4) (few : k ∉ l → l.length ≤ 3) (r : RelV (.str k) v)
    (h : ∀ s', Inv X pins σ (upd H D (TsO X.prog X.w D (if k ∈ l then l else k :: l))) s' → Q .none s') : wpAny (model X.prog X.w) X.A (call (.builtin "set.add") [.ref D, v]) Q E s := by
  obtain ⟨u, rfl⟩ : ∃ u, v = .str k u := r
  refine add_tx4 (tsO_get I hD) few4 few fun h' tk R sb => ?_
  have ⟨_, ho, _⟩ := R
  exact h _ (I.write (e := D) (t' := tk) (by rw [hD]; trivial) (.inl rfl) (fun b u hb hu => (sb.2 b hb).trans hu) ⟨_, ho⟩ (tsO_new R))
/-- {elt for tg in iter}, elt a text: D the new set -/
def tSc4 (P : Program) (w : World) (wi : TI) (g : TG) (te : TE) (vs : List Nat) : TE := fun σ H Q => wi σ H fun J H1 => ∀ D, H1 D = none → ∃ W : Nat → Nat → Hp → Prop, (∃ m, W 0 m (upd H1 D (TsO P w D []))) ∧ ∀ i m Ha, W i m Ha →
      (J.stop i Ha ∧ Q (.ref D) Ha) ∨ (J.go i Ha ∧ ∃ Nx : Hp → Prop, (∀ Hb, Nx Hb → ∃ m', m' < m ∧ W (i + 1) m' Hb) ∧ ∀ x Hb, J.yld i Ha x Hb → g x (wipe σ vs) Hb fun σ2 H2 => wipe σ2 vs = wipe σ vs ∧ te σ2 H2 fun z H7 =>
          ∃ (k : Str) (l : List Str), z = .str k ∧ H7 D = some (TsO P w D l) ∧ (l.length ≤ 4 ∧ (k ∉ l → l.length ≤ 3)) ∧ Nx (upd H7 D (TsO P w D (if k ∈ l then l else k :: l))))
theorem sc4_core {Q : VK} {elt tg iter : Expr} {scope : Scope} {own : List (PySem.Str × Nat)} {pos pos' : Pos} {wi : TI} {g : TG} {te : TE} {use : Option (Value → Sem Unit)} {Qf : Value → Shared → Prop}
    (hc : X.calm = true) (hN : X.N.Nodup) (I : Inv X pins σ H s) (hi : PI X tg iter wi) (ok : BlkOk X.N X.env.scope scope own)
    (hg : ∀ (s : Shared) (H : Hp) (C : Addr) (cl : List (PySem.Str × Addr)) (fp : List Addr), PG (X.blk s H scope (compEnvC scope cl C X.env) fp) tg g)
    (he : ∀ (s : Shared) (H : Hp) (C : Addr) (cl : List (PySem.Str × Addr)) (fp : List Addr), PE (X.blk s H scope (compEnvC scope cl C X.env) fp) elt te) (hs : ∀ x, foldedSetIterable iter X.env x = pure x)
    (h : tSc4 X.prog X.w wi g te (own.map (·.2)) σ H Q)
    (hRR : ∀ D C s' m H', Inv X pins σ H' s' → Q (.ref D) H' → s'.heap.Ns C m → FpOk X pins H' C → compPost (model X.prog X.w) X.A X.xe use Qf (.ref D) C (.ok .next) s') :
    wpAny (model X.prog X.w) X.A (comprehension (.SetComp elt [⟨tg, iter, [], 0⟩] scope pos) scope X.env pos' (newSet (.type "set")) false (eval iter X.env) use) Qf X.xe s := by
  have hfree : ∀ y ∈ scope.names, y.2 = .free → ∃ c, X.env.cells.lookup y.1 = some c := fun y hy e => by
    rcases ok.free y hy e with k | k
    · exact I.ok.has _ (.inl k)
    · exact I.ok.has _ (.inr k)
  refine wpAny_comprehension_free (use := use) rfl hs (closure_ok hfree) ok.kind (fun y hy e => by rw [ok.uniq y hy, e])
    (thn (hi.run pins s σ H _ I h) fun xv s1 hx => thn hx fun itv s2 h2 => ?_)
  obtain ⟨it, fp, tn, J, H2, e, I2, T, st2, f2, q⟩ := h2
  subst e
  refine newSet_tx fun hp RT kp zp => newEnv_comp ?_
  generalize hD : s2.heap.objs.size = D at RT zp
  have hDn : H2 D = none := I2.hok.fresh (Nat.le_of_eq hD)
  obtain ⟨W, ⟨m0, w0⟩, turn⟩ := q D hDn
  generalize hs3 : ({ s2 with heap := hp } : Shared) = s3
  have h3 : s3.heap = hp := by rw [← hs3]
  have I3 : Inv X pins σ (upd H2 D (TsO X.prog X.w D [])) s3 := by
    rw [← hs3]
    exact I2.laid (t' := s2.toks) kp (Nat.le_of_eq hD) (tsO_new RT)
  have sz : ∀ b ∈ fp, b < s2.heap.objs.size := fun b hb => by
    obtain ⟨o, e, _⟩ := T.obj _ _ st2 b hb
    exact Heap.lt_size e
  have f3 : ∀ b ∈ fp, FpOk X pins (upd H2 D (TsO X.prog X.w D [])) b ∧ b < s3.heap.objs.size := fun b hb => by
    have hlt := sz b hb
    refine ⟨⟨?_, (f2 b hb).2⟩, by rw [h3, zp, ← hD]; exact Nat.lt_succ_of_lt hlt⟩
    rw [upd_ne (by rw [← hD]; exact Nat.ne_of_lt hlt)]
    exact (f2 b hb).1
  have st3 : tn 0 s3.heap := T.keep _ _ _ st2 fun b _ o e => by rw [h3]; exact kp _ _ e
  have I4 := block_start I3 ok hN f3
  have pg := hg s3 (upd H2 D (TsO X.prog X.w D [])) s3.heap.objs.size (cellsFrom (s3.heap.objs.size + 1) scope.names (cloFrom X.env.cells scope.names [])) fp
  have pe := he s3 (upd H2 D (TsO X.prog X.w D [])) s3.heap.objs.size (cellsFrom (s3.heap.objs.size + 1) scope.names (cloFrom X.env.cells scope.names [])) fp
  show codeAny _ _ (.compStart (.SetComp elt [⟨tg, iter, [], 0⟩] scope pos) 0 (.ref it) (.ref D) (compEnvC scope (cellsFrom (s3.heap.objs.size + 1) scope.names (cloFrom X.env.cells scope.names [])) s3.heap.objs.size X.env)) (compPost (model X.prog X.w) X.A X.xe use Qf (.ref D) s3.heap.objs.size) { s3 with heap := pushCells (s3.heap.push { cls := .type "dict", data := .dict #[] }) scope.names }
  have nfp : ∀ b ∈ fp, (upd H2 D (TsO X.prog X.w D [])) b = none := fun b hb => (f3 b hb).1.1
  generalize hce : compEnvC scope (cellsFrom (s3.heap.objs.size + 1) scope.names (cloFrom X.env.cells scope.names [])) s3.heap.objs.size X.env = ce at I4 pg pe ⊢
  have cL : ce.locals = s3.heap.objs.size := by subst hce; rfl
  generalize hH3 : upd H2 D (TsO X.prog X.w D []) = H3 at I3 I4 pg pe w0 nfp f3
  generalize hs4 : ({ s3 with heap := pushCells (s3.heap.push { cls := .type "dict", data := .dict #[] }) scope.names } : Shared) = s4 at I4 ⊢
  have st4 : tn 0 s4.heap := T.keep _ _ _ st3 fun b _ o e => by rw [← hs4]; exact pushCells_keeps _ _ _ _ (Heap.get?_push_of_some _ e)
  have stat : ∀ {σ' : L2.St} {H' : Hp} {s' : Shared}, Inv (X.blk s3 H3 scope ce fp) [] σ' H' s' → (∀ b ∈ fp, H' b = none) → ∀ b ∈ fp, FpOk (X.blk s3 H3 scope ce fp) [] H' b := fun {σ' H' s'} I' hn b hb =>
    ⟨hn b hb, (I'.ok.exf b hb).1, I'.ok.exfs b hb, .inl hb, fun x c e => (I'.ok.exf b hb).2 x c e, fun p hp => absurd (show p ∈ ([] : List (Addr × Obj)) ++ [] from hp) (by simp)⟩
  have loop : codeAny (model X.prog X.w) X.A (.compLoop (.SetComp elt [⟨tg, iter, [], 0⟩] scope pos) 0 (.ref it) (.ref D) ce) (compPost (model X.prog X.w) X.A X.xe use Qf (.ref D) s3.heap.objs.size) s4 := by
    refine PpSet.compLoopS_any (fun n s' => ∃ i H', Inv (X.blk s3 H3 scope ce fp) [] (wipe σ (own.map (·.2))) H' s' ∧ tn i s'.heap ∧ (∀ b ∈ fp, H' b = none) ∧ W i n H') ?_ m0 ⟨0, H3, I4, st4, nfp, w0⟩
    rintro n s5 ⟨i, H5, I5, st5, n5, w5⟩
    rcases turn i n H5 w5 with ⟨stop, qq⟩ | ⟨go, Nx, hNx, step⟩
    · have td := T.done (X.blk s3 H3 scope ce fp) rfl rfl rfl hc i [] s5 _ H5 (fun _ _ => False) I5 (stat I5 n5) st5 stop
      refine thnF td fun r s6 ⟨hr, I6⟩ => ?_
      subst hr
      have I7 : Inv X pins σ H5 s6 := I3.call' (ch := fp) I6.os I6.base I6.hok I6.bare fun b hb => ⟨(f3 b hb).1.2.2.2.1, (f3 b hb).1.2.1, (f3 b hb).1.2.2.2.2.1, (f3 b hb).1.2.2.2.2.2⟩
      have nC : H5 s3.heap.objs.size = none := by
        have z : H5 ce.locals = none := I6.free
        rw [cL] at z
        exact z
      obtain ⟨m, hn, _⟩ := I6.loc
      have hn : s6.heap.Ns ce.locals m := hn
      rw [cL] at hn
      exact hRR D s3.heap.objs.size s6 m H5 I7 qq hn (I3.fpOk (Nat.le_refl _) nC)
    · have ti := T.item (X.blk s3 H3 scope ce fp) rfl rfl rfl hc i [] s5 _ H5 (fun _ _ => False) I5 (stat I5 n5) st5 go
      refine thnF ti fun r s6 ⟨u, hr, h6⟩ => ?_
      subst hr
      refine thnF h6 fun _ s7 ⟨x, H7, I7, r7, y7, st7, n7⟩ => ?_
      have I7' := I7.pinned (stat I7 n7) (T.obj _ _ st7)
      refine thnF (pg.run _ s7 _ H7 x u _ I7' r7 (step x H7 y7)) fun _ s8 ⟨σ8, H8, I8, hw8, q8⟩ => ?_
      have fin : ∀ {σ9 : L2.St} {s' : Shared} {H' : Hp}, Inv (X.blk s3 H3 scope ce fp) ([] ++ pinsAt fp s7.heap) σ9 H' s' → (wipe σ (own.map (·.2))).length = σ9.length → (∀ (j : Nat) v, (wipe σ (own.map (·.2)))[j]? = some (some v) → σ9[j]? = some (some v)) → Nx H' →
          ∃ m, m < n ∧ ∃ i H', Inv (X.blk s3 H3 scope ce fp) [] (wipe σ (own.map (·.2))) H' s' ∧ tn i s'.heap ∧ (∀ b ∈ fp, H' b = none) ∧ W i m H' := fun {σ9 s' H'} I' hl hk nx => by
        obtain ⟨m', hm, w'⟩ := hNx H' nx
        have pin' : ∀ b ∈ fp, ∀ o, s7.heap.get? b = some o → s'.heap.get? b = some o ∧ H' b = none := fun b hb o e =>
          let z := I'.pin (b, o) (List.mem_append_right _ (List.mem_append_right _ (mem_pinsAt hb e)))
          ⟨z.1, z.2.1⟩
        refine ⟨m', hm, i + 1, H', (I'.unpinned (pins := [])).weak hl hk, T.keep _ _ _ st7 fun b hb o e => (pin' b hb o e).1, fun b hb => ?_, w'⟩
        obtain ⟨o, e, _⟩ := T.obj _ _ st7 b hb
        exact (pin' b hb o e).2
      have hl8 : (wipe σ (own.map (·.2))).length = σ8.length := by rw [← hw8, wipe_length]
      have hk8 : ∀ (j : Nat) v, (wipe σ (own.map (·.2)))[j]? = some (some v) → σ8[j]? = some (some v) := fun j v e => by
        rw [← hw8] at e
        exact (wipe_some e).1
      refine wpAny_tests_nil ?_
      simp only [if_true]
      refine thnF (pe.run _ s8 σ8 H8 _ I8 q8) fun z s17 ⟨yv, H17, I17, r17, kk, l, ez, hD17, hz17, nx⟩ => ?_
      subst ez
      exact addTx_ok4 (X := X.blk s3 H3 scope ce fp) I17 hD17 hz17.1 hz17.2 r17 fun s18 I18 => fin I18 hl8 hk8 nx
  exact PpSet.codeAny_compStart_set loop (T.self X.A 0 _ _ _ st4 loop)
theorem pe_sc4 {elt tg iter : Expr} {scope : Scope} {own : List (PySem.Str × Nat)} {pos : Pos} {wi : TI} {g : TG} {te : TE} (hc : X.calm = true) (hN : X.N.Nodup) (hi : PI X tg iter wi) (ok : BlkOk X.N X.env.scope scope own)
    (hg : ∀ (s : Shared) (H : Hp) (C : Addr) (cl : List (PySem.Str × Addr)) (fp : List Addr), PG (X.blk s H scope (compEnvC scope cl C X.env) fp) tg g)
    (he : ∀ (s : Shared) (H : Hp) (C : Addr) (cl : List (PySem.Str × Addr)) (fp : List Addr), PE (X.blk s H scope (compEnvC scope cl C X.env) fp) elt te) (hs : ∀ x, foldedSetIterable iter X.env x = pure x := by intro _; rfl) :
    PE X (.SetComp elt [⟨tg, iter, [], 0⟩] scope pos) (tSc4 X.prog X.w wi g te (own.map (·.2))) := by
  refine ⟨fun pins s σ H Q I h => ?_⟩
  rw [PpSet.eval_SetComp]
  refine sc4_core hc hN I hi ok hg he hs h fun D C s' m H' I' q hn f => ⟨m, hn, fun h'' sb => ?_⟩
  obtain ⟨f0, f1, f2, f3, f4, f5⟩ := f
  exact ⟨.ref D, H', I'.turned (t' := s'.toks) (fun b o hb e => (sb.2 b hb).trans e) f0 f1 f3 f4 f5, rfl, q⟩
/-- {elt for tg in iter for tg1 in iter1}, elt a text: D the new set -/
def tSc24 (P : Program) (w : World) (wi : TI) (g : TG) (wi1 : TI) (g1 : TG) (te : TE) (vs vs1 : List Nat) : TE := fun σ H Q => wi σ H fun J H1 => ∀ D, H1 D = none → ∃ W : Nat → Nat → Hp → Prop, (∃ m, W 0 m (upd H1 D (TsO P w D []))) ∧ ∀ i m Ha, W i m Ha →
      (J.stop i Ha ∧ Q (.ref D) Ha) ∨ (J.go i Ha ∧ ∃ Nx : Hp → Prop, (∀ Hb, Nx Hb → ∃ m', m' < m ∧ W (i + 1) m' Hb) ∧ ∀ x Hb, J.yld i Ha x Hb → g x (wipe σ vs) Hb fun σ2 H2 => wipe σ2 vs = wipe σ vs ∧ wi1 σ2 H2 fun J1 H3 =>
        ∃ W1 : Nat → Nat → Hp → Prop, (∃ m, W1 0 m H3) ∧ ∀ j k Hc, W1 j k Hc → (J1.stop j Hc ∧ Nx Hc) ∨ (J1.go j Hc ∧ ∃ Nx1 : Hp → Prop, (∀ Hd, Nx1 Hd → ∃ k', k' < k ∧ W1 (j + 1) k' Hd) ∧ ∀ y Hd, J1.yld j Hc y Hd → g1 y (wipe σ2 vs1) Hd fun σ3 H5 => wipe σ3 vs1 = wipe σ2 vs1 ∧ te σ3 H5 fun z H7 =>
          ∃ (k : Str) (l : List Str), z = .str k ∧ H7 D = some (TsO P w D l) ∧ (l.length ≤ 4 ∧ (k ∉ l → l.length ≤ 3)) ∧ Nx1 (upd H7 D (TsO P w D (if k ∈ l then l else k :: l)))))
theorem sc24_core {Q : VK} {elt tg iter tg1 iter1 : Expr} {scope : Scope} {own : List (PySem.Str × Nat)} {vs1 : List Nat} {pos pos' : Pos} {wi wi1 : TI} {g g1 : TG} {te : TE} {use : Option (Value → Sem Unit)} {Qf : Value → Shared → Prop}
    (hc : X.calm = true) (hN : X.N.Nodup) (I : Inv X pins σ H s) (hi : PI X tg iter wi) (ok : BlkOk X.N X.env.scope scope own) (hv : ∀ i ∈ vs1, i ∈ own.map (·.2))
    (hg : ∀ (s : Shared) (H : Hp) (C : Addr) (cl : List (PySem.Str × Addr)) (fp : List Addr), PG (X.blk s H scope (compEnvC scope cl C X.env) fp) tg g)
    (hi1 : ∀ (s : Shared) (H : Hp) (C : Addr) (cl : List (PySem.Str × Addr)) (fp : List Addr), PI (X.blk s H scope (compEnvC scope cl C X.env) fp) tg1 iter1 wi1)
    (hg1 : ∀ (s : Shared) (H : Hp) (C : Addr) (cl : List (PySem.Str × Addr)) (fp : List Addr), PG (X.blk s H scope (compEnvC scope cl C X.env) fp) tg1 g1)
    (he : ∀ (s : Shared) (H : Hp) (C : Addr) (cl : List (PySem.Str × Addr)) (fp : List Addr), PE (X.blk s H scope (compEnvC scope cl C X.env) fp) elt te) (hs : ∀ x, foldedSetIterable iter X.env x = pure x)
    (hs1 : ∀ env x, foldedSetIterable iter1 env x = pure x)
    (h : tSc24 X.prog X.w wi g wi1 g1 te (own.map (·.2)) vs1 σ H Q)
    (hRR : ∀ D C s' m H', Inv X pins σ H' s' → Q (.ref D) H' → s'.heap.Ns C m → FpOk X pins H' C → compPost (model X.prog X.w) X.A X.xe use Qf (.ref D) C (.ok .next) s') :
    wpAny (model X.prog X.w) X.A (comprehension (sc2X elt tg iter tg1 iter1 scope pos) scope X.env pos' (newSet (.type "set")) false (eval iter X.env) use) Qf X.xe s := by
  have hfree : ∀ y ∈ scope.names, y.2 = .free → ∃ c, X.env.cells.lookup y.1 = some c := fun y hy e => by
    rcases ok.free y hy e with k | k
    · exact I.ok.has _ (.inl k)
    · exact I.ok.has _ (.inr k)
  refine wpAny_comprehension_free (use := use) rfl hs (closure_ok hfree) ok.kind (fun y hy e => by rw [ok.uniq y hy, e])
    (thn (hi.run pins s σ H _ I h) fun xv s1 hx => thn hx fun itv s2 h2 => ?_)
  obtain ⟨it, fp, tn, J, H2, e, I2, T, st2, f2, q⟩ := h2
  subst e
  refine newSet_tx fun hp RT kp zp => newEnv_comp ?_
  generalize hD : s2.heap.objs.size = D at RT zp
  have hDn : H2 D = none := I2.hok.fresh (Nat.le_of_eq hD)
  obtain ⟨W, ⟨m0, w0⟩, turn⟩ := q D hDn
  generalize hs3 : ({ s2 with heap := hp } : Shared) = s3
  have h3 : s3.heap = hp := by rw [← hs3]
  have I3 : Inv X pins σ (upd H2 D (TsO X.prog X.w D [])) s3 := by
    rw [← hs3]
    exact I2.laid (t' := s2.toks) kp (Nat.le_of_eq hD) (tsO_new RT)
  have sz : ∀ b ∈ fp, b < s2.heap.objs.size := fun b hb => by
    obtain ⟨o, e, _⟩ := T.obj _ _ st2 b hb
    exact Heap.lt_size e
  have f3 : ∀ b ∈ fp, FpOk X pins (upd H2 D (TsO X.prog X.w D [])) b ∧ b < s3.heap.objs.size := fun b hb => by
    have hlt := sz b hb
    refine ⟨⟨?_, (f2 b hb).2⟩, by rw [h3, zp, ← hD]; exact Nat.lt_succ_of_lt hlt⟩
    rw [upd_ne (by rw [← hD]; exact Nat.ne_of_lt hlt)]
    exact (f2 b hb).1
  have st3 : tn 0 s3.heap := T.keep _ _ _ st2 fun b _ o e => by rw [h3]; exact kp _ _ e
  have I4 := block_start I3 ok hN f3
  have pg := hg s3 (upd H2 D (TsO X.prog X.w D [])) s3.heap.objs.size (cellsFrom (s3.heap.objs.size + 1) scope.names (cloFrom X.env.cells scope.names [])) fp
  have pe := he s3 (upd H2 D (TsO X.prog X.w D [])) s3.heap.objs.size (cellsFrom (s3.heap.objs.size + 1) scope.names (cloFrom X.env.cells scope.names [])) fp
  have pi1 := hi1 s3 (upd H2 D (TsO X.prog X.w D [])) s3.heap.objs.size (cellsFrom (s3.heap.objs.size + 1) scope.names (cloFrom X.env.cells scope.names [])) fp
  have pg1 := hg1 s3 (upd H2 D (TsO X.prog X.w D [])) s3.heap.objs.size (cellsFrom (s3.heap.objs.size + 1) scope.names (cloFrom X.env.cells scope.names [])) fp
  show codeAny _ _ (.compStart (sc2X elt tg iter tg1 iter1 scope pos) 0 (.ref it) (.ref D) (compEnvC scope (cellsFrom (s3.heap.objs.size + 1) scope.names (cloFrom X.env.cells scope.names [])) s3.heap.objs.size X.env)) (compPost (model X.prog X.w) X.A X.xe use Qf (.ref D) s3.heap.objs.size) { s3 with heap := pushCells (s3.heap.push { cls := .type "dict", data := .dict #[] }) scope.names }
  have nfp : ∀ b ∈ fp, (upd H2 D (TsO X.prog X.w D [])) b = none := fun b hb => (f3 b hb).1.1
  generalize hce : compEnvC scope (cellsFrom (s3.heap.objs.size + 1) scope.names (cloFrom X.env.cells scope.names [])) s3.heap.objs.size X.env = ce at I4 pg pe pi1 pg1 ⊢
  have cL : ce.locals = s3.heap.objs.size := by subst hce; rfl
  generalize hH3 : upd H2 D (TsO X.prog X.w D []) = H3 at I3 I4 pg pe pi1 pg1 w0 nfp f3
  generalize hs4 : ({ s3 with heap := pushCells (s3.heap.push { cls := .type "dict", data := .dict #[] }) scope.names } : Shared) = s4 at I4 ⊢
  have st4 : tn 0 s4.heap := T.keep _ _ _ st3 fun b _ o e => by rw [← hs4]; exact pushCells_keeps _ _ _ _ (Heap.get?_push_of_some _ e)
  have stat : ∀ {σ' : L2.St} {H' : Hp} {s' : Shared}, Inv (X.blk s3 H3 scope ce fp) [] σ' H' s' → (∀ b ∈ fp, H' b = none) → ∀ b ∈ fp, FpOk (X.blk s3 H3 scope ce fp) [] H' b := fun {σ' H' s'} I' hn b hb =>
    ⟨hn b hb, (I'.ok.exf b hb).1, I'.ok.exfs b hb, .inl hb, fun x c e => (I'.ok.exf b hb).2 x c e, fun p hp => absurd (show p ∈ ([] : List (Addr × Obj)) ++ [] from hp) (by simp)⟩
  have loop : codeAny (model X.prog X.w) X.A (.compLoop (sc2X elt tg iter tg1 iter1 scope pos) 0 (.ref it) (.ref D) ce) (compPost (model X.prog X.w) X.A X.xe use Qf (.ref D) s3.heap.objs.size) s4 := by
    refine sc2_loop0 (hs1 ce) (fun n s' => ∃ i H', Inv (X.blk s3 H3 scope ce fp) [] (wipe σ (own.map (·.2))) H' s' ∧ tn i s'.heap ∧ (∀ b ∈ fp, H' b = none) ∧ W i n H') ?_ m0 ⟨0, H3, I4, st4, nfp, w0⟩
    rintro n s5 ⟨i, H5, I5, st5, n5, w5⟩
    rcases turn i n H5 w5 with ⟨stop, qq⟩ | ⟨go, Nx, hNx, step⟩
    · have td := T.done (X.blk s3 H3 scope ce fp) rfl rfl rfl hc i [] s5 _ H5 (fun _ _ => False) I5 (stat I5 n5) st5 stop
      refine thnF td fun r s6 ⟨hr, I6⟩ => ?_
      subst hr
      have I7 : Inv X pins σ H5 s6 := I3.call' (ch := fp) I6.os I6.base I6.hok I6.bare fun b hb => ⟨(f3 b hb).1.2.2.2.1, (f3 b hb).1.2.1, (f3 b hb).1.2.2.2.2.1, (f3 b hb).1.2.2.2.2.2⟩
      have nC : H5 s3.heap.objs.size = none := by
        have z : H5 ce.locals = none := I6.free
        rw [cL] at z
        exact z
      obtain ⟨m, hn, _⟩ := I6.loc
      have hn : s6.heap.Ns ce.locals m := hn
      rw [cL] at hn
      exact hRR D s3.heap.objs.size s6 m H5 I7 qq hn (I3.fpOk (Nat.le_refl _) nC)
    · have ti := T.item (X.blk s3 H3 scope ce fp) rfl rfl rfl hc i [] s5 _ H5 (fun _ _ => False) I5 (stat I5 n5) st5 go
      refine thnF ti fun r s6 ⟨u, hr, h6⟩ => ?_
      subst hr
      refine thnF h6 fun _ s7 ⟨x, H7, I7, r7, y7, st7, n7⟩ => ?_
      have I7' := I7.pinned (stat I7 n7) (T.obj _ _ st7)
      refine thnF (pg.run _ s7 _ H7 x u _ I7' r7 (step x H7 y7)) fun _ s8 ⟨σ8, H8, I8, hw8, q8⟩ => ?_
      have fin : ∀ {σ9 : L2.St} {s' : Shared} {H' : Hp}, Inv (X.blk s3 H3 scope ce fp) ([] ++ pinsAt fp s7.heap) σ9 H' s' → (wipe σ (own.map (·.2))).length = σ9.length → (∀ (j : Nat) v, (wipe σ (own.map (·.2)))[j]? = some (some v) → σ9[j]? = some (some v)) → Nx H' →
          ∃ m, m < n ∧ ∃ i H', Inv (X.blk s3 H3 scope ce fp) [] (wipe σ (own.map (·.2))) H' s' ∧ tn i s'.heap ∧ (∀ b ∈ fp, H' b = none) ∧ W i m H' := fun {σ9 s' H'} I' hl hk nx => by
        obtain ⟨m', hm, w'⟩ := hNx H' nx
        have pin' : ∀ b ∈ fp, ∀ o, s7.heap.get? b = some o → s'.heap.get? b = some o ∧ H' b = none := fun b hb o e =>
          let z := I'.pin (b, o) (List.mem_append_right _ (List.mem_append_right _ (mem_pinsAt hb e)))
          ⟨z.1, z.2.1⟩
        refine ⟨m', hm, i + 1, H', (I'.unpinned (pins := [])).weak hl hk, T.keep _ _ _ st7 fun b hb o e => (pin' b hb o e).1, fun b hb => ?_, w'⟩
        obtain ⟨o, e, _⟩ := T.obj _ _ st7 b hb
        exact (pin' b hb o e).2
      have hl8 : (wipe σ (own.map (·.2))).length = σ8.length := by rw [← hw8, wipe_length]
      have hk9 : ∀ (j : Nat) v, (wipe σ (own.map (·.2)))[j]? = some (some v) → (wipe σ8 vs1)[j]? = some (some v) := fun j v e => by
        rw [← hw8] at e
        obtain ⟨e1, e2⟩ := wipe_some e
        rw [wipe_out fun z => e2 (hv j z)]
        exact e1
      refine thnF (pi1.run _ s8 σ8 H8 _ I8 q8) fun xv s10 hx => thnF hx fun itv s11 h11 => ?_
      obtain ⟨it1, fp1, tn1, J1, H11, e1, I11, T1, st11, f11, W1, ⟨m1, w1⟩, turn1⟩ := h11
      subst e1
      have stat1 : ∀ {H' : Hp}, (∀ b ∈ fp1, H' b = none) → ∀ b ∈ fp1, FpOk (X.blk s3 H3 scope ce fp) ([] ++ pinsAt fp s7.heap) H' b := fun hn b hb => ⟨hn b hb, (f11 b hb).2⟩
      have loop1 : codeAny (model X.prog X.w) X.A (.compLoop (sc2X elt tg iter tg1 iter1 scope pos) 1 (.ref it1) (.ref D) ce)
          (fun r s' => match r with
            | .ok _ => ∃ m, m < n ∧ ∃ i H', Inv (X.blk s3 H3 scope ce fp) [] (wipe σ (own.map (·.2))) H' s' ∧ tn i s'.heap ∧ (∀ b ∈ fp, H' b = none) ∧ W i m H'
            | .error _ => False) s11 := by
        refine sc2_loop1 (fun k s' => ∃ j H', Inv (X.blk s3 H3 scope ce fp) ([] ++ pinsAt fp s7.heap) (wipe σ8 vs1) H' s' ∧ tn1 j s'.heap ∧ (∀ b ∈ fp1, H' b = none) ∧ W1 j k H') ?_ m1 ⟨0, H11, I11.weak (wipe_length _ _) (fun j v e => (wipe_some e).1), st11, fun b hb => (f11 b hb).1, w1⟩
        rintro k s12 ⟨j, H12, I12, st12, n12, w12⟩
        rcases turn1 j k H12 w12 with ⟨stop1, nx1⟩ | ⟨go1, Nx1, hNx1, step1⟩
        · refine thnF (T1.done (X.blk s3 H3 scope ce fp) rfl rfl rfl hc j _ s12 (wipe σ8 vs1) H12 (fun _ _ => False) I12 (stat1 n12) st12 stop1) fun r s13 ⟨hr, I13⟩ => ?_
          subst hr
          exact fin I13 (hl8.trans (wipe_length σ8 vs1).symm) hk9 nx1
        · refine thnF (T1.item (X.blk s3 H3 scope ce fp) rfl rfl rfl hc j _ s12 (wipe σ8 vs1) H12 (fun _ _ => False) I12 (stat1 n12) st12 go1) fun r s13 ⟨u1, hr, h13⟩ => ?_
          subst hr
          refine thnF h13 fun _ s14 ⟨x1, H14, I14, r14, y14, st14, n14⟩ => ?_
          have I14' := I14.pinned (stat1 n14) (T1.obj _ _ st14)
          refine thnF (pg1.run _ s14 (wipe σ8 vs1) H14 x1 u1 _ I14' r14 (step1 x1 H14 y14)) fun _ s15 ⟨σ15, H15, I15, hw15, q15⟩ => ?_
          have fin1 : ∀ {s' : Shared} {H' : Hp}, Inv (X.blk s3 H3 scope ce fp) (([] ++ pinsAt fp s7.heap) ++ pinsAt fp1 s14.heap) σ15 H' s' → Nx1 H' → ∃ m, m < k ∧ ∃ j H', Inv (X.blk s3 H3 scope ce fp) ([] ++ pinsAt fp s7.heap) (wipe σ8 vs1) H' s' ∧ tn1 j s'.heap ∧ (∀ b ∈ fp1, H' b = none) ∧ W1 j m H' := fun {s' H'} I' nx => by
            obtain ⟨m', hm, w'⟩ := hNx1 H' nx
            have pin' : ∀ b ∈ fp1, ∀ o, s14.heap.get? b = some o → s'.heap.get? b = some o ∧ H' b = none := fun b hb o e =>
              let z := I'.pin (b, o) (List.mem_append_right _ (List.mem_append_right _ (mem_pinsAt hb e)))
              ⟨z.1, z.2.1⟩
            refine ⟨m', hm, j + 1, H', I'.unpinned.weak (by rw [← hw15, wipe_length]) (fun j v e => by rw [← hw15] at e; exact (wipe_some e).1), T1.keep _ _ _ st14 fun b hb o e => (pin' b hb o e).1, fun b hb => ?_, w'⟩
            obtain ⟨o, e, _⟩ := T1.obj _ _ st14 b hb
            exact (pin' b hb o e).2
          refine thnF (pe.run _ s15 σ15 H15 _ I15 q15) fun z s17 ⟨yv, H17, I17, r17, kk, l, ez, hD17, hz17, nx⟩ => ?_
          subst ez
          exact addTx_ok4 (X := X.blk s3 H3 scope ce fp) I17 hD17 hz17.1 hz17.2 r17 fun s18 I18 => fin1 I18 nx
      exact sc2_start1 loop1 (T1.self X.A 0 _ _ _ st11 loop1)
  exact PpSet.codeAny_compStart_set loop (T.self X.A 0 _ _ _ st4 loop)
theorem pe_sc24 {elt tg iter tg1 iter1 : Expr} {scope : Scope} {own : List (PySem.Str × Nat)} {vs1 : List Nat} {pos : Pos} {wi wi1 : TI} {g g1 : TG} {te : TE} (hc : X.calm = true) (hN : X.N.Nodup) (hi : PI X tg iter wi) (ok : BlkOk X.N X.env.scope scope own) (hv : ∀ i ∈ vs1, i ∈ own.map (·.2))
    (hg : ∀ (s : Shared) (H : Hp) (C : Addr) (cl : List (PySem.Str × Addr)) (fp : List Addr), PG (X.blk s H scope (compEnvC scope cl C X.env) fp) tg g)
    (hi1 : ∀ (s : Shared) (H : Hp) (C : Addr) (cl : List (PySem.Str × Addr)) (fp : List Addr), PI (X.blk s H scope (compEnvC scope cl C X.env) fp) tg1 iter1 wi1)
    (hg1 : ∀ (s : Shared) (H : Hp) (C : Addr) (cl : List (PySem.Str × Addr)) (fp : List Addr), PG (X.blk s H scope (compEnvC scope cl C X.env) fp) tg1 g1)
    (he : ∀ (s : Shared) (H : Hp) (C : Addr) (cl : List (PySem.Str × Addr)) (fp : List Addr), PE (X.blk s H scope (compEnvC scope cl C X.env) fp) elt te) (hs : ∀ x, foldedSetIterable iter X.env x = pure x := by intro _; rfl) (hs1 : ∀ env x, foldedSetIterable iter1 env x = pure x := by intro _ _; rfl) :
    PE X (sc2X elt tg iter tg1 iter1 scope pos) (tSc24 X.prog X.w wi g wi1 g1 te (own.map (·.2)) vs1) := by
  refine ⟨fun pins s σ H Q I h => ?_⟩
  rw [PpSet.eval_SetComp]
  refine sc24_core hc hN I hi ok hv hg hi1 hg1 he hs hs1 h fun D C s' m H' I' q hn f => ⟨m, hn, fun h'' sb => ?_⟩
  obtain ⟨f0, f1, f2, f3, f4, f5⟩ := f
  exact ⟨.ref D, H', I'.turned (t' := s'.toks) (fun b o hb e => (sb.2 b hb).trans e) f0 f1 f3 f4 f5, rfl, q⟩
end
end Bk

set_option Elab.async false
set_option linter.all false
set_option maxRecDepth 100000
set_option maxHeartbeats 2000000
/-! min and max of two texts. -/
namespace Bk
open PySem PySem.Spec PyProof PyProof.Rows L2 Froz
def ltW : Value → Value → Bool
  | .str x _, .str y _ => decide (x.cps.toList < y.cps.toList)
  | _, _ => false
def StrW (v : Value) : Prop := ∃ x t, v = .str x t
theorem cmpS_lt {prog : Program} {w : World} {A : Around} (vs : Array Value) (hn : ∀ v ∈ vs, StrW v) :
    CmpOf prog w A .Lt (fun i v => vs[i]? = some v) (fun i j => ltW (vs.getD i .none) (vs.getD j .none)) := fun i j vi vj s Q E hi hj h => by
  have e1 : vs.getD i .none = vi := by simp [Array.getD_eq_getD_getElem?, hi]
  have e2 : vs.getD j .none = vj := by simp [Array.getD_eq_getD_getElem?, hj]
  simp only [e1, e2] at h
  obtain ⟨x, t, rfl⟩ := hn _ (Array.mem_of_getElem? hi)
  obtain ⟨y, u, rfl⟩ := hn _ (Array.mem_of_getElem? hj)
  exact (PyProof.Rows.lt_str h : wpAny (model prog w) A (compareOp .Lt (.str x t) (.str y u)) Q E s)
theorem cmpS_gt {prog : Program} {w : World} {A : Around} (vs : Array Value) (hn : ∀ v ∈ vs, StrW v) :
    CmpOf prog w A .Gt (fun i v => vs[i]? = some v) (fun i j => ltW (vs.getD j .none) (vs.getD i .none)) := fun i j vi vj s Q E hi hj h => by
  have e1 : vs.getD i .none = vi := by simp [Array.getD_eq_getD_getElem?, hi]
  have e2 : vs.getD j .none = vj := by simp [Array.getD_eq_getD_getElem?, hj]
  simp only [e1, e2] at h
  obtain ⟨x, t, rfl⟩ := hn _ (Array.mem_of_getElem? hi)
  obtain ⟨y, u, rfl⟩ := hn _ (Array.mem_of_getElem? hj)
  exact (PySem.P.gt_str h : wpAny (model prog w) A (compareOp .Gt (.str x t) (.str y u)) Q E s)
theorem max_two_strs {prog : Program} {w : World} {A : Around} {E : Value → Shared → Prop} {s : Shared} {Q : Value → Shared → Prop} {a b : Value} (hh : A.handled = none) (ha : StrW a) (hb : StrW b)
    (h : ∀ h' tk, (∀ c o, s.heap.get? c = some o → h'.get? c = some o) → Q (if ltW a b then b else a) { s with heap := h', toks := tk }) :
    wpAny (model prog w) A (call (.builtin "max") [a, b]) Q E s := by
  have hT : (s.heap.push { cls := .type "tuple", data := .seq #[a, b] }).IsTuple s.heap.objs.size #[a, b] := ⟨_, Heap.get?_push_size _ rfl, rfl, 0, rfl⟩
  refine call_max_two (wpAny_pyIter_tuple hT ?_)
  have hsz : (s.heap.push { cls := .type "tuple", data := .seq #[a, b] }).objs.size = s.heap.objs.size + 1 := Heap.size_push ..
  refine ⟨_, [_, s.heap.objs.size], [_], _, _, _, _, rfl, Walks.tuple (A := A.in1) hh _ s.heap.objs.size (by rw [hsz]; exact Nat.ne_of_lt (Nat.lt_succ_self _)) #[a, b],
    ⟨⟨_, Heap.get?_push_size _ rfl, rfl, rfl⟩, hT.push _⟩, fun c hc => ?_, by simp, cmpS_gt #[a, b] (by simp [ha, hb]), fun v h' tk hP hk => ?_⟩
  · show c < ((s.heap.push _).push _).objs.size
    rw [Heap.size_push, hsz]
    rcases List.mem_cons.mp hc with rfl | hc
    · rw [hsz]; exact Nat.lt_succ_self _
    · rcases List.mem_cons.mp hc with rfl | hc
      · exact Nat.lt_succ_of_lt (Nat.lt_succ_self _)
      · cases hc
  · have hold : ∀ c o, s.heap.get? c = some o → h'.get? c = some o := fun c o e => by
      refine hk c o (fun hm => ?_) (Heap.get?_push_of_some _ (Heap.get?_push_of_some _ e))
      rcases List.mem_cons.mp hm with e1 | hm
      · have := Heap.lt_size e; rw [e1, hsz] at this; exact Nat.lt_irrefl _ (Nat.lt_of_succ_lt this)
      · cases hm
    have := h h' tk hold
    have hv : v = if ltW a b then b else a := by
      cases hc : ltW a b <;> simp [argBest, hc] at hP <;> simp [hP]
    rw [hv]; exact this
theorem min_two_strs {prog : Program} {w : World} {A : Around} {E : Value → Shared → Prop} {s : Shared} {Q : Value → Shared → Prop} {a b : Value} (hh : A.handled = none) (ha : StrW a) (hb : StrW b)
    (h : ∀ h' tk, (∀ c o, s.heap.get? c = some o → h'.get? c = some o) → Q (if ltW b a then b else a) { s with heap := h', toks := tk }) :
    wpAny (model prog w) A (call (.builtin "min") [a, b]) Q E s := by
  have hT : (s.heap.push { cls := .type "tuple", data := .seq #[a, b] }).IsTuple s.heap.objs.size #[a, b] := ⟨_, Heap.get?_push_size _ rfl, rfl, 0, rfl⟩
  refine call_min_two (wpAny_pyIter_tuple hT ?_)
  have hsz : (s.heap.push { cls := .type "tuple", data := .seq #[a, b] }).objs.size = s.heap.objs.size + 1 := Heap.size_push ..
  refine ⟨_, [_, s.heap.objs.size], [_], _, _, _, _, rfl, Walks.tuple (A := A.in1) hh _ s.heap.objs.size (by rw [hsz]; exact Nat.ne_of_lt (Nat.lt_succ_self _)) #[a, b],
    ⟨⟨_, Heap.get?_push_size _ rfl, rfl, rfl⟩, hT.push _⟩, fun c hc => ?_, by simp, cmpS_lt #[a, b] (by simp [ha, hb]), fun v h' tk hP hk => ?_⟩
  · show c < ((s.heap.push _).push _).objs.size
    rw [Heap.size_push, hsz]
    rcases List.mem_cons.mp hc with rfl | hc
    · rw [hsz]; exact Nat.lt_succ_self _
    · rcases List.mem_cons.mp hc with rfl | hc
      · exact Nat.lt_succ_of_lt (Nat.lt_succ_self _)
      · cases hc
  · have hold : ∀ c o, s.heap.get? c = some o → h'.get? c = some o := fun c o e => by
      refine hk c o (fun hm => ?_) (Heap.get?_push_of_some _ (Heap.get?_push_of_some _ e))
      rcases List.mem_cons.mp hm with e1 | hm
      · have := Heap.lt_size e; rw [e1, hsz] at this; exact Nat.lt_irrefl _ (Nat.lt_of_succ_lt this)
      · cases hm
    have := h h' tk hold
    have hv : v = if ltW b a then b else a := by
      cases hc : ltW b a <;> simp [argBest, hc] at hP <;> simp [hP]
    rw [hv]; exact this
variable {X : Cx}
theorem call_max2S (hc : X.calm = true) : CallR X (.builtin "max") (fun xs H Q => ∃ x y : Str, xs = [.str x, .str y] ∧ Q (.str (if x.cps.toList < y.cps.toList then y else x)) H) := by
  intro pins s σ H xs us Q I r h
  obtain ⟨i, j, rfl, q⟩ := h
  obtain ⟨u, w', rfl, ⟨t, rfl⟩, ⟨t', rfl⟩⟩ := vals2 r
  refine max_two_strs (I.ok.hd hc) ⟨_, _, rfl⟩ ⟨_, _, rfl⟩ fun h' tk k => ⟨_, H, I.kept k, ?_, q⟩
  show RelV _ (if decide (i.cps.toList < j.cps.toList) = true then _ else _)
  by_cases hj : i.cps.toList < j.cps.toList
  · rw [if_pos hj, if_pos (decide_eq_true hj)]; exact ⟨_, rfl⟩
  · rw [if_neg hj, if_neg (fun z => hj (of_decide_eq_true z))]; exact ⟨_, rfl⟩
theorem call_min2S (hc : X.calm = true) : CallR X (.builtin "min") (fun xs H Q => ∃ x y : Str, xs = [.str x, .str y] ∧ Q (.str (if y.cps.toList < x.cps.toList then y else x)) H) := by
  intro pins s σ H xs us Q I r h
  obtain ⟨i, j, rfl, q⟩ := h
  obtain ⟨u, w', rfl, ⟨t, rfl⟩, ⟨t', rfl⟩⟩ := vals2 r
  refine min_two_strs (I.ok.hd hc) ⟨_, _, rfl⟩ ⟨_, _, rfl⟩ fun h' tk k => ⟨_, H, I.kept k, ?_, q⟩
  show RelV _ (if decide (j.cps.toList < i.cps.toList) = true then _ else _)
  by_cases hj : j.cps.toList < i.cps.toList
  · rw [if_pos hj, if_pos (decide_eq_true hj)]; exact ⟨_, rfl⟩
  · rw [if_neg hj, if_neg (fun z => hj (of_decide_eq_true z))]; exact ⟨_, rfl⟩
theorem op_inDK {K : PySem.W.Frag} (h : X.K = K) (hu : X.A.units + 65 < cLine) : OpR X (compareOp .In) (rInD K) := h ▸ op_inD hu
end Bk

set_option Elab.async false
set_option linter.all false
set_option maxRecDepth 100000
namespace Bk
open PySem PySem.Spec PyProof.Rows L2
/-! ### == of nested lists, tuples and dicts -/
def EqRT (K : PySem.W.Frag) (H : Hp) (E : V → V → Prop) (x y : V) : Prop :=
  EqR K H E x y ∨ ∃ a b xs ys, x = .ref a ∧ y = .ref b ∧ SqT K H a xs ∧ SqT K H b ys ∧ Paired E xs ys
def EqVT (K : PySem.W.Frag) (H : Hp) : Nat → V → V → Prop
  | 0 => fun _ _ => False
  | n + 1 => fun x y => (x = y ∧ flatB x = true) ∨ (∃ a, x = .ref a ∧ y = .ref a) ∨ EqRT K H (EqVT K H n) x y
section
variable {X : Cx} {pins : List (Addr × Obj)} {σ : L2.St} {H : Hp} {s : Shared}
theorem eqRT_run (I : Inv X pins σ H s) {A : Around} {F : V → V → Prop} (hu : A.units < cLine) (ih : ∀ x y v u, F x y → RelV x v → RelV y u → SeqAt.EqP X.prog X.w A.in1 s v u true) {x y : V} {v u : Value} (h : EqRT X.K H F x y) (rx : RelV x v) (ry : RelV y u)
    (E Q : Value → Shared → Prop) (q : Q (.bool true) s) : wpAny (model X.prog X.w) A (richCompare .Eq v u) Q E s := by
  rcases h with h | ⟨a, b, xs, ys, rfl, rfl, ha, hb, hp⟩
  · exact eqR_run I hu ih h rx ry E Q q
  · cases (show v = Value.ref a from rx)
    cases (show u = Value.ref b from ry)
    obtain ⟨us, r1, p1, _⟩ := I.tuple ha
    obtain ⟨ws, r2, p2, _⟩ := I.tuple hb
    have hsz : us.toArray.size = ws.toArray.size := by
      rw [List.size_toArray, List.size_toArray, ← r1.length, ← r2.length]
      exact Paired.length hp
    refine SeqAt.rcIn_tuples (e := fun _ => true) p1 p2 hu (fun j h1 h2 => ?_) ?_
    · have k := items_run ih hp r1 r2 j (by simpa using h1) (by simpa using h2)
      have k' : SeqAt.EqIn X.prog X.w A.in1 s us[j] ws[j] true := k
      simpa using k'
    · rw [hsz]
      simp only [BEq.rfl, Bool.and_true]
      rw [show ((List.range (min ws.toArray.size ws.toArray.size)).all fun _ => true) = true from List.all_eq_true.mpr fun _ _ => rfl]
      exact q
theorem eqVT_run (I : Inv X pins σ H s) : ∀ (n : Nat) (A : Around), A.units + n < cLine → ∀ (x y : V) (v u : Value), EqVT X.K H n x y → RelV x v → RelV y u → SeqAt.EqP X.prog X.w A s v u true
  | 0, _, _, _, _, _, _, h, _, _ => (show False from h).elim
  | n + 1, A, hu, x, y, v, u, h, rx, ry => by
    rcases h with ⟨rfl, f⟩ | ⟨a, rfl, rfl⟩ | h
    · exact (eqAt_same rx ry f).eqP
    · cases (show v = Value.ref a from rx)
      cases (show u = Value.ref a from ry)
      exact (SeqAt.EqAt.same _).eqP
    · have step := eqRT_run I (A := A) (by omega) (eqVT_run I n A.in1 (by show A.units + 1 + n < cLine; omega)) h rx ry
      obtain ⟨a, b, rfl, rfl⟩ : ∃ a b, x = .ref a ∧ y = .ref b := by
        rcases h with (⟨a, b, _, _, e1, e2, _⟩ | ⟨a, b, _, _, e1, e2, _⟩) | ⟨a, b, _, _, e1, e2, _⟩
        · exact ⟨a, b, e1, e2⟩
        · exact ⟨a, b, e1, e2⟩
        · exact ⟨a, b, e1, e2⟩
      cases (show v = Value.ref a from rx)
      cases (show u = Value.ref b from ry)
      by_cases e : a = b
      · subst e
        exact (SeqAt.EqAt.same _).eqP
      · exact SeqAt.eqP_refs e step
end
section
variable {X : Cx}
/-- a == b, two lists, tuples or dicts that are equal -/
def rEqVT (K : PySem.W.Frag) : R2 := fun x y H Q => ∃ n, n ≤ 60 ∧ EqRT K H (EqVT K H n) x y ∧ Q (.bl true) H
theorem op_eqVT (hu : X.A.units + 64 < cLine) : OpR X (compareOp .Eq) (rEqVT X.K) := by
  intro pins s σ H x y v u Q I rx ry h
  obtain ⟨n, hn, h, q⟩ := h
  exact eqRT_run I (A := X.A) (by omega) (eqVT_run I n X.A.in1 (by show X.A.units + 1 + n < cLine; omega)) h rx ry _ _ ⟨.bl true, H, I, rfl, q⟩
end
end Bk

set_option Elab.async false
set_option linter.all false
set_option maxRecDepth 100000
set_option maxHeartbeats 2000000
/-! ### != of two lists whose items are all equal -/
namespace PySem.SeqAt
open AutoSeq1 (wpAny_loadPart')
open MeetsSeq MeetsSeq2 MeetsSeq3 SeqRoads2
section
variable {P : Program} {w : World}
theorem bk_neLoop (l b : Addr) (xs ys : Array Value) (n m : Nat) (d1 d2 : Option Addr) (o1 o2 : Array (Option Value)) (hz : xs.size = ys.size) :
    ∀ k i : Nat, xs.size - i = k → MeetsIn P w (Builtin.«list.__eq__.loop» ⟨[.ref l, .ref b, rawInt i, rawInt 3], []⟩)
      (fun A R s => s.heap.get? l = some { cls := .type "list", dict := d1, data := .seq xs n, slots := o1 } ∧ s.heap.get? b = some { cls := .type "list", dict := d2, data := .seq ys m, slots := o2 } ∧
        (∀ j (h1 : j < xs.size) (h2 : j < ys.size), EqIn P w A.in1 s xs[j] ys[j] true) ∧ R (.ok (.ret (.bool false))) s) := by
  intro k
  induction k with
  | zero =>
    intro i hk A R s ⟨hl, hb, he, h⟩
    obtain ⟨hp, g, dd, tk, os⟩ := s
    wp_walk using wpAny_loadPart' hl, wpAny_loadPart' hb
    have i1 : xs[((i : Nat) : Int).toNat]? = none := by simp; omega
    have i2 : ys[((i : Nat) : Int).toNat]? = none := by simp; omega
    rw [i1, i2]
    wp_walk using wpAny_loadPart' hl, wpAny_loadPart' hb
    have e : (xs.size != ys.size) = false := by simp [hz]
    show R (.ok (.ret (.bool (xs.size != ys.size)))) _
    rw [e]
    exact h
  | succ k ih =>
    intro i hk A R s ⟨hl, hb, he, h⟩
    obtain ⟨hp, g, dd, tk, os⟩ := s
    wp_walk using wpAny_loadPart' hl, wpAny_loadPart' hb
    have l1 : i < xs.size := by omega
    have l2 : i < ys.size := by omega
    have i1 : xs[((i : Nat) : Int).toNat]? = some xs[i] := by simp [l1]
    have i2 : ys[((i : Nat) : Int).toNat]? = some ys[i] := by simp [l2]
    have c : ((i : Int) + 1) = ((i + 1 : Nat) : Int) := by push_cast; rfl
    rw [i1, i2]
    refine wpAny_bind (he i l1 l2 _ _ ?_)
    wp_walk
    rw [c]
    refine ⟨plainId_quiet plain_eq_loop _, codeAny_builtin entry_eq_loop ?_⟩
    rw [Around.under_plainId plain_eq_loop _]
    exact ih (i + 1) (by omega) A R _ ⟨hl, hb, he, h⟩
theorem bk_listNe (l b : Addr) (xs ys : Array Value) (n m : Nat) (d1 d2 : Option Addr) (o1 o2 : Array (Option Value)) (hz : xs.size = ys.size) :
    MeetsIn P w (Builtin.«list.__ne__» ⟨[.ref l, .ref b], []⟩)
      (fun A R s => s.heap.get? l = some { cls := .type "list", dict := d1, data := .seq xs n, slots := o1 } ∧ s.heap.get? b = some { cls := .type "list", dict := d2, data := .seq ys m, slots := o2 } ∧
        (∀ j (h1 : j < xs.size) (h2 : j < ys.size), EqIn P w A.in1 s xs[j] ys[j] true) ∧ R (.ok (.ret (.bool false))) s) := by
  intro A R s ⟨hl, hb, he, h⟩
  obtain ⟨hp, g, dd, tk, os⟩ := s
  have sub := AutoSeq1.sub_list_list
  have ne : ¬ (xs.size != ys.size) = true := by simp [hz]
  wp_walk using wpAny_loadPart' hl, wpAny_loadPart' hb
  refine ⟨plainId_quiet plain_eq_loop _, codeAny_builtin entry_eq_loop ?_⟩
  rw [Around.under_plainId plain_eq_loop _]
  exact bk_neLoop l b xs ys n m d1 d2 o1 o2 hz _ 0 rfl A R _ ⟨hl, hb, he, h⟩
theorem bk_neLists {A : Around} {s : Shared} {E Q : Value → Shared → Prop} {l b : Addr} {xs ys : Array Value} (hl : s.heap.IsList l xs) (hb : s.heap.IsList b ys) (hz : xs.size = ys.size) (hu : A.units < cLine)
    (he : ∀ j (h1 : j < xs.size) (h2 : j < ys.size), EqIn P w A.in1 s xs[j] ys[j] true) (h : Q (.bool false) s) : wpAny (model P w) A (richCompare .NotEq (.ref l) (.ref b)) Q E s := by
  obtain ⟨⟨c1, d1, a1, o1⟩, g1, e1, n, f1⟩ := id hl
  obtain ⟨⟨c2, d2, a2, o2⟩, g2, e2, m, f2⟩ := id hb
  simp only at e1 f1 e2 f2
  subst e1 f1 e2 f2
  exact wpAny_richCompare_same_room (T := "list") (op := .NotEq) ⟨_, g1, rfl⟩ ⟨_, g2, rfl⟩ F.slot_list_ne (call_meetsIn F.slot_list_ne ⟨_, g1, rfl⟩ F.entry_list_ne (F.args_list_ne_2 _ _) (bk_listNe l b xs ys n m d1 d2 o1 o2 hz)
    ⟨g1, g2, he, show Value.bool false ≠ Value.notImplemented ∧ Q (.bool false) s from ⟨(fun x => nomatch x), h⟩⟩) hu
end
end PySem.SeqAt
namespace Bk
open PySem PySem.Spec PyProof.Rows L2
section
variable {X : Cx}
/-- a != b, two lists whose items are equal -/
def rNeVT (K : PySem.W.Frag) : R2 := fun x y H Q => ∃ n a b xs ys, n ≤ 60 ∧ x = .ref a ∧ y = .ref b ∧ SqL K H a xs ∧ SqL K H b ys ∧ Paired (EqVT K H n) xs ys ∧ Q (.bl false) H
theorem op_neVT (hu : X.A.units + 64 < cLine) : OpR X (compareOp .NotEq) (rNeVT X.K) := by
  intro pins s σ H x y v u Q I rx ry h
  obtain ⟨n, a, b, xs, ys, hn, rfl, rfl, ha, hb, hp, q⟩ := h
  cases (show v = Value.ref a from rx)
  cases (show u = Value.ref b from ry)
  obtain ⟨us, r1, p1, _⟩ := I.list ha
  obtain ⟨ws, r2, p2, _⟩ := I.list hb
  have hsz : us.toArray.size = ws.toArray.size := by
    rw [List.size_toArray, List.size_toArray, ← r1.length, ← r2.length]
    exact Paired.length hp
  refine SeqAt.bk_neLists (P := X.prog) (w := X.w) p1.isList p2.isList hsz (by omega) (fun j h1 h2 => ?_) ⟨.bl false, H, I, rfl, q⟩
  have ih : ∀ x y v u, EqVT X.K H n x y → RelV x v → RelV y u → SeqAt.EqP X.prog X.w X.A.in1 s v u true := eqVT_run I n X.A.in1 (by show X.A.units + 1 + n < cLine; omega)
  have k := items_run ih hp r1 r2 j (by simpa using h1) (by simpa using h2)
  have k' : SeqAt.EqIn X.prog X.w X.A.in1 s us[j] ws[j] true := k
  simpa using k'
/-! ### x *= e, ints -/
def ipMul : TIp := fun x y H Q => ∃ i j, x = .int i ∧ y = .int j ∧ CMul i j ∧ Q (.int (i * j)) H
theorem ip_mul : PIp X .Mult ipMul := by
  intro pins s σ H x y v u Q I r1 r2 h
  obtain ⟨i, j, rfl, rfl, c, q⟩ := h
  obtain ⟨t, rfl⟩ := r1
  obtain ⟨t', rfl⟩ := r2
  exact imul_int ⟨.int _, H, I.tok _, ⟨_, rfl⟩, q⟩ c.ok
/-! ### a method that may raise, within a try -/
variable {CX : CXT} {k : Nat} {C f : Addr} {fd : FuncData} {ps : List Str} {sp : Sp} {E : L2.St → XK} {o : Expr} {m : Str} {apos pos : Pos} {ta : TE}
def tMethS (C : Addr) (m : Str) (sp : Sp) (E : L2.St → XK) (ta : TE) : TE := fun σ H Q => ta σ H fun x H1 => ∃ a dx fs, x = .ref a ∧ H1 a = some (.ins C dx fs) ∧ fs.lookup m = none ∧ sp [x] H1 Q (E σ)
theorem pe_meth0S {pl : Sem Bool} (he : PE X o ta) (c : Cls X.K C) (hm : Meth X.K C m f) (F : FnOk X.prog X.w X.K X.mg X.base CX k f fd ps sp) (hr : Room k X.A) (hb : Binds X.K fd ps []) (hx : ∀ σ, PassesAt CX X σ (E σ))
    (ht : eval (.Call (.Attribute o m apos) [] [] pos) X.env = (do
      let ov ← eval o X.env; standAt apos.atName; let (f, first) ← holding [ov] (getMethod ov m pl); callWith pos f first (backTo pos (starEach [] X.env)) (backToKw pos (keywordEach [] X.env))) := by rfl) :
    PE X (.Call (.Attribute o m apos) [] [] pos) (tMethS C m sp E ta) := by
  refine ⟨fun pins s σ H Q I h => ?_⟩
  refine PySem.W.methodCall_KW (pl := pl) (thn (he.run pins s σ H _ I h) fun u s1 hh => ?_) ht
  obtain ⟨x, H1, I1, rx, a, dx, fs, ex, ea, l, q⟩ := hh
  subst ex
  cases (show u = Value.ref a from rx)
  refine getmeth_ok I1 ea c hm l ?_
  exact PySem.W.callWith_K0 (first := [.ref a]) I1.kIn hm.kp (run_fnS (us := [.ref a]) (vs := [.ref a]) F hr hb (hx σ) I1 (.cons rfl .nil) q)
theorem g_methS {σ : L2.St} {H : Hp} {Q : VK} (h : ta σ H fun x H1 => ∃ a dx fs, x = .ref a ∧ H1 a = some (.ins C dx fs) ∧ fs.lookup m = none ∧ sp [x] H1 Q (E σ)) : tMethS C m sp E ta σ H Q := h
end
section
variable {σ : L2.St} {H : Hp} {Q : VK} {v : V}
theorem g_lockE {t : TE} (h : ∃ d u, H d = some u ∧ Mut (some u) ∧ ∀ od, t σ (upd H d (.frz od u)) fun v H' => H' d = some (.frz od u) ∧ Q v (upd H' d u)) : tLockE t σ H Q := h
theorem g_lc2 {wi : TI} {g : TG} {tt : TT} {wi1 : TI} {g1 : TG} {tt1 : TT} {te : TE} {vs vs1 : List Nat} (h : wi σ H fun J H1 => ∀ D, H1 D = none → ∃ W : Nat → Nat → Hp → Prop, (∃ m, W 0 m (upd H1 D (.lst []))) ∧ ∀ i m H, W i m H →
    (J.stop i H ∧ Q (.ref D) H) ∨ (J.go i H ∧ ∃ Nx : Hp → Prop, (∀ H', Nx H' → ∃ m', m' < m ∧ W (i + 1) m' H') ∧ ∀ x H', J.yld i H x H' → g x (wipe σ vs) H' fun σ2 H2 => wipe σ2 vs = wipe σ vs ∧ tt σ2 H2 fun b H3 =>
    if b = true then wi1 σ2 H3 fun J1 H4 => ∃ W1 : Nat → Nat → Hp → Prop, (∃ m, W1 0 m H4) ∧ ∀ j k H, W1 j k H →
      (J1.stop j H ∧ Nx H) ∨ (J1.go j H ∧ ∃ Nx1 : Hp → Prop, (∀ H', Nx1 H' → ∃ k', k' < k ∧ W1 (j + 1) k' H') ∧ ∀ x H', J1.yld j H x H' → g1 x (wipe σ2 vs1) H' fun σ3 H5 => wipe σ3 vs1 = wipe σ2 vs1 ∧ tt1 σ3 H5 fun b H6 =>
        if b = true then te σ3 H6 fun y H7 => ∃ acc, H7 D = some (.lst acc) ∧ acc.length < sizeLine ∧ Nx1 (upd H7 D (.lst (acc ++ [y]))) else Nx1 H6)
    else Nx H3)) : tLc2 wi g tt wi1 g1 tt1 te vs vs1 σ H Q := h
/-- the outer walk of a comprehension of two -/
theorem lc2_it {J : It} {n : Nat} {G : Hp → Prop} {Y : Nat → Hp → V → Hp → Prop} (w : Walk J n G Y) {H1 : Hp} {D : Addr} {Qd : Hp → Prop} {B : (Hp → Prop) → V → Hp → Prop} (Pv : Nat → Hp → Prop) (h0 : Pv 0 (upd H1 D (.lst []))) (hG : ∀ i H, i ≤ n → Pv i H → G H)
    (hs : ∀ i x H H', i < n → Pv i H → Y i H x H' → B (Pv (i + 1)) x H') (hd : ∀ H, Pv n H → Qd H) :
    ∃ W : Nat → Nat → Hp → Prop, (∃ m, W 0 m (upd H1 D (.lst []))) ∧ ∀ i m H, W i m H →
      (J.stop i H ∧ Qd H) ∨ (J.go i H ∧ ∃ Nx : Hp → Prop, (∀ H', Nx H' → ∃ m', m' < m ∧ W (i + 1) m' H') ∧ ∀ x H', J.yld i H x H' → B Nx x H') := by
  refine ⟨fun i m H => m = n - i ∧ (i ≤ n ∧ Pv i H), ⟨n - 0, rfl, Nat.zero_le _, h0⟩, fun i m H ⟨em, le, pv⟩ => ?_⟩
  have gg := hG i H le pv
  rcases Nat.lt_or_ge i n with lt | ge
  · exact .inr ⟨w.goes i H lt gg, Pv (i + 1), fun G' p' => ⟨n - (i + 1), by omega, rfl, lt, p'⟩, fun x G' y => hs i x H G' lt pv (w.yields i H x G' lt gg y)⟩
  · have e : i = n := Nat.le_antisymm le ge
    subst e
    exact .inl ⟨w.stops H gg, hd H pv⟩
/-- the inner walk -/
theorem lc2_in {J : It} {n : Nat} {G : Hp → Prop} {Y : Nat → Hp → V → Hp → Prop} (w : Walk J n G Y) {H1 : Hp} {Qd : Hp → Prop} {B : (Hp → Prop) → V → Hp → Prop} (Pv : Nat → Hp → Prop) (h0 : Pv 0 H1) (hG : ∀ i H, i ≤ n → Pv i H → G H)
    (hs : ∀ i x H H', i < n → Pv i H → Y i H x H' → B (Pv (i + 1)) x H') (hd : ∀ H, Pv n H → Qd H) :
    ∃ W : Nat → Nat → Hp → Prop, (∃ m, W 0 m H1) ∧ ∀ i m H, W i m H →
      (J.stop i H ∧ Qd H) ∨ (J.go i H ∧ ∃ Nx : Hp → Prop, (∀ H', Nx H' → ∃ m', m' < m ∧ W (i + 1) m' H') ∧ ∀ x H', J.yld i H x H' → B Nx x H') := by
  refine ⟨fun i m H => m = n - i ∧ (i ≤ n ∧ Pv i H), ⟨n - 0, rfl, Nat.zero_le _, h0⟩, fun i m H ⟨em, le, pv⟩ => ?_⟩
  have gg := hG i H le pv
  rcases Nat.lt_or_ge i n with lt | ge
  · exact .inr ⟨w.goes i H lt gg, Pv (i + 1), fun G' p' => ⟨n - (i + 1), by omega, rfl, lt, p'⟩, fun x G' y => hs i x H G' lt pv (w.yields i H x G' lt gg y)⟩
  · have e : i = n := Nat.le_antisymm le ge
    subst e
    exact .inl ⟨w.stops H gg, hd H pv⟩
end
end Bk
namespace Bk
open PySem PySem.Spec PyProof.Rows L2
section
variable {X : Cx}
/-- len of a list, a tuple or a dict -/
def rLenA (K : PySem.W.Frag) : List V → Hp → VK → Prop := fun xs H Q => (∃ p ys, xs = [.ref p] ∧ (SqL K H p ys ∨ SqT K H p ys) ∧ Q (.int ys.length) H) ∨ ∃ a kvs, xs = [V.ref a] ∧ H a = some (.dK kvs) ∧ Q (.int kvs.length) H
theorem call_lenA : CallR X (.builtin "len") (rLenA X.K) := by
  intro pins s σ H xs us Q I r h
  rcases h with h | h
  · exact call_len_seq pins s σ H xs us Q I r h
  · exact call_lenD pins s σ H xs us Q I r h
end
theorem use_isT {K : PySem.W.Frag} {H : Hp} {v : V} {t T : String} {b : Bool} {Q : VK} (ty : TyX K H v (.type t)) (hk : kitB t T = some b) (q : Q (.bl b) H) : rIsi K [v, .ty T] H Q := ⟨v, .ty T, _, _, b, rfl, .ty _, ty, kit_ty hk, q⟩
theorem ty_sql {K : PySem.W.Frag} {H : Hp} {a : Addr} {xs : List V} (h : SqL K H a xs) : TyX K H (.ref a) (.type "list") := by
  rcases h with (a | ⟨o, a⟩) | ⟨o, its, n, a, c, _⟩
  · exact .base (.lst a)
  · exact .base (.frz a)
  · exact .kList a c
theorem ty_sqt {K : PySem.W.Frag} {H : Hp} {a : Addr} {xs : List V} (h : SqT K H a xs) : TyX K H (.ref a) (.type "tuple") := by
  rcases h with (a | ⟨o, a⟩) | ⟨o, its, n, a, c, _⟩
  · exact .base (.tup a)
  · exact .fTuple a
  · exact .kTuple a c
end Bk

set_option Elab.async false
set_option linter.all false
set_option maxRecDepth 100000
set_option maxHeartbeats 2000000
/-! for sign in "(),": text = text.replace(sign, f" {sign} ") -/
namespace Bk
open PySem PySem.Spec PyProof.Rows L2
section
variable {X : Cx} {pins : List (Addr × Obj)} {σ : L2.St} {H : Hp} {s : Shared}
theorem Inv.put (I : L2.Inv X pins σ H s) (hN : X.N.Nodup) {i : Nat} {x : Str} (hi : X.N[i]? = some x) (hk : X.env.kindOf x = some NameKind.local) {v : V} {u : Value} (r : RelV v u) {m : Str → Option Value} (hm : s.heap.Ns X.env.locals m)
    (hl : ∀ (i : Nat) (x : Str) (v : V), X.N[i]? = some x → σ[i]? = some (some v) → Vis X.env.scope x → ∃ u, RelV v u ∧ Look X.env s.heap m x u)
    {h' : Heap} (hn : h'.Ns X.env.locals fun y => if y = x then some u else m y) (hs : Heap.SameBut X.env.locals s.heap h') (t : Nat) :
    L2.Inv X pins (σ.set i (some v)) H { heap := h', gens := s.gens, drawn := s.drawn, toks := t, os := s.os } ∧
    (∀ (j : Nat) (y : Str) (w : V), X.N[j]? = some y → (σ.set i (some v))[j]? = some (some w) → Vis X.env.scope y → ∃ u', RelV w u' ∧ Look X.env h' (fun y => if y = x then some u else m y) y u') := by
  have hiσ : i < σ.length := by rw [I.len]; exact (List.getElem?_eq_some_iff.mp hi).1
  have cne := Inv.cne I
  have lk : ∀ (j : Nat) (y : Str) (w : V), X.N[j]? = some y → (σ.set i (some v))[j]? = some (some w) → Vis X.env.scope y → ∃ u', RelV w u' ∧ Look X.env h' (fun y => if y = x then some u else m y) y u' := fun j y w e1 e2 e3 => by
    by_cases hj : j = i
    · subst hj
      rw [List.getElem?_set_self hiσ] at e2
      cases e2
      have : y = x := Option.some.inj (e1.symm.trans hi)
      subst this
      exact ⟨u, r, .inl ⟨hk, if_pos rfl⟩⟩
    · rw [List.getElem?_set_ne (fun z => hj z.symm)] at e2
      obtain ⟨u', r', l⟩ := hl j y w e1 e2 e3
      have yx : y ≠ x := fun z => by
        subst z
        exact hj ((List.getElem?_inj (List.getElem?_eq_some_iff.mp e1).1 hN).mp (e1.trans hi.symm))
      refine ⟨u', r', ?_⟩
      rcases l with ⟨a, b⟩ | ⟨a, c, b, d⟩
      · exact .inl ⟨a, (if_neg yx).trans b⟩
      · exact .inr ⟨a, c, b, Heap.IsCell.sameBut d hs (cne y c b)⟩
  obtain ⟨oL, _, _, hoL, _⟩ := id hm
  refine ⟨{ ok := I.ok, os := I.os, bare := I.bare, base := ?_, loc := ⟨_, hn, lk⟩, cell := fun y c e => ?_, free := I.free, freeC := I.freeC, pin := fun p hp => ?_, hok := ?_, len := by rw [List.length_set]; exact I.len }, lk⟩
  · have lt : ∀ {b : Addr} {o : Obj}, X.s_0.heap.get? b = some o → b ≠ X.env.locals := fun e => Nat.ne_of_lt (Nat.lt_of_lt_of_le (Heap.lt_size e) I.ok.above)
    exact { keep := fun b o e n hb hx => (hs.2 b (lt e)).trans (I.base.keep b o e n hb hx), slot := fun b o e n hb hx => by
              obtain ⟨sl, e1⟩ := I.base.slot b o e n hb hx
              exact ⟨sl, (hs.2 b (lt e)).trans e1⟩, free := I.base.free, there := fun b o e hx => by
              obtain ⟨o', e1⟩ := I.base.there b o e hx
              exact ⟨o', (hs.2 b (lt e)).trans e1⟩, tups := I.base.tups, frzs := I.base.frzs, tbls := I.base.tbls }
  · obtain ⟨w', z⟩ := I.cell y c e
    exact ⟨w', Heap.IsCell.sameBut z hs (cne y c e)⟩
  · obtain ⟨e, n, ne, nf, d⟩ := I.pin p hp
    exact ⟨(hs.2 p.1 ne).trans e, n, ne, nf, d⟩
  · intro b ob e
    refine ObjOk.stay (I.hok b ob e) (fun c w' hc q => (hs.2 c fun z => ?_).trans q) (fun _ q => q) fun _ _ q => q
    subst z
    rcases hc with rfl | hc
    · rw [I.free] at e; cases e
    · rw [I.free] at hc; cases hc
end
/-- a sign with blanks around -/
def rpS (a : Str) (c : Nat) : Str := Txt.replace a ⟨#[c]⟩ ⟨#[32, c, 32]⟩
def sgn : Nat → Nat
  | 0 => 40
  | 1 => 41
  | _ => 44
def rpk (a : Str) : Nat → Str
  | 0 => a
  | k + 1 => rpS (rpk a k) (sgn k)
def signs (a : Str) : Str := rpk a 3
theorem sum_join (c : Str) : ∀ (ps : List Str), (c.join ps).length + c.length = (ps.map (·.length)).sum + ps.length * c.length ∨ ps = []
  | [] => .inr rfl
  | [p] => .inl (by
      show p.length + c.length = p.length + 0 + (0 + 1) * c.length
      omega)
  | p :: q :: r => .inl (by
      rcases sum_join c (q :: r) with h | h
      · have e : c.join (p :: q :: r) = p ++ c ++ c.join (q :: r) := rfl
        have l : ∀ a b : Str, (a ++ b).length = a.length + b.length := fun a b => by
          show (a.cps ++ b.cps).size = a.cps.size + b.cps.size
          simp
        rw [e, l, l, List.map_cons, List.sum_cons, List.length_cons, Nat.add_mul, Nat.one_mul]
        omega
      · cases h)
theorem rpS_len (a : Str) (c : Nat) : (rpS a c).length ≤ 3 * a.length + 3 := by
  unfold rpS
  rw [StrLaws.replace_one]
  have j := StrLaws.join_split a ⟨#[c]⟩
  generalize Txt.split a ⟨#[c]⟩ = ps at j
  have b := StrLaws.join_length_le ⟨#[32, c, 32]⟩ ps
  have l1 : (⟨#[c]⟩ : Str).length = 1 := rfl
  have l3 : (⟨#[32, c, 32]⟩ : Str).length = 3 := rfl
  rw [l3] at b
  rcases sum_join ⟨#[c]⟩ ps with h | rfl
  · rw [j, l1] at h
    omega
  · simp only [List.map_nil, List.sum_nil, List.length_nil] at b
    omega
theorem rpk_len (a : Str) (h : a.length ≤ 100000) : ∀ k ≤ 3, (rpk a k).length ≤ 3000000
  | 0, _ => by show a.length ≤ _; omega
  | 1, _ => by have := rpS_len a 40; show (rpS a 40).length ≤ _; omega
  | 2, _ => by have h1 := rpS_len a 40; have h2 := rpS_len (rpS a 40) 41; show (rpS (rpS a 40) 41).length ≤ _; omega
  | 3, _ => by have h1 := rpS_len a 40; have h2 := rpS_len (rpS a 40) 41; have h3 := rpS_len (rpS (rpS a 40) 41) 44; show (rpS (rpS (rpS a 40) 41) 44).length ≤ _; omega
  | _ + 4, h => by omega
def stS (σ : L2.St) (i j : Nat) (a : Str) : Nat → L2.St
  | 0 => σ
  | k + 1 => (σ.set j (some (.str ⟨#[sgn k]⟩))).set i (some (.str (rpk a (k + 1))))
theorem stS_step (σ : L2.St) {i j : Nat} (ne : i ≠ j) (a : Str) : ∀ k, ((stS σ i j a k).set j (some (.str ⟨#[sgn k]⟩))).set i (some (.str (rpk a (k + 1)))) = stS σ i j a (k + 1)
  | 0 => rfl
  | k + 1 => by
    show ((((σ.set j _).set i _).set j _).set i _) = (σ.set j _).set i _
    rw [List.set_comm _ _ ne, List.set_set, List.set_set]
theorem stS_at {σ : L2.St} {i j : Nat} {a : Str} (h : σ[i]? = some (some (.str a))) : ∀ k, (stS σ i j a k)[i]? = some (some (.str (rpk a k)))
  | 0 => h
  | k + 1 => by
    have hi := (List.getElem?_eq_some_iff.mp h).1
    exact List.getElem?_set_self (by rw [List.length_set]; exact hi)
def tSigns (i j : Nat) : TS := fun D σ H => ∃ a : Str, σ[i]? = some (some (.str a)) ∧ a.length ≤ 100000 ∧ D.nx (stS σ i j a 3) H
theorem ps_signs {X : Cx} {i j : Nat} {xt xs : Str} (hN : X.N.Nodup) (hi : X.N[i]? = some xt) (hj : X.N[j]? = some xs) (ne : i ≠ j) (ki : X.env.kindOf xt = some NameKind.local) (kj : X.env.kindOf xs = some NameKind.local) (vi : Vis X.env.scope xt) (hc : X.calm = true) (dt : (xt == Str.ofString "__debug__") = false) (ds : (xs == Str.ofString "__debug__") = false)
    {k0 k1 k2 : Nat} {p1 p2 p3 p4 p5 p6 p7 p8 p9 pa pb pc pd pe : Pos}
    (hl : (p5.endLine == pa.line) = true) :
    PS X (.For (.Name xs p1) (.Constant (.str "(),") k0 p2) [.Assign [.Name xt p3] (.Call (.Attribute (.Name xt p4) "replace" p5) [.Name xs p6, .JoinedStr [.Constant (.str " ") k1 p7, .FormattedValue (.Name xs p8) (-1) none p9, .Constant (.str " ") k2 pb] pc] [] pa) pd] [] pe) (tSigns i j) := by
  refine ⟨fun pins s σ H D I h => ?_⟩
  obtain ⟨a, ha, hlen, q⟩ := h
  have hcls : (X.env.scope.kind == ScopeKind.class || X.env.scope.kind == ScopeKind.module && X.env.locals != X.env.globals) = false := by rw [I.ok.kind]; rfl
  refine wpAny_For (wpAny_Constant_str (wpAny_pyIter_ascii (by decide +kernel) ?_))
  have P := pi_one (R := fun _ H' => H' = H) (tk := s.toks + 1) I { cls := Value.type "str_ascii_iterator", data := Data.fields #[Value.str "()," s.toks, Value.int 0 0] } (turn_str (tg := .Name xs p1) s.heap.objs.size "()," s.toks "str_ascii_iterator" (.inl rfl)) ⟨_, Heap.get?_push_size s.heap rfl, rfl, rfl⟩ rfl
  obtain ⟨it, fp, tn, J, H', e, I2, T, _, f, eH⟩ := P
  have eit : s.heap.objs.size = it := by injection e
  subst eit
  rw [eH] at I2 f
  have FF := f _ T.mem

  have st0 : (s.heap.push { cls := Value.type "str_ascii_iterator", data := Data.fields #[Value.str "()," s.toks, Value.int 0 0] }).IsStrIter s.heap.objs.size "str_ascii_iterator" "()," s.toks 0 := ⟨_, Heap.get?_push_size s.heap rfl, rfl, rfl⟩
  refine codeAny_forLoop_any (fun n s' => ∃ k : Nat, n = 3 - k ∧ k ≤ 3 ∧ L2.Inv X pins (stS σ i j a k) H s' ∧ s'.heap.IsStrIter s.heap.objs.size "str_ascii_iterator" "()," s.toks k ∧ 0 < s'.toks) (fun n s1 hW => ?_) 3 ⟨0, rfl, by decide, I2, st0, Nat.succ_pos _⟩
  obtain ⟨k, rfl, hk, I1, st1, t1⟩ := hW
  by_cases c : k = 3
  · subst c
    refine wpAny_pyNext_ascii_end (I.ok.hd hc) st1 (by rfl) fun h' eb => ?_
    refine wpAny_execs_nil ?_
    exact ⟨_, H, Inv.turned I1 (fun b o hb e => eb b o hb e) FF.1 FF.2.1 FF.2.2.2.1 FF.2.2.2.2.1 FF.2.2.2.2.2, q⟩
  have hk3 : k < 3 := by omega
  have hx : ("()," : Str).cps[k]? = some (sgn k) := by
    have : k = 0 ∨ k = 1 ∨ k = 2 := by omega
    rcases this with rfl | rfl | rfl <;> rfl
  refine wpAny_pyNext_ascii_item st1 hx fun h2 st2 sb => ?_
  have I2' := Inv.turned (t' := s1.toks + 1) I1 (fun b o hb e => (sb.2 b hb).trans e) FF.1 FF.2.1 FF.2.2.2.1 FF.2.2.2.2.1 FF.2.2.2.2.2
  obtain ⟨o2, e2, c2, d2⟩ := id st2
  refine go_of e2 c2 d2 (by decide +kernel) ?_
  obtain ⟨m, hm, hl2⟩ := I2'.loc
  refine wpAny_assign_Name (wpAny_storeName_local kj hm (fun h3 hn3 hs3 => ?_) hcls)
  have J3 := Inv.put I2' hN hj kj (v := .str ⟨#[sgn k]⟩) (u := .str ⟨#[sgn k]⟩ s1.toks) ⟨_, rfl⟩ hm hl2 hn3 hs3 (s1.toks + 1 + 1)
  obtain ⟨I3, hl3⟩ := J3
  have at3 : ((stS σ i j a k).set j (some (.str ⟨#[sgn k]⟩)))[i]? = some (some (.str (rpk a k))) := by
    rw [List.getElem?_set_ne (fun z => ne z.symm)]
    exact stS_at ha k
  obtain ⟨u, hu, lu⟩ := hl3 i xt _ hi at3 vi
  obtain ⟨ta, rfl⟩ := hu
  have mt : (fun y => if y = xs then some (Value.str ⟨#[sgn k]⟩ s1.toks) else m y) xt = some (.str (rpk a k) ta) := by
    rcases lu with ⟨_, b⟩ | ⟨b, _⟩
    · exact b
    · rw [ki] at b
      rcases b with b | b <;> cases b
  have ms : (fun y => if y = xs then some (Value.str ⟨#[sgn k]⟩ s1.toks) else m y) xs = some (.str ⟨#[sgn k]⟩ s1.toks) := if_pos rfl
  have kn := I.ok.kind
  refine wpAny_execs_cons (wpAny_Assign_Name (wpAny_Call_method_late rfl rfl hl rfl (wpAny_Name (wpAny_loadName_local kn ki hn3 mt ?_) dt)))
  refine ⟨"str", "str.replace", F.plainAttrs_str, F.slot_str_replace, F.type_str_replace, typeIs_str _ _ _, (fun _ z => nomatch z), ?_⟩
  have ls : ∀ c : Nat, ((Str.empty ++ (" " : Str)) ++ (⟨#[c]⟩ : Str)) ++ (" " : Str) = (⟨#[32, c, 32]⟩ : Str) := fun c => rfl
  have len1 : (Str.empty ++ (" " : Str)).length ≤ sizeLine := by decide +kernel
  have len2 : ((Str.empty ++ (" " : Str)) ++ (⟨#[sgn k]⟩ : Str)).length ≤ sizeLine := Nat.le_trans (show 2 ≤ 3 by decide) (by decide)
  have len3 : (((Str.empty ++ (" " : Str)) ++ (⟨#[sgn k]⟩ : Str)) ++ (" " : Str)).length ≤ sizeLine := Nat.le_trans (show 3 ≤ 3 by decide) (by decide)
  have one : (⟨#[sgn k]⟩ : Str).length ≤ sizeLine := Nat.le_trans (show 1 ≤ 3 by decide) (by decide)
  refine Calls.callWith_builtin rfl (Calls.evalArgs_plain (Calls.spliced_cons (wpAny_Name (wpAny_loadName_local kn kj hn3 ms (Calls.spliced_cons (wpAny_JoinedStr (pos := pc) ?_))) ds)))
  refine Joins_cons (wpAny_Constant_str ⟨_, _, rfl, len1, Joins_cons (wpAny_FormattedValue_plain (wpAny_Name (wpAny_loadName_local kn kj hn3 ms (wpAny_formatField_str ⟨_, _, rfl, len2, Joins_cons (wpAny_Constant_str ⟨_, _, rfl, len3, Joins_nil ⟨len3, ?_⟩⟩)⟩ ⟨_, _, rfl, len2, Joins_cons (wpAny_Constant_str ⟨_, _, rfl, len3, Joins_nil ⟨len3, ?_⟩⟩)⟩ one)) ds))⟩)
  all_goals
    rw [ls]
    refine Calls.spliced_nil ?_
    refine SC.replace (Nat.ne_of_gt t1) (Nat.succ_ne_zero _) (Nat.ne_of_lt (Nat.lt_of_lt_of_le (Nat.lt_succ_self s1.toks) (by dsimp only; omega))) ?_ ?_ fun t' k' => ?_
    · exact beq_eq_false_iff_ne.mpr fun z => by
        have z := congrArg Str.length z
        cases z
    · have := rpk_len a hlen k hk
      show (rpk a k).length + ((rpk a k).length + 1) * 3 ≤ 16777216
      omega
    · refine wpAny_storeName_local ki hn3 (fun h4 hn4 hs4 => ?_) hcls
      have J4 := Inv.put I3 hN hi ki (v := .str (rpk a (k + 1))) (u := .str (rpk a (k + 1)) t') ⟨_, rfl⟩ hn3 hl3 hn4 hs4 (k' + 1)
      rw [stS_step σ ne a k] at J4
      refine wpAny_execs_nil ⟨3 - (k + 1), by omega, k + 1, rfl, by omega, J4.1, ?_, Nat.succ_pos _⟩
      obtain ⟨o, e, c3, d3⟩ := st2
      exact ⟨o, (hs4.2 _ FF.2.1).trans ((hs3.2 _ FF.2.1).trans e), c3, d3⟩
end Bk

set_option Elab.async false
set_option linter.all false
set_option maxRecDepth 100000
set_option maxHeartbeats 2000000
/-! Exceptions whose one argument, a text, is known to be one: str(error) in the suite that names it, which raises. -/
namespace BkX
open PySem PySem.Spec PyProof.Rows L2
abbrev St := L2.St
/-- its argument is one text; the tuple stands in the ground -/
def Ar (B : Heap) (T : Addr) (o : Obj) : Prop := ∀ vs : Array Value, o.data = .fields vs → vs[0]? = some (.ref T) ∧ ∃ (m : Str) (tk : Tok), B.TupAt T [.str m tk]
theorem Ar.steady {B : Heap} {T : Addr} : PXN.Steady1 (Ar B T) := fun o v h => by
  obtain ⟨c, d, dt, sl⟩ := o
  cases dt with
  | fields vs0 =>
    intro vs e
    have e2 : vs0.setIfInBounds 1 v = vs := Data.fields.inj e
    have e3 : (vs0.setIfInBounds 1 v)[0]? = vs0[0]? := by
      first
      | exact Array.getElem?_setIfInBounds_ne (by decide)
      | simp [Array.getElem?_setIfInBounds]
    rw [← e2, e3]
    exact h vs0 rfl
  | _ =>
    intro vs e
    first
    | exact Data.noConfusion e
    | cases e
def Zs (B : Heap) (T : Addr) (cls : Value) (d : Option Addr) : Obj → Prop := fun o => L2N.Zn cls d o ∧ Ar B T o
theorem Zs.steady {B : Heap} {T : Addr} {cls : Value} {d : Option Addr} : PXN.Steady1 (Zs B T cls d) := PXN.steady_and (Z := L2N.Zn cls d) (Z' := Ar B T) L2N.Zn.steady Ar.steady
/-- an exception in the air of X -/
def XE (X : Cx) (W : WX) (u : Value) (s' : Shared) : Prop :=
  ∃ (a T : Addr) (B : Heap) (sI : Shared) (pins : List (Addr × Obj)) (σ : St) (H : Hp) (cls : Value) (d : Option Addr),
    u = .ref a ∧ Inv X pins σ H sI ∧ (∀ b o, sI.heap.get? b = some o → b ∉ frs X.stack → B.get? b = some o) ∧ sI.heap.UpToSlots s'.heap ∧
      Sky B X.stack a (Zs B T cls d) X.env.locals s'.heap ∧ H a = none ∧ H T = none ∧ s'.os = sI.os ∧ AllBare s'.gens ∧ W cls d σ H
def Takes (X : Cx) (W : WX) : Prop := ∀ u s', XE X W u s' → X.xe u s'
/-- behind a call that let one out -/
def CX (P : Program) (w : World) (outer : List Env) (H : Hp) (s : Shared) (E : XK) (u : Value) (s' : Shared) : Prop :=
  ∃ (a T : Addr) (B : Heap) (H' : Hp) (cls : Value) (d : Option Addr), u = .ref a ∧ HandSPX.FlyingZ B outer a (Zs B T cls d) s'.heap ∧ HOk P w H' B ∧ UB (frs outer) H H' s.heap B s'.heap ∧ H' a = none ∧ H' T = none ∧ s'.os = s.os ∧ AllBare s'.gens ∧ E cls d H'
section
variable {X : Cx} {pins : List (Addr × Obj)} {σ : St} {H : Hp} {sI s s' : Shared} {B : Heap} {W : WX} {E : XK}
theorem XE.of_call (I : Inv X pins σ H s) (hW : ∀ cls d H', E cls d H' → W cls d σ H') {u : Value} (c : CX X.prog X.w X.stack H s E u s') : XE X W u s' := by
  obtain ⟨a, T, B, H', cls, d, rfl, fl, hok, ub, na, nT, os, ag, hE⟩ := c
  obtain ⟨G, g1, g2⟩ := restrict s'.heap fun b => (B.get? b).isSome || decide (b ∈ frs X.stack)
  have st : B.StaysIn s'.heap := fl.1
  have gB : ∀ b o, B.get? b = some o → G.get? b = some o := fun b o e => by
    rw [g1 b (by simp [e])]
    exact st b o e
  have gF : ∀ b, b ∈ frs X.stack → G.get? b = s'.heap.get? b := fun b hb => g1 b (by simp [hb])
  have og : ∀ b o, G.get? b = some o → s'.heap.get? b = some o ∧ ((B.get? b).isSome = true ∨ b ∈ frs X.stack) := fun b o e => by
    cases q : ((B.get? b).isSome || decide (b ∈ frs X.stack)) with
    | false => rw [g2 b q] at e; cases e
    | true =>
      rw [g1 b q] at e
      exact ⟨e, by simpa [Bool.or_eq_true] using q⟩
  refine ⟨a, T, B, { s with heap := G, gens := s'.gens, drawn := s'.drawn, toks := s'.toks }, pins, σ, H', cls, d, rfl, ?_, fun b o e hb => ?_, Heap.UpToSlots.of_keeps fun b o e => (og b o e).1, .inr (.inl fl), na, nT, os, ag, hW _ _ _ hE⟩
  · refine I.call (ch := []) ⟨fun b o e n hb _ => gB b o (ub.keep b o e n hb), fun b o e n hb _ => ?_, fun b o e n _ => ub.free b o e n, fun b o e _ => ?_, ub.tups, ub.frzs, ub.tbls⟩ (hok.kept gB) ag (fun _ z => nomatch z)
    · obtain ⟨sl, q⟩ := ub.slot b o e hb
      exact ⟨sl, by rw [gF b hb]; exact q⟩
    · by_cases hb : b ∈ frs X.stack
      · obtain ⟨sl, q⟩ := ub.slot b o e hb
        exact ⟨_, by rw [gF b hb]; exact q⟩
      · obtain ⟨o', q⟩ := ub.there b o e hb
        exact ⟨o', gB b o' q⟩
  · obtain ⟨e', h⟩ := og b o e
    rcases h with h | h
    · obtain ⟨o', q⟩ := Option.isSome_iff_exists.mp h
      have z := st b o' q
      rw [e'] at z; cases z
      exact q
    · exact absurd h hb
theorem XE.new {a T : Addr} {oe : Obj} {vs : Array Value} {cls : Value} {d : Option Addr} {m : Str} {tk : Tok} (I : Inv X pins σ H sI) (k : ∀ b o, sI.heap.get? b = some o → s'.heap.get? b = some o) (hne : sI.heap.get? a = none) (he : s'.heap.get? a = some oe)
    (hz : L2N.Zn cls d oe) (hd : oe.data = .fields vs) (h0 : vs[0]? = some (.ref T)) (hT : sI.heap.TupAt T [.str m tk]) (fT : T ∉ frs X.stack) (h1 : vs[1]? = some .none) (na : H a = none) (nT : H T = none) (os : s'.os = sI.os) (ag : AllBare s'.gens) (w : W cls d σ H) : XE X W (.ref a) s' := by
  refine ⟨a, T, PySem.W.hideAll sI.heap (frs X.stack), sI, pins, σ, H, cls, d, rfl, I, fun b o e hb => PySem.W.hideAll_get _ e hb, Heap.UpToSlots.of_keeps k,
    .inl ⟨fun b o e => k b o (PySem.W.of_hideAll _ e), ?_, ?_, oe, vs, he, ⟨hz, fun vs' e' => ?_⟩, hd, h1⟩, na, nT, os, ag, w⟩
  · cases q : (PySem.W.hideAll sI.heap (frs X.stack)).get? a with
    | none => rfl
    | some o =>
      have z := PySem.W.of_hideAll _ q
      rw [hne] at z; cases z
  · exact Heap.FunFrames.of_keeps (fun b o e _ => ⟨o, k b o e, rfl⟩) (funFrames_none I.stack fun b hb => PySem.W.hideAll_none _ hb)
  · rw [hd] at e'
    cases e'
    obtain ⟨oT, n, g, c1, c2⟩ := hT
    exact ⟨h0, m, tk, oT, n, PySem.W.hideAll_get _ g fT, c1, c2⟩
theorem XE.leave (hs : X.stack = X.env :: X.outer) (hf : X.env.frame = some X.env.locals) (hex : X.ex = []) {E₁ : Value → Shared → Prop} (hW : ∀ cls d σ H, W cls d σ H → E cls d H) {u : Value} (x : XE X W u s') :
    wpAny (model X.prog X.w) X.A (leaving X.env u) (fun _ s'' => CX X.prog X.w X.outer X.H_0 X.s_0 E u s'') E₁ s' := by
  obtain ⟨a, T, B, sI, pins, σ, H, cls, d, rfl, I, nb, up, sky, na, nT, os, ag, w⟩ := x
  have hfr : X.A.frames = some (X.env :: X.outer) := by rw [I.ok.frames, hs]
  have nst : ∀ b o, X.s_0.heap.get? b = some o → b ∉ X.fs → b ∉ frs X.stack := fun b o e hb hm => by
    rcases List.mem_cons.mp (I.stkSub b hm) with z | z
    · have h1 := Heap.lt_size e
      have h2 := I.ok.above
      rw [z] at h1
      exact absurd (Nat.lt_of_lt_of_le h1 h2) (Nat.lt_irrefl _)
    · exact hb z
  have hex' : ∀ b, b ∉ X.ex := fun b hb => by rw [hex] at hb; cases hb
  have hokB := I.inGround nb
  have fin : ∀ h', HandSPX.FlyingZ B X.outer a (Zs B T cls d) h' → s'.heap.UpToSlots h' → CX X.prog X.w X.outer X.H_0 X.s_0 E (.ref a) { s' with heap := h' } := fun h' fl up' => by
    refine ⟨a, T, B, H, cls, d, rfl, fl, hokB, ⟨fun b o e n hb => nb b o (I.base.keep b o e n hb (hex' b)) (nst b o e hb), fun b o e hb => ?_, fun b o e n => I.base.free b o e n (hex' b), fun b o e hb => ?_, I.base.tups, I.base.frzs, I.base.tbls⟩,
      na, nT, os.trans I.os, ag, hW _ _ _ _ w⟩
    · obtain ⟨_, o₀, e₀, hnf⟩ := I.ok.funs.mem hb
      rw [e] at e₀; cases e₀
      obtain ⟨sl, e1⟩ := I.base.slot b o e (I.ok.frf b hb) hb (hex' b)
      obtain ⟨sl2, e2⟩ := up b _ e1 hnf
      obtain ⟨sl3, e3⟩ := up' b _ e2 hnf
      exact ⟨sl3, e3⟩
    · obtain ⟨o', e1⟩ := I.base.there b o e (hex' b)
      exact ⟨o', nb b o' e1 (nst b o e hb)⟩
  rw [hs] at sky
  rcases sky with ⟨hB, hn, hl, oe, vs, he, hz, hd, h1⟩ | fl | hd
  · exact PXN.leaving_firstZ Zs.steady hfr hl hf he hB hn hd h1 hz fin
  · exact PXN.leaves_onZ Zs.steady hfr hf fl fin
  · exact HandSPX.leaves_heldZ hf hd fin
theorem takes_of (hs : X.stack = X.env :: X.outer) (hf : X.env.frame = some X.env.locals) (hex : X.ex = []) {E₁ : Value → Shared → Prop}
    (hx : X.xe = fun e s' => wpAny (model X.prog X.w) X.A (leaving X.env e) (fun _ s'' => CX X.prog X.w X.outer X.H_0 X.s_0 E e s'') E₁ s') : Takes X (fun cls d _ H => E cls d H) := fun u s' x => by
  rw [hx]
  exact XE.leave (W := fun cls d _ H => E cls d H) (E := E) hs hf hex (fun _ _ _ _ h => h) x
theorem passes_call (tk : Takes X W) (hW : ∀ cls d σ H, E cls d H → W cls d σ H) : ∀ (pins : List (Addr × Obj)) (σ : St) (H : Hp) (s : Shared) (e : Value) (s' : Shared), Inv X pins σ H s → CX X.prog X.w X.stack H s E e s' → X.xe e s' :=
  fun _ σ _ _ e s' I c => tk e s' (XE.of_call I (fun cls d H' h => hW cls d σ H' h) c)
theorem passAt (tk : Takes X W) (σ : St) : PassesAt (CX X.prog X.w) X σ (WE W σ) := fun _ _ _ e s' I c => tk e s' (XE.of_call I (fun _ _ _ h => h) c)
theorem pass_never : ∀ (pins : List (Addr × Obj)) (σ : St) (H : Hp) (s : Shared) (e : Value) (s' : Shared), Inv X pins σ H s → CX X.prog X.w X.stack H s (fun _ _ _ => False) e s' → X.xe e s' :=
  fun _ _ _ _ _ _ _ ⟨_, _, _, _, _, _, _, _, _, _, _, _, _, _, h⟩ => False.elim h
/-- an expression that makes one -/
def MkP (X : Cx) (pins : List (Addr × Obj)) (σ : St) (Q : XK) (u : Value) (s' : Shared) : Prop :=
  ∃ (a T : Addr) (oe : Obj) (vs : Array Value) (sI : Shared) (H' : Hp) (cls : Value) (d : Option Addr) (m : Str) (tk : Tok), u = .ref a ∧ Inv X pins σ H' sI ∧ (∀ b o, sI.heap.get? b = some o → s'.heap.get? b = some o) ∧ sI.heap.get? a = none ∧ s'.heap.get? a = some oe ∧
    L2N.Zn cls d oe ∧ oe.data = .fields vs ∧ vs[0]? = some (.ref T) ∧ sI.heap.TupAt T [.str m tk] ∧ T ∉ frs X.stack ∧ vs[1]? = some .none ∧ H' a = none ∧ H' T = none ∧ s'.os = sI.os ∧ AllBare s'.gens ∧ Raises X cls ∧ Q cls d H'
def PMk (X : Cx) (e : Expr) (t : St → Hp → XK → Prop) : Prop :=
  ∀ (pins : List (Addr × Obj)) (s : Shared) (σ : St) (H : Hp) (Q : XK), Inv X pins σ H s → t σ H Q → wpAny (model X.prog X.w) X.A (eval e X.env) (MkP X pins σ Q) X.xe s
theorem ps_raise {e : Expr} {t : St → Hp → XK → Prop} {pos : Pos} (hc : X.calm = true) (tk : Takes X W) (he : PMk X e t) : PS X (.Raise (some e) none pos) (fun _ σ H => t σ H fun cls d H' => W cls d σ H') := by
  refine ⟨fun pins s σ H D I h => ?_⟩
  show wpAny _ _ (do standAt pos; raiseStmt X.env (some (do let v ← eval e X.env; standAt pos; pure v)) none) _ _ _
  refine wpAny_bind (wpAny_standAt (raise_made (I.ok.hd hc) (wpAny_bind (wpAny_mono (he pins s σ H _ I h) (fun u s1 hu => wpAny_bind (wpAny_standAt (wpAny_pure ?_))) fun _ _ x => x))))
  obtain ⟨a, T, oe, vs, sI, H', cls, d, m, tk1, rfl, J, k, hne, ha, hz, hd, h0, hT, fT, h1, na, nT, os, ag, r, q⟩ := hu
  obtain ⟨r1, r2⟩ := r (model X.prog X.w) s1.heap (J.kIn.keeps k)
  exact ⟨a, oe, vs, cls, rfl, ha, hz.1, hd, h1, r1, r2, tk _ _ (XE.new J k hne ha hz hd h0 hT fT h1 na nT os ag q)⟩
/-- what MadeExcOf leaves of one text -/
theorem mk_of {Q : XK} {h' : Heap} {e : Addr} {cls : Value} {m : Str} {tk : Tok} (I : Inv X pins σ H s) (hx : Heap.MadeExcOf s.heap h' e cls [.str m tk]) (r : Raises X cls) (q : Q cls none H) : MkP X pins σ Q (.ref e) { s with heap := h' } := by
  obtain ⟨t, he, tn, ht⟩ := hx.there
  obtain ⟨G, g1, g2⟩ := restrict h' fun b => decide (b ≠ e)
  have te : t ≠ e := fun z => by
    subst z
    rw [ht] at he
    cases he
  have I2 : Inv X pins σ H { s with heap := G, toks := s.toks } := I.kept fun b u z => by
    have n : b ≠ e := fun y => by
      rw [y, hx.new] at z
      cases z
    rw [g1 b (by simpa using n)]
    exact hx.keeps b u z
  have tG : G.get? t = some { cls := .type "tuple", data := .seq [Value.str m tk].toArray } := by
    rw [g1 t (by simpa using te)]
    exact ht
  refine ⟨e, t, _, _, { s with heap := G, toks := s.toks }, H, cls, none, m, tk, rfl, I2, fun b u z => ?_, g2 e (by simp), he, ⟨rfl, rfl, fun vs e => by cases e; rfl⟩, rfl, rfl, ⟨_, _, tG, rfl, rfl⟩, fun hm => ?_, rfl, I.hok.gone hx.new, I.hok.gone tn, rfl, I.bare, r, q⟩
  · by_cases n : b = e
    · rw [n, g2 e (by simp)] at z
      cases z
    · rw [g1 b (by simpa using n)] at z
      exact z
  · obtain ⟨_, o, z, _⟩ := I.stack.mem hm
    rw [tn] at z
    cases z
end
section
variable {X : Cx} {C : Addr} {bmB : List Value} {B newId initId : String}
theorem pmk_own {x m : Str} {j : Nat} {p p2 pos : Pos} (F : ExcBaseFacts B newId initId bmB) (q : PySem.W.excIn X.K C bmB newId = true) (gC : X.mg x = some (.ref C)) (kC : PySem.W.keepIn X.K (.ref C) = true) (r : Raises X (.ref C)) (hg : Gl X x)
    (hdb : (x == ("__debug__" : Str)) = false := by decide) : PMk X (.Call (.Name x p) [.Constant (.str m) j p2] [] pos) (fun _ H Q => Q (.ref C) none H) := by
  intro pins s σ H Q I h
  refine wpAny_Call_Name_kw (ld_glob I hg gC ?_ hdb)
  have ha : PA X [.Constant (.str m) j p2] (tCons (tC (.str m)) tNil) := pa_cons pe_str pa_nil
  refine PySem.W.callWith_K (h₀ := X.base) I.ok.mod.kin kC (thn (ha.run pos pins s σ H (fun vs H1 => vs = [V.str m] ∧ H = H1) I ⟨rfl, rfl⟩) fun us s1 hh => ?_)
  obtain ⟨vs, H1, I1, r1, ev, eH⟩ := hh
  subst ev
  rw [← eH] at I1
  refine ⟨I1.kIn, ?_⟩
  obtain ⟨u, rfl, t, rfl⟩ := vals1 r1
  show wpAny _ _ (call (.ref C) [_]) _ _ _
  obtain ⟨bm, N, nm, qn, bs, hdct, sn, sub, ab, col, dd, k0, k1, k2, k3, k5, mN, hC, hN, hni, T⟩ := exc_obj I1.kIn q
  refine wpAny_call_exc_subT F T hC hN hni (fun h' e hm => ?_) (by show 1 ≤ sizeLine; rw [sizeLine_eq]; omega)
  exact mk_of I1 hm r h
theorem pmk_ownA {x : Str} {p pos : Pos} {e : Expr} {t : TA} (F : ExcBaseFacts B newId initId bmB) (q : PySem.W.excIn X.K C bmB newId = true) (gC : X.mg x = some (.ref C))
    (kC : PySem.W.keepIn X.K (.ref C) = true) (r : Raises X (.ref C)) (hg : Gl X x) (ha : PA X [e] t) (hdb : (x == ("__debug__" : Str)) = false := by decide)
    (he : starEach [e] X.env = (false, eval e X.env) :: starEach [] X.env := by rfl) :
    PMk X (.Call (.Name x p) [e] [] pos) (fun σ H Q => t σ H fun vs H1 => (∃ m : Str, vs = [.str m]) ∧ Q (.ref C) none H1) := by
  intro pins s σ H Q I h
  refine wpAny_Call_Name_kw (ld_glob I hg gC ?_ hdb)
  refine PySem.W.callWith_K (h₀ := X.base) I.ok.mod.kin kC (thn (ha.run pos pins s σ H _ I h) fun us s1 ⟨vs, H1, I1, r1, hz, q1⟩ => ⟨I1.kIn, ?_⟩) he (by rfl)
  obtain ⟨m, rfl⟩ := hz
  obtain ⟨u, rfl, t, rfl⟩ := vals1 r1
  show wpAny _ _ (call (.ref C) [_]) _ _ _
  obtain ⟨bm, N, nm, qn, bs, hdct, sn, sub, ab, col, dd, k0, k1, k2, k3, k5, mN, hC, hN, hni, T⟩ := exc_obj I1.kIn q
  refine wpAny_call_exc_subT F T hC hN hni (fun h' e hm => ?_) (by show 1 ≤ sizeLine; rw [sizeLine_eq]; omega)
  exact mk_of I1 hm r q1
end
end BkX
namespace BkX
open PySem PySem.Spec PyProof.Rows L2 HotX L2H
/-- the context of a suite that names its exception and raises -/
abbrev suiteE (X : Cx) (a : Addr) (pn : List (Addr × Obj)) (xe : Value → Shared → Prop) : Cx := { X with A := X.A.mark (some (.ref a)), calm := false, pn := pn, xe := xe }
section
variable {X : Cx} {pins : List (Addr × Obj)} {σ : St} {H : Hp} {s : Shared}
theorem suite2 (I : Inv X pins σ H s) {a T : Addr} {oe oT : Obj} {vs : Array Value} (xe : Value → Shared → Prop) (ha : s.heap.get? a = some oe) (hd : oe.data = .fields vs) (na : H a = none) (nL : a ≠ X.env.locals) (nF : a ∉ X.fs)
    (hT : s.heap.get? T = some oT) (dT : ∀ v, oT.data ≠ .cell v) (nT : H T = none) (tL : T ≠ X.env.locals) (tF : T ∉ X.fs) : Inv (suiteE X a ((a, oe) :: (T, oT) :: (X.pn ++ pins)) xe) [] σ H s :=
  Inv.unwish (X := suiteE X a ((a, oe) :: (T, oT) :: (X.pn ++ pins)) xe) (E := fun _ _ => False) ⟨I.ok.suite _ _, I.os, I.bare, I.base, I.loc, I.cell, I.free, I.freeC, fun p hp => by
    have hp' : p ∈ (a, oe) :: (T, oT) :: (X.pn ++ pins) := by rw [List.append_nil] at hp; exact hp
    rcases List.mem_cons.mp hp' with e | h
    · rw [e]; exact ⟨ha, na, nL, nF, fun v z => by have z' : oe.data = .cell v := z; rw [hd] at z'; cases z'⟩
    · rcases List.mem_cons.mp h with e | h
      · rw [e]; exact ⟨hT, nT, tL, tF, dT⟩
      · exact I.pin p h, I.hok, I.len⟩
theorem unsuite2 {a : Addr} {q q' : Addr × Obj} {pn' : List (Addr × Obj)} {xe : Value → Shared → Prop} (I : Inv (suiteE X a (q :: q' :: (X.pn ++ pins)) xe) pn' σ H s) (ok : X.Ok) : Inv X pins σ H s :=
  ⟨ok, I.os, I.bare, I.base, I.loc, I.cell, I.free, I.freeC, fun p hp => I.pin p (List.mem_append_left _ (List.mem_cons_of_mem _ (List.mem_cons_of_mem _ hp))), I.hok, I.len⟩
/-- the name is gone: the same on another heap -/
theorem Inv.gone {i : Nat} {n : Str} {m : Str → Option Value} {v : Option Value} {h' : Heap} (I : Inv X pins σ H s) (hN : X.N.Nodup) (hi : X.N[i]? = some n) (hl : X.env.kindOf n = some .local)
    (hlk : ∀ (i : Nat) (x : Str) (v : V), X.N[i]? = some x → σ[i]? = some (some v) → Vis X.env.scope x → ∃ u, RelV v u ∧ Look X.env s.heap m x u)
    (hn' : h'.Ns X.env.locals (fun x => if x = n then v else m x)) (hs : ∀ b, b ≠ X.env.locals → h'.get? b = s.heap.get? b) (hz : Heap.SameBut X.env.locals s.heap h') (t : Nat) : Inv X pins (σ.set i none) H { s with heap := h', toks := t } := by
  obtain ⟨oL, _, _, hoL, _⟩ := id hn'
  have neL : ∀ b o, X.s_0.heap.get? b = some o → b ≠ X.env.locals := fun b o e => Nat.ne_of_lt (Nat.lt_of_lt_of_le (Heap.lt_size e) I.ok.above)
  refine ⟨I.ok, I.os, I.bare, ⟨fun b o e n hb hx => ?_, fun b o e n hb hx => ?_, I.base.free, fun b o e hx => ?_, I.base.tups, I.base.frzs, I.base.tbls⟩, ⟨_, hn', fun j y v' e1 e2 e3 => ?_⟩, fun y c e => ?_, I.free, I.freeC, fun p hp => ?_, fun b ob e => ?_, by simpa using I.len⟩
  · exact (hs b (neL b o e)).trans (I.base.keep b o e n hb hx)
  · obtain ⟨sl, e1⟩ := I.base.slot b o e n hb hx
    exact ⟨sl, (hs b (neL b o e)).trans e1⟩
  · obtain ⟨o', e1⟩ := I.base.there b o e hx
    exact ⟨o', (hs b (neL b o e)).trans e1⟩
  · by_cases hj : j = i
    · subst hj
      by_cases hlt : j < σ.length
      · rw [List.getElem?_set_self hlt] at e2; cases e2
      · rw [List.getElem?_eq_none (by simpa using hlt)] at e2; cases e2
    · rw [List.getElem?_set_ne (Ne.symm hj)] at e2
      obtain ⟨u', r', q⟩ := hlk j y v' e1 e2 e3
      refine ⟨u', r', ?_⟩
      rcases q with ⟨k, e⟩ | ⟨k, c, e, z⟩
      · have ny : y ≠ n := fun e => hj (nodup_ix hN e1 (e ▸ hi))
        exact .inl ⟨k, (if_neg ny).trans e⟩
      · exact .inr ⟨k, c, e, z.sameBut hz (I.cne y c e)⟩
  · obtain ⟨w', z⟩ := I.cell y c e
    exact ⟨w', z.sameBut hz (I.cne y c e)⟩
  · obtain ⟨e, n, ne, nf, d⟩ := I.pin p hp
    exact ⟨(hs p.1 ne).trans e, n, ne, nf, d⟩
  · refine (I.hok b ob e).stay (fun c w' hc q => (hs c ?_).trans q) (fun _ q => q) fun _ _ q => q
    intro z
    subst z
    rcases hc with hc | hc
    · rw [← hc, I.free] at e; cases e
    · rw [I.free] at hc; cases hc
theorem ns_slots {h h' : Heap} {a : Addr} {m : Str → Option Value} (hn : h.Ns a m) (k : h.UpToSlots h') : h'.Ns a m := by
  obtain ⟨o, es, ep, ho, hd, r⟩ := hn
  obtain ⟨sl, e⟩ := k a o ho fun vs z => by rw [hd] at z; cases z
  exact ⟨_, es, ep, e, hd, r⟩
/-- noted by the frame, wherever it is -/
theorem Sky.note {M : Model} {A : Around} {E₁ : Value → Shared → Prop} {B : Heap} {env : Env} {outer : List Env} {L a : Addr} {cls : Value} {d : Option Addr} {Q : Unit → Shared → Prop} (hfr : A.frames = some (env :: outer)) (hf : env.frame = some L)
    (x : Sky B (env :: outer) a (Zc cls d) L s.heap) (fin : ∀ h', HandSPX.HeldZ B (env :: outer) a (Zc cls d) L h' → s.heap.UpToSlots h' → Q () { s with heap := h' }) :
    wpAny M A (noteFrame (.ref a) env) Q E₁ s := by
  rcases x with ⟨hB, hn, hl, oe, vs, he, hz, hd, h1⟩ | fl | hh
  · exact HandSPX.look_newZ Zc.steady hfr hl hf he hB hn hd h1 hz fin
  · exact HandSPX.looks_onZ Zc.steady hfr hf fl fin
  · exact HandSPX.againZ hf hh.2.2.2 (fin s.heap hh (Heap.UpToSlots.refl _))
end
end BkX
namespace BkX
open PySem PySem.Spec PyProof.Rows L2 HotX L2H
section
variable {X : Cx} {pins : List (Addr × Obj)} {Wout : WX} {i : Nat} {n : Str} {pos' : Pos}
theorem air_as (tk : L2.Takes X Wout) (hW : ∀ cls d σ σ' H, Wout cls d σ H → Wout cls d σ' H) (hs : X.stack = X.env :: X.outer) (hf : X.env.frame = some X.env.locals) (hN : X.N.Nodup) (hi : X.N[i]? = some n) (hln : X.env.kindOf n = some .local) (ok : X.Ok)
    {a : Addr} {q q' : Addr × Obj} {xe : Value → Shared → Prop} {u : Value} {s2 : Shared} {E2 E3 RR : Value → Shared → Prop} (x : L2.XE (suiteE X a (q :: q' :: (X.pn ++ pins)) xe) Wout u s2)
    (hR : ∀ u s', X.xe u s' → notedBy (model X.prog X.w) (X.A.mark (some (.ref a))) X.env RR u s') :
    wpAny (model X.prog X.w) (X.A.mark (some (.ref a))) (noteFrame u X.env) (fun _ s3 => wpAny (model X.prog X.w) (X.A.mark (some (.ref a))) (do bindName X.env n .none; unbindBehindTheSuite X.env n pos')
      (fun _ s4 => wpAny (model X.prog X.w) (X.A.mark (some (.ref a))) (passOn "try.except-as" u X.env : Sem Flow) (fun _ _ => False) (notedBy (model X.prog X.w) (X.A.mark (some (.ref a))) X.env RR) s4) E2 s3) E3 s2 := by
  obtain ⟨a2, B, sI, pn2, σ, H, cls, d, rfl, I, nb, up, sky, na, os, ag, w⟩ := x
  have hfr : (X.A.mark (some (.ref a))).frames = some (X.env :: X.outer) := by
    show X.A.frames = _
    rw [ok.frames, hs]
  have sky' : Sky B (X.env :: X.outer) a2 (Zc cls d) X.env.locals s2.heap := by rw [← hs]; exact sky
  have hcls : (X.env.scope.kind == .class || (X.env.scope.kind == .module && X.env.locals != X.env.globals)) = false := by rw [ok.kind]; rfl
  refine Sky.note hfr hf sky' fun h1 held up1 => ?_
  obtain ⟨m, hn, hlk⟩ := id I.loc
  have up01 := up.trans up1
  have hn1 : h1.Ns X.env.locals m := ns_slots hn up01
  refine wpAny_nameGoes_keeps (s := { s2 with heap := h1 }) hln hn1 hcls fun h' v hn' sb => ?_
  -- the frames aren't in the ground
  obtain ⟨k1, k2, k3, oe, vs, T, oT, ts, he, hz, hd, e1, hnT, hTe, hT, hdT, h3⟩ := id held
  have lL : X.env.locals ∈ (X.env :: X.outer).filterMap (·.frame) := List.mem_filterMap.mpr ⟨X.env, List.mem_cons_self, hf⟩
  obtain ⟨bL, oL, hoL, nfL⟩ := k3.mem lL
  have neL : a2 ≠ X.env.locals := fun z => by
    rw [← z, he] at hoL
    cases hoL
    exact nfL _ hd
  have neT : T ≠ X.env.locals := fun z => by
    rw [← z, hT] at hoL
    cases hoL
    exact nfL _ hdT
  -- the state without the exception, the name gone
  obtain ⟨oN, es, ep, hoN, hdN, hrN⟩ := id hn'
  obtain ⟨oI, _, _, hoI, hdI, _⟩ := id hn
  have gL : (sI.heap.update X.env.locals fun _ => oN).get? X.env.locals = some oN := Heap.get?_update_self (fun _ => oN) hoI (Obj.isFreed_of_dict hdN)
  have gO : ∀ b, b ≠ X.env.locals → (sI.heap.update X.env.locals fun _ => oN).get? b = sI.heap.get? b := fun b hb => Heap.get?_update_other _ _ (Ne.symm hb)
  have I3 := Inv.gone I hN hi hln hlk (h' := sI.heap.update X.env.locals fun _ => oN) (v := v) ⟨oN, es, ep, gL, hdN, hrN⟩ gO (Heap.SameBut.update ..) sI.toks
  have I4 := unsuite2 (X := X) I3 ok
  have st' : B.StaysIn h' := fun b o e => (sb.2 b fun z => by rw [z, bL] at e; cases e).trans (k1 b o e)
  have ff' : h'.FunFrames B (X.env :: X.outer) := by
    have J : Inv (suiteE X a (q :: q' :: (X.pn ++ pins)) xe) pn2 σ H { s2 with heap := h1 } := Inv.landed I nb k1 up01 os ag
    have J' := Inv.gone J hN hi hln (m := m) (h' := h') (v := v) (fun j y v' z1 z2 z3 => by
      obtain ⟨m', hm', hlk'⟩ := id J.loc
      obtain ⟨u', r', l'⟩ := hlk' j y v' z1 z2 z3
      refine ⟨u', r', ?_⟩
      have em : m' y = m y := by
        obtain ⟨o1, es1, ep1, g1, d1, _, f1⟩ := hm'
        obtain ⟨o2, es2, ep2, g2, d2, _, f2⟩ := hn1
        have g1' : h1.get? X.env.locals = some o1 := g1
        rw [g2] at g1'
        cases g1'
        rw [d2] at d1
        cases d1
        rw [← f1 y, ← f2 y]
      rcases l' with ⟨k, e⟩ | z
      · exact .inl ⟨k, em ▸ e⟩
      · exact .inr z) hn' sb.2 sb s2.toks
    have S := J'.stack
    rw [show (suiteE X a (q :: q' :: (X.pn ++ pins)) xe).stack = X.env :: X.outer from hs] at S
    exact funFrames_none S fun L hL => (k3.mem hL).1
  have held' : HandSPX.HeldZ B (X.env :: X.outer) a2 (Zc cls d) X.env.locals h' := ⟨st', k2, ff', oe, vs, T, oT, ts, (sb.2 _ neL).trans he, hz, hd, e1, hnT, hTe, (sb.2 _ neT).trans hT, hdT, h3⟩
  unfold PySem.passOn
  refine wpAny_bind (wpAny_field ((sb.2 _ neL).trans he) hd e1 ?_)
  rw [if_neg (show ¬ ((Value.ref T == Value.none) = true) from by simp)]
  have fin : wpAny (model X.prog X.w) (X.A.mark (some (.ref a))) (setFlight (.ref a2) X.env.frame) (fun _ s5 => wpAny (model X.prog X.w) (X.A.mark (some (.ref a))) (throw (.ref a2) : Sem Flow) (fun _ _ => False) (notedBy (model X.prog X.w) (X.A.mark (some (.ref a))) X.env RR) s5) (notedBy (model X.prog X.w) (X.A.mark (some (.ref a))) X.env RR) { s2 with heap := h', toks := s2.toks + 1 } := by
    rw [hf]
    refine HandSPX.setFlight_onZ (s := { s2 with heap := h', toks := s2.toks + 1 }) held' fun h5 held5 up5 => wpAny_throw (hR _ _ (tk _ _ ?_))
    refine ⟨a2, B, { sI with heap := sI.heap.update X.env.locals fun _ => oN }, pins, σ.set i none, H, cls, d, rfl, I4, fun b o e hb => ?_, fun b o e hnf => ?_, .inr (.inr (by rw [hs]; exact held5)), na, os, ag, hW _ _ _ _ _ w⟩
    · have n : b ≠ X.env.locals := fun z => hb (by rw [z, hs]; exact lL)
      exact nb b o ((gO b n).symm.trans e) hb
    · by_cases n : b = X.env.locals
      · rw [n] at e ⊢
        have e' : oN = o := Option.some.inj (gL.symm.trans e)
        subst e'
        exact up5 _ _ hoN hnf
      · obtain ⟨sl, z⟩ := up01 b o ((gO b n).symm.trans e) hnf
        obtain ⟨sl', z'⟩ := up5 b _ ((sb.2 b n).trans z) hnf
        exact ⟨sl', z'⟩
  first
    | exact wpAny_bind (wpAny_pure (wpAny_bind fin))
    | exact wpAny_bind fin
end
/-- what the suite wants of the exception that it names -/
def wAsX (K : PySem.W.Frag) (c : Value) (i : Nat) (ts : Addr → Value → Option Addr → TS) (D : Ends) : WX := fun cls d σ H =>
  PySem.W.exmOne K cls c = some true ∧ ∀ a, H a = none → ts a cls d { nx := fun σ' H' => D.nx (σ'.set i none) H', rt := D.rt, bk := fun σ' H' => D.bk (σ'.set i none) H', ct := fun σ' H' => D.ct (σ'.set i none) H' } (σ.set i (some (.ref a))) H
section
variable {X : Cx} {x n : Str} {c : Value} {i : Nat} {body suite : List Stmt} {b₀ : Stmt} {np pos pos' : Pos} {tb : WX → TS} {ts : Addr → Value → Option Addr → TS} {Wout : WX}
theorem ps_try_asX (hs : X.stack = X.env :: X.outer) (hf : X.env.frame = some X.env.locals) (hN : X.N.Nodup) (hi : X.N[i]? = some n) (hln : X.env.kindOf n = some .local) (hc : Names X x c) (hpa : ∀ hd : Option Value, PassesOwnAt (model X.prog X.w) (X.A.mark hd) X.A X.env X.xe) (tk : L2.Takes X Wout)
    (hW : ∀ cls d σ σ' H, Wout cls d σ H → Wout cls d σ' H)
    (hb : ∀ (W : WX) (pn : List (Addr × Obj)) (xe : Value → Shared → Prop), Takes (X.tr pn xe) W → PassesOwn (model X.prog X.w) X.A X.env xe → PSs (X.tr pn xe) body (tb W))
    (hsu : ∀ (a T : Addr) (oe oT : Obj) (cls : Value) (d : Option Addr) (pn : List (Addr × Obj)) (xe : Value → Shared → Prop) (m : Str) (tk : Tok) (vs : Array Value) (nT : Nat), L2N.Zn cls d oe → oe.data = .fields vs → vs[0]? = some (.ref T) → oT.cls = .type "tuple" → oT.data = .seq [Value.str m tk].toArray nT →
      L2.Takes (suiteE X a ((a, oe) :: (T, oT) :: pn) xe) Wout → HotC (suiteE X a ((a, oe) :: (T, oT) :: pn) xe) → PSs (suiteE X a ((a, oe) :: (T, oT) :: pn) xe) (b₀ :: suite) (ts a cls d)) :
    PS X (.Try body [.ExceptHandler (some (.Name x np)) (some n) (b₀ :: suite) pos'] [] [] pos) (fun D σ H => tb (wAsX X.K c i ts D) D σ H) := by
  refine ⟨fun pins s σ H D I h => ?_⟩
  have ok := I.ok
  have hfr : X.A.frames = some (X.env :: X.outer) := by rw [ok.frames, hs]
  have hloc : Loc X.env.scope n := .inl hln
  have notFr : ∀ {B h : Heap} {a : Addr} {o : Obj} {vs : Array Value}, h.FunFrames B (X.env :: X.outer) → h.get? a = some o → o.data = .fields vs → a ∉ frs (X.env :: X.outer) := fun {B h a o vs} ff e dd hm => by
    obtain ⟨_, o', e', hnf⟩ := ff.mem hm
    rw [e] at e'; cases e'
    exact hnf _ dd
  refine wpAny_Try_except ?_
  refine wpAny_mono ((hb (wAsX X.K c i ts D) (X.pn ++ pins) (fun e s₁ => wpAny (model X.prog X.w) X.A (noteFrame e X.env) (fun _ s₂ => wpAny (model X.prog X.w) X.A (setFlight e none) (fun _ s₃ =>
    wpAny (model X.prog X.w) X.A (handleBy e X.env [.ExceptHandler (some (.Name x np)) (some n) (b₀ :: suite) pos']) (SP X pins D) X.xe s₃) X.xe s₂) X.xe s₁) (fun u s' xx => ?_) PassesOwn.looking).run [] s σ H D (I.toTry _) h) (fun f s1 hsp => ?_) (fun e s1 he => he)
  · obtain ⟨a, T, B, sI, pins', σ', H', cls, d, rfl, J', nb, up, sky, na, nT, os, ag, hb1, hyes⟩ := xx
    have J : Inv X pins σ' H' sI := J'.ofTry ok
    have sky' : Sky B (X.env :: X.outer) a (Zs B T cls d) X.env.locals s'.heap := by rw [← hs]; exact sky
    show wpAny (model X.prog X.w) X.A (noteFrame (.ref a) X.env) _ _ _
    refine L2N.Sky.land Zs.steady hfr hf sky' fun h3 fl3 up3 => ?_
    have J3 : Inv X pins σ' H' { s' with heap := h3 } := J.landed nb fl3.1 (up.trans up3) os ag
    obtain ⟨oe3, vs3, he3, hz3, hd3⟩ := fl3.there
    have nfr : a ∉ frs (X.env :: X.outer) := notFr fl3.2.2.1 he3 hd3
    have nL : a ≠ X.env.locals := fun z => nfr (List.mem_filterMap.mpr ⟨X.env, List.mem_cons_self, by rw [hf, z]⟩)
    have nF : a ∉ X.fs := fun hm => by
      obtain ⟨e, he, q⟩ := List.mem_filterMap.mp hm
      exact nfr (List.mem_filterMap.mpr ⟨e, List.mem_cons_of_mem _ he, q⟩)
    have S3 := J3.suite he3 hd3 na nL nF
    refine wpAny_handleBy_cons (codeAny_handlers_test ?_) (by intro q; cases q)
    have LT : PySem.W.Looks (model X.prog X.w) h3 (typeOf (.ref a)) cls := fun A Q E s k q => wpAny_typeOf_ref (k _ _ he3) (by rw [hz3.1.1]; exact q)
    have LM := PySem.W.exm_one (M := model X.prog X.w) (J3.kIn) LT hb1
    have test : ∀ {Q : Value → Shared → Prop} {E : Value → Shared → Prop}, Q c { s' with heap := h3 } → wpAny (model X.prog X.w) (X.A.mark (some (.ref a))) (eval (.Name x np) X.env) Q E { s' with heap := h3 } := fun {Q E} q => by
      obtain ⟨hg, hdbg, hm | ⟨hm, hv, hnn⟩⟩ := hc
      · exact ld_glob (X := X.suite a ((a, oe3) :: (X.pn ++ pins))) S3 hg hm q hdbg
      · exact ld_blt (X := X.suite a ((a, oe3) :: (X.pn ++ pins))) S3 hg hm hv q hnn hdbg
    refine test (LM.here ?_)
    refine codeAny_handlers_suite_as ?_
    refine HandSPX.lands_againZ fl3 fun h4 fl4 up4 => ?_
    have J4 : Inv X pins σ' H' { s' with heap := h4 } := J.landed nb fl4.1 ((up.trans up3).trans up4) os ag
    obtain ⟨oe4, vs4, he4, hz4, hd4⟩ := fl4.there
    obtain ⟨h04, m, tk1, oT, nq, gT, cT, dT⟩ := hz4.2 vs4 hd4
    have T4 : h4.get? T = some oT := fl4.1 _ _ gT
    have tfr : T ∉ frs (X.env :: X.outer) := fun hm => by
      have z := (fl4.2.2.1.mem hm).1
      rw [gT] at z
      cases z
    have tL : T ≠ X.env.locals := fun z => tfr (List.mem_filterMap.mpr ⟨X.env, List.mem_cons_self, by rw [hf, z]⟩)
    have tF : T ∉ X.fs := fun hm => by
      obtain ⟨e, he, q⟩ := List.mem_filterMap.mp hm
      exact tfr (List.mem_filterMap.mpr ⟨e, List.mem_cons_of_mem _ he, q⟩)
    have S4 := fun xe => suite2 J4 xe he4 hd4 na nL nF T4 (fun v z => by rw [dT] at z; cases z) nT tL tF
    refine store_ok (X := X.suite a ((a, oe4) :: (T, oT) :: (X.pn ++ pins))) (v := .ref a) (S4 fun _ _ => False) hN hi hloc rfl (fun s5 S5 => ?_) (.inr hln)
    have hot : ∀ xe, HotC (suiteE X a ((a, oe4) :: (T, oT) :: (X.pn ++ pins)) xe) := fun xe => ⟨(a, oe4), ⟨rfl, vs4, hd4, hz4.1.2.2 vs4 hd4⟩, List.mem_cons_self⟩
    have S5' : ∀ xe, Inv (suiteE X a ((a, oe4) :: (T, oT) :: (X.pn ++ pins)) xe) [] (σ'.set i (some (.ref a))) H' s5 := fun xe => Inv.unwish (X := suiteE X a ((a, oe4) :: (T, oT) :: (X.pn ++ pins)) xe) (E := fun _ _ => False) S5
    have end_ : ∀ {xe : Value → Shared → Prop} {s6 : Shared} {σ6 : St} {H6 : Hp} {Q : Shared → Prop}, Inv (suiteE X a ((a, oe4) :: (T, oT) :: (X.pn ++ pins)) xe) [] σ6 H6 s6 → (∀ s7, Inv X pins (σ6.set i none) H6 s7 → Q s7) →
        wpAny (model X.prog X.w) X.A (do bindName X.env n .none; unbindBehindTheSuite X.env n pos') (fun _ s7 => Q s7) X.xe s6 := fun {xe s6 σ6 H6 Q} S6 hq => gone_ok (unsuite2 S6 ok) hN hi hln hq
    have go : ∀ (xe : Value → Shared → Prop), L2.Takes (suiteE X a ((a, oe4) :: (T, oT) :: (X.pn ++ pins)) xe) Wout → ∀ {Q : Flow → Shared → Prop}, (∀ f s6, SP (suiteE X a ((a, oe4) :: (T, oT) :: (X.pn ++ pins)) xe) [] _ f s6 → Q f s6) → wpAny (model X.prog X.w) (X.A.mark (some (.ref a))) (execs (b₀ :: suite) X.env) Q xe s5 := fun xe tkx Q hq =>
      wpAny_mono ((hsu a T oe4 oT cls d (X.pn ++ pins) xe m tk1 vs4 nq hz4.1 hd4 h04 cT dT tkx (hot xe)).run [] s5 _ H' _ (S5' xe) (hyes a na)) hq (fun _ _ z => z)
    refine go _ (fun u2 s2 x2 => ?_) (fun f s6 hsp => ?_)
    · exact air_as tk hW hs hf hN hi hln ok x2 fun u s' z => hpa _ u s' z
    · cases f with
      | next =>
        obtain ⟨σ6, H6, S6, q6⟩ := hsp
        exact end_ S6 fun s7 J7 => ⟨_, _, J7, q6⟩
      | brk =>
        obtain ⟨σ6, H6, S6, q6⟩ := hsp
        exact end_ S6 fun s7 J7 => ⟨_, _, J7, q6⟩
      | cont =>
        obtain ⟨σ6, H6, S6, q6⟩ := hsp
        exact end_ S6 fun s7 J7 => ⟨_, _, J7, q6⟩
      | ret u =>
        obtain ⟨v6, σ6, H6, S6, r6, q6⟩ := hsp
        exact end_ S6 fun s7 J7 => ⟨_, _, _, J7, r6, q6⟩
  · cases f with
    | next =>
      obtain ⟨σ', H', J', q⟩ := hsp
      exact wpAny_execs_nil ⟨σ', H', J'.ofTry ok, q⟩
    | brk =>
      obtain ⟨σ', H', J', q⟩ := hsp
      exact ⟨σ', H', J'.ofTry ok, q⟩
    | cont =>
      obtain ⟨σ', H', J', q⟩ := hsp
      exact ⟨σ', H', J'.ofTry ok, q⟩
    | ret u =>
      obtain ⟨v, σ', H', J', r, q⟩ := hsp
      exact ⟨v, σ', H', J'.ofTry ok, r, q⟩
end
end BkX
namespace BkX
open PySem PySem.Spec PyProof.Rows L2 HotX L2H
section
variable {X : Cx} {C : Addr} {bmB : List Value} {B newId initId : String}
/-- X(e) in a suite, to be raised from None -/
theorem pmk5_ownA {x : Str} {p pos : Pos} {e : Expr} {t : TA} (F : ExcBaseFacts B newId initId bmB) (q : PySem.W.excIn X.K C bmB newId = true) (gC : X.mg x = some (.ref C))
    (kC : PySem.W.keepIn X.K (.ref C) = true) (r : Raises X (.ref C)) (hg : Gl X x) (ha : PA X [e] t) (hdb : (x == ("__debug__" : Str)) = false := by decide)
    (he : starEach [e] X.env = (false, eval e X.env) :: starEach [] X.env := by rfl) :
    L2H.PMk5 X (.Call (.Name x p) [e] [] pos) (fun σ H Q => t σ H fun vs H1 => (∃ m : Str, vs = [.str m]) ∧ Q (.ref C) none H1) := by
  intro pins s σ H Q I h
  refine wpAny_Call_Name_kw (ld_glob I hg gC ?_ hdb)
  refine PySem.W.callWith_K (h₀ := X.base) I.ok.mod.kin kC (thn (ha.run pos pins s σ H _ I h) fun us s1 ⟨vs, H1, I1, r1, hz, q1⟩ => ⟨I1.kIn, ?_⟩) he (by rfl)
  obtain ⟨m, rfl⟩ := hz
  obtain ⟨u, rfl, t, rfl⟩ := vals1 r1
  show wpAny _ _ (call (.ref C) [_]) _ _ _
  obtain ⟨bm, N, nm, qn, bs, hdct, sn, sub, ab, col, dd, k0, k1, k2, k3, k5, mN, hC, hN, hni, T⟩ := exc_obj I1.kIn q
  refine wpAny_call_exc_subT F T hC hN hni (fun h' e hm => ?_) (by show 1 ≤ sizeLine; rw [sizeLine_eq]; omega)
  exact L2H.mk_of5 I1 hm r q1 (I1.hok.gone hm.new)
/-- str(error) -/
theorem call_strE {a T : Addr} {oe oT : Obj} {cls : Value} {d : Option Addr} {pn : List (Addr × Obj)} {xe : Value → Shared → Prop} {m : Str} {tk : Tok} {vs : Array Value} {nT : Nat} (hu : X.A.units + 64 < cLine) (hz : L2N.Zn cls d oe) (hd : oe.data = .fields vs) (h0 : vs[0]? = some (.ref T)) (cT : oT.cls = .type "tuple") (dT : oT.data = .seq [Value.str m tk].toArray nT)
    (hs : PySem.W.findIn X.K (.ref C) "__str__" = some (some (.builtin "BaseException.__str__"))) (hB : PySem.W.subIn X.K (.ref C) (.type "BaseException") = some true) :
    CallR (suiteE X a ((a, oe) :: (T, oT) :: pn) xe) (.type "str") (fun xs H Q => xs = [.ref a] ∧ cls = .ref C ∧ ∀ m : Str, Q (.str m) H) := by
  intro pins s σ H xs us Q I r h
  obtain ⟨rfl, rfl, q⟩ := h
  obtain rfl := Vals.ref1 r
  obtain ⟨ga, _⟩ := I.pin (a, oe) (List.mem_append_left _ List.mem_cons_self)
  obtain ⟨gT, _⟩ := I.pin (T, oT) (List.mem_append_left _ (List.mem_cons_of_mem _ List.mem_cons_self))
  have ga' : s.heap.get? a = some oe := ga
  have gT' : s.heap.get? T = some oT := gT
  have hu2 : (suiteE X a ((a, oe) :: (T, oT) :: pn) xe).A.units + 2 < cLine := by
    show X.A.units + 2 < cLine
    omega
  exact PySem.P.str_of_C_one hu2 (K := X.K) (C := C) (e := a) (t0 := T) ⟨I.kIn, oe, vs, ga', hz.1, hd, h0⟩ ⟨oT, nT, gT', cT, dT⟩ hs hB ⟨.str m, H, I, ⟨tk, rfl⟩, q m⟩
end
end BkX
namespace L2
open PySem PySem.Spec PyProof.Rows
section
variable {P : Program} {w : World} {K : PySem.W.Frag} {mg : Str → Option Value} {base : Heap}
/-- as Fun.okX, for a def that raises texts -/
theorem Fun.okS {x qual : Str} {st : Stmt} {f : Addr} {fd : FuncData} {N ps : List Str} {k : Nat} {sp : Sp} (F : Fun K x qual st f fd) (S : FnScope N ps (defScope st)) (len : ∀ vs H Q E, sp vs H Q E → vs.length = ps.length)
    (hbody : ∀ (cdv : Value) (A : Around) (outer : List Env) (s : Shared) (H : Hp) (vs : List V) (Q : VK) (E : XK), Room k (A.deeper (envOfC qual (defScope st) s.heap.objs.size f cdv)) → sp vs H Q E →
      ∃ t, PSs (cxOf (BkX.CX P w) P w K mg base N qual (defScope st) f cdv A outer s H E) (defBody st) t ∧ t { nx := fun _ H' => Q .non H', rt := Q } (start N vs) H) : FnOk P w K mg base (BkX.CX P w) (k + 1) f fd ps sp := by
  obtain ⟨oc, od, kV, doc, pm, an, cdv, ct, osl, rfl, lk, hcd⟩ := F.ex
  exact fn_of lk hcd S len fun A outer s H vs Q E hr hsp => hbody cdv A outer s H vs Q E hr hsp
end
end L2

set_option Elab.async false
set_option linter.all false
set_option maxRecDepth 100000
set_option maxHeartbeats 4000000
namespace Bk
open PySem PySem.Spec PyProof.Rows L2
/-! ### slices with a step of two -/
def evens {α : Type _} : List α → List α
  | [] => []
  | [x] => [x]
  | x :: _ :: l => x :: evens l
theorem evens_pick {α : Type _} (xs : Array α) : ∀ (l : List α) (i : Nat), xs.toList.drop i = l → ((List.range ((l.length + 1) / 2)).map fun k => i + 2 * k).filterMap (xs[·]?) = evens l
  | [], i, _ => by simp [evens]
  | [x], i, h => by
    have e : xs[i]? = some x := by
      have := congrArg (·[0]?) h
      simpa [List.getElem?_drop] using this
    simp [evens, List.range_succ_eq_map, e]
  | x :: y :: l, i, h => by
    have e : xs[i]? = some x := by
      have := congrArg (·[0]?) h
      simpa [List.getElem?_drop] using this
    have d : xs.toList.drop (i + 2) = l := by
      rw [← List.drop_drop, h]
      rfl
    have ih := evens_pick xs l (i + 2) d
    rw [show ((x :: y :: l).length + 1) / 2 = (l.length + 1) / 2 + 1 by simp only [List.length_cons]; omega, List.range_succ_eq_map, List.map_cons, List.map_map, List.filterMap_cons]
    rw [show i + 2 * 0 = i by omega, e]
    show x :: _ = x :: evens l
    rw [← ih]
    congr 2
    apply List.map_congr_left
    intro k _
    show i + 2 * (k + 1) = i + 2 + 2 * k
    omega
theorem slicePick_evens (its : List Value) (lo : Option Int) : slicePick its.toArray lo none (some 2) = (evens (its.drop (HT.sIx its.length 0 lo))).toArray := by
  have hb : (sliceBounds lo none (some 2) its.toArray.size) = (((HT.sIx its.length 0 lo : Nat) : Int), (its.length : Int), 2) := by
    have h2 : (2 : Int) > 0 := by decide
    cases lo with
    | none => simp [sliceBounds, HT.sIx]
    | some i =>
      simp only [sliceBounds, HT.sIx, Option.getD_some, h2, if_true, List.size_toArray]
      refine Prod.ext ?_ rfl
      by_cases h : i < 0
      · simp only [h, if_true] <;> omega
      · simp only [h, if_false] <;> omega
  have le := HT.sIx_le its.length 0 (Nat.zero_le _) lo
  unfold slicePick
  rw [hb]
  generalize HT.sIx its.length 0 lo = i at le
  have hr : sliceRange (i : Int) (its.length : Int) 2 = (List.range (((its.drop i).length + 1) / 2)).map fun k => i + 2 * k := by
    unfold sliceRange
    rw [List.length_drop]
    have h2 : (2 : Int) > 0 := by decide
    simp only [h2, if_true]
    have e : (if (i : Int) < (its.length : Int) then ((its.length : Int) - i + 2 - 1) / 2 else 0).toNat = (its.length - i + 1) / 2 := by
      split <;> omega
    rw [e]
    apply List.map_congr_left
    intro k _
    omega
  show ((sliceRange (i : Int) (its.length : Int) 2).filterMap (its.toArray[·]?)).toArray = _
  rw [hr, evens_pick its.toArray (its.drop i) i (by simp)]
theorem evens_len {α : Type _} : ∀ l : List α, (evens l).length ≤ l.length
  | [] => Nat.le_refl _
  | [_] => Nat.le_refl _
  | _ :: _ :: l => by
    have := evens_len l
    show (evens l).length + 1 ≤ l.length + 1 + 1
    omega
theorem evens_vals : ∀ {xs : List V} {us : List Value}, Vals xs us → Vals (evens xs) (evens us)
  | _, _, .nil => .nil
  | _, _, .cons r .nil => .cons r .nil
  | _, _, .cons r (.cons _ t) => .cons r (evens_vals t)
def rSl2 (K : PySem.W.Frag) : V → Option Int → Option Int → Hp → VK → Prop := fun x lo hi H Q => ∃ a xs, x = .ref a ∧ SqL K H a xs ∧ ∀ p, H p = none → Q (.ref p) (upd H p (.lst (evens (xs.drop (HT.sIx xs.length 0 lo)))))
theorem pe_slice2 {X : Cx} {e : Expr} {te : TE} {lo : Option Expr} {tl : TO} {pos p2 p3 : Pos} {j} (he : PE X e te) (hl : PO X lo tl) : PE X (.Subscript e (.Slice lo none (some (.Constant (.int 2) j p3)) p2) pos) (tSl (rSl2 X.K) te tl tNoPart) := by
  refine ⟨fun pins s σ H Q I h => ?_⟩
  refine Subscript_ (thn (he.run pins s σ H _ I h) fun v s1 ⟨x, H1, I1, r1, q1⟩ => ?_)
  refine wpAny_Slice (thn (hl.run pins s1 σ H1 _ I1 q1) fun vl s2 ⟨l, H2, I2, pl, q2⟩ => ?_)
  rw [evalPart_none]
  refine wpAny_pure ?_
  rw [evalPart_some]
  refine wpAny_Constant_int ?_
  have I3 : Inv X pins σ H2 { s2 with toks := s2.toks + 1 } := I2.tok _
  generalize ({ s2 with toks := s2.toks + 1 } : Shared) = s3 at I3
  have I4 : Inv X pins σ H2 { s3 with heap := s3.heap.push { cls := .type "slice", data := .fields #[vl, .none, .int 2 s2.toks] } } := I3.kept (t' := s3.toks) fun b ob q => Heap.get?_push_of_some _ q
  obtain ⟨a, xs, rfl, hx, q⟩ := q2
  cases r1
  obtain ⟨its, r, ht, hz⟩ := I4.list hx
  have hlen := r.length
  refine tail_any (ops := [.ref a, .ref s3.heap.objs.size]) ht.isList.typeIs slot_list_getitem.lookup ?_ (by with_unfolding_all rfl)
  refine wpAny_getItem_list_slice ht.isList (Heap.IsSliceOf.new ..) pl .none (.int 2 s2.toks) (by simp) ?_ (by rw [List.size_toArray] <;> omega)
  rw [slicePick_evens, ← hlen]
  refine ⟨.ref _, _, I4.laid (t' := s3.toks) (o := .lst (evens (xs.drop (HT.sIx xs.length 0 l)))) (fun b ob q => Heap.get?_push_of_some _ q) (Nat.le_refl _) ?_, rfl, q _ (I4.hok.fresh (Nat.le_refl _))⟩
  refine ⟨Nat.le_trans (evens_len _) (by rw [List.length_drop]; omega), _, 0, evens_vals (r.drop _), Heap.get?_push_size _ rfl⟩
end Bk

set_option Elab.async false
set_option linter.all false
set_option maxRecDepth 100000
set_option maxHeartbeats 4000000
/-! xs[::-1], text[::-1] -/
namespace Bk
open PySem PySem.Spec PyProof.Rows L2
theorem vals_rev : ∀ {xs : List V} {us : List Value}, Vals xs us → Vals xs.reverse us.reverse
  | _, _, .nil => .nil
  | x :: xs, u :: us, .cons r t => by
    rw [List.reverse_cons, List.reverse_cons]
    exact (vals_rev t).append (.cons r .nil)
def tRevL (K : PySem.W.Frag) (te : TE) (ts : TO) : TE := fun σ H Q => te σ H fun x H1 => ts σ H1 fun l H2 => l = some (-1) ∧ ∃ a xs, x = .ref a ∧ SqL K H2 a xs ∧ ∀ p, H2 p = none → Q (.ref p) (upd H2 p (.lst xs.reverse))
theorem pe_sliceR {X : Cx} {e : Expr} {te : TE} {st : Expr} {ts : TO} {pos p2 : Pos} (he : PE X e te) (hs : PO X (some st) ts) : PE X (.Subscript e (.Slice none none (some st) p2) pos) (tRevL X.K te ts) := by
  refine ⟨fun pins s σ H Q I h => ?_⟩
  refine Subscript_ (thn (he.run pins s σ H _ I h) fun v s1 ⟨x, H1, I1, r1, q1⟩ => ?_)
  refine wpAny_Slice ?_
  rw [evalPart_none]
  refine wpAny_pure (wpAny_pure ?_)
  refine thn (hs.run pins s1 σ H1 _ I1 q1) fun vk s3 ⟨l, H2, I3, pk, q2⟩ => ?_
  obtain ⟨rfl, a, xs, rfl, hx, q⟩ := q2
  have I4 : Inv X pins σ H2 { s3 with heap := s3.heap.push { cls := .type "slice", data := .fields #[.none, .none, vk] } } := I3.kept (t' := s3.toks) fun b ob q => Heap.get?_push_of_some _ q
  cases r1
  obtain ⟨its, r, ht, hz⟩ := I4.list hx
  have hlen := r.length
  refine tail_any (ops := [.ref a, .ref s3.heap.objs.size]) ht.isList.typeIs slot_list_getitem.lookup ?_ (by with_unfolding_all rfl)
  refine wpAny_getItem_list_slice ht.isList (Heap.IsSliceOf.new ..) .none .none pk (by decide) ?_ (by rw [List.size_toArray] <;> omega)
  rw [PySem.W.krv_pick]
  have r' : Vals xs.reverse its.reverse := vals_rev r
  have hz' : xs.reverse.length ≤ sizeLine := by
    rw [List.length_reverse]
    exact hz
  refine ⟨.ref _, _, I4.laid (t' := s3.toks) (o := .lst xs.reverse) (fun b ob q => Heap.get?_push_of_some _ q) (Nat.le_refl _) ?_, rfl, q _ (I4.hok.fresh (Nat.le_refl _))⟩
  exact ⟨hz', _, 0, r', Heap.get?_push_size _ rfl⟩
def revS (z : Str) : Str := ⟨z.cps.toList.reverse.toArray⟩
theorem revS_idx (z : Str) : ((Builtin.Str.strSliceIndices none none (-1) z.length).filterMap (z.cps[·]?)).toArray = z.cps.toList.reverse.toArray := by
  have e : Builtin.Str.strSliceIndices none none (-1) z.length = sliceRange ((z.length : Int) - 1) (-1) (-1) := by
    unfold Builtin.Str.strSliceIndices
    simp
  rw [e]
  have sz : z.length = z.cps.size := rfl
  rw [sz, PySem.W.krv_sliceRange, PySem.W.krv_range, List.filterMap_reverse, PySem.W.krv_all]
def tRevS (te : TE) (ts : TO) : TE := fun σ H Q => te σ H fun x H1 => ts σ H1 fun l H2 => l = some (-1) ∧ ∃ z, x = .str z ∧ z.length ≤ sizeLine ∧ Q (.str (revS z)) H2
theorem pe_sliceRS {X : Cx} {e : Expr} {te : TE} {st : Expr} {ts : TO} {pos p2 : Pos} (he : PE X e te) (hs : PO X (some st) ts) : PE X (.Subscript e (.Slice none none (some st) p2) pos) (tRevS te ts) := by
  refine ⟨fun pins s σ H Q I h => ?_⟩
  refine Subscript_ (thn (he.run pins s σ H _ I h) fun v s1 ⟨x, H1, I1, r1, q1⟩ => ?_)
  refine wpAny_Slice ?_
  rw [evalPart_none]
  refine wpAny_pure (wpAny_pure ?_)
  refine thn (hs.run pins s1 σ H1 _ I1 q1) fun vk s3 ⟨l, H2, I3, pk, q2⟩ => ?_
  obtain ⟨rfl, z, rfl, hz, q⟩ := q2
  have I4 : Inv X pins σ H2 { s3 with heap := s3.heap.push { cls := .type "slice", data := .fields #[.none, .none, vk] } } := I3.kept (t' := s3.toks) fun b ob q => Heap.get?_push_of_some _ q
  obtain ⟨t, rfl⟩ := r1
  obtain ⟨u, rfl, hu⟩ := IsPart.raw pk
  refine tail_any (ops := [.str z t, .ref s3.heap.objs.size]) (typeIs_str _ z t) F.slot_str_getitem.lookup ?_ (by with_unfolding_all rfl)
  refine wpAny_getItem_str_slice (l := none) (u := none) (st := u) ⟨_, Heap.get?_push_size _ rfl, rfl, rfl⟩ (by rw [hu]; rfl) ?_
  unfold sliceMade
  have e1 : (u.map (·.1)).getD 1 = -1 := by rw [hu]; rfl
  simp only [Option.map_none, e1]
  have hl : (⟨((Builtin.Str.strSliceIndices none none (-1) z.length).filterMap (z.cps[·]?)).toArray⟩ : Str).length ≤ sizeLine := by
    rw [revS_idx]
    show (z.cps.toList.reverse.toArray).size ≤ _
    rw [List.size_toArray, List.length_reverse, Array.length_toList]
    exact hz
  have q' : Q (.str ⟨((Builtin.Str.strSliceIndices none none (-1) z.length).filterMap (z.cps[·]?)).toArray⟩) H2 := by
    rw [revS_idx]
    exact q
  have ep : slicePicked z none none u = Builtin.Str.strSliceIndices none none (-1) z.length := by
    unfold slicePicked
    rw [e1]
    rfl
  rw [if_neg (by simp), ep]
  exact ⟨hl, .str _, H2, I4.tok _, ⟨_, rfl⟩, q'⟩
end Bk

set_option Elab.async false
set_option linter.all false
set_option maxRecDepth 100000
set_option maxHeartbeats 4000000
/-! enumerate(tuple) -/
namespace Bk
open PySem PySem.Spec PyProof.Rows L2
open AutoSeq1 (wpAny_loadPart')
theorem meets_enumerate_newT (l : Addr) (ob : Obj) (items : Array Value) (hob : ob.cls = .type "tuple" ∧ ∃ n, ob.data = .seq items n) :
    Meets (Builtin.«enumerate.__new__» ⟨[.type "enumerate", .ref l], []⟩) (fun _ R s => s.heap.get? l = some ob ∧
      R (.ok (.ret (.ref (s.heap.push { cls := .type "tuple_iterator", data := .fields #[.ref l, .int 0 0] }).objs.size)))
        { s with heap := (s.heap.push { cls := .type "tuple_iterator", data := .fields #[.ref l, .int 0 0] }).push { cls := .type "enumerate", data := .fields #[.none, .bool false, .ref s.heap.objs.size, rawInt 0, .none, .none] } }) :=
  .of_wp fun prog w A R s h => by
    obtain ⟨hp, g, d, tk, os⟩ := s; obtain ⟨hl, h⟩ := h
    obtain ⟨c, dct, dt, sl⟩ := ob
    obtain ⟨hc, n, hd⟩ := hob
    replace hc : c = .type "tuple" := hc
    replace hd : dt = .seq items n := hd
    subst hc hd
    have hsub := sub_enumerate
    have hL : Heap.IsTuple (Shared.heap ⟨hp, g, d, tk, os⟩) l items := ⟨_, hl, rfl, n, rfl⟩
    wp_walk using wpAny_loadPart' hl
    refine wpAny_stack_any fun st => wpAny_pure ?_
    split
    · rename_i c _ _ _ _ _
      cases (c == Value.type "enumerate")
      · wp_walk using wpAny_loadPart' hl, wpAny_pyIter_tuple hL
        exact ⟨_, rfl, h⟩
      · wp_walk using wpAny_loadPart' hl, wpAny_pyIter_tuple hL
        exact ⟨_, rfl, h⟩
    · wp_walk using wpAny_loadPart' hl, wpAny_pyIter_tuple hL
      exact ⟨_, rfl, h⟩
theorem call_enumerate_tup {prog : Program} {w : World} {A : Around} {E : Value → Shared → Prop} {s : Shared} {l : Addr} {items : Array Value} {Q : Value → Shared → Prop} (hL : s.heap.IsTuple l items)
    (h : ∀ h', IsEnum h' (s.heap.objs.size + 1) s.heap.objs.size 0 .none → h'.IsTupleIter s.heap.objs.size l 0 → h'.objs.size = s.heap.objs.size + 2 →
      (∀ b o, s.heap.get? b = some o → h'.get? b = some o) → Q (.ref (s.heap.objs.size + 1)) { s with heap := h' }) :
    wpAny (model prog w) A (call (.type "enumerate") [.ref l]) Q E s := by
  obtain ⟨ob, hl, hc, n, hd⟩ := hL
  refine callType_new F.called_enumerate (by decide) (F.typeCall_enumerate_1 _) (F.newCall_enumerate_1 _) (fun obj => F.args_object_init_2 obj _) F.entry_enumerate_new
    (meets_enumerate_newT l ob items ⟨hc, n, hd⟩) ⟨hl, ?_⟩
  have hz : (s.heap.push { cls := .type "tuple_iterator", data := .fields #[.ref l, .int 0 0] }).objs.size = s.heap.objs.size + 1 := Heap.size_push ..
  show _ ∧ _
  rw [hz]
  have he : IsEnum ((s.heap.push { cls := .type "tuple_iterator", data := .fields #[.ref l, .int 0 0] }).push
      { cls := .type "enumerate", data := .fields #[.none, .bool false, .ref s.heap.objs.size, rawInt 0, .none, .none] }) (s.heap.objs.size + 1) s.heap.objs.size 0 .none := by
    have := Heap.get?_push_size (s.heap.push { cls := .type "tuple_iterator", data := .fields #[.ref l, .int 0 0] })
      (o := { cls := .type "enumerate", data := .fields #[.none, .bool false, .ref s.heap.objs.size, rawInt 0, .none, .none] }) rfl
    rw [hz] at this; exact this
  refine ⟨⟨_, he, rfl⟩, h _ he ⟨_, Heap.get?_push_of_some _ (Heap.get?_push_size _ rfl), rfl, rfl⟩ (by rw [Heap.size_push, hz]) fun b o x => Heap.get?_push_of_some _ (Heap.get?_push_of_some _ x)⟩
/-- the tuple at a, each item in a new pair -/
def IteT (K : PySem.W.Frag) (a : Addr) : It :=
  ⟨fun i H => ∃ (xs : List V) (x : V), SqT K H a xs ∧ xs[i]? = some x, fun i H v H' => ∃ T x, v = .ref T ∧ H T = none ∧ H' = upd H T (.tup [.int (i : Nat), x]) ∧ ∀ xs, SqT K H a xs → xs[i]? = some x, fun i H => ∃ xs : List V, SqT K H a xs ∧ xs.length ≤ i⟩
theorem walk_enumT {K : PySem.W.Frag} {a : Addr} {xs : List V} : Walk (IteT K a) xs.length (fun H => SqT K H a xs) (YPair (fun i => some (.int (i : Nat))) (fun i => xs[i]?)) := by
  refine ⟨fun i _ hi q => ⟨xs, xs[i], q, by simp [hi]⟩, fun _ q => ⟨xs, q, Nat.le_refl _⟩, fun i H v H' _ q y => ?_⟩
  obtain ⟨T, x, h1, h2, h3, h4⟩ := y
  exact ⟨T, .int (i : Nat), x, h1, h2, h3, rfl, h4 xs q⟩
theorem tup_of {h : Heap} {a : Addr} {its : Array Value} (x : IsTup h a its) : h.IsTuple a its := by
  obtain ⟨o, e, c, n, d⟩ := x
  exact ⟨o, e, c, n, d⟩
theorem turn_enumT {P : Program} {w : World} {K : PySem.W.Frag} {elts : List Expr} {kk : Nat} {tpos : Pos} (a e it : Addr) :
    Turn P w K (.Tuple elts kk tpos) (IteT K a) [e, it] e (fun i h => (∃ old, IsEnum h e it ((i : Nat) : Int) old) ∧ h.IsTupleIter it a i ∧ e ≠ it) where
  mem := by simp
  obj := fun i h st b hb => by
    obtain ⟨⟨old, he⟩, ⟨o, ho, hc, hd⟩, _⟩ := st
    have e' : b = e ∨ b = it := by simpa using hb
    rcases e' with z | z
    · rw [z]; exact ⟨_, he, fun v q => nomatch q⟩
    · rw [z]; exact ⟨o, ho, fun v q => by rw [hd] at q; cases q⟩
  keep := fun i h h' st k => let ⟨⟨old, he⟩, hi, hne⟩ := st; ⟨⟨old, k e (by simp) _ he⟩, hi.at fun o q => k it (by simp) o q, hne⟩
  item := by
    intro X hP hw hK hc i pins s σ H E I hf st hg
    subst hP hw hK
    obtain ⟨⟨old, he⟩, hit, hne⟩ := st
    obtain ⟨xs, x, hq, hx⟩ := hg
    obtain ⟨its, rv, p, hz⟩ := I.tuple hq
    obtain ⟨u, hu, ru⟩ := rv.get hx
    have hlt : i < its.toArray.size := by
      have := (List.getElem?_eq_some_iff.mp hu).1
      simpa using this
    have hel : e < s.heap.objs.size := Heap.lt_size he
    have hil : it < s.heap.objs.size := by obtain ⟨_, q, _⟩ := hit; exact Heap.lt_size q
    have ait : a ≠ it := fun z => by
      obtain ⟨o1, g1, c1, d1⟩ := hit
      obtain ⟨o2, g2, c2, n2, d2⟩ := p
      rw [z, g1] at g2
      cases g2
      rw [d1] at d2
      cases d2
    have aee : a ≠ e := fun z => by
      obtain ⟨o2, g2, c2, n2, d2⟩ := p
      rw [z, he] at g2
      cases g2
      cases d2
    refine wpAny_pyNext_enum_itemD (n := its.toArray.size) (Draws.tuple (A := X.A.in1) (I.ok.hd hc) it a ait its.toArray) he ⟨hit, tup_of p⟩ hlt hne (by simpa using ⟨hne, fun z => aee z.symm⟩) fun y h' tk hy ho hst hT hsz hk => ?_
    have ey : y = u := by
      rw [List.getElem?_toArray, hu] at hy
      exact (Option.some.inj hy).symm
    subst ey
    refine ⟨_, rfl, wpAny_letOwnedTupleGo_enum (s := { s with heap := h', toks := tk + 1 }) ho fun h'' he' sb => ?_⟩
    have hT2 : h''.get? s.heap.objs.size = some { cls := .type "tuple", data := .seq #[.int i tk, y] } := (sb.2 _ (Nat.ne_of_gt hel)).trans hT
    have new : ObjOk X.prog X.w (upd H s.heap.objs.size (.tup [.int (i : Nat), x])) h'' s.heap.objs.size (.tup [.int (i : Nat), x]) :=
      ⟨by show 2 ≤ sizeLine; decide, [.int i tk, y], .cons ⟨_, rfl⟩ (.cons ru .nil), ⟨_, hT2, rfl, _, rfl⟩⟩
    have I1 : Inv X pins σ (upd H s.heap.objs.size (.tup [.int (i : Nat), x])) { s with heap := h'', toks := tk + 1 } :=
      I.turnedNew (ch := [e, it]) (fun b ob hb q => (sb.2 b (fun z => hb (by simp [z]))).trans (hk b ob (fun z => hb (by simp [z])) (fun z => hb (by simp [z])) q)) hf (Nat.le_refl _) new
    refine ⟨.ref s.heap.objs.size, _, I1, rfl, ⟨_, x, rfl, I.hok.fresh (Nat.le_refl _), rfl, fun ys hy => by rw [I.tuple_inj hy hq]; exact hx⟩, ⟨⟨y, ?_⟩, hst.1.at fun o q => (sb.2 it (Ne.symm hne)).trans q, hne⟩, fun b hb => ?_⟩
    · have e1 : ((i + 1 : Nat) : Int) = (i : Int) + 1 := by omega
      rw [e1]; exact he'
    · have hb' : b < s.heap.objs.size := by
        have e' : b = e ∨ b = it := by simpa using hb
        rcases e' with z | z
        · rw [z]; exact hel
        · rw [z]; exact hil
      rw [upd_ne (Nat.ne_of_lt hb')]
      exact (hf b hb).1
  done := by
    intro X hP hw hK hc i pins s σ H E I hf st hg
    subst hP hw hK
    obtain ⟨⟨old, he⟩, hit, hne⟩ := st
    obtain ⟨xs, hq, hx⟩ := hg
    obtain ⟨its, rv, p, hz⟩ := I.tuple hq
    obtain ⟨f0, f1, f2, f3, f4, f5⟩ := hf it (by simp)
    have hl := rv.length
    have hT : s.TypeIs (.ref e) "enumerate" := ⟨_, he, rfl⟩
    unfold pyNext
    refine wpAny_bind (wpAny_attempt (wpAny_callSpecial?_slot (name := Str.ofString "__next__") hT F.slot_enumerate_next
      (wpAny_call_entry F.slot_enumerate_next hT F.entry_enumerate_next ?_ (F.args_enumerate_next_1 _))))
    show wpAny _ _ (field (.ref e) 2 >>= _) _ _ _
    refine wpAny_bind (wpAny_field he rfl (x := .ref it) rfl ?_)
    refine wpAny_bind (RZ.nextOf_tuple_end (A := X.A.in1) (I.ok.hd hc) hit (tup_of p) (by rw [List.getElem?_toArray]; exact List.getElem?_eq_none (by omega)) fun h' x he' hx' => ?_)
    obtain ⟨o, ho, hc'⟩ := hx'
    refine wpAny_bind (wpAny_isInstance (T := "StopIteration") (b := true) ⟨o, ho, hc'⟩ isSubtype_stop ?_)
    exact wpAny_pure ⟨rfl, I.turned (t' := s.toks) (fun b o hb q => he' b o hb q) f0 f1 f3 f4 f5⟩
  self := fun A i s Q E st h => let ⟨⟨_, he⟩, _⟩ := st; wpAny_pyIter_enum he h
def iEnumT (K : PySem.W.Frag) (ta : TA) : TI := fun σ H R => ta σ H fun vs H1 => ∃ a xs, vs = [.ref a] ∧ SqT K H1 a xs ∧ R (IteT K a) H1
theorem pi_enumT {X : Cx} {e : Expr} {ta : TA} {p pos tpos : Pos} {elts : List Expr} {kk : Nat} (hg : Gl X "enumerate") (hm : X.mg "enumerate" = none) (ha : PA X [e] ta) (hs : starEach [e] X.env = [(false, eval e X.env)] := by rfl) :
    PI X (.Tuple elts kk tpos) (.Call (.Name "enumerate" p) [e] [] pos) (iEnumT X.K ta) := by
  refine ⟨fun pins s σ H R I h => ?_⟩
  refine Call_ (ld_blt I hg hm boot_enumerate (PyProof.Rows.callWith_type1 (thn (ha.run pos pins s σ H _ I h) fun us s1 ⟨vs, H1, I1, r1, q1⟩ => ?_) hs rfl))
  obtain ⟨a, xs, ex, hq, q⟩ := q1
  subst ex
  cases r1 with
  | cons r rr =>
    cases rr
    cases r
    obtain ⟨its, rv, p', hz⟩ := I1.tuple hq
    refine call_enumerate_tup (tup_of p') fun h' he hit hsz hk => wpAny_pyIter_enum he ?_
    have I2 : Inv X pins σ H1 { s1 with heap := h' } := I1.kept (t' := s1.toks) hk
    refine ⟨s1.heap.objs.size + 1, [s1.heap.objs.size + 1, s1.heap.objs.size], _, _, H1, rfl, I2, turn_enumT a (s1.heap.objs.size + 1) s1.heap.objs.size, ⟨⟨.none, he⟩, hit, Nat.succ_ne_self _⟩, fun b hb => ?_, q⟩
    have e' : b = s1.heap.objs.size + 1 ∨ b = s1.heap.objs.size := by simpa using hb
    have hle : s1.heap.objs.size ≤ b := by
      rcases e' with z | z
      · rw [z]; exact Nat.le_add_right _ _
      · rw [z]; exact Nat.le_refl _
    exact I1.fpOk hle (I1.hok.fresh hle)
end Bk

set_option Elab.async false
set_option linter.all false
set_option maxRecDepth 100000
set_option maxHeartbeats 2000000
/-! Pieces of a text, what is read of them, and the law's own words of a line: over lists of code points. -/
namespace Tk
open PySem PySem.Spec PyProof.Rows L2 Bk
/-! ### split, join, replace at one sign -/
def joinL (s : List Nat) : List (List Nat) → List Nat
  | [] => []
  | [p] => p
  | p :: q :: r => p ++ s ++ joinL s (q :: r)
theorem join_chars (s : Str) : ∀ ps : List Str, (s.join ps).cps.toList = joinL s.cps.toList (ps.map (·.cps.toList))
  | [] => rfl
  | [p] => rfl
  | p :: q :: r => by
    show (p ++ s ++ s.join (q :: r)).cps.toList = p.cps.toList ++ s.cps.toList ++ joinL s.cps.toList (q.cps.toList :: r.map (·.cps.toList))
    have ih := join_chars s (q :: r)
    rw [List.map_cons] at ih
    rw [← ih]
    show ((p.cps ++ s.cps) ++ (s.join (q :: r)).cps).toList = _
    simp
def spl (c : Nat) : List Nat → List (List Nat)
  | [] => [[]]
  | x :: l => if x = c then [] :: spl c l else match spl c l with
    | p :: ps => (x :: p) :: ps
    | [] => [[x]]
theorem spl_cons (c x : Nat) (l : List Nat) : spl c (x :: l) = if x = c then [] :: spl c l else match spl c l with
    | p :: ps => (x :: p) :: ps
    | [] => [[x]] := rfl
theorem spl_free {c : Nat} : ∀ {p : List Nat}, c ∉ p → spl c p = [p]
  | [], _ => rfl
  | x :: l, h => by
    have h1 : x ≠ c := fun e => h (by rw [e]; exact List.mem_cons_self)
    have ih := spl_free (c := c) (p := l) fun m => h (List.mem_cons_of_mem _ m)
    rw [spl_cons, if_neg h1, ih]
theorem spl_app {c : Nat} {l : List Nat} : ∀ {p : List Nat}, c ∉ p → spl c (p ++ c :: l) = p :: spl c l
  | [], _ => by
    show spl c (c :: l) = _
    rw [spl_cons, if_pos rfl]
  | x :: p, h => by
    have h1 : x ≠ c := fun e => h (by rw [e]; exact List.mem_cons_self)
    have ih := spl_app (c := c) (l := l) (p := p) fun m => h (List.mem_cons_of_mem _ m)
    show spl c (x :: (p ++ c :: l)) = _
    rw [spl_cons, if_neg h1, ih]
theorem spl_join {c : Nat} : ∀ {ps : List (List Nat)}, ps ≠ [] → (∀ p ∈ ps, c ∉ p) → spl c (joinL [c] ps) = ps
  | [], h, _ => absurd rfl h
  | [p], _, h => spl_free (h p List.mem_cons_self)
  | p :: q :: r, _, h => by
    have ih := spl_join (c := c) (ps := q :: r) (by simp) fun x hx => h x (List.mem_cons_of_mem _ hx)
    show spl c (p ++ [c] ++ joinL [c] (q :: r)) = _
    rw [List.append_assoc]
    show spl c (p ++ c :: joinL [c] (q :: r)) = _
    rw [spl_app (h p List.mem_cons_self), ih]
theorem split_ne (x : Str) (c : Nat) : Txt.split x ⟨#[c]⟩ ≠ [] := fun z => by
  have j := StrLaws.join_split x ⟨#[c]⟩
  have f := StrLaws.split_free x c
  unfold Txt.split at z
  split at z
  · cases z
  · split at z
    · cases z
    · have := congrArg List.length z
      rw [length_partsBetween] at this
      cases this
theorem split_chars (x : Str) (c : Nat) : (Txt.split x ⟨#[c]⟩).map (·.cps.toList) = spl c x.cps.toList := by
  have j := StrLaws.join_split x ⟨#[c]⟩
  have f := StrLaws.split_free x c
  have n := split_ne x c
  generalize Txt.split x ⟨#[c]⟩ = ps at j f n ⊢
  rw [← j, join_chars]
  refine (spl_join (c := c) (by simpa using n) fun p hp => ?_).symm
  obtain ⟨q, hq, rfl⟩ := List.mem_map.mp hp
  exact f q hq
/-- a sign with blanks around -/
def rep (c x : Nat) : List Nat := if x = c then [32, c, 32] else [x]
theorem rep_free {c : Nat} : ∀ {p : List Nat}, c ∉ p → p.flatMap (rep c) = p
  | [], _ => rfl
  | x :: p, h => by
    have h1 : x ≠ c := fun e => h (by rw [e]; exact List.mem_cons_self)
    rw [List.flatMap_cons, rep_free fun m => h (List.mem_cons_of_mem _ m)]
    unfold rep
    rw [if_neg h1]
    rfl
theorem rep_join {c : Nat} : ∀ {ps : List (List Nat)}, (∀ p ∈ ps, c ∉ p) → (joinL [c] ps).flatMap (rep c) = joinL [32, c, 32] ps
  | [], _ => rfl
  | [p], h => rep_free (h p List.mem_cons_self)
  | p :: q :: r, h => by
    have ih := rep_join (c := c) (ps := q :: r) fun x hx => h x (List.mem_cons_of_mem _ hx)
    show (p ++ [c] ++ joinL [c] (q :: r)).flatMap (rep c) = p ++ [32, c, 32] ++ joinL [32, c, 32] (q :: r)
    rw [List.flatMap_append, List.flatMap_append, ih, rep_free (h p List.mem_cons_self)]
    congr 1
    congr 1
    show rep c c ++ [] = _
    unfold rep
    rw [if_pos rfl]
    rfl
theorem rpS_chars (x : Str) (c : Nat) : (rpS x c).cps.toList = x.cps.toList.flatMap (rep c) := by
  unfold rpS
  rw [StrLaws.replace_one, join_chars]
  have j := StrLaws.join_split x ⟨#[c]⟩
  have f := StrLaws.split_free x c
  generalize Txt.split x ⟨#[c]⟩ = ps at j f ⊢
  rw [← j, join_chars]
  exact (rep_join fun p hp => by
    obtain ⟨q, hq, rfl⟩ := List.mem_map.mp hp
    exact f q hq).symm
def sgnB (x : Nat) : Bool := decide (x = 40) || (decide (x = 41) || decide (x = 44))
def sg (x : Nat) : List Nat := if sgnB x = true then [32, x, 32] else [x]
theorem signs_chars (x : Str) : (Bk.signs x).cps.toList = x.cps.toList.flatMap sg := by
  show (rpS (rpS (rpS x 40) 41) 44).cps.toList = _
  rw [rpS_chars, rpS_chars, rpS_chars, List.flatMap_assoc, List.flatMap_assoc]
  congr 1
  funext y
  unfold sg sgnB rep
  by_cases a : y = 40
  · subst a
    decide
  by_cases b : y = 41
  · subst b
    decide
  by_cases c : y = 44
  · subst c
    decide
  simp [a, b, c]
/-! ### pieces -/
def emit (cur : List Nat) : List (List Nat) := if cur = [] then [] else [cur]
def go : List Nat → List Nat → List (List Nat)
  | cur, [] => emit cur
  | cur, x :: l => if x = 32 then emit cur ++ go [] l else if sgnB x = true then emit cur ++ [x] :: go [] l else go (cur ++ [x]) l
def neB (p : List Nat) : Bool := decide (p ≠ [])
theorem filt1 (cur : List Nat) (ps : List (List Nat)) : (cur :: ps).filter neB = emit cur ++ ps.filter neB := by
  unfold emit neB
  by_cases h : cur = []
  · simp [h]
  · simp [h]
theorem pcs_go : ∀ (l cur : List Nat), 32 ∉ cur → (spl 32 (cur ++ l.flatMap sg)).filter neB = go cur l
  | [], cur, h => by
    show (spl 32 (cur ++ [])).filter neB = emit cur
    rw [List.append_nil, spl_free h, filt1]
    simp
  | x :: l, cur, h => by
    rw [List.flatMap_cons]
    unfold go sg
    by_cases a : x = 32
    · subst a
      rw [if_pos rfl, if_neg (by decide)]
      show (spl 32 (cur ++ 32 :: l.flatMap sg)).filter neB = _
      rw [spl_app h, filt1]
      have ih := pcs_go l [] (by simp)
      rw [List.nil_append] at ih
      rw [ih]
    rw [if_neg a]
    by_cases b : sgnB x = true
    · rw [if_pos b, if_pos b]
      show (spl 32 (cur ++ 32 :: ([x] ++ 32 :: l.flatMap sg))).filter neB = _
      have ih := pcs_go l [] (by simp)
      rw [List.nil_append] at ih
      rw [spl_app h, spl_app (by simpa using fun z => a z.symm), filt1, filt1, ih]
      rfl
    · rw [if_neg b, if_neg b, ← List.append_assoc]
      exact pcs_go l (cur ++ [x]) (by simpa using ⟨h, fun z => a z.symm⟩)
def S (l : List Nat) : Str := ⟨l.toArray⟩
theorem S_chars (p : Str) : S p.cps.toList = p := by cases p; simp [S]
theorem chars_S (l : List Nat) : (S l).cps.toList = l := by simp [S]
/-- the pieces of a text -/
def pcs (t : Str) : List Str := (go [] t.cps.toList).map S
theorem pcs_eq (t : Str) : (Txt.split (Bk.signs t) ⟨#[32]⟩).filter (fun p => decide (p ≠ Str.empty)) = pcs t := by
  have e := split_chars (Bk.signs t) 32
  rw [signs_chars] at e
  have g := pcs_go t.cps.toList [] (by simp)
  rw [List.nil_append, ← e] at g
  unfold pcs
  rw [← g, List.filter_map, List.map_map]
  have m : (S ∘ fun x : Str => x.cps.toList) = id := by
    funext p
    exact S_chars p
  rw [m, List.map_id]
  congr 1
  funext p
  show decide (p ≠ Str.empty) = decide (p.cps.toList ≠ [])
  refine decide_eq_decide.mpr (not_congr ⟨fun z => by rw [z]; rfl, fun z => ?_⟩)
  rw [← S_chars p, z]
  rfl
/-! ### the law's words of a line -/
def al (x : Nat) : Bool := Unicode.isAlnum x
theorem al_32 : al 32 = false := by decide +kernel
theorem al_45 : al 45 = false := by decide +kernel
theorem al_sgn {x : Nat} (h : sgnB x = true) : al x = false := by
  unfold sgnB at h
  simp only [Bool.or_eq_true, decide_eq_true_eq] at h
  rcases h with rfl | rfl | rfl <;> decide +kernel
theorem al_fig {x : Nat} (h0 : 48 ≤ x) (h1 : x ≤ 57) : al x = true := by
  have : ∀ y : Fin 10, al (48 + y.val) = true := by decide +kernel
  have e := this ⟨x - 48, by omega⟩
  rw [show 48 + (x - 48) = x by omega] at e
  exact e
theorem al_let {x : Nat} (h0 : 97 ≤ x) (h1 : x ≤ 122) : al x = true := by
  have : ∀ y : Fin 26, al (97 + y.val) = true := by decide +kernel
  have e := this ⟨x - 97, by omega⟩
  rw [show 97 + (x - 97) = x by omega] at e
  exact e
def tg : List Nat → List Nat → List (List Nat)
  | cur, [] => emit cur
  | cur, x :: l => if al x = true then tg (cur ++ [x]) l else emit cur ++ (if x = 32 then tg [] l else [x] :: tg [] l)
theorem tg_cons (cur : List Nat) (x : Nat) (l : List Nat) : tg cur (x :: l) = if al x = true then tg (cur ++ [x]) l else emit cur ++ (if x = 32 then tg [] l else [x] :: tg [] l) := rfl
theorem go_cons (cur : List Nat) (x : Nat) (l : List Nat) : go cur (x :: l) = if x = 32 then emit cur ++ go [] l else if sgnB x = true then emit cur ++ [x] :: go [] l else go (cur ++ [x]) l := rfl
def good (p : List Nat) : Prop := (∃ x, p = [x] ∧ sgnB x = true) ∨ (p ≠ [] ∧ p.all al = true) ∨ ∃ a, p = 45 :: a ∧ a ≠ [] ∧ a.all al = true
def tkP (p : List Nat) : List (List Nat) := if p.head? = some 45 then [[45], p.tail] else [p]
theorem emit_ne {p : List Nat} (h : p ≠ []) : emit p = [p] := if_neg h
theorem go_pre : ∀ (l cur : List Nat), cur ≠ [] → ∃ s r, go cur l = (cur ++ s) :: r
  | [], cur, h => ⟨[], [], by show emit cur = _; rw [emit_ne h, List.append_nil]⟩
  | x :: l, cur, h => by
    rw [go_cons]
    split
    · exact ⟨[], go [] l, by rw [emit_ne h, List.append_nil]; rfl⟩
    · split
      · exact ⟨[], [x] :: go [] l, by rw [emit_ne h, List.append_nil]; rfl⟩
      · obtain ⟨s, r, e⟩ := go_pre l (cur ++ [x]) (by simp)
        exact ⟨x :: s, r, by rw [e]; simp⟩
theorem tkP_al {p : List Nat} (h : p.all al = true) : tkP p = [p] := by
  unfold tkP
  rw [if_neg]
  intro z
  cases p with
  | nil => cases z
  | cons y r =>
    cases z
    simp [al_45] at h
theorem tok_go : ∀ (l cur : List Nat), (∀ p ∈ go cur l, good p) → (cur.all al = true → (go cur l).flatMap tkP = tg cur l) ∧ ∀ a, cur = 45 :: a → a.all al = true → (go cur l).flatMap tkP = [45] :: tg a l
  | [], cur, hg => by
    refine ⟨fun h => ?_, fun a e h => ?_⟩
    · show (emit cur).flatMap tkP = emit cur
      by_cases c : cur = []
      · rw [c]; rfl
      · rw [emit_ne c]
        show tkP cur ++ [] = _
        rw [tkP_al h, List.append_nil]
    · subst e
      have g := hg (45 :: a) (by show _ ∈ emit (45 :: a); rw [emit_ne (by simp)]; exact List.mem_singleton.mpr rfl)
      have an : a ≠ [] := by
        rcases g with ⟨x, e, z⟩ | ⟨_, z⟩ | ⟨b, e, z, _⟩
        · cases e; exact absurd z (by decide)
        · simp [al_45] at z
        · cases e; exact z
      show (emit (45 :: a)).flatMap tkP = [45] :: emit a
      rw [emit_ne (by simp), emit_ne an]
      rfl
  | x :: l, cur, hg => by
    rw [go_cons] at hg ⊢
    rw [tg_cons]
    by_cases c1 : x = 32
    · subst c1
      rw [if_pos rfl] at hg ⊢
      have ih := (tok_go l [] fun p hp => hg p (List.mem_append_right _ hp)).1 rfl
      refine ⟨fun h => ?_, fun a e h => ?_⟩
      · rw [al_32, if_neg (by simp), if_pos rfl, List.flatMap_append, ih]
        congr 1
        by_cases c : cur = []
        · rw [c]; rfl
        · rw [emit_ne c]
          show tkP cur ++ [] = _
          rw [tkP_al h, List.append_nil]
      · subst e
        have g := hg (45 :: a) (List.mem_append_left _ (by rw [emit_ne (by simp)]; exact List.mem_singleton.mpr rfl))
        have an : a ≠ [] := by
          rcases g with ⟨x, e, z⟩ | ⟨_, z⟩ | ⟨b, e, z, _⟩
          · cases e; exact absurd z (by decide)
          · simp [al_45] at z
          · cases e; exact z
        rw [tg_cons, al_32, if_neg (by simp), if_pos rfl, List.flatMap_append, ih, emit_ne (by simp), emit_ne an]
        rfl
    rw [if_neg c1] at hg ⊢
    by_cases c2 : sgnB x = true
    · rw [if_pos c2] at hg ⊢
      have ax := al_sgn c2
      have ih := (tok_go l [] fun p hp => hg p (List.mem_append_right _ (List.mem_cons_of_mem _ hp))).1 rfl
      have x45 : tkP [x] = [[x]] := by
        unfold tkP
        rw [if_neg]
        intro z
        cases z
        exact absurd c2 (by decide)
      refine ⟨fun h => ?_, fun a e h => ?_⟩
      · rw [ax, if_neg (by simp), if_neg c1, List.flatMap_append, List.flatMap_cons, ih, x45]
        congr 1
        by_cases c : cur = []
        · rw [c]; rfl
        · rw [emit_ne c]
          show tkP cur ++ [] = _
          rw [tkP_al h, List.append_nil]
      · subst e
        have g := hg (45 :: a) (List.mem_append_left _ (by rw [emit_ne (by simp)]; exact List.mem_singleton.mpr rfl))
        have an : a ≠ [] := by
          rcases g with ⟨x, e, z⟩ | ⟨_, z⟩ | ⟨b, e, z, _⟩
          · cases e; exact absurd z (by decide)
          · simp [al_45] at z
          · cases e; exact z
        rw [tg_cons, ax, if_neg (by simp), if_neg c1, List.flatMap_append, List.flatMap_cons, ih, x45, emit_ne (by simp), emit_ne an]
        rfl
    rw [if_neg c2] at hg ⊢
    obtain ⟨s, r, eg⟩ := go_pre l (cur ++ [x]) (by simp)
    have g := hg (cur ++ [x] ++ s) (by rw [eg]; exact List.mem_cons_self)
    have ih := tok_go l (cur ++ [x]) hg
    refine ⟨fun h => ?_, fun a e h => ?_⟩
    · by_cases c : cur = []
      · subst c
        rcases g with ⟨y, e, z⟩ | ⟨_, z⟩ | ⟨b, e, z, w⟩
        · have : x = y := by
            have := congrArg List.head? e
            simpa using this
          rw [this] at c2
          exact absurd z c2
        · have ax : al x = true := by simp at z; exact z.1
          rw [ax, if_pos rfl]
          exact ih.1 (by simp [ax])
        · have ex : x = 45 := by
            have := congrArg List.head? e
            simpa using this
          subst ex
          rw [al_45, if_neg (by simp), if_neg c1]
          exact ih.2 [] rfl rfl
      · have ax : al x = true := by
          rcases g with ⟨y, e, z⟩ | ⟨_, z⟩ | ⟨b, e, z, w⟩
          · obtain ⟨y0, r0, rfl⟩ := List.exists_cons_of_ne_nil c
            have := congrArg List.length e
            simp at this
            
          · simp only [List.all_append, Bool.and_eq_true, List.all_cons, List.all_nil, Bool.and_true] at z
            exact z.1.2
          · obtain ⟨y0, r0, rfl⟩ := List.exists_cons_of_ne_nil c
            have : y0 = 45 := by
              have := congrArg List.head? e
              simpa using this
            subst this
            simp [al_45] at h
        rw [ax, if_pos rfl]
        exact ih.1 (by rw [List.all_append, h]; simp [ax])
    · subst e
      have ax : al x = true := by
        rcases g with ⟨y, e, z⟩ | ⟨_, z⟩ | ⟨b, e, z, w⟩
        · have := congrArg List.length e
          simp at this
        · simp [al_45] at z
        · have e2 : b = a ++ [x] ++ s := by
            have := congrArg List.tail e
            simpa using this.symm
          subst e2
          simp only [List.all_append, Bool.and_eq_true, List.all_cons, List.all_nil, Bool.and_true] at w
          exact w.1.2
      rw [tg_cons, ax, if_pos rfl]
      exact ih.2 (a ++ [x]) rfl (by rw [List.all_append, h]; simp [ax])
/-- the law's words are told by the pieces -/
theorem toks_pcs {l : List Nat} (h : ∀ p ∈ go [] l, good p) : tg [] l = (go [] l).flatMap tkP := ((tok_go l [] h).1 rfl).symm
/-! ### weights: what a text has when it is written -/
def wc (x : Nat) : Nat := if x = 32 then 0 else if x = 44 then 2 else 1
def W (l : List Nat) : Nat := (l.map wc).sum
theorem W_app (a b : List Nat) : W (a ++ b) = W a + W b := by unfold W; rw [List.map_append, List.sum_append]
theorem W_cons (x : Nat) (l : List Nat) : W (x :: l) = wc x + W l := by unfold W; rw [List.map_cons, List.sum_cons]
theorem W_nil : W [] = 0 := rfl
theorem W_le (l : List Nat) : W l ≤ 2 * l.length := by
  induction l with
  | nil => exact Nat.le_refl _
  | cons x l ih =>
    rw [W_cons, List.length_cons]
    have : wc x ≤ 2 := by unfold wc; split <;> (try split) <;> omega
    omega
theorem W_pcs : ∀ (l cur : List Nat), ((go cur l).map W).sum = W cur + W l
  | [], cur => by
    show ((emit cur).map W).sum = _
    by_cases c : cur = []
    · rw [c]; rfl
    · rw [emit_ne c]; simp [W_nil]
  | x :: l, cur => by
    have he : ((emit cur).map W).sum = W cur := by
      by_cases c : cur = []
      · rw [c]; rfl
      · rw [emit_ne c]; simp
    rw [go_cons, W_cons]
    split
    · rename_i c
      rw [List.map_append, List.sum_append, W_pcs l [], he, c, W_nil]
      show W cur + (0 + W l) = W cur + (0 + W l)
      rfl
    · split
      · rw [List.map_append, List.sum_append, List.map_cons, List.sum_cons, W_pcs l [], he, W_nil, W_cons, W_nil]
        omega
      · rw [W_pcs l (cur ++ [x]), W_app, W_cons, W_nil]
        omega
/-! ### reading -/
def figB (x : Nat) : Bool := decide (48 ≤ x) && decide (x ≤ 57)
def figs (w : Str) : Option Int :=
  if (decide (1 ≤ (Txt.removeprefix w "-").length) && (decide ((Txt.removeprefix w "-").length ≤ 12) && ((Txt.removeprefix w "-").cps.toList.all figB && !(decide ((Txt.removeprefix w "-").cps.toList.head? = some 48) && decide (w ≠ "0"))))) = true then intText? w else none
abbrev RF := Str → List Str → Option (PyData × List Str)
def rPl (f : RF) : List Str → Bool → List Str → Option (List PyData × List Str)
  | [], _, r => some ([], r)
  | k :: ks, b, r => match r with
    | [] => none
    | c :: r1 => if c = (if b = true then ("(" : Str) else ",") then match f k r1 with
      | none => none
      | some (d, r2) => (rPl f ks false r2).map fun p => (d :: p.1, p.2)
      else none
def rP (f : RF) : RF := fun k r => if isDeep k = true then f k r else match r with
  | [] => none
  | w :: r1 => if k = "wait" ∨ k = "times" ∨ k = "gap" then (figs w).map fun i => (.int i, r1) else some (.str w, r1)
def rF : Nat → RF
  | 0 => fun _ _ => none
  | n + 1 => fun kind ps => match ps with
    | [] => none
    | w :: r => if kind = "number" ∧ r.head? ≠ some ("(" : Str) then (if isW' (.str w) = true then some (.tuple [.str "read", .str w], r) else (figs w).map fun i => (.tuple [.str "num", .int i], r))
      else match kindsOf kind w with
        | none => none
        | some ks => if w = "num" ∨ w = "read" then none else match rPl (rP (rF n)) ks true r with
          | none => none
          | some (ds, r') => if ks = [] then some (.tuple (.str w :: ds), r') else match r' with
            | [] => none
            | c :: r2 => if c = ")" then some (.tuple (.str w :: ds), r2) else none
/-- what a text tells -/
def rd (t : Str) : Option PyData :=
  if 4000 < t.length then none else if (Txt.startswith t " " || Txt.endswith t " ") = true then none else match rF 12 "contract" (pcs t) with
    | some (d, []) => if wf 12 "contract" d = true then some d else none
    | _ => none
/-! ### the pieces of what is read -/
def commas : List (List Str) → List Str
  | [] => []
  | [t] => t
  | t :: u :: r => t ++ ("," : Str) :: commas (u :: r)
def flT (w : Str) (ts : List (List Str)) : List Str := if w = "num" ∨ w = "read" then ts.headD [] else if ts = [] then [w] else w :: ("(" : Str) :: (commas ts ++ [(")" : Str)])
mutual
def fl : PyData → List Str
  | .int i => [isx i]
  | .str x => [x]
  | .tuple ds => match fls ds with
    | [w] :: ts => flT w ts
    | _ => []
  | _ => []
def fls : List PyData → List (List Str)
  | [] => []
  | d :: ds => fl d :: fls ds
end
theorem fls_map : ∀ ds : List PyData, fls ds = ds.map fl
  | [] => rfl
  | d :: ds => by show fl d :: fls ds = _; rw [fls_map ds]; rfl
theorem fl_tup (w : Str) (ds : List PyData) : fl (.tuple (.str w :: ds)) = flT w (ds.map fl) := by
  show (match fl (.str w) :: fls ds with
    | [w] :: ts => flT w ts
    | _ => []) = _
  rw [fls_map]
  rfl
theorem minus_chars : ("-" : Str).cps.toList = [45] := by decide +kernel
theorem figs_some {w : Str} {i : Int} (h : figs w = some i) : isx i = w ∧ good w.cps.toList ∧ intText? w = some i ∧ w.length ≤ 13 := by
  unfold figs at h
  split at h
  · rename_i c
    simp only [Bool.and_eq_true, decide_eq_true_eq, Bool.not_eq_true'] at c
    obtain ⟨c1, c2, c3, c4⟩ := c
    have re := StrLaws.removeprefix_eq w "-"
    have l1 : ("-" : Str).length = 1 := by decide +kernel
    have sub : Builtin.Str.subAt w "-" 0 = (w.cps.toList.take 1 == [45]) := by
      rw [StrLaws.subAt_eq, l1, minus_chars, List.drop_zero]
    rw [l1, sub] at re
    have lw : w.length = w.cps.toList.length := by simp [Str.length]
    have al9 : ∀ {cs : List Nat}, cs.all figB = true → NumText.AllDigits cs := fun h x hx => by
      have := List.all_eq_true.mp h x hx
      simpa [figB] using this
    have alA : ∀ {cs : List Nat}, cs.all figB = true → cs.all al = true := fun h => List.all_eq_true.mpr fun x hx => by
      have := al9 h x hx
      exact al_fig this.1 this.2
    have canon : ∀ {cs : List Nat}, cs.all figB = true → cs ≠ [] → (cs.length = 1 ∨ cs.head? ≠ some 48) → TL.numL (NumText.digitsVal cs) = cs := fun {cs} h hn hc => by
      have := NumText.toDigits_digitsVal (cs.length - 1) cs (by have := List.length_pos_iff.mpr hn; omega) (al9 h) (by
        rcases hc with hc | hc
        · left; omega
        · right
          obtain ⟨y, r, rfl⟩ := List.exists_cons_of_ne_nil hn
          refine ⟨y, r, rfl, ?_⟩
          have := (al9 h) y List.mem_cons_self
          simp at hc
          omega)
      unfold TL.numL
      rw [this, List.map_map]
      have : (Char.toNat ∘ Char.ofNat) = fun x => (Char.ofNat x).toNat := rfl
      rw [this]
      refine (List.map_congr_left (g := id) fun x hx => ?_).trans (List.map_id _)
      have q := (al9 h) x hx
      show (Char.ofNat x).toNat = x
      have : x.isValidChar := by left; omega
      simp [Char.ofNat, this, Char.toNat, Char.ofNatAux]
    by_cases hm : (w.cps.toList.take 1 == [45]) = true
    · obtain ⟨cs, ecs⟩ : ∃ cs, w.cps.toList = 45 :: cs := by
        generalize w.cps.toList = l at hm
        match l, hm with
        | 45 :: cs, _ => exact ⟨cs, rfl⟩
        | x :: cs, hm => simp at hm; exact ⟨cs, by rw [hm]⟩
      have hle : decide (0 + 1 ≤ w.length) = true := decide_eq_true (by rw [lw, ecs]; simp)
      rw [hle, hm] at re
      have fe : (Txt.removeprefix w "-").cps.toList = cs := by
        rw [re]
        simp only [Bool.and_self, if_true]
        rw [ecs, lw, ecs]
        simp
      have fl' : (Txt.removeprefix w "-").length = cs.length := by
        show (Txt.removeprefix w "-").cps.size = _
        rw [← Array.length_toList, fe]
      rw [fl'] at c1 c2
      rw [fe] at c3 c4
      have cn : cs ≠ [] := fun z => by rw [z] at c1; simp at c1
      have w0 : w ≠ "0" := fun z => by
        rw [z] at ecs
        have : ("0" : Str).cps.toList = [48] := by decide +kernel
        rw [this] at ecs
        cases ecs
      have h48 : cs.head? ≠ some 48 := fun z => by
        rw [z, decide_eq_true w0] at c4
        simp at c4
      have v := intText_neg (x := w) ecs (al9 c3) cn (by rw [lw, ecs, List.length_cons]; omega)
      rw [v] at h
      cases h
      refine ⟨?_, .inr (.inr ⟨cs, ecs, cn, alA c3⟩), v, by rw [lw, ecs, List.length_cons]; omega⟩
      have pos : NumText.digitsVal cs ≠ 0 := fun z => by
        have := canon c3 cn (.inr h48)
        rw [z] at this
        have n0 : TL.numL 0 = [48] := by decide +kernel
        rw [n0] at this
        rw [← this] at h48
        exact h48 rfl
      obtain ⟨m, hm'⟩ := Nat.exists_eq_succ_of_ne_zero pos
      have cc := canon c3 cn (.inr h48)
      rw [hm'] at cc ⊢
      apply Str.ext'
      have e1 : isx (-((m.succ : Nat) : Int)) = Str.ofString ("-" ++ toString (m.succ : Nat)) := rfl
      rw [e1]
      have e2 : (Str.ofString ("-" ++ toString (m.succ : Nat))).cps.toList = 45 :: TL.numL m.succ := by
        rw [signs_ofString, String.toList_append, List.map_append]
        show [45] ++ (Nat.repr m.succ).toList.map Char.toNat = _
        rw [Nat.toList_repr]
        rfl
      have : (Str.ofString ("-" ++ toString (m.succ : Nat))).cps.toList = w.cps.toList := by rw [e2, cc, ecs]
      exact Array.toList_inj.mp this
    · have re2 : Txt.removeprefix w "-" = w := by
        rw [re, if_neg]
        rw [Bool.and_eq_true]
        exact fun z => hm z.2
      rw [re2] at c1 c2 c3 c4
      rw [lw] at c1 c2
      have cn : w.cps.toList ≠ [] := fun z => by rw [z] at c1; simp at c1
      have v := intText_digits (x := w) (al9 c3) cn (by rw [lw]; omega)
      rw [v] at h
      cases h
      refine ⟨?_, .inr (.inl ⟨cn, alA c3⟩), v, by rw [lw]; omega⟩
      have cc := canon c3 cn (by
        by_cases z : w = "0"
        · left
          rw [z]
          decide +kernel
        · right
          intro y
          rw [y, decide_eq_true z] at c4
          simp at c4)
      have : (Str.ofString (toString ((NumText.digitsVal w.cps.toList : Nat) : Int))).cps.toList = TL.numL (NumText.digitsVal w.cps.toList) := TL.tl_num _
      rw [cc] at this
      exact Str.ext' (Array.toList_inj.mp this)
  · cases h
/-- such figures are read -/
theorem figs_ok {w : Str} (c1 : 1 ≤ (Txt.removeprefix w "-").length) (c2 : (Txt.removeprefix w "-").length ≤ 12) (c3 : (Txt.removeprefix w "-").cps.toList.all figB = true) : (∃ i, intText? w = some i) ∧ w.length ≤ 13 := by
  have re := StrLaws.removeprefix_eq w "-"
  have l1 : ("-" : Str).length = 1 := by decide +kernel
  have sub : Builtin.Str.subAt w "-" 0 = (w.cps.toList.take 1 == [45]) := by
    rw [StrLaws.subAt_eq, l1, minus_chars, List.drop_zero]
  rw [l1, sub] at re
  have lw : w.length = w.cps.toList.length := by simp [Str.length]
  have al9 : ∀ {cs : List Nat}, cs.all figB = true → NumText.AllDigits cs := fun h x hx => by
    have := List.all_eq_true.mp h x hx
    simpa [figB] using this
  by_cases hm : (w.cps.toList.take 1 == [45]) = true
  · obtain ⟨cs, ecs⟩ : ∃ cs, w.cps.toList = 45 :: cs := by
      generalize w.cps.toList = l at hm
      match l, hm with
      | 45 :: cs, _ => exact ⟨cs, rfl⟩
      | x :: cs, hm => simp at hm; exact ⟨cs, by rw [hm]⟩
    have hle : decide (0 + 1 ≤ w.length) = true := decide_eq_true (by rw [lw, ecs]; simp)
    rw [hle, hm] at re
    have fe : (Txt.removeprefix w "-").cps.toList = cs := by
      rw [re]
      simp only [Bool.and_self, if_true]
      rw [ecs, lw, ecs]
      simp
    have fl' : (Txt.removeprefix w "-").length = cs.length := by
      show (Txt.removeprefix w "-").cps.size = _
      rw [← Array.length_toList, fe]
    rw [fl'] at c1 c2
    rw [fe] at c3
    exact ⟨⟨_, intText_neg (x := w) ecs (al9 c3) (fun z => by rw [z] at c1; simp at c1) (by rw [lw, ecs, List.length_cons]; omega)⟩, by rw [lw, ecs, List.length_cons]; omega⟩
  · have re2 : Txt.removeprefix w "-" = w := by
      rw [re, if_neg]
      rw [Bool.and_eq_true]
      exact fun z => hm z.2
    rw [re2] at c1 c2 c3
    rw [lw] at c1 c2
    exact ⟨⟨_, intText_digits (x := w) (al9 c3) (fun z => by rw [z] at c1; simp at c1) (by rw [lw]; omega)⟩, by rw [lw]; omega⟩
/-- no piece is longer than the text -/
theorem go_len : ∀ (l cur : List Nat), ∀ p ∈ go cur l, p.length ≤ cur.length + l.length + 1
  | [], cur, p, h => by
    have h : p ∈ emit cur := h
    unfold emit at h
    split at h
    · cases h
    · cases List.mem_singleton.mp h
      simp
  | x :: l, cur, p, h => by
    rw [go_cons] at h
    have he : ∀ {p}, p ∈ emit cur → p.length ≤ cur.length := fun h => by
      unfold emit at h
      split at h
      · cases h
      · cases List.mem_singleton.mp h
        exact Nat.le_refl _
    split at h
    · rcases List.mem_append.mp h with h | h
      · have := he h
        simp only [List.length_cons]
        omega
      · have := go_len l [] p h
        simp only [List.length_cons, List.length_nil] at this ⊢
        omega
    · split at h
      · rcases List.mem_append.mp h with h | h
        · have := he h
          simp only [List.length_cons]
          omega
        · rcases List.mem_cons.mp h with rfl | h
          · simp only [List.length_cons, List.length_nil]
            omega
          · have := go_len l [] p h
            simp only [List.length_cons, List.length_nil] at this ⊢
            omega
      · have := go_len l (cur ++ [x]) p h
        simp only [List.length_append, List.length_cons, List.length_nil] at this ⊢
        omega
theorem pcs_len {t p : Str} (h : p ∈ pcs t) : p.length ≤ t.length + 1 := by
  unfold pcs at h
  obtain ⟨l, hl, rfl⟩ := List.mem_map.mp h
  have := go_len _ _ l hl
  have e : (S l).length = l.length := by simp [S, Str.length]
  have e2 : t.cps.toList.length = t.length := by simp [Str.length]
  rw [e]
  simp only [List.length_nil] at this
  omega
/-! ### the parts, step by step -/
def sgnOf (b : Bool) : Str := if b = true then "(" else ","
theorem rPl_bad {f : RF} {k : Str} {ks : List Str} {b : Bool} {r : List Str} (h : ∀ r1, r ≠ sgnOf b :: r1) : rPl f (k :: ks) b r = none := by
  cases r with
  | nil => rfl
  | cons c r1 => exact if_neg fun z => h r1 (by rw [z]; rfl)
theorem rPl_none {f : RF} {k : Str} {ks : List Str} {b : Bool} {r1 : List Str} (h : f k r1 = none) : rPl f (k :: ks) b (sgnOf b :: r1) = none := by
  have e : rPl f (k :: ks) b (sgnOf b :: r1) = match f k r1 with
      | none => none
      | some (d, r2) => (rPl f ks false r2).map fun p => (d :: p.1, p.2) := if_pos rfl
  rw [e, h]
theorem rPl_some {f : RF} {k : Str} {ks : List Str} {b : Bool} {r1 r2 : List Str} {d : PyData} (h : f k r1 = some (d, r2)) : rPl f (k :: ks) b (sgnOf b :: r1) = (rPl f ks false r2).map fun p => (d :: p.1, p.2) := by
  have e : rPl f (k :: ks) b (sgnOf b :: r1) = match f k r1 with
      | none => none
      | some (d, r2) => (rPl f ks false r2).map fun p => (d :: p.1, p.2) := if_pos rfl
  rw [e, h]
/-- what the parts come to, so many of them read -/
def At (f : RF) (ks : List Str) (r : List Str) (i : Nat) (ds : List PyData) (r' : List Str) : Prop := ds.length = i ∧ rPl f ks true r = (rPl f (ks.drop i) (decide (i = 0)) r').map fun q => (ds ++ q.1, q.2)
theorem At.zero {f : RF} {ks r : List Str} : At f ks r 0 [] r := ⟨rfl, by rw [List.drop_zero, decide_eq_true rfl]; cases rPl f ks true r <;> rfl⟩
theorem At.bad {f : RF} {ks r r' : List Str} {i : Nat} {ds : List PyData} {k : Str} (h : At f ks r i ds r') (hk : ks[i]? = some k) (n : ∀ r1, r' ≠ sgnOf (decide (i = 0)) :: r1) : rPl f ks true r = none := by
  have hi := (List.getElem?_eq_some_iff.mp hk)
  rw [h.2, List.drop_eq_getElem_cons hi.1, rPl_bad n]
  rfl
theorem At.none {f : RF} {ks r r1 : List Str} {i : Nat} {ds : List PyData} {k : Str} (h : At f ks r i ds (sgnOf (decide (i = 0)) :: r1)) (hk : ks[i]? = some k) (n : f k r1 = none) : rPl f ks true r = none := by
  obtain ⟨hi, e⟩ := List.getElem?_eq_some_iff.mp hk
  rw [h.2, List.drop_eq_getElem_cons hi, e, rPl_none n]
  rfl
theorem At.next {f : RF} {ks r r1 r2 : List Str} {i : Nat} {ds : List PyData} {k : Str} {d : PyData} (h : At f ks r i ds (sgnOf (decide (i = 0)) :: r1)) (hk : ks[i]? = some k) (n : f k r1 = some (d, r2)) : At f ks r (i + 1) (ds ++ [d]) r2 := by
  obtain ⟨hi, e⟩ := List.getElem?_eq_some_iff.mp hk
  refine ⟨by rw [List.length_append, h.1]; rfl, ?_⟩
  rw [h.2, List.drop_eq_getElem_cons hi, e, rPl_some n, decide_eq_false (by omega), Option.map_map]
  congr 1
  funext q
  simp
theorem At.done {f : RF} {ks r r' : List Str} {ds : List PyData} (h : At f ks r ks.length ds r') : rPl f ks true r = some (ds, r') := by
  rw [h.2, List.drop_length]
  show some (ds ++ [], r') = _
  rw [List.append_nil]
/-! ### what is read has these pieces -/
def Sound (f : RF) : Prop := ∀ k ps d r, f k ps = some (d, r) → ps = fl d ++ r
theorem rPl_sound {f : RF} (hf : Sound f) : ∀ (ks : List Str) (b : Bool) (ps : List Str) (ds : List PyData) (r : List Str), rPl f ks b ps = some (ds, r) →
    ds.length = ks.length ∧ ps = (if ks = [] then [] else (if b = true then ("(" : Str) else ",") :: commas (ds.map fl)) ++ r
  | [], b, ps, ds, r, h => by
    cases h
    exact ⟨rfl, rfl⟩
  | k :: ks, b, [], ds, r, h => by cases h
  | k :: ks, b, c :: r1, ds, r, h => by
    have h : (if c = (if b = true then ("(" : Str) else ",") then match f k r1 with
      | none => none
      | some (d, r2) => (rPl f ks false r2).map fun p => (d :: p.1, p.2)
      else none) = some (ds, r) := h
    by_cases ec : c = (if b = true then ("(" : Str) else ",")
    · rw [if_pos ec] at h
      split at h
      · cases h
      · rename_i d r2 e
        obtain ⟨⟨ds', r'⟩, e2, e3⟩ := Option.map_eq_some_iff.mp h
        cases e3
        have ih := rPl_sound hf ks false r2 ds' _ e2
        have s := hf _ _ _ _ e
        refine ⟨by rw [List.length_cons, List.length_cons, ih.1], ?_⟩
        rw [if_neg (by simp), s, ec]
        cases ks with
        | nil =>
          have : ds' = [] := List.length_eq_zero_iff.mp ih.1
          subst this
          have e4 := ih.2
          rw [if_pos rfl] at e4
          rw [e4]
          rfl
        | cons k2 ks2 =>
          obtain ⟨d2, ds2, rfl⟩ : ∃ d2 ds2, ds' = d2 :: ds2 := by
            cases ds' with
            | nil => cases ih.1
            | cons d2 ds2 => exact ⟨d2, ds2, rfl⟩
          have e4 := ih.2
          rw [if_neg (by simp), if_neg (by simp)] at e4
          rw [e4]
          show _ = _ :: (commas (fl d :: fl d2 :: ds2.map fl)) ++ _
          show _ = _ :: (fl d ++ ("," : Str) :: commas (fl d2 :: ds2.map fl)) ++ _
          simp
    · rw [if_neg ec] at h
      cases h
theorem rP_sound {f : RF} (hf : Sound f) : Sound (rP f) := fun k ps d r h => by
  unfold rP at h
  split at h
  · exact hf _ _ _ _ h
  · cases ps with
    | nil => cases h
    | cons w r1 =>
      dsimp only at h
      split at h
      · obtain ⟨i, e, e2⟩ := Option.map_eq_some_iff.mp h
        cases e2
        show _ = [isx i] ++ _
        rw [(figs_some e).1]
        rfl
      · cases h
        rfl
theorem rF_sound : ∀ n, Sound (rF n)
  | 0 => fun k ps d r h => by cases h
  | n + 1 => fun kind ps d r h => by
    cases ps with
    | nil => cases h
    | cons w r1 =>
      unfold rF at h
      dsimp only at h
      split at h
      · split at h
        · cases h
          rw [fl_tup]
          rfl
        · obtain ⟨i, e, e2⟩ := Option.map_eq_some_iff.mp h
          cases e2
          rw [fl_tup]
          show _ = [isx i] ++ _
          rw [(figs_some e).1]
          rfl
      · split at h
        · cases h
        · rename_i ks hk
          split at h
          · cases h
          · rename_i nn
            split at h
            · cases h
            · rename_i ds r' e
              obtain ⟨hl, hs⟩ := rPl_sound (rP_sound (rF_sound n)) _ _ _ _ _ e
              split at h
              · rename_i kn
                cases h
                subst kn
                have : ds = [] := List.length_eq_zero_iff.mp hl
                subst this
                rw [if_pos rfl] at hs
                rw [hs, fl_tup]
                unfold flT
                rw [if_neg nn]
                rfl
              · rename_i kn
                rw [if_neg kn, if_pos rfl] at hs
                cases r' with
                | nil => cases h
                | cons c r2 =>
                  dsimp only at h
                  split at h
                  · rename_i ec
                    cases h
                    rw [hs, fl_tup, ec]
                    unfold flT
                    rw [if_neg nn, if_neg]
                    · simp
                    · intro z
                      have := List.map_eq_nil_iff.mp z
                      subst this
                      exact kn (List.length_eq_zero_iff.mp hl.symm)
                  · cases h
theorem rd_some {t : Str} {d : PyData} (h : rd t = some d) : pcs t = fl d ∧ wf 12 "contract" d = true ∧ rF 12 "contract" (pcs t) = some (d, []) := by
  unfold rd at h
  split at h
  · cases h
  · split at h
    · cases h
    · split at h
      · rename_i d' e
        split at h
        · rename_i hw
          cases h
          have s := rF_sound 12 _ _ _ _ e
          rw [List.append_nil] at s
          exact ⟨s, hw, e⟩
        · cases h
      · cases h
/-! ### words of the forms -/
def letB (x : Nat) : Bool := decide (97 ≤ x) && decide (x ≤ 122)
def wordB (w : Str) : Bool := !(w.cps.toList.isEmpty) && w.cps.toList.all letB
theorem formOf_mem {L : Forms} {w : Str} {ks : List Str} (h : formOf L w = some ks) : (w, ks) ∈ L := by
  induction L with
  | nil => cases h
  | cons p s ih =>
    unfold formOf at h
    split at h
    · rename_i c
      cases h
      rw [← c]
      exact List.mem_cons_self
    · exact List.mem_cons_of_mem _ (ih h)
theorem kinds_word {kind w : Str} {ks : List Str} (h : kindsOf kind w = some ks) : wordB w = true ∧ w.length ≤ 6 ∧ ks.length ≤ 4 := by
  have a : ∀ p ∈ ctrForms ++ (condForms ++ numForms), wordB p.1 = true ∧ p.1.length ≤ 6 ∧ p.2.length ≤ 4 := by decide +kernel
  unfold kindsOf at h
  split at h
  · exact a _ (List.mem_append_left _ (formOf_mem h))
  · split at h
    · exact a _ (List.mem_append_right _ (List.mem_append_left _ (formOf_mem h)))
    · exact a _ (List.mem_append_right _ (List.mem_append_right _ (formOf_mem h)))
theorem isW_word {x : Str} (h : isW' (.str x) = true) : wordB x = true ∧ x.length ≤ 8 := by
  have h' : (decide (1 ≤ x.length) && (decide (x.length ≤ 8) && x.cps.toList.all fun c => decide (97 ≤ c) && decide (c ≤ 122))) = true := h
  simp only [Bool.and_eq_true, decide_eq_true_eq] at h'
  refine ⟨?_, h'.2.1⟩
  unfold wordB
  rw [Bool.and_eq_true]
  refine ⟨?_, h'.2.2⟩
  have : x.cps.toList.length = x.length := by simp [Str.length]
  cases e : x.cps.toList with
  | nil => rw [e] at this; simp at this; omega
  | cons _ _ => rfl
/-! ### a text and its pieces -/
def stop : List Nat → Prop
  | [] => True
  | x :: _ => x = 32 ∨ sgnB x = true
theorem stop_sgn {x : Nat} {l : List Nat} (h : sgnB x = true) : stop (x :: l) := Or.inr h
/-- these letters and figures are one piece -/
def One (p : List Nat) : Prop := p ≠ [] ∧ ∀ x ∈ p, x ≠ 32 ∧ sgnB x = false
theorem go_run : ∀ (p cur rest : List Nat), (∀ x ∈ p, x ≠ 32 ∧ sgnB x = false) → go cur (p ++ rest) = go (cur ++ p) rest
  | [], cur, rest, _ => by rw [List.append_nil]; rfl
  | x :: p, cur, rest, h => by
    obtain ⟨h1, h2⟩ := h x List.mem_cons_self
    show go cur (x :: (p ++ rest)) = _
    rw [go_cons, if_neg h1, h2, if_neg (by simp), go_run p (cur ++ [x]) rest fun y hy => h y (List.mem_cons_of_mem _ hy)]
    simp
theorem go_stop {cur rest : List Nat} (h : stop rest) : go cur rest = emit cur ++ go [] rest := by
  cases rest with
  | nil => show emit cur = emit cur ++ emit []; simp [emit]
  | cons x l =>
    rw [go_cons, go_cons]
    rcases h with h | h
    · rw [if_pos h, if_pos h]
      simp [emit]
    · have n : x ≠ 32 := fun z => by rw [z] at h; exact absurd h (by decide)
      rw [if_neg n, if_neg n, if_pos h, if_pos h]
      simp [emit]
theorem One.go {p rest : List Nat} (o : One p) (h : stop rest) : go [] (p ++ rest) = p :: go [] rest := by
  rw [go_run p [] rest o.2, List.nil_append, go_stop h, emit_ne o.1]
  rfl
/-- balanced: a blank for each comma -/
def bal (l : List Nat) : Prop := l.length = W l
theorem bal_app {a b : List Nat} (h : bal a) (k : bal b) : bal (a ++ b) := by unfold bal at *; rw [List.length_append, W_app, h, k]
theorem bal_of : ∀ {p : List Nat}, (∀ x ∈ p, x ≠ 32 ∧ sgnB x = false) → p.length = W p
  | [], _ => rfl
  | x :: l, h => by
    obtain ⟨h1, h2⟩ := h x List.mem_cons_self
    have h3 : x ≠ 44 := fun z => by rw [z] at h2; exact absurd h2 (by decide)
    rw [W_cons, List.length_cons, bal_of (fun y hy => h y (List.mem_cons_of_mem _ hy))]
    unfold wc
    rw [if_neg h1, if_neg h3]
    omega
theorem One.bal {p : List Nat} (o : One p) : bal p := bal_of o.2
theorem let_ok {x : Nat} (h : letB x = true) : (x ≠ 32 ∧ sgnB x = false) ∧ al x = true := by
  simp only [letB, Bool.and_eq_true, decide_eq_true_eq] at h
  refine ⟨⟨by omega, ?_⟩, al_let h.1 h.2⟩
  unfold sgnB
  rw [decide_eq_false (by omega), decide_eq_false (by omega), decide_eq_false (by omega)]
  rfl
theorem word_one {w : Str} (h : wordB w = true) : One w.cps.toList ∧ good w.cps.toList := by
  unfold wordB at h
  rw [Bool.and_eq_true] at h
  have n : w.cps.toList ≠ [] := fun z => by rw [z] at h; simp at h
  exact ⟨⟨n, fun x hx => (let_ok (List.all_eq_true.mp h.2 x hx)).1⟩, .inr (.inl ⟨n, List.all_eq_true.mpr fun x hx => (let_ok (List.all_eq_true.mp h.2 x hx)).2⟩)⟩
theorem isx_chars (i : Int) : (isx i).cps.toList = (if i < 0 then 45 :: TL.numL i.natAbs else TL.numL i.natAbs) := by
  cases i with
  | ofNat n =>
    rw [if_neg (by simp)]
    exact TL.tl_num n
  | negSucc n =>
    rw [if_pos (by simp [Int.negSucc_lt_zero])]
    show (Str.ofString ("-" ++ toString (n + 1))).cps.toList = 45 :: TL.numL (n + 1)
    unfold TL.numL
    rw [signs_ofString, String.toList_append, List.map_append]
    show [45] ++ (Nat.repr (n + 1)).toList.map Char.toNat = _
    rw [Nat.toList_repr]
    rfl
theorem fig_ok {x : Nat} (h0 : 48 ≤ x) (h1 : x ≤ 57) : x ≠ 32 ∧ sgnB x = false := by
  refine ⟨by omega, ?_⟩
  unfold sgnB
  rw [decide_eq_false (by omega), decide_eq_false (by omega), decide_eq_false (by omega)]
  rfl
theorem isx_one (i : Int) : One (isx i).cps.toList ∧ good (isx i).cps.toList := by
  rw [isx_chars]
  have d := TL.numL_digits i.natAbs
  have n := TL.numL_ne i.natAbs
  split
  · refine ⟨⟨by simp, fun x hx => ?_⟩, .inr (.inr ⟨_, rfl, n, List.all_eq_true.mpr fun x hx => al_fig (d x hx).1 (d x hx).2⟩)⟩
    rcases List.mem_cons.mp hx with rfl | hx
    · decide
    · exact fig_ok (d x hx).1 (d x hx).2
  · exact ⟨⟨n, fun x hx => fig_ok (d x hx).1 (d x hx).2⟩, .inr (.inl ⟨n, List.all_eq_true.mpr fun x hx => al_fig (d x hx).1 (d x hx).2⟩)⟩
/-- these pieces are what the chars have -/
structure G (cs : List Nat) (ps : List Str) : Prop where
  gd : ∀ p ∈ ps, good p.cps.toList
  go : ∀ rest, stop rest → go [] (cs ++ rest) = ps.map (·.cps.toList) ++ go [] rest
  bl : bal cs
theorem G.one {w : Str} (o : One w.cps.toList ∧ good w.cps.toList) : G w.cps.toList [w] := ⟨fun p hp => by cases List.mem_singleton.mp hp; exact o.2, fun rest h => o.1.go h, o.1.bal⟩
theorem comma_chars : (", " : Str).cps.toList = [44, 32] := by decide +kernel
theorem com_chars : ("," : Str).cps.toList = [44] := by decide +kernel
theorem open_chars : ("(" : Str).cps.toList = [40] := by decide +kernel
theorem close_chars : (")" : Str).cps.toList = [41] := by decide +kernel
theorem good_sgn {w : Str} {x : Nat} (h : w.cps.toList = [x]) (s : sgnB x = true) : good w.cps.toList := .inl ⟨x, h, s⟩
inductive GA : List (List Nat) → List (List Str) → Prop
  | nil : GA [] []
  | cons {c : List Nat} {p : List Str} {cs : List (List Nat)} {ps : List (List Str)} : G c p → GA cs ps → GA (c :: cs) (p :: ps)
theorem G.commas : ∀ {cs : List (List Nat)} {ps : List (List Str)}, GA cs ps → G (joinL [44, 32] cs) (Tk.commas ps)
  | [], [], .nil => ⟨fun p hp => (by cases hp), fun rest _ => rfl, rfl⟩
  | [c], [p], .cons g .nil => g
  | c :: c2 :: r, p :: p2 :: s, .cons g t => by
    have ih := G.commas t
    refine ⟨fun q hq => ?_, fun rest h => ?_, ?_⟩
    · have hq' : q ∈ p ++ ("," : Str) :: Tk.commas (p2 :: s) := hq
      rcases List.mem_append.mp hq' with h | h
      · exact g.gd q h
      · rcases List.mem_cons.mp h with rfl | h
        · exact good_sgn com_chars (by decide)
        · exact ih.gd q h
    · show Tk.go [] ((c ++ [44, 32] ++ joinL [44, 32] (c2 :: r)) ++ rest) = (p ++ ("," : Str) :: Tk.commas (p2 :: s)).map (·.cps.toList) ++ Tk.go [] rest
      have e1 : (c ++ [44, 32] ++ joinL [44, 32] (c2 :: r)) ++ rest = c ++ (44 :: 32 :: (joinL [44, 32] (c2 :: r) ++ rest)) := by simp
      rw [e1, g.go _ (stop_sgn (by decide)), List.map_append, List.map_cons, com_chars, List.append_assoc]
      congr 1
      rw [go_cons, if_neg (by decide), if_pos (by decide), go_cons, if_pos rfl, ih.go rest h]
      simp [emit]
    · show bal (c ++ [44, 32] ++ joinL [44, 32] (c2 :: r))
      exact bal_app (bal_app g.bl (by unfold bal; decide)) ih.bl
/-- a word with parts -/
theorem G.form {w : Str} {cs : List (List Nat)} {ps : List (List Str)} (hw : One w.cps.toList ∧ good w.cps.toList) (h : GA cs ps) : G (w.cps.toList ++ [40] ++ joinL [44, 32] cs ++ [41]) (w :: ("(" : Str) :: (Tk.commas ps ++ [(")" : Str)])) := by
  have g := G.commas h
  refine ⟨fun q hq => ?_, fun rest hr => ?_, bal_app (bal_app (bal_app hw.1.bal (by unfold bal; decide)) g.bl) (by unfold bal; decide)⟩
  · rcases List.mem_cons.mp hq with rfl | hq
    · exact hw.2
    rcases List.mem_cons.mp hq with rfl | hq
    · exact good_sgn open_chars (by decide)
    rcases List.mem_append.mp hq with hq | hq
    · exact g.gd q hq
    · cases List.mem_singleton.mp hq
      exact good_sgn close_chars (by decide)
  · have e1 : (w.cps.toList ++ [40] ++ joinL [44, 32] cs ++ [41]) ++ rest = w.cps.toList ++ (40 :: (joinL [44, 32] cs ++ (41 :: rest))) := by simp
    rw [e1, hw.1.go (stop_sgn (by decide)), go_cons, if_neg (by decide), if_pos (by decide), g.go _ (stop_sgn (by decide)), go_cons, if_neg (by decide), if_pos (by decide)]
    simp [emit, open_chars, close_chars]
end Tk

set_option maxHeartbeats 4000000
namespace Bk
open PySem PySem.Spec PyProof.Rows L2
local macro_rules
  | `(tactic| walk_at "go") => `(tactic| repeat (first
      | with_reducible refine g_seq ?_
      | with_reducible refine g_next ?_
      | with_reducible refine g_asg ?_
      | with_reducible refine g_name ?_
      | with_reducible refine g_ret ?_
      | with_reducible refine g_drop ?_
      | with_reducible refine g_ifs ?_
      | with_reducible refine g_if ?_
      | with_reducible refine g_c ?_
      | ((with_reducible refine (?_ : tVar _ _ _ _)); refine ⟨_, rfl, ?_⟩)
      | with_reducible refine g_op ?_
      | with_reducible refine g_un ?_
      | with_reducible refine g_I0 ?_
      | with_reducible refine g_neg ?_
      | with_reducible refine g_eqI ?_
      | with_reducible refine g_eqS ?_
      | with_reducible refine g_neI ?_
      | with_reducible refine g_neS ?_
      | with_reducible refine g_eqB ?_
      | with_reducible refine g_neB ?_
      | with_reducible refine g_test ?_
      | with_reducible refine g_b ?_
      | with_reducible refine g_and ?_
      | with_reducible refine g_or ?_
      | with_reducible refine g_not ?_
      | with_reducible refine g_andV ?_
      | with_reducible refine g_orV ?_
      | with_reducible refine g_notV ?_
      | with_reducible refine iteT ?_
      | with_reducible refine iteF ?_
      | with_reducible refine iteNF ?_
      | with_reducible refine iteNT ?_
      | with_reducible refine ⟨_, rfl, ?_⟩
      | with_reducible refine ⟨rfl, ?_⟩
      | with_reducible refine ⟨_, _, rfl, rfl, ?_⟩
      | with_reducible refine ⟨_, _, rfl, ?_⟩
      | with_reducible refine g_call ?_
      | with_reducible refine g_cb ?_
      | with_reducible refine g_cons ?_
      | with_reducible refine g_nil ?_
      | with_reducible refine g_chain ?_
      | with_reducible refine g_dget ?_
      | with_reducible refine g_dput ?_
      | with_reducible refine g_tup ?_
      | with_reducible refine g_lst ?_
      | with_reducible refine g_bm ?_
      | with_reducible refine g_disp ?_
      | with_reducible refine g_pairs0 ?_
      | with_reducible refine g_pairs ?_
      | with_reducible refine g_for ?_
      | with_reducible refine g_gcons ?_
      | with_reducible refine g_gnil ?_
      | with_reducible refine g_rng1 ?_
      | with_reducible refine g_rng2 ?_
      | with_reducible refine g_ilist ?_
      | with_reducible refine g_itup ?_
      | with_reducible refine g_lc ?_
      | with_reducible refine g_yes ?_
      | with_reducible refine g_sl ?_
      | with_reducible refine g_nopart ?_
      | with_reducible refine g_part ?_
      | with_reducible refine g_bm0 ?_
      ))

local macro_rules
  | `(tactic| walk_at "ev") => `(tactic| repeat' (first
      | exact eva_nil
      | apply eva_cons
      | exact evd_str _
      | exact evd_int _
      | exact evd_bl _
      | exact evd_non
      | exact evd_var rfl
      | apply evd_tup
      | apply evd_lst
      | apply evd_I0
      | apply evd_I
      | apply evd_neg
      | exact Nat.le_of_ble_eq_true rfl
      | decide
      | exact ⟨by decide, by decide, by decide⟩))
def topS (i : Nat) : Stmt := PySem.Challenge.pw_contractbook_k35_whole_what_is_read.main.body.getD i (.Pass ⟨0, 0, 0, 0⟩)
/-! ### the law's own drawing: what stands in the dict of the script -/
structure Cfg where
  sz : Int
  pl : Int
  tu : Int
  ta : Int
structure Cfg.Ok (c : Cfg) : Prop where
  sz1 : 1 ≤ c.sz
  sz8 : c.sz ≤ 8
  pl0 : 0 ≤ c.pl
  plz : c.pl < c.sz
  tu0 : 0 ≤ c.tu
  tuz : c.tu < 26
  ta : c.ta = 0 ∨ c.ta = 1
def sd (c : Cfg) (na nm : Addr) (n re mx : Int) : List (Key × V) :=
  [(.inr "numbers", .ref na), (.inr "at", .int n), (.inr "size", .int c.sz), (.inr "place", .int c.pl), (.inr "turn", .int c.tu), (.inr "talk", .int c.ta), (.inr "rest", .int re), (.inr "names", .ref nm), (.inr "mixed", .int mx)]
structure LS (K : PySem.W.Frag) (c : Cfg) (ns : List Int) (xs : List Str) (s na nm : Addr) (H : Hp) : Prop where
  st : ∃ n re mx : Int, H s = some (.dK (sd c na nm n re mx)) ∧ 0 ≤ n ∧ 0 ≤ re ∧ 0 ≤ mx ∧ mx < 2147483647
  num : SqL K H na (ns.map V.int)
  nms : SqL K H nm (xs.map V.str)
  ok : c.Ok
  len : ns.length ≤ 63
  few : xs.length ≤ 8
theorem LS.same {K : PySem.W.Frag} {c : Cfg} {ns : List Int} {xs : List Str} {s na nm : Addr} {H H' : Hp} (L : LS K c ns xs s na nm H) (e : Same H H') : LS K c ns xs s na nm H' := by
  obtain ⟨⟨n, re, mx, h, r⟩, h1, h2, h3, h4, h5⟩ := L
  exact ⟨⟨n, re, mx, e _ _ h, r⟩, e.seq h1, e.seq h2, h3, h4, h5⟩
theorem LS.put {K : PySem.W.Frag} {c : Cfg} {ns : List Int} {xs : List Str} {s na nm : Addr} {H : Hp} (L : LS K c ns xs s na nm H) {n re mx : Int} (h0 : 0 ≤ n) (h1 : 0 ≤ re) (h2 : 0 ≤ mx) (h3 : mx < 2147483647) :
    LS K c ns xs s na nm (upd H s (.dK (sd c na nm n re mx))) := by
  obtain ⟨⟨n', re', mx', h, r⟩, g1, g2, g3, g4, g5⟩ := L
  exact ⟨⟨n, re, mx, upd_same, h0, h1, h2, h3⟩, KB.seq KB.upd h g1, KB.seq KB.upd h g2, g3, g4, g5⟩
theorem LS.tm {K : PySem.W.Frag} {c : Cfg} {ns : List Int} {xs : List Str} {s na nm : Addr} {H H' : Hp} (L : LS K c ns xs s na nm H) (e : KB s H H') : TM K H H' := by
  obtain ⟨⟨n, re, mx, h, r⟩, _⟩ := L
  exact e.tm h
/-- a number is taken: 0 up to m -/
def spTaken (K : PySem.W.Frag) : Sp := fun vs H Q _ => ∃ (c : Cfg) (ns : List Int) (xs : List Str) (s na nm : Addr) (m : Int), vs = [.ref s, .int m] ∧ LS K c ns xs s na nm H ∧ 0 < m ∧ m ≤ 10000000000000 ∧
  ∀ (r : Int) (H' : Hp), 0 ≤ r → r < m → KB s H H' → LS K c ns xs s na nm H' → Q (.int r) H'
theorem use_taken {K : PySem.W.Frag} {c : Cfg} {ns : List Int} {xs : List Str} {s na nm : Addr} {m : Int} {H : Hp} {Q : VK} {E : XK} (L : LS K c ns xs s na nm H) (h0 : 0 < m) (h1 : m ≤ 10000000000000)
    (q : ∀ (r : Int) (H' : Hp), 0 ≤ r → r < m → KB s H H' → LS K c ns xs s na nm H' → Q (.int r) H') : spTaken K ([.ref s, .int m] ++ []) H Q E := ⟨c, ns, xs, s, na, nm, m, rfl, L, h0, h1, q⟩
theorem log_small {i m : Int} (h0 : 0 < m) (h1 : m ≤ 10000000000000) : CDivW i m := wide_div (b := 64) h0 (by omega) (by decide) (by decide)
section
variable {P : Program} {w : World} {K : PySem.W.Frag} {mg : Str → Option Value} {base : Heap}
abbrev s__law_taken : Stmt := topS 37
theorem sc__law_taken : FnScope ["_law_s", "_law_most", "_law_found", "_law_number_here"] ["_law_s", "_law_most"] (defScope s__law_taken) := ⟨rfl, rfl, rfl, by decide +kernel, rfl, by decide +kernel, by decide +kernel⟩
theorem h__law_taken {k : Nat} {f : Addr} {fd : FuncData} (O : Own K mg "_law_taken" s__law_taken ["_law_s", "_law_most"] f fd)  (m_len : mg "len" = none) (m_int : mg "int" = none) : Has P w K mg base "_law_taken" ["_law_s", "_law_most"] (k + 1) CX0 (spTaken K) f fd := by
  refine O.has (O.F.ok sc__law_taken (fun vs H Q E h => ?_) (fun cdv A outer s H vs Q E hr h => ?_))
  · obtain ⟨c, ns, xs, s, na, nm, m, rfl, _⟩ := h
    rfl
  obtain ⟨c, ns, xs, s, na, nm, m, rfl, L, h0, h1, q⟩ := h
  obtain ⟨n, re, mx, hs, g0, g1, g2, g3⟩ := L.st
  refine ⟨_, (pss_cons (ps_if (pt_cmpR op_gt (pe_dget (hu_of hr) (pv 0) pe_str (fun _ _ => rfl)) pe_int (nomark _)) (pss_cons (ps_set (i := 2) sc__law_taken.nd rfl (.inl rfl) (pe_op op_mod (pe_dget (hu_of hr) (pv 0) pe_str (fun _ _ => rfl)) (pv 1))) (pss_cons (ps_dput (hu_of hr) (pv 0) pe_str (pe_op op_fdivW (pe_dget (hu_of hr) (pv 0) pe_str (fun _ _ => rfl)) (pv 1)) (by rfl)) (pss_one (ps_ret (pv 2))))) pss_nil) (pss_cons (ps_dput (hu_of hr) (pv 0) pe_str (pe_op op_add (pe_dget (hu_of hr) (pv 0) pe_str (fun _ _ => rfl)) pe_int) (by rfl)) (pss_cons (ps_if (pt_cmpR op_le (pe_dget (hu_of hr) (pv 0) pe_str (fun _ _ => rfl)) (pe_callB call_len_seq (by rfl) m_len (by decide +kernel) (pa_cons (pe_dget (hu_of hr) (pv 0) pe_str (fun _ _ => rfl)) pa_nil)) (nomark _)) (pss_cons (ps_set (i := 3) sc__law_taken.nd rfl (.inl rfl) (pe_ix ix_list (pe_dget (hu_of hr) (pv 0) pe_str (fun _ _ => rfl)) (pe_op op_sub (pe_dget (hu_of hr) (pv 0) pe_str (fun _ _ => rfl)) pe_int) (fun _ _ => rfl))) (pss_cons (ps_dput (hu_of hr) (pv 0) pe_str (pe_op op_mul (pe_op op_fdivW (pv 3) (pv 1)) (pe_callTy call_int1 (by rfl) m_int (by decide +kernel) (pa_cons (pe_cmpR op_ge (pv 3) (pe_op op_pow pe_int pe_int) (nomark _)) pa_nil))) (by rfl)) (pss_one (ps_ret (pe_op op_mod (pv 3) (pv 1)))))) pss_nil) (pss_cons (ps_dput (hu_of hr) (pv 0) pe_str (pe_op op_mod (pe_op op_mul (pe_dget (hu_of hr) (pv 0) pe_str (fun _ _ => rfl)) pe_int) pe_int) (by rfl)) (pss_one (ps_ret (pe_ifExp (pt_cmpR op_gt (pv 1) (pe_op op_pow pe_int pe_int) (nomark _)) (pe_op op_mod (pe_op op_pow (pe_op op_fdivW (pe_dget (hu_of hr) (pv 0) pe_str (fun _ _ => rfl)) pe_int) pe_int) (pv 1)) (pe_op op_mod (pe_op op_fdivW (pe_dget (hu_of hr) (pv 0) pe_str (fun _ _ => rfl)) pe_int) (pv 1))))))))), ?_⟩
  walk_at "go"
  refine g_key hs (by rfl) ?_
  walk_at "go"
  refine ifd (fun c1 => ?_) (fun c1 => ?_)
  · walk_at "go"
    refine g_key hs (by rfl) ?_
    walk_at "go"
    refine g_I h0 ?_
    walk_at "go"
    refine g_key hs (by rfl) ?_
    walk_at "go"
    refine g_I (log_small h0 h1) ?_
    walk_at "go"
    refine g_put hs (by show 9 < sizeLine; decide) (by rfl) ?_
    walk_at "go"
    exact q _ _ (Int.emod_nonneg _ (by omega)) (Int.emod_lt_of_pos _ h0) KB.upd (L.put g0 (Int.ediv_nonneg g1 (by omega)) g2 g3)
  walk_at "go"
  refine g_key hs (by rfl) ?_
  walk_at "go"
  refine g_put hs (by show 9 < sizeLine; decide) (by rfl) ?_
  have L2 := L.put (n := n + 1) (re := re) (mx := mx) (by omega) g1 g2 g3
  have hs2 : (upd H s (.dK (sd c na nm (n + 1) re mx))) s = some (.dK (sd c na nm (n + 1) re mx)) := upd_same
  walk_at "go"
  refine g_key hs2 (by rfl) ?_
  walk_at "go"
  refine g_key hs2 (by rfl) ?_
  walk_at "go"
  refine ⟨_, _, rfl, .inl L2.num, ?_⟩
  walk_at "go"
  refine ifd (fun c2 => ?_) (fun c2 => ?_)
  · walk_at "go"
    refine g_key hs2 (by rfl) ?_
    walk_at "go"
    refine g_key hs2 (by rfl) ?_
    walk_at "go"
    rw [List.length_map] at c2
    have hk : n.toNat < ns.length := by omega
    refine ⟨_, _, _, .int ns[n.toNat], rfl, rfl, L2.num, at_of (j := n.toNat) (by omega) (by rw [List.getElem?_map, List.getElem?_eq_getElem hk]; rfl), ?_⟩
    generalize ns[n.toNat] = z
    walk_at "go"
    refine g_I (log_small h0 h1) ?_
    walk_at "go"
    refine g_I ⟨by decide, by decide, by decide⟩ ?_
    walk_at "go"
    refine .inr ⟨_, rfl, ?_⟩
    refine g_I (.inr (by split <;> decide)) ?_
    walk_at "go"
    refine g_put hs2 (by show 9 < sizeLine; decide) (by rfl) ?_
    walk_at "go"
    refine g_I h0 ?_
    rw [upd_upd]
    refine q _ _ (Int.emod_nonneg _ (by omega)) (Int.emod_lt_of_pos _ h0) KB.upd (L.put (by omega) ?_ g2 g3)
    by_cases hz : (10 : Int) ^ (18 : Int).toNat ≤ z
    · rw [decide_eq_true hz]
      have : 0 ≤ z := Int.le_trans (by decide) hz
      exact Int.mul_nonneg (Int.ediv_nonneg this (by omega)) (by decide)
    · rw [decide_eq_false hz]
      simp
  walk_at "go"
  refine g_key hs2 (by rfl) ?_
  walk_at "go"
  refine g_I (.inl (by omega)) ?_
  walk_at "go"
  refine g_I (by decide) ?_
  walk_at "go"
  refine g_put hs2 (by show 9 < sizeLine; decide) (by rfl) ?_
  rw [upd_upd]
  have b0 : 0 ≤ mx * 48271 % 2147483647 := Int.emod_nonneg _ (by decide)
  have b1 : mx * 48271 % 2147483647 < 2147483647 := Int.emod_lt_of_pos _ (by decide)
  generalize mx * 48271 % 2147483647 = my at b0 b1 ⊢
  have L3 := L.put (n := n + 1) (re := re) (mx := my) (by omega) g1 b0 b1
  have hs3 : (upd H s (.dK (sd c na nm (n + 1) re my))) s = some (.dK (sd c na nm (n + 1) re my)) := upd_same
  walk_at "go"
  refine g_I ⟨by decide, by decide, by decide⟩ ?_
  walk_at "go"
  refine ifd (fun c3 => ?_) (fun c3 => ?_)
  · walk_at "go"
    refine g_key hs3 (by rfl) ?_
    walk_at "go"
    refine g_I ⟨by decide, by decide⟩ ?_
    walk_at "go"
    refine g_I ⟨by decide, by decide, by omega⟩ ?_
    walk_at "go"
    refine g_I h0 ?_
    exact q _ _ (Int.emod_nonneg _ (by omega)) (Int.emod_lt_of_pos _ h0) KB.upd L3
  · walk_at "go"
    refine g_key hs3 (by rfl) ?_
    walk_at "go"
    refine g_I ⟨by decide, by decide⟩ ?_
    walk_at "go"
    refine g_I h0 ?_
    exact q _ _ (Int.emod_nonneg _ (by omega)) (Int.emod_lt_of_pos _ h0) KB.upd L3
end

/-! ### words, numbers -/
def wordsL : List Str := ["none", "give", "both", "turned", "later", "often", "if", "num", "read", "plus", "below", "all"]
def wd (c : Cfg) (k : Int) : Str := if c.ta = 1 ∧ k < 12 then wordsL.getD k.toNat "none" else rp 113 c.pl ++ ⟨#[97 + ((k + c.tu) % 26).toNat]⟩ ++ rp 113 (c.sz - c.pl - 1)
theorem letters_at : ∀ j : Fin 26, (Str.ofString "abcdefghijklmnopqrstuvwxyz").cps.toList[j.val]? = some (97 + j.val) := by decide +kernel
theorem app_len (a b : Str) : (a ++ b).length = a.length + b.length := by
  show (a.cps ++ b.cps).size = a.cps.size + b.cps.size
  simp
def spWord (K : PySem.W.Frag) : Sp := fun vs H Q _ => ∃ (c : Cfg) (ns : List Int) (xs : List Str) (s na nm : Addr) (k : Int), vs = [.ref s, .int k] ∧ LS K c ns xs s na nm H ∧ 0 ≤ k ∧ k ≤ 1000 ∧ ∀ H', Same H H' → Q (.str (wd c k)) H'
theorem use_word {K : PySem.W.Frag} {c : Cfg} {ns : List Int} {xs : List Str} {s na nm : Addr} {k : Int} {H : Hp} {Q : VK} {E : XK} (L : LS K c ns xs s na nm H) (h0 : 0 ≤ k) (h1 : k ≤ 1000) (q : ∀ H', Same H H' → Q (.str (wd c k)) H') :
    spWord K ([.ref s, .int k] ++ []) H Q E := ⟨c, ns, xs, s, na, nm, k, rfl, L, h0, h1, q⟩
def spNumber (K : PySem.W.Frag) : Sp := fun vs H Q _ => ∃ (c : Cfg) (ns : List Int) (xs : List Str) (s na nm : Addr), vs = [.ref s] ∧ LS K c ns xs s na nm H ∧
  ∀ (r : Int) (H' : Hp), -1000000000000 < r → r < 1000000000000 → KB s H H' → LS K c ns xs s na nm H' → Q (.int r) H'
theorem use_number {K : PySem.W.Frag} {c : Cfg} {ns : List Int} {xs : List Str} {s na nm : Addr} {H : Hp} {Q : VK} {E : XK} (L : LS K c ns xs s na nm H)
    (q : ∀ (r : Int) (H' : Hp), -1000000000000 < r → r < 1000000000000 → KB s H H' → LS K c ns xs s na nm H' → Q (.int r) H') : spNumber K ([.ref s] ++ []) H Q E := ⟨c, ns, xs, s, na, nm, rfl, L, q⟩
section
variable {P : Program} {w : World} {K : PySem.W.Frag} {mg : Str → Option Value} {base : Heap}
abbrev s__law_word : Stmt := topS 38
theorem sc__law_word : FnScope ["_law_s", "_law_k", "_law_words", "_law_sign"] ["_law_s", "_law_k"] (defScope s__law_word) := ⟨rfl, rfl, rfl, by decide +kernel, rfl, by decide +kernel, by decide +kernel⟩
theorem h__law_word {k : Nat} {f : Addr} {fd : FuncData} (O : Own K mg "_law_word" s__law_word ["_law_s", "_law_k"] f fd)  : Has P w K mg base "_law_word" ["_law_s", "_law_k"] (k + 1) CX0 (spWord K) f fd := by
  refine O.has (O.F.ok sc__law_word (fun vs H Q E h => ?_) (fun cdv A outer s H vs Q E hr h => ?_))
  · obtain ⟨c, ns, xs, s, na, nm, k, rfl, _⟩ := h
    rfl
  obtain ⟨c, ns, xs, s, na, nm, k, rfl, L, h0, h1, q⟩ := h
  obtain ⟨n, re, mx, hs, g0, g1, g2, g3⟩ := L.st
  have c0 := L.ok
  refine ⟨_, (pss_cons (ps_if (PW.pt (pw_and (pt_cmpR op_eq (pe_dget (hu_of hr) (pv 0) pe_str (fun _ _ => rfl)) pe_int (nomark _)) (pw_and1 (pt_cmpR op_lt (pv 1) pe_int (nomark _))))) (pss_cons (ps_set (i := 2) sc__law_word.nd rfl (.inl rfl) (pe_lst (pa_cons pe_str (pa_cons pe_str (pa_cons pe_str (pa_cons pe_str (pa_cons pe_str (pa_cons pe_str (pa_cons pe_str (pa_cons pe_str (pa_cons pe_str (pa_cons pe_str (pa_cons pe_str (pa_cons pe_str pa_nil)))))))))))))) (pss_one (ps_ret (pe_ix ix_list (pv 2) (pv 1) (fun _ _ => rfl))))) pss_nil) (pss_cons (ps_set (i := 3) sc__law_word.nd rfl (.inl rfl) (pe_ix ix_str pe_str (pe_op op_mod (pe_op op_add (pv 1) (pe_dget (hu_of hr) (pv 0) pe_str (fun _ _ => rfl))) pe_int) (fun _ _ => rfl))) (pss_one (ps_ret (pe_op op_add_str (pe_op op_add_str (pe_op op_rep_str pe_str (pe_dget (hu_of hr) (pv 0) pe_str (fun _ _ => rfl))) (pv 3)) (pe_op op_rep_str pe_str (pe_op op_sub (pe_op op_sub (pe_dget (hu_of hr) (pv 0) pe_str (fun _ _ => rfl)) (pe_dget (hu_of hr) (pv 0) pe_str (fun _ _ => rfl))) pe_int))))))), ?_⟩
  have tail : ∀ (H1 : Hp), Same H H1 → ¬ (c.ta = 1 ∧ k < 12) → Q (.str (rp 113 c.pl ++ ⟨#[97 + ((k + c.tu) % 26).toNat]⟩ ++ rp 113 (c.sz - c.pl - 1))) H1 := fun H1 e hc => by
    have z := q H1 e
    unfold wd at z
    rw [if_neg hc] at z
    exact z
  walk_at "go"
  refine g_key hs (by rfl) ?_
  walk_at "go"
  refine and_cut (k < 12) (fun hc => ?_) (fun c1 back => ?_)
  · walk_at "go"
    refine g_key hs (by rfl) ?_
    walk_at "go"
    refine g_I (by decide) ?_
    have b0 : 0 ≤ (k + c.tu) % 26 := Int.emod_nonneg _ (by decide)
    have b1 : (k + c.tu) % 26 < 26 := Int.emod_lt_of_pos _ (by decide)
    have bn : ((k + c.tu) % 26).toNat < 26 := by omega
    refine ⟨_, (k + c.tu) % 26, 97 + ((k + c.tu) % 26).toNat, rfl, rfl, by decide +kernel, at_any (j := ((k + c.tu) % 26).toNat) (by omega) (letters_at ⟨((k + c.tu) % 26).toNat, bn⟩), ?_⟩
    walk_at "go"
    refine g_key hs (by rfl) ?_
    have p0 := c0.pl0
    have p1 := c0.plz
    have p2 := c0.sz8
    refine ⟨113, c.pl, rfl, rfl, p0, by omega, ?_⟩
    walk_at "go"
    have e1 : (rp 113 c.pl).length ≤ 8 := by rw [rp_len]; omega
    have e2 : (⟨#[97 + ((k + c.tu) % 26).toNat]⟩ : Str).length = 1 := rfl
    have hz : (1000 : Nat) ≤ sizeLine := by decide
    refine ⟨by omega, ?_⟩
    walk_at "go"
    refine g_key hs (by rfl) ?_
    walk_at "go"
    refine g_key hs (by rfl) ?_
    walk_at "go"
    refine ⟨113, c.sz - c.pl - 1, rfl, rfl, by omega, by omega, ?_⟩
    have e3 : (rp 113 (c.sz - c.pl - 1)).length ≤ 8 := by rw [rp_len]; omega
    walk_at "go"
    refine ⟨?_, ?_⟩
    · rw [app_len]; omega
    · exact tail H (Same.refl H) hc
  · walk_at "go"
    refine ifd (fun c2 => ?_) back
    walk_at "go"
    refine ⟨by show 12 ≤ sizeLine; decide, fun p hp => ?_⟩
    walk_at "go"
    have hk : k.toNat < wordsL.length := by show k.toNat < 12; omega
    have hi : (wordsL.map V.str)[k.toNat]? = some (.str (wordsL.getD k.toNat "none")) := by
      rw [List.getElem?_map, List.getD, List.getElem?_eq_getElem hk]
      rfl
    refine ⟨_, wordsL.map V.str, _, _, rfl, rfl, sql upd_same, at_of (j := k.toNat) (by omega) hi, ?_⟩
    have z := q _ (same_new (o := .lst (wordsL.map V.str)) hp)
    unfold wd at z
    rw [if_pos ⟨c1, c2⟩] at z
    exact z
abbrev s__law_number : Stmt := topS 39
theorem sc__law_number : FnScope ["_law_s"] ["_law_s"] (defScope s__law_number) := ⟨rfl, rfl, rfl, by decide +kernel, rfl, by decide +kernel, by decide +kernel⟩
theorem h__law_number {k : Nat} {f : Addr} {fd : FuncData} (O : Own K mg "_law_number" s__law_number ["_law_s"] f fd)  {f__law_taken : Addr} {fd__law_taken : FuncData} (D__law_taken : Has P w K mg base "_law_taken" ["_law_s", "_law_most"] k CX0 (spTaken K) f__law_taken fd__law_taken) : Has P w K mg base "_law_number" ["_law_s"] (k + 1) CX0 (spNumber K) f fd := by
  refine O.has (O.F.ok sc__law_number (fun vs H Q E h => ?_) (fun cdv A outer s H vs Q E hr h => ?_))
  · obtain ⟨c, ns, xs, s, na, nm, rfl, _⟩ := h
    rfl
  obtain ⟨c, ns, xs, s, na, nm, rfl, L, q⟩ := h
  refine ⟨_, (pss_cons (ps_if (pt_cmpR op_eq (pe_call D__law_taken.G hr (by rfl) D__law_taken.g D__law_taken.k D__law_taken.b .nil pass0 (pa_cons (pv 0) (pa_cons pe_int pa_nil))) pe_int (nomark _)) (pss_one (ps_ret (pe_op op_add (pe_op op_sub (pe_call D__law_taken.G hr (by rfl) D__law_taken.g D__law_taken.k D__law_taken.b .nil pass0 (pa_cons (pv 0) (pa_cons (pe_op op_sub (pe_op op_mul pe_int (pe_op op_pow pe_int pe_int)) pe_int) pa_nil))) (pe_op op_pow pe_int pe_int)) pe_int))) pss_nil) (pss_one (ps_ret (pe_op op_sub (pe_call D__law_taken.G hr (by rfl) D__law_taken.g D__law_taken.k D__law_taken.b .nil pass0 (pa_cons (pv 0) (pa_cons pe_int pa_nil))) pe_int)))), ?_⟩
  walk_at "go"
  refine use_taken L (by decide) (by decide) fun r H1 a0 a1 e1 L1 => ?_
  walk_at "go"
  refine ifd (fun c1 => ?_) (fun c1 => ?_)
  · walk_at "go"
    refine g_I ⟨by decide, by decide, by decide⟩ ?_
    walk_at "go"
    refine g_I (.inl ⟨by decide, by decide⟩) ?_
    walk_at "go"
    refine use_taken L1 (by decide) (by decide) fun r2 H2 b0 b1 e2 L2 => ?_
    walk_at "go"
    refine g_I ⟨by decide, by decide, by decide⟩ ?_
    walk_at "go"
    have e : (10 : Int) ^ (12 : Int).toNat = 1000000000000 := by decide
    rw [e] at b1 ⊢
    exact q _ _ (by omega) (by omega) (e1.trans e2) L2
  · walk_at "go"
    refine use_taken L1 (by decide) (by decide) fun r2 H2 b0 b1 e2 L2 => ?_
    walk_at "go"
    exact q _ _ (by omega) (by omega) (e1.trans e2) L2
end

/-! ### told numbers -/
inductive Op where
  | plus | minus | times | most | least
  deriving DecidableEq
def Op.word : Op → Str
  | .plus => "plus"
  | .minus => "minus"
  | .times => "times"
  | .most => "most"
  | .least => "least"
def Op.app : Op → Int → Int → Int
  | .plus, a, b => a + b
  | .minus, a, b => a - b
  | .times, a, b => a * b
  | .most, a, b => if b > a then b else a
  | .least, a, b => if b < a then b else a
inductive Num where
  | num (n : Int)
  | read (x : Str)
  | bin (o : Op) (a b : Num)
  deriving DecidableEq
def Num.deep : Num → Nat
  | .num _ => 0
  | .read _ => 0
  | .bin _ a b => max a.deep b.deep + 1
def Num.In (xs : List Str) : Num → Prop
  | .num n => -1000000000000 < n ∧ n < 1000000000000
  | .read x => x ∈ xs
  | .bin _ a b => a.In xs ∧ b.In xs
/-- the value v tells the number in the heap -/
def DN (K : PySem.W.Frag) (H : Hp) : Num → V → Prop
  | .num n, v => ∃ a, v = .ref a ∧ SqT K H a [.str "num", .int n]
  | .read x, v => ∃ a, v = .ref a ∧ SqT K H a [.str "read", .str x]
  | .bin o p q, v => ∃ a u z, v = .ref a ∧ SqT K H a [.str o.word, u, z] ∧ DN K H p u ∧ DN K H q z
theorem DN.tm {K : PySem.W.Frag} {H H' : Hp} (e : TM K H H') : ∀ {t : Num} {v : V}, DN K H t v → DN K H' t v
  | .num n, v, ⟨a, h1, h2⟩ => ⟨a, h1, e _ _ h2⟩
  | .read x, v, ⟨a, h1, h2⟩ => ⟨a, h1, e _ _ h2⟩
  | .bin o p q, v, ⟨a, u, z, h1, h2, h3, h4⟩ => ⟨a, u, z, h1, e _ _ h2, DN.tm e h3, DN.tm e h4⟩
def opWords : List V := [.str "plus", .str "minus", .str "times", .str "most", .str "least"]
theorem op_at {i : Int} (h0 : 0 ≤ i) (h1 : i < 5) : ∃ o : Op, atI opWords i = some (.str o.word) := by
  have : i = 0 ∨ i = 1 ∨ i = 2 ∨ i = 3 ∨ i = 4 := by omega
  rcases this with rfl | rfl | rfl | rfl | rfl
  · exact ⟨.plus, at_any (j := 0) rfl rfl⟩
  · exact ⟨.minus, at_any (j := 1) rfl rfl⟩
  · exact ⟨.times, at_any (j := 2) rfl rfl⟩
  · exact ⟨.most, at_any (j := 3) rfl rfl⟩
  · exact ⟨.least, at_any (j := 4) rfl rfl⟩
def spTold (K : PySem.W.Frag) (n : Nat) : Sp := fun vs H Q _ => ∃ (c : Cfg) (ns : List Int) (xs : List Str) (s na nm : Addr) (d : Int), vs = [.ref s, .int d] ∧ LS K c ns xs s na nm H ∧ 0 ≤ d ∧ d < n ∧
  ∀ (v : V) (t : Num) (H' : Hp), KB s H H' → LS K c ns xs s na nm H' → DN K H' t v → t.In xs → (t.deep : Int) ≤ d → Q v H'
theorem use_told {K : PySem.W.Frag} {n : Nat} {c : Cfg} {ns : List Int} {xs : List Str} {s na nm : Addr} {d : Int} {H : Hp} {Q : VK} {E : XK} (L : LS K c ns xs s na nm H) (h0 : 0 ≤ d) (h1 : d < n)
    (q : ∀ (v : V) (t : Num) (H' : Hp), KB s H H' → LS K c ns xs s na nm H' → DN K H' t v → t.In xs → (t.deep : Int) ≤ d → Q v H') : spTold K n ([.ref s, .int d] ++ []) H Q E := ⟨c, ns, xs, s, na, nm, d, rfl, L, h0, h1, q⟩
section
variable {P : Program} {w : World} {K : PySem.W.Frag} {mg : Str → Option Value} {base : Heap}
abbrev s__law_told : Stmt := topS 40
theorem sc__law_told : FnScope ["_law_s", "_law_deep", "_law_way", "_law_one"] ["_law_s", "_law_deep"] (defScope s__law_told) := ⟨rfl, rfl, rfl, by decide +kernel, rfl, by decide +kernel, by decide +kernel⟩
theorem h__law_told {n : Nat} {k : Nat} {f : Addr} {fd : FuncData} (O : Own K mg "_law_told" s__law_told ["_law_s", "_law_deep"] f fd)  {f__law_told : Addr} {fd__law_told : FuncData} (D__law_told : Has P w K mg base "_law_told" ["_law_s", "_law_deep"] k CX0 (spTold K n) f__law_told fd__law_told) {f__law_number : Addr} {fd__law_number : FuncData} (D__law_number : Has P w K mg base "_law_number" ["_law_s"] k CX0 (spNumber K) f__law_number fd__law_number) {f__law_taken : Addr} {fd__law_taken : FuncData} (D__law_taken : Has P w K mg base "_law_taken" ["_law_s", "_law_most"] k CX0 (spTaken K) f__law_taken fd__law_taken) (m_len : mg "len" = none) : Has P w K mg base "_law_told" ["_law_s", "_law_deep"] (k + 1) CX0 (spTold K (n + 1)) f fd := by
  refine O.has (O.F.ok sc__law_told (fun vs H Q E h => ?_) (fun cdv A outer s H vs Q E hr h => ?_))
  · obtain ⟨c, ns, xs, s, na, nm, d, rfl, _⟩ := h
    rfl
  obtain ⟨c, ns, xs, s, na, nm, d, rfl, L, h0, h1, q⟩ := h
  refine ⟨_, (pss_cons (ps_set (i := 2) sc__law_told.nd rfl (.inl rfl) (pe_call D__law_taken.G hr (by rfl) D__law_taken.g D__law_taken.k D__law_taken.b .nil pass0 (pa_cons (pv 0) (pa_cons pe_int pa_nil)))) (pss_cons (ps_if (PW.pt (pw_or (pt_cmpR op_lt (pv 2) pe_int (nomark _)) (pw_or1 (pt_cmpR op_eq (pv 1) pe_int (nomark _))))) (pss_cons (ps_if (PW.pt (pw_and (pt_cmpR op_eq (pe_op op_mod (pv 2) pe_int) pe_int (nomark _)) (pw_and1 (pt_cmpR op_gt (pe_callB call_len_seq (by rfl) m_len (by decide +kernel) (pa_cons (pe_dget (hu_of hr) (pv 0) pe_str (fun _ _ => rfl)) pa_nil)) pe_int (nomark _))))) (pss_one (ps_ret (pe_tup (pa_cons pe_str (pa_cons (pe_ix ix_list (pe_dget (hu_of hr) (pv 0) pe_str (fun _ _ => rfl)) (pe_call D__law_taken.G hr (by rfl) D__law_taken.g D__law_taken.k D__law_taken.b .nil pass0 (pa_cons (pv 0) (pa_cons (pe_callB call_len_seq (by rfl) m_len (by decide +kernel) (pa_cons (pe_dget (hu_of hr) (pv 0) pe_str (fun _ _ => rfl)) pa_nil)) pa_nil))) (fun _ _ => rfl)) pa_nil))))) pss_nil) (pss_one (ps_ret (pe_tup (pa_cons pe_str (pa_cons (pe_call D__law_number.G hr (by rfl) D__law_number.g D__law_number.k D__law_number.b .nil pass0 (pa_cons (pv 0) pa_nil)) pa_nil)))))) pss_nil) (pss_cons (ps_set (i := 3) sc__law_told.nd rfl (.inl rfl) (pe_call D__law_told.G hr (by rfl) D__law_told.g D__law_told.k D__law_told.b .nil pass0 (pa_cons (pv 0) (pa_cons (pe_op op_sub (pv 1) pe_int) pa_nil)))) (pss_one (ps_ret (pe_tup (pa_cons (pe_ix ix_list (pe_lst (pa_cons pe_str (pa_cons pe_str (pa_cons pe_str (pa_cons pe_str (pa_cons pe_str pa_nil)))))) (pe_op op_sub (pv 2) pe_int) (fun _ _ => rfl)) (pa_cons (pv 3) (pa_cons (pe_call D__law_told.G hr (by rfl) D__law_told.g D__law_told.k D__law_told.b .nil pass0 (pa_cons (pv 0) (pa_cons (pe_op op_sub (pv 1) pe_int) pa_nil))) pa_nil))))))))), ?_⟩
  walk_at "go"
  refine use_taken L (by decide) (by decide) fun r H1 a0 a1 e1 L1 => ?_
  have leaf : ∀ (Hx : Hp), KB s H Hx → LS K c ns xs s na nm Hx → ∀ (m : Int) (p : Addr), -1000000000000 < m → m < 1000000000000 → Hx p = none → Q (.ref p) (upd Hx p (.tup [.str "num", .int m])) := fun Hx ex Lx m p b0 b1 np =>
    q _ (.num m) _ (ex.trans (.of (same_new np))) (Lx.same (same_new np)) ⟨p, rfl, sqt upd_same⟩ ⟨b0, b1⟩ h0
  walk_at "go"
  refine or_cut (d = 0) (fun hc => ?_) (fun c1 back => ?_)
  · walk_at "go"
    refine g_I (by decide) ?_
    walk_at "go"
    obtain ⟨n1, re1, mx1, hs1, _⟩ := L1.st
    refine and_cut (0 < (xs.length : Int)) (fun hc => ?_) (fun c1 back => ?_)
    · walk_at "go"
      refine use_number L1 fun m H2 b0 b1 e2 L2 => ?_
      walk_at "go"
      refine ⟨by show 2 ≤ sizeLine; decide, fun p np => ?_⟩
      exact leaf H2 (e1.trans e2) L2 m p b0 b1 np
    · walk_at "go"
      refine g_key hs1 (by rfl) ?_
      walk_at "go"
      refine ⟨_, _, rfl, .inl L1.nms, ?_⟩
      walk_at "go"
      rw [List.length_map]
      refine ifd (fun c2 => ?_) back
      walk_at "go"
      refine g_key hs1 (by rfl) ?_
      walk_at "go"
      refine g_key hs1 (by rfl) ?_
      walk_at "go"
      refine ⟨_, _, rfl, .inl L1.nms, ?_⟩
      walk_at "go"
      rw [List.length_map]
      have few := L1.few
      refine use_taken L1 c2 (by omega) fun j H2 b0 b1 e2 L2 => ?_
      have hj : j.toNat < xs.length := by omega
      refine ⟨_, _, _, .str xs[j.toNat], rfl, rfl, L2.nms, at_of (j := j.toNat) (by omega) (by rw [List.getElem?_map, List.getElem?_eq_getElem hj]; rfl), ?_⟩
      walk_at "go"
      refine ⟨by show 2 ≤ sizeLine; decide, fun p np => ?_⟩
      exact q _ (.read xs[j.toNat]) _ ((e1.trans e2).trans (.of (same_new np))) (L2.same (same_new np)) ⟨p, rfl, sqt upd_same⟩ (List.getElem_mem hj) h0
  · walk_at "go"
    refine ifd back (fun c2 => ?_)
    walk_at "go"
    refine use_told L1 (by omega) (by omega) fun u t1 H2 e2 L2 d1 i1 p1 => ?_
    walk_at "go"
    refine ⟨by show 5 ≤ sizeLine; decide, fun p np => ?_⟩
    walk_at "go"
    obtain ⟨o, ho⟩ := op_at (i := r - 3) (by omega) (by omega)
    refine ⟨_, opWords, _, _, rfl, rfl, sql upd_same, ho, ?_⟩
    have s3 := same_new (o := .lst opWords) np
    have L3 := L2.same s3
    walk_at "go"
    refine use_told L3 (by omega) (by omega) fun z t2 H4 e4 L4 d2 i2 p2 => ?_
    walk_at "go"
    refine ⟨by show 3 ≤ sizeLine; decide, fun p' np' => ?_⟩
    have s5 := same_new (o := .tup [.str o.word, u, z]) np'
    refine q _ (.bin o t1 t2) _ ((((e1.trans e2).trans (.of s3)).trans e4).trans (.of s5)) (L4.same s5) ⟨p', u, z, rfl, sqt upd_same, ?_, ?_⟩ ⟨i1, i2⟩ ?_
    · exact DN.tm (((TM.of s3).trans (L3.tm e4)).trans (.of s5)) d1
    · exact DN.tm (.of s5) d2
    · show ((max t1.deep t2.deep + 1 : Nat) : Int) ≤ d
      omega
theorem none_told {f : Addr} {fd : FuncData} : FnOk P w K mg base CX0 0 f fd ["_law_s", "_law_deep"] (spTold K 0) := by
  have no : ∀ vs H Q E, ¬ spTold K 0 vs H Q E := fun vs H Q E h => by
    obtain ⟨c, ns, xs, s, na, nm, d, _, _, h0, h1, _⟩ := h
    omega
  exact ⟨fun vs H Q E h => absurd h (no vs H Q E), fun A outer s H args us vs Q E _ _ _ _ h => absurd h (no vs H Q E)⟩
end

/-! ### the drawing's beginning -/
def spBegun (K : PySem.W.Frag) : Sp := fun vs H Q _ => ∃ (ns : List Int) (na : Addr), vs = [.ref na] ∧ SqL K H na (ns.map V.int) ∧ ns.length ≤ 63 ∧
  ∀ (c : Cfg) (s nm : Addr) (H' : Hp), Same H H' → H s = none → LS K c ns [] s na nm H' → Q (.ref s) H'
theorem use_begun {K : PySem.W.Frag} {ns : List Int} {na : Addr} {H : Hp} {Q : VK} {E : XK} (h : SqL K H na (ns.map V.int)) (hl : ns.length ≤ 63)
    (q : ∀ (c : Cfg) (s nm : Addr) (H' : Hp), Same H H' → H s = none → LS K c ns [] s na nm H' → Q (.ref s) H') : spBegun K ([.ref na] ++ []) H Q E := ⟨ns, na, rfl, h, hl, q⟩
def sd0 (na : Addr) : List (Key × V) :=
  [(.inr "numbers", .ref na), (.inr "at", .int 0), (.inr "size", .int 1), (.inr "place", .int 0), (.inr "turn", .int 0), (.inr "talk", .int 0), (.inr "rest", .int 0)]
def cfg0 : Cfg := ⟨1, 0, 0, 0⟩
theorem cfg0_ok : cfg0.Ok := ⟨by decide, by decide, by decide, by decide, by decide, by decide, .inl rfl⟩
/-- a number of the dict is set anew -/
theorem LS.cfg {K : PySem.W.Frag} {c c' : Cfg} {ns : List Int} {xs : List Str} {s na nm : Addr} {H : Hp} {n re mx : Int} (L : LS K c ns xs s na nm H) (h0 : 0 ≤ n) (h1 : 0 ≤ re) (h2 : 0 ≤ mx) (h3 : mx < 2147483647) (ok : c'.Ok) :
    LS K c' ns xs s na nm (upd H s (.dK (sd c' na nm n re mx))) := by
  obtain ⟨⟨n', re', mx', h, r⟩, g1, g2, g3, g4, g5⟩ := L
  exact ⟨⟨n, re, mx, upd_same, h0, h1, h2, h3⟩, KB.seq KB.upd h g1, KB.seq KB.upd h g2, ok, g4, g5⟩
theorem same_kb {s : Addr} {H H1 H2 : Hp} (a : Same H H1) (n : H s = none) (b : KB s H1 H2) : Same H H2 := fun x o h => b x o (ne_of_none h n) (a x o h)
section
variable {P : Program} {w : World} {K : PySem.W.Frag} {mg : Str → Option Value} {base : Heap}
abbrev s__law_begun : Stmt := topS 36
theorem sc__law_begun : FnScope ["_law_script", "_law_mixed", "_law_cell", "_law_s"] ["_law_script"] (defScope s__law_begun) := ⟨rfl, rfl, rfl, by decide +kernel, rfl, by decide +kernel, by decide +kernel⟩
theorem h__law_begun {k : Nat} {f : Addr} {fd : FuncData} (O : Own K mg "_law_begun" s__law_begun ["_law_script"] f fd)  {f__law_taken : Addr} {fd__law_taken : FuncData} (D__law_taken : Has P w K mg base "_law_taken" ["_law_s", "_law_most"] k CX0 (spTaken K) f__law_taken fd__law_taken) (m_int : mg "int" = none) (m_len : mg "len" = none) : Has P w K mg base "_law_begun" ["_law_script"] (k + 1) CX0 (spBegun K) f fd := by
  refine O.has (O.F.ok sc__law_begun (fun vs H Q E h => ?_) (fun cdv A outer s H vs Q E hr h => ?_))
  · obtain ⟨ns, na, rfl, _⟩ := h
    rfl
  obtain ⟨ns, na, rfl, hS, h63, q⟩ := h
  refine ⟨_, (pss_cons (ps_set (i := 1) sc__law_begun.nd rfl (.inl rfl) pe_int) (pss_cons (ps_for PassesOwn.never rfl (pi_list (pv 0)) (pg_name (i := 2) sc__law_begun.nd rfl (.inl rfl)) (pss_one (ps_set (i := 1) sc__law_begun.nd rfl (.inl rfl) (pe_op op_mod (pe_op op_add (pe_op op_add (pe_op op_mul (pv 1) pe_int) (pe_op op_mul (pv 2) pe_int)) pe_int) pe_int)))) (pss_cons (ps_set (i := 3) sc__law_begun.nd rfl (.inl rfl) (pe_disp (pps_cons pe_str (pv 0) (pps_cons pe_str pe_int (pps_cons pe_str pe_int (pps_cons pe_str pe_int (pps_cons pe_str pe_int (pps_cons pe_str pe_int (pps_cons pe_str pe_int pps_nil))))))) (by rfl) (by rfl) (fun z => by cases z) (by decide))) (pss_cons (ps_dput (hu_of hr) (pv 3) pe_str (pe_lst pa_nil) (by rfl)) (pss_cons (ps_dput (hu_of hr) (pv 3) pe_str (pe_op op_mul (pv 1) (pe_callTy call_int1 (by rfl) m_int (by decide +kernel) (pa_cons (pe_cmpR op_gt (pe_callB call_len_seq (by rfl) m_len (by decide +kernel) (pa_cons (pv 0) pa_nil)) pe_int (nomark _)) pa_nil))) (by rfl)) (pss_cons (ps_dput (hu_of hr) (pv 3) pe_str (pe_op op_add pe_int (pe_call D__law_taken.G hr (by rfl) D__law_taken.g D__law_taken.k D__law_taken.b .nil pass0 (pa_cons (pv 3) (pa_cons pe_int pa_nil)))) (by rfl)) (pss_cons (ps_dput (hu_of hr) (pv 3) pe_str (pe_call D__law_taken.G hr (by rfl) D__law_taken.g D__law_taken.k D__law_taken.b .nil pass0 (pa_cons (pv 3) (pa_cons (pe_dget (hu_of hr) (pv 3) pe_str (fun _ _ => rfl)) pa_nil))) (by rfl)) (pss_cons (ps_dput (hu_of hr) (pv 3) pe_str (pe_call D__law_taken.G hr (by rfl) D__law_taken.g D__law_taken.k D__law_taken.b .nil pass0 (pa_cons (pv 3) (pa_cons pe_int pa_nil))) (by rfl)) (pss_cons (ps_dput (hu_of hr) (pv 3) pe_str (pe_callTy call_int1 (by rfl) m_int (by decide +kernel) (pa_cons (pe_cmpR op_eq (pe_call D__law_taken.G hr (by rfl) D__law_taken.g D__law_taken.k D__law_taken.b .nil pass0 (pa_cons (pv 3) (pa_cons pe_int pa_nil))) pe_int (nomark _)) pa_nil)) (by rfl)) (pss_one (ps_ret (pv 3)))))))))))), ?_⟩
  walk_at "go"
  refine ⟨⟨_, hS⟩, for_list (xs := ns.map V.int) (fun i σ H3 => H3 = H ∧ ∃ (m : Int) (y : Option V), σ = [some (.ref na), some (.int m), y, none] ∧ 0 ≤ m ∧ m < 2147483647)
    ⟨rfl, 0, none, rfl, by decide, by decide⟩ (fun i σ H3 hi hW => ?_) (fun i x σ H3 hx hW => ?_) (fun σ H3 hW => ?_)⟩
  · obtain ⟨rfl, _⟩ := hW
    exact hS
  · obtain ⟨rfl, m, y, rfl, m0, m1⟩ := hW
    rw [List.getElem?_map] at hx
    obtain ⟨z, hz, rfl⟩ := Option.map_eq_some_iff.mp hx
    walk_at "go"
    refine g_I (.inl (by omega)) ?_
    walk_at "go"
    refine g_I (.inr (by decide)) ?_
    walk_at "go"
    refine g_I (by decide) ?_
    walk_at "go"
    exact ⟨Int.emod_nonneg _ (by decide), Int.emod_lt_of_pos _ (by decide)⟩
  obtain ⟨rfl, m, y, rfl, m0, m1⟩ := hW
  walk_at "go"
  intro s nsn
  walk_at "go"
  refine ⟨upd_same, sd0 na, rfl, by show 7 ≤ 15; decide, ?_⟩
  rw [upd_upd]
  have s1 := same_new (o := .dK (sd0 na)) nsn
  have hs1 : (upd H3 s (.dK (sd0 na))) s = some (.dK (sd0 na)) := upd_same
  show _
  walk_at "go"
  refine ⟨by show 0 ≤ sizeLine; decide, fun nm nn => ?_⟩
  walk_at "go"
  have s2 := same_new (o := .lst []) nn
  have hsn : s ≠ nm := ne_of_none hs1 nn
  refine g_put (s2 _ _ hs1) (by show 7 < sizeLine; decide) (by rfl) ?_
  walk_at "go"
  refine ⟨_, _, rfl, .inl (KB.seq KB.upd (s2 _ _ hs1) ((s1.trans s2).seq hS)), ?_⟩
  walk_at "go"
  refine .inr ⟨_, rfl, ?_⟩
  refine g_I (.inl (by omega)) ?_
  walk_at "go"
  refine g_put upd_same (by show 8 < sizeLine; decide) (by rfl) ?_
  rw [upd_upd]
  have hmx : 0 ≤ m * (if decide (2 < (((ns.map V.int).length : Nat) : Int)) = true then 1 else 0) ∧ m * (if decide (2 < (((ns.map V.int).length : Nat) : Int)) = true then 1 else 0) < 2147483647 := by
    split <;> omega
  generalize m * (if decide (2 < (((ns.map V.int).length : Nat) : Int)) = true then 1 else 0) = mx at hmx ⊢
  have L1 : LS K cfg0 ns [] s na nm (upd (upd (upd H3 s (.dK (sd0 na))) nm (.lst [])) s (.dK (sd cfg0 na nm 0 0 mx))) :=
    ⟨⟨0, 0, mx, upd_same, by decide, by decide, hmx.1, hmx.2⟩, KB.seq KB.upd (s2 _ _ hs1) ((s1.trans s2).seq hS), sql (by rw [upd_ne hsn.symm]; exact upd_same), cfg0_ok, h63, by decide⟩
  have e1 : Same H3 (upd (upd (upd H3 s (.dK (sd0 na))) nm (.lst [])) s (.dK (sd cfg0 na nm 0 0 mx))) := same_kb (s1.trans s2) nsn KB.upd
  show tSeq _ _ _ _ (upd (upd (upd H3 s (.dK (sd0 na))) nm (.lst [])) s (.dK (sd cfg0 na nm 0 0 mx)))
  generalize upd (upd (upd H3 s (.dK (sd0 na))) nm (.lst [])) s (.dK (sd cfg0 na nm 0 0 mx)) = H4 at L1 e1 ⊢
  -- size
  walk_at "go"
  refine use_taken L1 (by decide) (by decide) fun a H5 a0 a1 e5 L5 => ?_
  walk_at "go"
  obtain ⟨n5, re5, mx5, hs5, g0, g1, g2, g3⟩ := L5.st
  refine g_put hs5 (by show 9 < sizeLine; decide) (by rfl) ?_
  have L6 := L5.cfg (c' := ⟨1 + a, 0, 0, 0⟩) g0 g1 g2 g3 ⟨by show 1 ≤ 1 + a; omega, by show 1 + a ≤ 8; omega, Int.le_refl 0, by show 0 < 1 + a; omega, Int.le_refl 0, (by decide : (0 : Int) < 26), .inl rfl⟩
  have hs6 : upd H5 s (.dK (sd ⟨1 + a, 0, 0, 0⟩ na nm n5 re5 mx5)) s = some (.dK (sd ⟨1 + a, 0, 0, 0⟩ na nm n5 re5 mx5)) := upd_same
  have e6 : KB s H4 (upd H5 s (.dK (sd ⟨1 + a, 0, 0, 0⟩ na nm n5 re5 mx5))) := e5.trans KB.upd
  -- place
  walk_at "go"
  refine g_key hs6 (by rfl) ?_
  walk_at "go"
  refine use_taken L6 (by show 0 < 1 + a; omega) (by show 1 + a ≤ 10000000000000; omega) fun b H7 b0 b1 e7 L7 => ?_
  walk_at "go"
  obtain ⟨n7, re7, mx7, hs7, i0, i1, i2, i3⟩ := L7.st
  refine g_put hs7 (by show 9 < sizeLine; decide) (by rfl) ?_
  have L8 := L7.cfg (c' := ⟨1 + a, b, 0, 0⟩) i0 i1 i2 i3 ⟨by show 1 ≤ 1 + a; omega, by show 1 + a ≤ 8; omega, b0, b1, Int.le_refl 0, (by decide : (0 : Int) < 26), .inl rfl⟩
  -- turn
  walk_at "go"
  refine use_taken L8 (by decide) (by decide) fun t H9 t0 t1 e9 L9 => ?_
  walk_at "go"
  obtain ⟨n9, re9, mx9, hs9, j0, j1, j2, j3⟩ := L9.st
  refine g_put hs9 (by show 9 < sizeLine; decide) (by rfl) ?_
  have L10 := L9.cfg (c' := ⟨1 + a, b, t, 0⟩) j0 j1 j2 j3 ⟨by show 1 ≤ 1 + a; omega, by show 1 + a ≤ 8; omega, b0, b1, t0, t1, .inl rfl⟩
  -- talk
  walk_at "go"
  refine use_taken L10 (by decide) (by decide) fun u H11 u0 u1 e11 L11 => ?_
  walk_at "go"
  refine .inr ⟨_, rfl, ?_⟩
  walk_at "go"
  obtain ⟨n11, re11, mx11, hs11, k0, k1, k2, k3⟩ := L11.st
  refine g_put hs11 (by show 9 < sizeLine; decide) (by rfl) ?_
  have L12 := L11.cfg (c' := ⟨1 + a, b, t, if decide (u = 8) = true then 1 else 0⟩) k0 k1 k2 k3 ⟨by show 1 ≤ 1 + a; omega, by show 1 + a ≤ 8; omega, b0, b1, t0, t1, by
    show (if decide (u = 8) = true then (1 : Int) else 0) = 0 ∨ (if decide (u = 8) = true then (1 : Int) else 0) = 1
    split
    · exact .inr rfl
    · exact .inl rfl⟩
  walk_at "go"
  refine q _ s nm _ (same_kb e1 nsn ?_) nsn L12
  exact ((((((e6.trans e7).trans KB.upd).trans e9).trans KB.upd).trans e11).trans KB.upd)
end

/-! ### conditions -/
inductive Cond where
  | lt (a b : Num)
  | neg (a : Cond)
  | con (a b : Cond)
  | dis (a b : Cond)
  deriving DecidableEq
def Cond.deep : Cond → Nat
  | .lt _ _ => 0
  | .neg a => a.deep + 1
  | .con a b => max a.deep b.deep + 1
  | .dis a b => max a.deep b.deep + 1
def Cond.In (xs : List Str) (m : Nat) : Cond → Prop
  | .lt a b => (a.In xs ∧ a.deep ≤ m) ∧ b.In xs ∧ b.deep ≤ m
  | .neg a => a.In xs m
  | .con a b => a.In xs m ∧ b.In xs m
  | .dis a b => a.In xs m ∧ b.In xs m
def DC (K : PySem.W.Frag) (H : Hp) : Cond → V → Prop
  | .lt p q, v => ∃ a u z, v = .ref a ∧ SqT K H a [.str "below", u, z] ∧ DN K H p u ∧ DN K H q z
  | .neg p, v => ∃ a u, v = .ref a ∧ SqT K H a [.str "not", u] ∧ DC K H p u
  | .con p q, v => ∃ a u z, v = .ref a ∧ SqT K H a [.str "all", u, z] ∧ DC K H p u ∧ DC K H q z
  | .dis p q, v => ∃ a u z, v = .ref a ∧ SqT K H a [.str "any", u, z] ∧ DC K H p u ∧ DC K H q z
theorem DC.tm {K : PySem.W.Frag} {H H' : Hp} (e : TM K H H') : ∀ {t : Cond} {v : V}, DC K H t v → DC K H' t v
  | .lt p q, v, ⟨a, u, z, h1, h2, h3, h4⟩ => ⟨a, u, z, h1, e _ _ h2, DN.tm e h3, DN.tm e h4⟩
  | .neg p, v, ⟨a, u, h1, h2, h3⟩ => ⟨a, u, h1, e _ _ h2, DC.tm e h3⟩
  | .con p q, v, ⟨a, u, z, h1, h2, h3, h4⟩ => ⟨a, u, z, h1, e _ _ h2, DC.tm e h3, DC.tm e h4⟩
  | .dis p q, v, ⟨a, u, z, h1, h2, h3, h4⟩ => ⟨a, u, z, h1, e _ _ h2, DC.tm e h3, DC.tm e h4⟩
def spAsked (K : PySem.W.Frag) (n : Nat) : Sp := fun vs H Q _ => ∃ (c : Cfg) (ns : List Int) (xs : List Str) (s na nm : Addr) (d : Int), vs = [.ref s, .int d] ∧ LS K c ns xs s na nm H ∧ 0 ≤ d ∧ d < n ∧
  ∀ (v : V) (t : Cond) (H' : Hp), KB s H H' → LS K c ns xs s na nm H' → DC K H' t v → t.In xs 1 → (t.deep : Int) ≤ d → Q v H'
theorem use_asked {K : PySem.W.Frag} {n : Nat} {c : Cfg} {ns : List Int} {xs : List Str} {s na nm : Addr} {d : Int} {H : Hp} {Q : VK} {E : XK} (L : LS K c ns xs s na nm H) (h0 : 0 ≤ d) (h1 : d < n)
    (q : ∀ (v : V) (t : Cond) (H' : Hp), KB s H H' → LS K c ns xs s na nm H' → DC K H' t v → t.In xs 1 → (t.deep : Int) ≤ d → Q v H') : spAsked K n ([.ref s, .int d] ++ []) H Q E := ⟨c, ns, xs, s, na, nm, d, rfl, L, h0, h1, q⟩
section
variable {P : Program} {w : World} {K : PySem.W.Frag} {mg : Str → Option Value} {base : Heap}
abbrev s__law_asked : Stmt := topS 42
theorem sc__law_asked : FnScope ["_law_s", "_law_deep", "_law_way", "_law_one"] ["_law_s", "_law_deep"] (defScope s__law_asked) := ⟨rfl, rfl, rfl, by decide +kernel, rfl, by decide +kernel, by decide +kernel⟩
theorem h__law_asked {n : Nat} {k : Nat} {f : Addr} {fd : FuncData} (O : Own K mg "_law_asked" s__law_asked ["_law_s", "_law_deep"] f fd)  {f__law_asked : Addr} {fd__law_asked : FuncData} (D__law_asked : Has P w K mg base "_law_asked" ["_law_s", "_law_deep"] k CX0 (spAsked K n) f__law_asked fd__law_asked) {f__law_told : Addr} {fd__law_told : FuncData} (D__law_told : Has P w K mg base "_law_told" ["_law_s", "_law_deep"] k CX0 (spTold K 4) f__law_told fd__law_told) {f__law_taken : Addr} {fd__law_taken : FuncData} (D__law_taken : Has P w K mg base "_law_taken" ["_law_s", "_law_most"] k CX0 (spTaken K) f__law_taken fd__law_taken) : Has P w K mg base "_law_asked" ["_law_s", "_law_deep"] (k + 1) CX0 (spAsked K (n + 1)) f fd := by
  refine O.has (O.F.ok sc__law_asked (fun vs H Q E h => ?_) (fun cdv A outer s H vs Q E hr h => ?_))
  · obtain ⟨c, ns, xs, s, na, nm, d, rfl, _⟩ := h
    rfl
  obtain ⟨c, ns, xs, s, na, nm, d, rfl, L, h0, h1, q⟩ := h
  refine ⟨_, (pss_cons (ps_set (i := 2) sc__law_asked.nd rfl (.inl rfl) (pe_call D__law_taken.G hr (by rfl) D__law_taken.g D__law_taken.k D__law_taken.b .nil pass0 (pa_cons (pv 0) (pa_cons pe_int pa_nil)))) (pss_cons (ps_if (PW.pt (pw_or (pt_cmpR op_lt (pv 2) pe_int (nomark _)) (pw_or1 (pt_cmpR op_eq (pv 1) pe_int (nomark _))))) (pss_cons (ps_set (i := 3) sc__law_asked.nd rfl (.inl rfl) (pe_call D__law_told.G hr (by rfl) D__law_told.g D__law_told.k D__law_told.b .nil pass0 (pa_cons (pv 0) (pa_cons pe_int pa_nil)))) (pss_one (ps_ret (pe_tup (pa_cons pe_str (pa_cons (pv 3) (pa_cons (pe_call D__law_told.G hr (by rfl) D__law_told.g D__law_told.k D__law_told.b .nil pass0 (pa_cons (pv 0) (pa_cons pe_int pa_nil))) pa_nil))))))) pss_nil) (pss_cons (ps_set (i := 3) sc__law_asked.nd rfl (.inl rfl) (pe_call D__law_asked.G hr (by rfl) D__law_asked.g D__law_asked.k D__law_asked.b .nil pass0 (pa_cons (pv 0) (pa_cons (pe_op op_sub (pv 1) pe_int) pa_nil)))) (pss_cons (ps_if (pt_cmpR op_eq (pv 2) pe_int (nomark _)) (pss_one (ps_ret (pe_tup (pa_cons pe_str (pa_cons (pv 3) pa_nil))))) pss_nil) (pss_one (ps_ret (pe_tup (pa_cons (pe_ix ix_list (pe_lst (pa_cons pe_str (pa_cons pe_str pa_nil))) (pe_op op_sub (pv 2) pe_int) (fun _ _ => rfl)) (pa_cons (pv 3) (pa_cons (pe_call D__law_asked.G hr (by rfl) D__law_asked.g D__law_asked.k D__law_asked.b .nil pass0 (pa_cons (pv 0) (pa_cons (pe_op op_sub (pv 1) pe_int) pa_nil))) pa_nil)))))))))), ?_⟩
  walk_at "go"
  refine use_taken L (by decide) (by decide) fun r H1 a0 a1 e1 L1 => ?_
  walk_at "go"
  refine or_cut (d = 0) (fun hc => ?_) (fun c1 back => ?_)
  · walk_at "go"
    refine use_told L1 (by decide) (by decide) fun u t1 H2 e2 L2 d1 i1 p1 => ?_
    walk_at "go"
    refine use_told L2 (by decide) (by decide) fun z t2 H3 e3 L3 d2 i2 p2 => ?_
    walk_at "go"
    refine ⟨by show 3 ≤ sizeLine; decide, fun p np => ?_⟩
    have s4 := same_new (o := .tup [.str "below", u, z]) np
    refine q _ (.lt t1 t2) _ (((e1.trans e2).trans e3).trans (.of s4)) (L3.same s4) ⟨p, u, z, rfl, sqt upd_same, ?_, ?_⟩ ⟨⟨i1, by omega⟩, i2, by omega⟩ h0
    · exact DN.tm ((L2.tm e3).trans (.of s4)) d1
    · exact DN.tm (.of s4) d2
  · walk_at "go"
    refine ifd back (fun c2 => ?_)
    walk_at "go"
    refine use_asked L1 (by omega) (by omega) fun u t1 H2 e2 L2 d1 i1 p1 => ?_
    walk_at "go"
    refine ifd (fun c3 => ?_) (fun c3 => ?_)
    · walk_at "go"
      refine ⟨by show 2 ≤ sizeLine; decide, fun p np => ?_⟩
      have s3 := same_new (o := .tup [.str "not", u]) np
      exact q _ (.neg t1) _ ((e1.trans e2).trans (.of s3)) (L2.same s3) ⟨p, u, rfl, sqt upd_same, DC.tm (.of s3) d1⟩ i1 (by show ((t1.deep + 1 : Nat) : Int) ≤ d; omega)
    · walk_at "go"
      refine ⟨by show 2 ≤ sizeLine; decide, fun p np => ?_⟩
      have s3 := same_new (o := .lst [.str "all", .str "any"]) np
      have L3 := L2.same s3
      walk_at "go"
      have fin : ∀ (o : Bool), atI [V.str "all", V.str "any"] (r - 4) = some (.str (if o then "all" else "any")) → _ := fun o => id
      have hw : atI [V.str "all", V.str "any"] (r - 4) = some (.str "all") ∨ atI [V.str "all", V.str "any"] (r - 4) = some (.str "any") := by
        have : r - 4 = 0 ∨ r - 4 = 1 := by omega
        rcases this with e | e
        · rw [e]; exact .inl (at_any (j := 0) rfl rfl)
        · rw [e]; exact .inr (at_any (j := 1) rfl rfl)
      rcases hw with hw | hw
      · refine ⟨_, _, _, _, rfl, rfl, sql upd_same, hw, ?_⟩
        walk_at "go"
        refine use_asked L3 (by omega) (by omega) fun z t2 H4 e4 L4 d2 i2 p2 => ?_
        walk_at "go"
        refine ⟨by show 3 ≤ sizeLine; decide, fun p' np' => ?_⟩
        have s5 := same_new (o := .tup [.str "all", u, z]) np'
        refine q _ (.con t1 t2) _ ((((e1.trans e2).trans (.of s3)).trans e4).trans (.of s5)) (L4.same s5) ⟨p', u, z, rfl, sqt upd_same, ?_, ?_⟩ ⟨i1, i2⟩ ?_
        · exact DC.tm (((TM.of s3).trans (L3.tm e4)).trans (.of s5)) d1
        · exact DC.tm (.of s5) d2
        · show ((max t1.deep t2.deep + 1 : Nat) : Int) ≤ d
          omega
      · refine ⟨_, _, _, _, rfl, rfl, sql upd_same, hw, ?_⟩
        walk_at "go"
        refine use_asked L3 (by omega) (by omega) fun z t2 H4 e4 L4 d2 i2 p2 => ?_
        walk_at "go"
        refine ⟨by show 3 ≤ sizeLine; decide, fun p' np' => ?_⟩
        have s5 := same_new (o := .tup [.str "any", u, z]) np'
        refine q _ (.dis t1 t2) _ ((((e1.trans e2).trans (.of s3)).trans e4).trans (.of s5)) (L4.same s5) ⟨p', u, z, rfl, sqt upd_same, ?_, ?_⟩ ⟨i1, i2⟩ ?_
        · exact DC.tm (((TM.of s3).trans (L3.tm e4)).trans (.of s5)) d1
        · exact DC.tm (.of s5) d2
        · show ((max t1.deep t2.deep + 1 : Nat) : Int) ≤ d
          omega
theorem none_asked {f : Addr} {fd : FuncData} : FnOk P w K mg base CX0 0 f fd ["_law_s", "_law_deep"] (spAsked K 0) := by
  have no : ∀ vs H Q E, ¬ spAsked K 0 vs H Q E := fun vs H Q E h => by
    obtain ⟨c, ns, xs, s, na, nm, d, _, _, h0, h1, _⟩ := h
    omega
  exact ⟨fun vs H Q E h => absurd h (no vs H Q E), fun A outer s H args us vs Q E _ _ _ _ h => absurd h (no vs H Q E)⟩
end

/-! ### words are words, and differ -/
def isW (x : Str) : Bool := decide (1 ≤ x.length) && (decide (x.length ≤ 8) && x.cps.toList.all fun c => decide (97 ≤ c) && decide (c ≤ 122))
theorem wd_codes {c : Cfg} {k : Int} (h : ¬ (c.ta = 1 ∧ k < 12)) : (wd c k).cps.toList = List.replicate c.pl.toNat 113 ++ (97 + ((k + c.tu) % 26).toNat) :: List.replicate (c.sz - c.pl - 1).toNat 113 := by
  unfold wd
  rw [if_neg h]
  show ((rp 113 c.pl).cps ++ #[97 + ((k + c.tu) % 26).toNat] ++ (rp 113 (c.sz - c.pl - 1)).cps).toList = _
  simp [rp]
theorem talk_words : ∀ i : Fin 12, isW (wordsL.getD i.val "none") = true := by decide +kernel
theorem talk_ne : ∀ i j : Fin 12, wordsL.getD i.val "none" = wordsL.getD j.val "none" → i = j := by decide +kernel
theorem wd_word {c : Cfg} (ok : c.Ok) {k : Int} (h0 : 0 ≤ k) : isW (wd c k) = true := by
  by_cases h : c.ta = 1 ∧ k < 12
  · unfold wd
    rw [if_pos h]
    exact talk_words ⟨k.toNat, by omega⟩
  · have e := wd_codes h
    have h1 := ok.pl0
    have h2 := ok.plz
    have h3 := ok.sz8
    have l : (wd c k).length = c.pl.toNat + (1 + (c.sz - c.pl - 1).toNat) := by
      show (wd c k).cps.size = _
      rw [← Array.length_toList, e]
      simp
      omega
    unfold isW
    rw [l, e]
    have b0 : 0 ≤ (k + c.tu) % 26 := Int.emod_nonneg _ (by decide)
    have b1 : (k + c.tu) % 26 < 26 := Int.emod_lt_of_pos _ (by decide)
    simp only [Bool.and_eq_true, decide_eq_true_eq, List.all_eq_true, List.mem_append, List.mem_cons, List.mem_replicate]
    refine ⟨by omega, by omega, fun x hx => ?_⟩
    rcases hx with hx | hx | hx <;> omega
theorem wd_ne {c : Cfg} (ok : c.Ok) {i j : Int} (h0 : 0 ≤ i) (h1 : i < 12) (h2 : 0 ≤ j) (h3 : j < 12) (h : i ≠ j) : wd c i ≠ wd c j := fun e => by
  by_cases ht : c.ta = 1
  · have e1 : wd c i = wordsL.getD i.toNat "none" := by unfold wd; rw [if_pos ⟨ht, h1⟩]
    have e2 : wd c j = wordsL.getD j.toNat "none" := by unfold wd; rw [if_pos ⟨ht, h3⟩]
    rw [e1, e2] at e
    have := talk_ne ⟨i.toNat, by omega⟩ ⟨j.toNat, by omega⟩ e
    have := congrArg Fin.val this
    simp at this
    omega
  · have q := congrArg (fun z : Str => z.cps.toList) e
    simp only [wd_codes (fun z => ht z.1)] at q
    have q2 := List.append_cancel_left q
    have q3 := (List.cons.inj q2).1
    omega
/-! ### contracts -/
inductive Con where
  | none
  | give (a b g : Str) (o : Num)
  | both (c d : Con)
  | turned (a b : Str) (c : Con)
  | later (n : Int) (c : Con)
  | often (n g : Int) (c : Con)
  | ite (q : Cond) (c d : Con)
  | whn (q : Cond) (c : Con)
  | untl (q : Cond) (c : Con)
  deriving DecidableEq
def Con.deep : Con → Nat
  | .none => 0
  | .give _ _ _ _ => 0
  | .both c d => max c.deep d.deep + 1
  | .turned _ _ c => c.deep + 1
  | .later _ c => c.deep + 1
  | .often _ _ c => c.deep + 1
  | .ite _ c d => max c.deep d.deep + 1
  | .whn _ c => c.deep + 1
  | .untl _ c => c.deep + 1
def Con.In (xs : List Str) : Con → Prop
  | .none => True
  | .give a b g o => ((isW a = true ∧ isW b = true ∧ isW g = true) ∧ a ≠ b) ∧ o.In xs ∧ o.deep ≤ 2
  | .both c d => c.In xs ∧ d.In xs
  | .turned a b c => ((isW a = true ∧ isW b = true) ∧ a ≠ b) ∧ c.In xs
  | .later n c => (0 ≤ n ∧ n ≤ 99) ∧ c.In xs
  | .often n g c => (1 ≤ n ∧ n ≤ 9) ∧ (1 ≤ g ∧ g ≤ 99) ∧ c.In xs
  | .ite q c d => (q.In xs 1 ∧ q.deep ≤ 2) ∧ c.In xs ∧ d.In xs
  | .whn q c => (q.In xs 1 ∧ q.deep ≤ 2) ∧ c.In xs
  | .untl q c => (q.In xs 1 ∧ q.deep ≤ 2) ∧ c.In xs
def DK (K : PySem.W.Frag) (H : Hp) : Con → V → Prop
  | .none, v => ∃ p, v = .ref p ∧ SqT K H p [.str "none"]
  | .give a b g o, v => ∃ p u, v = .ref p ∧ SqT K H p [.str "give", .str a, .str b, .str g, u] ∧ DN K H o u
  | .both c d, v => ∃ p u z, v = .ref p ∧ SqT K H p [.str "both", u, z] ∧ DK K H c u ∧ DK K H d z
  | .turned a b c, v => ∃ p u, v = .ref p ∧ SqT K H p [.str "turned", .str a, .str b, u] ∧ DK K H c u
  | .later n c, v => ∃ p u, v = .ref p ∧ SqT K H p [.str "later", .int n, u] ∧ DK K H c u
  | .often n g c, v => ∃ p u, v = .ref p ∧ SqT K H p [.str "often", .int n, .int g, u] ∧ DK K H c u
  | .ite q c d, v => ∃ p x u z, v = .ref p ∧ SqT K H p [.str "if", x, u, z] ∧ DC K H q x ∧ DK K H c u ∧ DK K H d z
  | .whn q c, v => ∃ p x u, v = .ref p ∧ SqT K H p [.str "when", x, u] ∧ DC K H q x ∧ DK K H c u
  | .untl q c, v => ∃ p x u, v = .ref p ∧ SqT K H p [.str "until", x, u] ∧ DC K H q x ∧ DK K H c u
theorem DK.tm {K : PySem.W.Frag} {H H' : Hp} (e : TM K H H') : ∀ {t : Con} {v : V}, DK K H t v → DK K H' t v
  | .none, v, ⟨p, h1, h2⟩ => ⟨p, h1, e _ _ h2⟩
  | .give a b g o, v, ⟨p, u, h1, h2, h3⟩ => ⟨p, u, h1, e _ _ h2, DN.tm e h3⟩
  | .both c d, v, ⟨p, u, z, h1, h2, h3, h4⟩ => ⟨p, u, z, h1, e _ _ h2, DK.tm e h3, DK.tm e h4⟩
  | .turned a b c, v, ⟨p, u, h1, h2, h3⟩ => ⟨p, u, h1, e _ _ h2, DK.tm e h3⟩
  | .later n c, v, ⟨p, u, h1, h2, h3⟩ => ⟨p, u, h1, e _ _ h2, DK.tm e h3⟩
  | .often n g c, v, ⟨p, u, h1, h2, h3⟩ => ⟨p, u, h1, e _ _ h2, DK.tm e h3⟩
  | .ite q c d, v, ⟨p, x, u, z, h1, h2, h3, h4, h5⟩ => ⟨p, x, u, z, h1, e _ _ h2, DC.tm e h3, DK.tm e h4, DK.tm e h5⟩
  | .whn q c, v, ⟨p, x, u, h1, h2, h3, h4⟩ => ⟨p, x, u, h1, e _ _ h2, DC.tm e h3, DK.tm e h4⟩
  | .untl q c, v, ⟨p, x, u, h1, h2, h3, h4⟩ => ⟨p, x, u, h1, e _ _ h2, DC.tm e h3, DK.tm e h4⟩
theorem pick2 {α : Type} (x y : α) (b : Bool) : atI [x, y] (if b = true then 1 else 0) = some (if b = true then y else x) := by
  cases b
  · exact at_any (j := 0) rfl rfl
  · exact at_any (j := 1) rfl rfl
theorem pick3 {i : Int} (x y z : V) (h0 : 0 ≤ i) (h1 : i < 3) : atI [x, y, z] i = some x ∨ atI [x, y, z] i = some y ∨ atI [x, y, z] i = some z := by
  have : i = 0 ∨ i = 1 ∨ i = 2 := by omega
  rcases this with rfl | rfl | rfl
  · exact .inl (at_any (j := 0) rfl rfl)
  · exact .inr (.inl (at_any (j := 1) rfl rfl))
  · exact .inr (.inr (at_any (j := 2) rfl rfl))
theorem pick2i {i : Int} (x y : V) (h0 : 0 ≤ i) (h1 : i < 2) : atI [x, y] i = some x ∨ atI [x, y] i = some y := by
  have : i = 0 ∨ i = 1 := by omega
  rcases this with rfl | rfl
  · exact .inl (at_any (j := 0) rfl rfl)
  · exact .inr (at_any (j := 1) rfl rfl)
/-- two sides -/
def spSides (K : PySem.W.Frag) : Sp := fun vs H Q _ => ∃ (c : Cfg) (ns : List Int) (xs : List Str) (s na nm : Addr), vs = [.ref s] ∧ LS K c ns xs s na nm H ∧
  ∀ (p : Addr) (i j : Int) (H' : Hp), 0 ≤ i → i < 4 → 0 ≤ j → j < 4 → i ≠ j → KB s H H' → LS K c ns xs s na nm H' → SqT K H' p [.str (wd c i), .str (wd c j)] → Q (.ref p) H'
theorem use_sides {K : PySem.W.Frag} {c : Cfg} {ns : List Int} {xs : List Str} {s na nm : Addr} {H : Hp} {Q : VK} {E : XK} (L : LS K c ns xs s na nm H)
    (q : ∀ (p : Addr) (i j : Int) (H' : Hp), 0 ≤ i → i < 4 → 0 ≤ j → j < 4 → i ≠ j → KB s H H' → LS K c ns xs s na nm H' → SqT K H' p [.str (wd c i), .str (wd c j)] → Q (.ref p) H') : spSides K ([.ref s] ++ []) H Q E := ⟨c, ns, xs, s, na, nm, rfl, L, q⟩
def spGood (K : PySem.W.Frag) : Sp := fun vs H Q _ => ∃ (c : Cfg) (ns : List Int) (xs : List Str) (s na nm : Addr), vs = [.ref s] ∧ LS K c ns xs s na nm H ∧
  ∀ (i : Int) (H' : Hp), 4 ≤ i → i < 8 → KB s H H' → LS K c ns xs s na nm H' → Q (.str (wd c i)) H'
theorem use_good {K : PySem.W.Frag} {c : Cfg} {ns : List Int} {xs : List Str} {s na nm : Addr} {H : Hp} {Q : VK} {E : XK} (L : LS K c ns xs s na nm H)
    (q : ∀ (i : Int) (H' : Hp), 4 ≤ i → i < 8 → KB s H H' → LS K c ns xs s na nm H' → Q (.str (wd c i)) H') : spGood K ([.ref s] ++ []) H Q E := ⟨c, ns, xs, s, na, nm, rfl, L, q⟩
def spGive (K : PySem.W.Frag) : Sp := fun vs H Q _ => ∃ (c : Cfg) (ns : List Int) (xs : List Str) (s na nm : Addr), vs = [.ref s] ∧ LS K c ns xs s na nm H ∧
  ∀ (v : V) (t : Con) (H' : Hp), KB s H H' → LS K c ns xs s na nm H' → DK K H' t v → t.In xs → (t.deep = 0 ∧ ∃ i j g o, t = .give (wd c i) (wd c j) (wd c g) o ∧ (0 ≤ i ∧ i < 4) ∧ (0 ≤ j ∧ j < 4) ∧ 4 ≤ g ∧ g < 8) → Q v H'
theorem use_give {K : PySem.W.Frag} {c : Cfg} {ns : List Int} {xs : List Str} {s na nm : Addr} {H : Hp} {Q : VK} {E : XK} (L : LS K c ns xs s na nm H)
    (q : ∀ (v : V) (t : Con) (H' : Hp), KB s H H' → LS K c ns xs s na nm H' → DK K H' t v → t.In xs → (t.deep = 0 ∧ ∃ i j g o, t = .give (wd c i) (wd c j) (wd c g) o ∧ (0 ≤ i ∧ i < 4) ∧ (0 ≤ j ∧ j < 4) ∧ 4 ≤ g ∧ g < 8) → Q v H') : spGive K ([.ref s] ++ []) H Q E := ⟨c, ns, xs, s, na, nm, rfl, L, q⟩
section
variable {P : Program} {w : World} {K : PySem.W.Frag} {mg : Str → Option Value} {base : Heap}
abbrev s__law_sides : Stmt := topS 43
theorem sc__law_sides : FnScope ["_law_s", "_law_many", "_law_one", "_law_other"] ["_law_s"] (defScope s__law_sides) := ⟨rfl, rfl, rfl, by decide +kernel, rfl, by decide +kernel, by decide +kernel⟩
theorem h__law_sides {k : Nat} {f : Addr} {fd : FuncData} (O : Own K mg "_law_sides" s__law_sides ["_law_s"] f fd)  {f__law_word : Addr} {fd__law_word : FuncData} (D__law_word : Has P w K mg base "_law_word" ["_law_s", "_law_k"] k CX0 (spWord K) f__law_word fd__law_word) {f__law_taken : Addr} {fd__law_taken : FuncData} (D__law_taken : Has P w K mg base "_law_taken" ["_law_s", "_law_most"] k CX0 (spTaken K) f__law_taken fd__law_taken) : Has P w K mg base "_law_sides" ["_law_s"] (k + 1) CX0 (spSides K) f fd := by
  refine O.has (O.F.ok sc__law_sides (fun vs H Q E h => ?_) (fun cdv A outer s H vs Q E hr h => ?_))
  · obtain ⟨c, ns, xs, s, na, nm, rfl, _⟩ := h
    rfl
  obtain ⟨c, ns, xs, s, na, nm, rfl, L, q⟩ := h
  refine ⟨_, (pss_cons (ps_set (i := 1) sc__law_sides.nd rfl (.inl rfl) (pe_ix ix_list (pe_lst (pa_cons pe_int (pa_cons pe_int (pa_cons pe_int pa_nil)))) (pe_call D__law_taken.G hr (by rfl) D__law_taken.g D__law_taken.k D__law_taken.b .nil pass0 (pa_cons (pv 0) (pa_cons pe_int pa_nil))) (fun _ _ => rfl))) (pss_cons (ps_set (i := 2) sc__law_sides.nd rfl (.inl rfl) (pe_call D__law_taken.G hr (by rfl) D__law_taken.g D__law_taken.k D__law_taken.b .nil pass0 (pa_cons (pv 0) (pa_cons (pv 1) pa_nil)))) (pss_cons (ps_set (i := 3) sc__law_sides.nd rfl (.inl rfl) (pe_op op_mod (pe_op op_add (pe_op op_add (pv 2) pe_int) (pe_call D__law_taken.G hr (by rfl) D__law_taken.g D__law_taken.k D__law_taken.b .nil pass0 (pa_cons (pv 0) (pa_cons (pe_op op_sub (pv 1) pe_int) pa_nil)))) (pv 1))) (pss_one (ps_ret (pe_tup (pa_cons (pe_call D__law_word.G hr (by rfl) D__law_word.g D__law_word.k D__law_word.b .nil pass0 (pa_cons (pv 0) (pa_cons (pv 2) pa_nil))) (pa_cons (pe_call D__law_word.G hr (by rfl) D__law_word.g D__law_word.k D__law_word.b .nil pass0 (pa_cons (pv 0) (pa_cons (pv 3) pa_nil))) pa_nil)))))))), ?_⟩
  walk_at "go"
  refine ⟨by show 3 ≤ sizeLine; decide, fun p0 np0 => ?_⟩
  have s0 := same_new (o := .lst [.int 3, .int 3, .int 4]) np0
  have L0 := L.same s0
  walk_at "go"
  refine use_taken L0 (by decide) (by decide) fun r H1 a0 a1 e1 L1 => ?_
  obtain ⟨n0, re0, mx0, hs0, _⟩ := L0.st
  have hp0 : H1 p0 = some (.lst [.int 3, .int 3, .int 4]) := e1 _ _ (fun z => by rw [← z, upd_same] at hs0; cases hs0) upd_same
  have hm : ∃ m : Int, atI [V.int 3, V.int 3, V.int 4] r = some (.int m) ∧ 3 ≤ m ∧ m ≤ 4 := by
    rcases pick3 (.int 3) (.int 3) (.int 4) a0 a1 with z | z | z
    · exact ⟨3, z, by decide, by decide⟩
    · exact ⟨3, z, by decide, by decide⟩
    · exact ⟨4, z, by decide, by decide⟩
  obtain ⟨m, hm, m0, m1⟩ := hm
  refine ⟨_, _, _, _, rfl, rfl, sql hp0, hm, ?_⟩
  walk_at "go"
  refine use_taken L1 (by omega) (by omega) fun i H2 b0 b1 e2 L2 => ?_
  walk_at "go"
  refine use_taken L2 (by omega) (by omega) fun j H3 c0 c1 e3 L3 => ?_
  walk_at "go"
  refine g_I (by omega) ?_
  have d0 : 0 ≤ (i + 1 + j) % m := Int.emod_nonneg _ (by omega)
  have d1 : (i + 1 + j) % m < m := Int.emod_lt_of_pos _ (by omega)
  have d2 : (i + 1 + j) % m ≠ i := by
    have hm3 : m = 3 ∨ m = 4 := by omega
    rcases hm3 with rfl | rfl <;> omega
  generalize (i + 1 + j) % m = o at d0 d1 d2 ⊢
  walk_at "go"
  refine use_word L3 b0 (by omega) fun H4 e4 => ?_
  walk_at "go"
  refine use_word (L3.same e4) d0 (by omega) fun H5 e5 => ?_
  refine ⟨by show 2 ≤ sizeLine; decide, fun p np => ?_⟩
  have s6 := (e4.trans e5).trans (same_new (o := .tup [.str (wd c i), .str (wd c o)]) np)
  exact q p i o _ b0 (by omega) d0 (by omega) d2.symm (((((KB.of s0).trans e1).trans e2).trans e3).trans (.of s6)) (L3.same s6) (sqt upd_same)
abbrev s__law_good : Stmt := topS 44
theorem sc__law_good : FnScope ["_law_s"] ["_law_s"] (defScope s__law_good) := ⟨rfl, rfl, rfl, by decide +kernel, rfl, by decide +kernel, by decide +kernel⟩
theorem h__law_good {k : Nat} {f : Addr} {fd : FuncData} (O : Own K mg "_law_good" s__law_good ["_law_s"] f fd)  {f__law_word : Addr} {fd__law_word : FuncData} (D__law_word : Has P w K mg base "_law_word" ["_law_s", "_law_k"] k CX0 (spWord K) f__law_word fd__law_word) {f__law_taken : Addr} {fd__law_taken : FuncData} (D__law_taken : Has P w K mg base "_law_taken" ["_law_s", "_law_most"] k CX0 (spTaken K) f__law_taken fd__law_taken) : Has P w K mg base "_law_good" ["_law_s"] (k + 1) CX0 (spGood K) f fd := by
  refine O.has (O.F.ok sc__law_good (fun vs H Q E h => ?_) (fun cdv A outer s H vs Q E hr h => ?_))
  · obtain ⟨c, ns, xs, s, na, nm, rfl, _⟩ := h
    rfl
  obtain ⟨c, ns, xs, s, na, nm, rfl, L, q⟩ := h
  refine ⟨_, (pss_one (ps_ret (pe_call D__law_word.G hr (by rfl) D__law_word.g D__law_word.k D__law_word.b .nil pass0 (pa_cons (pv 0) (pa_cons (pe_op op_add pe_int (pe_call D__law_taken.G hr (by rfl) D__law_taken.g D__law_taken.k D__law_taken.b .nil pass0 (pa_cons (pv 0) (pa_cons (pe_ix ix_list (pe_lst (pa_cons pe_int (pa_cons pe_int (pa_cons pe_int pa_nil)))) (pe_call D__law_taken.G hr (by rfl) D__law_taken.g D__law_taken.k D__law_taken.b .nil pass0 (pa_cons (pv 0) (pa_cons pe_int pa_nil))) (fun _ _ => rfl)) pa_nil)))) pa_nil))))), ?_⟩
  walk_at "go"
  refine ⟨by show 3 ≤ sizeLine; decide, fun p0 np0 => ?_⟩
  have s0 := same_new (o := .lst [.int 2, .int 2, .int 4]) np0
  have L0 := L.same s0
  walk_at "go"
  refine use_taken L0 (by decide) (by decide) fun r H1 a0 a1 e1 L1 => ?_
  obtain ⟨n0, re0, mx0, hs0, _⟩ := L0.st
  have hp0 : H1 p0 = some (.lst [.int 2, .int 2, .int 4]) := e1 _ _ (fun z => by rw [← z, upd_same] at hs0; cases hs0) upd_same
  have hm : ∃ m : Int, atI [V.int 2, V.int 2, V.int 4] r = some (.int m) ∧ 2 ≤ m ∧ m ≤ 4 := by
    rcases pick3 (.int 2) (.int 2) (.int 4) a0 a1 with z | z | z
    · exact ⟨2, z, by decide, by decide⟩
    · exact ⟨2, z, by decide, by decide⟩
    · exact ⟨4, z, by decide, by decide⟩
  obtain ⟨m, hm, m0, m1⟩ := hm
  refine ⟨_, _, _, _, rfl, rfl, sql hp0, hm, ?_⟩
  walk_at "go"
  refine use_taken L1 (by omega) (by omega) fun i H2 b0 b1 e2 L2 => ?_
  walk_at "go"
  refine use_word L2 (by omega) (by omega) fun H3 e3 => ?_
  exact q (4 + i) _ (by omega) (by omega) ((((KB.of s0).trans e1).trans e2).trans (.of e3)) (L2.same e3)
abbrev s__law_give : Stmt := topS 45
theorem sc__law_give : FnScope ["_law_s", "_law_one", "_law_other", "_law_good_here"] ["_law_s"] (defScope s__law_give) := ⟨rfl, rfl, rfl, by decide +kernel, rfl, by decide +kernel, by decide +kernel⟩
theorem h__law_give {k : Nat} {f : Addr} {fd : FuncData} (O : Own K mg "_law_give" s__law_give ["_law_s"] f fd)  {f__law_told : Addr} {fd__law_told : FuncData} (D__law_told : Has P w K mg base "_law_told" ["_law_s", "_law_deep"] k CX0 (spTold K 4) f__law_told fd__law_told) {f__law_good : Addr} {fd__law_good : FuncData} (D__law_good : Has P w K mg base "_law_good" ["_law_s"] k CX0 (spGood K) f__law_good fd__law_good) {f__law_sides : Addr} {fd__law_sides : FuncData} (D__law_sides : Has P w K mg base "_law_sides" ["_law_s"] k CX0 (spSides K) f__law_sides fd__law_sides) : Has P w K mg base "_law_give" ["_law_s"] (k + 1) CX0 (spGive K) f fd := by
  refine O.has (O.F.ok sc__law_give (fun vs H Q E h => ?_) (fun cdv A outer s H vs Q E hr h => ?_))
  · obtain ⟨c, ns, xs, s, na, nm, rfl, _⟩ := h
    rfl
  obtain ⟨c, ns, xs, s, na, nm, rfl, L, q⟩ := h
  refine ⟨_, (pss_cons (ps_asg (pe_call D__law_sides.G hr (by rfl) D__law_sides.g D__law_sides.k D__law_sides.b .nil pass0 (pa_cons (pv 0) pa_nil)) (pg_tup rfl (pgs_cons (pg_name (i := 1) sc__law_give.nd rfl (.inl rfl)) (pgs_cons (pg_name (i := 2) sc__law_give.nd rfl (.inl rfl)) pgs_nil)))) (pss_cons (ps_set (i := 3) sc__law_give.nd rfl (.inl rfl) (pe_call D__law_good.G hr (by rfl) D__law_good.g D__law_good.k D__law_good.b .nil pass0 (pa_cons (pv 0) pa_nil))) (pss_one (ps_ret (pe_tup (pa_cons pe_str (pa_cons (pv 1) (pa_cons (pv 2) (pa_cons (pv 3) (pa_cons (pe_call D__law_told.G hr (by rfl) D__law_told.g D__law_told.k D__law_told.b .nil pass0 (pa_cons (pv 0) (pa_cons pe_int pa_nil))) pa_nil)))))))))), ?_⟩
  walk_at "go"
  refine use_sides L fun p i j H1 i0 i1 j0 j1 ij e1 L1 hp => ?_
  refine g_gtup hp rfl ?_
  walk_at "go"
  refine use_good L1 fun g H2 g0 g1 e2 L2 => ?_
  walk_at "go"
  refine use_told L2 (by decide) (by decide) fun u t H3 e3 L3 d3 i3 p3 => ?_
  walk_at "go"
  refine ⟨by show 5 ≤ sizeLine; decide, fun p' np => ?_⟩
  have s4 := same_new (o := .tup [.str "give", .str (wd c i), .str (wd c j), .str (wd c g), u]) np
  have ok := L.ok
  exact q _ (.give (wd c i) (wd c j) (wd c g) t) _ (((e1.trans e2).trans e3).trans (.of s4)) (L3.same s4) ⟨p', u, rfl, sqt upd_same, DN.tm (.of s4) d3⟩
    ⟨⟨⟨wd_word ok i0, wd_word ok j0, wd_word ok (by omega)⟩, wd_ne ok i0 (by omega) j0 (by omega) ij⟩, i3, by omega⟩ ⟨rfl, i, j, g, t, rfl, ⟨i0, i1⟩, ⟨j0, j1⟩, g0, g1⟩
end

/-- the dict's names are set anew -/
theorem LS.names {K : PySem.W.Frag} {c : Cfg} {ns : List Int} {xs ys : List Str} {s na nm l : Addr} {H : Hp} {n re mx : Int} (L : LS K c ns xs s na nm H) (h0 : 0 ≤ n) (h1 : 0 ≤ re) (h2 : 0 ≤ mx) (h3 : mx < 2147483647) (hl : H l = some (.lst (ys.map V.str))) (hy : ys.length ≤ 8) :
    LS K c ns ys s na l (upd H s (.dK (sd c na l n re mx))) := by
  obtain ⟨⟨n', re', mx', h, r⟩, g1, g2, g3, g4, g5⟩ := L
  exact ⟨⟨n, re, mx, upd_same, h0, h1, h2, h3⟩, KB.seq KB.upd h g1, KB.seq KB.upd h (sql hl), g3, g4, hy⟩
/-- a list that was made while the drawing stood is changed -/
theorem LS.push {K : PySem.W.Frag} {c : Cfg} {ns : List Int} {xs : List Str} {s na nm D : Addr} {H2 H4 : Hp} {zs : List V} {o : HO} (L2 : LS K c ns xs s na nm H2) (nD : H2 D = none) (L4 : LS K c ns xs s na nm H4) (hD : H4 D = some (.lst zs)) :
    LS K c ns xs s na nm (upd H4 D o) := by
  obtain ⟨n, re, mx, hs, bd⟩ := L4.st
  have hDs : D ≠ s := ne_of hD hs (fun z => by cases z)
  have hlp : ∀ a u, a ≠ D → H4 a = some u → upd H4 D o a = some u := fun a u n h => by rw [upd_ne n]; exact h
  have ap : ∀ {b : Addr} {zs : List V}, SqL K H2 b zs → SqL K H4 b zs → SqL K (upd H4 D o) b zs := fun {b zs} y z => by
    have far : b ≠ D → SqL K (upd H4 D o) b zs := fun ne => by
      rcases z with (z | ⟨u, z⟩) | z
      · exact .inl (.inl (hlp _ _ ne z))
      · exact .inl (.inr ⟨u, hlp _ _ ne z⟩)
      · exact .inr z
    rcases y with (y | ⟨u, y⟩) | y
    · exact far (ne_of_none y nD)
    · exact far (ne_of_none y nD)
    · exact .inr y
  exact ⟨⟨n, re, mx, hlp _ _ hDs.symm hs, bd⟩, ap L2.num L4.num, ap L2.nms L4.nms, L4.ok, L4.len, L4.few⟩

def spContract (K : PySem.W.Frag) (n : Nat) : Sp := fun vs H Q _ => ∃ (c : Cfg) (ns : List Int) (xs : List Str) (s na nm : Addr) (d : Int), vs = [.ref s, .int d] ∧ LS K c ns xs s na nm H ∧ 0 ≤ d ∧ d < n ∧
  ∀ (v : V) (t : Con) (H' : Hp), KB s H H' → LS K c ns xs s na nm H' → DK K H' t v → t.In xs → (t.deep : Int) ≤ d → Q v H'
theorem use_contract {K : PySem.W.Frag} {n : Nat} {c : Cfg} {ns : List Int} {xs : List Str} {s na nm : Addr} {d : Int} {H : Hp} {Q : VK} {E : XK} (L : LS K c ns xs s na nm H) (h0 : 0 ≤ d) (h1 : d < n)
    (q : ∀ (v : V) (t : Con) (H' : Hp), KB s H H' → LS K c ns xs s na nm H' → DK K H' t v → t.In xs → (t.deep : Int) ≤ d → Q v H') : spContract K n ([.ref s, .int d] ++ []) H Q E := ⟨c, ns, xs, s, na, nm, d, rfl, L, h0, h1, q⟩
theorem none_contract {P : Program} {w : World} {K : PySem.W.Frag} {mg : Str → Option Value} {base : Heap} {f : Addr} {fd : FuncData} {ps : List Str} : FnOk P w K mg base CX0 0 f fd ps (spContract K 0) := by
  have no : ∀ vs H Q E, ¬ spContract K 0 vs H Q E := fun vs H Q E h => by
    obtain ⟨c, ns, xs, s, na, nm, d, _, _, h0, h1, _⟩ := h
    omega
  exact ⟨fun vs H Q E h => absurd h (no vs H Q E), fun A outer s H args us vs Q E _ _ _ _ h => absurd h (no vs H Q E)⟩
/-- a tuple told by two tuples put together -/
theorem cat2 {K : PySem.W.Frag} {H : Hp} {Q : VK} {a b : Addr} {xs ys : List V} (h1 : SqT K H a xs) (h2 : SqT K H b ys) (n1 : xs ≠ []) (n2 : ys ≠ []) (hl : xs.length + ys.length ≤ 1000) (q : ∀ p, H p = none → Q (.ref p) (upd H p (.tup (xs ++ ys)))) :
    rCatA K (.ref a) (.ref b) H Q := ⟨a, b, xs, ys, rfl, rfl, h1, h2, sz hl, fun z => absurd z n1, fun _ z => absurd z n2, fun _ _ => q⟩
section
variable {P : Program} {w : World} {K : PySem.W.Frag} {mg : Str → Option Value} {base : Heap}
abbrev s__law_contract : Stmt := topS 46
theorem sc__law_contract : FnScope ["_law_s", "_law_deep", "_law_way", "_law_one", "_law_hours", "_law_many", "_law_asked_here"] ["_law_s", "_law_deep"] (defScope s__law_contract) := ⟨rfl, rfl, rfl, by decide +kernel, rfl, by decide +kernel, by decide +kernel⟩
theorem h__law_contract {n : Nat} {k : Nat} {f : Addr} {fd : FuncData} (O : Own K mg "_law_contract" s__law_contract ["_law_s", "_law_deep"] f fd)  {f__law_contract : Addr} {fd__law_contract : FuncData} (D__law_contract : Has P w K mg base "_law_contract" ["_law_s", "_law_deep"] k CX0 (spContract K n) f__law_contract fd__law_contract) {f__law_asked : Addr} {fd__law_asked : FuncData} (D__law_asked : Has P w K mg base "_law_asked" ["_law_s", "_law_deep"] k CX0 (spAsked K 4) f__law_asked fd__law_asked) {f__law_taken : Addr} {fd__law_taken : FuncData} (D__law_taken : Has P w K mg base "_law_taken" ["_law_s", "_law_most"] k CX0 (spTaken K) f__law_taken fd__law_taken) {f__law_sides : Addr} {fd__law_sides : FuncData} (D__law_sides : Has P w K mg base "_law_sides" ["_law_s"] k CX0 (spSides K) f__law_sides fd__law_sides) {f__law_give : Addr} {fd__law_give : FuncData} (D__law_give : Has P w K mg base "_law_give" ["_law_s"] k CX0 (spGive K) f__law_give fd__law_give) (m_int : mg "int" = none) : Has P w K mg base "_law_contract" ["_law_s", "_law_deep"] (k + 1) CX0 (spContract K (n + 1)) f fd := by
  refine O.has (O.F.ok sc__law_contract (fun vs H Q E h => ?_) (fun cdv A outer s H vs Q E hr h => ?_))
  · obtain ⟨c, ns, xs, s, na, nm, d, rfl, _⟩ := h
    rfl
  obtain ⟨c, ns, xs, s, na, nm, d, rfl, L, h0, h1, q⟩ := h
  refine ⟨_, (pss_cons (ps_set (i := 2) sc__law_contract.nd rfl (.inl rfl) (pe_call D__law_taken.G hr (by rfl) D__law_taken.g D__law_taken.k D__law_taken.b .nil pass0 (pa_cons (pv 0) (pa_cons pe_int pa_nil)))) (pss_cons (ps_if (PW.pt (pw_or (pt_cmpR op_eq (pv 1) pe_int (nomark _)) (pw_or1 (pt_cmpR op_lt (pv 2) pe_int (nomark _))))) (pss_one (ps_ret (pe_call D__law_give.G hr (by rfl) D__law_give.g D__law_give.k D__law_give.b .nil pass0 (pa_cons (pv 0) pa_nil)))) pss_nil) (pss_cons (ps_if (pt_cmpR op_eq (pv 2) pe_int (nomark _)) (pss_one (ps_ret (pe_tup (pa_cons pe_str pa_nil)))) pss_nil) (pss_cons (ps_if (pt_cmpR op_lt (pv 2) pe_int (nomark _)) (pss_cons (ps_set (i := 3) sc__law_contract.nd rfl (.inl rfl) (pe_call D__law_contract.G hr (by rfl) D__law_contract.g D__law_contract.k D__law_contract.b .nil pass0 (pa_cons (pv 0) (pa_cons (pe_op op_sub (pv 1) pe_int) pa_nil)))) (pss_one (ps_ret (pe_tup (pa_cons pe_str (pa_cons (pv 3) (pa_cons (pe_call D__law_contract.G hr (by rfl) D__law_contract.g D__law_contract.k D__law_contract.b .nil pass0 (pa_cons (pv 0) (pa_cons (pe_op op_sub (pv 1) pe_int) pa_nil))) pa_nil))))))) pss_nil) (pss_cons (ps_if (pt_cmpR op_eq (pv 2) pe_int (nomark _)) (pss_one (ps_ret (pe_op op_catA (pe_op op_catA (pe_tup (pa_cons pe_str pa_nil)) (pe_call D__law_sides.G hr (by rfl) D__law_sides.g D__law_sides.k D__law_sides.b .nil pass0 (pa_cons (pv 0) pa_nil))) (pe_tup (pa_cons (pe_call D__law_contract.G hr (by rfl) D__law_contract.g D__law_contract.k D__law_contract.b .nil pass0 (pa_cons (pv 0) (pa_cons (pe_op op_sub (pv 1) pe_int) pa_nil))) pa_nil))))) pss_nil) (pss_cons (ps_if (pt_cmpR op_eq (pv 2) pe_int (nomark _)) (pss_cons (ps_set (i := 4) sc__law_contract.nd rfl (.inl rfl) (pe_ix ix_list (pe_lst (pa_cons (pe_call D__law_taken.G hr (by rfl) D__law_taken.g D__law_taken.k D__law_taken.b .nil pass0 (pa_cons (pv 0) (pa_cons pe_int pa_nil))) (pa_cons (pe_call D__law_taken.G hr (by rfl) D__law_taken.g D__law_taken.k D__law_taken.b .nil pass0 (pa_cons (pv 0) (pa_cons pe_int pa_nil))) pa_nil))) (pe_callTy call_int1 (by rfl) m_int (by decide +kernel) (pa_cons (pe_cmpR op_eq (pe_call D__law_taken.G hr (by rfl) D__law_taken.g D__law_taken.k D__law_taken.b .nil pass0 (pa_cons (pv 0) (pa_cons pe_int pa_nil))) pe_int (nomark _)) pa_nil)) (fun _ _ => rfl))) (pss_one (ps_ret (pe_tup (pa_cons pe_str (pa_cons (pv 4) (pa_cons (pe_call D__law_contract.G hr (by rfl) D__law_contract.g D__law_contract.k D__law_contract.b .nil pass0 (pa_cons (pv 0) (pa_cons (pe_op op_sub (pv 1) pe_int) pa_nil))) pa_nil))))))) pss_nil) (pss_cons (ps_if (pt_cmpR op_eq (pv 2) pe_int (nomark _)) (pss_cons (ps_set (i := 5) sc__law_contract.nd rfl (.inl rfl) (pe_ix ix_list (pe_lst (pa_cons (pe_op op_add pe_int (pe_call D__law_taken.G hr (by rfl) D__law_taken.g D__law_taken.k D__law_taken.b .nil pass0 (pa_cons (pv 0) (pa_cons pe_int pa_nil)))) (pa_cons (pe_op op_add pe_int (pe_call D__law_taken.G hr (by rfl) D__law_taken.g D__law_taken.k D__law_taken.b .nil pass0 (pa_cons (pv 0) (pa_cons pe_int pa_nil)))) pa_nil))) (pe_callTy call_int1 (by rfl) m_int (by decide +kernel) (pa_cons (pe_cmpR op_eq (pe_call D__law_taken.G hr (by rfl) D__law_taken.g D__law_taken.k D__law_taken.b .nil pass0 (pa_cons (pv 0) (pa_cons pe_int pa_nil))) pe_int (nomark _)) pa_nil)) (fun _ _ => rfl))) (pss_one (ps_ret (pe_tup (pa_cons pe_str (pa_cons (pv 5) (pa_cons (pe_op op_add pe_int (pe_call D__law_taken.G hr (by rfl) D__law_taken.g D__law_taken.k D__law_taken.b .nil pass0 (pa_cons (pv 0) (pa_cons pe_int pa_nil)))) (pa_cons (pe_call D__law_contract.G hr (by rfl) D__law_contract.g D__law_contract.k D__law_contract.b .nil pass0 (pa_cons (pv 0) (pa_cons (pe_op op_sub (pv 1) pe_int) pa_nil))) pa_nil)))))))) pss_nil) (pss_cons (ps_set (i := 6) sc__law_contract.nd rfl (.inl rfl) (pe_call D__law_asked.G hr (by rfl) D__law_asked.g D__law_asked.k D__law_asked.b .nil pass0 (pa_cons (pv 0) (pa_cons pe_int pa_nil)))) (pss_cons (ps_if (pt_cmpR op_eq (pv 2) pe_int (nomark _)) (pss_cons (ps_set (i := 3) sc__law_contract.nd rfl (.inl rfl) (pe_call D__law_contract.G hr (by rfl) D__law_contract.g D__law_contract.k D__law_contract.b .nil pass0 (pa_cons (pv 0) (pa_cons (pe_op op_sub (pv 1) pe_int) pa_nil)))) (pss_one (ps_ret (pe_tup (pa_cons pe_str (pa_cons (pv 6) (pa_cons (pv 3) (pa_cons (pe_call D__law_contract.G hr (by rfl) D__law_contract.g D__law_contract.k D__law_contract.b .nil pass0 (pa_cons (pv 0) (pa_cons (pe_op op_sub (pv 1) pe_int) pa_nil))) pa_nil)))))))) pss_nil) (pss_one (ps_ret (pe_tup (pa_cons (pe_ix ix_list (pe_lst (pa_cons pe_str (pa_cons pe_str pa_nil))) (pe_op op_sub (pv 2) pe_int) (fun _ _ => rfl)) (pa_cons (pv 6) (pa_cons (pe_call D__law_contract.G hr (by rfl) D__law_contract.g D__law_contract.k D__law_contract.b .nil pass0 (pa_cons (pv 0) (pa_cons (pe_op op_sub (pv 1) pe_int) pa_nil))) pa_nil))))))))))))))), ?_⟩
  have ok := L.ok
  walk_at "go"
  refine use_taken L (by decide) (by decide) fun r H1 a0 a1 e1 L1 => ?_
  walk_at "go"
  refine or_cut (r < 3) (fun hc => ?_) (fun c1 back => ?_)
  · walk_at "go"
    refine use_give L1 fun v t H2 e2 L2 d2 i2 p2 => ?_
    exact q v t H2 (e1.trans e2) L2 d2 i2 (by have := p2.1; omega)
  walk_at "go"
  refine ifd back (fun c2 => ?_)
  walk_at "go"
  refine ifd (fun c3 => ?_) (fun c3 => ?_)
  · walk_at "go"
    refine ⟨by show 1 ≤ sizeLine; decide, fun p np => ?_⟩
    have s2 := same_new (o := .tup [.str "none"]) np
    exact q _ .none _ (e1.trans (.of s2)) (L1.same s2) ⟨p, rfl, sqt upd_same⟩ trivial h0
  walk_at "go"
  refine ifd (fun c4 => ?_) (fun c4 => ?_)
  · walk_at "go"
    refine use_contract L1 (by omega) (by omega) fun u t1 H2 e2 L2 d1 i1 p1 => ?_
    walk_at "go"
    refine use_contract L2 (by omega) (by omega) fun z t2 H3 e3 L3 d2 i2 p2 => ?_
    walk_at "go"
    refine ⟨by show 3 ≤ sizeLine; decide, fun p np => ?_⟩
    have s4 := same_new (o := .tup [.str "both", u, z]) np
    refine q _ (.both t1 t2) _ (((e1.trans e2).trans e3).trans (.of s4)) (L3.same s4) ⟨p, u, z, rfl, sqt upd_same, DK.tm ((L2.tm e3).trans (.of s4)) d1, DK.tm (.of s4) d2⟩ ⟨i1, i2⟩ ?_
    show ((max t1.deep t2.deep + 1 : Nat) : Int) ≤ d
    omega
  walk_at "go"
  refine ifd (fun c5 => ?_) (fun c5 => ?_)
  · walk_at "go"
    refine ⟨by show 1 ≤ sizeLine; decide, fun p1 np1 => ?_⟩
    have s2 := same_new (o := .tup [.str "turned"]) np1
    have h2 : SqT K (upd H1 p1 (.tup [.str "turned"])) p1 [.str "turned"] := sqt upd_same
    have L2 := L1.same s2
    walk_at "go"
    refine use_sides L2 fun p i j H3 i0 i1 j0 j1 ij e3 L3 hp => ?_
    refine cat2 (L2.tm e3 _ _ h2) hp (by simp) (by simp) (by show 3 ≤ 1000; decide) fun p4 np4 => ?_
    have s4 := same_new (o := .tup ([V.str "turned"] ++ [.str (wd c i), .str (wd c j)])) np4
    have L4 := L3.same s4
    have h4 : SqT K (upd H3 p4 (.tup ([V.str "turned"] ++ [.str (wd c i), .str (wd c j)]))) p4 [.str "turned", .str (wd c i), .str (wd c j)] := sqt upd_same
    walk_at "go"
    refine use_contract L4 (by omega) (by omega) fun u t1 H5 e5 L5 d1 i5 p5 => ?_
    walk_at "go"
    refine ⟨by show 1 ≤ sizeLine; decide, fun p6 np6 => ?_⟩
    have s6 := same_new (o := .tup [u]) np6
    refine cat2 (SqT.same s6 (L4.tm e5 _ _ h4)) (sqt upd_same) (by simp) (by simp) (by show 4 ≤ 1000; decide) fun p7 np7 => ?_
    have s7 := s6.trans (same_new (o := .tup ([V.str "turned", .str (wd c i), .str (wd c j)] ++ [u])) np7)
    refine q _ (.turned (wd c i) (wd c j) t1) _ (((((e1.trans (.of s2)).trans e3).trans (.of s4)).trans e5).trans (.of s7)) (L5.same s7) ⟨p7, u, rfl, sqt upd_same, DK.tm (.of s7) d1⟩ ⟨⟨⟨wd_word ok i0, wd_word ok j0⟩, wd_ne ok i0 (by omega) j0 (by omega) ij⟩, i5⟩ ?_
    show ((t1.deep + 1 : Nat) : Int) ≤ d
    omega
  walk_at "go"
  refine ifd (fun c6 => ?_) (fun c6 => ?_)
  · walk_at "go"
    refine use_taken L1 (by decide) (by decide) fun x H2 x0 x1 e2 L2 => ?_
    walk_at "go"
    refine use_taken L2 (by decide) (by decide) fun y H3 y0 y1 e3 L3 => ?_
    walk_at "go"
    refine ⟨by show 2 ≤ sizeLine; decide, fun p4 np4 => ?_⟩
    have s4 := same_new (o := .lst [.int x, .int y]) np4
    have L4 := L3.same s4
    walk_at "go"
    refine use_taken L4 (by decide) (by decide) fun z H5 z0 z1 e5 L5 => ?_
    walk_at "go"
    refine .inr ⟨_, rfl, ?_⟩
    have h5 : SqL K H5 p4 [.int x, .int y] := KB.seq e5 (L4.st.choose_spec.choose_spec.choose_spec.1) (sql upd_same)
    refine ⟨_, _, _, _, rfl, rfl, h5, pick2 _ _ _, ?_⟩
    have hn : ∃ m : Int, (if decide (z = 7) = true then V.int y else V.int x) = .int m ∧ 0 ≤ m ∧ m ≤ 99 := by
      split
      · exact ⟨y, rfl, y0, by omega⟩
      · exact ⟨x, rfl, x0, by omega⟩
    obtain ⟨m, hm, m0, m1⟩ := hn
    rw [hm]
    walk_at "go"
    refine use_contract L5 (by omega) (by omega) fun u t1 H6 e6 L6 d1 i1 p1 => ?_
    walk_at "go"
    refine ⟨by show 3 ≤ sizeLine; decide, fun p7 np7 => ?_⟩
    have s7 := same_new (o := .tup [.str "later", .int m, u]) np7
    refine q _ (.later m t1) _ ((((((e1.trans e2).trans e3).trans (.of s4)).trans e5).trans e6).trans (.of s7)) (L6.same s7) ⟨p7, u, rfl, sqt upd_same, DK.tm (.of s7) d1⟩ ⟨⟨m0, m1⟩, i1⟩ ?_
    show ((t1.deep + 1 : Nat) : Int) ≤ d
    omega
  walk_at "go"
  refine ifd (fun c7 => ?_) (fun c7 => ?_)
  · walk_at "go"
    refine use_taken L1 (by decide) (by decide) fun x H2 x0 x1 e2 L2 => ?_
    walk_at "go"
    refine use_taken L2 (by decide) (by decide) fun y H3 y0 y1 e3 L3 => ?_
    walk_at "go"
    refine ⟨by show 2 ≤ sizeLine; decide, fun p4 np4 => ?_⟩
    have s4 := same_new (o := .lst [.int (1 + x), .int (1 + y)]) np4
    have L4 := L3.same s4
    walk_at "go"
    refine use_taken L4 (by decide) (by decide) fun z H5 z0 z1 e5 L5 => ?_
    walk_at "go"
    refine .inr ⟨_, rfl, ?_⟩
    have h5 : SqL K H5 p4 [.int (1 + x), .int (1 + y)] := KB.seq e5 (L4.st.choose_spec.choose_spec.choose_spec.1) (sql upd_same)
    refine ⟨_, _, _, _, rfl, rfl, h5, pick2 _ _ _, ?_⟩
    have hn : ∃ m : Int, (if decide (z = 7) = true then V.int (1 + y) else V.int (1 + x)) = .int m ∧ 1 ≤ m ∧ m ≤ 9 := by
      split
      · exact ⟨1 + y, rfl, by omega, by omega⟩
      · exact ⟨1 + x, rfl, by omega, by omega⟩
    obtain ⟨m, hm, m0, m1⟩ := hn
    rw [hm]
    walk_at "go"
    refine use_taken L5 (by decide) (by decide) fun g H6 g0 g1 e6 L6 => ?_
    walk_at "go"
    refine use_contract L6 (by omega) (by omega) fun u t1 H7 e7 L7 d1 i1 p1 => ?_
    walk_at "go"
    refine ⟨by show 4 ≤ sizeLine; decide, fun p8 np8 => ?_⟩
    have s8 := same_new (o := .tup [.str "often", .int m, .int (1 + g), u]) np8
    refine q _ (.often m (1 + g) t1) _ (((((((e1.trans e2).trans e3).trans (.of s4)).trans e5).trans e6).trans e7).trans (.of s8)) (L7.same s8) ⟨p8, u, rfl, sqt upd_same, DK.tm (.of s8) d1⟩ ⟨⟨m0, m1⟩, ⟨by omega, by omega⟩, i1⟩ ?_
    show ((t1.deep + 1 : Nat) : Int) ≤ d
    omega
  walk_at "go"
  refine use_asked L1 (by decide) (by decide) fun x qq H2 e2 L2 dq iq pq => ?_
  walk_at "go"
  refine ifd (fun c8 => ?_) (fun c8 => ?_)
  · walk_at "go"
    refine use_contract L2 (by omega) (by omega) fun u t1 H3 e3 L3 d1 i1 p1 => ?_
    walk_at "go"
    refine use_contract L3 (by omega) (by omega) fun z t2 H4 e4 L4 d2 i2 p2 => ?_
    walk_at "go"
    refine ⟨by show 4 ≤ sizeLine; decide, fun p np => ?_⟩
    have s5 := same_new (o := .tup [.str "if", x, u, z]) np
    refine q _ (.ite qq t1 t2) _ ((((e1.trans e2).trans e3).trans e4).trans (.of s5)) (L4.same s5)
      ⟨p, x, u, z, rfl, sqt upd_same, DC.tm (((L2.tm e3).trans (L3.tm e4)).trans (.of s5)) dq, DK.tm ((L3.tm e4).trans (.of s5)) d1, DK.tm (.of s5) d2⟩ ⟨⟨iq, by omega⟩, i1, i2⟩ ?_
    show ((max t1.deep t2.deep + 1 : Nat) : Int) ≤ d
    omega
  · walk_at "go"
    refine ⟨by show 2 ≤ sizeLine; decide, fun p np => ?_⟩
    have s3 := same_new (o := .lst [.str "when", .str "until"]) np
    have L3 := L2.same s3
    walk_at "go"
    rcases pick2i (.str "when") (.str "until") (i := r - 10) (by omega) (by omega) with hw | hw
    · refine ⟨_, _, _, _, rfl, rfl, sql upd_same, hw, ?_⟩
      walk_at "go"
      refine use_contract L3 (by omega) (by omega) fun u t1 H4 e4 L4 d1 i1 p1 => ?_
      walk_at "go"
      refine ⟨by show 3 ≤ sizeLine; decide, fun p' np' => ?_⟩
      have s5 := same_new (o := .tup [.str "when", x, u]) np'
      refine q _ (.whn qq t1) _ ((((e1.trans e2).trans (.of s3)).trans e4).trans (.of s5)) (L4.same s5) ⟨p', x, u, rfl, sqt upd_same, DC.tm (((TM.of s3).trans (L3.tm e4)).trans (.of s5)) dq, DK.tm (.of s5) d1⟩ ⟨⟨iq, by omega⟩, i1⟩ ?_
      show ((t1.deep + 1 : Nat) : Int) ≤ d
      omega
    · refine ⟨_, _, _, _, rfl, rfl, sql upd_same, hw, ?_⟩
      walk_at "go"
      refine use_contract L3 (by omega) (by omega) fun u t1 H4 e4 L4 d1 i1 p1 => ?_
      walk_at "go"
      refine ⟨by show 3 ≤ sizeLine; decide, fun p' np' => ?_⟩
      have s5 := same_new (o := .tup [.str "until", x, u]) np'
      refine q _ (.untl qq t1) _ ((((e1.trans e2).trans (.of s3)).trans e4).trans (.of s5)) (L4.same s5) ⟨p', x, u, rfl, sqt upd_same, DC.tm (((TM.of s3).trans (L3.tm e4)).trans (.of s5)) dq, DK.tm (.of s5) d1⟩ ⟨⟨iq, by omega⟩, i1⟩ ?_
      show ((t1.deep + 1 : Nat) : Int) ≤ d
      omega
end

/-! ### how long what is drawn may be when it is written -/
def Con.bd : Con → Nat
  | .none => 115
  | .give _ _ _ _ => 115
  | .both c d => 345 + c.bd + d.bd
  | .turned _ _ c => 346 + c.bd
  | .later _ c => 346 + c.bd
  | .often _ _ c => 346 + c.bd
  | .ite _ c d => 345 + c.bd + d.bd
  | .whn _ c => 346 + c.bd
  | .untl _ c => 346 + c.bd
def Bd : Nat → Nat
  | 0 => 115
  | m + 1 => 345 + 2 * Bd m
theorem Bd_ge : ∀ m, 115 ≤ Bd m
  | 0 => Nat.le_refl _
  | m + 1 => by
    have := Bd_ge m
    show 115 ≤ 345 + 2 * Bd m
    omega
theorem bd_of : ∀ (t : Con) (m : Nat), t.deep ≤ m → t.bd ≤ Bd m
  | .none, m, _ => Bd_ge m
  | .give _ _ _ _, m, _ => Bd_ge m
  | .both c d, m, h => by
    have h : max c.deep d.deep + 1 ≤ m := h
    obtain ⟨m, rfl⟩ : ∃ k, m = k + 1 := ⟨m - 1, by omega⟩
    have a := bd_of c m (by omega)
    have b := bd_of d m (by omega)
    show 345 + c.bd + d.bd ≤ 345 + 2 * Bd m
    omega
  | .ite _ c d, m, h => by
    have h : max c.deep d.deep + 1 ≤ m := h
    obtain ⟨m, rfl⟩ : ∃ k, m = k + 1 := ⟨m - 1, by omega⟩
    have a := bd_of c m (by omega)
    have b := bd_of d m (by omega)
    show 345 + c.bd + d.bd ≤ 345 + 2 * Bd m
    omega
  | .turned _ _ c, m, h => by
    have h : c.deep + 1 ≤ m := h
    obtain ⟨m, rfl⟩ : ∃ k, m = k + 1 := ⟨m - 1, by omega⟩
    have a := bd_of c m (by omega)
    have b := Bd_ge m
    show 346 + c.bd ≤ 345 + 2 * Bd m
    omega
  | .later _ c, m, h => by
    have h : c.deep + 1 ≤ m := h
    obtain ⟨m, rfl⟩ : ∃ k, m = k + 1 := ⟨m - 1, by omega⟩
    have a := bd_of c m (by omega)
    have b := Bd_ge m
    show 346 + c.bd ≤ 345 + 2 * Bd m
    omega
  | .often _ _ c, m, h => by
    have h : c.deep + 1 ≤ m := h
    obtain ⟨m, rfl⟩ : ∃ k, m = k + 1 := ⟨m - 1, by omega⟩
    have a := bd_of c m (by omega)
    have b := Bd_ge m
    show 346 + c.bd ≤ 345 + 2 * Bd m
    omega
  | .whn _ c, m, h => by
    have h : c.deep + 1 ≤ m := h
    obtain ⟨m, rfl⟩ : ∃ k, m = k + 1 := ⟨m - 1, by omega⟩
    have a := bd_of c m (by omega)
    have b := Bd_ge m
    show 346 + c.bd ≤ 345 + 2 * Bd m
    omega
  | .untl _ c, m, h => by
    have h : c.deep + 1 ≤ m := h
    obtain ⟨m, rfl⟩ : ∃ k, m = k + 1 := ⟨m - 1, by omega⟩
    have a := bd_of c m (by omega)
    have b := Bd_ge m
    show 346 + c.bd ≤ 345 + 2 * Bd m
    omega
theorem bd_deep (t : Con) (h : t.deep ≤ 3) : t.bd ≤ 3335 := bd_of t 3 h
/-- the names that are drawn -/
def nmsN (c : Cfg) (m : Nat) : List Str := (List.range m).map fun (i : Nat) => wd c (8 + (0 + (i : Int)))
theorem nms_len {c : Cfg} {m : Nat} : (nmsN c m).length = m := by unfold nmsN; rw [List.length_map, List.length_range]
theorem nms_snoc {c : Cfg} {m : Nat} : nmsN c (m + 1) = nmsN c m ++ [wd c (8 + (0 + (m : Int)))] := by
  unfold nmsN
  rw [List.range_succ, List.map_append]
  rfl
def spDrawn (K : PySem.W.Frag) : Sp := fun vs H Q _ => ∃ (c : Cfg) (ns : List Int) (xs : List Str) (s na nm : Addr) (m : Nat), vs = [.ref s, .int m] ∧ LS K c ns xs s na nm H ∧ m ≤ 3 ∧
  ∀ (v : V) (t : Con) (nm' : Addr) (H' : Hp), KB s H H' → LS K c ns (nmsN c m) s na nm' H' → DK K H' t v → t.In (nmsN c m) → t.deep ≤ 5 → t.bd ≤ 3335 → Q v H'
theorem use_drawn {K : PySem.W.Frag} {c : Cfg} {ns : List Int} {xs : List Str} {s na nm : Addr} {m : Nat} {j : Int} {H : Hp} {Q : VK} {E : XK} (L : LS K c ns xs s na nm H) (hj : j = m) (hm : m ≤ 3)
    (q : ∀ (v : V) (t : Con) (nm' : Addr) (H' : Hp), KB s H H' → LS K c ns (nmsN c m) s na nm' H' → DK K H' t v → t.In (nmsN c m) → t.deep ≤ 5 → t.bd ≤ 3335 → Q v H') :
    spDrawn K ([.ref s, .int j] ++ []) H Q E := ⟨c, ns, xs, s, na, nm, m, by rw [hj]; rfl, L, hm, q⟩
section
variable {P : Program} {w : World} {K : PySem.W.Frag} {mg : Str → Option Value} {base : Heap}
abbrev s__law_drawn : Stmt := topS 47
theorem sc__law_drawn : FnScope ["_law_s", "_law_many", "_law_k", "_law_contract_here", "_law_way"] ["_law_s", "_law_many"] (defScope s__law_drawn) := ⟨rfl, rfl, rfl, by decide +kernel, rfl, by decide +kernel, by decide +kernel⟩
theorem h__law_drawn {k : Nat} {f : Addr} {fd : FuncData} (O : Own K mg "_law_drawn" s__law_drawn ["_law_s", "_law_many"] f fd)  {f__law_taken : Addr} {fd__law_taken : FuncData} (D__law_taken : Has P w K mg base "_law_taken" ["_law_s", "_law_most"] k CX0 (spTaken K) f__law_taken fd__law_taken) {f__law_sides : Addr} {fd__law_sides : FuncData} (D__law_sides : Has P w K mg base "_law_sides" ["_law_s"] k CX0 (spSides K) f__law_sides fd__law_sides) {f__law_asked : Addr} {fd__law_asked : FuncData} (D__law_asked : Has P w K mg base "_law_asked" ["_law_s", "_law_deep"] k CX0 (spAsked K 4) f__law_asked fd__law_asked) {f__law_told : Addr} {fd__law_told : FuncData} (D__law_told : Has P w K mg base "_law_told" ["_law_s", "_law_deep"] k CX0 (spTold K 4) f__law_told fd__law_told) {f__law_good : Addr} {fd__law_good : FuncData} (D__law_good : Has P w K mg base "_law_good" ["_law_s"] k CX0 (spGood K) f__law_good fd__law_good) {f__law_contract : Addr} {fd__law_contract : FuncData} (D__law_contract : Has P w K mg base "_law_contract" ["_law_s", "_law_deep"] k CX0 (spContract K 4) f__law_contract fd__law_contract) {f__law_word : Addr} {fd__law_word : FuncData} (D__law_word : Has P w K mg base "_law_word" ["_law_s", "_law_k"] k CX0 (spWord K) f__law_word fd__law_word) (m_range : mg "range" = none) : Has P w K mg base "_law_drawn" ["_law_s", "_law_many"] (k + 1) CX0 (spDrawn K) f fd := by
  refine O.has (O.F.ok sc__law_drawn (fun vs H Q E h => ?_) (fun cdv A outer s H vs Q E hr h => ?_))
  · obtain ⟨c, ns, xs, s, na, nm, m, rfl, _⟩ := h
    rfl
  obtain ⟨c, ns, xs0, s, na, nm, m, rfl, L, hm, q⟩ := h
  refine ⟨_, (pss_cons (ps_dput (hu_of hr) (pv 0) pe_str (pe_lc (own := [("_law_k", 2)]) (g := gName 2) rfl sc__law_drawn.nd (pi_range1 (by rfl) m_range (pa_cons (pv 1) pa_nil)) (blkOk_by (own := [("_law_k", 2)]) (N := ["_law_s", "_law_many", "_law_k", "_law_contract_here", "_law_way"]) (sc := defScope s__law_drawn) (by decide +kernel)) (fun _ _ _ _ _ => pg_name (i := 2) sc__law_drawn.nd rfl (.inl rfl)) (fun _ _ _ _ _ => pts_nil) (fun _ _ _ _ _ => (pe_call D__law_word.G hr (by rfl) D__law_word.g D__law_word.k D__law_word.b .nil pass0 (pa_cons (pv 0) (pa_cons (pe_op op_add pe_int (pv 2)) pa_nil))))) (by rfl)) (pss_cons (ps_if (pt_cmpR op_lt (pe_call D__law_taken.G hr (by rfl) D__law_taken.g D__law_taken.k D__law_taken.b .nil pass0 (pa_cons (pv 0) (pa_cons pe_int pa_nil))) pe_int (nomark _)) (pss_one (ps_ret (pe_call D__law_contract.G hr (by rfl) D__law_contract.g D__law_contract.k D__law_contract.b .nil pass0 (pa_cons (pv 0) (pa_cons pe_int pa_nil))))) pss_nil) (pss_cons (ps_set (i := 3) sc__law_drawn.nd rfl (.inl rfl) (pe_op op_catA (pe_op op_catA (pe_tup (pa_cons pe_str pa_nil)) (pe_call D__law_sides.G hr (by rfl) D__law_sides.g D__law_sides.k D__law_sides.b .nil pass0 (pa_cons (pv 0) pa_nil))) (pe_tup (pa_cons (pe_call D__law_good.G hr (by rfl) D__law_good.g D__law_good.k D__law_good.b .nil pass0 (pa_cons (pv 0) pa_nil)) (pa_cons (pe_call D__law_told.G hr (by rfl) D__law_told.g D__law_told.k D__law_told.b .nil pass0 (pa_cons (pv 0) (pa_cons pe_int pa_nil))) pa_nil))))) (pss_cons (ps_for PassesOwn.never rfl (pi_range1 (by rfl) m_range (pa_cons pe_int pa_nil)) (pg_name (i := 2) sc__law_drawn.nd rfl (.inl rfl)) (pss_cons (ps_set (i := 4) sc__law_drawn.nd rfl (.inl rfl) (pe_call D__law_taken.G hr (by rfl) D__law_taken.g D__law_taken.k D__law_taken.b .nil pass0 (pa_cons (pv 0) (pa_cons pe_int pa_nil)))) (pss_one (ps_if (pt_cmpR op_eq (pv 4) pe_int (nomark _)) (pss_one (ps_set (i := 3) sc__law_drawn.nd rfl (.inl rfl) (pe_tup (pa_cons pe_str (pa_cons (pe_call D__law_taken.G hr (by rfl) D__law_taken.g D__law_taken.k D__law_taken.b .nil pass0 (pa_cons (pv 0) (pa_cons pe_int pa_nil))) (pa_cons (pv 3) pa_nil)))))) (pss_one (ps_if (pt_cmpR op_eq (pv 4) pe_int (nomark _)) (pss_one (ps_set (i := 3) sc__law_drawn.nd rfl (.inl rfl) (pe_op op_catA (pe_op op_catA (pe_tup (pa_cons pe_str pa_nil)) (pe_call D__law_sides.G hr (by rfl) D__law_sides.g D__law_sides.k D__law_sides.b .nil pass0 (pa_cons (pv 0) pa_nil))) (pe_tup (pa_cons (pv 3) pa_nil))))) (pss_one (ps_if (pt_cmpR op_eq (pv 4) pe_int (nomark _)) (pss_one (ps_set (i := 3) sc__law_drawn.nd rfl (.inl rfl) (pe_tup (pa_cons pe_str (pa_cons (pe_op op_add pe_int (pe_call D__law_taken.G hr (by rfl) D__law_taken.g D__law_taken.k D__law_taken.b .nil pass0 (pa_cons (pv 0) (pa_cons pe_int pa_nil)))) (pa_cons (pe_op op_add pe_int (pe_call D__law_taken.G hr (by rfl) D__law_taken.g D__law_taken.k D__law_taken.b .nil pass0 (pa_cons (pv 0) (pa_cons pe_int pa_nil)))) (pa_cons (pv 3) pa_nil))))))) (pss_one (ps_set (i := 3) sc__law_drawn.nd rfl (.inl rfl) (pe_tup (pa_cons (pe_ix ix_list (pe_lst (pa_cons pe_str (pa_cons pe_str pa_nil))) (pe_op op_sub (pv 4) pe_int) (fun _ _ => rfl)) (pa_cons (pe_call D__law_asked.G hr (by rfl) D__law_asked.g D__law_asked.k D__law_asked.b .nil pass0 (pa_cons (pv 0) (pa_cons pe_int pa_nil))) (pa_cons (pv 3) pa_nil)))))))))))))) (pss_one (ps_ret (pv 3))))))), ?_⟩
  have ok := L.ok
  walk_at "go"
  refine ⟨by omega, by omega, fun D nD => lc_range (lo := 0) (n := m) (fun i H3 => H3 D = some (.lst ((nmsN c i).map V.str)) ∧ LS K c ns xs0 s na nm H3 ∧ Same H H3) ⟨upd_same, L.same (same_new nD), same_new nD⟩ (fun i H3 hi hW => ?_) (fun H3 hW => ?_)⟩
  · obtain ⟨hD, L3, e3⟩ := hW
    walk_at "go"
    refine use_word L3 (by omega) (by omega) fun H4 e4 => ?_
    have hD4 := e4 _ _ hD
    refine ⟨_, hD4, by rw [List.length_map, nms_len]; exact small1000 (by omega), ?_, L.push nD (L3.same e4) hD4, fun a o h => ?_⟩
    · rw [upd_same, nms_snoc, List.map_append]
      rfl
    · rw [upd_ne (ne_of_none h nD)]
      exact e4 _ _ (e3 _ _ h)
  obtain ⟨hD, L3, e3⟩ := hW
  obtain ⟨n, re, mx, hs3, g0, g1, g2, g3⟩ := L3.st
  walk_at "go"
  refine g_put (kvs' := sd c na D n re mx) hs3 (by show 9 < sizeLine; decide) (by rfl) ?_
  have L4 := L3.names g0 g1 g2 g3 hD (by rw [nms_len]; omega)
  have k4 : KB s H (upd H3 s (.dK (sd c na D n re mx))) := (KB.of e3).trans KB.upd
  generalize upd H3 s (.dK (sd c na D n re mx)) = H4 at L4 k4 ⊢
  generalize nmsN c m = xs at L4 q
  walk_at "go"
  refine use_taken L4 (by decide) (by decide) fun r H5 a0 a1 e5 L5 => ?_
  walk_at "go"
  refine ifd (fun c1 => ?_) (fun c1 => ?_)
  · walk_at "go"
    refine use_contract L5 (by decide) (by decide) fun v t H6 e6 L6 d6 i6 p6 => ?_
    exact q v t D H6 ((k4.trans e5).trans e6) L6 d6 i6 (by omega) (bd_deep t (by omega))
  walk_at "go"
  refine ⟨by show 1 ≤ sizeLine; decide, fun p1 np1 => ?_⟩
  have s6 := same_new (o := .tup [.str "give"]) np1
  have h6 : SqT K (upd H5 p1 (.tup [.str "give"])) p1 [.str "give"] := sqt upd_same
  have L6 := L5.same s6
  walk_at "go"
  refine use_sides L6 fun p i j H7 i0 i1 j0 j1 ij e7 L7 hp => ?_
  refine cat2 (L6.tm e7 _ _ h6) hp (by simp) (by simp) (by show 3 ≤ 1000; decide) fun p8 np8 => ?_
  have s8 := same_new (o := .tup ([V.str "give"] ++ [.str (wd c i), .str (wd c j)])) np8
  have L8 := L7.same s8
  have h8 : SqT K (upd H7 p8 (.tup ([V.str "give"] ++ [.str (wd c i), .str (wd c j)]))) p8 [.str "give", .str (wd c i), .str (wd c j)] := sqt upd_same
  walk_at "go"
  refine use_good L8 fun g H9 g0 g1 e9 L9 => ?_
  walk_at "go"
  refine use_told L9 (by decide) (by decide) fun u t H10 e10 L10 d10 i10 p10 => ?_
  walk_at "go"
  refine ⟨by show 2 ≤ sizeLine; decide, fun p11 np11 => ?_⟩
  have s11 := same_new (o := .tup [.str (wd c g), u]) np11
  refine cat2 (SqT.same s11 (L9.tm e10 _ _ (L8.tm e9 _ _ h8))) (sqt upd_same) (by simp) (by simp) (by show 5 ≤ 1000; decide) fun p12 np12 => ?_
  have s12 := s11.trans (same_new (o := .tup ([V.str "give", .str (wd c i), .str (wd c j)] ++ [.str (wd c g), u])) np12)
  have L12 := L10.same s12
  have k12 := ((((((k4.trans e5).trans (.of s6)).trans e7).trans (.of s8)).trans e9).trans e10).trans (KB.of s12)
  have d12 : DK K (upd (upd H10 p11 (.tup [.str (wd c g), u])) p12 (.tup ([V.str "give", .str (wd c i), .str (wd c j)] ++ [.str (wd c g), u]))) (.give (wd c i) (wd c j) (wd c g) t) (.ref p12) := ⟨p12, u, rfl, sqt upd_same, DN.tm (.of s12) d10⟩
  have i12 : (Con.give (wd c i) (wd c j) (wd c g) t).In xs := ⟨⟨⟨wd_word ok i0, wd_word ok j0, wd_word ok (by omega)⟩, wd_ne ok i0 (by omega) j0 (by omega) ij⟩, i10, by omega⟩
  generalize (upd (upd H10 p11 (.tup [.str (wd c g), u])) p12 (.tup ([V.str "give", .str (wd c i), .str (wd c j)] ++ [.str (wd c g), u]))) = H12 at L12 k12 d12 ⊢
  walk_at "go"
  refine ⟨by decide, by decide, for_range (lo := 0) (n := 5) (fun l σ H13 => ∃ y3 y4 : Option V, ∃ (v : V) (t : Con), σ = [some (.ref s), some (.int m), y3, some v, y4] ∧ DK K H13 t v ∧ t.In xs ∧ (t.deep ≤ l ∧ t.bd ≤ 115 + 346 * l) ∧ KB s H H13 ∧ LS K c ns xs s na D H13)
    ⟨none, none, _, _, rfl, d12, i12, ⟨Nat.le_refl 0, by show 115 ≤ 115 + 346 * 0; decide⟩, k12, L12⟩ (fun l σ H13 hl hW => ?_) (fun σ H13 hW => ?_)⟩
  · obtain ⟨y3, y4, v, t0, rfl, dt, it, pt, k13, L13⟩ := hW
    walk_at "go"
    refine use_taken L13 (by decide) (by decide) fun way H14 w0 w1 e14 L14 => ?_
    have pt1 := pt.1
    have dt14 := DK.tm (L13.tm e14) dt
    have k14 := k13.trans e14
    walk_at "go"
    refine ifd (fun c2 => ?_) (fun c2 => ?_)
    · walk_at "go"
      refine use_taken L14 (by decide) (by decide) fun z H15 z0 z1 e15 L15 => ?_
      walk_at "go"
      refine ⟨by show 3 ≤ sizeLine; decide, fun p np => ?_⟩
      have s16 := same_new (o := .tup [.str "later", .int z, v]) np
      refine ⟨_, _, _, .later z t0, rfl, ⟨p, v, rfl, sqt upd_same, DK.tm ((L14.tm e15).trans (.of s16)) dt14⟩, ⟨⟨z0, by omega⟩, it⟩, ?_, (k14.trans e15).trans (.of s16), L15.same s16⟩
      exact ⟨by show t0.deep + 1 ≤ l + 1; omega, by have := pt.2; show 346 + t0.bd ≤ 115 + 346 * (l + 1); omega⟩
    walk_at "go"
    refine ifd (fun c3 => ?_) (fun c3 => ?_)
    · walk_at "go"
      refine ⟨by show 1 ≤ sizeLine; decide, fun q1 nq1 => ?_⟩
      have s15 := same_new (o := .tup [.str "turned"]) nq1
      have h15 : SqT K (upd H14 q1 (.tup [.str "turned"])) q1 [.str "turned"] := sqt upd_same
      have L15 := L14.same s15
      walk_at "go"
      refine use_sides L15 fun pp a b H16 a0 a1 b0 b1 ab e16 L16 hpp => ?_
      refine cat2 (L15.tm e16 _ _ h15) hpp (by simp) (by simp) (by show 3 ≤ 1000; decide) fun q2 nq2 => ?_
      have s17 := same_new (o := .tup ([V.str "turned"] ++ [.str (wd c a), .str (wd c b)])) nq2
      have h17 : SqT K (upd H16 q2 (.tup ([V.str "turned"] ++ [.str (wd c a), .str (wd c b)]))) q2 [.str "turned", .str (wd c a), .str (wd c b)] := sqt upd_same
      have L17 := L16.same s17
      walk_at "go"
      refine ⟨by show 1 ≤ sizeLine; decide, fun q3 nq3 => ?_⟩
      have s18 := same_new (o := .tup [v]) nq3
      refine cat2 (SqT.same s18 h17) (sqt upd_same) (by simp) (by simp) (by show 4 ≤ 1000; decide) fun q4 nq4 => ?_
      have s19 := s18.trans (same_new (o := .tup ([V.str "turned", .str (wd c a), .str (wd c b)] ++ [v])) nq4)
      refine ⟨_, _, _, .turned (wd c a) (wd c b) t0, rfl, ⟨q4, v, rfl, sqt upd_same, DK.tm ((((TM.of s15).trans (L15.tm e16)).trans (.of s17)).trans (.of s19)) dt14⟩, ⟨⟨⟨wd_word ok a0, wd_word ok b0⟩, wd_ne ok a0 (by omega) b0 (by omega) ab⟩, it⟩, ?_, (((k14.trans (.of s15)).trans e16).trans (.of s17)).trans (.of s19), L17.same s19⟩
      exact ⟨by show t0.deep + 1 ≤ l + 1; omega, by have := pt.2; show 346 + t0.bd ≤ 115 + 346 * (l + 1); omega⟩
    walk_at "go"
    refine ifd (fun c4 => ?_) (fun c4 => ?_)
    · walk_at "go"
      refine use_taken L14 (by decide) (by decide) fun z H15 z0 z1 e15 L15 => ?_
      walk_at "go"
      refine use_taken L15 (by decide) (by decide) fun y H16 y0 y1 e16 L16 => ?_
      walk_at "go"
      refine ⟨by show 4 ≤ sizeLine; decide, fun p np => ?_⟩
      have s17 := same_new (o := .tup [.str "often", .int (1 + z), .int (1 + y), v]) np
      refine ⟨_, _, _, .often (1 + z) (1 + y) t0, rfl, ⟨p, v, rfl, sqt upd_same, DK.tm (((L14.tm e15).trans (L15.tm e16)).trans (.of s17)) dt14⟩, ⟨⟨by omega, by omega⟩, ⟨by omega, by omega⟩, it⟩, ?_, ((k14.trans e15).trans e16).trans (.of s17), L16.same s17⟩
      exact ⟨by show t0.deep + 1 ≤ l + 1; omega, by have := pt.2; show 346 + t0.bd ≤ 115 + 346 * (l + 1); omega⟩
    · walk_at "go"
      refine ⟨by show 2 ≤ sizeLine; decide, fun q1 nq1 => ?_⟩
      have s15 := same_new (o := .lst [.str "when", .str "until"]) nq1
      have L15 := L14.same s15
      walk_at "go"
      rcases pick2i (.str "when") (.str "until") (i := way - 3) (by omega) (by omega) with hw | hw
      · refine ⟨_, _, _, _, rfl, rfl, sql upd_same, hw, ?_⟩
        walk_at "go"
        refine use_asked L15 (by decide) (by decide) fun x qq H16 e16 L16 dq iq pq => ?_
        walk_at "go"
        refine ⟨by show 3 ≤ sizeLine; decide, fun p np => ?_⟩
        have s17 := same_new (o := .tup [.str "when", x, v]) np
        refine ⟨_, _, _, .whn qq t0, rfl, ⟨p, x, v, rfl, sqt upd_same, DC.tm (.of s17) dq, DK.tm (((TM.of s15).trans (L15.tm e16)).trans (.of s17)) dt14⟩, ⟨⟨iq, by omega⟩, it⟩, ?_, ((k14.trans (.of s15)).trans e16).trans (.of s17), L16.same s17⟩
        exact ⟨by show t0.deep + 1 ≤ l + 1; omega, by have := pt.2; show 346 + t0.bd ≤ 115 + 346 * (l + 1); omega⟩
      · refine ⟨_, _, _, _, rfl, rfl, sql upd_same, hw, ?_⟩
        walk_at "go"
        refine use_asked L15 (by decide) (by decide) fun x qq H16 e16 L16 dq iq pq => ?_
        walk_at "go"
        refine ⟨by show 3 ≤ sizeLine; decide, fun p np => ?_⟩
        have s17 := same_new (o := .tup [.str "until", x, v]) np
        refine ⟨_, _, _, .untl qq t0, rfl, ⟨p, x, v, rfl, sqt upd_same, DC.tm (.of s17) dq, DK.tm (((TM.of s15).trans (L15.tm e16)).trans (.of s17)) dt14⟩, ⟨⟨iq, by omega⟩, it⟩, ?_, ((k14.trans (.of s15)).trans e16).trans (.of s17), L16.same s17⟩
        exact ⟨by show t0.deep + 1 ≤ l + 1; omega, by have := pt.2; show 346 + t0.bd ≤ 115 + 346 * (l + 1); omega⟩
  · obtain ⟨y3, y4, v, t0, rfl, dt, it, pt, k13, L13⟩ := hW
    walk_at "go"
    exact q v t0 D H13 k13 L13 dt it pt.1 (Nat.le_trans pt.2 (by decide))
end

/-! ### what is drawn is a contract -/
theorem wf_of {n : Nat} {kind u : Str} {ks : List Str} {ds : List PyData} (hk : kindsOf kind u = some ks) (hl : ks.length = ds.length) (hp : (List.zip ks ds).all (partOk n) = true) (hs : twoSides ks = false ∨ sameSides ds = false) : wf (n + 1) kind (.tuple (.str u :: ds)) = true := by
  rw [wf_tup', hk]
  dsimp only
  rw [decide_eq_true hl, hp]
  rcases hs with h | h <;> simp [h]
theorem pk_deep {n : Nat} {k : Str} {d : PyData} (h : isDeep k = true) : partOk n (k, d) = wf n k d := by unfold partOk; rw [if_pos h]
theorem pk_plain {n : Nat} {k : Str} {d : PyData} (h : isDeep k = false) : partOk n (k, d) = plainOk k d := by unfold partOk; rw [if_neg (by rw [h]; exact Bool.false_ne_true)]
theorem pk_num {n : Nat} {d : PyData} : partOk n ("number", d) = wf n "number" d := pk_deep (by decide +kernel)
theorem pk_cond {n : Nat} {d : PyData} : partOk n ("condition", d) = wf n "condition" d := pk_deep (by decide +kernel)
theorem pk_con {n : Nat} {d : PyData} : partOk n ("contract", d) = wf n "contract" d := pk_deep (by decide +kernel)
theorem pl_word {k : Str} {d : PyData} (h1 : ¬ k = "amount") (h2 : ¬ k = "wait") (h3 : ¬ k = "times") (h4 : ¬ k = "gap") : plainOk k d = isW' d := by
  unfold plainOk
  rw [if_neg h1, if_neg h2, if_neg h3, if_neg h4]
theorem pk_side {n : Nat} {d : PyData} : partOk n ("side", d) = isW' d := (pk_plain (by decide +kernel)).trans (pl_word (by decide +kernel) (by decide +kernel) (by decide +kernel) (by decide +kernel))
theorem pk_good {n : Nat} {d : PyData} : partOk n ("good", d) = isW' d := (pk_plain (by decide +kernel)).trans (pl_word (by decide +kernel) (by decide +kernel) (by decide +kernel) (by decide +kernel))
theorem pk_name {n : Nat} {d : PyData} : partOk n ("name", d) = isW' d := (pk_plain (by decide +kernel)).trans (pl_word (by decide +kernel) (by decide +kernel) (by decide +kernel) (by decide +kernel))
theorem pk_amount {n : Nat} {d : PyData} : partOk n ("amount", d) = inB (-999999999999) 999999999999 d := by
  refine (pk_plain (by decide +kernel)).trans ?_
  unfold plainOk
  rw [if_pos rfl]
theorem pk_wait {n : Nat} {d : PyData} : partOk n ("wait", d) = inB 0 99 d := by
  refine (pk_plain (by decide +kernel)).trans ?_
  have e : ¬ ("wait" : Str) = "amount" := by decide +kernel
  unfold plainOk
  rw [if_neg e, if_pos rfl]
theorem pk_times {n : Nat} {d : PyData} : partOk n ("times", d) = inB 1 9 d := by
  refine (pk_plain (by decide +kernel)).trans ?_
  have e : ¬ ("times" : Str) = "amount" := by decide +kernel
  have e2 : ¬ ("times" : Str) = "wait" := by decide +kernel
  unfold plainOk
  rw [if_neg e, if_neg e2, if_pos rfl]
theorem pk_gap {n : Nat} {d : PyData} : partOk n ("gap", d) = inB 1 99 d := by
  refine (pk_plain (by decide +kernel)).trans ?_
  have e : ¬ ("gap" : Str) = "amount" := by decide +kernel
  have e2 : ¬ ("gap" : Str) = "wait" := by decide +kernel
  have e3 : ¬ ("gap" : Str) = "times" := by decide +kernel
  unfold plainOk
  rw [if_neg e, if_neg e2, if_neg e3, if_pos rfl]
theorem inB_of {lo hi i : Int} (h0 : lo ≤ i) (h1 : i ≤ hi) : inB lo hi (.int i) = true := by
  show (decide (lo ≤ i) && decide (i ≤ hi)) = true
  rw [decide_eq_true h0, decide_eq_true h1]
  rfl
/-- as data -/
def nD : Num → PyData
  | .num n => .tuple [.str "num", .int n]
  | .read x => .tuple [.str "read", .str x]
  | .bin o a b => .tuple [.str o.word, nD a, nD b]
def cD : Cond → PyData
  | .lt a b => .tuple [.str "below", nD a, nD b]
  | .neg a => .tuple [.str "not", cD a]
  | .con a b => .tuple [.str "all", cD a, cD b]
  | .dis a b => .tuple [.str "any", cD a, cD b]
def kD : Con → PyData
  | .none => .tuple [.str "none"]
  | .give a b g o => .tuple [.str "give", .str a, .str b, .str g, nD o]
  | .both c d => .tuple [.str "both", kD c, kD d]
  | .turned a b c => .tuple [.str "turned", .str a, .str b, kD c]
  | .later n c => .tuple [.str "later", .int n, kD c]
  | .often n g c => .tuple [.str "often", .int n, .int g, kD c]
  | .ite q c d => .tuple [.str "if", cD q, kD c, kD d]
  | .whn q c => .tuple [.str "when", cD q, kD c]
  | .untl q c => .tuple [.str "until", cD q, kD c]
section
variable {K : PySem.W.Frag} {H : Hp}
theorem DN.data : ∀ {t : Num} {v : V}, DN K H t v → Dp K H v (nD t)
  | .num n, _, ⟨a, e, h⟩ => e ▸ .tup h (.cons (.str _) (.cons (.int _) .nil))
  | .read x, _, ⟨a, e, h⟩ => e ▸ .tup h (.cons (.str _) (.cons (.str _) .nil))
  | .bin o p q, _, ⟨a, u, z, e, h, h1, h2⟩ => e ▸ .tup h (.cons (.str _) (.cons (DN.data h1) (.cons (DN.data h2) .nil)))
theorem DC.data : ∀ {t : Cond} {v : V}, DC K H t v → Dp K H v (cD t)
  | .lt p q, _, ⟨a, u, z, e, h, h1, h2⟩ => e ▸ .tup h (.cons (.str _) (.cons (DN.data h1) (.cons (DN.data h2) .nil)))
  | .neg p, _, ⟨a, u, e, h, h1⟩ => e ▸ .tup h (.cons (.str _) (.cons (DC.data h1) .nil))
  | .con p q, _, ⟨a, u, z, e, h, h1, h2⟩ => e ▸ .tup h (.cons (.str _) (.cons (DC.data h1) (.cons (DC.data h2) .nil)))
  | .dis p q, _, ⟨a, u, z, e, h, h1, h2⟩ => e ▸ .tup h (.cons (.str _) (.cons (DC.data h1) (.cons (DC.data h2) .nil)))
theorem DK.data : ∀ {t : Con} {v : V}, DK K H t v → Dp K H v (kD t)
  | .none, _, ⟨p, e, h⟩ => e ▸ .tup h (.cons (.str _) .nil)
  | .give a b g o, _, ⟨p, u, e, h, h1⟩ => e ▸ .tup h (.cons (.str _) (.cons (.str _) (.cons (.str _) (.cons (.str _) (.cons (DN.data h1) .nil)))))
  | .both c d, _, ⟨p, u, z, e, h, h1, h2⟩ => e ▸ .tup h (.cons (.str _) (.cons (DK.data h1) (.cons (DK.data h2) .nil)))
  | .turned a b c, _, ⟨p, u, e, h, h1⟩ => e ▸ .tup h (.cons (.str _) (.cons (.str _) (.cons (.str _) (.cons (DK.data h1) .nil))))
  | .later n c, _, ⟨p, u, e, h, h1⟩ => e ▸ .tup h (.cons (.str _) (.cons (.int _) (.cons (DK.data h1) .nil)))
  | .often n g c, _, ⟨p, u, e, h, h1⟩ => e ▸ .tup h (.cons (.str _) (.cons (.int _) (.cons (.int _) (.cons (DK.data h1) .nil))))
  | .ite q c d, _, ⟨p, x, u, z, e, h, h0, h1, h2⟩ => e ▸ .tup h (.cons (.str _) (.cons (DC.data h0) (.cons (DK.data h1) (.cons (DK.data h2) .nil))))
  | .whn q c, _, ⟨p, x, u, e, h, h0, h1⟩ => e ▸ .tup h (.cons (.str _) (.cons (DC.data h0) (.cons (DK.data h1) .nil)))
  | .untl q c, _, ⟨p, x, u, e, h, h0, h1⟩ => e ▸ .tup h (.cons (.str _) (.cons (DC.data h0) (.cons (DK.data h1) .nil)))
end
theorem op_kinds (o : Op) : kindsOf "number" o.word = some [("number" : Str), ("number" : Str)] := by cases o <;> decide +kernel
theorem op_short (o : Op) : szOk (.str o.word) = true := by cases o <;> decide +kernel
theorem isW_short {x : Str} (h : isW x = true) : szOk (.str x) = true := by
  unfold isW at h
  simp only [Bool.and_eq_true, decide_eq_true_eq] at h
  show decide (x.length ≤ 100000) = true
  exact decide_eq_true (by omega)
theorem wf_nD {xs : List Str} (hx : ∀ x ∈ xs, isW x = true) : ∀ {t : Num} {n : Nat}, t.In xs → t.deep + 1 ≤ n → wf n "number" (nD t) = true
  | .num i, n + 1, h, _ => by
    refine wf_of (ks := ["amount"]) (by decide +kernel) rfl ?_ (.inl (by decide +kernel))
    have h : -1000000000000 < i ∧ i < 1000000000000 := h
    simp only [List.zip_cons_cons, List.zip_nil_right, List.all_cons, List.all_nil, pk_amount, Bool.and_true]
    exact inB_of (by omega) (by omega)
  | .read x, n + 1, h, _ => by
    refine wf_of (ks := ["name"]) (by decide +kernel) rfl ?_ (.inl (by decide +kernel))
    simp only [List.zip_cons_cons, List.zip_nil_right, List.all_cons, List.all_nil, pk_name, Bool.and_true]
    exact hx x h
  | .bin o a b, n + 1, h, hn => by
    have hn : max a.deep b.deep + 1 + 1 ≤ n + 1 := hn
    refine wf_of (ks := ["number", "number"]) (op_kinds o) rfl ?_ (.inl (by decide +kernel))
    simp only [List.zip_cons_cons, List.zip_nil_right, List.all_cons, List.all_nil, pk_num, Bool.and_true]
    rw [wf_nD hx h.1 (by omega), wf_nD hx h.2 (by omega)]
    rfl
theorem wf_cD {xs : List Str} {m : Nat} (hx : ∀ x ∈ xs, isW x = true) : ∀ {t : Cond} {n : Nat}, t.In xs m → t.deep + m + 2 ≤ n → wf n "condition" (cD t) = true
  | .lt a b, n + 1, h, hn => by
    obtain ⟨⟨h1, d1⟩, h2, d2⟩ := h
    refine wf_of (ks := ["number", "number"]) (by decide +kernel) rfl ?_ (.inl (by decide +kernel))
    simp only [List.zip_cons_cons, List.zip_nil_right, List.all_cons, List.all_nil, pk_num, Bool.and_true]
    rw [wf_nD hx h1 (by omega), wf_nD hx h2 (by omega)]
    rfl
  | .neg a, n + 1, h, hn => by
    have hn : a.deep + 1 + m + 2 ≤ n + 1 := hn
    refine wf_of (ks := ["condition"]) (by decide +kernel) rfl ?_ (.inl (by decide +kernel))
    simp only [List.zip_cons_cons, List.zip_nil_right, List.all_cons, List.all_nil, pk_cond, Bool.and_true]
    exact wf_cD (m := m) hx h (by omega)
  | .con a b, n + 1, h, hn => by
    have hn : max a.deep b.deep + 1 + m + 2 ≤ n + 1 := hn
    refine wf_of (ks := ["condition", "condition"]) (by decide +kernel) rfl ?_ (.inl (by decide +kernel))
    simp only [List.zip_cons_cons, List.zip_nil_right, List.all_cons, List.all_nil, pk_cond, Bool.and_true]
    rw [wf_cD (m := m) hx h.1 (by omega), wf_cD (m := m) hx h.2 (by omega)]
    rfl
  | .dis a b, n + 1, h, hn => by
    have hn : max a.deep b.deep + 1 + m + 2 ≤ n + 1 := hn
    refine wf_of (ks := ["condition", "condition"]) (by decide +kernel) rfl ?_ (.inl (by decide +kernel))
    simp only [List.zip_cons_cons, List.zip_nil_right, List.all_cons, List.all_nil, pk_cond, Bool.and_true]
    rw [wf_cD (m := m) hx h.1 (by omega), wf_cD (m := m) hx h.2 (by omega)]
    rfl
theorem same_ne {a b : Str} {r : List PyData} (h : a ≠ b) : sameSides (.str a :: .str b :: r) = false := decide_eq_false h
theorem wf_kD {xs : List Str} (hx : ∀ x ∈ xs, isW x = true) : ∀ {t : Con} {n : Nat}, t.In xs → t.deep + 6 ≤ n → wf n "contract" (kD t) = true
  | .none, n + 1, _, _ => wf_of (ks := []) (by decide +kernel) rfl rfl (.inl (by decide +kernel))
  | .give a b g o, n + 1, ⟨⟨⟨ha, hb, hg⟩, hne⟩, ho, hd⟩, hn => by
    have hn : 0 + 6 ≤ n + 1 := hn
    refine wf_of (ks := ["side", "side", "good", "number"]) (by decide +kernel) rfl ?_ (.inr (same_ne hne))
    simp only [List.zip_cons_cons, List.zip_nil_right, List.all_cons, List.all_nil, pk_num, pk_side, pk_good, Bool.and_true]
    rw [wf_nD hx ho (by omega), show isW' (.str a) = true from ha, show isW' (.str b) = true from hb, show isW' (.str g) = true from hg]
    rfl
  | .both c d, n + 1, h, hn => by
    have hn : max c.deep d.deep + 1 + 6 ≤ n + 1 := hn
    refine wf_of (ks := ["contract", "contract"]) (by decide +kernel) rfl ?_ (.inl (by decide +kernel))
    simp only [List.zip_cons_cons, List.zip_nil_right, List.all_cons, List.all_nil, pk_con, Bool.and_true]
    rw [wf_kD hx h.1 (by omega), wf_kD hx h.2 (by omega)]
    rfl
  | .turned a b c, n + 1, ⟨⟨⟨ha, hb⟩, hne⟩, hc⟩, hn => by
    have hn : c.deep + 1 + 6 ≤ n + 1 := hn
    refine wf_of (ks := ["side", "side", "contract"]) (by decide +kernel) rfl ?_ (.inr (same_ne hne))
    simp only [List.zip_cons_cons, List.zip_nil_right, List.all_cons, List.all_nil, pk_con, pk_side, Bool.and_true]
    rw [wf_kD hx hc (by omega), show isW' (.str a) = true from ha, show isW' (.str b) = true from hb]
    rfl
  | .later i c, n + 1, ⟨⟨h0, h1⟩, hc⟩, hn => by
    have hn : c.deep + 1 + 6 ≤ n + 1 := hn
    refine wf_of (ks := ["wait", "contract"]) (by decide +kernel) rfl ?_ (.inl (by decide +kernel))
    simp only [List.zip_cons_cons, List.zip_nil_right, List.all_cons, List.all_nil, pk_con, pk_wait, Bool.and_true]
    rw [wf_kD hx hc (by omega), inB_of h0 h1]
    rfl
  | .often i g c, n + 1, ⟨⟨h0, h1⟩, ⟨g0, g1⟩, hc⟩, hn => by
    have hn : c.deep + 1 + 6 ≤ n + 1 := hn
    refine wf_of (ks := ["times", "gap", "contract"]) (by decide +kernel) rfl ?_ (.inl (by decide +kernel))
    simp only [List.zip_cons_cons, List.zip_nil_right, List.all_cons, List.all_nil, pk_con, pk_times, pk_gap, Bool.and_true]
    rw [wf_kD hx hc (by omega), inB_of h0 h1, inB_of g0 g1]
    rfl
  | .ite q c d, n + 1, ⟨⟨hq, hd⟩, h1, h2⟩, hn => by
    have hn : max c.deep d.deep + 1 + 6 ≤ n + 1 := hn
    refine wf_of (ks := ["condition", "contract", "contract"]) (by decide +kernel) rfl ?_ (.inl (by decide +kernel))
    simp only [List.zip_cons_cons, List.zip_nil_right, List.all_cons, List.all_nil, pk_con, pk_cond, Bool.and_true]
    rw [wf_kD hx h1 (by omega), wf_kD hx h2 (by omega), wf_cD (m := 1) hx hq (by omega)]
    rfl
  | .whn q c, n + 1, ⟨⟨hq, hd⟩, h1⟩, hn => by
    have hn : c.deep + 1 + 6 ≤ n + 1 := hn
    refine wf_of (ks := ["condition", "contract"]) (by decide +kernel) rfl ?_ (.inl (by decide +kernel))
    simp only [List.zip_cons_cons, List.zip_nil_right, List.all_cons, List.all_nil, pk_con, pk_cond, Bool.and_true]
    rw [wf_kD hx h1 (by omega), wf_cD (m := 1) hx hq (by omega)]
    rfl
  | .untl q c, n + 1, ⟨⟨hq, hd⟩, h1⟩, hn => by
    have hn : c.deep + 1 + 6 ≤ n + 1 := hn
    refine wf_of (ks := ["condition", "contract"]) (by decide +kernel) rfl ?_ (.inl (by decide +kernel))
    simp only [List.zip_cons_cons, List.zip_nil_right, List.all_cons, List.all_nil, pk_con, pk_cond, Bool.and_true]
    rw [wf_kD hx h1 (by omega), wf_cD (m := 1) hx hq (by omega)]
    rfl
theorem sz2 {a b : PyData} (ha : szOk a = true) (hb : szOk b = true) : szOk (.tuple [a, b]) = true := by simp [szOk, szAll, ha, hb]
theorem sz3 {a b c : PyData} (ha : szOk a = true) (hb : szOk b = true) (hc : szOk c = true) : szOk (.tuple [a, b, c]) = true := by simp [szOk, szAll, ha, hb, hc]
theorem sz4 {a b c d : PyData} (ha : szOk a = true) (hb : szOk b = true) (hc : szOk c = true) (hd : szOk d = true) : szOk (.tuple [a, b, c, d]) = true := by simp [szOk, szAll, ha, hb, hc, hd]
theorem sz_lit (x : Str) (h : x.length ≤ 100000 := by decide +kernel) : szOk (.str x) = true := decide_eq_true h
theorem sz_nD {xs : List Str} (hx : ∀ x ∈ xs, isW x = true) : ∀ {t : Num}, t.In xs → szOk (nD t) = true
  | .num i, _ => sz2 (sz_lit _) rfl
  | .read x, h => sz2 (sz_lit _) (isW_short (hx x h))
  | .bin o a b, h => sz3 (op_short o) (sz_nD hx h.1) (sz_nD hx h.2)
theorem sz_cD {xs : List Str} {m : Nat} (hx : ∀ x ∈ xs, isW x = true) : ∀ {t : Cond}, t.In xs m → szOk (cD t) = true
  | .lt a b, h => sz3 (sz_lit _) (sz_nD hx h.1.1) (sz_nD hx h.2.1)
  | .neg a, h => sz2 (sz_lit _) (sz_cD (m := m) hx h)
  | .con a b, h => sz3 (sz_lit _) (sz_cD (m := m) hx h.1) (sz_cD (m := m) hx h.2)
  | .dis a b, h => sz3 (sz_lit _) (sz_cD (m := m) hx h.1) (sz_cD (m := m) hx h.2)
theorem sz_kD {xs : List Str} (hx : ∀ x ∈ xs, isW x = true) : ∀ {t : Con}, t.In xs → szOk (kD t) = true
  | .none, _ => by decide +kernel
  | .give a b g o, ⟨⟨⟨ha, hb, hg⟩, hne⟩, ho, hd⟩ => by
    have := isW_short ha
    have := isW_short hb
    have := isW_short hg
    have := sz_nD hx ho
    have := sz_lit "give"
    simp [kD, szOk, szAll] at *
    simp [*]
  | .both c d, h => sz3 (sz_lit _) (sz_kD hx h.1) (sz_kD hx h.2)
  | .turned a b c, ⟨⟨⟨ha, hb⟩, hne⟩, hc⟩ => sz4 (sz_lit _) (isW_short ha) (isW_short hb) (sz_kD hx hc)
  | .later i c, h => sz3 (sz_lit _) rfl (sz_kD hx h.2)
  | .often i g c, h => sz4 (sz_lit _) rfl rfl (sz_kD hx h.2.2)
  | .ite q c d, h => sz4 (sz_lit _) (sz_cD hx h.1.1) (sz_kD hx h.2.1) (sz_kD hx h.2.2)
  | .whn q c, h => sz3 (sz_lit _) (sz_cD hx h.1.1) (sz_kD hx h.2)
  | .untl q c, h => sz3 (sz_lit _) (sz_cD hx h.1.1) (sz_kD hx h.2)

/-! ### alike -/
theorem aok_at {n : Nat} {ds : List PyData} {i : Nat} {d : PyData} (h : ∀ d ∈ ds, aOk n d) (hi : ds[i]? = some d) : aOk n d := h d (List.mem_of_getElem? hi)
section
variable {P : Program} {w : World} {K : PySem.W.Frag} {mg : Str → Option Value} {base : Heap}
abbrev s__law_alike : Stmt := topS 41
theorem sc__law_alike : FnScope ["_law_found", "_law_due", "_law_k", "_law_name"] ["_law_found", "_law_due"] (defScope s__law_alike) := ⟨rfl, rfl, rfl, by decide +kernel, rfl, by decide +kernel, by decide +kernel⟩
theorem h__law_alike {n : Nat} {k : Nat} {f : Addr} {fd : FuncData} (O : Own K mg "_law_alike" s__law_alike ["_law_found", "_law_due"] f fd)  {f__law_alike : Addr} {fd__law_alike : FuncData} (D__law_alike : Has P w K mg base "_law_alike" ["_law_found", "_law_due"] k CX0 (spAlike K n) f__law_alike fd__law_alike) (m_all : mg "all" = none) (m_range : mg "range" = none) (m_len : mg "len" = none) (m_isinstance : mg "isinstance" = none) (m_list : mg "list" = none) (m_tuple : mg "tuple" = none) (m_dict : mg "dict" = none) (m_str : mg "str" = none) (m_int : mg "int" = none) (m_bool : mg "bool" = none) : Has P w K mg base "_law_alike" ["_law_found", "_law_due"] (k + 1) CX0 (spAlike K (n + 1)) f fd := by
  refine O.has (O.F.ok sc__law_alike (fun vs H Q E h => ?_) (fun cdv A outer s H vs Q E hr h => ?_))
  · obtain ⟨v, u, d, rfl, _⟩ := h
    rfl
  obtain ⟨v, u, d, rfl, hv, hu, hk, q⟩ := h
  refine ⟨_, (pss_cons (ps_if (pt_cmpR op_isN (pv 1) pe_non (nomark _)) (pss_one (ps_ret (pe_cmpR op_isN (pv 0) pe_non (nomark _)))) pss_nil) (pss_cons (ps_if (pt_val (pe_callB call_isi (by rfl) m_isinstance (by decide +kernel) (pa_cons (pv 1) (pa_cons (pe_bltn (v := .ty "bool") (by rfl) m_bool (by decide +kernel) rfl) pa_nil)))) (pss_one (ps_ret (pe_and (pe_callB call_isi (by rfl) m_isinstance (by decide +kernel) (pa_cons (pv 0) (pa_cons (pe_bltn (v := .ty "bool") (by rfl) m_bool (by decide +kernel) rfl) pa_nil))) (pe_one (pe_cmpR op_eq (pv 0) (pv 1) (nomark _)))))) pss_nil) (pss_cons (ps_if (pt_val (pe_callB call_isi (by rfl) m_isinstance (by decide +kernel) (pa_cons (pv 1) (pa_cons (pe_bltn (v := .ty "int") (by rfl) m_int (by decide +kernel) rfl) pa_nil)))) (pss_one (ps_ret (pe_and (pe_callB call_isi (by rfl) m_isinstance (by decide +kernel) (pa_cons (pv 0) (pa_cons (pe_bltn (v := .ty "int") (by rfl) m_int (by decide +kernel) rfl) pa_nil))) (pe_and (pe_not (pe_callB call_isi (by rfl) m_isinstance (by decide +kernel) (pa_cons (pv 0) (pa_cons (pe_bltn (v := .ty "bool") (by rfl) m_bool (by decide +kernel) rfl) pa_nil)))) (pe_one (pe_cmpR op_eq (pv 0) (pv 1) (nomark _))))))) pss_nil) (pss_cons (ps_if (pt_val (pe_callB call_isi (by rfl) m_isinstance (by decide +kernel) (pa_cons (pv 1) (pa_cons (pe_bltn (v := .ty "str") (by rfl) m_str (by decide +kernel) rfl) pa_nil)))) (pss_one (ps_ret (pe_and (pe_callB call_isi (by rfl) m_isinstance (by decide +kernel) (pa_cons (pv 0) (pa_cons (pe_bltn (v := .ty "str") (by rfl) m_str (by decide +kernel) rfl) pa_nil))) (pe_one (pe_cmpR op_eq (pv 0) (pv 1) (nomark _)))))) pss_nil) (pss_cons (ps_if (pt_val (pe_callB call_isi (by rfl) m_isinstance (by decide +kernel) (pa_cons (pv 1) (pa_cons (pe_bltn (v := .ty "dict") (by rfl) m_dict (by decide +kernel) rfl) pa_nil)))) (pss_cons ps_never (pss_one ps_never)) pss_nil) (pss_cons (ps_if (PW.pt (pw_or (pt_cmpR op_ne (pe_callB call_isi (by rfl) m_isinstance (by decide +kernel) (pa_cons (pv 1) (pa_cons (pe_bltn (v := .ty "tuple") (by rfl) m_tuple (by decide +kernel) rfl) pa_nil))) (pe_callB call_isi (by rfl) m_isinstance (by decide +kernel) (pa_cons (pv 0) (pa_cons (pe_bltn (v := .ty "tuple") (by rfl) m_tuple (by decide +kernel) rfl) pa_nil))) (nomark _)) (pw_or1 (pt_cmpR op_ne (pe_callB call_isi (by rfl) m_isinstance (by decide +kernel) (pa_cons (pv 1) (pa_cons (pe_bltn (v := .ty "list") (by rfl) m_list (by decide +kernel) rfl) pa_nil))) (pe_callB call_isi (by rfl) m_isinstance (by decide +kernel) (pa_cons (pv 0) (pa_cons (pe_bltn (v := .ty "list") (by rfl) m_list (by decide +kernel) rfl) pa_nil))) (nomark _))))) (pss_one (ps_ret pe_bl)) pss_nil) (pss_cons (ps_if (pt_cmpR op_ne (pe_callB call_len_seq (by rfl) m_len (by decide +kernel) (pa_cons (pv 0) pa_nil)) (pe_callB call_len_seq (by rfl) m_len (by decide +kernel) (pa_cons (pv 1) pa_nil)) (nomark _)) (pss_one (ps_ret pe_bl)) pss_nil) (pss_one (ps_ret (pe_callB (cr_all rfl) (by rfl) m_all (by decide +kernel) (pa_cons (pe_lc (own := [("_law_k", 2)]) (g := gName 2) rfl sc__law_alike.nd (pi_range1 (by rfl) m_range (pa_cons (pe_callB call_len_seq (by rfl) m_len (by decide +kernel) (pa_cons (pv 1) pa_nil)) pa_nil)) (blkOk_by (own := [("_law_k", 2)]) (N := ["_law_found", "_law_due", "_law_k", "_law_name"]) (sc := defScope s__law_alike) (by decide +kernel)) (fun _ _ _ _ _ => pg_name (i := 2) sc__law_alike.nd rfl (.inl rfl)) (fun _ _ _ _ _ => pts_nil) (fun _ _ _ _ _ => (pe_call D__law_alike.G hr (by rfl) D__law_alike.g D__law_alike.k D__law_alike.b .nil pass0 (pa_cons (pe_ix (r := rIx K) ix_seq (pv 0) (pv 2) (fun _ _ => rfl)) (pa_cons (pe_ix (r := rIx K) ix_seq (pv 1) (pv 2) (fun _ _ => rfl)) pa_nil))))) pa_nil))))))))))), ?_⟩
  walk_at "go"
  cases hu with
  | non =>
    cases hv
    refine ifd (fun c => ?_) (fun c => absurd rfl c)
    walk_at "go"
    exact q _ (Same.refl H)
  | bl b =>
    cases hv
    refine ifd (fun c => by cases c) (fun c => ?_)
    walk_at "go"
    refine use_isBool (.bl b) ?_
    dsimp only [isBool]
    refine ⟨_, rfl, iteT ?_⟩
    walk_at "go"
    refine use_isBool (.bl b) ?_
    dsimp only [isBool]
    refine ⟨_, rfl, iteT ?_⟩
    walk_at "go"
    rw [decide_eq_true rfl]
    exact q _ (Same.refl H)
  | int i =>
    cases hv
    refine ifd (fun c => by cases c) (fun c => ?_)
    walk_at "go"
    refine use_isBool (.int i) ?_
    dsimp only [isBool]
    refine ⟨_, rfl, iteF ?_⟩
    walk_at "go"
    refine use_isInt (.int i) ?_
    dsimp only [isInt]
    refine ⟨_, rfl, iteT ?_⟩
    walk_at "go"
    refine use_isInt (.int i) ?_
    dsimp only [isInt]
    refine ⟨_, rfl, iteT ?_⟩
    walk_at "go"
    refine use_isBool (.int i) ?_
    dsimp only [isBool]
    refine ⟨_, rfl, ?_⟩
    walk_at "go"
    rw [decide_eq_true rfl]
    exact q _ (Same.refl H)
  | str x =>
    cases hv
    refine ifd (fun c => by cases c) (fun c => ?_)
    walk_at "go"
    refine use_isBool (.str x) ?_
    dsimp only [isBool]
    refine ⟨_, rfl, iteF ?_⟩
    walk_at "go"
    refine use_isInt (.str x) ?_
    dsimp only [isInt]
    refine ⟨_, rfl, iteF ?_⟩
    walk_at "go"
    refine use_isStr (.str x) ?_
    dsimp only [isStr]
    refine ⟨_, rfl, iteT ?_⟩
    walk_at "go"
    refine use_isStr (.str x) ?_
    dsimp only [isStr]
    refine ⟨_, rfl, iteT ?_⟩
    walk_at "go"
    rw [decide_eq_true rfl]
    exact q _ (Same.refl H)
  | @lst a xs ds ha hall =>
    cases hv with
    | @lst b ys _ hb hbll =>
    obtain ⟨hl, hk⟩ : ds.length ≤ 2000 ∧ ∀ d ∈ ds, aOk n d := hk
    refine ifd (fun c => by cases c) (fun c => ?_)
    walk_at "go"
    refine use_isBool (.lst ha hall) ?_
    dsimp only [isBool]
    refine ⟨_, rfl, iteF ?_⟩
    walk_at "go"
    refine use_isInt (.lst ha hall) ?_
    dsimp only [isInt]
    refine ⟨_, rfl, iteF ?_⟩
    walk_at "go"
    refine use_isStr (.lst ha hall) ?_
    dsimp only [isStr]
    refine ⟨_, rfl, iteF ?_⟩
    walk_at "go"
    refine use_isDict (.lst ha hall) ?_
    refine ⟨_, rfl, iteF ?_⟩
    walk_at "go"
    refine use_isTup (.lst ha hall) ?_
    walk_at "go"
    refine use_isTup (.lst hb hbll) ?_
    dsimp only [isTup]
    walk_at "go"
    refine ifdn (fun _ => ?_) (fun c => absurd rfl c)
    walk_at "go"
    refine use_isLst (.lst ha hall) ?_
    walk_at "go"
    refine use_isLst (.lst hb hbll) ?_
    dsimp only [isLst]
    walk_at "go"
    refine ifdn (fun _ => ?_) (fun c => absurd rfl c)
    walk_at "go"
    refine ⟨_, _, rfl, .inl hb, ?_⟩
    walk_at "go"
    refine ⟨_, _, rfl, .inl ha, ?_⟩
    walk_at "go"
    have l1 := DpAll.len hall
    have l2 := DpAll.len hbll
    refine ifdn (fun _ => ?_) (fun c => absurd (by rw [l1, l2]) c)
    walk_at "go"
    refine ⟨_, _, rfl, .inl ha, ?_⟩
    walk_at "go"
    refine ⟨by omega, by omega, fun D nD => lc_range (lo := 0) (n := xs.length) (fun i H3 => H3 D = some (.lst ((List.replicate i true).map V.bl)) ∧ Same H H3) ⟨upd_same, same_new nD⟩ (fun i H3 hi hW => ?_) (fun H3 hW => ?_)⟩
    · obtain ⟨hD, e3⟩ := hW
      have hdi : ds[i]? = some ds[i] := List.getElem?_eq_getElem (by omega)
      obtain ⟨xv, hx, dx⟩ := DpAll.at hall hdi
      obtain ⟨yv, hy, dy⟩ := DpAll.at hbll hdi
      walk_at "go"
      refine .inl ⟨_, _, _, _, rfl, rfl, e3.seq hb, at_any (j := i) (by omega) hy, ?_⟩
      walk_at "go"
      refine .inl ⟨_, _, _, _, rfl, rfl, e3.seq ha, at_any (j := i) (by omega) hx, ?_⟩
      walk_at "go"
      refine use_alike (Dp.dm (.of e3) dy) (Dp.dm (.of e3) dx) (aok_at hk hdi) fun H4 e4 => ?_
      refine ⟨_, e4 _ _ hD, by rw [List.length_map, List.length_replicate]; exact Nat.lt_of_lt_of_le (show i < 4000 by omega) (by decide), ?_, fun p o h => ?_⟩
      · rw [upd_same, List.replicate_succ', List.map_append]
        rfl
      · rw [upd_ne (ne_of_none h nD)]
        exact e4 _ _ (e3 _ _ h)
    · obtain ⟨hD, e3⟩ := hW
      walk_at "go"
      refine ⟨D, List.replicate xs.length true, rfl, sql hD, ?_⟩
      have e : (List.replicate xs.length true).all id = true := by simp
      rw [e]
      exact q _ e3
  | @tup a xs ds ha hall =>
    cases hv with
    | @tup b ys _ hb hbll =>
    obtain ⟨hl, hk⟩ : ds.length ≤ 2000 ∧ ∀ d ∈ ds, aOk n d := hk
    refine ifd (fun c => by cases c) (fun c => ?_)
    walk_at "go"
    refine use_isBool (.tup ha hall) ?_
    dsimp only [isBool]
    refine ⟨_, rfl, iteF ?_⟩
    walk_at "go"
    refine use_isInt (.tup ha hall) ?_
    dsimp only [isInt]
    refine ⟨_, rfl, iteF ?_⟩
    walk_at "go"
    refine use_isStr (.tup ha hall) ?_
    dsimp only [isStr]
    refine ⟨_, rfl, iteF ?_⟩
    walk_at "go"
    refine use_isDict (.tup ha hall) ?_
    refine ⟨_, rfl, iteF ?_⟩
    walk_at "go"
    refine use_isTup (.tup ha hall) ?_
    walk_at "go"
    refine use_isTup (.tup hb hbll) ?_
    dsimp only [isTup]
    walk_at "go"
    refine ifdn (fun _ => ?_) (fun c => absurd rfl c)
    walk_at "go"
    refine use_isLst (.tup ha hall) ?_
    walk_at "go"
    refine use_isLst (.tup hb hbll) ?_
    dsimp only [isLst]
    walk_at "go"
    refine ifdn (fun _ => ?_) (fun c => absurd rfl c)
    walk_at "go"
    refine ⟨_, _, rfl, .inr hb, ?_⟩
    walk_at "go"
    refine ⟨_, _, rfl, .inr ha, ?_⟩
    walk_at "go"
    have l1 := DpAll.len hall
    have l2 := DpAll.len hbll
    refine ifdn (fun _ => ?_) (fun c => absurd (by rw [l1, l2]) c)
    walk_at "go"
    refine ⟨_, _, rfl, .inr ha, ?_⟩
    walk_at "go"
    refine ⟨by omega, by omega, fun D nD => lc_range (lo := 0) (n := xs.length) (fun i H3 => H3 D = some (.lst ((List.replicate i true).map V.bl)) ∧ Same H H3) ⟨upd_same, same_new nD⟩ (fun i H3 hi hW => ?_) (fun H3 hW => ?_)⟩
    · obtain ⟨hD, e3⟩ := hW
      have hdi : ds[i]? = some ds[i] := List.getElem?_eq_getElem (by omega)
      obtain ⟨xv, hx, dx⟩ := DpAll.at hall hdi
      obtain ⟨yv, hy, dy⟩ := DpAll.at hbll hdi
      walk_at "go"
      refine .inr (.inl ⟨_, _, _, _, rfl, rfl, SqT.same e3 hb, at_any (j := i) (by omega) hy, ?_⟩)
      walk_at "go"
      refine .inr (.inl ⟨_, _, _, _, rfl, rfl, SqT.same e3 ha, at_any (j := i) (by omega) hx, ?_⟩)
      walk_at "go"
      refine use_alike (Dp.dm (.of e3) dy) (Dp.dm (.of e3) dx) (aok_at hk hdi) fun H4 e4 => ?_
      refine ⟨_, e4 _ _ hD, by rw [List.length_map, List.length_replicate]; exact Nat.lt_of_lt_of_le (show i < 4000 by omega) (by decide), ?_, fun p o h => ?_⟩
      · rw [upd_same, List.replicate_succ', List.map_append]
        rfl
      · rw [upd_ne (ne_of_none h nD)]
        exact e4 _ _ (e3 _ _ h)
    · obtain ⟨hD, e3⟩ := hW
      walk_at "go"
      refine ⟨D, List.replicate xs.length true, rfl, sql hD, ?_⟩
      have e : (List.replicate xs.length true).all id = true := by simp
      rw [e]
      exact q _ e3
end

/-! ### contracts as data are shallow -/
theorem aok_str {n : Nat} (x : Str) : aOk (n + 1) (.str x) := trivial
theorem aok_int {n : Nat} (x : Int) : aOk (n + 1) (.int x) := trivial
theorem aok_t2 {n : Nat} {a b : PyData} (ha : aOk n a) (hb : aOk n b) : aOk (n + 1) (.tuple [a, b]) := ⟨Nat.le_of_ble_eq_true rfl, fun d hd => by
  simp only [List.mem_cons, List.not_mem_nil, or_false] at hd
  rcases hd with rfl | rfl <;> assumption⟩
theorem aok_t3 {n : Nat} {a b c : PyData} (ha : aOk n a) (hb : aOk n b) (hc : aOk n c) : aOk (n + 1) (.tuple [a, b, c]) := ⟨Nat.le_of_ble_eq_true rfl, fun d hd => by
  simp only [List.mem_cons, List.not_mem_nil, or_false] at hd
  rcases hd with rfl | rfl | rfl <;> assumption⟩
theorem aok_t4 {n : Nat} {a b c d : PyData} (ha : aOk n a) (hb : aOk n b) (hc : aOk n c) (hd : aOk n d) : aOk (n + 1) (.tuple [a, b, c, d]) := ⟨Nat.le_of_ble_eq_true rfl, fun e he => by
  simp only [List.mem_cons, List.not_mem_nil, or_false] at he
  rcases he with rfl | rfl | rfl | rfl <;> assumption⟩
theorem aok_n : ∀ {t : Num} {n : Nat}, t.deep + 2 ≤ n → aOk n (nD t)
  | .num i, n + 1, h => by
    have h : 0 + 2 ≤ n + 1 := h
    obtain ⟨k, rfl⟩ : ∃ k, n = k + 1 := ⟨n - 1, by omega⟩
    exact aok_t2 (aok_str _) (aok_int _)
  | .read x, n + 1, h => by
    have h : 0 + 2 ≤ n + 1 := h
    obtain ⟨k, rfl⟩ : ∃ k, n = k + 1 := ⟨n - 1, by omega⟩
    exact aok_t2 (aok_str _) (aok_str _)
  | .bin o a b, n + 1, h => by
    have h : max a.deep b.deep + 1 + 2 ≤ n + 1 := h
    obtain ⟨k, rfl⟩ : ∃ k, n = k + 1 := ⟨n - 1, by omega⟩
    exact aok_t3 (aok_str _) (aok_n (by omega)) (aok_n (by omega))
theorem aok_c {xs : List Str} {m : Nat} : ∀ {t : Cond} {n : Nat}, t.In xs m → t.deep + m + 3 ≤ n → aOk n (cD t)
  | .lt a b, n + 1, hi, h => by
    have h : 0 + m + 3 ≤ n + 1 := h
    have h1 := hi.1.2
    have h2 := hi.2.2
    obtain ⟨k, rfl⟩ : ∃ k, n = k + 1 := ⟨n - 1, by omega⟩
    exact aok_t3 (aok_str _) (aok_n (by omega)) (aok_n (by omega))
  | .neg a, n + 1, hi, h => by
    have h : a.deep + 1 + m + 3 ≤ n + 1 := h
    obtain ⟨k, rfl⟩ : ∃ k, n = k + 1 := ⟨n - 1, by omega⟩
    exact aok_t2 (aok_str _) (aok_c (t := a) (m := m) hi (by omega))
  | .con a b, n + 1, hi, h => by
    have h : max a.deep b.deep + 1 + m + 3 ≤ n + 1 := h
    obtain ⟨k, rfl⟩ : ∃ k, n = k + 1 := ⟨n - 1, by omega⟩
    exact aok_t3 (aok_str _) (aok_c (t := a) (m := m) hi.1 (by omega)) (aok_c (t := b) (m := m) hi.2 (by omega))
  | .dis a b, n + 1, hi, h => by
    have h : max a.deep b.deep + 1 + m + 3 ≤ n + 1 := h
    obtain ⟨k, rfl⟩ : ∃ k, n = k + 1 := ⟨n - 1, by omega⟩
    exact aok_t3 (aok_str _) (aok_c (t := a) (m := m) hi.1 (by omega)) (aok_c (t := b) (m := m) hi.2 (by omega))
theorem aok_k {xs : List Str} : ∀ {t : Con} {n : Nat}, t.In xs → t.deep + 7 ≤ n → aOk n (kD t)
  | .none, n + 1, _, h => by
    have h : 0 + 7 ≤ n + 1 := h
    obtain ⟨k, rfl⟩ : ∃ k, n = k + 1 := ⟨n - 1, by omega⟩
    exact ⟨Nat.le_of_ble_eq_true rfl, fun d hd => by rw [List.mem_singleton.mp hd]; exact aok_str _⟩
  | .give a b g o, n + 1, hi, h => by
    have h : 0 + 7 ≤ n + 1 := h
    have ho := hi.2.2
    obtain ⟨k, rfl⟩ : ∃ k, n = k + 1 := ⟨n - 1, by omega⟩
    refine ⟨Nat.le_of_ble_eq_true rfl, fun d hd => ?_⟩
    simp only [List.mem_cons, List.not_mem_nil, or_false] at hd
    rcases hd with rfl | rfl | rfl | rfl | rfl
    · exact aok_str _
    · exact aok_str _
    · exact aok_str _
    · exact aok_str _
    · exact aok_n (by omega)
  | .both c d, n + 1, hi, h => by
    have h : max c.deep d.deep + 1 + 7 ≤ n + 1 := h
    obtain ⟨k, rfl⟩ : ∃ k, n = k + 1 := ⟨n - 1, by omega⟩
    exact aok_t3 (aok_str _) (aok_k hi.1 (by omega)) (aok_k hi.2 (by omega))
  | .turned a b c, n + 1, hi, h => by
    have h : c.deep + 1 + 7 ≤ n + 1 := h
    obtain ⟨k, rfl⟩ : ∃ k, n = k + 1 := ⟨n - 1, by omega⟩
    exact aok_t4 (aok_str _) (aok_str _) (aok_str _) (aok_k hi.2 (by omega))
  | .later i c, n + 1, hi, h => by
    have h : c.deep + 1 + 7 ≤ n + 1 := h
    obtain ⟨k, rfl⟩ : ∃ k, n = k + 1 := ⟨n - 1, by omega⟩
    exact aok_t3 (aok_str _) (aok_int _) (aok_k hi.2 (by omega))
  | .often i g c, n + 1, hi, h => by
    have h : c.deep + 1 + 7 ≤ n + 1 := h
    obtain ⟨k, rfl⟩ : ∃ k, n = k + 1 := ⟨n - 1, by omega⟩
    exact aok_t4 (aok_str _) (aok_int _) (aok_int _) (aok_k hi.2.2 (by omega))
  | .ite q c d, n + 1, hi, h => by
    have h : max c.deep d.deep + 1 + 7 ≤ n + 1 := h
    have hq := hi.1.2
    obtain ⟨k, rfl⟩ : ∃ k, n = k + 1 := ⟨n - 1, by omega⟩
    exact aok_t4 (aok_str _) (aok_c hi.1.1 (by omega)) (aok_k hi.2.1 (by omega)) (aok_k hi.2.2 (by omega))
  | .whn q c, n + 1, hi, h => by
    have h : c.deep + 1 + 7 ≤ n + 1 := h
    have hq := hi.1.2
    obtain ⟨k, rfl⟩ : ∃ k, n = k + 1 := ⟨n - 1, by omega⟩
    exact aok_t3 (aok_str _) (aok_c hi.1.1 (by omega)) (aok_k hi.2 (by omega))
  | .untl q c, n + 1, hi, h => by
    have h : c.deep + 1 + 7 ≤ n + 1 := h
    have hq := hi.1.2
    obtain ⟨k, rfl⟩ : ∃ k, n = k + 1 := ⟨n - 1, by omega⟩
    exact aok_t3 (aok_str _) (aok_c hi.1.1 (by omega)) (aok_k hi.2 (by omega))

/-! ### texts of contracts -/
def txT (w : Str) (ts : List Str) : Str := if w = "num" ∨ w = "read" then ts.headD "" else if ts = [] then w else w ++ ("(" : Str) ++ Txt.join ", " ts ++ (")" : Str)
mutual
def tx : PyData → Str
  | .int i => isx i
  | .str x => x
  | .tuple ds => match txs ds with
    | w :: ts => txT w ts
    | [] => ""
  | _ => ""
def txs : List PyData → List Str
  | [] => []
  | d :: ds => tx d :: txs ds
end
def tOk : Nat → PyData → Prop
  | _ + 1, .int i => i.natAbs < 10 ^ 13
  | _ + 1, .str x => x.length ≤ 100
  | n + 1, .tuple (.str w :: ds) => w.length ≤ 100 ∧ ds.length ≤ 5 ∧ (∀ d ∈ ds, tOk n d ∧ (tx d).length ≤ 1000000) ∧ ((w = "num" ∨ w = "read") → ∃ e, ds = [e] ∧ isTup e = false)
  | _, _ => False
theorem tx_tup {w : Str} {ds : List PyData} : tx (.tuple (.str w :: ds)) = txT w (txs ds) := rfl
theorem isx_len {i : Int} (h : i.natAbs < 10 ^ 13) : (isx i).length ≤ 14 := by
  have := int_text_length_le10 (k := 13) (by decide) h
  show (Str.ofString (toString i)).length ≤ 14
  rw [PySem.ofString_length]
  exact this
theorem isx_log {i : Int} (h : i.natAbs < 10 ^ 13) : i.natAbs.log2 < 1920 := by
  by_cases z : i.natAbs = 0
  · rw [z]; decide
  · rw [Nat.log2_lt z]
    exact Nat.lt_trans h (by decide)
theorem txs_len : ∀ ds : List PyData, (txs ds).length = ds.length
  | [] => rfl
  | d :: ds => by show (txs ds).length + 1 = _; rw [txs_len ds]; rfl
theorem txs_map : ∀ ds : List PyData, txs ds = ds.map tx
  | [] => rfl
  | d :: ds => by show tx d :: txs ds = _; rw [txs_map ds]; rfl
theorem txs_sum : ∀ {ds : List PyData}, (∀ d ∈ ds, (tx d).length ≤ 1000000) → ((txs ds).map (·.length)).sum ≤ ds.length * 1000000
  | [], _ => Nat.zero_le _
  | d :: ds, h => by
    have a := h d List.mem_cons_self
    have b := txs_sum (ds := ds) fun e he => h e (List.mem_cons_of_mem _ he)
    show (tx d).length + ((txs ds).map (·.length)).sum ≤ (ds.length + 1) * 1000000
    omega
theorem join_le (s : Str) (ys : List Str) : (Txt.join s ys).length ≤ (ys.map (·.length)).sum + ys.length * s.length := by
  show (Builtin.Str.glued s ys).length ≤ _
  rw [StrLaws.glued_eq_join]
  exact StrLaws.join_length_le s ys
theorem inNR (w : Str) : inV (.str w) [.str "num", .str "read"] = decide (w = "num" ∨ w = "read") := by
  have e : ∀ a b : Str, (a == b) = decide (b = a) := fun a b => by
    by_cases c : a = b
    · subst c; simp
    · rw [decide_eq_false (fun z => c z.symm)]
      simpa using c
  simp only [inV, List.any_cons, List.any_nil, eqV, e, Bool.or_false, Bool.decide_or]
def spTx (K : PySem.W.Frag) (n : Nat) : Sp := fun vs H Q _ => ∃ (v : V) (d : PyData), vs = [v] ∧ Dp K H v d ∧ tOk n d ∧ ∀ H', Same H H' → Q (.str (tx d)) H'
theorem use_tx {K : PySem.W.Frag} {n : Nat} {v : V} {d : PyData} {H : Hp} {Q : VK} {E : XK} (h : Dp K H v d) (k : tOk n d) (q : ∀ H', Same H H' → Q (.str (tx d)) H') : spTx K n ([v] ++ []) H Q E := ⟨v, d, rfl, h, k, q⟩
theorem none_tx {P : Program} {w : World} {K : PySem.W.Frag} {mg : Str → Option Value} {base : Heap} {f : Addr} {fd : FuncData} {ps : List Str} : FnOk P w K mg base CX0 0 f fd ps (spTx K 0) := by
  have no : ∀ vs H Q E, ¬ spTx K 0 vs H Q E := fun vs H Q E h => by
    obtain ⟨v, d, _, _, h1, _⟩ := h
    cases d <;> exact h1
  exact ⟨fun vs H Q E h => absurd h (no vs H Q E), fun A outer s H args us vs Q E _ _ _ _ h => absurd h (no vs H Q E)⟩
theorem tok_head {n : Nat} {ds : List PyData} (h : tOk (n + 1) (.tuple ds)) : ∃ w es, ds = .str w :: es := by
  cases ds with
  | nil => exact absurd h (by simp [tOk])
  | cons d es =>
    cases d with
    | str w => exact ⟨w, es, rfl⟩
    | _ => exact absurd h (by simp [tOk])
/-- the parts' texts, put together by their word -/
theorem DpAll.leaf {K : PySem.W.Frag} {H : Hp} {vs : List V} {e : PyData} (h : DpAll K H vs [e]) : ∃ v, vs = [v] ∧ Dp K H v e := by
  cases h with
  | cons a r =>
    cases r
    exact ⟨_, rfl, a⟩
section
variable {P : Program} {w : World} {K : PySem.W.Frag} {mg : Str → Option Value} {base : Heap}
abbrev s__written : Stmt := topS 34
theorem sc__written : FnScope ["told", "parts", "part"] ["told"] (defScope s__written) := ⟨rfl, rfl, rfl, by decide +kernel, rfl, by decide +kernel, by decide +kernel⟩
theorem h__written {n : Nat} {k : Nat} {f : Addr} {fd : FuncData} (O : Own K mg "_written" s__written ["told"] f fd)  {f__written : Addr} {fd__written : FuncData} (D__written : Has P w K mg base "_written" ["told"] k CX0 (spTx K n) f__written fd__written) (m_len : mg "len" = none) (m_str : mg "str" = none) (m_isinstance : mg "isinstance" = none) (m_tuple : mg "tuple" = none) : Has P w K mg base "_written" ["told"] (k + 1) CX0 (spTx K (n + 1)) f fd := by
  refine O.has (O.F.ok sc__written (fun vs H Q E h => ?_) (fun cdv A outer s H vs Q E hr h => ?_))
  · obtain ⟨v, d, rfl, _⟩ := h
    rfl
  obtain ⟨v, d, rfl, hd, hk, q⟩ := h
  refine ⟨_, (pss_cons (ps_if (pt_not (pt_val (pe_callB call_isi (by rfl) m_isinstance (by decide +kernel) (pa_cons (pv 0) (pa_cons (pe_bltn (v := .ty "tuple") (by rfl) m_tuple (by decide +kernel) rfl) pa_nil))))) (pss_one (ps_ret (pe_callTy call_strA (by rfl) m_str (by decide +kernel) (pa_cons (pv 0) pa_nil)))) pss_nil) (pss_cons (ps_if (pt_cmpR op_in_seq (pe_ix ix_tup (pv 0) pe_int (fun _ _ => rfl)) (pe_tup (pa_cons pe_str (pa_cons pe_str pa_nil))) (by rfl)) (pss_one (ps_ret (pe_callTy call_strA (by rfl) m_str (by decide +kernel) (pa_cons (pe_ix ix_tup (pv 0) pe_int (fun _ _ => rfl)) pa_nil)))) pss_nil) (pss_cons (ps_if (pt_cmpR op_eq (pe_callB call_len_seq (by rfl) m_len (by decide +kernel) (pa_cons (pv 0) pa_nil)) pe_int (nomark _)) (pss_one (ps_ret (pe_ix ix_tup (pv 0) pe_int (fun _ _ => rfl)))) pss_nil) (pss_cons (ps_setLc (i := 1) (own := [("part", 2)]) (g := gName 2) rfl sc__written.nd rfl rfl (sw_true rfl rfl rfl (by decide +kernel)) (pi_tup (pe_slice sl_tup (pv 0) (po_some pe_int) po_none)) (blkOk_by (own := [("part", 2)]) (N := ["told", "parts", "part"]) (sc := defScope s__written) (by decide +kernel)) (fun _ _ _ _ _ => pg_name (i := 2) sc__written.nd rfl (.inl rfl)) (fun _ _ _ _ _ => pts_nil) (fun _ _ _ _ _ => (pe_call D__written.G hr (by rfl) D__written.g D__written.k D__written.b .nil pass0 (pa_cons (pv 2) pa_nil)))) (pss_one (ps_ret (pe_op op_add_str (pe_op op_add_str (pe_op op_add_str (pe_ix ix_tup (pv 0) pe_int (fun _ _ => rfl)) pe_str) (pe_bm PySem.F.plainAttrs_str PySem.F.slot_str_join PySem.F.type_str_join mt_join pe_str (pa_cons (pv 1) pa_nil))) pe_str))))))), ?_⟩
  walk_at "go"
  refine use_isTup hd ?_
  cases hd with
  | int i =>
    dsimp only [isTup]
    refine ⟨_, rfl, iteNF ?_⟩
    walk_at "go"
    exact .inl ⟨i, rfl, isx_log hk, q _ (Same.refl H)⟩
  | str x =>
    dsimp only [isTup]
    refine ⟨_, rfl, iteNF ?_⟩
    walk_at "go"
    exact .inr ⟨x, rfl, q _ (Same.refl H)⟩
  | @tup a vs ds ha hall =>
    dsimp only [isTup]
    refine ⟨_, rfl, iteNT ?_⟩
    obtain ⟨w, es, rfl⟩ := tok_head hk
    obtain ⟨k1, k2, k3, k4⟩ : w.length ≤ 100 ∧ es.length ≤ 5 ∧ (∀ d ∈ es, tOk n d ∧ (tx d).length ≤ 1000000) ∧ ((w = "num" ∨ w = "read") → ∃ e, es = [e] ∧ isTup e = false) := hk
    cases hall with
    | @cons v0 vr d0 dr hd0 hr0 =>
    cases hd0
    rw [tx_tup] at q
    walk_at "go"
    refine ⟨_, _, _, _, rfl, rfl, ha, at_any (j := 0) rfl rfl, ?_⟩
    walk_at "go"
    refine ⟨by show 2 ≤ sizeLine; decide, fun p4 np4 => ?_⟩
    refine ⟨p4, _, rfl, .inr (sqt upd_same), rfl, rfl, ?_⟩
    have s4 := same_new (o := .tup [.str "num", .str "read"]) np4
    have ha4 := SqT.same s4 ha
    have hr4 := DpAll.dm (DM.of s4) hr0
    have q4 : ∀ H', Same (upd H p4 (.tup [.str "num", .str "read"])) H' → Q (.str (txT w (txs es))) H' := fun H' e => q H' (s4.trans e)
    clear q
    generalize upd H p4 (.tup [.str "num", .str "read"]) = H4 at ha4 hr4 q4 ⊢
    rw [if_neg Bool.false_ne_true, inNR]
    refine ⟨_, rfl, ifd (fun c => ?_) (fun c => ?_)⟩
    · obtain ⟨e, rfl, he⟩ := k4 c
      obtain ⟨v1, rfl, h1⟩ := DpAll.leaf hr4
      have e1 : txT w (txs [e]) = tx e := by unfold txT; rw [if_pos c]; rfl
      rw [e1] at q4
      walk_at "go"
      refine ⟨_, _, _, _, rfl, rfl, ha4, at_any (j := 1) rfl rfl, ?_⟩
      have ke := (k3 e List.mem_cons_self).1
      cases n with
      | zero => cases e <;> exact ke.elim
      | succ n =>
      cases h1 with
      | int i => exact .inl ⟨i, rfl, isx_log ke, q4 _ (Same.refl _)⟩
      | str x => exact .inr ⟨x, rfl, q4 _ (Same.refl _)⟩
      | tup _ _ => cases he
      | _ => exact ke.elim
    walk_at "go"
    refine ⟨_, _, rfl, .inr ha4, ?_⟩
    walk_at "go"
    have hl := DpAll.len hr0
    refine ifd (fun c2 => ?_) (fun c2 => ?_)
    · have e0 : es = [] := by
        rw [List.length_cons] at c2
        exact List.length_eq_zero_iff.mp (by omega)
      subst e0
      have e1 : txT w (txs []) = w := by unfold txT; rw [if_neg c]; exact if_pos rfl
      rw [e1] at q4
      walk_at "go"
      refine ⟨_, _, _, _, rfl, rfl, ha4, at_any (j := 0) rfl rfl, ?_⟩
      exact q4 _ (Same.refl _)
    rw [List.length_cons] at c2
    walk_at "go"
    refine ⟨_, _, rfl, ha4, not_whole1 _ _, fun p np => ?_⟩
    rw [cut1]
    have s5 := same_new (o := .tup vr) np
    have h5 : SqT K (upd H4 p (.tup vr)) p vr := sqt upd_same
    have ha5 := SqT.same s5 ha4
    have hr5 := DpAll.dm (DM.of s5) hr4
    have q5 : ∀ H', Same (upd H4 p (.tup vr)) H' → Q (.str (txT w (txs es))) H' := fun H' e => q4 H' (s5.trans e)
    clear q4
    generalize upd H4 p (.tup vr) = H5 at h5 ha5 hr5 q5 ⊢
    walk_at "go"
    refine ⟨⟨_, h5⟩, fun D nD => lc_tup (xs := vr) (fun i H6 => H6 D = some (.lst (((txs es).take i).map V.str)) ∧ Same H5 H6) ⟨upd_same, same_new nD⟩ (fun i H6 hi hW => SqT.same hW.2 h5) (fun i x H6 hx hW => ?_) (fun H6 hW => ?_)⟩
    · obtain ⟨hD, e6⟩ := hW
      have hi : i < es.length := by have := (List.getElem?_eq_some_iff.mp hx).1; omega
      have hei : es[i]? = some es[i] := List.getElem?_eq_getElem hi
      obtain ⟨y', hy', hDy⟩ := DpAll.at hr5 hei
      have ey : y' = x := Option.some.inj (hy'.symm.trans hx)
      subst ey
      have ki := k3 es[i] (List.getElem_mem hi)
      walk_at "go"
      refine use_tx (Dp.dm (.of e6) hDy) ki.1 fun H7 e7 => ?_
      have hti : (txs es)[i]? = some (tx es[i]) := by rw [txs_map, List.getElem?_map, hei]; rfl
      refine ⟨_, e7 _ _ hD, ?_, ?_, fun b o h => ?_⟩
      · rw [List.length_map, List.length_take, txs_len]
        exact small1000 (by omega)
      · rw [upd_same, List.take_succ, hti, List.map_append]
        rfl
      · rw [upd_ne (ne_of_none h nD)]
        exact e7 _ _ (e6 _ _ h)
    obtain ⟨hD, e6⟩ := hW
    rw [List.take_of_length_le (by rw [txs_len]; omega)] at hD
    have q6 : ∀ H', Same H6 H' → Q (.str (txT w (txs es))) H' := fun H' e => q5 H' (e6.trans e)
    have ha6 := SqT.same e6 ha5
    have ne : ¬ txs es = [] := fun z => by
      have := congrArg List.length z
      rw [txs_len] at this
      exact c2 (by rw [hl, this]; rfl)
    have e1 : txT w (txs es) = w ++ ("(" : Str) ++ Txt.join ", " (txs es) ++ (")" : Str) := by unfold txT; rw [if_neg c, if_neg ne]
    have hs := txs_sum (fun d hd => (k3 d hd).2)
    have hj := join_le ", " (txs es)
    have l2 : (", " : Str).length = 2 := by decide +kernel
    have l1 : ("(" : Str).length = 1 := by decide +kernel
    have l3 : (")" : Str).length = 1 := by decide +kernel
    rw [txs_len, l2] at hj
    have z : (16777216 : Nat) = sizeLine := by decide
    rw [e1] at q6
    walk_at "go"
    refine ⟨_, _, _, _, rfl, rfl, ha6, at_any (j := 0) rfl rfl, ?_⟩
    walk_at "go"
    refine ⟨by rw [l1]; omega, ?_⟩
    walk_at "go"
    refine ⟨rfl, ?_⟩
    walk_at "go"
    refine ⟨_, D, txs es, rfl, rfl, .inl (sql hD), by rw [txs_len, l2]; omega, ?_⟩
    refine ⟨_, _, rfl, rfl, by rw [str_app_len, l1]; omega, ?_⟩
    walk_at "go"
    refine ⟨by rw [str_app_len, str_app_len, l1, l3]; omega, ?_⟩
    exact q6 _ (Same.refl _)
  | _ => exact hk.elim
abbrev s__law_text : Stmt := topS 48
theorem sc__law_text : FnScope ["_law_told_here", "_law_one"] ["_law_told_here"] (defScope s__law_text) := ⟨rfl, rfl, rfl, by decide +kernel, rfl, by decide +kernel, by decide +kernel⟩
theorem h__law_text {n : Nat} {k : Nat} {f : Addr} {fd : FuncData} (O : Own K mg "_law_text" s__law_text ["_law_told_here"] f fd)  {f__law_text : Addr} {fd__law_text : FuncData} (D__law_text : Has P w K mg base "_law_text" ["_law_told_here"] k CX0 (spTx K n) f__law_text fd__law_text) (m_len : mg "len" = none) (m_str : mg "str" = none) (m_isinstance : mg "isinstance" = none) (m_int : mg "int" = none) : Has P w K mg base "_law_text" ["_law_told_here"] (k + 1) CX0 (spTx K (n + 1)) f fd := by
  refine O.has (O.F.ok sc__law_text (fun vs H Q E h => ?_) (fun cdv A outer s H vs Q E hr h => ?_))
  · obtain ⟨v, d, rfl, _⟩ := h
    rfl
  obtain ⟨v, d, rfl, hd, hk, q⟩ := h
  refine ⟨_, (pss_cons (ps_if (pt_val (pe_callB call_isi (by rfl) m_isinstance (by decide +kernel) (pa_cons (pv 0) (pa_cons (pe_bltn (v := .ty "int") (by rfl) m_int (by decide +kernel) rfl) pa_nil)))) (pss_one (ps_ret (pe_callTy call_str_int (by rfl) m_str (by decide +kernel) (pa_cons (pv 0) pa_nil)))) pss_nil) (pss_cons (ps_if (pt_val (pe_callB call_isi (by rfl) m_isinstance (by decide +kernel) (pa_cons (pv 0) (pa_cons (pe_bltn (v := .ty "str") (by rfl) m_str (by decide +kernel) rfl) pa_nil)))) (pss_one (ps_ret (pv 0))) pss_nil) (pss_cons (ps_if (PW.pt (pw_or (pt_cmpR op_eq (pe_ix ix_tup (pv 0) pe_int (fun _ _ => rfl)) pe_str (nomark _)) (pw_or1 (pt_cmpR op_eq (pe_ix ix_tup (pv 0) pe_int (fun _ _ => rfl)) pe_str (nomark _))))) (pss_one (ps_ret (pe_callTy call_strA (by rfl) m_str (by decide +kernel) (pa_cons (pe_ix ix_tup (pv 0) pe_int (fun _ _ => rfl)) pa_nil)))) pss_nil) (pss_cons (ps_if (pt_cmpR op_eq (pe_callB call_len_seq (by rfl) m_len (by decide +kernel) (pa_cons (pv 0) pa_nil)) pe_int (nomark _)) (pss_one (ps_ret (pe_ix ix_tup (pv 0) pe_int (fun _ _ => rfl)))) pss_nil) (pss_one (ps_ret (pe_op op_add_str (pe_op op_add_str (pe_op op_add_str (pe_ix ix_tup (pv 0) pe_int (fun _ _ => rfl)) pe_str) (pe_bm PySem.F.plainAttrs_str PySem.F.slot_str_join PySem.F.type_str_join mt_join pe_str (pa_cons (pe_lc (own := [("_law_one", 1)]) (g := gName 1) rfl sc__law_text.nd (pi_tup (pe_slice sl_tup (pv 0) (po_some pe_int) po_none)) (blkOk_by (own := [("_law_one", 1)]) (N := ["_law_told_here", "_law_one"]) (sc := defScope s__law_text) (by decide +kernel)) (fun _ _ _ _ _ => pg_name (i := 1) sc__law_text.nd rfl (.inl rfl)) (fun _ _ _ _ _ => pts_nil) (fun _ _ _ _ _ => (pe_call D__law_text.G hr (by rfl) D__law_text.g D__law_text.k D__law_text.b .nil pass0 (pa_cons (pv 1) pa_nil)))) pa_nil))) pe_str))))))), ?_⟩
  walk_at "go"
  refine use_isInt hd ?_
  cases hd with
  | int i =>
    dsimp only [isInt]
    refine ⟨_, rfl, iteT ?_⟩
    walk_at "go"
    exact ⟨isx_log hk, q _ (Same.refl H)⟩
  | str x =>
    dsimp only [isInt]
    refine ⟨_, rfl, iteF ?_⟩
    walk_at "go"
    refine use_isStr (.str x) ?_
    dsimp only [isStr]
    refine ⟨_, rfl, iteT ?_⟩
    walk_at "go"
    exact q _ (Same.refl H)
  | @tup a vs ds ha hall =>
    dsimp only [isInt]
    refine ⟨_, rfl, iteF ?_⟩
    walk_at "go"
    refine use_isStr (.tup ha hall) ?_
    dsimp only [isStr]
    refine ⟨_, rfl, iteF ?_⟩
    obtain ⟨w, es, rfl⟩ := tok_head hk
    obtain ⟨k1, k2, k3, k4⟩ : w.length ≤ 100 ∧ es.length ≤ 5 ∧ (∀ d ∈ es, tOk n d ∧ (tx d).length ≤ 1000000) ∧ ((w = "num" ∨ w = "read") → ∃ e, es = [e] ∧ isTup e = false) := hk
    cases hall with
    | @cons v0 vr d0 dr hd0 hr0 =>
    cases hd0
    rw [tx_tup] at q
    walk_at "go"
    refine ⟨_, _, _, _, rfl, rfl, ha, at_any (j := 0) rfl rfl, ?_⟩
    walk_at "go"
    have ha4 := ha
    have hr4 := hr0
    have q4 := q
    refine or_cut (w = "read") (fun c => ?_) (fun c0 back => ?_)
    · obtain ⟨e, rfl, he⟩ := k4 c
      obtain ⟨v1, rfl, h1⟩ := DpAll.leaf hr4
      have e1 : txT w (txs [e]) = tx e := by unfold txT; rw [if_pos c]; rfl
      rw [e1] at q4
      walk_at "go"
      refine ⟨_, _, _, _, rfl, rfl, ha4, at_any (j := 1) rfl rfl, ?_⟩
      have ke := (k3 e List.mem_cons_self).1
      cases n with
      | zero => cases e <;> exact ke.elim
      | succ n =>
      cases h1 with
      | int i => exact .inl ⟨i, rfl, isx_log ke, q4 _ (Same.refl _)⟩
      | str x => exact .inr ⟨x, rfl, q4 _ (Same.refl _)⟩
      | tup _ _ => cases he
      | _ => exact ke.elim
    walk_at "go"
    refine ⟨_, _, _, _, rfl, rfl, ha4, at_any (j := 0) rfl rfl, ?_⟩
    walk_at "go"
    refine ifd back (fun c1 => ?_)
    have c : ¬ (w = "num" ∨ w = "read") := fun z => z.elim c0 c1
    walk_at "go"
    refine ⟨_, _, rfl, .inr ha4, ?_⟩
    walk_at "go"
    have hl := DpAll.len hr0
    refine ifd (fun c2 => ?_) (fun c2 => ?_)
    · have e0 : es = [] := by
        rw [List.length_cons] at c2
        exact List.length_eq_zero_iff.mp (by omega)
      subst e0
      have e1 : txT w (txs []) = w := by unfold txT; rw [if_neg c]; exact if_pos rfl
      rw [e1] at q4
      walk_at "go"
      refine ⟨_, _, _, _, rfl, rfl, ha4, at_any (j := 0) rfl rfl, ?_⟩
      exact q4 _ (Same.refl _)
    rw [List.length_cons] at c2
    have l2 : (", " : Str).length = 2 := by decide +kernel
    have l1 : ("(" : Str).length = 1 := by decide +kernel
    have l3 : (")" : Str).length = 1 := by decide +kernel
    have z : (16777216 : Nat) = sizeLine := by decide
    walk_at "go"
    refine ⟨_, _, _, _, rfl, rfl, ha4, at_any (j := 0) rfl rfl, ?_⟩
    walk_at "go"
    refine ⟨by rw [l1]; omega, ?_⟩
    walk_at "go"
    refine ⟨rfl, ?_⟩
    walk_at "go"
    refine ⟨_, _, rfl, ha4, not_whole1 _ _, fun p np => ?_⟩
    rw [cut1]
    have s5 := same_new (o := .tup vr) np
    have h5 : SqT K (upd H p (.tup vr)) p vr := sqt upd_same
    have ha5 := SqT.same s5 ha4
    have hr5 := DpAll.dm (DM.of s5) hr4
    have q5 : ∀ H', Same (upd H p (.tup vr)) H' → Q (.str (txT w (txs es))) H' := fun H' e => q4 H' (s5.trans e)
    clear q4
    generalize upd H p (.tup vr) = H5 at h5 ha5 hr5 q5 ⊢
    walk_at "go"
    refine ⟨⟨_, h5⟩, fun D nD => lc_tup (xs := vr) (fun i H6 => H6 D = some (.lst (((txs es).take i).map V.str)) ∧ Same H5 H6) ⟨upd_same, same_new nD⟩ (fun i H6 hi hW => SqT.same hW.2 h5) (fun i x H6 hx hW => ?_) (fun H6 hW => ?_)⟩
    · obtain ⟨hD, e6⟩ := hW
      have hi : i < es.length := by have := (List.getElem?_eq_some_iff.mp hx).1; omega
      have hei : es[i]? = some es[i] := List.getElem?_eq_getElem hi
      obtain ⟨y', hy', hDy⟩ := DpAll.at hr5 hei
      have ey : y' = x := Option.some.inj (hy'.symm.trans hx)
      subst ey
      have ki := k3 es[i] (List.getElem_mem hi)
      walk_at "go"
      refine use_tx (Dp.dm (.of e6) hDy) ki.1 fun H7 e7 => ?_
      have hti : (txs es)[i]? = some (tx es[i]) := by rw [txs_map, List.getElem?_map, hei]; rfl
      refine ⟨_, e7 _ _ hD, ?_, ?_, fun b o h => ?_⟩
      · rw [List.length_map, List.length_take, txs_len]
        exact small1000 (by omega)
      · rw [upd_same, List.take_succ, hti, List.map_append]
        rfl
      · rw [upd_ne (ne_of_none h nD)]
        exact e7 _ _ (e6 _ _ h)
    obtain ⟨hD, e6⟩ := hW
    rw [List.take_of_length_le (by rw [txs_len]; omega)] at hD
    have q6 : ∀ H', Same H6 H' → Q (.str (txT w (txs es))) H' := fun H' e => q5 H' (e6.trans e)
    have ha6 := SqT.same e6 ha5
    have ne : ¬ txs es = [] := fun z => by
      have := congrArg List.length z
      rw [txs_len] at this
      exact c2 (by rw [hl, this]; rfl)
    have e1 : txT w (txs es) = w ++ ("(" : Str) ++ Txt.join ", " (txs es) ++ (")" : Str) := by unfold txT; rw [if_neg c, if_neg ne]
    have hs := txs_sum (fun d hd => (k3 d hd).2)
    have hj := join_le ", " (txs es)
    rw [txs_len, l2] at hj
    rw [e1] at q6
    walk_at "go"
    refine ⟨_, D, txs es, rfl, rfl, .inl (sql hD), by rw [txs_len, l2]; omega, ?_⟩
    refine ⟨_, _, rfl, rfl, by rw [str_app_len, l1]; omega, ?_⟩
    walk_at "go"
    refine ⟨by rw [str_app_len, str_app_len, l1, l3]; omega, ?_⟩
    exact q6 _ (Same.refl _)
  | _ => exact hk.elim
abbrev s_written : Stmt := topS 27
theorem sc_written : FnScope ["contract"] ["contract"] (defScope s_written) := ⟨rfl, rfl, rfl, by decide +kernel, rfl, by decide +kernel, by decide +kernel⟩
theorem h_written {k : Nat} {f : Addr} {fd : FuncData} (O : Own K mg "written" s_written ["contract"] f fd)  {f__written : Addr} {fd__written : FuncData} (D__written : Has P w K mg base "_written" ["told"] k CX0 (spTx K 13) f__written fd__written) : Has P w K mg base "written" ["contract"] (k + 1) CX0 (spTx K 13) f fd := by
  refine O.has (O.F.ok sc_written (fun vs H Q E h => ?_) (fun cdv A outer s H vs Q E hr h => ?_))
  · obtain ⟨v, d, rfl, _⟩ := h
    rfl
  obtain ⟨v, d, rfl, hd, hk, q⟩ := h
  refine ⟨_, (pss_one (ps_ret (pe_call D__written.G hr (by rfl) D__written.g D__written.k D__written.b .nil pass0 (pa_cons (pv 0) pa_nil)))), ?_⟩
  walk_at "go"
  exact use_tx hd hk q
end

theorem LS.tb {K : PySem.W.Frag} {PT : Addr} {c : Cfg} {ns : List Int} {xs : List Str} {s na nm : Addr} {H H' : Hp} (L : LS K c ns xs s na nm H) (g : GxR.TabG H PT) (t : Tb PT H H') : LS K c ns xs s na nm H' := by
  obtain ⟨⟨n, re, mx, h, r⟩, h1, h2, h3, h4, h5⟩ := L
  have m := t.dm (K := K) g
  obtain ⟨ps, hP, _⟩ := g
  exact ⟨⟨n, re, mx, t.k _ _ (fun z => by rw [z, hP] at h; cases h) h, r⟩, m.l _ _ h1, m.l _ _ h2, h3, h4, h5⟩
theorem LS.tab {K : PySem.W.Frag} {PT : Addr} {c : Cfg} {ns : List Int} {xs : List Str} {s na nm : Addr} {H H' : Hp} (L : LS K c ns xs s na nm H) (g : GxR.TabG H PT) (e : KB s H H') : GxR.TabG H' PT := by
  obtain ⟨⟨n, re, mx, h, r⟩, _⟩ := L
  exact tab_kb g e h

/-! ### words and whole numbers -/
def isWh : PyData → Bool
  | .int _ => true
  | _ => false
def spIsWord (K : PySem.W.Frag) (PT : Addr) : Sp := fun vs H Q _ => ∃ (v : V) (d : PyData), vs = [v] ∧ Dp K H v d ∧ szOk d = true ∧ GxR.TabG H PT ∧ ∀ H', Tb PT H H' → Q (.bl (isW' d)) H'
def spWhole (K : PySem.W.Frag) : Sp := fun vs H Q _ => ∃ (v : V) (d : PyData), vs = [v] ∧ Dp K H v d ∧ Q (.bl (isWh d)) H
def spBetween (K : PySem.W.Frag) : Sp := fun vs H Q _ => ∃ (v : V) (d : PyData) (lo hi : Int), vs = [v, .int lo, .int hi] ∧ Dp K H v d ∧ Q (.bl (inB lo hi d)) H
def spAmount (K : PySem.W.Frag) : Sp := fun vs H Q _ => ∃ (v : V) (d : PyData), vs = [v] ∧ Dp K H v d ∧ Q (.bl (inB (-999999999999) 999999999999 d)) H
theorem in_letters (c : Nat) : decide (c ∈ (Str.ofString "abcdefghijklmnopqrstuvwxyz").cps.toList) = (decide (97 ≤ c) && decide (c ≤ 122)) := by
  have e : (Str.ofString "abcdefghijklmnopqrstuvwxyz").cps.toList = (List.range 26).map (97 + ·) := by decide +kernel
  rw [e, Bool.eq_iff_iff]
  simp only [decide_eq_true_eq, List.mem_map, List.mem_range, Bool.and_eq_true]
  constructor
  · rintro ⟨i, h, rfl⟩
    omega
  · intro h
    exact ⟨c - 97, by omega, by omega⟩
theorem use_whole {K : PySem.W.Frag} {H : Hp} {v : V} {d : PyData} {Q : VK} {E : XK} (h : Dp K H v d) (q : Q (.bl (isWh d)) H) : spWhole K ([v] ++ []) H Q E := ⟨v, d, rfl, h, q⟩
theorem use_isWord {K : PySem.W.Frag} {PT : Addr} {H : Hp} {v : V} {d : PyData} {Q : VK} {E : XK} (h : Dp K H v d) (z : szOk d = true) (t : GxR.TabG H PT) (q : ∀ H', Tb PT H H' → Q (.bl (isW' d)) H') : spIsWord K PT ([v] ++ []) H Q E := ⟨v, d, rfl, h, z, t, q⟩
theorem use_between {K : PySem.W.Frag} {H : Hp} {v : V} {d : PyData} {lo hi : Int} {Q : VK} {E : XK} (h : Dp K H v d) (q : Q (.bl (inB lo hi d)) H) : spBetween K ([v, .int lo, .int hi] ++ []) H Q E := ⟨v, d, lo, hi, rfl, h, q⟩
theorem use_amount {K : PySem.W.Frag} {H : Hp} {v : V} {d : PyData} {Q : VK} {E : XK} (h : Dp K H v d) (q : Q (.bl (inB (-999999999999) 999999999999 d)) H) : spAmount K ([v] ++ []) H Q E := ⟨v, d, rfl, h, q⟩
theorem thousand : (100000 : Nat) ≤ sizeLine := by decide
section
variable {P : Program} {w : World} {K : PySem.W.Frag} {mg : Str → Option Value} {base : Heap}
abbrev s_is_word : Stmt := topS 10
theorem sc_is_word : FnScope ["told"] ["told"] (defScope s_is_word) := ⟨rfl, rfl, rfl, by decide +kernel, rfl, by decide +kernel, by decide +kernel⟩
theorem h_is_word {cT PT : Addr} (tb : GxR.TabB base mg cT PT) {k : Nat} {f : Addr} {fd : FuncData} (O : OwnC cT K mg "is_word" s_is_word ["told"] f fd)  (m_all : mg "all" = none) {t_LETTERS : Tok} (m_LETTERS : mg "LETTERS" = some (.str "abcdefghijklmnopqrstuvwxyz" t_LETTERS)) (m_len : mg "len" = none) {t_LONGEST_WORD : Tok} (m_LONGEST_WORD : mg "LONGEST_WORD" = some (.int 8 t_LONGEST_WORD)) (m_isinstance : mg "isinstance" = none) (m_str : mg "str" = none) : Has P w K mg base "is_word" ["told"] (k + 1) CX0 (spIsWord K PT) f fd := by
  refine O.has (O.F.ok sc_is_word (fun vs H Q E h => ?_) (fun A outer s H vs Q E hr h => ?_))
  · obtain ⟨v, d, rfl, _⟩ := h
    rfl
  obtain ⟨v, d, rfl, hd, hz, ht, q⟩ := h
  refine ⟨_, (pss_cons (ps_if (PW.pt (pw_or (pt_not (pt_val (pe_callB call_isi (by rfl) m_isinstance (by decide +kernel) (pa_cons (pv 0) (pa_cons (pe_bltn (v := .ty "str") (by rfl) m_str (by decide +kernel) rfl) pa_nil))))) (pw_or1 (pt_not (pt_chain op_le op_le pe_int (pe_callB call_len_str (by rfl) m_len (by decide +kernel) (pa_cons (pv 0) pa_nil)) (pe_glob (v := .int (8)) (by rfl) m_LONGEST_WORD ⟨_, rfl⟩)))))) (pss_one (ps_ret pe_bl)) pss_nil) (pss_one (ps_ret (pe_allG hr rfl m_all (by decide +kernel) tb rfl ⟨rfl, rfl, by decide +kernel, rfl, rfl, fun y hy hf => absurd hf ((by decide +kernel : ∀ z ∈ _, z.2 ≠ NameKind.free) y hy)⟩ (pv 0) (elm_in rfl rfl rfl m_LETTERS) (fun _ => rfl))))), ?_⟩
  walk_at "go"
  refine use_isStr hd ?_
  cases hd with
  | str x =>
    have e : ∀ H', Tb PT H H' → isW' (.str x) = false → Q (.bl false) H' := fun H' t e => by
      have z := q H' t
      rw [e] at z
      exact z
    have hz : x.length ≤ 100000 := of_decide_eq_true hz
    dsimp only [isStr]
    walk_at "go"
    refine ⟨Nat.le_trans hz thousand, ?_⟩
    walk_at "go"
    refine ifd (fun c => ?_) (fun c => ?_)
    · walk_at "go"
      refine ifdn (fun c2 => ?_) (fun c2 => ?_)
      · walk_at "go"
        refine ⟨_, rfl, x, rfl, ht, fun H2 t => ?_⟩
        have z := q H2 (.grown t)
        have e : (fun c => decide (c ∈ (Str.ofString "abcdefghijklmnopqrstuvwxyz").cps.toList)) = fun c => decide (97 ≤ c) && decide (c ≤ 122) := funext in_letters
        rw [e]
        have e1 : isW' (.str x) = (x.cps.toList.all fun c => decide (97 ≤ c) && decide (c ≤ 122)) := by
          dsimp only [isW']
          rw [decide_eq_true (show 1 ≤ x.length by omega), decide_eq_true (show x.length ≤ 8 by omega)]
          rfl
        rw [e1] at z
        exact z
      · walk_at "go"
        refine e _ (.refl ht) ?_
        dsimp only [isW']
        rw [decide_eq_false (show ¬ x.length ≤ 8 by omega)]
        simp
    · walk_at "go"
      refine e _ (.refl ht) ?_
      dsimp only [isW']
      rw [decide_eq_false (show ¬ 1 ≤ x.length by omega)]
      rfl
  | _ =>
    dsimp only [isStr]
    walk_at "go"
    exact q _ (.refl ht)
abbrev s_is_whole : Stmt := topS 11
theorem sc_is_whole : FnScope ["told"] ["told"] (defScope s_is_whole) := ⟨rfl, rfl, rfl, by decide +kernel, rfl, by decide +kernel, by decide +kernel⟩
theorem h_is_whole {k : Nat} {f : Addr} {fd : FuncData} (O : Own K mg "is_whole" s_is_whole ["told"] f fd)  (m_isinstance : mg "isinstance" = none) (m_bool : mg "bool" = none) (m_int : mg "int" = none) : Has P w K mg base "is_whole" ["told"] (k + 1) CX0 (spWhole K) f fd := by
  refine O.has (O.F.ok sc_is_whole (fun vs H Q E h => ?_) (fun cdv A outer s H vs Q E hr h => ?_))
  · obtain ⟨v, d, rfl, _⟩ := h
    rfl
  obtain ⟨v, d, rfl, hd, q⟩ := h
  refine ⟨_, (pss_one (ps_ret (pe_and (pe_callB call_isi (by rfl) m_isinstance (by decide +kernel) (pa_cons (pv 0) (pa_cons (pe_bltn (v := .ty "int") (by rfl) m_int (by decide +kernel) rfl) pa_nil))) (pe_one (pe_not (pe_callB call_isi (by rfl) m_isinstance (by decide +kernel) (pa_cons (pv 0) (pa_cons (pe_bltn (v := .ty "bool") (by rfl) m_bool (by decide +kernel) rfl) pa_nil)))))))), ?_⟩
  walk_at "go"
  refine use_isInt hd ?_
  refine ⟨_, rfl, ?_⟩
  cases hd with
  | int i =>
    dsimp only [isInt]
    refine iteT ?_
    walk_at "go"
    refine use_isBool (.int i) ?_
    walk_at "go"
    exact q
  | bl i =>
    dsimp only [isInt]
    refine iteT ?_
    walk_at "go"
    refine use_isBool (.bl i) ?_
    walk_at "go"
    exact q
  | _ =>
    dsimp only [isInt]
    walk_at "go"
    exact q
abbrev s_is_between : Stmt := topS 12
theorem sc_is_between : FnScope ["told", "low", "high"] ["told", "low", "high"] (defScope s_is_between) := ⟨rfl, rfl, rfl, by decide +kernel, rfl, by decide +kernel, by decide +kernel⟩
theorem h_is_between {k : Nat} {f : Addr} {fd : FuncData} (O : Own K mg "is_between" s_is_between ["told", "low", "high"] f fd)  {f_is_whole : Addr} {fd_is_whole : FuncData} (D_is_whole : Has P w K mg base "is_whole" ["told"] k CX0 (spWhole K) f_is_whole fd_is_whole) : Has P w K mg base "is_between" ["told", "low", "high"] (k + 1) CX0 (spBetween K) f fd := by
  refine O.has (O.F.ok sc_is_between (fun vs H Q E h => ?_) (fun cdv A outer s H vs Q E hr h => ?_))
  · obtain ⟨v, d, lo, hi, rfl, _⟩ := h
    rfl
  obtain ⟨v, d, lo, hi, rfl, hd, q⟩ := h
  refine ⟨_, (pss_one (ps_ret (pe_and (pe_call D_is_whole.G hr (by rfl) D_is_whole.g D_is_whole.k D_is_whole.b .nil pass0 (pa_cons (pv 0) pa_nil)) (pe_one (pe_chain op_le op_le (pv 1) (pv 0) (pv 2)))))), ?_⟩
  walk_at "go"
  refine use_whole hd ?_
  refine ⟨_, rfl, ?_⟩
  cases hd with
  | int i =>
    have e : inB lo hi (.int i) = (decide (lo ≤ i) && decide (i ≤ hi)) := rfl
    rw [e] at q
    dsimp only [isWh]
    refine iteT ?_
    walk_at "go"
    refine ifd (fun c => ?_) (fun c => ?_)
    · rw [decide_eq_true c] at q
      walk_at "go"
      exact q
    · rw [decide_eq_false c] at q
      exact q
  | _ =>
    dsimp only [isWh]
    refine iteF ?_
    exact q
abbrev s_is_amount : Stmt := topS 13
theorem sc_is_amount : FnScope ["told"] ["told"] (defScope s_is_amount) := ⟨rfl, rfl, rfl, by decide +kernel, rfl, by decide +kernel, by decide +kernel⟩
theorem h_is_amount {k : Nat} {f : Addr} {fd : FuncData} (O : Own K mg "is_amount" s_is_amount ["told"] f fd)  {f_is_whole : Addr} {fd_is_whole : FuncData} (D_is_whole : Has P w K mg base "is_whole" ["told"] k CX0 (spWhole K) f_is_whole fd_is_whole) {t_TOO_LARGE : Tok} (m_TOO_LARGE : mg "TOO_LARGE" = some (.int 1000000000000 t_TOO_LARGE)) : Has P w K mg base "is_amount" ["told"] (k + 1) CX0 (spAmount K) f fd := by
  refine O.has (O.F.ok sc_is_amount (fun vs H Q E h => ?_) (fun cdv A outer s H vs Q E hr h => ?_))
  · obtain ⟨v, d, rfl, _⟩ := h
    rfl
  obtain ⟨v, d, rfl, hd, q⟩ := h
  refine ⟨_, (pss_one (ps_ret (pe_and (pe_call D_is_whole.G hr (by rfl) D_is_whole.g D_is_whole.k D_is_whole.b .nil pass0 (pa_cons (pv 0) pa_nil)) (pe_one (pe_chain op_lt op_lt (pe_un un_neg (pe_glob (v := .int (1000000000000)) (by rfl) m_TOO_LARGE ⟨_, rfl⟩)) (pv 0) (pe_glob (v := .int (1000000000000)) (by rfl) m_TOO_LARGE ⟨_, rfl⟩)))))), ?_⟩
  walk_at "go"
  refine use_whole hd ?_
  refine ⟨_, rfl, ?_⟩
  cases hd with
  | int i =>
    have e : inB (-999999999999) 999999999999 (.int i) = (decide (-1000000000000 < i) && decide (i < 1000000000000)) := by
      unfold inB
      rw [Bool.eq_iff_iff]
      simp only [Bool.and_eq_true, decide_eq_true_eq]
      omega
    rw [e] at q
    dsimp only [isWh]
    refine iteT ?_
    walk_at "go"
    refine ifd (fun c => ?_) (fun c => ?_)
    · have c : -1000000000000 < i := c
      rw [decide_eq_true c] at q
      walk_at "go"
      exact q
    · have c : ¬ -1000000000000 < i := c
      rw [decide_eq_false c] at q
      exact q
  | _ =>
    dsimp only [isWh]
    refine iteF ?_
    exact q
end

/-! ### need_contract -/
def spKinds (K : PySem.W.Frag) : Sp := fun vs H Q _ => ∃ (w kind : Str), vs = [.str w, .str kind] ∧ (kindsOf kind w = none → Q .non H) ∧ ∀ ks, kindsOf kind w = some ks → ∀ a, (∀ H', SqT K H' a (ks.map V.str)) → Q (.ref a) H
def spPlain (K : PySem.W.Frag) (PT : Addr) : Sp := fun vs H Q _ => ∃ (v : V) (d : PyData) (k : Str), vs = [v, .str k] ∧ Dp K H v d ∧ szOk d = true ∧ GxR.TabG H PT ∧ ∀ H', Tb PT H H' → Q (.bl (plainOk k d)) H'
def spForm (K : PySem.W.Frag) (C PT : Addr) (n : Nat) : Sp := fun vs H Q E => ∃ (v : V) (d : PyData) (kind : Str) (dp : Int), vs = [v, .str kind, .int dp] ∧ dp + n = 14 ∧ dp ≤ 13 ∧ kind.length ≤ 100 ∧ Dp K H v d ∧ szOk d = true ∧ GxR.TabG H PT ∧
  (wf (n - 1) kind d = true → ∀ H', Tb PT H H' → Q .non H') ∧ (wf (n - 1) kind d = false → ∀ H', Tb PT H H' → E (.ref C) none H')
def spNeed (K : PySem.W.Frag) (C PT : Addr) : Sp := fun vs H Q E => ∃ (v : V) (d : PyData), vs = [v] ∧ Dp K H v d ∧ szOk d = true ∧ GxR.TabG H PT ∧
  (wf 12 "contract" d = true → ∀ H', Tb PT H H' → Q .non H') ∧ (wf 12 "contract" d = false → ∀ H', Tb PT H H' → E (.ref C) none H')
theorem use_kinds {K : PySem.W.Frag} {w kind : Str} {H : Hp} {Q : VK} {E : XK} (q0 : kindsOf kind w = none → Q .non H) (q1 : ∀ ks, kindsOf kind w = some ks → ∀ a, (∀ H', SqT K H' a (ks.map V.str)) → Q (.ref a) H) : spKinds K ([.str w, .str kind] ++ []) H Q E := ⟨w, kind, rfl, q0, q1⟩
theorem use_plain {K : PySem.W.Frag} {PT : Addr} {v : V} {d : PyData} {k : Str} {H : Hp} {Q : VK} {E : XK} (h : Dp K H v d) (z : szOk d = true) (t : GxR.TabG H PT) (q : ∀ H', Tb PT H H' → Q (.bl (plainOk k d)) H') : spPlain K PT ([v, .str k] ++ []) H Q E := ⟨v, d, k, rfl, h, z, t, q⟩
theorem use_form {K : PySem.W.Frag} {C PT : Addr} {n : Nat} {v : V} {d : PyData} {kind : Str} {dp : Int} {H : Hp} {Q : VK} {E : XK} (h0 : dp + n = 14) (h1 : dp ≤ 13) (hk : kind.length ≤ 100) (h : Dp K H v d) (z : szOk d = true) (t : GxR.TabG H PT)
    (q0 : wf (n - 1) kind d = true → ∀ H', Tb PT H H' → Q .non H') (q1 : wf (n - 1) kind d = false → ∀ H', Tb PT H H' → E (.ref C) none H') : spForm K C PT n ([v, .str kind, .int dp] ++ []) H Q E := ⟨v, d, kind, dp, rfl, h0, h1, hk, h, z, t, q0, q1⟩
section
variable {P : Program} {w : World} {K : PySem.W.Frag} {mg : Str → Option Value} {base : Heap}
abbrev s_kinds_behind : Stmt := topS 20
theorem sc_kinds_behind : FnScope ["word", "kind"] ["word", "kind"] (defScope s_kinds_behind) := ⟨rfl, rfl, rfl, by decide +kernel, rfl, by decide +kernel, by decide +kernel⟩
theorem h_kinds_behind {k : Nat} {f : Addr} {fd : FuncData} (O : Own K mg "kinds_behind" s_kinds_behind ["word", "kind"] f fd)  {d_NUMBERS : Addr} (F_NUMBERS : FTab K w mg "NUMBERS" numForms d_NUMBERS) {d_CONDITIONS : Addr} (F_CONDITIONS : FTab K w mg "CONDITIONS" condForms d_CONDITIONS) {d_CONTRACTS : Addr} (F_CONTRACTS : FTab K w mg "CONTRACTS" ctrForms d_CONTRACTS) : Has P w K mg base "kinds_behind" ["word", "kind"] (k + 1) CX0 (spKinds K) f fd := by
  refine O.has (O.F.ok sc_kinds_behind (fun vs H Q E h => ?_) (fun cdv A outer s H vs Q E hr h => ?_))
  · obtain ⟨u, kind, rfl, _⟩ := h
    rfl
  obtain ⟨u, kind, rfl, q0, q1⟩ := h
  obtain ⟨e1, c1, kd_CONTRACTS⟩ := F_CONTRACTS.kd
  obtain ⟨e2, c2, kd_CONDITIONS⟩ := F_CONDITIONS.kd
  obtain ⟨e3, c3, kd_NUMBERS⟩ := F_NUMBERS.kd
  have m_CONTRACTS := F_CONTRACTS.g
  have m_CONDITIONS := F_CONDITIONS.g
  have m_NUMBERS := F_NUMBERS.g
  refine ⟨_, (pss_cons (ps_if (pt_cmpR op_eq (pv 1) pe_str (nomark _)) (pss_one (ps_ret (pe_kget kd_CONTRACTS (by rfl) m_CONTRACTS (pv 0) ⟨rfl, rfl, rfl, rfl⟩))) pss_nil) (pss_cons (ps_if (pt_cmpR op_eq (pv 1) pe_str (nomark _)) (pss_one (ps_ret (pe_kget kd_CONDITIONS (by rfl) m_CONDITIONS (pv 0) ⟨rfl, rfl, rfl, rfl⟩))) pss_nil) (pss_one (ps_ret (pe_kget kd_NUMBERS (by rfl) m_NUMBERS (pv 0) ⟨rfl, rfl, rfl, rfl⟩))))), ?_⟩
  have fin : ∀ (d : Addr) (L : Forms), tabOk K d L = true → kindsOf kind u = formOf L u → ∃ (z : Str) (r : Option Value) (v : V), V.str u = .str z ∧ PySem.W.nsIn K d z = some r ∧ RelV v (r.getD .none) ∧ Q v H := fun d L ok e => by
    have z := tabOk_ns ok u
    cases hf : formOf L u with
    | none =>
      rw [hf] at z e
      exact ⟨u, none, .non, rfl, z, rfl, q0 e⟩
    | some ks =>
      rw [hf] at z e
      obtain ⟨a, za, zs⟩ := z
      exact ⟨u, _, .ref a, rfl, za, rfl, q1 ks e a zs⟩
  walk_at "go"
  refine ifd (fun c => ?_) (fun c => ?_)
  · walk_at "go"
    refine ⟨_, rfl, ?_⟩
    exact fin _ _ F_CONTRACTS.ok (by unfold kindsOf; rw [if_pos c])
  walk_at "go"
  refine ifd (fun c' => ?_) (fun c' => ?_)
  · walk_at "go"
    refine ⟨_, rfl, ?_⟩
    exact fin _ _ F_CONDITIONS.ok (by unfold kindsOf; rw [if_neg c, if_pos c'])
  · walk_at "go"
    refine ⟨_, rfl, ?_⟩
    exact fin _ _ F_NUMBERS.ok (by unfold kindsOf; rw [if_neg c, if_neg c'])
abbrev s__is_plain : Stmt := topS 22
theorem sc__is_plain : FnScope ["told", "kind"] ["told", "kind"] (defScope s__is_plain) := ⟨rfl, rfl, rfl, by decide +kernel, rfl, by decide +kernel, by decide +kernel⟩
theorem h__is_plain {PT : Addr} {k : Nat} {f : Addr} {fd : FuncData} (O : Own K mg "_is_plain" s__is_plain ["told", "kind"] f fd)  {f_is_word : Addr} {fd_is_word : FuncData} (D_is_word : Has P w K mg base "is_word" ["told"] k CX0 (spIsWord K PT) f_is_word fd_is_word) {f_is_between : Addr} {fd_is_between : FuncData} (D_is_between : Has P w K mg base "is_between" ["told", "low", "high"] k CX0 (spBetween K) f_is_between fd_is_between) {f_is_amount : Addr} {fd_is_amount : FuncData} (D_is_amount : Has P w K mg base "is_amount" ["told"] k CX0 (spAmount K) f_is_amount fd_is_amount) : Has P w K mg base "_is_plain" ["told", "kind"] (k + 1) CX0 (spPlain K PT) f fd := by
  refine O.has (O.F.ok sc__is_plain (fun vs H Q E h => ?_) (fun cdv A outer s H vs Q E hr h => ?_))
  · obtain ⟨v, d, x, rfl, _⟩ := h
    rfl
  obtain ⟨v, d, x, rfl, hd, hz, ht, q⟩ := h
  refine ⟨_, (pss_cons (ps_if (pt_cmpR op_eq (pv 1) pe_str (nomark _)) (pss_one (ps_ret (pe_call D_is_amount.G hr (by rfl) D_is_amount.g D_is_amount.k D_is_amount.b .nil pass0 (pa_cons (pv 0) pa_nil)))) pss_nil) (pss_cons (ps_if (pt_cmpR op_eq (pv 1) pe_str (nomark _)) (pss_one (ps_ret (pe_call D_is_between.G hr (by rfl) D_is_between.g D_is_between.k D_is_between.b .nil pass0 (pa_cons (pv 0) (pa_cons pe_int (pa_cons pe_int pa_nil)))))) pss_nil) (pss_cons (ps_if (pt_cmpR op_eq (pv 1) pe_str (nomark _)) (pss_one (ps_ret (pe_call D_is_between.G hr (by rfl) D_is_between.g D_is_between.k D_is_between.b .nil pass0 (pa_cons (pv 0) (pa_cons pe_int (pa_cons pe_int pa_nil)))))) pss_nil) (pss_cons (ps_if (pt_cmpR op_eq (pv 1) pe_str (nomark _)) (pss_one (ps_ret (pe_call D_is_between.G hr (by rfl) D_is_between.g D_is_between.k D_is_between.b .nil pass0 (pa_cons (pv 0) (pa_cons pe_int (pa_cons pe_int pa_nil)))))) pss_nil) (pss_one (ps_ret (pe_call D_is_word.G hr (by rfl) D_is_word.g D_is_word.k D_is_word.b .nil pass0 (pa_cons (pv 0) pa_nil)))))))), ?_⟩
  unfold plainOk at q
  walk_at "go"
  refine ifd (fun c => ?_) (fun c => ?_)
  · rw [if_pos c] at q
    walk_at "go"
    exact use_amount hd (q _ (.refl ht))
  rw [if_neg c] at q
  walk_at "go"
  refine ifd (fun c => ?_) (fun c => ?_)
  · rw [if_pos c] at q
    walk_at "go"
    exact use_between hd (q _ (.refl ht))
  rw [if_neg c] at q
  walk_at "go"
  refine ifd (fun c => ?_) (fun c => ?_)
  · rw [if_pos c] at q
    walk_at "go"
    exact use_between hd (q _ (.refl ht))
  rw [if_neg c] at q
  walk_at "go"
  refine ifd (fun c => ?_) (fun c => ?_)
  · rw [if_pos c] at q
    walk_at "go"
    exact use_between hd (q _ (.refl ht))
  rw [if_neg c] at q
  walk_at "go"
  exact use_isWord hd hz ht q
abbrev s__need_form : Stmt := topS 21
theorem sc__need_form : FnScope ["told", "kind", "depth", "kinds", "inner", "part"] ["told", "kind", "depth"] (defScope s__need_form) := ⟨rfl, rfl, rfl, by decide +kernel, rfl, by decide +kernel, by decide +kernel⟩
theorem h__need_form {n : Nat} {PT : Addr} {k : Nat} {f : Addr} {fd : FuncData} (O : Own K mg "_need_form" s__need_form ["told", "kind", "depth"] f fd) {C_BadContract : Addr} (X_BadContract : ExcT K mg "BadContract" C_BadContract)  {f__need_form : Addr} {fd__need_form : FuncData} (D__need_form : Has P w K mg base "_need_form" ["told", "kind", "depth"] k (BkX.CX P w) (spForm K C_BadContract PT n) f__need_form fd__need_form) {f__is_plain : Addr} {fd__is_plain : FuncData} (D__is_plain : Has P w K mg base "_is_plain" ["told", "kind"] k CX0 (spPlain K PT) f__is_plain fd__is_plain) {f_kinds_behind : Addr} {fd_kinds_behind : FuncData} (D_kinds_behind : Has P w K mg base "kinds_behind" ["word", "kind"] k CX0 (spKinds K) f_kinds_behind fd_kinds_behind) (m_zip : mg "zip" = none) (m_len : mg "len" = none) (m_isinstance : mg "isinstance" = none) (m_str : mg "str" = none) (m_tuple : mg "tuple" = none) {t_DEEPEST : Tok} (m_DEEPEST : mg "DEEPEST" = some (.int 12 t_DEEPEST)) : Has P w K mg base "_need_form" ["told", "kind", "depth"] (k + 1) (BkX.CX P w) (spForm K C_BadContract PT (n + 1)) f fd := by
  refine O.has (O.F.okS sc__need_form (fun vs H Q E h => ?_) (fun cdv A outer s H vs Q E hr h => ?_))
  · obtain ⟨v, d, kind, dp, rfl, _⟩ := h
    rfl
  obtain ⟨v, d, kind, dp, rfl, h0, h1, hk, hd, hz, ht, q0, q1⟩ := h
  refine ⟨_, (pss_cons (ps_if (pt_cmpR op_gt (pv 2) (pe_glob (v := .int (12)) (by rfl) m_DEEPEST ⟨_, rfl⟩) (nomark _)) (pss_one (BkX.ps_raise rfl (BkX.takes_of rfl rfl rfl rfl) (BkX.pmk_own PySem.F.excBase_ValueError X_BadContract.x X_BadContract.g X_BadContract.k (raises_own X_BadContract.s X_BadContract.t) rfl))) pss_nil) (pss_cons (ps_if (PW.pt (pw_or (pt_not (pt_val (pe_callB call_isi (by rfl) m_isinstance (by decide +kernel) (pa_cons (pv 0) (pa_cons (pe_bltn (v := .ty "tuple") (by rfl) m_tuple (by decide +kernel) rfl) pa_nil))))) (pw_or (pt_cmpR op_eq (pe_callB call_len_seq (by rfl) m_len (by decide +kernel) (pa_cons (pv 0) pa_nil)) pe_int (nomark _)) (pw_or1 (pt_not (pt_val (pe_callB call_isi (by rfl) m_isinstance (by decide +kernel) (pa_cons (pe_ix ix_tup (pv 0) pe_int (fun _ _ => rfl)) (pa_cons (pe_bltn (v := .ty "str") (by rfl) m_str (by decide +kernel) rfl) pa_nil))))))))) (pss_one (BkX.ps_raise rfl (BkX.takes_of rfl rfl rfl rfl) (BkX.pmk_ownA PySem.F.excBase_ValueError X_BadContract.x X_BadContract.g X_BadContract.k (raises_own X_BadContract.s X_BadContract.t) rfl (pa_cons (pe_joined (.cons pe_str (.cons (pe_fmt (pv 1)) (.cons pe_str .nil)))) pa_nil)))) pss_nil) (pss_cons (ps_set (i := 3) sc__need_form.nd rfl (.inl rfl) (pe_call D_kinds_behind.G hr (by rfl) D_kinds_behind.g D_kinds_behind.k D_kinds_behind.b .nil pass0 (pa_cons (pe_ix ix_tup (pv 0) pe_int (fun _ _ => rfl)) (pa_cons (pv 1) pa_nil)))) (pss_cons (ps_if (pt_cmpR op_isN (pv 3) pe_non (nomark _)) (pss_one (BkX.ps_raise rfl (BkX.takes_of rfl rfl rfl rfl) (BkX.pmk_ownA PySem.F.excBase_ValueError X_BadContract.x X_BadContract.g X_BadContract.k (raises_own X_BadContract.s X_BadContract.t) rfl (pa_cons (pe_joined (.cons pe_str (.cons (pe_fmt (pv 1)) (.cons pe_str .nil)))) pa_nil)))) pss_nil) (pss_cons (ps_if (pt_cmpR op_ne (pe_callB call_len_seq (by rfl) m_len (by decide +kernel) (pa_cons (pv 0) pa_nil)) (pe_op op_add (pe_callB call_len_seq (by rfl) m_len (by decide +kernel) (pa_cons (pv 3) pa_nil)) pe_int) (nomark _)) (pss_one (BkX.ps_raise rfl (BkX.takes_of rfl rfl rfl rfl) (BkX.pmk_ownA PySem.F.excBase_ValueError X_BadContract.x X_BadContract.g X_BadContract.k (raises_own X_BadContract.s X_BadContract.t) rfl (pa_cons (pe_joined (.cons pe_str (.cons (pe_fmt (pv 1)) (.cons pe_str .nil)))) pa_nil)))) pss_nil) (pss_cons (ps_for (passes_of rfl) rfl (RZ.pi_zipA (by rfl) m_zip (pa_cons (pv 3) (pa_cons (pe_slice sl_tup (pv 0) (po_some pe_int) po_none) pa_nil))) (pg_tup rfl (pgs_cons (pg_name (i := 4) sc__need_form.nd rfl (.inl rfl)) (pgs_cons (pg_name (i := 5) sc__need_form.nd rfl (.inl rfl)) pgs_nil))) (pss_one (ps_if (pt_cmpR op_in_seq (pv 4) (pe_tup (pa_cons pe_str (pa_cons pe_str (pa_cons pe_str pa_nil)))) (by rfl)) (pss_one (ps_expr (pe_call D__need_form.G hr (by rfl) D__need_form.g D__need_form.k D__need_form.b .nil (BkX.passes_call (BkX.takes_of rfl rfl rfl rfl) (fun _ _ _ _ h => h)) (pa_cons (pv 5) (pa_cons (pv 4) (pa_cons (pe_op op_add (pv 2) pe_int) pa_nil)))))) (pss_one (ps_if (pt_not (pt_val (pe_call D__is_plain.G hr (by rfl) D__is_plain.g D__is_plain.k D__is_plain.b .nil pass0 (pa_cons (pv 5) (pa_cons (pv 4) pa_nil))))) (pss_one (BkX.ps_raise rfl (BkX.takes_of rfl rfl rfl rfl) (BkX.pmk_ownA PySem.F.excBase_ValueError X_BadContract.x X_BadContract.g X_BadContract.k (raises_own X_BadContract.s X_BadContract.t) rfl (pa_cons (pe_joined (.cons pe_str (.cons (pe_fmt (pv 4)) .nil))) pa_nil)))) pss_nil))))) (pss_one (ps_if (PW.pt (pw_and (pt_cmpR (op_eqD hr.units) (pe_slice sl_tupA (pv 3) po_none (po_some pe_int)) (pe_tup (pa_cons pe_str (pa_cons pe_str pa_nil))) (nomark _)) (pw_and1 (pt_cmpR op_eq (pe_ix ix_tup (pv 0) pe_int (fun _ _ => rfl)) (pe_ix ix_tup (pv 0) pe_int (fun _ _ => rfl)) (nomark _))))) (pss_one (BkX.ps_raise rfl (BkX.takes_of rfl rfl rfl rfl) (BkX.pmk_own PySem.F.excBase_ValueError X_BadContract.x X_BadContract.g X_BadContract.k (raises_own X_BadContract.s X_BadContract.t) rfl))) pss_nil)))))))), ?_⟩
  have bad : ∀ {H'}, wf n kind d = false → Tb PT H H' → E (.ref C_BadContract) none H' := fun e t => q1 e _ t
  have lk : kind.length ≤ 1000 := by omega
  have one : ∀ z : Str, [V.str z].length ≤ sizeLine := fun z => by show 1 ≤ sizeLine; decide
  walk_at "go"
  refine ifd (fun c => ?_) (fun c => ?_)
  · have e : n = 0 := by omega
    subst e
    exact bad rfl (.refl ht)
  obtain ⟨m, rfl⟩ : ∃ m, n = m + 1 := ⟨n - 1, by omega⟩
  walk_at "go"
  refine use_isTup hd ?_
  cases hd with
  | @tup a vs ds ha hall =>
    dsimp only [isTup]
    refine ⟨_, rfl, iteNT ?_⟩
    cases hall with
    | nil =>
      walk_at "go"
      refine ⟨_, _, rfl, .inr ha, ?_⟩
      walk_at "go"
      refine ifd (fun c => iteT ?_) (fun c => absurd rfl c)
      exact fs3 (i := 1) rfl lk (by decide) (by decide) fun z => ⟨⟨_, rfl⟩, bad rfl (.refl ht)⟩
    | @cons v0 vr d0 dr hd0 hr0 =>
      walk_at "go"
      refine ⟨_, _, rfl, .inr ha, ?_⟩
      walk_at "go"
      refine ifd (fun c => by rw [List.length_cons] at c; omega) (fun c => ?_)
      walk_at "go"
      refine ⟨_, _, _, _, rfl, rfl, ha, at_any (j := 0) rfl rfl, ?_⟩
      walk_at "go"
      refine use_isStr hd0 ?_
      cases hd0 with
      | str u =>
        dsimp only [isStr]
        refine ⟨_, rfl, iteNT ?_⟩
        have wfe := wf_tup' (n := m) (kind := kind) (w := u) (ds := dr)
        walk_at "go"
        refine ⟨_, _, _, _, rfl, rfl, ha, at_any (j := 0) rfl rfl, ?_⟩
        walk_at "go"
        refine use_kinds (fun e => ?_) (fun ks e aK sK => ?_)
        · rw [e] at wfe
          walk_at "go"
          refine ifd (fun c => ?_) (fun c => absurd rfl c)
          exact fs3 (i := 1) rfl lk (by decide) (by decide) fun z => ⟨⟨_, rfl⟩, bad wfe (.refl ht)⟩
        rw [e] at wfe
        dsimp only at wfe
        have km := kinds_mem e
        walk_at "go"
        refine ifd (fun c => by cases c) (fun c => ?_)
        walk_at "go"
        refine ⟨_, _, rfl, .inr ha, ?_⟩
        walk_at "go"
        refine ⟨_, _, rfl, .inr (sK _), ?_⟩
        walk_at "go"
        have hlen := DpAll.len hr0
        refine ifdn (fun c2 => ?_) (fun c2 => ?_)
        · rw [List.length_cons, List.length_map] at c2
          have hl : ks.length = dr.length := by omega
          rw [decide_eq_true hl, Bool.true_and] at wfe
          walk_at "go"
          refine g_zipA ?_
          walk_at "go"
          refine ⟨_, _, rfl, ha, not_whole1 _ _, fun p np => ?_⟩
          rw [cut1]
          walk_at "go"
          have s1 := same_new (o := .tup vr) np
          have hq : SqT K (upd H p (.tup vr)) p vr := sqt upd_same
          have t1 : Tb PT H (upd H p (.tup vr)) := .of ht s1
          generalize upd H p (.tup vr) = H1 at hq t1 ⊢
          refine ⟨_, _, ks.map V.str, vr, rfl, .inr ⟨sK _, hq, ?_⟩⟩
          have szr : szAll dr = true := by
            have z : (szOk (.str u) && szAll dr) = true := hz
            exact (Bool.and_eq_true_iff.mp z).2
          have hkv : (ks.map V.str).length = vr.length := by rw [List.length_map, hl, hlen]
          refine RZ.for_zipT hkv (fun i σ H2 => ∃ y4 y5, σ = [some (.ref a), some (.str kind), some (.int dp), some (.ref aK), y4, y5] ∧ Tb PT H1 H2 ∧ ((List.zip ks dr).take i).all (partOk m) = true)
            ⟨_, _, rfl, .refl t1.g, rfl⟩ (fun i σ H2 hW => ?_) (fun i x y T σ H2 hx hy hW nT => ?_) (fun σ H2 hW => ?_)
          · obtain ⟨y4, y5, rfl, t2, _⟩ := hW
            exact ⟨sK _, (t2.dm t1.g).t _ _ hq⟩
          · obtain ⟨y4, y5, rfl, t2, hall⟩ := hW
            rw [List.getElem?_map] at hx
            obtain ⟨kx, hkx, rfl⟩ := Option.map_eq_some_iff.mp hx
            have hi : i < dr.length := by have := (List.getElem?_eq_some_iff.mp hkx).1; omega
            have hdi : dr[i]? = some dr[i] := List.getElem?_eq_getElem hi
            obtain ⟨y', hy', hDy⟩ := DpAll.at hr0 hdi
            have ey : y' = y := Option.some.inj (hy'.symm.trans hy)
            subst ey
            have zi := zip_at hkx hdi
            have hzi := szAll_at szr hdi
            generalize dr[i] = di at hDy zi hzi
            have kl := kinds_short ks km kx (List.mem_of_getElem? hkx)
            have s3 := same_new (o := .tup [.str kx, y']) nT
            have t3 : Tb PT H1 (upd H2 T (.tup [.str kx, y'])) := t2.trans (.of t2.g s3)
            have sT : SqT K (upd H2 T (.tup [.str kx, y'])) T [.str kx, y'] := sqt upd_same
            generalize upd H2 T (.tup [.str kx, y']) = H3 at t3 sT ⊢
            have dy3 : Dp K H3 y' di := Dp.dm ((t1.dm ht).trans (t3.dm t1.g)) hDy
            refine g_gtup sT rfl ?_
            walk_at "go"
            refine ⟨by show 3 ≤ sizeLine; decide, fun p4 np4 => ?_⟩
            have s4 := same_new (o := .tup [.str "contract", .str "condition", .str "number"]) np4
            refine ⟨p4, _, rfl, .inr (sqt upd_same), rfl, rfl, ?_⟩
            have t4 := t3.trans (.of t3.g s4)
            generalize upd H3 p4 (.tup [.str "contract", .str "condition", .str "number"]) = H4 at t4 s4 ⊢
            have dy4 := Dp.dm (DM.of s4) dy3
            rw [if_neg Bool.false_ne_true, inDeep]
            have nok : partOk m (kx, di) = false → wf (m + 1) kind (.tuple (.str u :: dr)) = false := fun z => by
              rw [wfe, all_not zi z]
              rfl
            refine ⟨_, rfl, ifb (fun c3 => ?_) (fun c3 => ?_)⟩
            · have pe : partOk m (kx, di) = wf m kx di := by unfold partOk; rw [if_pos c3]
              walk_at "go"
              refine use_form (n := m + 1) (by omega) (by omega) kl dy4 hzi t4.g (fun e H5 t5 => ?_) (fun e H5 t5 => ?_)
              · exact ⟨_, _, rfl, t4.trans t5, take_all zi (pe.trans e) hall⟩
              · exact bad (nok (pe.trans e)) (t1.trans (t4.trans t5))
            · have pe : partOk m (kx, di) = plainOk kx di := by unfold partOk; rw [if_neg (by rw [c3]; exact Bool.false_ne_true)]
              walk_at "go"
              refine use_plain dy4 hzi t4.g fun H5 t5 => ?_
              refine ⟨_, rfl, ifn (fun e => ?_) (fun e => ?_)⟩
              · walk_at "go"
                exact ⟨t4.trans t5, take_all zi (pe.trans e) hall⟩
              · exact fs2 (i := 4) rfl (by omega) (by decide) fun z => ⟨⟨_, rfl⟩, bad (nok (pe.trans e)) (t1.trans (t4.trans t5))⟩
          · obtain ⟨y4, y5, rfl, t2, hall⟩ := hW
            have hz2 : (List.zip ks dr).take (ks.map V.str).length = List.zip ks dr := by
              rw [List.length_map]
              exact List.take_of_length_le (by rw [List.length_zip]; omega)
            rw [hz2] at hall
            have wfe2 : wf (m + 1) kind (.tuple (.str u :: dr)) = !(twoSides ks && sameSides dr) := by
              rw [wfe]
              rw [hall]
              rfl
            have t6 := t1.trans t2
            walk_at "go"
            refine ⟨_, _, rfl, sK _, fun c => ?_, fun c p7 np7 => ?_⟩
            · have two := HT.sIx_nat ks.length ks.length 2
              have hz7 : SqT K H2 aK ((ks.take 2).map V.str) := by
                have e : ks.take 2 = ks := List.take_of_length_le (by have c := c.2; rw [List.length_map] at c; have q := HT.sIx_nat ks.length ks.length 2; have q2 : HT.sIx ks.length ks.length (some 2) = min 2 ks.length := q; omega)
                rw [e]
                exact sK _
              have t7 : Tb PT H H2 := t6
              walk_at "go"
              refine ⟨by show 2 ≤ sizeLine; decide, fun p8 np8 => ?_⟩
              have s8 := same_new (o := .tup [.str "side", .str "side"]) np8
              refine ⟨.tuple ((ks.take 2).map PyData.str), .tuple [.str "side", .str "side"], .tup (SqT.same s8 hz7) (dpStrs _), .tup (sqt upd_same) (.cons (.str _) (.cons (.str _) .nil)), two_shaped ks km, by decide +kernel, ?_⟩
              have t8 := t7.trans (.of t7.g s8)
              generalize upd H2 p8 (.tup [.str "side", .str "side"]) = H8 at t8 ⊢
              rw [two_eqv ks km]
              have ha8 := (t8.dm ht).t _ _ ha
              refine ⟨_, rfl, ifb (fun c5 => ?_) (fun c5 => ?_)⟩
              · obtain ⟨s, rfl⟩ := kinds_two ks km c5
                cases hr0 with
                | nil => cases hl
                | @cons v1 vr1 d1 dr1 hd1 hr1 =>
                  cases hr1 with
                  | nil => cases hl
                  | @cons v2 vr2 d2 dr2 hd2 hr2 =>
                    have a1 := List.all_eq_true.mp hall ("side", d1) List.mem_cons_self
                    have a2 := List.all_eq_true.mp hall ("side", d2) (List.mem_cons_of_mem _ List.mem_cons_self)
                    obtain ⟨x1, rfl⟩ := word_str a1
                    obtain ⟨x2, rfl⟩ := word_str a2
                    cases hd1
                    cases hd2
                    rw [c5, Bool.true_and] at wfe2
                    have wfe3 : wf (m + 1) kind (.tuple (.str u :: .str x1 :: .str x2 :: dr2)) = !decide (x1 = x2) := wfe2
                    walk_at "go"
                    refine ⟨_, _, _, _, rfl, rfl, ha8, at_any (j := 1) rfl rfl, ?_⟩
                    walk_at "go"
                    refine ⟨_, _, _, _, rfl, rfl, ha8, at_any (j := 2) rfl rfl, ?_⟩
                    walk_at "go"
                    refine ifd (fun e => ?_) (fun e => ?_)
                    · exact bad (by rw [wfe3, decide_eq_true e]; rfl) t8
                    · walk_at "go"
                      exact q0 (by show wf (m + 1) kind _ = true; rw [wfe3, decide_eq_false e]; rfl) _ t8
              · walk_at "go"
                exact q0 (by show wf (m + 1) kind _ = true; rw [wfe2, c5]; rfl) _ t8
            · have ec : cutV (ks.map V.str) none (some 2) = (ks.take 2).map V.str := by
                have q := HT.sIx_nat (ks.map V.str).length (ks.map V.str).length 2
                have q2 : HT.sIx (ks.map V.str).length (ks.map V.str).length (some 2) = min 2 (ks.map V.str).length := q
                unfold cutV
                rw [HT.sIx_none, q2, List.map_take]
                simp only [List.drop_zero, Nat.sub_zero]
                rw [List.take_eq_take_iff]
                omega
              rw [ec]
              have s7 := same_new (o := .tup ((ks.take 2).map V.str)) np7
              have hz7 : SqT K (upd H2 p7 (.tup ((ks.take 2).map V.str))) p7 ((ks.take 2).map V.str) := sqt upd_same
              have t67 := t6.trans (.of t6.g s7)
              generalize upd H2 p7 (.tup ((ks.take 2).map V.str)) = H7 at s7 hz7 t67 ⊢
              have hz7 : SqT K H7 p7 ((ks.take 2).map V.str) := hz7
              have t7 : Tb PT H H7 := t6.trans (.of t6.g s7)
              walk_at "go"
              refine ⟨by show 2 ≤ sizeLine; decide, fun p8 np8 => ?_⟩
              have s8 := same_new (o := .tup [.str "side", .str "side"]) np8
              refine ⟨.tuple ((ks.take 2).map PyData.str), .tuple [.str "side", .str "side"], .tup (SqT.same s8 hz7) (dpStrs _), .tup (sqt upd_same) (.cons (.str _) (.cons (.str _) .nil)), two_shaped ks km, by decide +kernel, ?_⟩
              have t8 := t7.trans (.of t7.g s8)
              generalize upd H7 p8 (.tup [.str "side", .str "side"]) = H8 at t8 ⊢
              rw [two_eqv ks km]
              have ha8 := (t8.dm ht).t _ _ ha
              refine ⟨_, rfl, ifb (fun c5 => ?_) (fun c5 => ?_)⟩
              · obtain ⟨s, rfl⟩ := kinds_two ks km c5
                cases hr0 with
                | nil => cases hl
                | @cons v1 vr1 d1 dr1 hd1 hr1 =>
                  cases hr1 with
                  | nil => cases hl
                  | @cons v2 vr2 d2 dr2 hd2 hr2 =>
                    have a1 := List.all_eq_true.mp hall ("side", d1) List.mem_cons_self
                    have a2 := List.all_eq_true.mp hall ("side", d2) (List.mem_cons_of_mem _ List.mem_cons_self)
                    obtain ⟨x1, rfl⟩ := word_str a1
                    obtain ⟨x2, rfl⟩ := word_str a2
                    cases hd1
                    cases hd2
                    rw [c5, Bool.true_and] at wfe2
                    have wfe3 : wf (m + 1) kind (.tuple (.str u :: .str x1 :: .str x2 :: dr2)) = !decide (x1 = x2) := wfe2
                    walk_at "go"
                    refine ⟨_, _, _, _, rfl, rfl, ha8, at_any (j := 1) rfl rfl, ?_⟩
                    walk_at "go"
                    refine ⟨_, _, _, _, rfl, rfl, ha8, at_any (j := 2) rfl rfl, ?_⟩
                    walk_at "go"
                    refine ifd (fun e => ?_) (fun e => ?_)
                    · exact bad (by rw [wfe3, decide_eq_true e]; rfl) t8
                    · walk_at "go"
                      exact q0 (by show wf (m + 1) kind _ = true; rw [wfe3, decide_eq_false e]; rfl) _ t8
              · walk_at "go"
                exact q0 (by show wf (m + 1) kind _ = true; rw [wfe2, c5]; rfl) _ t8
        · rw [List.length_cons, List.length_map] at c2
          have hl : ¬ ks.length = dr.length := fun e => c2 (by omega)
          rw [decide_eq_false hl, Bool.false_and] at wfe
          exact fs3 (i := 1) rfl lk (by decide) (by decide) fun z => ⟨⟨_, rfl⟩, bad wfe (.refl ht)⟩
      | _ =>
        dsimp only [isStr]
        refine ⟨_, rfl, iteNF ?_⟩
        exact fs3 (i := 1) rfl lk (by decide) (by decide) fun z => ⟨⟨_, rfl⟩, bad (wf_not fun _ _ e => by cases e) (.refl ht)⟩
  | _ =>
    dsimp only [isTup]
    refine ⟨_, rfl, iteNF (iteT ?_)⟩
    exact fs3 (i := 1) rfl lk (by decide) (by decide) fun z => ⟨⟨_, rfl⟩, bad (wf_not fun _ _ e => by cases e) (.refl ht)⟩
end

theorem none_form {P : Program} {w : World} {K : PySem.W.Frag} {mg : Str → Option Value} {base : Heap} {C PT : Addr} {CX : CXT} {f : Addr} {fd : FuncData} {ps : List Str} : FnOk P w K mg base CX 0 f fd ps (spForm K C PT 0) := by
  have no : ∀ vs H Q E, ¬ spForm K C PT 0 vs H Q E := fun vs H Q E h => by
    obtain ⟨v, d, kind, dp, _, h0, h1, _⟩ := h
    omega
  exact ⟨fun vs H Q E h => absurd h (no vs H Q E), fun A outer s H args us vs Q E _ _ _ _ h => absurd h (no vs H Q E)⟩
theorem use_need {K : PySem.W.Frag} {C PT : Addr} {v : V} {d : PyData} {H : Hp} {Q : VK} {E : XK} (h : Dp K H v d) (z : szOk d = true) (t : GxR.TabG H PT)
    (q0 : wf 12 "contract" d = true → ∀ H', Tb PT H H' → Q .non H') (q1 : wf 12 "contract" d = false → ∀ H', Tb PT H H' → E (.ref C) none H') : spNeed K C PT ([v] ++ []) H Q E := ⟨v, d, rfl, h, z, t, q0, q1⟩
section
variable {P : Program} {w : World} {K : PySem.W.Frag} {mg : Str → Option Value} {base : Heap}
abbrev s_need_contract : Stmt := topS 19
theorem sc_need_contract : FnScope ["contract"] ["contract"] (defScope s_need_contract) := ⟨rfl, rfl, rfl, by decide +kernel, rfl, by decide +kernel, by decide +kernel⟩
theorem h_need_contract {PT : Addr} {k : Nat} {f : Addr} {fd : FuncData} (O : Own K mg "need_contract" s_need_contract ["contract"] f fd) {C_BadContract : Addr} (X_BadContract : ExcT K mg "BadContract" C_BadContract)  {f__need_form : Addr} {fd__need_form : FuncData} (D__need_form : Has P w K mg base "_need_form" ["told", "kind", "depth"] k (BkX.CX P w) (spForm K C_BadContract PT 13) f__need_form fd__need_form) : Has P w K mg base "need_contract" ["contract"] (k + 1) (BkX.CX P w) (spNeed K C_BadContract PT) f fd := by
  refine O.has (O.F.okS sc_need_contract (fun vs H Q E h => ?_) (fun cdv A outer s H vs Q E hr h => ?_))
  · obtain ⟨v, d, rfl, _⟩ := h
    rfl
  obtain ⟨v, d, rfl, hd, hz, ht, q0, q1⟩ := h
  refine ⟨_, (pss_one (ps_expr (pe_call D__need_form.G hr (by rfl) D__need_form.g D__need_form.k D__need_form.b .nil (BkX.passes_call (BkX.takes_of rfl rfl rfl rfl) (fun _ _ _ _ h => h)) (pa_cons (pv 0) (pa_cons pe_str (pa_cons pe_int pa_nil)))))), ?_⟩
  walk_at "go"
  refine use_form (n := 13) (by decide) (by decide) (by decide +kernel) hd hz ht (fun e H5 t5 => ?_) (fun e H5 t5 => ?_)
  · exact q0 e _ t5
  · exact q1 e _ t5
end

/-! ### the pieces of a text -/
def blk (t : Str) : Bool := Txt.startswith t " " || Txt.endswith t " "
def spPcs (K : PySem.W.Frag) (C : Addr) : Sp := fun vs H Q E => ∃ t : Str, vs = [.str t] ∧ t.length ≤ 100000 ∧
  (blk t = false → ∀ p H', Same H H' → H p = none → H' p = some (.lst ((Tk.pcs t).map V.str)) → Q (.ref p) H') ∧ (blk t = true → E (.ref C) none H)
theorem use_pcs {K : PySem.W.Frag} {C : Addr} {t : Str} {H : Hp} {Q : VK} {E : XK} (hl : t.length ≤ 100000) (q0 : blk t = false → ∀ p H', Same H H' → H p = none → H' p = some (.lst ((Tk.pcs t).map V.str)) → Q (.ref p) H') (q1 : blk t = true → E (.ref C) none H) :
    spPcs K C ([.str t] ++ []) H Q E := ⟨t, rfl, hl, q0, q1⟩
section
variable {P : Program} {w : World} {K : PySem.W.Frag} {mg : Str → Option Value} {base : Heap}
abbrev s__pieces_of : Stmt := topS 30
theorem sc__pieces_of : FnScope ["text", "sign", "piece"] ["text"] (defScope s__pieces_of) := ⟨rfl, rfl, rfl, by decide +kernel, rfl, by decide +kernel, by decide +kernel⟩
theorem h__pieces_of {k : Nat} {f : Addr} {fd : FuncData} (O : Own K mg "_pieces_of" s__pieces_of ["text"] f fd) {C_BadText : Addr} (X_BadText : ExcT K mg "BadText" C_BadText)  : Has P w K mg base "_pieces_of" ["text"] (k + 1) (L2.CX P w) (spPcs K C_BadText) f fd := by
  refine O.has (O.F.okX sc__pieces_of (fun vs H Q E h => ?_) (fun cdv A outer s H vs Q E hr h => ?_))
  · obtain ⟨t, rfl, _⟩ := h
    rfl
  obtain ⟨t, rfl, hl, q0, q1⟩ := h
  refine ⟨_, (pss_cons (ps_if (PW.pt (pw_or (pt_val (pe_bm PySem.F.plainAttrs_str PySem.F.slot_str_startswith PySem.F.type_str_startswith mt_startswith (pv 0) (pa_cons pe_str pa_nil))) (pw_or1 (pt_val (pe_bm PySem.F.plainAttrs_str PySem.F.slot_str_endswith PySem.F.type_str_endswith mt_endswith (pv 0) (pa_cons pe_str pa_nil)))))) (pss_one (ps_raise rfl (takes_of rfl rfl rfl rfl) (pmk_own PySem.F.excBase_ValueError X_BadText.x X_BadText.g X_BadText.k (raises_own X_BadText.s X_BadText.t) rfl))) pss_nil) (pss_cons (ps_signs (i := 0) (j := 1) sc__pieces_of.nd rfl rfl (by decide) rfl rfl (.inl rfl) rfl rfl rfl rfl) (pss_one (ps_ret (pe_lc (own := [("piece", 2)]) (g := gName 2) rfl sc__pieces_of.nd (pi_list (pe_bm PySem.F.plainAttrs_str PySem.F.slot_str_split PySem.F.type_str_split mt_split (pv 0) (pa_cons pe_str pa_nil))) (blkOk_by (own := [("piece", 2)]) (N := ["text", "sign", "piece"]) (sc := defScope s__pieces_of) (by decide +kernel)) (fun _ _ _ _ _ => pg_name (i := 2) sc__pieces_of.nd rfl (.inl rfl)) (fun _ _ _ _ _ => pts_one (pt_cmpR op_ne (pv 2) pe_str (nomark _))) (fun _ _ _ _ _ => (pv 2))))))), ?_⟩
  unfold blk at q0 q1
  walk_at "go"
  refine ⟨rfl, ?_⟩
  walk_at "go"
  refine ifb (fun c1 => ?_) (fun c1 => ?_)
  · exact q1 (by rw [c1]; rfl)
  walk_at "go"
  refine ⟨rfl, ?_⟩
  walk_at "go"
  refine ifb (fun c2 => ?_) (fun c2 => ?_)
  · exact q1 (by rw [c2, Bool.or_true])
  walk_at "go"
  refine ⟨t, rfl, hl, ?_⟩
  have es : stS (L2.start ["text", "sign", "piece"] [V.str t]) 0 1 t 3 = [some (V.str (Bk.signs t)), some (V.str ⟨#[44]⟩), none] := rfl
  rw [es]
  dsimp only
  have lz : (Bk.signs t).length ≤ 3000000 := rpk_len t hl 3 (by decide)
  have z : (16777216 : Nat) = sizeLine := by decide
  walk_at "go"
  refine ⟨rfl, ?_⟩
  walk_at "go"
  refine ⟨by omega, fun p np => ?_⟩
  have hq : SqL K (upd H p (.lst ((Txt.split (Bk.signs t) " ").map V.str))) p ((Txt.split (Bk.signs t) " ").map V.str) := sql upd_same
  have s1 := same_new (o := .lst ((Txt.split (Bk.signs t) " ").map V.str)) np
  have e0 : (Txt.split (Bk.signs t) " ").filter (fun p => decide (p ≠ Str.empty)) = Tk.pcs t := Tk.pcs_eq t
  have hz : (Txt.split (Bk.signs t) " ").length ≤ 3000001 := by
    have j := StrLaws.join_split (Bk.signs t) ⟨#[32]⟩
    rcases sum_join ⟨#[32]⟩ (Txt.split (Bk.signs t) ⟨#[32]⟩) with h | h
    · rw [j] at h
      have l1 : (⟨#[32]⟩ : Str).length = 1 := rfl
      rw [l1] at h
      show (Txt.split (Bk.signs t) ⟨#[32]⟩).length ≤ _
      omega
    · show (Txt.split (Bk.signs t) ⟨#[32]⟩).length ≤ _
      rw [h]
      exact Nat.zero_le _
  generalize Txt.split (Bk.signs t) " " = ss at hq s1 e0 hz ⊢
  generalize upd H p (.lst (ss.map V.str)) = H1 at hq s1 ⊢
  refine ⟨p, rfl, ⟨_, hq⟩, fun D nD => lc_list (xs := ss.map V.str) (fun i H3 => H3 D = some (.lst (((ss.take i).filter (fun p => decide (p ≠ Str.empty))).map V.str)) ∧ Same H1 H3) ⟨upd_same, same_new nD⟩ (fun i H3 hi hW => hW.2.seq hq) (fun i x H3 hx hW => ?_) (fun H3 hW => ?_)⟩
  · rw [List.getElem?_map] at hx
    obtain ⟨y, hy, rfl⟩ := Option.map_eq_some_iff.mp hx
    obtain ⟨hD, e3⟩ := hW
    have ht : (ss.take (i + 1)).filter (fun p => decide (p ≠ Str.empty)) = (ss.take i).filter (fun p => decide (p ≠ Str.empty)) ++ (if decide (y ≠ Str.empty) = true then [y] else []) := by
      rw [List.take_succ, hy, List.filter_append]
      congr 1
      simp only [Option.toList, List.filter_cons, List.filter_nil]
    have ee : (Str.ofString "") = Str.empty := by decide +kernel
    have hi : i < ss.length := (List.getElem?_eq_some_iff.mp hy).1
    walk_at "go"
    refine ifdn (fun c => ?_) (fun c => ?_)
    · refine ⟨?_, e3⟩
      rw [ht, decide_eq_false (by simpa [ee] using c), if_neg Bool.false_ne_true, List.append_nil]
      exact hD
    · walk_at "go"
      refine ⟨_, hD, ?_, ?_, fun b o h => ?_⟩
      · rw [List.length_map]
        have := List.length_filter_le (fun p => decide (p ≠ Str.empty)) (ss.take i)
        rw [List.length_take] at this
        omega
      · rw [upd_same, ht, decide_eq_true (by simpa [ee] using c), if_pos rfl, List.map_append]
        rfl
      · rw [upd_ne (ne_of_none h nD)]
        exact e3 _ _ h
  · obtain ⟨hD, e3⟩ := hW
    rw [List.length_map, List.take_length, e0] at hD
    refine q0 (by rw [c1, c2]; rfl) D H3 (s1.trans e3) ?_ hD
    cases e : H D with
    | none => rfl
    | some o =>
      have := s1 _ _ e
      rw [nD] at this
      cases this
end

/-! ### the pieces that are taken one by one -/
theorem g_fld {K : PySem.W.Frag} {ta tv : TE} {f : Str} {D : Ends} {σ : L2.St} {H : Hp} (h : tv σ H fun y H1 => ta σ H1 fun x H2 => ∃ a C dx fs, x = .ref a ∧ H2 a = some (.ins C dx fs) ∧ Cls K C ∧ NoAttr K C f ∧ fs.length < 1000 ∧ D.nx σ (upd H2 a (.ins C dx (putF f y fs)))) : sFld K ta tv f D σ H := h
theorem g_revL {K : PySem.W.Frag} {te : TE} {ts : TO} {σ : L2.St} {H : Hp} {Q : VK} (h : te σ H fun x H1 => ts σ H1 fun l H2 => l = some (-1) ∧ ∃ a xs, x = .ref a ∧ SqL K H2 a xs ∧ ∀ p, H2 p = none → Q (.ref p) (upd H2 p (.lst xs.reverse))) : tRevL K te ts σ H Q := h
theorem g_revS {te : TE} {ts : TO} {σ : L2.St} {H : Hp} {Q : VK} (h : te σ H fun x H1 => ts σ H1 fun l H2 => l = some (-1) ∧ ∃ z, x = .str z ∧ z.length ≤ sizeLine ∧ Q (.str (revS z)) H2) : tRevS te ts σ H Q := h
theorem at_last {α : Type} {xs : List α} {v : α} (h : xs.getLast? = some v) : atI xs (-1) = some v := by
  have ne : xs ≠ [] := fun z => by rw [z] at h; cases h
  have l : 0 < xs.length := List.length_pos_iff.mpr ne
  rw [List.getLast?_eq_getElem?] at h
  unfold atI
  have e : ixN xs.length (-1) = some (xs.length - 1) := by
    unfold ixN
    rw [if_neg (by omega), if_pos (by omega)]
    congr 1
    omega
  rw [e]
  exact h
theorem last_ps (w : Str) (r : List Str) : (w :: r).reverse.map V.str = r.reverse.map V.str ++ [.str w] := by simp
/-- what is left -/
structure PS (C : Addr) (H : Hp) (p a : Addr) (ps : List Str) : Prop where
  o : ∃ dx, H p = some (.ins C dx [("_left", .ref a)])
  l : H a = some (.lst (ps.reverse.map V.str))
theorem PS.ne {C : Addr} {H : Hp} {p a : Addr} {ps : List Str} (h : PS C H p a ps) : p ≠ a := fun z => by
  obtain ⟨⟨dx, h1⟩, h2⟩ := h
  rw [z, h2] at h1
  cases h1
theorem PS.put {C : Addr} {H : Hp} {p a : Addr} {ps rs : List Str} (h : PS C H p a ps) : PS C (upd H a (.lst (rs.reverse.map V.str))) p a rs := by
  obtain ⟨dx, h1⟩ := h.o
  exact ⟨⟨dx, by rw [upd_ne h.ne]; exact h1⟩, upd_same⟩
theorem PS.same {C : Addr} {H H' : Hp} {p a : Addr} {ps : List Str} (h : PS C H p a ps) (e : Same H H') : PS C H' p a ps := by
  obtain ⟨dx, h1⟩ := h.o
  exact ⟨⟨dx, e _ _ h1⟩, e _ _ h.l⟩
def spMkP (K : PySem.W.Frag) (X C : Addr) : Sp := fun vs H Q E => ∃ (p dx : Addr) (t : Str), vs = [.ref p, .str t] ∧ H p = some (.ins C dx []) ∧ t.length ≤ 100000 ∧
  (blk t = false → ∀ a H', (∀ b o, b ≠ p → H b = some o → H' b = some o) → H a = none → PS C H' p a (Tk.pcs t) → Q .non H') ∧ (blk t = true → ∀ H', E (.ref X) none H')
def spOver (C : Addr) : Sp := fun vs H Q _ => ∃ (p a : Addr) (ps : List Str), vs = [.ref p] ∧ PS C H p a ps ∧ Q (.bl (decide (ps = []))) H
def spOpen (C : Addr) : Sp := fun vs H Q _ => ∃ (p a : Addr) (ps : List Str), vs = [.ref p] ∧ PS C H p a ps ∧ Q (.bl (decide (ps.head? = some ("(" : Str)))) H
def spTake (X C : Addr) : Sp := fun vs H Q E => ∃ (p a : Addr) (ps : List Str), vs = [.ref p] ∧ PS C H p a ps ∧ (ps = [] → ∀ H', E (.ref X) none H') ∧ (∀ w r, ps = w :: r → Q (.str w) (upd H a (.lst (r.reverse.map V.str))))
def spPass (X C : Addr) : Sp := fun vs H Q E => ∃ (p a : Addr) (ps : List Str) (s : Str), vs = [.ref p, .str s] ∧ PS C H p a ps ∧ s.length ≤ 100 ∧ ((∀ r, ps ≠ s :: r) → ∀ H', E (.ref X) none H') ∧ (∀ r, ps = s :: r → Q .non (upd H a (.lst (r.reverse.map V.str))))
theorem use_over {C p a : Addr} {ps : List Str} {H : Hp} {Q : VK} {E : XK} (h : PS C H p a ps) (q : Q (.bl (decide (ps = []))) H) : spOver C [.ref p] H Q E := ⟨p, a, ps, rfl, h, q⟩
theorem use_open {C p a : Addr} {ps : List Str} {H : Hp} {Q : VK} {E : XK} (h : PS C H p a ps) (q : Q (.bl (decide (ps.head? = some ("(" : Str)))) H) : spOpen C [.ref p] H Q E := ⟨p, a, ps, rfl, h, q⟩
theorem use_take {X C p a : Addr} {ps : List Str} {H : Hp} {Q : VK} {E : XK} (h : PS C H p a ps) (q0 : ps = [] → ∀ H', E (.ref X) none H') (q1 : ∀ w r, ps = w :: r → Q (.str w) (upd H a (.lst (r.reverse.map V.str)))) : spTake X C [.ref p] H Q E := ⟨p, a, ps, rfl, h, q0, q1⟩
theorem use_pass {X C p a : Addr} {ps : List Str} {s : Str} {H : Hp} {Q : VK} {E : XK} (h : PS C H p a ps) (hs : s.length ≤ 100) (q0 : (∀ r, ps ≠ s :: r) → ∀ H', E (.ref X) none H') (q1 : ∀ r, ps = s :: r → Q .non (upd H a (.lst (r.reverse.map V.str)))) :
    spPass X C ([.ref p] ++ [.str s]) H Q E := ⟨p, a, ps, s, rfl, h, hs, q0, q1⟩
theorem use_mkp {K : PySem.W.Frag} {X C : Addr} {t : Str} {H : Hp} {Q : VK} {E : XK} (hl : t.length ≤ 100000)
    (q0 : blk t = false → ∀ p a H', Same H H' → H p = none → H a = none → PS C H' p a (Tk.pcs t) → Q (.ref p) H') (q1 : blk t = true → ∀ H', E (.ref X) none H') : spNew C (spMkP K X C) [.str t] H Q E := by
  intro a dx na ndx nax
  have s1 : Same H (upd (upd H dx (.own a)) a (.ins C dx [])) := fun b o h => by
    rw [upd_ne (fun z => by rw [z, na] at h; cases h), upd_ne (fun z => by rw [z, ndx] at h; cases h)]
    exact h
  refine ⟨a, dx, t, rfl, upd_same, hl, fun e l H' k nl ps => ⟨rfl, q0 e a l H' (fun b o h => k b o (fun z => by rw [z, na] at h; cases h) (s1 b o h)) na ?_ ps⟩, q1⟩
  cases z : H l with
  | none => rfl
  | some o =>
    have := s1 l o z
    rw [nl] at this
    cases this
section
variable {P : Program} {w : World} {K : PySem.W.Frag} {mg : Str → Option Value} {base : Heap}
abbrev s_Pieces : Stmt := inClass (topS 29) 0
theorem sc_Pieces : FnScope ["self", "text"] ["self", "text"] (defScope s_Pieces) := ⟨rfl, rfl, rfl, by decide +kernel, rfl, by decide +kernel, by decide +kernel⟩
theorem h_Pieces {k : Nat} {C_Pieces f : Addr} {fd : FuncData} (T : ClsT K mg "Pieces" C_Pieces f) (O : OwnM K "__init__" "Pieces.__init__" s_Pieces ["self", "text"] f fd) (n__left : NoAttr K C_Pieces "_left")  {f__pieces_of : Addr} {fd__pieces_of : FuncData} (D__pieces_of : Has P w K mg base "_pieces_of" ["text"] k (L2.CX P w) (spPcs K C_BadText) f__pieces_of fd__pieces_of) : HasM P w K mg base "Pieces" ["self", "text"] (k + 2) (L2.CX P w) (spMkP K C_BadText C_Pieces) C_Pieces f fd := by
  refine HasM.of T O (O.F.okX sc_Pieces (fun vs H Q E h => ?_) (fun cdv A outer s H vs Q E hr h => ?_))
  · obtain ⟨p, dx, t, rfl, _⟩ := h
    rfl
  obtain ⟨p, dx, t, rfl, hp, hl, q0, q1⟩ := h
  refine ⟨_, (pss_one (ps_fld (pv 0) (pe_sliceR (pe_call D__pieces_of.G hr (by rfl) D__pieces_of.g D__pieces_of.k D__pieces_of.b .nil (passes_call (takes_of rfl rfl rfl rfl) (fun _ _ _ _ h => h)) (pa_cons (pv 1) pa_nil)) (po_some (pe_un un_neg pe_int))) rfl)), ?_⟩
  dsimp only [L2.start]
  refine g_fld ?_
  refine g_revL ?_
  walk_at "go"
  refine use_pcs hl (fun e D H1 e1 nD hD => ?_) (fun e => q1 e _)
  walk_at "go"
  refine ⟨D, _, rfl, sql hD, fun l nl => ?_⟩
  have s2 : Same H (upd H1 l (.lst ((Tk.pcs t).map V.str).reverse)) := e1.trans (same_new nl)
  refine ⟨_, rfl, p, C_Pieces, dx, [], rfl, s2 _ _ hp, T.cl, n__left, by decide, ?_⟩
  have pl : l ≠ p := fun z => by rw [z, e1 _ _ hp] at nl; cases nl
  refine q0 e l _ (fun b o n h => ?_) ?_ ⟨⟨dx, upd_same⟩, ?_⟩
  · rw [upd_ne n]
    exact s2 _ _ h
  · cases z : H l with
    | none => rfl
    | some o =>
      have := e1 _ _ z
      rw [nl] at this
      cases this
  · rw [upd_ne pl, upd_same, List.map_reverse]
abbrev s_Pieces_are_over : Stmt := inClass (topS 29) 1
theorem sc_Pieces_are_over : FnScope ["self"] ["self"] (defScope s_Pieces_are_over) := ⟨rfl, rfl, rfl, by decide +kernel, rfl, by decide +kernel, by decide +kernel⟩
theorem h_Pieces_are_over {k : Nat} {C_Pieces f : Addr} {fd : FuncData} (cl_Pieces : Cls K C_Pieces) (M : Meth K C_Pieces "are_over" f) (O : OwnM K "are_over" "Pieces.are_over" s_Pieces_are_over ["self"] f fd)  (n_Pieces__left : NoAttr K C_Pieces "_left") (m_len : mg "len" = none) : HasMeth P w K mg base C_Pieces "are_over" ["self"] (k + 1) CX0 (spOver C_Pieces) f fd := by
  refine HasMeth.of cl_Pieces M O (O.F.ok sc_Pieces_are_over (fun vs H Q E h => ?_) (fun cdv A outer s H vs Q E hr h => ?_))
  · obtain ⟨p, a, ps, rfl, _⟩ := h
    rfl
  obtain ⟨p, a, ps, rfl, hP, q⟩ := h
  refine ⟨_, (pss_one (ps_ret (pe_cmpR op_eq (pe_callB call_len_seq (by rfl) m_len (by decide +kernel) (pa_cons (pe_fld (pv 0) rfl) pa_nil)) pe_int (nomark _)))), ?_⟩
  obtain ⟨dx, hp⟩ := hP.o
  have ha := hP.l
  walk_at "go"
  refine g_rfld ?_
  refine ⟨_, rfl, p, C_Pieces, dx, _, _, rfl, hp, cl_Pieces, n_Pieces__left, rfl, ?_⟩
  refine ⟨_, _, rfl, .inl (sql ha), ?_⟩
  walk_at "go"
  have e : decide (((ps.reverse.map V.str).length : Int) = 0) = decide (ps = []) := by
    rw [List.length_map, List.length_reverse]
    refine decide_eq_decide.mpr ⟨fun z => List.length_eq_zero_iff.mp (by omega), fun z => by rw [z]; rfl⟩
  rw [e]
  exact q
abbrev s_Pieces_open_next : Stmt := inClass (topS 29) 2
theorem sc_Pieces_open_next : FnScope ["self"] ["self"] (defScope s_Pieces_open_next) := ⟨rfl, rfl, rfl, by decide +kernel, rfl, by decide +kernel, by decide +kernel⟩
theorem h_Pieces_open_next {k : Nat} {C_Pieces f : Addr} {fd : FuncData} (cl_Pieces : Cls K C_Pieces) (M : Meth K C_Pieces "open_next" f) (O : OwnM K "open_next" "Pieces.open_next" s_Pieces_open_next ["self"] f fd)  (n_Pieces__left : NoAttr K C_Pieces "_left") (m_len : mg "len" = none) : HasMeth P w K mg base C_Pieces "open_next" ["self"] (k + 1) CX0 (spOpen C_Pieces) f fd := by
  refine HasMeth.of cl_Pieces M O (O.F.ok sc_Pieces_open_next (fun vs H Q E h => ?_) (fun cdv A outer s H vs Q E hr h => ?_))
  · obtain ⟨p, a, ps, rfl, _⟩ := h
    rfl
  obtain ⟨p, a, ps, rfl, hP, q⟩ := h
  refine ⟨_, (pss_one (ps_ret (pe_and (pe_cmpR op_gt (pe_callB call_len_seq (by rfl) m_len (by decide +kernel) (pa_cons (pe_fld (pv 0) rfl) pa_nil)) pe_int (nomark _)) (pe_one (pe_cmpR op_eq (pe_ix ix_list (pe_fld (pv 0) rfl) (pe_un un_neg pe_int) (fun _ _ => rfl)) pe_str (nomark _)))))), ?_⟩
  obtain ⟨dx, hp⟩ := hP.o
  have ha := hP.l
  walk_at "go"
  refine g_rfld ?_
  refine ⟨_, rfl, p, C_Pieces, dx, _, _, rfl, hp, cl_Pieces, n_Pieces__left, rfl, ?_⟩
  refine ⟨_, _, rfl, .inl (sql ha), ?_⟩
  walk_at "go"
  refine ifd (fun c => ?_) (fun c => ?_)
  · rw [List.length_map, List.length_reverse] at c
    obtain ⟨w0, r, rfl⟩ : ∃ w0 r, ps = w0 :: r := by
      cases ps with
      | nil => simp at c
      | cons w0 r => exact ⟨w0, r, rfl⟩
    walk_at "go"
    refine g_rfld ?_
    refine ⟨_, rfl, p, C_Pieces, dx, _, _, rfl, hp, cl_Pieces, n_Pieces__left, rfl, ?_⟩
    walk_at "go"
    refine ⟨_, _, _, _, rfl, rfl, sql ha, at_last (v := .str w0) (by rw [last_ps, List.getLast?_concat]), ?_⟩
    walk_at "go"
    have e : decide ((w0 :: r).head? = some ("(" : Str)) = decide (w0 = "(") := by
      rw [List.head?_cons]
      exact decide_eq_decide.mpr ⟨fun z => Option.some.inj z, fun z => by rw [z]⟩
    rw [e] at q
    exact q
  · rw [List.length_map, List.length_reverse] at c
    have : ps = [] := List.length_eq_zero_iff.mp (by omega)
    subst this
    exact q
abbrev s_Pieces_take : Stmt := inClass (topS 29) 3
theorem sc_Pieces_take : FnScope ["self"] ["self"] (defScope s_Pieces_take) := ⟨rfl, rfl, rfl, by decide +kernel, rfl, by decide +kernel, by decide +kernel⟩
theorem h_Pieces_take {k : Nat} {C_Pieces f : Addr} {fd : FuncData} (cl_Pieces : Cls K C_Pieces) (M : Meth K C_Pieces "take" f) (O : OwnM K "take" "Pieces.take" s_Pieces_take ["self"] f fd) {C_BadText : Addr} (X_BadText : ExcT K mg "BadText" C_BadText)  (n_Pieces__left : NoAttr K C_Pieces "_left") (m_len : mg "len" = none) : HasMeth P w K mg base C_Pieces "take" ["self"] (k + 1) (L2.CX P w) (spTake C_BadText C_Pieces) f fd := by
  refine HasMeth.of cl_Pieces M O (O.F.okX sc_Pieces_take (fun vs H Q E h => ?_) (fun cdv A outer s H vs Q E hr h => ?_))
  · obtain ⟨p, a, ps, rfl, _⟩ := h
    rfl
  obtain ⟨p, a, ps, rfl, hP, q0, q1⟩ := h
  refine ⟨_, (pss_cons (ps_if (pt_cmpR op_eq (pe_callB call_len_seq (by rfl) m_len (by decide +kernel) (pa_cons (pe_fld (pv 0) rfl) pa_nil)) pe_int (nomark _)) (pss_one (ps_raise rfl (takes_of rfl rfl rfl rfl) (pmk_own PySem.F.excBase_ValueError X_BadText.x X_BadText.g X_BadText.k (raises_own X_BadText.s X_BadText.t) rfl))) pss_nil) (pss_one (ps_ret (pe_bm0 PySem.F.plainAttrs_list PySem.F.slot_list_pop PySem.F.type_list_pop mt_pop (pe_fld (pv 0) rfl))))), ?_⟩
  obtain ⟨dx, hp⟩ := hP.o
  have ha := hP.l
  walk_at "go"
  refine g_rfld ?_
  refine ⟨_, rfl, p, C_Pieces, dx, _, _, rfl, hp, cl_Pieces, n_Pieces__left, rfl, ?_⟩
  refine ⟨_, _, rfl, .inl (sql ha), ?_⟩
  walk_at "go"
  refine ifd (fun c => ?_) (fun c => ?_)
  · rw [List.length_map, List.length_reverse] at c
    exact q0 (List.length_eq_zero_iff.mp (by omega)) _
  rw [List.length_map, List.length_reverse] at c
  obtain ⟨w0, r, rfl⟩ : ∃ w0 r, ps = w0 :: r := by
    cases ps with
    | nil => exact absurd rfl c
    | cons w0 r => exact ⟨w0, r, rfl⟩
  walk_at "go"
  refine g_rfld ?_
  refine ⟨_, rfl, p, C_Pieces, dx, _, _, rfl, hp, cl_Pieces, n_Pieces__left, rfl, ?_⟩
  refine ⟨.inl ⟨rfl, _, sql ha⟩, a, _, .str w0, rfl, rfl, ha, ?_, ?_⟩
  · rw [last_ps, List.length_append]
    simp
  · have := q1 w0 r rfl
    rw [last_ps, List.dropLast_concat]
    exact this
abbrev s_Pieces_pass_over : Stmt := inClass (topS 29) 4
theorem sc_Pieces_pass_over : FnScope ["self", "sign"] ["self", "sign"] (defScope s_Pieces_pass_over) := ⟨rfl, rfl, rfl, by decide +kernel, rfl, by decide +kernel, by decide +kernel⟩
theorem h_Pieces_pass_over {k : Nat} {C_Pieces f : Addr} {fd : FuncData} (cl_Pieces : Cls K C_Pieces) (M : Meth K C_Pieces "pass_over" f) (O : OwnM K "pass_over" "Pieces.pass_over" s_Pieces_pass_over ["self", "sign"] f fd) {C_BadText : Addr} (X_BadText : ExcT K mg "BadText" C_BadText)  {f_Pieces_take : Addr} {fd_Pieces_take : FuncData} (D_Pieces_take : HasMeth P w K mg base C_Pieces "take" ["self"] k (L2.CX P w) (spTake C_BadText C_Pieces) f_Pieces_take fd_Pieces_take) : HasMeth P w K mg base C_Pieces "pass_over" ["self", "sign"] (k + 1) (L2.CX P w) (spPass C_BadText C_Pieces) f fd := by
  refine HasMeth.of cl_Pieces M O (O.F.okX sc_Pieces_pass_over (fun vs H Q E h => ?_) (fun cdv A outer s H vs Q E hr h => ?_))
  · obtain ⟨p, a, ps, s0, rfl, _⟩ := h
    rfl
  obtain ⟨p, a, ps, s0, rfl, hP, hs, q0, q1⟩ := h
  refine ⟨_, (pss_one (ps_if (pt_cmpR op_ne (pe_meth0 (pl := _) (pv 0) D_Pieces_take.cl D_Pieces_take.M D_Pieces_take.G hr D_Pieces_take.b .nil (passes_call (takes_of rfl rfl rfl rfl) (fun _ _ _ _ h => h))) (pv 1) (nomark _)) (pss_one (ps_raise rfl (takes_of rfl rfl rfl rfl) (pmk_ownA PySem.F.excBase_ValueError X_BadText.x X_BadText.g X_BadText.k (raises_own X_BadText.s X_BadText.t) rfl (pa_cons (pe_joined (.cons pe_str (.cons (pe_fmt (pv 1)) (.cons pe_str .nil)))) pa_nil)))) pss_nil)), ?_⟩
  obtain ⟨dx, hp⟩ := hP.o
  have ha := hP.l
  walk_at "go"
  refine g_meth ?_
  refine ⟨_, rfl, p, dx, _, rfl, hp, rfl, ?_⟩
  walk_at "go"
  refine use_take hP (fun e => q0 fun r => by rw [e]; intro z; cases z) (fun w0 r e => ?_)
  walk_at "go"
  refine ifdn (fun c => ?_) (fun c => ?_)
  · subst c
    exact q1 r e
  · have bad : ∀ H', E (.ref C_BadText) none H' := q0 fun r' => by
      rw [e]
      intro z
      cases z
      exact c rfl
    exact fs3 (i := 1) rfl (by omega) (by decide) (by decide) fun z => ⟨by show 1 ≤ sizeLine; decide, bad _⟩
end

/-! ### figures -/
theorem g_istr {te : TE} {σ : L2.St} {H : Hp} {R : It → Hp → Prop} (h : te σ H fun v H1 => ∃ x, v = .str x ∧ R (Its x) H1) : iStr te σ H R := h
theorem in_figs (c : Nat) : decide (c ∈ (Str.ofString "0123456789").cps.toList) = Tk.figB c := by
  have e : (Str.ofString "0123456789").cps.toList = [48, 49, 50, 51, 52, 53, 54, 55, 56, 57] := by decide +kernel
  rw [e]
  unfold Tk.figB
  rw [← Bool.decide_and]
  refine decide_eq_decide.mpr ?_
  simp only [List.mem_cons, List.not_mem_nil, or_false]
  omega
def spFigs (X : Addr) : Sp := fun vs H Q E => ∃ w : Str, vs = [.str w] ∧ w.length ≤ 100000 ∧ (Tk.figs w = none → ∀ H', E (.ref X) none H') ∧ (∀ i, Tk.figs w = some i → ∀ H', Same H H' → Q (.int i) H')
theorem use_figs {X : Addr} {w : Str} {H : Hp} {Q : VK} {E : XK} (hl : w.length ≤ 100000) (q0 : Tk.figs w = none → ∀ H', E (.ref X) none H') (q1 : ∀ i, Tk.figs w = some i → ∀ H', Same H H' → Q (.int i) H') : spFigs X ([.str w] ++ []) H Q E := ⟨w, rfl, hl, q0, q1⟩
section
variable {P : Program} {w : World} {K : PySem.W.Frag} {mg : Str → Option Value} {base : Heap}
abbrev s__read_figures : Stmt := topS 33
theorem sc__read_figures : FnScope ["piece", "figures", "figure"] ["piece"] (defScope s__read_figures) := ⟨rfl, rfl, rfl, by decide +kernel, rfl, by decide +kernel, by decide +kernel⟩
theorem h__read_figures {k : Nat} {f : Addr} {fd : FuncData} (O : Own K mg "_read_figures" s__read_figures ["piece"] f fd) {C_BadText : Addr} (X_BadText : ExcT K mg "BadText" C_BadText)  (m_int : mg "int" = none) (m_all : mg "all" = none) {t_FIGURES : Tok} (m_FIGURES : mg "FIGURES" = some (.str "0123456789" t_FIGURES)) (m_len : mg "len" = none) {t_MOST_FIGURES : Tok} (m_MOST_FIGURES : mg "MOST_FIGURES" = some (.int 12 t_MOST_FIGURES)) : Has P w K mg base "_read_figures" ["piece"] (k + 1) (L2.CX P w) (spFigs C_BadText) f fd := by
  refine O.has (O.F.okX sc__read_figures (fun vs H Q E h => ?_) (fun cdv A outer s H vs Q E hr h => ?_))
  · obtain ⟨p, rfl, _⟩ := h
    rfl
  obtain ⟨p, rfl, hl, q0, q1⟩ := h
  refine ⟨_, (pss_cons (ps_set (i := 1) sc__read_figures.nd rfl (.inl rfl) (pe_bm PySem.F.plainAttrs_str PySem.F.slot_str_removeprefix PySem.F.type_str_removeprefix mt_removeprefix (pv 0) (pa_cons pe_str pa_nil))) (pss_cons (ps_if (PW.pt (pw_or (pt_not (pt_chain op_le op_le pe_int (pe_callB call_len_str (by rfl) m_len (by decide +kernel) (pa_cons (pv 1) pa_nil)) (pe_glob (v := .int (12)) (by rfl) m_MOST_FIGURES ⟨_, rfl⟩))) (pw_or1 (pt_not (pt_val (pe_callB (cr_all rfl) (by rfl) m_all (by decide +kernel) (pa_cons (pe_lc (own := [("figure", 2)]) (g := gName 2) rfl sc__read_figures.nd (pi_str (pv 1)) (blkOk_by (own := [("figure", 2)]) (N := ["piece", "figures", "figure"]) (sc := defScope s__read_figures) (by decide +kernel)) (fun _ _ _ _ _ => pg_name (i := 2) sc__read_figures.nd rfl (.inl rfl)) (fun _ _ _ _ _ => pts_nil) (fun _ _ _ _ _ => (pe_cmpR op_in_sign (pv 2) (pe_glob (v := .str "0123456789") (by rfl) m_FIGURES ⟨_, rfl⟩) (by rfl)))) pa_nil))))))) (pss_one (ps_raise rfl (takes_of rfl rfl rfl rfl) (pmk_own PySem.F.excBase_ValueError X_BadText.x X_BadText.g X_BadText.k (raises_own X_BadText.s X_BadText.t) rfl))) pss_nil) (pss_cons (ps_if (PW.pt (pw_and (pt_cmpR op_eq (pe_ix ix_str (pv 1) pe_int (fun _ _ => rfl)) pe_str (nomark _)) (pw_and1 (pt_cmpR op_ne (pv 0) pe_str (nomark _))))) (pss_one (ps_raise rfl (takes_of rfl rfl rfl rfl) (pmk_own PySem.F.excBase_ValueError X_BadText.x X_BadText.g X_BadText.k (raises_own X_BadText.s X_BadText.t) rfl))) pss_nil) (pss_one (ps_ret (pe_callTy call_int_str (by rfl) m_int (by decide +kernel) (pa_cons (pv 0) pa_nil))))))), ?_⟩
  have z : (16777216 : Nat) = sizeLine := by decide
  walk_at "go"
  refine ⟨rfl, ?_⟩
  have rp := StrLaws.removeprefix_eq p "-"
  have lf : (Txt.removeprefix p "-").length ≤ p.length := by
    rw [rp]
    split
    · show (List.toArray _).size ≤ _
      rw [List.size_toArray, List.length_take, List.length_drop]
      omega
    · exact Nat.le_refl _
  have sz : (Txt.removeprefix p "-").cps.size = (Txt.removeprefix p "-").length := rfl
  have fg := fun i => @Tk.figs_some p i
  have df : Tk.figs p = if (decide (1 ≤ (Txt.removeprefix p "-").length) && (decide ((Txt.removeprefix p "-").length ≤ 12) && ((Txt.removeprefix p "-").cps.toList.all Tk.figB && !(decide ((Txt.removeprefix p "-").cps.toList.head? = some 48) && decide (p ≠ "0"))))) = true then intText? p else none := rfl
  walk_at "go"
  refine ⟨by omega, ?_⟩
  have fok := @Tk.figs_ok p
  generalize Txt.removeprefix p "-" = q at lf sz df fok ⊢
  have lq : q.cps.toList.length = q.length := by simp [Str.length]
  have no : ∀ H', ¬ (1 ≤ q.length ∧ q.length ≤ 12 ∧ q.cps.toList.all Tk.figB = true) → E (.ref C_BadText) none H' := fun H' c => q0 (by
    rw [df, if_neg]
    intro y
    simp only [Bool.and_eq_true, decide_eq_true_eq] at y
    exact c ⟨y.1, y.2.1, y.2.2.1⟩) H'
  walk_at "go"
  refine ⟨by omega, ?_⟩
  walk_at "go"
  refine ifd (fun c1 => ?_) (fun c1 => ?_)
  · walk_at "go"
    refine ifdn (fun c2 => ?_) (fun c2 => no _ fun y => c2 (by omega))
    walk_at "go"
    refine g_istr ?_
    walk_at "go"
    refine fun D nD => lc_it walk_str (fun i H3 => H3 D = some (.lst (((q.cps.toList.take i).map Tk.figB).map V.bl)) ∧ Same H H3) ⟨by rw [upd_same]; rfl, same_new nD⟩ (fun _ _ _ _ => trivial) (fun i y H3 H4 hi hW hy => ?_) (fun H3 hW => ?_)
    · obtain ⟨rfl, cc, hcc, rfl⟩ := hy
      obtain ⟨hD, e3⟩ := hW
      walk_at "go"
      have hl' : i < q.cps.toList.length := by simpa using hi
      have hce : q.cps.toList[i] = cc := by
        have : q.cps.toList[i]? = some cc := by rw [Array.getElem?_toList]; exact hcc
        rw [List.getElem?_eq_getElem hl'] at this
        exact Option.some.inj this
      refine ⟨_, hD, ?_, ?_, fun a o h => by rw [upd_ne (ne_of_none h nD)]; exact e3 _ _ h⟩
      · rw [List.length_map, List.length_map, List.length_take]
        omega
      · rw [upd_same, List.take_succ_eq_append_getElem hl', List.map_append, List.map_append, hce, in_figs]
        rfl
    · obtain ⟨hD, e3⟩ := hW
      walk_at "go"
      have e2 : q.cps.toList.take q.cps.size = q.cps.toList := List.take_of_length_le (by simp)
      rw [e2] at hD
      refine ⟨D, q.cps.toList.map Tk.figB, rfl, sql hD, _, rfl, ?_⟩
      have e4 : (q.cps.toList.map Tk.figB).all id = q.cps.toList.all Tk.figB := by rw [List.all_map]; rfl
      rw [e4]
      refine ifn (fun c3 => ?_) (fun c3 => no _ fun y => by rw [c3] at y; cases y.2.2)
      have q1' : ∀ i, Tk.figs p = some i → ∀ H', Same H3 H' → Q (.int i) H' := fun i h H' e => q1 i h H' (e3.trans e)
      have c0 : 1 ≤ q.length ∧ q.length ≤ 12 ∧ q.cps.toList.all Tk.figB = true := ⟨by omega, by omega, c3⟩
      obtain ⟨⟨n, hn⟩, l13⟩ := fok c0.1 c0.2.1 c3
      obtain ⟨c, r, hq⟩ : ∃ c r, q.cps.toList = c :: r := by
        cases e : q.cps.toList with
        | nil => rw [e] at lq; simp at lq; omega
        | cons c r => exact ⟨c, r, rfl⟩
      have dn : Tk.figs p = if (!(decide (c = 48) && decide (p ≠ "0"))) = true then some n else none := by
        rw [df, hn, decide_eq_true c0.1, decide_eq_true c0.2.1, c3, hq, List.head?_cons]
        simp
      have e0 : (⟨#[c]⟩ : Str) = "0" ↔ c = 48 := by
        have : ("0" : Str) = ⟨#[48]⟩ := by decide +kernel
        rw [this]
        exact ⟨fun z => by cases z; rfl, fun z => by rw [z]⟩
      have fin : (c ≠ 48 ∨ p = "0") → ∀ H', Same H3 H' → Q (.int n) H' := fun h H' e => q1' n (by
        rw [dn]
        rcases h with h | h
        · rw [decide_eq_false h]; rfl
        · rw [decide_eq_false (p := p ≠ "0") (fun z => z h)]; simp) H' e
      walk_at "go"
      refine ⟨q, 0, c, rfl, rfl, by omega, at_any (j := 0) rfl (by rw [hq]; rfl), ?_⟩
      walk_at "go"
      refine ifd (fun c4 => ?_) (fun c4 => ?_)
      · walk_at "go"
        refine ifdn (fun c5 => ?_) (fun c5 => ?_)
        · walk_at "go"
          exact ⟨p, n, rfl, hn, by omega, fin (.inr c5) _ (Same.refl _)⟩
        · refine q0 ?_ _
          rw [dn, decide_eq_true (e0.mp c4), decide_eq_true c5]
          rfl
      · walk_at "go"
        exact ⟨p, n, rfl, hn, by omega, fin (.inl fun y => c4 (e0.mpr y)) _ (Same.refl _)⟩
  · walk_at "go"
    exact no _ fun y => c1 (by omega)
end

/-! ### what is read of the pieces -/
mutual
/-- told by tuples alone -/
inductive DT (K : PySem.W.Frag) (H : Hp) : V → PyData → Prop
  | int (i : Int) : DT K H (.int i) (.int i)
  | str (x : Str) : DT K H (.str x) (.str x)
  | tup {a : Addr} {vs : List V} {ds : List PyData} : SqT K H a vs → DTs K H vs ds → DT K H (.ref a) (.tuple ds)
inductive DTs (K : PySem.W.Frag) (H : Hp) : List V → List PyData → Prop
  | nil : DTs K H [] []
  | cons {v : V} {d : PyData} {vs : List V} {ds : List PyData} : DT K H v d → DTs K H vs ds → DTs K H (v :: vs) (d :: ds)
end
mutual
theorem DT.tm {K : PySem.W.Frag} {H H' : Hp} (e : TM K H H') : ∀ {v : V} {d : PyData}, DT K H v d → DT K H' v d
  | _, _, .int i => .int i
  | _, _, .str x => .str x
  | _, _, .tup h r => .tup (e _ _ h) (DTs.tm e r)
theorem DTs.tm {K : PySem.W.Frag} {H H' : Hp} (e : TM K H H') : ∀ {vs : List V} {ds : List PyData}, DTs K H vs ds → DTs K H' vs ds
  | _, _, .nil => .nil
  | _, _, .cons h r => .cons (DT.tm e h) (DTs.tm e r)
end
mutual
theorem DT.dp {K : PySem.W.Frag} {H : Hp} : ∀ {v : V} {d : PyData}, DT K H v d → Dp K H v d
  | _, _, .int i => .int i
  | _, _, .str x => .str x
  | _, _, .tup h r => .tup h (DTs.dp r)
theorem DTs.dp {K : PySem.W.Frag} {H : Hp} : ∀ {vs : List V} {ds : List PyData}, DTs K H vs ds → DpAll K H vs ds
  | _, _, .nil => .nil
  | _, _, .cons h r => .cons (DT.dp h) (DTs.dp r)
end
theorem DTs.app {K : PySem.W.Frag} {H : Hp} : ∀ {vs us : List V} {ds es : List PyData}, DTs K H vs ds → DTs K H us es → DTs K H (vs ++ us) (ds ++ es)
  | _, _, _, _, .nil, h => h
  | _, _, _, _, .cons a r, h => .cons a (DTs.app r h)
theorem DTs.len {K : PySem.W.Frag} {H : Hp} : ∀ {vs : List V} {ds : List PyData}, DTs K H vs ds → vs.length = ds.length
  | _, _, .nil => rfl
  | _, _, .cons _ r => by rw [List.length_cons, List.length_cons, DTs.len r]
/-- all stays but the pieces that are left and a def's table -/
structure Tpa (PT a : Addr) (H H' : Hp) : Prop where
  g : GxR.TabG H' PT
  k : ∀ b o, b ≠ a → b ≠ PT → H b = some o → H' b = some o
theorem Tpa.refl {PT a : Addr} {H : Hp} (g : GxR.TabG H PT) : Tpa PT a H H := ⟨g, fun _ _ _ _ h => h⟩
theorem Tpa.trans {PT a : Addr} {H H1 H2 : Hp} (x : Tpa PT a H H1) (y : Tpa PT a H1 H2) : Tpa PT a H H2 := ⟨y.g, fun b o n m h => y.k b o n m (x.k b o n m h)⟩
theorem Tpa.of {PT a : Addr} {H H' : Hp} (x : Tb PT H H') : Tpa PT a H H' := ⟨x.g, fun b o _ m h => x.k b o m h⟩
theorem Tpa.same {PT a : Addr} {H H' : Hp} (g : GxR.TabG H PT) (e : Same H H') : Tpa PT a H H' := ⟨tab_same g e, fun b o _ _ h => e b o h⟩
theorem tab_at {PT : Addr} {H : Hp} (g : GxR.TabG H PT) {o : HO} {a : Addr} (h : H a = some o) (n : ∀ ps, o ≠ .tbl ps) : a ≠ PT := fun z => by
  obtain ⟨ps, e, _⟩ := g
  rw [← z, h] at e
  cases e
  exact n _ rfl
theorem Tpa.put {PT a : Addr} {H : Hp} {o u : HO} (g : GxR.TabG H PT) (h : H a = some o) (n : ∀ ps, o ≠ .tbl ps) : Tpa PT a H (upd H a u) := by
  have na := tab_at g h n
  obtain ⟨ps, e, z⟩ := g
  exact ⟨⟨ps, by rw [upd_ne (Ne.symm na)]; exact e, z⟩, fun b o' n' _ h' => by rw [upd_ne n']; exact h'⟩
theorem Tpa.tm {K : PySem.W.Frag} {PT a : Addr} {H H' : Hp} {xs : List V} (x : Tpa PT a H H') (g : GxR.TabG H PT) (ha : H a = some (.lst xs)) : TM K H H' := fun b us h => by
  rcases h with h | h
  · refine .inl ?_
    rcases h with h | ⟨o, h⟩
    · exact .inl (x.k _ _ (fun z => by rw [z, ha] at h; cases h) (tab_at g h fun _ z => by cases z) h)
    · exact .inr ⟨o, x.k _ _ (fun z => by rw [z, ha] at h; cases h) (tab_at g h fun _ z => by cases z) h⟩
  · exact .inr h
theorem Tpa.ps {PT C a p : Addr} {H H' : Hp} {xs : List Str} (x : Tb PT H H') (g : GxR.TabG H PT) (h : PS C H p a xs) : PS C H' p a xs := by
  obtain ⟨dx, hp⟩ := h.o
  exact ⟨⟨dx, x.k _ _ (tab_at g hp fun _ z => by cases z) hp⟩, x.k _ _ (tab_at g h.l fun _ z => by cases z) h.l⟩
def spRF (K : PySem.W.Frag) (X C PT : Addr) (n : Nat) : Sp := fun vs H Q E => ∃ (p a : Addr) (ps : List Str) (kind : Str) (dp : Int), vs = [.ref p, .str kind, .int dp] ∧ PS C H p a ps ∧ dp + n = 14 ∧ dp ≤ 13 ∧ kind.length ≤ 100 ∧ (∀ q ∈ ps, q.length ≤ 100000) ∧ GxR.TabG H PT ∧
  (Tk.rF (n - 1) kind ps = none → ∀ H', E (.ref X) none H') ∧ (∀ d r, Tk.rF (n - 1) kind ps = some (d, r) → ∀ v H', Tpa PT a H H' → PS C H' p a r → DT K H' v d → Q v H')
def spPart (K : PySem.W.Frag) (X C PT : Addr) (n : Nat) : Sp := fun vs H Q E => ∃ (p a : Addr) (ps : List Str) (kind : Str) (dp : Int), vs = [.ref p, .str kind, .int dp] ∧ PS C H p a ps ∧ dp + n = 14 ∧ dp ≤ 13 ∧ kind.length ≤ 100 ∧ (∀ q ∈ ps, q.length ≤ 100000) ∧ GxR.TabG H PT ∧
  (Tk.rP (Tk.rF (n - 1)) kind ps = none → ∀ H', E (.ref X) none H') ∧ (∀ d r, Tk.rP (Tk.rF (n - 1)) kind ps = some (d, r) → ∀ v H', Tpa PT a H H' → PS C H' p a r → DT K H' v d → Q v H')
theorem use_rf {K : PySem.W.Frag} {X C PT p a : Addr} {n : Nat} {ps : List Str} {kind : Str} {dp : Int} {H : Hp} {Q : VK} {E : XK} (hP : PS C H p a ps) (h0 : dp + n = 14) (h1 : dp ≤ 13) (hk : kind.length ≤ 100) (hz : ∀ q ∈ ps, q.length ≤ 100000) (ht : GxR.TabG H PT)
    (q0 : Tk.rF (n - 1) kind ps = none → ∀ H', E (.ref X) none H') (q1 : ∀ d r, Tk.rF (n - 1) kind ps = some (d, r) → ∀ v H', Tpa PT a H H' → PS C H' p a r → DT K H' v d → Q v H') : spRF K X C PT n ([.ref p, .str kind, .int dp] ++ []) H Q E := ⟨p, a, ps, kind, dp, rfl, hP, h0, h1, hk, hz, ht, q0, q1⟩
theorem use_part {K : PySem.W.Frag} {X C PT p a : Addr} {n : Nat} {ps : List Str} {kind : Str} {dp : Int} {H : Hp} {Q : VK} {E : XK} (hP : PS C H p a ps) (h0 : dp + n = 14) (h1 : dp ≤ 13) (hk : kind.length ≤ 100) (hz : ∀ q ∈ ps, q.length ≤ 100000) (ht : GxR.TabG H PT)
    (q0 : Tk.rP (Tk.rF (n - 1)) kind ps = none → ∀ H', E (.ref X) none H') (q1 : ∀ d r, Tk.rP (Tk.rF (n - 1)) kind ps = some (d, r) → ∀ v H', Tpa PT a H H' → PS C H' p a r → DT K H' v d → Q v H') : spPart K X C PT n ([.ref p, .str kind, .int dp] ++ []) H Q E := ⟨p, a, ps, kind, dp, rfl, hP, h0, h1, hk, hz, ht, q0, q1⟩
theorem none_rf {P : Program} {w : World} {K : PySem.W.Frag} {mg : Str → Option Value} {base : Heap} {X C PT : Addr} {CX : CXT} {f : Addr} {fd : FuncData} {ps : List Str} : FnOk P w K mg base CX 0 f fd ps (spRF K X C PT 0) := by
  have no : ∀ vs H Q E, ¬ spRF K X C PT 0 vs H Q E := fun vs H Q E h => by
    obtain ⟨p, a, qs, kind, dp, _, _, h0, h1, _⟩ := h
    omega
  exact ⟨fun vs H Q E h => absurd h (no vs H Q E), fun A outer s H args us vs Q E _ _ _ _ h => absurd h (no vs H Q E)⟩
theorem rP_nil {f : Tk.RF} {k : Str} (h : isDeep k = false) : Tk.rP f k [] = none := by unfold Tk.rP; rw [if_neg (by rw [h]; exact Bool.false_ne_true)]
theorem rP_fig {f : Tk.RF} {k w : Str} {r : List Str} (h : isDeep k = false) (c : k = "wait" ∨ k = "times" ∨ k = "gap") : Tk.rP f k (w :: r) = (Tk.figs w).map fun i => (.int i, r) := by
  unfold Tk.rP
  rw [if_neg (by rw [h]; exact Bool.false_ne_true)]
  exact if_pos c
theorem rP_str {f : Tk.RF} {k w : Str} {r : List Str} (h : isDeep k = false) (c : ¬ (k = "wait" ∨ k = "times" ∨ k = "gap")) : Tk.rP f k (w :: r) = some (.str w, r) := by
  unfold Tk.rP
  rw [if_neg (by rw [h]; exact Bool.false_ne_true)]
  exact if_neg c
theorem inDeep2 (k : Str) : inV (.str k) [.str "contract", .str "condition", .str "number"] = isDeep k := by
  have e : ∀ a b : Str, (a == b) = decide (b = a) := fun a b => by
    by_cases c : a = b
    · subst c; simp
    · rw [decide_eq_false (fun z => c z.symm)]
      simpa using c
  simp only [inV, List.any_cons, List.any_nil, eqV, e, Bool.or_false, isDeep]
theorem inFigs (k : Str) : inV (.str k) [.str "wait", .str "times", .str "gap"] = decide (k = "wait" ∨ k = "times" ∨ k = "gap") := by
  have e : ∀ a b : Str, (a == b) = decide (b = a) := fun a b => by
    by_cases c : a = b
    · subst c; simp
    · rw [decide_eq_false (fun z => c z.symm)]
      simpa using c
  simp only [inV, List.any_cons, List.any_nil, eqV, e, Bool.or_false, Bool.decide_or]
theorem g_star {K : PySem.W.Frag} {te : TE} {ta : TA} {σ : L2.St} {H : Hp} {R : List V → Hp → Prop} (h : StX.tStar K te ta σ H R) : StX.tStar K te ta σ H R := h
theorem g_enumT {K : PySem.W.Frag} {ta : TA} {σ : L2.St} {H : Hp} {R : It → Hp → Prop} (h : ta σ H fun vs H1 => ∃ a xs, vs = [.ref a] ∧ SqT K H1 a xs ∧ R (IteT K a) H1) : iEnumT K ta σ H R := h
theorem ifsgn {i : Nat} (F : Str → Prop) (h : F (Tk.sgnOf (decide (i = 0)))) : if decide ((0 : Int) < ((i : Nat) : Int)) = true then F "," else F "(" := by
  by_cases c : i = 0
  · subst c
    rw [decide_eq_true rfl] at h
    exact h
  · rw [decide_eq_false c] at h
    rw [decide_eq_true (by omega), if_pos rfl]
    exact h
theorem sgn_len (b : Bool) : (Tk.sgnOf b).length ≤ 100 := by cases b <;> decide +kernel
theorem PS.at {C : Addr} {H : Hp} {p a D : Addr} {o : HO} {ps : List Str} (h : PS C H p a ps) (n : p ≠ D) (m : a ≠ D) : PS C (upd H D o) p a ps := by
  obtain ⟨dx, h1⟩ := h.o
  exact ⟨⟨dx, by rw [upd_ne n]; exact h1⟩, by rw [upd_ne m]; exact h.l⟩
theorem Tpa.at {PT a D : Addr} {H H' : Hp} {o : HO} (x : Tpa PT a H H') (nD : H D = none) (tD : D ≠ PT) : Tpa PT a H (upd H' D o) := by
  obtain ⟨ps, e, z⟩ := x.g
  exact ⟨⟨ps, by rw [upd_ne (Ne.symm tD)]; exact e, z⟩, fun b o' n m h => by rw [upd_ne (fun z => by rw [z, nD] at h; cases h)]; exact x.k b o' n m h⟩
section
variable {P : Program} {w : World} {K : PySem.W.Frag} {mg : Str → Option Value} {base : Heap}
abbrev s__read_part : Stmt := topS 32
theorem sc__read_part : FnScope ["pieces", "kind", "depth"] ["pieces", "kind", "depth"] (defScope s__read_part) := ⟨rfl, rfl, rfl, by decide +kernel, rfl, by decide +kernel, by decide +kernel⟩
theorem h__read_part {n : Nat} {PT : Addr} {k : Nat} {f : Addr} {fd : FuncData} (O : Own K mg "_read_part" s__read_part ["pieces", "kind", "depth"] f fd)  {C_Pieces : Addr} (cl_Pieces : Cls K C_Pieces) {f_Pieces_take : Addr} {fd_Pieces_take : FuncData} (D_Pieces_take : HasMeth P w K mg base C_Pieces "take" ["self"] k (L2.CX P w) (spTake C_BadText C_Pieces) f_Pieces_take fd_Pieces_take) {f__read_figures : Addr} {fd__read_figures : FuncData} (D__read_figures : Has P w K mg base "_read_figures" ["piece"] k (L2.CX P w) (spFigs C_BadText) f__read_figures fd__read_figures) {f__read_form : Addr} {fd__read_form : FuncData} (D__read_form : Has P w K mg base "_read_form" ["pieces", "kind", "depth"] k (L2.CX P w) (spRF K C_BadText C_Pieces PT n) f__read_form fd__read_form) : Has P w K mg base "_read_part" ["pieces", "kind", "depth"] (k + 1) (L2.CX P w) (spPart K C_BadText C_Pieces PT n) f fd := by
  refine O.has (O.F.okX sc__read_part (fun vs H Q E h => ?_) (fun cdv A outer s H vs Q E hr h => ?_))
  · obtain ⟨p, a, ps, kind, dp, rfl, _⟩ := h
    rfl
  obtain ⟨p, a, ps, kind, dp, rfl, hP, h0, h1, hk, hz, ht, q0, q1⟩ := h
  refine ⟨_, (pss_cons (ps_if (pt_cmpR op_in_seq (pv 1) (pe_tup (pa_cons pe_str (pa_cons pe_str (pa_cons pe_str pa_nil)))) (by rfl)) (pss_one (ps_ret (pe_call D__read_form.G hr (by rfl) D__read_form.g D__read_form.k D__read_form.b .nil (passes_call (takes_of rfl rfl rfl rfl) (fun _ _ _ _ h => h)) (pa_cons (pv 0) (pa_cons (pv 1) (pa_cons (pv 2) pa_nil)))))) pss_nil) (pss_cons (ps_if (pt_cmpR op_in_seq (pv 1) (pe_tup (pa_cons pe_str (pa_cons pe_str (pa_cons pe_str pa_nil)))) (by rfl)) (pss_one (ps_ret (pe_call D__read_figures.G hr (by rfl) D__read_figures.g D__read_figures.k D__read_figures.b .nil (passes_call (takes_of rfl rfl rfl rfl) (fun _ _ _ _ h => h)) (pa_cons (pe_meth0 (pl := _) (pv 0) D_Pieces_take.cl D_Pieces_take.M D_Pieces_take.G hr D_Pieces_take.b .nil (passes_call (takes_of rfl rfl rfl rfl) (fun _ _ _ _ h => h))) pa_nil)))) pss_nil) (pss_one (ps_ret (pe_meth0 (pl := _) (pv 0) D_Pieces_take.cl D_Pieces_take.M D_Pieces_take.G hr D_Pieces_take.b .nil (passes_call (takes_of rfl rfl rfl rfl) (fun _ _ _ _ h => h))))))), ?_⟩
  walk_at "go"
  refine ⟨by show 3 ≤ sizeLine; decide, fun p4 np4 => ?_⟩
  have s4 := same_new (o := .tup [.str "contract", .str "condition", .str "number"]) np4
  refine ⟨p4, _, rfl, .inr (sqt upd_same), rfl, rfl, ?_⟩
  replace hP := hP.same s4
  have q1' : ∀ d r, Tk.rP (Tk.rF (n - 1)) kind ps = some (d, r) → ∀ v H', Tpa PT a (upd H p4 (.tup [.str "contract", .str "condition", .str "number"])) H' → PS C_Pieces H' p a r → DT K H' v d → Q v H' := fun d r e v H' t => q1 d r e v H' ((Tpa.same ht s4).trans t)
  replace ht := tab_same ht s4
  clear q1
  generalize upd H p4 (.tup [.str "contract", .str "condition", .str "number"]) = H4 at hP ht q1' ⊢
  rw [if_neg Bool.false_ne_true, inDeep2]
  refine ⟨_, rfl, ifb (fun c => ?_) (fun c => ?_)⟩
  · have pe : Tk.rP (Tk.rF (n - 1)) kind ps = Tk.rF (n - 1) kind ps := by unfold Tk.rP; rw [if_pos c]
    rw [pe] at q0 q1'
    walk_at "go"
    exact use_rf hP h0 h1 hk hz ht q0 q1'
  walk_at "go"
  refine ⟨by show 3 ≤ sizeLine; decide, fun p5 np5 => ?_⟩
  have s5 := same_new (o := .tup [.str "wait", .str "times", .str "gap"]) np5
  refine ⟨p5, _, rfl, .inr (sqt upd_same), rfl, rfl, ?_⟩
  replace hP := hP.same s5
  have q1 : ∀ d r, Tk.rP (Tk.rF (n - 1)) kind ps = some (d, r) → ∀ v H', Tpa PT a (upd H4 p5 (.tup [.str "wait", .str "times", .str "gap"])) H' → PS C_Pieces H' p a r → DT K H' v d → Q v H' := fun d r e v H' t => q1' d r e v H' ((Tpa.same ht s5).trans t)
  replace ht := tab_same ht s5
  clear q1'
  generalize upd H4 p5 (.tup [.str "wait", .str "times", .str "gap"]) = H5 at hP ht q1 ⊢
  obtain ⟨dx, hp⟩ := hP.o
  rw [if_neg Bool.false_ne_true, inFigs]
  refine ⟨_, rfl, ifd (fun c2 => ?_) (fun c2 => ?_)⟩
  · walk_at "go"
    refine g_meth ?_
    refine ⟨_, rfl, p, dx, _, rfl, hp, rfl, ?_⟩
    walk_at "go"
    refine use_take hP (fun e => q0 (by rw [e]; exact rP_nil c)) (fun w0 r e => ?_)
    subst e
    rw [rP_fig c c2] at q0 q1
    walk_at "go"
    refine use_figs (hz w0 List.mem_cons_self) (fun e => q0 (by rw [e]; rfl)) (fun i e H' s6 => ?_)
    exact q1 (.int i) r (by rw [e]; rfl) _ _ ((Tpa.put ht hP.l fun _ z => by cases z).trans (.same (Tpa.put ht hP.l fun _ z => by cases z).g s6)) (hP.put.same s6) (.int i)
  · walk_at "go"
    refine g_meth ?_
    refine ⟨_, rfl, p, dx, _, rfl, hp, rfl, ?_⟩
    walk_at "go"
    refine use_take hP (fun e => q0 (by rw [e]; exact rP_nil c)) (fun w0 r e => ?_)
    subst e
    exact q1 (.str w0) r (rP_str c c2) _ _ (Tpa.put ht hP.l fun _ z => by cases z) hP.put (.str w0)
abbrev s__read_form : Stmt := topS 31
theorem sc__read_form : FnScope ["pieces", "kind", "depth", "word", "kinds", "parts", "at", "inner"] ["pieces", "kind", "depth"] (defScope s__read_form) := ⟨rfl, rfl, rfl, by decide +kernel, rfl, by decide +kernel, by decide +kernel⟩
theorem h__read_form {n : Nat} {PT : Addr} {k : Nat} {f : Addr} {fd : FuncData} (O : Own K mg "_read_form" s__read_form ["pieces", "kind", "depth"] f fd) {C_BadText : Addr} (X_BadText : ExcT K mg "BadText" C_BadText)  {C_Pieces : Addr} (cl_Pieces : Cls K C_Pieces) {f_Pieces_pass_over : Addr} {fd_Pieces_pass_over : FuncData} (D_Pieces_pass_over : HasMeth P w K mg base C_Pieces "pass_over" ["self", "sign"] k (L2.CX P w) (spPass C_BadText C_Pieces) f_Pieces_pass_over fd_Pieces_pass_over) {f__read_part : Addr} {fd__read_part : FuncData} (D__read_part : Has P w K mg base "_read_part" ["pieces", "kind", "depth"] k (L2.CX P w) (spPart K C_BadText C_Pieces PT n) f__read_part fd__read_part) {f_kinds_behind : Addr} {fd_kinds_behind : FuncData} (D_kinds_behind : Has P w K mg base "kinds_behind" ["word", "kind"] k CX0 (spKinds K) f_kinds_behind fd_kinds_behind) {f_Pieces_open_next : Addr} {fd_Pieces_open_next : FuncData} (D_Pieces_open_next : HasMeth P w K mg base C_Pieces "open_next" ["self"] k CX0 (spOpen C_Pieces) f_Pieces_open_next fd_Pieces_open_next) {f_is_word : Addr} {fd_is_word : FuncData} (D_is_word : Has P w K mg base "is_word" ["told"] k CX0 (spIsWord K PT) f_is_word fd_is_word) {f__read_figures : Addr} {fd__read_figures : FuncData} (D__read_figures : Has P w K mg base "_read_figures" ["piece"] k (L2.CX P w) (spFigs C_BadText) f__read_figures fd__read_figures) {f_Pieces_take : Addr} {fd_Pieces_take : FuncData} (D_Pieces_take : HasMeth P w K mg base C_Pieces "take" ["self"] k (L2.CX P w) (spTake C_BadText C_Pieces) f_Pieces_take fd_Pieces_take) (m_len : mg "len" = none) (m_enumerate : mg "enumerate" = none) {t_DEEPEST : Tok} (m_DEEPEST : mg "DEEPEST" = some (.int 12 t_DEEPEST)) : Has P w K mg base "_read_form" ["pieces", "kind", "depth"] (k + 1) (L2.CX P w) (spRF K C_BadText C_Pieces PT (n + 1)) f fd := by
  refine O.has (O.F.okX sc__read_form (fun vs H Q E h => ?_) (fun cdv A outer s H vs Q E hr h => ?_))
  · obtain ⟨p, a, ps, kind, dp, rfl, _⟩ := h
    rfl
  obtain ⟨p, a, ps, kind, dp, rfl, hP, h0, h1, hk, hz, ht, q0, q1⟩ := h
  refine ⟨_, (pss_cons (ps_if (pt_cmpR op_gt (pv 2) (pe_glob (v := .int (12)) (by rfl) m_DEEPEST ⟨_, rfl⟩) (nomark _)) (pss_one (ps_raise rfl (takes_of rfl rfl rfl rfl) (pmk_own PySem.F.excBase_ValueError X_BadText.x X_BadText.g X_BadText.k (raises_own X_BadText.s X_BadText.t) rfl))) pss_nil) (pss_cons (ps_set (i := 3) sc__read_form.nd rfl (.inl rfl) (pe_meth0 (pl := _) (pv 0) D_Pieces_take.cl D_Pieces_take.M D_Pieces_take.G hr D_Pieces_take.b .nil (passes_call (takes_of rfl rfl rfl rfl) (fun _ _ _ _ h => h)))) (pss_cons (ps_if (PW.pt (pw_and (pt_cmpR op_eq (pv 1) pe_str (nomark _)) (pw_and1 (pt_not (pt_val (pe_meth0 (pl := _) (pv 0) D_Pieces_open_next.cl D_Pieces_open_next.M D_Pieces_open_next.G hr D_Pieces_open_next.b .nil pass0)))))) (pss_one (ps_ret (pe_ifExp (pt_val (pe_call D_is_word.G hr (by rfl) D_is_word.g D_is_word.k D_is_word.b .nil pass0 (pa_cons (pv 3) pa_nil))) (pe_tup (pa_cons pe_str (pa_cons (pv 3) pa_nil))) (pe_tup (pa_cons pe_str (pa_cons (pe_call D__read_figures.G hr (by rfl) D__read_figures.g D__read_figures.k D__read_figures.b .nil (passes_call (takes_of rfl rfl rfl rfl) (fun _ _ _ _ h => h)) (pa_cons (pv 3) pa_nil)) pa_nil)))))) pss_nil) (pss_cons (ps_set (i := 4) sc__read_form.nd rfl (.inl rfl) (pe_call D_kinds_behind.G hr (by rfl) D_kinds_behind.g D_kinds_behind.k D_kinds_behind.b .nil pass0 (pa_cons (pv 3) (pa_cons (pv 1) pa_nil)))) (pss_cons (ps_if (PW.pt (pw_or (pt_cmpR op_isN (pv 4) pe_non (nomark _)) (pw_or1 (pt_cmpR op_in_seq (pv 3) (pe_tup (pa_cons pe_str (pa_cons pe_str pa_nil))) (by rfl))))) (pss_one (ps_raise rfl (takes_of rfl rfl rfl rfl) (pmk_ownA PySem.F.excBase_ValueError X_BadText.x X_BadText.g X_BadText.k (raises_own X_BadText.s X_BadText.t) rfl (pa_cons (pe_joined (.cons pe_str (.cons (pe_fmt (pv 1)) (.cons pe_str .nil)))) pa_nil)))) pss_nil) (pss_cons (ps_set (i := 5) sc__read_form.nd rfl (.inl rfl) (pe_lst pa_nil)) (pss_cons (ps_for (passes_of rfl) rfl (pi_enumT (by rfl) m_enumerate (pa_cons (pv 4) pa_nil)) (pg_tup rfl (pgs_cons (pg_name (i := 6) sc__read_form.nd rfl (.inl rfl)) (pgs_cons (pg_name (i := 7) sc__read_form.nd rfl (.inl rfl)) pgs_nil))) (pss_cons (ps_expr (pe_meth (pl := _) (pv 0) D_Pieces_pass_over.cl D_Pieces_pass_over.M D_Pieces_pass_over.G hr D_Pieces_pass_over.b .nil (passes_call (takes_of rfl rfl rfl rfl) (fun _ _ _ _ h => h)) (pa_cons (pe_ifExp (pt_cmpR op_gt (pv 6) pe_int (nomark _)) pe_str pe_str) pa_nil))) (pss_one (ps_expr (pe_bm PySem.F.plainAttrs_list PySem.F.slot_list_append PySem.F.type_list_append mt_append (pv 5) (pa_cons (pe_call D__read_part.G hr (by rfl) D__read_part.g D__read_part.k D__read_part.b .nil (passes_call (takes_of rfl rfl rfl rfl) (fun _ _ _ _ h => h)) (pa_cons (pv 0) (pa_cons (pv 7) (pa_cons (pe_op op_add (pv 2) pe_int) pa_nil)))) pa_nil)))))) (pss_cons (ps_if (pt_cmpR op_gt (pe_callB call_len_seq (by rfl) m_len (by decide +kernel) (pa_cons (pv 4) pa_nil)) pe_int (nomark _)) (pss_one (ps_expr (pe_meth (pl := _) (pv 0) D_Pieces_pass_over.cl D_Pieces_pass_over.M D_Pieces_pass_over.G hr D_Pieces_pass_over.b .nil (passes_call (takes_of rfl rfl rfl rfl) (fun _ _ _ _ h => h)) (pa_cons pe_str pa_nil)))) pss_nil) (pss_one (ps_ret (pe_tup (pa_cons (pv 3) (StX.pa_star (pv 5) pa_nil))))))))))))), ?_⟩
  walk_at "go"
  refine ifd (fun c => ?_) (fun c => ?_)
  · have e : n = 0 := by omega
    subst e
    exact q0 rfl _
  obtain ⟨m, rfl⟩ : ∃ m, n = m + 1 := ⟨n - 1, by omega⟩
  obtain ⟨dx, hp⟩ := hP.o
  walk_at "go"
  refine g_meth ?_
  refine ⟨_, rfl, p, dx, _, rfl, hp, rfl, ?_⟩
  walk_at "go"
  refine use_take hP (fun e => q0 (by rw [e]; rfl)) (fun w0 r e => ?_)
  subst e
  have hz0 := hz w0 List.mem_cons_self
  have hzr : ∀ q ∈ r, q.length ≤ 100000 := fun q hq => hz q (List.mem_cons_of_mem _ hq)
  have t1 : Tpa PT a H (upd H a (.lst (r.reverse.map V.str))) := Tpa.put ht hP.l fun _ z => by cases z
  have hP1 : PS C_Pieces (upd H a (.lst (r.reverse.map V.str))) p a r := hP.put
  have ht1 := t1.g
  generalize upd H a (.lst (r.reverse.map V.str)) = H1 at t1 hP1 ht1 ⊢
  walk_at "go"
  obtain ⟨dx1, hp1⟩ := hP1.o
  have df : Tk.rF (m + 1) kind (w0 :: r) = if kind = "number" ∧ r.head? ≠ some ("(" : Str) then (if isW' (.str w0) = true then some (.tuple [.str "read", .str w0], r) else (Tk.figs w0).map fun i => (.tuple [.str "num", .int i], r))
      else match kindsOf kind w0 with
        | none => none
        | some ks => if w0 = "num" ∨ w0 = "read" then none else match Tk.rPl (Tk.rP (Tk.rF m)) ks true r with
          | none => none
          | some (ds, r') => if ks = [] then some (.tuple (.str w0 :: ds), r') else match r' with
            | [] => none
            | c :: r2 => if c = ")" then some (.tuple (.str w0 :: ds), r2) else none := rfl
  rw [show m + 1 + 1 - 1 = m + 1 from rfl, df] at q0 q1
  refine and_cut (r.head? ≠ some ("(" : Str)) (fun c2 => ?_) (fun c2 back => ?_)
  · rw [if_neg c2] at q0 q1
    walk_at "go"
    refine use_kinds (fun e => ?_) (fun ks e aK sK => ?_)
    · rw [e] at q0
      walk_at "go"
      refine ifd (fun _ => iteT ?_) (fun c => absurd rfl c)
      exact fs3 (i := 1) rfl (by omega) (by decide) (by decide) fun z => ⟨by show 1 ≤ sizeLine; decide, q0 rfl _⟩
    rw [e] at q0 q1
    dsimp only at q0 q1
    walk_at "go"
    refine ifd (fun c => by cases c) (fun c => ?_)
    walk_at "go"
    refine ⟨by show 2 ≤ sizeLine; decide, fun p4 np4 => ?_⟩
    have s4 := same_new (o := .tup [.str "num", .str "read"]) np4
    refine ⟨p4, _, rfl, .inr (sqt upd_same), rfl, rfl, ?_⟩
    replace t1 := t1.trans (.same ht1 s4)
    replace hP1 := hP1.same s4
    replace ht1 := tab_same ht1 s4
    clear hp1
    obtain ⟨dx1, hp1⟩ := hP1.o
    generalize upd H1 p4 (.tup [.str "num", .str "read"]) = H2 at t1 hP1 ht1 hp1 ⊢
    rw [if_neg Bool.false_ne_true, inNR]
    refine ⟨_, rfl, ifd (fun c3 => ?_) (fun c3 => ?_)⟩
    · rw [if_pos c3] at q0
      exact fs3 (i := 1) rfl (by omega) (by decide) (by decide) fun z => ⟨by show 1 ≤ sizeLine; decide, q0 rfl _⟩
    rw [if_neg c3] at q0 q1
    have klen := (Tk.kinds_word e).2.2
    have kshort := kinds_short ks (kinds_mem e)
    walk_at "go"
    refine ⟨Nat.zero_le _, fun D nD => ?_⟩
    have s5 := same_new (o := .lst []) nD
    have hne : a ≠ D := fun z => by rw [← z, hP1.l] at nD; cases nD
    have tD : D ≠ PT := fun z => by
      obtain ⟨_, y, _⟩ := ht1
      rw [← z, nD] at y
      cases y
    have kin : ∀ {b o}, H2 b = some o → b ≠ D := fun h z => by rw [z, nD] at h; cases h
    have hD0 : (upd H2 D (.lst [])) D = some (.lst []) := upd_same
    replace hP1 := hP1.same s5
    have t5 : Tpa PT a H2 (upd H2 D (.lst [])) := .same ht1 s5
    walk_at "go"
    refine g_enumT ?_
    walk_at "go"
    refine ⟨aK, _, rfl, sK _, ?_⟩
    refine for_it walk_enumT (fun i σ H3 => ∃ (y6 y7 : Option V) (vs : List V) (ds : List PyData) (r' : List Str), σ = [some (.ref p), some (.str kind), some (.int dp), some (.str w0), some (.ref aK), some (.ref D), y6, y7] ∧ Tpa PT a H2 H3 ∧ PS C_Pieces H3 p a r' ∧ H3 D = some (.lst vs) ∧ DTs K H3 vs ds ∧ (∀ q ∈ r', q.length ≤ 100000) ∧ Tk.At (Tk.rP (Tk.rF m)) ks r i ds r')
      ⟨none, none, [], [], r, rfl, t5, hP1, hD0, .nil, hzr, Tk.At.zero⟩ (fun i σ H3 hi hW => sK _) (fun i x σ H3 H4 hi hW hy => ?_) (fun σ H3 hW => ?_)
    · obtain ⟨y6, y7, vs, ds, r', rfl, t3, hP3, hD3, hds, hz3, hat⟩ := hW
      obtain ⟨T, x0, y0, rfl, nT, rfl, hx0, hy0⟩ := hy
      cases hx0
      dsimp only at hy0
      rw [List.getElem?_map] at hy0
      obtain ⟨ki, hki, rfl⟩ := Option.map_eq_some_iff.mp hy0
      have hil : i < ks.length := (List.getElem?_eq_some_iff.mp hki).1
      have kshort := kshort ki (List.mem_of_getElem? hki)
      have s6 := same_new (o := .tup [.int (i : Nat), .str ki]) nT
      have sT : SqT K (upd H3 T (.tup [.int (i : Nat), .str ki])) T [.int (i : Nat), .str ki] := sqt upd_same
      replace hD3 := s6 _ _ hD3
      replace hP3 := hP3.same s6
      have ht3 := tab_same t3.g s6
      replace hds := DTs.tm (.of s6) hds
      replace t3 := t3.trans (.same t3.g s6)
      generalize upd H3 T (.tup [.int (i : Nat), .str ki]) = H4 at sT hD3 hP3 ht3 hds t3 ⊢
      refine g_gtup sT rfl ?_
      obtain ⟨dx3, hp3⟩ := hP3.o
      walk_at "go"
      refine g_meth ?_
      refine ⟨_, rfl, p, dx3, _, rfl, hp3, rfl, ?_⟩
      walk_at "go"
      refine ifsgn (fun s => tC (V.str s) _ _ _) ?_
      walk_at "go"
      refine use_pass hP3 (sgn_len _) (fun n => q0 (by rw [hat.bad hki n])) (fun r1 er => ?_)
      subst er
      have hp2 : H2 p = some (.ins C_Pieces dx1 [("_left", .ref a)]) := hp1
      have tm5 : TM K H4 (upd H4 a (.lst (r1.reverse.map V.str))) := (Tpa.put (PT := PT) ht3 hP3.l fun _ z => by cases z).tm ht3 hP3.l
      have t5 : Tpa PT a H2 (upd H4 a (.lst (r1.reverse.map V.str))) := t3.trans (Tpa.put ht3 hP3.l fun _ z => by cases z)
      have hP5 : PS C_Pieces (upd H4 a (.lst (r1.reverse.map V.str))) p a r1 := hP3.put
      have hD5 : (upd H4 a (.lst (r1.reverse.map V.str))) D = some (.lst vs) := by
        rw [upd_ne (Ne.symm hne)]
        exact hD3
      replace hds := DTs.tm tm5 hds
      generalize upd H4 a (.lst (r1.reverse.map V.str)) = H5 at t5 hP5 hD5 hds ⊢
      walk_at "go"
      refine ⟨.inl ⟨rfl, _, sql hD5⟩, ?_⟩
      walk_at "go"
      refine use_part (n := m + 1) (dp := dp + 1) hP5 (by omega) (by omega) kshort (fun q hq => hz3 q (List.mem_cons_of_mem _ hq)) t5.g (fun e => q0 (by rw [hat.none hki e])) (fun d r2 e v H6 t6 hP6 hv => ?_)
      have hD6 : H6 D = some (.lst vs) := t6.k D _ (Ne.symm hne) tD hD5
      have hz6 : ∀ q ∈ r2, q.length ≤ 100000 := fun q hq => hz3 q (List.mem_cons_of_mem _ (by
        have := Tk.rP_sound (Tk.rF_sound m) _ _ _ _ e
        rw [this]
        exact List.mem_append_right _ hq))
      have tm6 : TM K H5 H6 := t6.tm t5.g hP5.l
      have tm7 : TM K H6 (upd H6 D (.lst (vs ++ [v]))) := (Tpa.put (PT := PT) t6.g hD6 fun _ z => by cases z).tm t6.g hD6
      have hlen : vs.length = i := hds.len.trans hat.1
      walk_at "go"
      refine ⟨D, vs, v, rfl, rfl, hD6, ?_, _, _, vs ++ [v], ds ++ [d], r2, rfl, (t5.trans t6).at nD tD, hP6.at (kin hp2) hne, upd_same, (DTs.tm tm7 (DTs.tm tm6 hds)).app (.cons (DT.tm tm7 hv) .nil), hz6, hat.next hki e⟩
      rw [hlen]
      have : (16777216 : Nat) = sizeLine := by decide
      omega
    · obtain ⟨y6, y7, vs, ds, r', rfl, t3, hP3, hD3, hds, hz3, hat⟩ := hW
      rw [List.length_map] at hat
      have hdone := Tk.At.done hat
      rw [hdone] at q0 q1
      dsimp only at q0 q1
      walk_at "go"
      refine ⟨aK, _, rfl, .inr (sK _), ?_⟩
      walk_at "go"
      rw [List.length_map]
      refine ifd (fun c5 => ?_) (fun c5 => ?_)
      · have kne : ks ≠ [] := fun z => by rw [z] at c5; exact absurd c5 (by decide)
        rw [if_neg kne] at q0 q1
        obtain ⟨dx3, hp3⟩ := hP3.o
        walk_at "go"
        refine g_meth ?_
        refine ⟨_, rfl, p, dx3, _, rfl, hp3, rfl, ?_⟩
        walk_at "go"
        refine use_pass hP3 (by decide +kernel) (fun n => q0 ?_) (fun r1 er => ?_)
        · cases r' with
          | nil => rfl
          | cons c6 r6 => exact if_neg fun z => n r6 (by rw [z])
        subst er
        walk_at "go"
        refine g_star ?_
        walk_at "go"
        have hD4 : (upd H3 a (.lst (r1.reverse.map V.str))) D = some (.lst vs) := by
          rw [upd_ne (Ne.symm hne)]
          exact hD3
        refine ⟨_, rfl, D, _, rfl, .inr (sql hD4), ?_⟩
        walk_at "go"
        rw [List.append_nil]
        have hlen : vs.length = ks.length := hds.len.trans hat.1
        have t4 : Tpa PT a H3 (upd H3 a (.lst (r1.reverse.map V.str))) := Tpa.put t3.g hP3.l fun _ z => by cases z
        have tm4 : TM K H3 (upd H3 a (.lst (r1.reverse.map V.str))) := t4.tm t3.g hP3.l
        have hP4 : PS C_Pieces (upd H3 a (.lst (r1.reverse.map V.str))) p a r1 := hP3.put
        refine ⟨by rw [List.length_cons, hlen]; have : (16777216 : Nat) = sizeLine := by decide
                   omega, fun p8 np8 => ?_⟩
        have s8 := same_new (o := .tup (.str w0 :: vs)) np8
        exact q1 _ _ (if_pos rfl) _ _ ((t1.trans (t3.trans t4)).trans (.same t4.g s8)) (hP4.same s8) (.tup (sqt upd_same) (.cons (.str _) (DTs.tm (.of s8) (DTs.tm tm4 hds))))
      · have kne : ks = [] := List.length_eq_zero_iff.mp (by omega)
        rw [if_pos kne] at q0 q1
        walk_at "go"
        refine g_star ?_
        walk_at "go"
        refine ⟨_, rfl, D, _, rfl, .inr (sql hD3), ?_⟩
        walk_at "go"
        rw [List.append_nil]
        have hlen : vs.length = ks.length := hds.len.trans hat.1
        refine ⟨by rw [List.length_cons, hlen]; have : (16777216 : Nat) = sizeLine := by decide
                   omega, fun p8 np8 => ?_⟩
        have s8 := same_new (o := .tup (.str w0 :: vs)) np8
        exact q1 _ _ rfl _ _ ((t1.trans t3).trans (.same t3.g s8)) (hP3.same s8) (.tup (sqt upd_same) (.cons (.str _) (DTs.tm (.of s8) hds)))
  · walk_at "go"
    refine g_meth ?_
    refine ⟨_, rfl, p, dx1, _, rfl, hp1, rfl, ?_⟩
    walk_at "go"
    refine use_open hP1 ?_
    refine ⟨_, rfl, ?_⟩
    refine ifdn (fun c3 => ?_) (fun c3 => ?_)
    · exact back (fun y => y c3)
    clear back
    rw [if_pos ⟨c2, c3⟩] at q0 q1
    walk_at "go"
    refine use_isWord (d := .str w0) (.str w0) (decide_eq_true hz0) ht1 (fun H' tb => ?_)
    have hP5 := Tpa.ps tb ht1 hP1
    refine ⟨_, rfl, ifb (fun c4 => ?_) (fun c4 => ?_)⟩
    · rw [if_pos c4] at q1
      walk_at "go"
      refine ⟨by show 2 ≤ sizeLine; decide, fun p5 np5 => ?_⟩
      have s5 := same_new (o := .tup [.str "read", .str w0]) np5
      exact q1 _ _ rfl _ _ ((t1.trans (.of tb)).trans (.same tb.g s5)) (hP5.same s5) (.tup (sqt upd_same) (.cons (.str _) (.cons (.str _) .nil)))
    · rw [if_neg (by rw [c4]; exact Bool.false_ne_true)] at q0 q1
      walk_at "go"
      refine use_figs hz0 (fun e => q0 (by rw [e]; rfl)) (fun i e H6 s6 => ?_)
      walk_at "go"
      refine ⟨by show 2 ≤ sizeLine; decide, fun p5 np5 => ?_⟩
      have s5 := s6.trans (same_new (o := .tup [.str "num", .int i]) np5)
      exact q1 _ _ (by rw [e]; rfl) _ _ ((t1.trans (.of tb)).trans (.same tb.g s5)) (hP5.same s5) (.tup (sqt upd_same) (.cons (.str _) (.cons (.int _) .nil)))
end

/-! ### what a text tells -/
theorem rPl_sz {f : Tk.RF} (hs : Tk.Sound f) (hf : ∀ k ps d r, f k ps = some (d, r) → (∀ q ∈ ps, q.length ≤ 100000) → szOk d = true) : ∀ (ks : List Str) (b : Bool) (ps : List Str) (ds : List PyData) (r : List Str), Tk.rPl f ks b ps = some (ds, r) →
    (∀ q ∈ ps, q.length ≤ 100000) → szAll ds = true
  | [], b, ps, ds, r, h, _ => by
    cases h
    rfl
  | k :: ks, b, [], ds, r, h, _ => by cases h
  | k :: ks, b, c :: r1, ds, r, h, z => by
    have h : (if c = (if b = true then ("(" : Str) else ",") then match f k r1 with
      | none => none
      | some (d, r2) => (Tk.rPl f ks false r2).map fun p => (d :: p.1, p.2)
      else none) = some (ds, r) := h
    by_cases ec : c = (if b = true then ("(" : Str) else ",")
    · rw [if_pos ec] at h
      split at h
      · cases h
      · rename_i d r2 e
        obtain ⟨⟨ds', r'⟩, e2, e3⟩ := Option.map_eq_some_iff.mp h
        cases e3
        have z1 : ∀ q ∈ r1, q.length ≤ 100000 := fun q hq => z q (List.mem_cons_of_mem _ hq)
        have s := hs _ _ _ _ e
        have z2 : ∀ q ∈ r2, q.length ≤ 100000 := fun q hq => z1 q (by rw [s]; exact List.mem_append_right _ hq)
        show (szOk d && szAll ds') = true
        rw [hf _ _ _ _ e z1, rPl_sz hs hf ks false r2 ds' _ e2 z2]
        rfl
    · rw [if_neg ec] at h
      cases h
theorem rP_sz {f : Tk.RF} (hf : ∀ k ps d r, f k ps = some (d, r) → (∀ q ∈ ps, q.length ≤ 100000) → szOk d = true) : ∀ k ps d r, Tk.rP f k ps = some (d, r) → (∀ q ∈ ps, q.length ≤ 100000) → szOk d = true := fun k ps d r h z => by
  unfold Tk.rP at h
  split at h
  · exact hf _ _ _ _ h z
  · cases ps with
    | nil => cases h
    | cons w r1 =>
      dsimp only at h
      split at h
      · obtain ⟨i, e, e2⟩ := Option.map_eq_some_iff.mp h
        cases e2
        rfl
      · cases h
        exact decide_eq_true (z w List.mem_cons_self)
theorem rF_sz : ∀ n k ps d r, Tk.rF n k ps = some (d, r) → (∀ q ∈ ps, q.length ≤ 100000) → szOk d = true
  | 0, k, ps, d, r, h, _ => by cases h
  | n + 1, kind, ps, d, r, h, z => by
    cases ps with
    | nil => cases h
    | cons w r1 =>
      have zw : szOk (.str w) = true := decide_eq_true (z w List.mem_cons_self)
      have z1 : ∀ q ∈ r1, q.length ≤ 100000 := fun q hq => z q (List.mem_cons_of_mem _ hq)
      have go : ∀ ds : List PyData, szAll ds = true → szOk (.tuple (.str w :: ds)) = true := fun ds e => by
        show (szOk (.str w) && szAll ds) = true
        rw [zw, e]
        rfl
      unfold Tk.rF at h
      dsimp only at h
      split at h
      · split at h
        · cases h
          show (szOk (.str "read") && (szOk (.str w) && true)) = true
          rw [zw]
          decide +kernel
        · obtain ⟨i, e, e2⟩ := Option.map_eq_some_iff.mp h
          cases e2
          show (szOk (.str "num") && (true && true)) = true
          decide +kernel
      · split at h
        · cases h
        · split at h
          · cases h
          · split at h
            · cases h
            · rename_i ds r' e
              have hs := rPl_sz (Tk.rP_sound (Tk.rF_sound n)) (rP_sz (rF_sz n)) _ _ _ _ _ e z1
              split at h
              · cases h
                exact go _ hs
              · split at h
                · cases h
                · split at h
                  · cases h
                    exact go _ hs
                  · cases h
def spRead (K : PySem.W.Frag) (X PT : Addr) : Sp := fun vs H Q E => ∃ t : Str, vs = [.str t] ∧ t.length ≤ 99999 ∧ GxR.TabG H PT ∧
  (Tk.rd t = none → ∀ H', E (.ref X) none H') ∧ (∀ d, Tk.rd t = some d → ∀ v H', Tb PT H H' → DT K H' v d → Q v H')
theorem use_read {K : PySem.W.Frag} {X PT : Addr} {t : Str} {H : Hp} {Q : VK} {E : XK} (hl : t.length ≤ 99999) (ht : GxR.TabG H PT) (q0 : Tk.rd t = none → ∀ H', E (.ref X) none H') (q1 : ∀ d, Tk.rd t = some d → ∀ v H', Tb PT H H' → DT K H' v d → Q v H') :
    spRead K X PT ([.str t] ++ []) H Q E := ⟨t, rfl, hl, ht, q0, q1⟩
section
variable {P : Program} {w : World} {K : PySem.W.Frag} {mg : Str → Option Value} {base : Heap}
abbrev s_read : Stmt := topS 28
theorem sc_read : FnScope ["text", "pieces", "contract", "error"] ["text"] (defScope s_read) := ⟨rfl, rfl, rfl, by decide +kernel, rfl, by decide +kernel, by decide +kernel⟩
theorem h_read {PT : Addr} {k : Nat} {f : Addr} {fd : FuncData} (O : Own K mg "read" s_read ["text"] f fd) {C_BadContract : Addr} (X_BadContract : ExcT K mg "BadContract" C_BadContract) {C_BadText : Addr} (X_BadText : ExcT K mg "BadText" C_BadText) (S_BadContract : PySem.W.findIn K (.ref C_BadContract) "__str__" = some (some (.builtin "BaseException.__str__"))) (Y_BadContract : PySem.W.exmOne K (.ref C_BadContract) (.ref C_BadContract) = some true) {C_Pieces : Addr} (cl_Pieces : Cls K C_Pieces) {f_need_contract : Addr} {fd_need_contract : FuncData} (D_need_contract : Has P w K mg base "need_contract" ["contract"] k (BkX.CX P w) (spNeed K C_BadContract PT) f_need_contract fd_need_contract) {f_Pieces_are_over : Addr} {fd_Pieces_are_over : FuncData} (D_Pieces_are_over : HasMeth P w K mg base C_Pieces "are_over" ["self"] k CX0 (spOver C_Pieces) f_Pieces_are_over fd_Pieces_are_over) {f__read_form : Addr} {fd__read_form : FuncData} (D__read_form : Has P w K mg base "_read_form" ["pieces", "kind", "depth"] k (L2.CX P w) (spRF K C_BadText C_Pieces PT 13) f__read_form fd__read_form) {f_Pieces : Addr} {fd_Pieces : FuncData} (D_Pieces : HasM P w K mg base "Pieces" ["self", "text"] k (L2.CX P w) (spMkP K C_BadText C_Pieces) C_Pieces f_Pieces fd_Pieces) (m_str : mg "str" = none) (m_len : mg "len" = none) {t_LONGEST_TEXT : Tok} (m_LONGEST_TEXT : mg "LONGEST_TEXT" = some (.int 4000 t_LONGEST_TEXT)) : Has P w K mg base "read" ["text"] (k + 1) (L2.CX P w) (spRead K C_BadText PT) f fd := by
  refine O.has (O.F.okX sc_read (fun vs H Q E h => ?_) (fun cdv A outer s H vs Q E hr h => ?_))
  · obtain ⟨t, rfl, _⟩ := h
    rfl
  obtain ⟨t, rfl, hl, ht, q0, q1⟩ := h
  refine ⟨_, (pss_cons (ps_if (pt_cmpR op_gt (pe_callB call_len_str (by rfl) m_len (by decide +kernel) (pa_cons (pv 0) pa_nil)) (pe_glob (v := .int (4000)) (by rfl) m_LONGEST_TEXT ⟨_, rfl⟩) (nomark _)) (pss_one (ps_raise rfl (takes_of rfl rfl rfl rfl) (pmk_own PySem.F.excBase_ValueError X_BadText.x X_BadText.g X_BadText.k (raises_own X_BadText.s X_BadText.t) rfl))) pss_nil) (pss_cons (ps_set (i := 1) sc_read.nd rfl (.inl rfl) (pe_new D_Pieces hr (by rfl) (fun σ => passAt (takes_of rfl rfl rfl rfl) σ) (pa_cons (pv 0) pa_nil))) (pss_cons (ps_set (i := 2) sc_read.nd rfl (.inl rfl) (pe_call D__read_form.G hr (by rfl) D__read_form.g D__read_form.k D__read_form.b .nil (passes_call (takes_of rfl rfl rfl rfl) (fun _ _ _ _ h => h)) (pa_cons (pv 1) (pa_cons pe_str (pa_cons pe_int pa_nil))))) (pss_cons (ps_if (pt_not (pt_val (pe_meth0 (pl := _) (pv 1) D_Pieces_are_over.cl D_Pieces_are_over.M D_Pieces_are_over.G hr D_Pieces_are_over.b .nil pass0))) (pss_one (ps_raise rfl (takes_of rfl rfl rfl rfl) (pmk_own PySem.F.excBase_ValueError X_BadText.x X_BadText.g X_BadText.k (raises_own X_BadText.s X_BadText.t) rfl))) pss_nil) (pss_cons (BkX.ps_try_asX (i := 3) rfl rfl sc_read.nd rfl rfl ⟨rfl, by decide, .inl X_BadContract.g⟩ (L2H.passesAt_of rfl) (takes_of rfl rfl rfl rfl) (fun _ _ _ _ _ h => h) (fun W pn xe tk _ => (pss_one (ps_expr (pe_callS D_need_contract.G hr (by rfl) D_need_contract.g D_need_contract.k D_need_contract.b (fun σ => BkX.passAt tk σ) (pa_cons (pv 2) pa_nil))))) (fun a T oe oT cls d pn xe m tkT vs nT hz hd h0 cT dT tks hot => (pss_one (L2H.ps_raiseHN hot tks (BkX.pmk5_ownA PySem.F.excBase_ValueError X_BadText.x X_BadText.g X_BadText.k (raises_own X_BadText.s X_BadText.t) rfl (pa_cons (pe_callTy (BkX.call_strE hr.units hz hd h0 cT dT S_BadContract X_BadContract.s) (by rfl) m_str (by decide +kernel) (pa_cons (pv 3) pa_nil)) pa_nil)))))) (pss_one (ps_ret (pv 2)))))))), ?_⟩
  unfold Tk.rd at q0 q1
  walk_at "go"
  have z24 : (16777216 : Nat) = sizeLine := by decide
  refine ⟨by omega, ?_⟩
  walk_at "go"
  refine ifd (fun c => ?_) (fun c => ?_)
  · have c' : 4000 < t.length := by omega
    rw [if_pos c'] at q0
    exact q0 rfl _
  have c' : ¬ 4000 < t.length := by omega
  rw [if_neg c'] at q0 q1
  walk_at "go"
  refine g_callS ?_
  walk_at "go"
  refine use_mkp (t := t) (by omega) (fun eb p a H1 s1 np na hP => ?_) (fun eb => ?_)
  · have eb' : (Txt.startswith t " " || Txt.endswith t " ") = false := eb
    rw [eb', if_neg Bool.false_ne_true] at q0 q1
    have ht1 := tab_same ht s1
    walk_at "go"
    refine use_rf (n := 13) hP (by decide) (by decide) (by decide +kernel) (fun q hq => by have := Tk.pcs_len hq; omega) ht1 (fun e => q0 ?_) (fun d r e v H2 t2 hP2 hv => ?_)
    · have e : Tk.rF 12 "contract" (Tk.pcs t) = none := e
      rw [e]
    have e : Tk.rF 12 "contract" (Tk.pcs t) = some (d, r) := e
    rw [e] at q0 q1
    have zd : szOk d = true := rF_sz _ _ _ _ _ e fun q hq => by have := Tk.pcs_len hq; omega
    have tH : Tb PT H H2 := ⟨t2.g, fun b o m h => t2.k b o (fun z => by rw [z, na] at h; cases h) m (s1 b o h)⟩
    obtain ⟨dx2, hp2⟩ := hP2.o
    walk_at "go"
    refine g_meth ?_
    refine ⟨_, rfl, p, dx2, _, rfl, hp2, rfl, ?_⟩
    walk_at "go"
    refine use_over hP2 ?_
    refine ⟨_, rfl, ?_⟩
    have rc : r = [] ∨ r ≠ [] := by cases r with
      | nil => exact .inl rfl
      | cons x y => exact .inr (by simp)
    rcases rc with rc | rc
    · subst rc
      dsimp only at q0 q1
      rw [decide_eq_true rfl]
      refine iteF ?_
      walk_at "go"
      refine g_callS ?_
      walk_at "go"
      refine use_need hv.dp zd t2.g (fun hw H3 t3 => ?_) (fun hw H3 t3 => ?_)
      · rw [if_pos hw] at q1
        walk_at "go"
        exact q1 d rfl v H3 (tH.trans t3) (DT.tm (t3.dm t2.g).t hv)
      · rw [if_neg (by rw [hw]; exact Bool.false_ne_true)] at q0
        refine ⟨Y_BadContract, fun a9 na9 => ?_⟩
        walk_at "go"
        intro m
        exact ⟨⟨m, rfl⟩, q0 rfl H3⟩
    · rw [decide_eq_false rc]
      refine iteT ?_
      have : (match some (d, r) with
        | some (d, []) => if wf 12 "contract" d = true then some d else none
        | _ => none) = (none : Option PyData) := by
        cases r with
        | nil => exact absurd rfl rc
        | cons x y => rfl
      exact q0 this _
  · have eb' : (Txt.startswith t " " || Txt.endswith t " ") = true := eb
    rw [eb', if_pos rfl] at q0
    exact q0 rfl
end

/-! ### what is drawn is told -/
theorem word100 {x : Str} (h : isW x = true) : x.length ≤ 8 := by
  unfold isW at h
  rw [Bool.and_eq_true, Bool.and_eq_true] at h
  exact of_decide_eq_true h.2.1
theorem op_nr (o : Op) : ¬ (o.word = "num" ∨ o.word = "read") := by cases o <;> decide +kernel
theorem op_len (o : Op) : o.word.length ≤ 5 := by cases o <;> decide +kernel
theorem txT_nr {w : Str} {t : Str} (h : w = "num" ∨ w = "read") : txT w [t] = t := by unfold txT; rw [if_pos h]; rfl
theorem join_eq (s : Str) {ts : List Str} (h : ts ≠ []) : (Txt.join s ts).length + s.length = (ts.map (·.length)).sum + ts.length * s.length := by
  show (Builtin.Str.glued s ts).length + _ = _
  rw [StrLaws.glued_eq_join]
  rcases sum_join s ts with e | e
  · exact e
  · exact absurd e h
theorem txT_len {w : Str} {ts : List Str} (h : ¬ (w = "num" ∨ w = "read")) : (txT w ts).length ≤ w.length + (ts.map (·.length)).sum + ts.length * 2 := by
  unfold txT
  rw [if_neg h]
  split
  · omega
  · rename_i ne
    have l1 : ("(" : Str).length = 1 := by decide +kernel
    have l2 : (", " : Str).length = 2 := by decide +kernel
    have l3 : (")" : Str).length = 1 := by decide +kernel
    have := join_eq ", " ne
    rw [str_app_len, str_app_len, str_app_len]
    rw [l2] at this
    omega
theorem isx_len12 {i : Int} (h : i.natAbs < 10 ^ 12) : (isx i).length ≤ 13 := by
  have := int_text_length_le10 (k := 12) (by decide) h
  show (Str.ofString (toString i)).length ≤ 13
  rw [PySem.ofString_length]
  exact this
theorem tok_str {n : Nat} {x : Str} (h : x.length ≤ 100) : tOk (n + 1) (.str x) := h
theorem tok_int {n : Nat} {i : Int} (h : i.natAbs < 10 ^ 13) : tOk (n + 1) (.int i) := h
theorem tok_tup {n : Nat} {w : Str} {ds : List PyData} (h1 : w.length ≤ 100) (h2 : ds.length ≤ 5) (h3 : ∀ d ∈ ds, tOk n d ∧ (tx d).length ≤ 1000000) (h4 : ¬ (w = "num" ∨ w = "read")) : tOk (n + 1) (.tuple (.str w :: ds)) := ⟨h1, h2, h3, fun z => absurd z h4⟩
def Bn : Nat → Nat
  | 0 => 13
  | m + 1 => 2 * Bn m + 9
def Bc : Nat → Nat
  | 0 => 79
  | m + 1 => 2 * Bc m + 7
abbrev Bk := Bd
theorem txs1 {a : PyData} : txs [a] = [tx a] := rfl
theorem txs2 {a b : PyData} : txs [a, b] = [tx a, tx b] := rfl
theorem txs3 {a b c : PyData} : txs [a, b, c] = [tx a, tx b, tx c] := rfl
theorem txs4 {a b c d : PyData} : txs [a, b, c, d] = [tx a, tx b, tx c, tx d] := rfl
/-- a word and its parts -/
theorem tok_of {n l c : Nat} {w : Str} {ds : List PyData} (h1 : w.length ≤ c) (hc : c ≤ 6) (h4 : ¬ (w = "num" ∨ w = "read")) (h2 : ds.length ≤ 5) (h3 : ∀ d ∈ ds, tOk n d ∧ (tx d).length ≤ 100000)
    (hl : c + ((txs ds).map (·.length)).sum + ds.length * 2 ≤ l) : tOk (n + 1) (.tuple (.str w :: ds)) ∧ (tx (.tuple (.str w :: ds))).length ≤ l := by
  refine ⟨tok_tup (by omega) h2 (fun d hd => ⟨(h3 d hd).1, Nat.le_trans (h3 d hd).2 (by decide)⟩) h4, ?_⟩
  rw [tx_tup]
  have := txT_len (ts := txs ds) h4
  rw [txs_len] at this
  omega
theorem Bn_ge : ∀ m : Nat, 13 ≤ Bn m
  | 0 => Nat.le_refl _
  | m + 1 => by
    have := Bn_ge m
    show 13 ≤ 2 * Bn m + 9
    omega
theorem tok_n {xs : List Str} (hx : ∀ x ∈ xs, isW x = true) : ∀ {t : Num} {n m : Nat}, t.In xs → t.deep ≤ m → m ≤ 5 → m + 2 ≤ n → tOk n (nD t) ∧ (tx (nD t)).length ≤ Bn m
  | .num i, n + 1, m, h, _, _, hn => by
    have h : -1000000000000 < i ∧ i < 1000000000000 := h
    obtain ⟨k, rfl⟩ : ∃ k, n = k + 1 := ⟨n - 1, by omega⟩
    have a : i.natAbs < 10 ^ 13 := by omega
    have e : tx (nD (.num i)) = isx i := txT_nr (.inl rfl)
    have l := isx_len12 (i := i) (by omega)
    have b := Bn_ge m
    refine ⟨⟨by decide +kernel, Nat.le_of_ble_eq_true rfl, fun d hd => ?_, fun _ => ⟨_, rfl, rfl⟩⟩, by rw [e]; omega⟩
    rw [List.mem_singleton.mp hd]
    exact ⟨tok_int a, by show (isx i).length ≤ _; omega⟩
  | .read x, n + 1, m, h, _, _, hn => by
    obtain ⟨k, rfl⟩ : ∃ k, n = k + 1 := ⟨n - 1, by omega⟩
    have l := word100 (hx x h)
    have e : tx (nD (.read x)) = x := txT_nr (.inr rfl)
    have b := Bn_ge m
    refine ⟨⟨by decide +kernel, Nat.le_of_ble_eq_true rfl, fun d hd => ?_, fun _ => ⟨_, rfl, rfl⟩⟩, by rw [e]; omega⟩
    rw [List.mem_singleton.mp hd]
    exact ⟨tok_str (by omega), by show x.length ≤ _; omega⟩
  | .bin o a b, n + 1, m, h, hd, hm, hn => by
    have hd : max a.deep b.deep + 1 ≤ m := hd
    obtain ⟨m, rfl⟩ : ∃ k, m = k + 1 := ⟨m - 1, by omega⟩
    obtain ⟨a1, a2⟩ := tok_n hx (n := n) (m := m) h.1 (by omega) (by omega) (by omega)
    obtain ⟨b1, b2⟩ := tok_n hx (n := n) (m := m) h.2 (by omega) (by omega) (by omega)
    have lo := op_len o
    have no : ¬ (o.word = "num" ∨ o.word = "read") := op_nr o
    have big : Bn m ≤ 1000 := by
      have : m = 0 ∨ m = 1 ∨ m = 2 ∨ m = 3 ∨ m = 4 := by omega
      rcases this with rfl | rfl | rfl | rfl | rfl <;> decide
    refine tok_of (c := 5) (n := n) (l := 2 * Bn m + 9) (by omega) (by decide) no (Nat.le_of_ble_eq_true rfl) (fun d hd => ?_) (by rw [txs2]; simp only [List.map_cons, List.map_nil, List.sum_cons, List.sum_nil, List.length_cons, List.length_nil]; omega)
    simp only [List.mem_cons, List.not_mem_nil, or_false] at hd
    rcases hd with rfl | rfl
    · exact ⟨a1, by omega⟩
    · exact ⟨b1, by omega⟩
theorem tok_c {xs : List Str} (hx : ∀ x ∈ xs, isW x = true) : ∀ {t : Cond} {n m : Nat}, t.In xs 1 → t.deep ≤ m → m ≤ 3 → m + 4 ≤ n → tOk n (cD t) ∧ (tx (cD t)).length ≤ Bc m
  | .lt a b, n + 1, m, h, hd, hm, hn => by
    obtain ⟨a1, a2⟩ := tok_n hx (n := n) (m := 1) h.1.1 h.1.2 (by decide) (by omega)
    obtain ⟨b1, b2⟩ := tok_n hx (n := n) (m := 1) h.2.1 h.2.2 (by decide) (by omega)
    have e : Bn 1 = 35 := rfl
    have b : 79 ≤ Bc m := by
      have : m = 0 ∨ m = 1 ∨ m = 2 ∨ m = 3 := by omega
      rcases this with rfl | rfl | rfl | rfl <;> decide
    refine tok_of (c := 5) (n := n) (l := Bc m) (by decide +kernel) (by decide) (by decide +kernel) (Nat.le_of_ble_eq_true rfl) (fun d hd => ?_) (by rw [txs2]; simp only [List.map_cons, List.map_nil, List.sum_cons, List.sum_nil, List.length_cons, List.length_nil]; omega)
    simp only [List.mem_cons, List.not_mem_nil, or_false] at hd
    rcases hd with rfl | rfl
    · exact ⟨a1, by omega⟩
    · exact ⟨b1, by omega⟩
  | .neg a, n + 1, m, h, hd, hm, hn => by
    have hd : a.deep + 1 ≤ m := hd
    obtain ⟨m, rfl⟩ : ∃ k, m = k + 1 := ⟨m - 1, by omega⟩
    obtain ⟨a1, a2⟩ := tok_c hx (t := a) (n := n) (m := m) h (by omega) (by omega) (by omega)
    have big : Bc m ≤ 1000 := by
      have : m = 0 ∨ m = 1 ∨ m = 2 := by omega
      rcases this with rfl | rfl | rfl <;> decide
    refine tok_of (c := 3) (n := n) (l := 2 * Bc m + 7) (by decide +kernel) (by decide) (by decide +kernel) (Nat.le_of_ble_eq_true rfl) (fun d hd => ?_) (by rw [txs1]; simp only [List.map_cons, List.map_nil, List.sum_cons, List.sum_nil, List.length_cons, List.length_nil]; omega)
    rw [List.mem_singleton.mp hd]
    exact ⟨a1, by omega⟩
  | .con a b, n + 1, m, h, hd, hm, hn => by
    have hd : max a.deep b.deep + 1 ≤ m := hd
    obtain ⟨m, rfl⟩ : ∃ k, m = k + 1 := ⟨m - 1, by omega⟩
    obtain ⟨a1, a2⟩ := tok_c hx (n := n) (m := m) h.1 (by omega) (by omega) (by omega)
    obtain ⟨b1, b2⟩ := tok_c hx (n := n) (m := m) h.2 (by omega) (by omega) (by omega)
    have big : Bc m ≤ 1000 := by
      have : m = 0 ∨ m = 1 ∨ m = 2 := by omega
      rcases this with rfl | rfl | rfl <;> decide
    refine tok_of (c := 3) (n := n) (l := 2 * Bc m + 7) (by decide +kernel) (by decide) (by decide +kernel) (Nat.le_of_ble_eq_true rfl) (fun d hd => ?_) (by rw [txs2]; simp only [List.map_cons, List.map_nil, List.sum_cons, List.sum_nil, List.length_cons, List.length_nil]; omega)
    simp only [List.mem_cons, List.not_mem_nil, or_false] at hd
    rcases hd with rfl | rfl
    · exact ⟨a1, by omega⟩
    · exact ⟨b1, by omega⟩
  | .dis a b, n + 1, m, h, hd, hm, hn => by
    have hd : max a.deep b.deep + 1 ≤ m := hd
    obtain ⟨m, rfl⟩ : ∃ k, m = k + 1 := ⟨m - 1, by omega⟩
    obtain ⟨a1, a2⟩ := tok_c hx (n := n) (m := m) h.1 (by omega) (by omega) (by omega)
    obtain ⟨b1, b2⟩ := tok_c hx (n := n) (m := m) h.2 (by omega) (by omega) (by omega)
    have big : Bc m ≤ 1000 := by
      have : m = 0 ∨ m = 1 ∨ m = 2 := by omega
      rcases this with rfl | rfl | rfl <;> decide
    refine tok_of (c := 3) (n := n) (l := 2 * Bc m + 7) (by decide +kernel) (by decide) (by decide +kernel) (Nat.le_of_ble_eq_true rfl) (fun d hd => ?_) (by rw [txs2]; simp only [List.map_cons, List.map_nil, List.sum_cons, List.sum_nil, List.length_cons, List.length_nil]; omega)
    simp only [List.mem_cons, List.not_mem_nil, or_false] at hd
    rcases hd with rfl | rfl
    · exact ⟨a1, by omega⟩
    · exact ⟨b1, by omega⟩
theorem Bk_big {m : Nat} (h : m ≤ 6) : 115 ≤ Bk m ∧ Bk m ≤ 50000 := by
  have : m = 0 ∨ m = 1 ∨ m = 2 ∨ m = 3 ∨ m = 4 ∨ m = 5 ∨ m = 6 := by omega
  rcases this with rfl | rfl | rfl | rfl | rfl | rfl | rfl <;> decide
theorem tok_w {n : Nat} {a : Str} (h : isW a = true) : tOk (n + 1) (.str a) ∧ (tx (.str a)).length ≤ 100000 := by
  have := word100 h
  exact ⟨tok_str (by omega), by show a.length ≤ _; omega⟩
theorem tok_i {n : Nat} {i : Int} (h : i.natAbs < 1000) : tOk (n + 1) (.int i) ∧ (tx (.int i)).length ≤ 100000 := by
  have a : i.natAbs < 10 ^ 13 := by omega
  have := isx_len a
  exact ⟨tok_int a, by show (isx i).length ≤ _; omega⟩
theorem tok_k {xs : List Str} (hx : ∀ x ∈ xs, isW x = true) : ∀ {t : Con} {n m : Nat}, t.In xs → t.deep ≤ m → m ≤ 6 → m + 7 ≤ n → tOk n (kD t) ∧ (tx (kD t)).length ≤ t.bd
  | .none, n + 1, m, h, hd, hm, hn => by
    have b := Bk_big hm
    exact tok_of (c := 4) (n := n) (l := 115) (by decide +kernel) (by decide) (by decide +kernel) (Nat.le_of_ble_eq_true rfl) (fun d hd => by simp at hd) (by show 4 + 0 + 0 * 2 ≤ _; omega)
  | .give a b g o, n + 1, m, ⟨⟨⟨ha, hb, hg⟩, hne⟩, ho, hod⟩, hd, hm, hn => by
    obtain ⟨n, rfl⟩ : ∃ k, n = k + 1 := ⟨n - 1, by omega⟩
    obtain ⟨o1, o2⟩ := tok_n hx (n := n + 1) (m := 2) ho hod (by decide) (by omega)
    have e : Bn 2 = 79 := rfl
    have bb := Bk_big hm
    have la := word100 ha
    have lb := word100 hb
    have lg := word100 hg
    have ea : tx (.str a) = a := rfl
    have eb : tx (.str b) = b := rfl
    have eg : tx (.str g) = g := rfl
    refine tok_of (c := 4) (n := n + 1) (l := 115) (by decide +kernel) (by decide) (by decide +kernel) (Nat.le_of_ble_eq_true rfl) (fun d hd => ?_) (by rw [txs4, ea, eb, eg]; simp only [List.map_cons, List.map_nil, List.sum_cons, List.sum_nil, List.length_cons, List.length_nil]; omega)
    simp only [List.mem_cons, List.not_mem_nil, or_false] at hd
    rcases hd with rfl | rfl | rfl | rfl
    · exact tok_w ha
    · exact tok_w hb
    · exact tok_w hg
    · exact ⟨o1, by omega⟩
  | .both c d, n + 1, m, h, hd, hm, hn => by
    have hd : max c.deep d.deep + 1 ≤ m := hd
    obtain ⟨m, rfl⟩ : ∃ k, m = k + 1 := ⟨m - 1, by omega⟩
    obtain ⟨a1, a2⟩ := tok_k hx (n := n) (m := m) h.1 (by omega) (by omega) (by omega)
    obtain ⟨b1, b2⟩ := tok_k hx (n := n) (m := m) h.2 (by omega) (by omega) (by omega)
    have bb := Bk_big (m := m) (by omega)
    have bc := bd_of c m (by omega)
    have bd' := bd_of d m (by omega)
    have eb : Bk m = Bd m := rfl
    refine tok_of (c := 4) (n := n) (l := 345 + c.bd + d.bd) (by decide +kernel) (by decide) (by decide +kernel) (Nat.le_of_ble_eq_true rfl) (fun d hd => ?_) (by rw [txs2]; simp only [List.map_cons, List.map_nil, List.sum_cons, List.sum_nil, List.length_cons, List.length_nil]; omega)
    simp only [List.mem_cons, List.not_mem_nil, or_false] at hd
    rcases hd with rfl | rfl
    · exact ⟨a1, by omega⟩
    · exact ⟨b1, by omega⟩
  | .turned a b c, n + 1, m, ⟨⟨⟨ha, hb⟩, hne⟩, hc⟩, hd, hm, hn => by
    have hd : c.deep + 1 ≤ m := hd
    obtain ⟨m, rfl⟩ : ∃ k, m = k + 1 := ⟨m - 1, by omega⟩
    obtain ⟨n, rfl⟩ : ∃ k, n = k + 1 := ⟨n - 1, by omega⟩
    obtain ⟨a1, a2⟩ := tok_k hx (n := n + 1) (m := m) hc (by omega) (by omega) (by omega)
    have bb := Bk_big (m := m) (by omega)
    have bc := bd_of c m (by omega)
    have eb : Bk m = Bd m := rfl
    have la := word100 ha
    have lb := word100 hb
    have ea : tx (.str a) = a := rfl
    have eb : tx (.str b) = b := rfl
    refine tok_of (c := 6) (n := n + 1) (l := 346 + c.bd) (by decide +kernel) (by decide) (by decide +kernel) (Nat.le_of_ble_eq_true rfl) (fun d hd => ?_) (by rw [txs3, ea, eb]; simp only [List.map_cons, List.map_nil, List.sum_cons, List.sum_nil, List.length_cons, List.length_nil]; omega)
    simp only [List.mem_cons, List.not_mem_nil, or_false] at hd
    rcases hd with rfl | rfl | rfl
    · exact tok_w ha
    · exact tok_w hb
    · exact ⟨a1, by omega⟩
  | .later i c, n + 1, m, ⟨⟨h0, h1⟩, hc⟩, hd, hm, hn => by
    have hd : c.deep + 1 ≤ m := hd
    obtain ⟨m, rfl⟩ : ∃ k, m = k + 1 := ⟨m - 1, by omega⟩
    obtain ⟨n, rfl⟩ : ∃ k, n = k + 1 := ⟨n - 1, by omega⟩
    obtain ⟨a1, a2⟩ := tok_k hx (n := n + 1) (m := m) hc (by omega) (by omega) (by omega)
    have bb := Bk_big (m := m) (by omega)
    have bc := bd_of c m (by omega)
    have eb : Bk m = Bd m := rfl
    have ei : tx (.int i) = isx i := rfl
    have li := isx_len (i := i) (by omega)
    refine tok_of (c := 5) (n := n + 1) (l := 346 + c.bd) (by decide +kernel) (by decide) (by decide +kernel) (Nat.le_of_ble_eq_true rfl) (fun d hd => ?_) (by rw [txs2, ei]; simp only [List.map_cons, List.map_nil, List.sum_cons, List.sum_nil, List.length_cons, List.length_nil]; omega)
    simp only [List.mem_cons, List.not_mem_nil, or_false] at hd
    rcases hd with rfl | rfl
    · exact tok_i (by omega)
    · exact ⟨a1, by omega⟩
  | .often i g c, n + 1, m, ⟨⟨h0, h1⟩, ⟨g0, g1⟩, hc⟩, hd, hm, hn => by
    have hd : c.deep + 1 ≤ m := hd
    obtain ⟨m, rfl⟩ : ∃ k, m = k + 1 := ⟨m - 1, by omega⟩
    obtain ⟨n, rfl⟩ : ∃ k, n = k + 1 := ⟨n - 1, by omega⟩
    obtain ⟨a1, a2⟩ := tok_k hx (n := n + 1) (m := m) hc (by omega) (by omega) (by omega)
    have bb := Bk_big (m := m) (by omega)
    have bc := bd_of c m (by omega)
    have eb : Bk m = Bd m := rfl
    have ei : tx (.int i) = isx i := rfl
    have li := isx_len (i := i) (by omega)
    have eg : tx (.int g) = isx g := rfl
    have lg := isx_len (i := g) (by omega)
    refine tok_of (c := 5) (n := n + 1) (l := 346 + c.bd) (by decide +kernel) (by decide) (by decide +kernel) (Nat.le_of_ble_eq_true rfl) (fun d hd => ?_) (by rw [txs3, ei, eg]; simp only [List.map_cons, List.map_nil, List.sum_cons, List.sum_nil, List.length_cons, List.length_nil]; omega)
    simp only [List.mem_cons, List.not_mem_nil, or_false] at hd
    rcases hd with rfl | rfl | rfl
    · exact tok_i (by omega)
    · exact tok_i (by omega)
    · exact ⟨a1, by omega⟩
  | .ite q c d, n + 1, m, ⟨⟨hq, hqd⟩, h1, h2⟩, hd, hm, hn => by
    have hd : max c.deep d.deep + 1 ≤ m := hd
    obtain ⟨m, rfl⟩ : ∃ k, m = k + 1 := ⟨m - 1, by omega⟩
    obtain ⟨q1, q2⟩ := tok_c hx (n := n) (m := 2) hq hqd (by decide) (by omega)
    have e : Bc 2 = 337 := rfl
    obtain ⟨a1, a2⟩ := tok_k hx (n := n) (m := m) h1 (by omega) (by omega) (by omega)
    obtain ⟨b1, b2⟩ := tok_k hx (n := n) (m := m) h2 (by omega) (by omega) (by omega)
    have bb := Bk_big (m := m) (by omega)
    have bc := bd_of c m (by omega)
    have bd' := bd_of d m (by omega)
    have eb : Bk m = Bd m := rfl
    refine tok_of (c := 2) (n := n) (l := 345 + c.bd + d.bd) (by decide +kernel) (by decide) (by decide +kernel) (Nat.le_of_ble_eq_true rfl) (fun d hd => ?_) (by rw [txs3]; simp only [List.map_cons, List.map_nil, List.sum_cons, List.sum_nil, List.length_cons, List.length_nil]; omega)
    simp only [List.mem_cons, List.not_mem_nil, or_false] at hd
    rcases hd with rfl | rfl | rfl
    · exact ⟨q1, by omega⟩
    · exact ⟨a1, by omega⟩
    · exact ⟨b1, by omega⟩
  | .whn q c, n + 1, m, ⟨⟨hq, hqd⟩, h1⟩, hd, hm, hn => by
    have hd : c.deep + 1 ≤ m := hd
    obtain ⟨m, rfl⟩ : ∃ k, m = k + 1 := ⟨m - 1, by omega⟩
    obtain ⟨q1, q2⟩ := tok_c hx (n := n) (m := 2) hq hqd (by decide) (by omega)
    have e : Bc 2 = 337 := rfl
    obtain ⟨a1, a2⟩ := tok_k hx (n := n) (m := m) h1 (by omega) (by omega) (by omega)
    have bb := Bk_big (m := m) (by omega)
    have bc := bd_of c m (by omega)
    have eb : Bk m = Bd m := rfl
    refine tok_of (c := 4) (n := n) (l := 346 + c.bd) (by decide +kernel) (by decide) (by decide +kernel) (Nat.le_of_ble_eq_true rfl) (fun d hd => ?_) (by rw [txs2]; simp only [List.map_cons, List.map_nil, List.sum_cons, List.sum_nil, List.length_cons, List.length_nil]; omega)
    simp only [List.mem_cons, List.not_mem_nil, or_false] at hd
    rcases hd with rfl | rfl
    · exact ⟨q1, by omega⟩
    · exact ⟨a1, by omega⟩
  | .untl q c, n + 1, m, ⟨⟨hq, hqd⟩, h1⟩, hd, hm, hn => by
    have hd : c.deep + 1 ≤ m := hd
    obtain ⟨m, rfl⟩ : ∃ k, m = k + 1 := ⟨m - 1, by omega⟩
    obtain ⟨q1, q2⟩ := tok_c hx (n := n) (m := 2) hq hqd (by decide) (by omega)
    have e : Bc 2 = 337 := rfl
    obtain ⟨a1, a2⟩ := tok_k hx (n := n) (m := m) h1 (by omega) (by omega) (by omega)
    have bb := Bk_big (m := m) (by omega)
    have bc := bd_of c m (by omega)
    have eb : Bk m = Bd m := rfl
    refine tok_of (c := 5) (n := n) (l := 346 + c.bd) (by decide +kernel) (by decide) (by decide +kernel) (Nat.le_of_ble_eq_true rfl) (fun d hd => ?_) (by rw [txs2]; simp only [List.map_cons, List.map_nil, List.sum_cons, List.sum_nil, List.length_cons, List.length_nil]; omega)
    simp only [List.mem_cons, List.not_mem_nil, or_false] at hd
    rcases hd with rfl | rfl
    · exact ⟨q1, by omega⟩
    · exact ⟨a1, by omega⟩

/-! ### a contract's text and its pieces -/
def Nb (l : List Nat) : Prop := l.head? ≠ some 32 ∧ l.getLast? ≠ some 32
theorem one_nb {l : List Nat} (o : Tk.One l) : Nb l := ⟨fun z => (o.2 _ (List.mem_of_mem_head? z)).1 rfl, fun z => (o.2 _ (List.mem_of_mem_getLast? z)).1 rfl⟩
theorem txT_chars {w : Str} {ts : List Str} (h : ¬ (w = "num" ∨ w = "read")) (n : ts ≠ []) : (txT w ts).cps.toList = w.cps.toList ++ [40] ++ Tk.joinL [44, 32] (ts.map (·.cps.toList)) ++ [41] := by
  unfold txT
  rw [if_neg h, if_neg n]
  have j : (Txt.join ", " ts).cps.toList = Tk.joinL [44, 32] (ts.map (·.cps.toList)) := by
    show (Builtin.Str.glued ", " ts).cps.toList = _
    rw [StrLaws.glued_eq_join, Tk.join_chars, Tk.comma_chars]
  rw [← j, ← Tk.open_chars, ← Tk.close_chars]
  show (((w.cps ++ ("(" : Str).cps) ++ (Txt.join ", " ts).cps) ++ (")" : Str).cps).toList = _
  simp
theorem mem_join (s : List Nat) : ∀ {ps : List (List Nat)} {p : List Nat}, p ∈ ps → p.length ≤ (Tk.joinL s ps).length
  | [q], p, h => by rw [List.mem_singleton.mp h]; exact Nat.le_refl _
  | q :: q2 :: r, p, h => by
    show _ ≤ (q ++ s ++ Tk.joinL s (q2 :: r)).length
    rw [List.length_append, List.length_append]
    rcases List.mem_cons.mp h with rfl | h
    · omega
    · have := mem_join s h
      omega
theorem kinds_nr {kind w : Str} {ks : List Str} (h : kindsOf kind w = some ks) (c : w = "num" ∨ w = "read") : ks.length = 1 ∧ isDeep (ks.headD "") = false := by
  have a : ∀ p ∈ ctrForms ++ (condForms ++ numForms), (p.1 = "num" ∨ p.1 = "read") → p.2.length = 1 ∧ isDeep (p.2.headD "") = false := by decide +kernel
  unfold kindsOf at h
  split at h
  · exact a _ (List.mem_append_left _ (Tk.formOf_mem h)) c
  · split at h
    · exact a _ (List.mem_append_right _ (List.mem_append_left _ (Tk.formOf_mem h))) c
    · exact a _ (List.mem_append_right _ (List.mem_append_right _ (Tk.formOf_mem h))) c
theorem inB_int {lo hi : Int} {d : PyData} (h : inB lo hi d = true) : ∃ i, d = .int i ∧ lo ≤ i ∧ i ≤ hi := by
  cases d with
  | int i =>
    have h : (decide (lo ≤ i) && decide (i ≤ hi)) = true := h
    rw [Bool.and_eq_true, decide_eq_true_eq, decide_eq_true_eq] at h
    exact ⟨i, rfl, h⟩
  | _ => cases h
theorem isW_str {d : PyData} (h : isW' d = true) : ∃ x, d = .str x := by
  cases d with
  | str x => exact ⟨x, rfl⟩
  | _ => cases h
theorem plain_of {k : Str} {d : PyData} (h : plainOk k d = true) : (∃ i : Int, d = .int i ∧ i.natAbs < 10 ^ 12) ∨ ∃ x, d = .str x ∧ isW' d = true := by
  unfold plainOk at h
  have f : ∀ {lo hi : Int}, inB lo hi d = true → -999999999999 ≤ lo → hi ≤ 999999999999 → (∃ i : Int, d = .int i ∧ i.natAbs < 10 ^ 12) := fun h a b => by
    obtain ⟨i, e, h1, h2⟩ := inB_int h
    exact ⟨i, e, by omega⟩
  split at h
  · exact .inl (f h (by decide) (by decide))
  split at h
  · exact .inl (f h (by decide) (by decide))
  split at h
  · exact .inl (f h (by decide) (by decide))
  split at h
  · exact .inl (f h (by decide) (by decide))
  · obtain ⟨x, rfl⟩ := isW_str h
    exact .inr ⟨x, rfl, h⟩
theorem join_mem (s : List Nat) : ∀ {ps : List (List Nat)} {c : Nat}, c ∈ Tk.joinL s ps → c ∈ s ∨ ∃ p ∈ ps, c ∈ p
  | [], c, h => by cases h
  | [q], c, h => .inr ⟨q, List.mem_cons_self, h⟩
  | q :: q2 :: r, c, h => by
    have h : c ∈ q ++ s ++ Tk.joinL s (q2 :: r) := h
    rw [List.mem_append, List.mem_append] at h
    rcases h with (h | h) | h
    · exact .inr ⟨q, List.mem_cons_self, h⟩
    · exact .inl h
    · rcases join_mem s h with h | ⟨p, hp, h⟩
      · exact .inl h
      · exact .inr ⟨p, List.mem_cons_of_mem _ hp, h⟩
theorem word_low {w : Str} (h : Tk.wordB w = true) : ∀ c ∈ w.cps.toList, c < 128 := fun c hc => by
  unfold Tk.wordB at h
  rw [Bool.and_eq_true] at h
  have := List.all_eq_true.mp h.2 c hc
  simp only [Tk.letB, Bool.and_eq_true, decide_eq_true_eq] at this
  omega
theorem isx_low (i : Int) : ∀ c ∈ (isx i).cps.toList, c < 128 := fun c hc => by
  rw [Tk.isx_chars] at hc
  have d := TL.numL_digits i.natAbs
  split at hc
  · rcases List.mem_cons.mp hc with rfl | hc
    · decide
    · have := d c hc
      omega
  · have := d c hc
    omega
/-- what is known of a well formed part -/
structure Gd (n : Nat) (d : PyData) : Prop where
  lo : ∀ c ∈ (tx d).cps.toList, c < 128
  g : Tk.G (tx d).cps.toList (Tk.fl d)
  b : Nb (tx d).cps.toList
  t : (tx d).length ≤ 1000000 → tOk (n + 1) d
  a : aOk (n + 1) d
theorem plain_gd {n : Nat} {k : Str} {d : PyData} (h : plainOk k d = true) : Gd n d ∧ isTup d = false := by
  rcases plain_of h with ⟨i, rfl, hi⟩ | ⟨x, rfl, hx⟩
  · have o := Tk.isx_one i
    exact ⟨⟨isx_low i, .one o, one_nb o.1, fun _ => by show i.natAbs < 10 ^ 13; omega, trivial⟩, rfl⟩
  · obtain ⟨hw, hl⟩ := Tk.isW_word hx
    have o := Tk.word_one hw
    exact ⟨⟨word_low hw, .one o, one_nb o.1, fun _ => by show x.length ≤ 100; omega, trivial⟩, rfl⟩
theorem len_chars (x : Str) : x.length = x.cps.toList.length := by simp [Str.length]
theorem ga_of : ∀ {ds : List PyData}, (∀ d ∈ ds, Tk.G (tx d).cps.toList (Tk.fl d)) → Tk.GA ((ds.map tx).map (·.cps.toList)) (ds.map Tk.fl)
  | [], _ => .nil
  | d :: ds, h => .cons (h d List.mem_cons_self) (ga_of fun e he => h e (List.mem_cons_of_mem _ he))
theorem zip_mem {α β : Type} : ∀ {ks : List α} {ds : List β} {d : β}, ks.length = ds.length → d ∈ ds → ∃ k, (k, d) ∈ List.zip ks ds
  | [], [], d, _, h => by cases h
  | k :: ks, e :: ds, d, l, h => by
    rcases List.mem_cons.mp h with rfl | h
    · exact ⟨k, List.mem_cons_self⟩
    · obtain ⟨k', h'⟩ := zip_mem (ks := ks) (by simpa using l) h
      exact ⟨k', List.mem_cons_of_mem _ h'⟩
theorem wf_gd : ∀ (n : Nat) (kind : Str) (d : PyData), wf n kind d = true → Gd n d
  | 0, kind, d, h => by cases h
  | n + 1, kind, d, h => by
    have hd : ∃ w ds, d = .tuple (.str w :: ds) := by
      by_cases c : ∃ w ds, d = .tuple (.str w :: ds)
      · exact c
      · rw [wf_not fun w ds e => c ⟨w, ds, e⟩] at h
        cases h
    obtain ⟨w, ds, rfl⟩ := hd
    rw [wf_tup] at h
    split at h
    · cases h
    rename_i ks hk
    rw [Bool.and_eq_true, Bool.and_eq_true, decide_eq_true_eq] at h
    obtain ⟨hl, hall, _⟩ := h
    obtain ⟨kw, kl, k4⟩ := Tk.kinds_word hk
    have one := Tk.word_one kw
    have part : ∀ e ∈ ds, Gd n e := fun e he => by
      obtain ⟨k, hm⟩ := zip_mem hl he
      have := List.all_eq_true.mp hall _ hm
      dsimp only at this
      split at this
      · exact wf_gd n k e this
      · exact (plain_gd this).1
    have al : aOk (n + 2) (.tuple (.str w :: ds)) := ⟨by rw [List.length_cons]; omega, fun e he => by
      rcases List.mem_cons.mp he with rfl | he
      · exact trivial
      · exact (part e he).a⟩
    by_cases c : w = "num" ∨ w = "read"
    · obtain ⟨k1, k2⟩ := kinds_nr hk c
      obtain ⟨k, rfl⟩ : ∃ k, ks = [k] := List.length_eq_one_iff.mp k1
      obtain ⟨e, rfl⟩ : ∃ e, ds = [e] := List.length_eq_one_iff.mp (hl.symm.trans k1)
      have pe := part e (List.mem_singleton.mpr rfl)
      have ee : tx (.tuple [.str w, e]) = tx e := by
        rw [tx_tup]
        exact txT_nr c
      have ef : Tk.fl (.tuple [.str w, e]) = Tk.fl e := by
        rw [Tk.fl_tup]
        unfold Tk.flT
        rw [if_pos c]
        rfl
      have le : isTup e = false := by
        have := List.all_eq_true.mp hall (k, e) (List.mem_singleton.mpr rfl)
        dsimp only at this
        rw [show isDeep k = false from k2, if_neg Bool.false_ne_true] at this
        exact (plain_gd (n := 0) this).2
      refine ⟨?_, ?_, ?_, fun hz => ?_, al⟩
      · rw [ee]; exact pe.lo
      · rw [ee, ef]; exact pe.g
      · rw [ee]; exact pe.b
      · rw [ee] at hz
        exact ⟨by omega, Nat.le_of_ble_eq_true rfl, fun q hq => by rw [List.mem_singleton.mp hq]; exact ⟨pe.t hz, hz⟩, fun _ => ⟨e, rfl, le⟩⟩
    · by_cases c0 : ds = []
      · subst c0
        have ee : tx (.tuple [.str w]) = w := by
          rw [tx_tup]
          show txT w [] = w
          unfold txT
          rw [if_neg c, if_pos rfl]
        have ef : Tk.fl (.tuple [.str w]) = [w] := by
          rw [Tk.fl_tup]
          unfold Tk.flT
          rw [if_neg c]
          exact if_pos rfl
        refine ⟨?_, ?_, ?_, fun hz => ⟨by omega, Nat.zero_le _, fun q hq => (by cases hq), fun z => absurd z c⟩, al⟩
        · rw [ee]; exact word_low kw
        · rw [ee, ef]; exact .one one
        · rw [ee]; exact one_nb one.1
      · have te : txs ds ≠ [] := fun z => c0 (by
          have := txs_len ds
          rw [z] at this
          exact List.length_eq_zero_iff.mp this.symm)
        have ec : (tx (.tuple (.str w :: ds))).cps.toList = w.cps.toList ++ [40] ++ Tk.joinL [44, 32] ((ds.map tx).map (·.cps.toList)) ++ [41] := by
          rw [tx_tup, txT_chars c te, txs_map]
        have ef : Tk.fl (.tuple (.str w :: ds)) = w :: ("(" : Str) :: (Tk.commas (ds.map Tk.fl) ++ [(")" : Str)]) := by
          rw [Tk.fl_tup]
          unfold Tk.flT
          rw [if_neg c, if_neg fun z => c0 (List.map_eq_nil_iff.mp z)]
        refine ⟨?_, ?_, ?_, fun hz => ⟨by omega, by omega, fun q hq => ?_, fun z => absurd z c⟩, al⟩
        · rw [ec]
          intro y hy
          rw [List.mem_append, List.mem_append, List.mem_append] at hy
          rcases hy with ((hy | hy) | hy) | hy
          · exact word_low kw y hy
          · rw [List.mem_singleton.mp hy]; decide
          · rcases join_mem _ hy with hy | ⟨p, hp, hy⟩
            · simp only [List.mem_cons, List.not_mem_nil, or_false] at hy
              omega
            · obtain ⟨t, ht, rfl⟩ := List.mem_map.mp hp
              obtain ⟨e, he, rfl⟩ := List.mem_map.mp ht
              exact (part e he).lo y hy
          · rw [List.mem_singleton.mp hy]; decide
        · rw [ec, ef]
          exact .form one (ga_of fun e he => (part e he).g)
        · rw [ec]
          refine ⟨?_, ?_⟩
          · obtain ⟨y, r, ey⟩ := List.exists_cons_of_ne_nil one.1.1
            have := (one_nb one.1).1
            rw [ey] at this ⊢
            exact this
          · rw [List.getLast?_concat]
            intro z
            cases z
        · have le : (tx q).length ≤ (tx (.tuple (.str w :: ds))).length := by
            rw [len_chars (tx (.tuple (.str w :: ds))), ec, len_chars (tx q)]
            have := mem_join [44, 32] (ps := (ds.map tx).map (·.cps.toList)) (p := (tx q).cps.toList) (List.mem_map.mpr ⟨_, List.mem_map.mpr ⟨q, hq, rfl⟩, rfl⟩)
            rw [List.length_append, List.length_append]
            omega
          exact ⟨(part q hq).t (Nat.le_trans le hz), Nat.le_trans le hz⟩
theorem sp_chars : (" " : Str).cps.toList = [32] := by decide +kernel
theorem sp_len : (" " : Str).length = 1 := by decide +kernel
theorem blk_of {x : Str} (h : Nb x.cps.toList) : blk x = false := by
  unfold blk
  rw [Bool.or_eq_false_iff]
  constructor
  · unfold Txt.startswith
    rw [StrLaws.subAt_eq, sp_len, sp_chars, List.drop_zero]
    rw [Bool.and_eq_false_iff]
    right
    rw [beq_eq_false_iff_ne]
    intro z
    refine h.1 ?_
    cases e : x.cps.toList with
    | nil => rw [e] at z; cases z
    | cons y r => rw [e] at z; cases z; rfl
  · unfold Txt.endswith
    rw [StrLaws.subAt_eq, sp_len, sp_chars, len_chars x]
    rw [Bool.and_eq_false_iff]
    by_cases c : x.cps.toList = []
    · left
      rw [c]
      rfl
    right
    rw [beq_eq_false_iff_ne]
    intro z
    refine h.2 ?_
    obtain ⟨l, y, e⟩ : ∃ l y, x.cps.toList = l ++ [y] := ⟨_, _, (List.dropLast_concat_getLast c).symm⟩
    rw [e] at z ⊢
    rw [List.length_append, List.length_singleton, Nat.add_sub_cancel, List.drop_left] at z
    rw [List.getLast?_concat]
    have z : [y] = [32] := z
    rw [List.head_eq_of_cons_eq z]
/-- what is read from a text, and how it is told again -/
theorem pcs_tx {n : Nat} {d : PyData} (g : Gd n d) : Tk.pcs (tx d) = Tk.fl d := by
  have e := g.g.go [] trivial
  rw [List.append_nil] at e
  unfold Tk.pcs
  rw [e]
  show (_ ++ Tk.emit []).map Tk.S = _
  show (_ ++ []).map Tk.S = _
  rw [List.append_nil, List.map_map]
  have m : (Tk.S ∘ fun x : Str => x.cps.toList) = id := by
    funext p
    exact Tk.S_chars p
  rw [m, List.map_id]
theorem W_of_pcs (t : Str) : ((Tk.pcs t).map fun p => Tk.W p.cps.toList).sum = Tk.W t.cps.toList := by
  have := Tk.W_pcs t.cps.toList []
  rw [show Tk.W [] = 0 from rfl, Nat.zero_add] at this
  rw [← this]
  unfold Tk.pcs
  rw [List.map_map]
  congr 1
theorem tokens_eq {t u : Str} {d : PyData} {n : Nat} (h : Tk.pcs t = Tk.fl d) (g : Gd n d) (e : Tk.pcs u = Tk.fl d) : Tk.tg [] t.cps.toList = Tk.tg [] u.cps.toList := by
  have f : ∀ x : Str, Tk.go [] x.cps.toList = (Tk.pcs x).map (·.cps.toList) := fun x => by
    unfold Tk.pcs
    rw [List.map_map]
    exact ((List.map_congr_left fun l _ => Tk.chars_S l).trans (List.map_id _)).symm
  have gd : ∀ x : Str, Tk.pcs x = Tk.fl d → ∀ p ∈ Tk.go [] x.cps.toList, Tk.good p := fun x hx p hp => by
    rw [f, hx] at hp
    obtain ⟨q, hq, rfl⟩ := List.mem_map.mp hp
    exact g.g.gd q hq
  rw [Tk.toks_pcs (gd t h), Tk.toks_pcs (gd u e), f, f, h, e]
theorem rd_again {t : Str} {d : PyData} (h : Tk.rd t = some d) (hw : Tk.W t.cps.toList ≤ 4000) : Gd 12 d ∧ Tk.rd (tx d) = some d ∧ (tx d).length ≤ 4000 ∧ Tk.tg [] t.cps.toList = Tk.tg [] (tx d).cps.toList := by
  obtain ⟨hp, hwf, hr⟩ := Tk.rd_some h
  have g := wf_gd 12 _ _ hwf
  have ep := pcs_tx g
  have hl : (tx d).length ≤ 4000 := by
    rw [len_chars, g.g.bl, ← W_of_pcs, ep, ← hp, W_of_pcs]
    exact hw
  refine ⟨g, ?_, hl, tokens_eq hp g ep⟩
  unfold Tk.rd
  have eb : (Txt.startswith (tx d) " " || Txt.endswith (tx d) " ") = false := blk_of g.b
  rw [if_neg (by omega), eb, if_neg Bool.false_ne_true, ep, ← hp, hr]
  exact if_pos hwf
theorem W_tx {d : PyData} (h : wf 12 "contract" d = true) : Tk.W (tx d).cps.toList = (tx d).length := by
  rw [len_chars]
  exact (wf_gd 12 _ _ h).g.bl.symm

/-! ### a line that is spoilt -/
def spSpoilt (K : PySem.W.Frag) : Sp := fun vs H Q _ => ∃ (c : Cfg) (ns : List Int) (xs : List Str) (s na nm : Addr) (x : Str), vs = [.ref s, .str x] ∧ LS K c ns xs s na nm H ∧ x.length ≤ 20000 ∧
  ∀ (y : Str) (H' : Hp), KB s H H' → LS K c ns xs s na nm H' → Tk.W y.cps.toList ≤ Tk.W x.cps.toList + 6 → y.length ≤ x.length + 6 → Q (.str y) H'
theorem use_spoilt {K : PySem.W.Frag} {c : Cfg} {ns : List Int} {xs : List Str} {s na nm : Addr} {x : Str} {H : Hp} {Q : VK} {E : XK} (L : LS K c ns xs s na nm H) (h : x.length ≤ 20000)
    (q : ∀ (y : Str) (H' : Hp), KB s H H' → LS K c ns xs s na nm H' → Tk.W y.cps.toList ≤ Tk.W x.cps.toList + 6 → y.length ≤ x.length + 6 → Q (.str y) H') : spSpoilt K ([.ref s, .str x] ++ []) H Q E := ⟨c, ns, xs, s, na, nm, x, rfl, L, h, q⟩
theorem cut_to (x : Str) {a : Nat} (h : a ≤ x.length) : (cutS x none (some (a : Int))).cps.toList = x.cps.toList.take a := by
  unfold cutS
  rw [HT.sIx_none, HT.sIx_nat]
  simp [h]
theorem cut_from (x : Str) {a : Nat} (h : a ≤ x.length) : (cutS x (some (a : Int)) none).cps.toList = x.cps.toList.drop a := by
  unfold cutS
  rw [HT.sIx_none, HT.sIx_nat, Nat.min_eq_left h]
  show ((x.cps.toList.drop a).take (x.length - a)).toArray.toList = _
  rw [List.take_of_length_le (by rw [List.length_drop, ← len_chars]; exact Nat.le_refl _)]
theorem cut_mid (x : Str) {a e : Nat} (h : a ≤ x.length) (k : e ≤ x.length) : (cutS x (some (a : Int)) (some (e : Int))).cps.toList = (x.cps.toList.drop a).take (e - a) := by
  unfold cutS
  rw [HT.sIx_nat, HT.sIx_nat, Nat.min_eq_left h, Nat.min_eq_left k]
/-- what adds up -/
structure Adds (μ : Str → Nat) : Prop where
  app : ∀ x y, μ (x ++ y) = μ x + μ y
  cut : ∀ (x : Str) (a : Nat), a ≤ x.length → μ (cutS x none (some (a : Int))) + μ (cutS x (some (a : Int)) none) = μ x
  mid : ∀ (x : Str) (a e : Nat), a ≤ e → e ≤ x.length → μ (cutS x (some (a : Int)) (some (e : Int))) + μ (cutS x (some (e : Int)) none) = μ (cutS x (some (a : Int)) none)
  fst : ∀ (x : Str) (t a : Nat), t ≤ a → a ≤ x.length → μ (cutS x none (some (t : Int))) + μ (cutS x (some (t : Int)) (some (a : Int))) = μ (cutS x none (some (a : Int)))
  rev : ∀ x, μ (revS x) = μ x
theorem adds_of (ν : List Nat → Nat) (ha : ∀ l m, ν (l ++ m) = ν l + ν m) (hr : ∀ l, ν l.reverse = ν l) : Adds fun x => ν x.cps.toList := by
  refine ⟨fun x y => ?_, fun x a h => ?_, fun x a e h k => ?_, fun x t a h k => ?_, fun x => ?_⟩
  · show ν (x.cps ++ y.cps).toList = _
    rw [Array.toList_append, ha]
  · show ν _ + ν _ = _
    rw [cut_to x h, cut_from x h, ← ha, List.take_append_drop]
  · show ν _ + ν _ = ν _
    rw [cut_mid x (by omega) k, cut_from x k, cut_from x (by omega), ← ha]
    have : x.cps.toList.drop e = (x.cps.toList.drop a).drop (e - a) := by rw [List.drop_drop]; congr 1; omega
    rw [this, List.take_append_drop]
  · show ν _ + ν _ = ν _
    rw [cut_to x (by omega), cut_mid x (by omega) k, cut_to x k, ← ha]
    have e1 : x.cps.toList.take t = (x.cps.toList.take a).take t := by rw [List.take_take, Nat.min_eq_left h]
    have e2 : (x.cps.toList.drop t).take (a - t) = (x.cps.toList.take a).drop t := by rw [List.drop_take]
    rw [e1, e2, List.take_append_drop]
  · show ν _ = ν _
    unfold revS
    exact hr _
theorem adds_T : Adds fun x => Tk.W x.cps.toList := adds_of Tk.W Tk.W_app fun l => by
  unfold Tk.W
  rw [List.map_reverse, List.sum_reverse]
theorem adds_L : Adds fun x => x.length := by
  have e : (fun x : Str => x.length) = fun x => x.cps.toList.length := funext len_chars
  rw [e]
  exact adds_of List.length (fun _ _ => List.length_append) fun _ => List.length_reverse
theorem mid_len (x : Str) {a e : Nat} (h : a ≤ e) (k : e ≤ x.length) : (cutS x (some (a : Int)) (some (e : Int))).length = e - a := by
  rw [len_chars, cut_mid x (by omega) k, List.length_take, List.length_drop, ← len_chars]
  omega
theorem T_app (x y : Str) : Tk.W (x ++ y).cps.toList = Tk.W x.cps.toList + Tk.W y.cps.toList := adds_T.app x y
theorem T_le (x : Str) : Tk.W x.cps.toList ≤ 2 * x.length := by
  rw [len_chars]
  exact Tk.W_le _
section
variable {P : Program} {w : World} {K : PySem.W.Frag} {mg : Str → Option Value} {base : Heap}
abbrev s__law_spoilt : Stmt := topS 50
theorem sc__law_spoilt : FnScope ["_law_s", "_law_line", "_law_at", "_law_end", "_law_way", "_law_some", "_law_words", "_law_to", "_law_sign"] ["_law_s", "_law_line"] (defScope s__law_spoilt) := ⟨rfl, rfl, rfl, by decide +kernel, rfl, by decide +kernel, by decide +kernel⟩
theorem h__law_spoilt {k : Nat} {f : Addr} {fd : FuncData} (O : Own K mg "_law_spoilt" s__law_spoilt ["_law_s", "_law_line"] f fd)  {f__law_taken : Addr} {fd__law_taken : FuncData} (D__law_taken : Has P w K mg base "_law_taken" ["_law_s", "_law_most"] k CX0 (spTaken K) f__law_taken fd__law_taken) (m_len : mg "len" = none) (m_min : mg "min" = none) : Has P w K mg base "_law_spoilt" ["_law_s", "_law_line"] (k + 1) CX0 (spSpoilt K) f fd := by
  refine O.has (O.F.ok sc__law_spoilt (fun vs H Q E h => ?_) (fun cdv A outer s H vs Q E hr h => ?_))
  · obtain ⟨c, ns, xs, s, na, nm, x, rfl, _⟩ := h
    rfl
  obtain ⟨c, ns, xs, s, na, nm, x, rfl, L, hl, q⟩ := h
  refine ⟨_, (pss_cons (ps_set (i := 2) sc__law_spoilt.nd rfl (.inl rfl) (pe_call D__law_taken.G hr (by rfl) D__law_taken.g D__law_taken.k D__law_taken.b .nil pass0 (pa_cons (pv 0) (pa_cons (pe_op op_add (pe_callB call_len_str (by rfl) m_len (by decide +kernel) (pa_cons (pv 1) pa_nil)) pe_int) pa_nil)))) (pss_cons (ps_set (i := 3) sc__law_spoilt.nd rfl (.inl rfl) (pe_callB (call_min2 rfl) (by rfl) m_min (by decide +kernel) (pa_cons (pe_callB call_len_str (by rfl) m_len (by decide +kernel) (pa_cons (pv 1) pa_nil)) (pa_cons (pe_op op_add (pe_op op_add (pv 2) pe_int) (pe_call D__law_taken.G hr (by rfl) D__law_taken.g D__law_taken.k D__law_taken.b .nil pass0 (pa_cons (pv 0) (pa_cons pe_int pa_nil)))) pa_nil)))) (pss_cons (ps_set (i := 4) sc__law_spoilt.nd rfl (.inl rfl) (pe_call D__law_taken.G hr (by rfl) D__law_taken.g D__law_taken.k D__law_taken.b .nil pass0 (pa_cons (pv 0) (pa_cons pe_int pa_nil)))) (pss_cons (ps_set (i := 5) sc__law_spoilt.nd rfl (.inl rfl) pe_str) (pss_cons (ps_set (i := 5) sc__law_spoilt.nd rfl (.inl rfl) (pe_op op_add_str (pv 5) pe_str)) (pss_cons (ps_set (i := 6) sc__law_spoilt.nd rfl (.inl rfl) (pe_lst (pa_cons pe_str (pa_cons pe_str (pa_cons pe_str (pa_cons pe_str (pa_cons pe_str (pa_cons pe_str (pa_cons pe_str (pa_cons pe_str (pa_cons pe_str (pa_cons pe_str (pa_cons pe_str (pa_cons pe_str pa_nil)))))))))))))) (pss_cons (ps_set (i := 6) sc__law_spoilt.nd rfl (.inl rfl) (pe_op op_cat (pv 6) (pe_lst (pa_cons pe_str (pa_cons pe_str (pa_cons pe_str (pa_cons pe_str pa_nil))))))) (pss_cons (ps_if (pt_cmpR op_eq (pv 4) pe_int (nomark _)) (pss_one (ps_ret (pe_op op_add_str (pe_slice sl_str (pv 1) po_none (po_some (pv 2))) (pe_slice sl_str (pv 1) (po_some (pv 3)) po_none)))) pss_nil) (pss_cons (ps_if (pt_cmpR op_eq (pv 4) pe_int (nomark _)) (pss_one (ps_ret (pe_op op_add_str (pe_slice sl_str (pv 1) po_none (po_some (pv 3))) (pe_slice sl_str (pv 1) (po_some (pv 2)) po_none)))) pss_nil) (pss_cons (ps_if (pt_cmpR op_eq (pv 4) pe_int (nomark _)) (pss_one (ps_ret (pe_op op_add_str (pe_op op_add_str (pe_slice sl_str (pv 1) po_none (po_some (pv 2))) (pe_sliceRS (pe_slice sl_str (pv 1) (po_some (pv 2)) (po_some (pv 3))) (po_some (pe_un un_neg pe_int)))) (pe_slice sl_str (pv 1) (po_some (pv 3)) po_none)))) pss_nil) (pss_cons (ps_if (pt_cmpR op_eq (pv 4) pe_int (nomark _)) (pss_cons (ps_set (i := 7) sc__law_spoilt.nd rfl (.inl rfl) (pe_call D__law_taken.G hr (by rfl) D__law_taken.g D__law_taken.k D__law_taken.b .nil pass0 (pa_cons (pv 0) (pa_cons (pe_op op_add (pv 2) pe_int) pa_nil)))) (pss_one (ps_ret (pe_op op_add_str (pe_op op_add_str (pe_op op_add_str (pe_slice sl_str (pv 1) po_none (po_some (pv 7))) (pe_slice sl_str (pv 1) (po_some (pv 2)) (po_some (pv 3)))) (pe_slice sl_str (pv 1) (po_some (pv 7)) (po_some (pv 2)))) (pe_slice sl_str (pv 1) (po_some (pv 3)) po_none))))) pss_nil) (pss_cons (ps_if (pt_cmpR op_eq (pv 4) pe_int (nomark _)) (pss_one (ps_ret (pe_op op_add_str (pe_op op_add_str (pe_slice sl_str (pv 1) po_none (po_some (pv 2))) (pe_ix ix_list (pv 6) (pe_call D__law_taken.G hr (by rfl) D__law_taken.g D__law_taken.k D__law_taken.b .nil pass0 (pa_cons (pv 0) (pa_cons pe_int pa_nil))) (fun _ _ => rfl))) (pe_slice sl_str (pv 1) (po_some (pv 2)) po_none)))) pss_nil) (pss_cons (ps_set (i := 8) sc__law_spoilt.nd rfl (.inl rfl) (pe_ix ix_str (pv 5) (pe_call D__law_taken.G hr (by rfl) D__law_taken.g D__law_taken.k D__law_taken.b .nil pass0 (pa_cons (pv 0) (pa_cons (pe_callB call_len_str (by rfl) m_len (by decide +kernel) (pa_cons (pv 5) pa_nil)) pa_nil))) (fun _ _ => rfl))) (pss_one (ps_ret (pe_op op_add_str (pe_op op_add_str (pe_slice sl_str (pv 1) po_none (po_some (pv 2))) (pv 8)) (pe_slice sl_str (pv 1) (po_some (pe_ifExp (pt_cmpR op_lt (pv 4) pe_int (nomark _)) (pv 2) (pv 3))) po_none))))))))))))))))), ?_⟩
  have ok := L.ok
  walk_at "go"
  have z24 : (16777216 : Nat) = sizeLine := by decide
  refine ⟨by omega, ?_⟩
  walk_at "go"
  refine use_taken L (by omega) (by omega) fun a H1 a0 a1 e1 L1 => ?_
  walk_at "go"
  refine ⟨by omega, ?_⟩
  walk_at "go"
  refine use_taken L1 (by omega) (by omega) fun b H2 b0 b1 e2 L2 => ?_
  walk_at "go"
  obtain ⟨n, rfl⟩ : ∃ n : Nat, a = n := ⟨a.toNat, by omega⟩
  obtain ⟨en, hen, e0, e4, e5⟩ : ∃ en : Nat, (if (n : Int) + 1 + b < (x.length : Int) then (n : Int) + 1 + b else (x.length : Int)) = en ∧ n ≤ en ∧ en ≤ x.length ∧ en ≤ n + 3 := by
    split
    · exact ⟨(n + 1 + b).toNat, by omega, by omega, by omega, by omega⟩
    · exact ⟨x.length, rfl, by omega, by omega, by omega⟩
  rw [hen]
  clear hen
  refine use_taken L2 (by omega) (by omega) fun wy H3 w0 w1 e3 L3 => ?_
  walk_at "go"
  refine ⟨by show _ ≤ sizeLine; decide +kernel, ?_⟩
  have sm1 : 1 ≤ ((Str.ofString " !\"#$&'()*+,-./0123456789:;<=>?@ABCDEFGHIJKLMNOPQRSTUVWXYZ[\\]^_`") ++ (Str.ofString "abcdefghijklmnopqrstuvwxyz{|}~\t\n")).length := by decide +kernel
  have sm2 : ((Str.ofString " !\"#$&'()*+,-./0123456789:;<=>?@ABCDEFGHIJKLMNOPQRSTUVWXYZ[\\]^_`") ++ (Str.ofString "abcdefghijklmnopqrstuvwxyz{|}~\t\n")).length ≤ 200 := by decide +kernel
  generalize ((Str.ofString " !\"#$&'()*+,-./0123456789:;<=>?@ABCDEFGHIJKLMNOPQRSTUVWXYZ[\\]^_`") ++ (Str.ofString "abcdefghijklmnopqrstuvwxyz{|}~\t\n")) = sm at sm1 sm2 ⊢
  walk_at "go"
  refine ⟨by show 12 ≤ sizeLine; decide, fun p4 np4 => ?_⟩
  walk_at "go"
  refine ⟨by show 4 ≤ sizeLine; decide, fun p5 np5 => ?_⟩
  walk_at "go"
  have e6 : Same H3 (upd (upd H3 p4 (.lst [.str "none", .str "give", .str "(", .str ")", .str "()", .str ", ", .str "0", .str "-", .str "-0", .str "00", .str "read", .str "num("])) p5 (.lst [.str ", 1", .str ", a", .str "not(", .str "plus("])) := (same_new np4).trans (same_new np5)
  refine ⟨p4, p5, _, _, rfl, rfl, same_new np5 _ _ upd_same, upd_same, by show 16 ≤ sizeLine; decide, fun p6 np6 => ?_⟩
  replace e6 := e6.trans (same_new (o := .lst ([.str "none", .str "give", .str "(", .str ")", .str "()", .str ", ", .str "0", .str "-", .str "-0", .str "00", .str "read", .str "num("] ++ [.str ", 1", .str ", a", .str "not(", .str "plus("])) np6)
  obtain ⟨ws, hws, hl16, hgood⟩ : ∃ ws : List Str, ([.str "none", .str "give", .str "(", .str ")", .str "()", .str ", ", .str "0", .str "-", .str "-0", .str "00", .str "read", .str "num("] ++ [.str ", 1", .str ", a", .str "not(", .str "plus("] : List V) = ws.map V.str ∧ ws.length = 16 ∧ ∀ u ∈ ws, Tk.W u.cps.toList ≤ 6 ∧ u.length ≤ 6 :=
    ⟨["none", "give", "(", ")", "()", ", ", "0", "-", "-0", "00", "read", "num(", ", 1", ", a", "not(", "plus("], rfl, rfl, by decide +kernel⟩
  rw [hws] at e6 ⊢
  have h6 : (upd (upd (upd H3 p4 (.lst [.str "none", .str "give", .str "(", .str ")", .str "()", .str ", ", .str "0", .str "-", .str "-0", .str "00", .str "read", .str "num("])) p5 (.lst [.str ", 1", .str ", a", .str "not(", .str "plus("])) p6 (.lst (ws.map V.str))) p6 = some (.lst (ws.map V.str)) := upd_same
  generalize (upd (upd (upd H3 p4 (.lst [.str "none", .str "give", .str "(", .str ")", .str "()", .str ", ", .str "0", .str "-", .str "-0", .str "00", .str "read", .str "num("])) p5 (.lst [.str ", 1", .str ", a", .str "not(", .str "plus("])) p6 (.lst (ws.map V.str))) = H6 at e6 h6 ⊢
  have L6 := L3.same e6
  have kb : KB s H H6 := ((e1.trans e2).trans e3).trans (KB.of e6)
  clear np4 np5 np6
  have T1 := adds_T.cut x n (by omega)
  have T2 := adds_T.mid x n en e0 e4
  have T3 := adds_T.cut x en e4
  have N1 := adds_L.cut x n (by omega)
  have N2 := adds_L.mid x n en e0 e4
  have N3 := adds_L.cut x en e4
  have M1 := mid_len x e0 e4
  have M2 := T_le (cutS x (some (n : Int)) (some (en : Int)))
  walk_at "go"
  refine ifd (fun c0 => ?_) (fun c0 => ?_)
  · walk_at "go"
    refine ⟨x, rfl, by omega, ?_⟩
    walk_at "go"
    refine ⟨x, rfl, by omega, ?_⟩
    refine ⟨_, _, rfl, rfl, by omega, ?_⟩
    exact q _ H6 kb L6 (by rw [T_app]; omega) (by rw [str_app_len]; omega)
  walk_at "go"
  refine ifd (fun c1 => ?_) (fun c1 => ?_)
  · walk_at "go"
    refine ⟨x, rfl, by omega, ?_⟩
    walk_at "go"
    refine ⟨x, rfl, by omega, ?_⟩
    refine ⟨_, _, rfl, rfl, by omega, ?_⟩
    exact q _ H6 kb L6 (by rw [T_app]; omega) (by rw [str_app_len]; omega)
  walk_at "go"
  refine ifd (fun c2 => ?_) (fun c2 => ?_)
  · walk_at "go"
    refine ⟨x, rfl, by omega, ?_⟩
    walk_at "go"
    refine g_revS ?_
    walk_at "go"
    refine ⟨x, rfl, by omega, ?_⟩
    walk_at "go"
    have R1 : Tk.W (revS (cutS x (some (n : Int)) (some (en : Int)))).cps.toList = _ := adds_T.rev (cutS x (some (n : Int)) (some (en : Int)))
    have R2 : (revS (cutS x (some (n : Int)) (some (en : Int)))).length = _ := adds_L.rev (cutS x (some (n : Int)) (some (en : Int)))
    refine ⟨by omega, ?_⟩
    refine ⟨_, _, rfl, rfl, by omega, ?_⟩
    walk_at "go"
    refine ⟨x, rfl, by omega, ?_⟩
    refine ⟨_, _, rfl, rfl, by rw [str_app_len]; omega, ?_⟩
    exact q _ H6 kb L6 (by rw [T_app, T_app]; omega) (by rw [str_app_len, str_app_len]; omega)
  walk_at "go"
  refine ifd (fun c3 => ?_) (fun c3 => ?_)
  · walk_at "go"
    refine use_taken L6 (by omega) (by omega) fun t H7 t0 t1 e7 L7 => ?_
    obtain ⟨t, rfl⟩ : ∃ m : Nat, t = m := ⟨t.toNat, by omega⟩
    have F1 := adds_T.fst x t n (by omega) (by omega)
    have F2 := adds_L.fst x t n (by omega) (by omega)
    walk_at "go"
    refine ⟨x, rfl, by omega, ?_⟩
    walk_at "go"
    refine ⟨x, rfl, by omega, ?_⟩
    refine ⟨_, _, rfl, rfl, by omega, ?_⟩
    walk_at "go"
    refine ⟨x, rfl, by omega, ?_⟩
    refine ⟨_, _, rfl, rfl, by rw [str_app_len]; omega, ?_⟩
    walk_at "go"
    refine ⟨x, rfl, by omega, ?_⟩
    refine ⟨_, _, rfl, rfl, by rw [str_app_len, str_app_len]; omega, ?_⟩
    exact q _ H7 (kb.trans e7) L7 (by rw [T_app, T_app, T_app]; omega) (by rw [str_app_len, str_app_len, str_app_len]; omega)
  walk_at "go"
  refine ifd (fun c4 => ?_) (fun c4 => ?_)
  · walk_at "go"
    refine ⟨x, rfl, by omega, ?_⟩
    walk_at "go"
    refine use_taken L6 (by omega) (by omega) fun t H7 t0 t1 e7 L7 => ?_
    obtain ⟨u0, hu0⟩ : ∃ u0, ws[t.toNat]? = some u0 := ⟨ws[t.toNat]'(by omega), List.getElem?_eq_getElem _⟩
    obtain ⟨G1, G2⟩ := hgood u0 (List.mem_of_getElem? hu0)
    have ps : p6 ≠ s := fun z => by
      obtain ⟨n1, n2, n3, z1, _⟩ := L6.st
      rw [z, z1] at h6
      cases h6
    have h7 := e7 _ _ ps h6
    refine ⟨_, _, _, _, rfl, rfl, sql h7, at_any (j := t.toNat) (v := .str u0) (by omega) (by rw [List.getElem?_map, hu0]; rfl), ?_⟩
    refine ⟨_, _, rfl, rfl, by omega, ?_⟩
    walk_at "go"
    refine ⟨x, rfl, by omega, ?_⟩
    refine ⟨_, _, rfl, rfl, by rw [str_app_len]; omega, ?_⟩
    exact q _ H7 (kb.trans e7) L7 (by rw [T_app, T_app]; omega) (by rw [str_app_len, str_app_len]; omega)
  walk_at "go"
  refine ⟨by omega, ?_⟩
  walk_at "go"
  refine use_taken L6 (by omega) (by omega) fun t H7 t0 t1 e7 L7 => ?_
  walk_at "go"
  obtain ⟨cc, hcc⟩ : ∃ cc, sm.cps.toList[t.toNat]? = some cc := ⟨_, List.getElem?_eq_getElem (by rw [← len_chars]; omega)⟩
  refine ⟨sm, t, cc, rfl, rfl, by omega, at_any (j := t.toNat) (by omega) hcc, ?_⟩
  have Z2 : (⟨#[cc]⟩ : Str).length = 1 := rfl
  have Z1 : Tk.W (⟨#[cc]⟩ : Str).cps.toList ≤ 2 := by
    have := T_le ⟨#[cc]⟩
    rw [Z2] at this
    exact this
  generalize (⟨#[cc]⟩ : Str) = u0 at Z1 Z2 ⊢
  walk_at "go"
  refine ⟨x, rfl, by omega, ?_⟩
  walk_at "go"
  refine ⟨by omega, ?_⟩
  walk_at "go"
  refine ifd (fun c7 => ?_) (fun c7 => ?_)
  · walk_at "go"
    refine ⟨x, rfl, by omega, ?_⟩
    refine ⟨_, _, rfl, rfl, by rw [str_app_len]; omega, ?_⟩
    exact q _ H7 (kb.trans e7) L7 (by rw [T_app, T_app]; omega) (by rw [str_app_len, str_app_len]; omega)
  · walk_at "go"
    refine ⟨x, rfl, by omega, ?_⟩
    refine ⟨_, _, rfl, rfl, by rw [str_app_len]; omega, ?_⟩
    exact q _ H7 (kb.trans e7) L7 (by rw [T_app, T_app]; omega) (by rw [str_app_len, str_app_len]; omega)
end

/-! ### the law's own words of a line -/
def toks (x : Str) : List Str := (Tk.tg [] x.cps.toList).map Tk.S
def spToks (K : PySem.W.Frag) : Sp := fun vs H Q _ => ∃ x : Str, vs = [.str x] ∧ x.length ≤ 20000 ∧ ∀ p H', Same H H' → H p = none → H' p = some (.lst ((toks x).map V.str)) → Q (.ref p) H'
theorem use_toks {K : PySem.W.Frag} {x : Str} {H : Hp} {Q : VK} {E : XK} (h : x.length ≤ 20000) (q : ∀ p H', Same H H' → H p = none → H' p = some (.lst ((toks x).map V.str)) → Q (.ref p) H') : spToks K ([.str x] ++ []) H Q E := ⟨x, rfl, h, q⟩
theorem tg_run : ∀ (a cur r : List Nat), a.all Tk.al = true → Tk.tg cur (a ++ r) = Tk.tg (cur ++ a) r
  | [], cur, r, _ => by rw [List.append_nil]; rfl
  | y :: a, cur, r, h => by
    rw [List.all_cons, Bool.and_eq_true] at h
    show Tk.tg cur (y :: (a ++ r)) = _
    rw [Tk.tg_cons, if_pos h.1, tg_run a (cur ++ [y]) r h.2]
    simp
theorem tg_stop {b r : List Nat} (h : b ≠ []) (hs : ∀ c, r.head? = some c → Tk.al c = false) : Tk.tg b r = b :: Tk.tg [] r := by
  cases r with
  | nil => show Tk.emit b = b :: Tk.emit []; rw [Tk.emit_ne h]; rfl
  | cons c r =>
    have n := hs c rfl
    rw [Tk.tg_cons, Tk.tg_cons, n, if_neg Bool.false_ne_true, if_neg Bool.false_ne_true, Tk.emit_ne h]
    rfl
theorem tg_al {l : List Nat} {k e : Nat} (hk : k < e) (he : e ≤ l.length) (h : ∀ (j : Nat) c, k ≤ j → j < e → l[j]? = some c → Tk.al c = true) (hs : ∀ c, l[e]? = some c → Tk.al c = false) :
    Tk.tg [] (l.drop k) = (l.drop k).take (e - k) :: Tk.tg [] (l.drop e) := by
  have e1 : l.drop k = (l.drop k).take (e - k) ++ l.drop e := by
    have : l.drop e = (l.drop k).drop (e - k) := by rw [List.drop_drop]; congr 1; omega
    rw [this, List.take_append_drop]
  have all : ((l.drop k).take (e - k)).all Tk.al = true := by
    rw [List.all_eq_true]
    intro c hc
    obtain ⟨j, hj⟩ := List.mem_iff_getElem?.mp hc
    rw [List.getElem?_take] at hj
    split at hj
    · rw [List.getElem?_drop] at hj
      exact h _ c (by omega) (by omega) hj
    · cases hj
  have ne : (l.drop k).take (e - k) ≠ [] := fun z => by
    have := congrArg List.length z
    rw [List.length_take, List.length_drop] at this
    simp at this
    omega
  rw [e1, tg_run _ _ _ all, List.nil_append, tg_stop ne (fun c hc => hs c (by rw [List.head?_drop] at hc; exact hc)), ← e1]
theorem tg_no {l : List Nat} {k c : Nat} (h : l[k]? = some c) (n : Tk.al c = false) : Tk.tg [] (l.drop k) = (if c = 32 then [] else [[c]]) ++ Tk.tg [] (l.drop (k + 1)) := by
  obtain ⟨hk, e⟩ := List.getElem?_eq_some_iff.mp h
  rw [List.drop_eq_getElem_cons hk, e, Tk.tg_cons, n, if_neg Bool.false_ne_true]
  show [] ++ _ = _
  split <;> rfl
theorem isalnum1 (c : Nat) : Txt.isalnum ⟨#[c]⟩ = Tk.al c := by
  show (decide (0 < (1 : Nat)) && (#[c] : Array Nat).all Unicode.isAlnum) = Unicode.isAlnum c
  simp
theorem one_sp {c : Nat} : (⟨#[c]⟩ : Str) = " " ↔ c = 32 := by
  constructor
  · intro h
    have := congrArg (fun z : Str => z.cps.toList) h
    dsimp only at this
    rw [sp_chars] at this
    have : [c] = [32] := this
    cases this
    rfl
  · rintro rfl
    decide +kernel
theorem tg_mem : ∀ (l cur : List Nat), ∀ p ∈ Tk.tg cur l, ∀ c ∈ p, c ∈ cur ∨ c ∈ l
  | [], cur, p, hp, c, hc => by
    have hp : p ∈ Tk.emit cur := hp
    unfold Tk.emit at hp
    split at hp
    · cases hp
    · rw [List.mem_singleton.mp hp] at hc
      exact .inl hc
  | y :: l, cur, p, hp, c, hc => by
    rw [Tk.tg_cons] at hp
    have em : ∀ {p}, p ∈ Tk.emit cur → c ∈ p → c ∈ cur := fun {p} hp hc => by
      unfold Tk.emit at hp
      split at hp
      · cases hp
      · rw [List.mem_singleton.mp hp] at hc
        exact hc
    split at hp
    · rcases tg_mem l _ p hp c hc with h | h
      · rcases List.mem_append.mp h with h | h
        · exact .inl h
        · rw [List.mem_singleton.mp h]; exact .inr List.mem_cons_self
      · exact .inr (List.mem_cons_of_mem _ h)
    · rcases List.mem_append.mp hp with hp | hp
      · exact .inl (em hp hc)
      · split at hp
        · rcases tg_mem l [] p hp c hc with h | h
          · cases h
          · exact .inr (List.mem_cons_of_mem _ h)
        · rcases List.mem_cons.mp hp with rfl | hp
          · rw [List.mem_singleton.mp hc]; exact .inr List.mem_cons_self
          · rcases tg_mem l [] p hp c hc with h | h
            · cases h
            · exact .inr (List.mem_cons_of_mem _ h)
theorem lay_strs : ∀ ts : List Str, (∀ t ∈ ts, ∀ c ∈ t.cps.toList, c < 128) → PyData.canLayAll0 (ts.map PyData.str) = true
  | [], _ => rfl
  | t :: ts, h => by
    show (PyData.canLay0 (.str t) && PyData.canLayAll0 (ts.map PyData.str)) = true
    rw [lay_strs ts fun u hu => h u (List.mem_cons_of_mem _ hu), Bool.and_true]
    show t.cps.all (fun x => decide (x < 0x110000)) = true
    rw [← Array.all_toList, List.all_eq_true]
    intro c hc
    have := h t List.mem_cons_self c hc
    exact decide_eq_true (by omega)
theorem flat_strs : ∀ ts : List Str, PyData.depthAll (ts.map PyData.str) = 0
  | [] => rfl
  | t :: ts => by
    show max 0 (PyData.depthAll (ts.map PyData.str)) = 0
    rw [flat_strs ts]
    rfl
theorem toks_shaped {x : Str} (h : ∀ c ∈ x.cps.toList, c < 128) : SeqAt.shaped (.list ((toks x).map PyData.str)) = true := by
  have hl : ∀ t ∈ toks x, ∀ c ∈ t.cps.toList, c < 128 := fun t ht c hc => by
    unfold toks at ht
    obtain ⟨p, hp, rfl⟩ := List.mem_map.mp ht
    rw [Tk.chars_S] at hc
    rcases tg_mem _ _ p hp c hc with h' | h'
    · cases h'
    · exact h c h'
  unfold SeqAt.shaped
  rw [Bool.and_eq_true]
  exact ⟨lay_strs _ hl, decide_eq_true (by show PyData.depthAll _ + 1 ≤ 64; rw [flat_strs]; decide)⟩
/-- the words that were found ahead of a place -/
structure Tw (x : Str) (k : Nat) (ts : List (List Nat)) : Prop where
  e : ts ++ Tk.tg [] (x.cps.toList.drop k) = Tk.tg [] x.cps.toList
  n : ts.length ≤ k
section
variable {P : Program} {w : World} {K : PySem.W.Frag} {mg : Str → Option Value} {base : Heap}
abbrev s__law_tokens : Stmt := topS 49
theorem sc__law_tokens : FnScope ["_law_line", "_law_found", "_law_k", "_law_end"] ["_law_line"] (defScope s__law_tokens) := ⟨rfl, rfl, rfl, by decide +kernel, rfl, by decide +kernel, by decide +kernel⟩
theorem h__law_tokens {k : Nat} {f : Addr} {fd : FuncData} (O : Own K mg "_law_tokens" s__law_tokens ["_law_line"] f fd)  (m_len : mg "len" = none) : Has P w K mg base "_law_tokens" ["_law_line"] (k + 1) CX0 (spToks K) f fd := by
  refine O.has (O.F.ok sc__law_tokens (fun vs H Q E h => ?_) (fun cdv A outer s H vs Q E hr h => ?_))
  · obtain ⟨x, rfl, _⟩ := h
    rfl
  obtain ⟨x, rfl, hl, q⟩ := h
  refine ⟨_, (pss_cons (ps_set (i := 1) sc__law_tokens.nd rfl (.inl rfl) (pe_lst pa_nil)) (pss_cons (ps_set (i := 2) sc__law_tokens.nd rfl (.inl rfl) pe_int) (pss_cons (ps_while PassesOwn.never (pt_cmpR op_lt (pv 2) (pe_callB call_len_str (by rfl) m_len (by decide +kernel) (pa_cons (pv 0) pa_nil)) (nomark _)) (pss_cons (ps_set (i := 3) sc__law_tokens.nd rfl (.inl rfl) (pe_op op_add (pv 2) pe_int)) (pss_cons (ps_while PassesOwn.never (PW.pt (pw_and (pt_val (pe_bm0 PySem.F.plainAttrs_str PySem.F.slot_str_isalnum PySem.F.type_str_isalnum mt_isalnum (pe_ix ix_str (pv 0) (pv 2) (fun _ _ => rfl)))) (pw_and (pt_cmpR op_lt (pv 3) (pe_callB call_len_str (by rfl) m_len (by decide +kernel) (pa_cons (pv 0) pa_nil)) (nomark _)) (pw_and1 (pt_val (pe_bm0 PySem.F.plainAttrs_str PySem.F.slot_str_isalnum PySem.F.type_str_isalnum mt_isalnum (pe_ix ix_str (pv 0) (pv 3) (fun _ _ => rfl)))))))) (pss_one (ps_set (i := 3) sc__law_tokens.nd rfl (.inl rfl) (pe_op op_add (pv 3) pe_int)))) (pss_cons (ps_if (pt_cmpR op_ne (pe_ix ix_str (pv 0) (pv 2) (fun _ _ => rfl)) pe_str (nomark _)) (pss_one (ps_expr (pe_bm PySem.F.plainAttrs_list PySem.F.slot_list_append PySem.F.type_list_append mt_append (pv 1) (pa_cons (pe_slice sl_str (pv 0) (po_some (pv 2)) (po_some (pv 3))) pa_nil)))) pss_nil) (pss_one (ps_set (i := 2) sc__law_tokens.nd rfl (.inl rfl) (pv 3))))))) (pss_one (ps_ret (pv 1)))))), ?_⟩
  have z24 : (16777216 : Nat) = sizeLine := by decide
  walk_at "go"
  refine ⟨Nat.zero_le _, fun p np => ?_⟩
  have s1 := same_new (o := .lst []) np
  have h1 : (upd H p (.lst [])) p = some (.lst []) := upd_same
  generalize upd H p (.lst []) = H1 at s1 h1 ⊢
  walk_at "go"
  have lx := len_chars x
  refine ⟨fun m σ H2 => ∃ (k : Nat) (y3 : Option V) (ts : List (List Nat)), σ = [some (.str x), some (.ref p), some (.int k), y3] ∧ k ≤ x.length ∧ m = x.length - k ∧ Same H H2 ∧ H2 p = some (.lst ((ts.map Tk.S).map V.str)) ∧ Tw x k ts,
    ⟨x.length, 0, none, [], rfl, Nat.zero_le _, rfl, s1, h1, ⟨rfl, Nat.le_refl _⟩⟩, fun m σ H2 hW => ?_⟩
  obtain ⟨k, y3, ts, rfl, hk, rfl, s2, h2, ht⟩ := hW
  walk_at "go"
  refine ⟨by omega, ?_⟩
  walk_at "go"
  refine ifd (fun c => ?_) (fun c => ?_)
  · have kn : k < x.length := by omega
    obtain ⟨ch, hch⟩ : ∃ ch, x.cps.toList[k]? = some ch := ⟨_, List.getElem?_eq_getElem (by omega)⟩
    walk_at "go"
    refine ⟨fun σ' H' => ∃ (k2 : Nat) (y3 : Option V) (us : List (List Nat)), σ' = [some (.str x), some (.ref p), some (.int k2), y3] ∧ k < k2 ∧ k2 ≤ x.length ∧ Same H H' ∧ H' p = some (.lst ((us.map Tk.S).map V.str)) ∧ Tw x k2 us, fun σ' H' hN => ?_, ?_⟩
    · obtain ⟨k2, y, us, e1, e2, e3, e4, e5, e6⟩ := hN
      exact ⟨x.length - k2, by omega, k2, y, us, e1, e3, rfl, e4, e5, e6⟩
    walk_at "go"
    refine ⟨fun m σ H3 => ∃ e : Nat, σ = [some (.str x), some (.ref p), some (.int k), some (.int e)] ∧ k < e ∧ e ≤ x.length ∧ m = x.length - e ∧ H3 = H2 ∧ (Tk.al ch = true → ∀ (j : Nat) c, k ≤ j → j < e → x.cps.toList[j]? = some c → Tk.al c = true) ∧ (Tk.al ch = false → e = k + 1),
      ⟨x.length - (k + 1), k + 1, rfl, by omega, by omega, rfl, rfl, fun ha j c j1 j2 hj => ?_, fun _ => rfl⟩, fun m σ H3 hW => ?_⟩
    · have : j = k := by omega
      subst this
      rw [hch] at hj
      cases hj
      exact ha
    obtain ⟨e, rfl, e1, e2, rfl, rfl, hal, hna⟩ := hW
    walk_at "go"
    refine ⟨x, _, ch, rfl, rfl, by omega, at_any (j := k) rfl hch, ?_⟩
    refine ⟨rfl, _, rfl, rfl, trivial, _, rfl, ?_⟩
    rw [isalnum1]
    refine ifb (fun ca => ?_) (fun ca => ?_)
    · walk_at "go"
      refine ⟨by omega, ?_⟩
      walk_at "go"
      refine ifd (fun ce => ?_) (fun ce => ?_)
      · obtain ⟨c2, hc2⟩ : ∃ c2, x.cps.toList[e]? = some c2 := ⟨_, List.getElem?_eq_getElem (by omega)⟩
        walk_at "go"
        refine ⟨x, _, c2, rfl, rfl, by omega, at_any (j := e) rfl hc2, ?_⟩
        refine ⟨rfl, _, rfl, rfl, trivial, _, rfl, ?_⟩
        rw [isalnum1]
        refine ifb (fun cb => ?_) (fun cb => ?_)
        · refine ⟨fun σ' H' => σ' = [some (.str x), some (.ref p), some (.int k), some (.int ((e + 1 : Nat) : Int))] ∧ H' = H3, fun σ' H' hN => ?_, ?_⟩
          · obtain ⟨rfl, rfl⟩ := hN
            refine ⟨x.length - (e + 1), by omega, e + 1, rfl, by omega, by omega, rfl, rfl, fun ha j c j1 j2 hj => ?_, fun z => by rw [ca] at z; cases z⟩
            by_cases je : j = e
            · subst je
              rw [hc2] at hj
              cases hj
              exact cb
            · exact hal ha j c j1 (by omega) hj
          · walk_at "go"
            first
              | exact ⟨rfl, rfl⟩
              | exact rfl
        · have hx : Tk.tg [] (x.cps.toList.drop k) = (if ch = 32 then [] else [(x.cps.toList.drop k).take (e - k)]) ++ Tk.tg [] (x.cps.toList.drop e) := by
            have n32 : ch ≠ 32 := fun z => by rw [z, Tk.al_32] at ca; cases ca
            rw [if_neg n32, tg_al e1 (by omega) (hal ca) fun c hc => by rw [hc2] at hc; cases hc; exact cb]
            rfl
          walk_at "go"
          refine ⟨x, _, ch, rfl, rfl, by omega, at_any (j := k) rfl hch, ?_⟩
          walk_at "go"
          refine ifdn (fun c5 => ?_) (fun c5 => ?_)
          · have c6 := one_sp.mp c5
            rw [if_pos c6] at hx
            walk_at "go"
            exact ⟨e, _, ts, rfl, e1, e2, s2, h2, ⟨by rw [← ht.e, hx]; rfl, by have := ht.n; omega⟩⟩
          · have c6 : ch ≠ 32 := fun z => c5 (one_sp.mpr z)
            rw [if_neg c6] at hx
            walk_at "go"
            refine ⟨.inl ⟨rfl, _, sql h2⟩, ?_⟩
            walk_at "go"
            refine ⟨x, rfl, by omega, ?_⟩
            have ecut : cutS x (some (k : Int)) (some (e : Int)) = Tk.S ((x.cps.toList.drop k).take (e - k)) := by rw [← cut_mid x hk e2, Tk.S_chars]
            walk_at "go"
            rw [ecut]
            refine ⟨p, _, _, rfl, rfl, h2, by rw [List.length_map, List.length_map]; have := ht.n; omega, ?_⟩
            walk_at "go"
            exact ⟨e, _, ts ++ [(x.cps.toList.drop k).take (e - k)], rfl, e1, e2, fun b o h => by rw [upd_ne (fun z => by rw [z, np] at h; cases h)]; exact s2 _ _ h, by rw [upd_same, List.map_append, List.map_append]; rfl, ⟨by rw [← ht.e, hx, List.append_assoc], by rw [List.length_append, List.length_singleton]; have := ht.n; omega⟩⟩
      · have hx : Tk.tg [] (x.cps.toList.drop k) = (if ch = 32 then [] else [(x.cps.toList.drop k).take (e - k)]) ++ Tk.tg [] (x.cps.toList.drop e) := by
          have n32 : ch ≠ 32 := fun z => by rw [z, Tk.al_32] at ca; cases ca
          rw [if_neg n32, tg_al e1 (by omega) (hal ca) fun c hc => by rw [List.getElem?_eq_none (by omega)] at hc; cases hc]
          rfl
        walk_at "go"
        refine ⟨x, _, ch, rfl, rfl, by omega, at_any (j := k) rfl hch, ?_⟩
        walk_at "go"
        refine ifdn (fun c5 => ?_) (fun c5 => ?_)
        · have c6 := one_sp.mp c5
          rw [if_pos c6] at hx
          walk_at "go"
          exact ⟨e, _, ts, rfl, e1, e2, s2, h2, ⟨by rw [← ht.e, hx]; rfl, by have := ht.n; omega⟩⟩
        · have c6 : ch ≠ 32 := fun z => c5 (one_sp.mpr z)
          rw [if_neg c6] at hx
          walk_at "go"
          refine ⟨.inl ⟨rfl, _, sql h2⟩, ?_⟩
          walk_at "go"
          refine ⟨x, rfl, by omega, ?_⟩
          have ecut : cutS x (some (k : Int)) (some (e : Int)) = Tk.S ((x.cps.toList.drop k).take (e - k)) := by rw [← cut_mid x hk e2, Tk.S_chars]
          walk_at "go"
          rw [ecut]
          refine ⟨p, _, _, rfl, rfl, h2, by rw [List.length_map, List.length_map]; have := ht.n; omega, ?_⟩
          walk_at "go"
          exact ⟨e, _, ts ++ [(x.cps.toList.drop k).take (e - k)], rfl, e1, e2, fun b o h => by rw [upd_ne (fun z => by rw [z, np] at h; cases h)]; exact s2 _ _ h, by rw [upd_same, List.map_append, List.map_append]; rfl, ⟨by rw [← ht.e, hx, List.append_assoc], by rw [List.length_append, List.length_singleton]; have := ht.n; omega⟩⟩
    · have hx : Tk.tg [] (x.cps.toList.drop k) = (if ch = 32 then [] else [(x.cps.toList.drop k).take (e - k)]) ++ Tk.tg [] (x.cps.toList.drop e) := by
        have ek := hna ca
        subst ek
        rw [tg_no hch ca]
        have t1 : (x.cps.toList.drop k).take (k + 1 - k) = [ch] := by
          obtain ⟨hk', ek'⟩ := List.getElem?_eq_some_iff.mp hch
          rw [List.drop_eq_getElem_cons hk', ek', Nat.add_sub_cancel_left]
          rfl
        rw [t1]
      walk_at "go"
      refine ⟨x, _, ch, rfl, rfl, by omega, at_any (j := k) rfl hch, ?_⟩
      walk_at "go"
      refine ifdn (fun c5 => ?_) (fun c5 => ?_)
      · have c6 := one_sp.mp c5
        rw [if_pos c6] at hx
        walk_at "go"
        exact ⟨e, _, ts, rfl, e1, e2, s2, h2, ⟨by rw [← ht.e, hx]; rfl, by have := ht.n; omega⟩⟩
      · have c6 : ch ≠ 32 := fun z => c5 (one_sp.mpr z)
        rw [if_neg c6] at hx
        walk_at "go"
        refine ⟨.inl ⟨rfl, _, sql h2⟩, ?_⟩
        walk_at "go"
        refine ⟨x, rfl, by omega, ?_⟩
        have ecut : cutS x (some (k : Int)) (some (e : Int)) = Tk.S ((x.cps.toList.drop k).take (e - k)) := by rw [← cut_mid x hk e2, Tk.S_chars]
        walk_at "go"
        rw [ecut]
        refine ⟨p, _, _, rfl, rfl, h2, by rw [List.length_map, List.length_map]; have := ht.n; omega, ?_⟩
        walk_at "go"
        exact ⟨e, _, ts ++ [(x.cps.toList.drop k).take (e - k)], rfl, e1, e2, fun b o h => by rw [upd_ne (fun z => by rw [z, np] at h; cases h)]; exact s2 _ _ h, by rw [upd_same, List.map_append, List.map_append]; rfl, ⟨by rw [← ht.e, hx, List.append_assoc], by rw [List.length_append, List.length_singleton]; have := ht.n; omega⟩⟩
  · walk_at "go"
    have kk : k = x.length := by omega
    have e : ts = Tk.tg [] x.cps.toList := by
      have := ht.e
      rw [kk, lx, List.drop_length] at this
      rw [← this]
      show ts = ts ++ []
      rw [List.append_nil]
    rw [e] at h2
    exact q p H2 s2 np h2
end

/-! ### the law -/
theorem nms_words {c : Cfg} (ok : c.Ok) {m : Nat} : ∀ x ∈ nmsN c m, isW x = true := fun x h => by
  unfold nmsN at h
  obtain ⟨i, _, rfl⟩ := List.mem_map.mp h
  exact wd_word ok (by omega)
def spLaw (K : PySem.W.Frag) (PT : Addr) : Sp := fun vs H Q _ => ∃ (ns : List Int) (na : Addr), vs = [.ref na] ∧ SqL K H na (ns.map V.int) ∧ ns.length ≤ 63 ∧ GxR.TabG H PT ∧ ∀ H', Q (.bl true) H'
section
variable {P : Program} {w : World} {K : PySem.W.Frag} {mg : Str → Option Value} {base : Heap}
abbrev s_law : Stmt := topS 51
theorem sc_law : FnScope ["_law_script", "_law_s", "_law_contract_here", "_law_text_here", "_law_k", "_law_found", "e"] ["_law_script"] (defScope s_law) := ⟨rfl, rfl, rfl, by decide +kernel, rfl, by decide +kernel, by decide +kernel⟩
theorem h_law {PT : Addr} {k : Nat} {f : Addr} {fd : FuncData} (O : Own K mg "law" s_law ["_law_script"] f fd) {C_BadText : Addr} (X_BadText : ExcT K mg "BadText" C_BadText) {C_TooMany : Addr} (X_TooMany : ExcT K mg "TooMany" C_TooMany) {C_BadMarket : Addr} (X_BadMarket : ExcT K mg "BadMarket" C_BadMarket) {C_BadContract : Addr} (X_BadContract : ExcT K mg "BadContract" C_BadContract) (ER : Errs K C_BadText C_BadText C_BadContract C_BadMarket C_TooMany) {f__law_alike : Addr} {fd__law_alike : FuncData} (D__law_alike : Has P w K mg base "_law_alike" ["_law_found", "_law_due"] k CX0 (spAlike K 14) f__law_alike fd__law_alike) {f_read : Addr} {fd_read : FuncData} (D_read : Has P w K mg base "read" ["text"] k (L2.CX P w) (spRead K C_BadText PT) f_read fd_read) {f_written : Addr} {fd_written : FuncData} (D_written : Has P w K mg base "written" ["contract"] k CX0 (spTx K 13) f_written fd_written) {f__law_tokens : Addr} {fd__law_tokens : FuncData} (D__law_tokens : Has P w K mg base "_law_tokens" ["_law_line"] k CX0 (spToks K) f__law_tokens fd__law_tokens) {f__law_text : Addr} {fd__law_text : FuncData} (D__law_text : Has P w K mg base "_law_text" ["_law_told_here"] k CX0 (spTx K 13) f__law_text fd__law_text) {f_need_contract : Addr} {fd_need_contract : FuncData} (D_need_contract : Has P w K mg base "need_contract" ["contract"] k (BkX.CX P w) (spNeed K C_BadContract PT) f_need_contract fd_need_contract) {f__law_taken : Addr} {fd__law_taken : FuncData} (D__law_taken : Has P w K mg base "_law_taken" ["_law_s", "_law_most"] k CX0 (spTaken K) f__law_taken fd__law_taken) {f__law_spoilt : Addr} {fd__law_spoilt : FuncData} (D__law_spoilt : Has P w K mg base "_law_spoilt" ["_law_s", "_law_line"] k CX0 (spSpoilt K) f__law_spoilt fd__law_spoilt) {f__law_drawn : Addr} {fd__law_drawn : FuncData} (D__law_drawn : Has P w K mg base "_law_drawn" ["_law_s", "_law_many"] k CX0 (spDrawn K) f__law_drawn fd__law_drawn) {f__law_begun : Addr} {fd__law_begun : FuncData} (D__law_begun : Has P w K mg base "_law_begun" ["_law_script"] k CX0 (spBegun K) f__law_begun fd__law_begun) (m_isinstance : mg "isinstance" = none) (m_ValueError : mg "ValueError" = none) (m_range : mg "range" = none) : Has P w K mg base "law" ["_law_script"] (k + 1) CX0 (spLaw K PT) f fd := by
  refine O.has (O.F.ok sc_law (fun vs H Q E h => ?_) (fun cdv A outer s H vs Q E hr h => ?_))
  · obtain ⟨ns, na, rfl, _⟩ := h
    rfl
  obtain ⟨ns, na, rfl, hS, h63, ht, q⟩ := h
  refine ⟨_, (pss_cons (ps_set (i := 1) sc_law.nd rfl (.inl rfl) (pe_call D__law_begun.G hr (by rfl) D__law_begun.g D__law_begun.k D__law_begun.b .nil pass0 (pa_cons (pv 0) pa_nil))) (pss_cons (ps_set (i := 2) sc_law.nd rfl (.inl rfl) (pe_call D__law_drawn.G hr (by rfl) D__law_drawn.g D__law_drawn.k D__law_drawn.b .nil pass0 (pa_cons (pv 1) (pa_cons (pe_call D__law_taken.G hr (by rfl) D__law_taken.g D__law_taken.k D__law_taken.b .nil pass0 (pa_cons (pv 1) (pa_cons pe_int pa_nil))) pa_nil)))) (pss_cons (ps_set (i := 3) sc_law.nd rfl (.inl rfl) (pe_call D__law_text.G hr (by rfl) D__law_text.g D__law_text.k D__law_text.b .nil pass0 (pa_cons (pv 2) pa_nil))) (pss_cons (ps_for PassesOwn.never rfl (pi_range1 (by rfl) m_range (pa_cons (pe_op op_add pe_int (pe_call D__law_taken.G hr (by rfl) D__law_taken.g D__law_taken.k D__law_taken.b .nil pass0 (pa_cons (pv 1) (pa_cons pe_int pa_nil)))) pa_nil)) (pg_name (i := 4) sc_law.nd rfl (.inl rfl)) (pss_one (ps_set (i := 3) sc_law.nd rfl (.inl rfl) (pe_call D__law_spoilt.G hr (by rfl) D__law_spoilt.g D__law_spoilt.k D__law_spoilt.b .nil pass0 (pa_cons (pv 1) (pa_cons (pv 3) pa_nil)))))) (pss_cons (ps_try_as (i := 6) rfl rfl sc_law.nd rfl rfl ⟨rfl, by decide, .inl X_BadText.g⟩ takes0 (fun W pn xe tk _ => (pss_one (ps_set (i := 5) sc_law.nd rfl (.inl rfl) (pe_callS D_read.G hr (by rfl) D_read.g D_read.k D_read.b (fun σ => passAt tk σ) (pa_cons (pv 3) pa_nil))))) (fun a oe cls d pn hz hf => (pss_cons (ps_if (PW.pt (pw_or (pt_val (pe_callB (call_isX hz hf) (by rfl) m_isinstance (by decide +kernel) (pa_cons (pv 6) (pa_cons (pe_glob (v := .ref C_BadContract) (by rfl) X_BadContract.g rfl) pa_nil)))) (pw_or (pt_val (pe_callB (call_isX hz hf) (by rfl) m_isinstance (by decide +kernel) (pa_cons (pv 6) (pa_cons (pe_glob (v := .ref C_BadMarket) (by rfl) X_BadMarket.g rfl) pa_nil)))) (pw_or1 (pt_val (pe_callB (call_isX hz hf) (by rfl) m_isinstance (by decide +kernel) (pa_cons (pv 6) (pa_cons (pe_glob (v := .ref C_TooMany) (by rfl) X_TooMany.g rfl) pa_nil)))))))) (pss_one (ps_ret pe_bl)) pss_nil) (pss_one (ps_ret (pe_callB (call_isX hz hf) (by rfl) m_isinstance (by decide +kernel) (pa_cons (pv 6) (pa_cons (pe_bltn (v := .ty "ValueError") (by rfl) m_ValueError (by decide +kernel) rfl) pa_nil)))))))) (pss_cons (ps_if (pt_cmpR op_notN (pe_call D_need_contract.G hr (by rfl) D_need_contract.g D_need_contract.k D_need_contract.b .nil BkX.pass_never (pa_cons (pv 5) pa_nil)) pe_non (nomark _)) (pss_one (ps_ret pe_bl)) pss_nil) (pss_cons (ps_if (pt_cmpR (op_neD hr.units) (pe_call D__law_tokens.G hr (by rfl) D__law_tokens.g D__law_tokens.k D__law_tokens.b .nil pass0 (pa_cons (pv 3) pa_nil)) (pe_call D__law_tokens.G hr (by rfl) D__law_tokens.g D__law_tokens.k D__law_tokens.b .nil pass0 (pa_cons (pe_call D__law_text.G hr (by rfl) D__law_text.g D__law_text.k D__law_text.b .nil pass0 (pa_cons (pv 5) pa_nil)) pa_nil)) (nomark _)) (pss_one (ps_ret pe_bl)) pss_nil) (pss_one (ps_ret (pe_call D__law_alike.G hr (by rfl) D__law_alike.g D__law_alike.k D__law_alike.b .nil pass0 (pa_cons (pe_call D_read.G hr (by rfl) D_read.g D_read.k D_read.b .nil passL (pa_cons (pe_call D_written.G hr (by rfl) D_written.g D_written.k D_written.b .nil pass0 (pa_cons (pv 5) pa_nil)) pa_nil)) (pa_cons (pv 5) pa_nil)))))))))))), ?_⟩
  walk_at "go"
  refine use_begun hS h63 fun c s nm H1 e1 ns1 L1 => ?_
  have ht1 := tab_same ht e1
  have ok := L1.ok
  walk_at "go"
  refine use_taken L1 (by decide) (by decide) fun m H2 m0 m1 e2 L2 => ?_
  have ht2 := L1.tab ht1 e2
  walk_at "go"
  refine use_drawn (m := m.toNat) L2 (by omega) (by omega) fun v t nm2 H3 e3 L3 d3 i3 p3 b3 => ?_
  have ht3 := L2.tab ht2 e3
  have hx := nms_words ok (m := m.toNat)
  have hd3 := DK.data d3
  have hw3 : wf 12 "contract" (kD t) = true := wf_kD hx i3 (by omega)
  obtain ⟨hk3, hl3⟩ := tok_k hx (n := 13) (m := 5) i3 p3 (by decide) (by decide)
  have hW3 := W_tx hw3
  walk_at "go"
  refine use_tx hd3 hk3 fun H4 e4 => ?_
  have L4 := L3.same e4
  have ht4 := tab_same ht3 e4
  generalize tx (kD t) = x0 at hl3 hW3 ⊢
  clear hd3 d3 L3 ht3
  walk_at "go"
  refine use_taken L4 (by decide) (by decide) fun r H5 r0 r1 e5 L5 => ?_
  have ht5 := L4.tab ht4 e5
  walk_at "go"
  refine ⟨by omega, by omega, ?_⟩
  have hl0 : x0.length ≤ 3335 := Nat.le_trans hl3 b3
  refine for_range (lo := 0) (n := (1 + r).toNat) (fun i σ H6 => ∃ (y : Str) (y4 : Option V), σ = [some (.ref na), some (.ref s), some v, some (.str y), y4, none, none] ∧ LS K c ns (nmsN c m.toNat) s na nm2 H6 ∧ GxR.TabG H6 PT ∧ Tk.W y.cps.toList ≤ 3335 + 6 * i ∧ y.length ≤ 3335 + 6 * i)
    ⟨x0, none, rfl, L5, ht5, by rw [hW3]; omega, by omega⟩ (fun i σ H6 hi hW => ?_) (fun σ H6 hW => ?_)
  · obtain ⟨y, y4, rfl, L6, ht6, w6, l6⟩ := hW
    walk_at "go"
    refine use_spoilt L6 (by omega) fun z H7 e7 L7 w7 l7 => ?_
    walk_at "go"
    exact ⟨L7, L6.tab ht6 e7, by omega, by omega⟩
  obtain ⟨y, y4, rfl, L6, ht6, w6, l6⟩ := hW
  have w4 : Tk.W y.cps.toList ≤ 4000 := by omega
  have l4 : y.length ≤ 4000 := by omega
  clear w6 l6 hl0 hl3 hW3
  walk_at "go"
  refine g_callS ?_
  walk_at "go"
  refine use_read (by omega) ht6 (fun er H7 => ?_) (fun d er v7 H7 t7 d7 => ?_)
  · refine ⟨true, ER.exm, fun _ a na => ?_, fun z => Bool.noConfusion z⟩
    walk_at "go"
    refine use_isX ER.ec (fun _ h => h) ER.iM ?_
    walk_at "go"
    refine use_isX ER.ec (fun _ h => h) ER.iX ?_
    walk_at "go"
    refine use_isX ER.ec (fun _ h => h) ER.iT ?_
    walk_at "go"
    refine use_isX ER.ec (fun _ h => h) ER.iV ?_
    walk_at "go"
    exact q H7
  obtain ⟨g12, ra, la, tk⟩ := rd_again er w4
  obtain ⟨_, hw, _⟩ := Tk.rd_some er
  have g13 := wf_gd 13 _ _ (wf_more (by decide) hw)
  have z7 : szOk d = true := rF_sz _ _ _ _ _ (Tk.rd_some er).2.2 fun q hq => by have := Tk.pcs_len hq; omega
  have k7 : tOk 13 d := g12.t (by omega)
  walk_at "go"
  refine use_need d7.dp z7 t7.g (fun _ H8 t8 => ?_) (fun e => by rw [hw] at e; cases e)
  replace d7 := DT.tm (t8.dm t7.g).t d7
  have ht8 := t8.g
  clear t7 t8
  walk_at "go"
  refine ifdn (fun _ => ?_) (fun c => absurd rfl c)
  walk_at "go"
  refine use_toks (by omega) fun p9 H9 e9 n9 h9 => ?_
  replace d7 := DT.tm (.of e9) d7
  have ht9 := tab_same ht8 e9
  walk_at "go"
  refine use_tx d7.dp k7 fun H10 e10 => ?_
  replace d7 := DT.tm (.of e10) d7
  have ht10 := tab_same ht9 e10
  have h10 := e10 _ _ h9
  walk_at "go"
  refine use_toks (by omega) fun p11 H11 e11 n11 h11 => ?_
  replace d7 := DT.tm (.of e11) d7
  have ht11 := tab_same ht10 e11
  have h9' := e11 _ _ h10
  have et : toks y = toks (tx d) := by unfold toks; rw [tk]
  rw [et] at h9'
  walk_at "go"
  have sh := toks_shaped g12.lo
  refine ⟨.list ((toks (tx d)).map PyData.str), .list ((toks (tx d)).map PyData.str), .lst (sql h9') (dpStrs _), .lst (sql h11) (dpStrs _), sh, sh, ?_⟩
  rw [PySem.SeqAt.eqv_refl _ (SeqAt.canLay_of_shaped sh)]
  refine ⟨_, rfl, iteNT ?_⟩
  walk_at "go"
  refine use_tx d7.dp k7 fun H12 e12 => ?_
  replace d7 := DT.tm (.of e12) d7
  have ht12 := tab_same ht11 e12
  walk_at "go"
  refine use_read (by omega) ht12 (fun er H13 => by rw [ra] at er; cases er) (fun d' er' v13 H13 t13 d13 => ?_)
  rw [ra] at er'
  cases er'
  replace d7 := DT.tm (t13.dm ht12).t d7
  walk_at "go"
  refine use_alike (n := 14) d13.dp d7.dp g13.a fun H14 e14 => ?_
  exact q H14
end

theorem all_mk {q : Program} {l : PySem.W.OpenLaw} {w : World} {K : PySem.W.Frag} {h : Heap} {mg : Str → Option Value} {fa : Addr} (X : K.In h) (G : h.Ns mainGlobals mg) (hfa : mg "law" = some (.ref fa)) (TO : TabsOf q K h)
    {C_Pieces : Addr}
    {f0 : Addr} {od0 an0 : Option Addr} {sl0 : Array (Option Value)} {oc0 kV0 dc0 pm0 ct0 : Value} {cd0 : Value}
    {f1 : Addr} {od1 an1 : Option Addr} {sl1 : Array (Option Value)} {oc1 kV1 dc1 pm1 ct1 : Value} {cd1 : Value}
    {f2 : Addr} {od2 an2 : Option Addr} {sl2 : Array (Option Value)} {oc2 kV2 dc2 pm2 ct2 : Value} {cd2 : Value}
    {f3 : Addr} {od3 an3 : Option Addr} {sl3 : Array (Option Value)} {oc3 kV3 dc3 pm3 ct3 : Value} {cd3 : Value}
    {f4 : Addr} {od4 an4 : Option Addr} {sl4 : Array (Option Value)} {oc4 kV4 dc4 pm4 ct4 : Value} {cd4 : Value}
    {f5 : Addr} {od5 an5 : Option Addr} {sl5 : Array (Option Value)} {oc5 kV5 dc5 pm5 ct5 : Value} {cd5 : Value}
    {f6 : Addr} {od6 an6 : Option Addr} {sl6 : Array (Option Value)} {oc6 kV6 dc6 pm6 ct6 : Value} {cd6 : Value}
    {f7 : Addr} {od7 an7 : Option Addr} {sl7 : Array (Option Value)} {oc7 kV7 dc7 pm7 ct7 : Value} {cd7 : Value}
    {f8 : Addr} {od8 an8 : Option Addr} {sl8 : Array (Option Value)} {oc8 kV8 dc8 pm8 ct8 : Value} {cd8 : Value}
    {f9 : Addr} {od9 an9 : Option Addr} {sl9 : Array (Option Value)} {oc9 kV9 dc9 pm9 ct9 : Value} {cd9 : Value}
    {f10 : Addr} {od10 an10 : Option Addr} {sl10 : Array (Option Value)} {oc10 kV10 dc10 pm10 ct10 : Value} {cd10 : Value}
    {f11 : Addr} {od11 an11 : Option Addr} {sl11 : Array (Option Value)} {oc11 kV11 dc11 pm11 ct11 : Value} {cd11 : Value}
    {f12 : Addr} {od12 an12 : Option Addr} {sl12 : Array (Option Value)} {oc12 kV12 dc12 pm12 ct12 : Value} {cd12 : Value}
    {f13 : Addr} {od13 an13 : Option Addr} {sl13 : Array (Option Value)} {oc13 kV13 dc13 pm13 ct13 : Value} {cd13 : Value}
    {f14 : Addr} {od14 an14 : Option Addr} {sl14 : Array (Option Value)} {oc14 kV14 dc14 pm14 ct14 : Value} {cd14 : Value}
    {f15 : Addr} {od15 an15 : Option Addr} {sl15 : Array (Option Value)} {oc15 kV15 dc15 pm15 ct15 : Value} {cT PT : Addr} {oq : Value} {oe : Option Addr} {vq : Array Value} {sq : Array (Option Value)}
    {f16 : Addr} {od16 an16 : Option Addr} {sl16 : Array (Option Value)} {oc16 kV16 dc16 pm16 ct16 : Value} {cd16 : Value}
    {f17 : Addr} {od17 an17 : Option Addr} {sl17 : Array (Option Value)} {oc17 kV17 dc17 pm17 ct17 : Value} {cd17 : Value}
    {f18 : Addr} {od18 an18 : Option Addr} {sl18 : Array (Option Value)} {oc18 kV18 dc18 pm18 ct18 : Value} {cd18 : Value}
    {f19 : Addr} {od19 an19 : Option Addr} {sl19 : Array (Option Value)} {oc19 kV19 dc19 pm19 ct19 : Value} {cd19 : Value}
    {f20 : Addr} {od20 an20 : Option Addr} {sl20 : Array (Option Value)} {oc20 kV20 dc20 pm20 ct20 : Value} {cd20 : Value}
    {f21 : Addr} {od21 an21 : Option Addr} {sl21 : Array (Option Value)} {oc21 kV21 dc21 pm21 ct21 : Value} {cd21 : Value}
    {f22 : Addr} {od22 an22 : Option Addr} {sl22 : Array (Option Value)} {oc22 kV22 dc22 pm22 ct22 : Value} {cd22 : Value}
    {f23 : Addr} {od23 an23 : Option Addr} {sl23 : Array (Option Value)} {oc23 kV23 dc23 pm23 ct23 : Value} {cd23 : Value}
    {f24 : Addr} {od24 an24 : Option Addr} {sl24 : Array (Option Value)} {oc24 kV24 dc24 pm24 ct24 cd24 : Value}
    {f25 : Addr} {od25 an25 : Option Addr} {sl25 : Array (Option Value)} {oc25 kV25 dc25 pm25 ct25 cd25 : Value}
    {f26 : Addr} {od26 an26 : Option Addr} {sl26 : Array (Option Value)} {oc26 kV26 dc26 pm26 ct26 cd26 : Value}
    {f27 : Addr} {od27 an27 : Option Addr} {sl27 : Array (Option Value)} {oc27 kV27 dc27 pm27 ct27 cd27 : Value}
    {f28 : Addr} {od28 an28 : Option Addr} {sl28 : Array (Option Value)} {oc28 kV28 dc28 pm28 ct28 cd28 : Value}
    {f29 : Addr} {od29 an29 : Option Addr} {sl29 : Array (Option Value)} {oc29 kV29 dc29 pm29 ct29 : Value} {cd29 : Value}
    {f30 : Addr} {od30 an30 : Option Addr} {sl30 : Array (Option Value)} {oc30 kV30 dc30 pm30 ct30 : Value} {cd30 : Value}
    {f31 : Addr} {od31 an31 : Option Addr} {sl31 : Array (Option Value)} {oc31 kV31 dc31 pm31 ct31 : Value} {cd31 : Value}
    {f32 : Addr} {od32 an32 : Option Addr} {sl32 : Array (Option Value)} {oc32 kV32 dc32 pm32 ct32 : Value} {cd32 : Value}
    {f33 : Addr} {od33 an33 : Option Addr} {sl33 : Array (Option Value)} {oc33 kV33 dc33 pm33 ct33 : Value} {cd33 : Value}
    {f34 : Addr} {od34 an34 : Option Addr} {sl34 : Array (Option Value)} {oc34 kV34 dc34 pm34 ct34 : Value} {cd34 : Value}
    {f35 : Addr} {od35 an35 : Option Addr} {sl35 : Array (Option Value)} {oc35 kV35 dc35 pm35 ct35 : Value} {cd35 : Value}
    {C_BadContract : Addr}
    {C_BadText : Addr}
    {C_TooMany : Addr}
    {C_BadMarket : Addr}
    {t_LETTERS : Tok}
    {t_LONGEST_WORD : Tok}
    {t_TOO_LARGE : Tok}
    {d_NUMBERS : Addr}
    {d_CONDITIONS : Addr}
    {d_CONTRACTS : Addr}
    {t_DEEPEST : Tok}
    {t_FIGURES : Tok}
    {t_MOST_FIGURES : Tok}
    {t_LONGEST_TEXT : Tok}
    (ca_Pieces : PySem.W.nsIn K mainGlobals "Pieces" = some (some (.ref C_Pieces))) (pg_Pieces : PySem.W.plainGet K C_Pieces Str.empty = true) (hd_Pieces : PySem.W.hasDictIn K C_Pieces = true) (po_Pieces : PySem.W.plainOver K C_Pieces = true) (sa_Pieces : PySem.W.findIn K (.ref C_Pieces) "__setattr__" = some (some (.builtin "object.__setattr__"))) (n_Pieces__left : PySem.W.findIn K (.ref C_Pieces) "_left" = some none)
    (a0 : PySem.W.nsIn K mainGlobals "_law_taken" = some (some (.ref f0))) (l0 : K.lookup f0 = some ⟨oc0, od0, .func (PySem.W.fnOf "_law_taken" "_law_taken" (defArgs s__law_taken) (defBody s__law_taken) (defScope s__law_taken) .none kV0 dc0 pm0 an0 cd0 ct0), sl0⟩) (c0 : PySem.W.codeIn K cd0 "_law_taken" = true) (k0 : PySem.W.keepIn K (.ref f0) = true)
    (a1 : PySem.W.nsIn K mainGlobals "_law_word" = some (some (.ref f1))) (l1 : K.lookup f1 = some ⟨oc1, od1, .func (PySem.W.fnOf "_law_word" "_law_word" (defArgs s__law_word) (defBody s__law_word) (defScope s__law_word) .none kV1 dc1 pm1 an1 cd1 ct1), sl1⟩) (c1 : PySem.W.codeIn K cd1 "_law_word" = true) (k1 : PySem.W.keepIn K (.ref f1) = true)
    (a2 : PySem.W.nsIn K mainGlobals "_law_number" = some (some (.ref f2))) (l2 : K.lookup f2 = some ⟨oc2, od2, .func (PySem.W.fnOf "_law_number" "_law_number" (defArgs s__law_number) (defBody s__law_number) (defScope s__law_number) .none kV2 dc2 pm2 an2 cd2 ct2), sl2⟩) (c2 : PySem.W.codeIn K cd2 "_law_number" = true) (k2 : PySem.W.keepIn K (.ref f2) = true)
    (a3 : PySem.W.nsIn K mainGlobals "_law_told" = some (some (.ref f3))) (l3 : K.lookup f3 = some ⟨oc3, od3, .func (PySem.W.fnOf "_law_told" "_law_told" (defArgs s__law_told) (defBody s__law_told) (defScope s__law_told) .none kV3 dc3 pm3 an3 cd3 ct3), sl3⟩) (c3 : PySem.W.codeIn K cd3 "_law_told" = true) (k3 : PySem.W.keepIn K (.ref f3) = true)
    (a4 : PySem.W.nsIn K mainGlobals "_law_begun" = some (some (.ref f4))) (l4 : K.lookup f4 = some ⟨oc4, od4, .func (PySem.W.fnOf "_law_begun" "_law_begun" (defArgs s__law_begun) (defBody s__law_begun) (defScope s__law_begun) .none kV4 dc4 pm4 an4 cd4 ct4), sl4⟩) (c4 : PySem.W.codeIn K cd4 "_law_begun" = true) (k4 : PySem.W.keepIn K (.ref f4) = true)
    (a5 : PySem.W.nsIn K mainGlobals "_law_asked" = some (some (.ref f5))) (l5 : K.lookup f5 = some ⟨oc5, od5, .func (PySem.W.fnOf "_law_asked" "_law_asked" (defArgs s__law_asked) (defBody s__law_asked) (defScope s__law_asked) .none kV5 dc5 pm5 an5 cd5 ct5), sl5⟩) (c5 : PySem.W.codeIn K cd5 "_law_asked" = true) (k5 : PySem.W.keepIn K (.ref f5) = true)
    (a6 : PySem.W.nsIn K mainGlobals "_law_sides" = some (some (.ref f6))) (l6 : K.lookup f6 = some ⟨oc6, od6, .func (PySem.W.fnOf "_law_sides" "_law_sides" (defArgs s__law_sides) (defBody s__law_sides) (defScope s__law_sides) .none kV6 dc6 pm6 an6 cd6 ct6), sl6⟩) (c6 : PySem.W.codeIn K cd6 "_law_sides" = true) (k6 : PySem.W.keepIn K (.ref f6) = true)
    (a7 : PySem.W.nsIn K mainGlobals "_law_good" = some (some (.ref f7))) (l7 : K.lookup f7 = some ⟨oc7, od7, .func (PySem.W.fnOf "_law_good" "_law_good" (defArgs s__law_good) (defBody s__law_good) (defScope s__law_good) .none kV7 dc7 pm7 an7 cd7 ct7), sl7⟩) (c7 : PySem.W.codeIn K cd7 "_law_good" = true) (k7 : PySem.W.keepIn K (.ref f7) = true)
    (a8 : PySem.W.nsIn K mainGlobals "_law_give" = some (some (.ref f8))) (l8 : K.lookup f8 = some ⟨oc8, od8, .func (PySem.W.fnOf "_law_give" "_law_give" (defArgs s__law_give) (defBody s__law_give) (defScope s__law_give) .none kV8 dc8 pm8 an8 cd8 ct8), sl8⟩) (c8 : PySem.W.codeIn K cd8 "_law_give" = true) (k8 : PySem.W.keepIn K (.ref f8) = true)
    (a9 : PySem.W.nsIn K mainGlobals "_law_contract" = some (some (.ref f9))) (l9 : K.lookup f9 = some ⟨oc9, od9, .func (PySem.W.fnOf "_law_contract" "_law_contract" (defArgs s__law_contract) (defBody s__law_contract) (defScope s__law_contract) .none kV9 dc9 pm9 an9 cd9 ct9), sl9⟩) (c9 : PySem.W.codeIn K cd9 "_law_contract" = true) (k9 : PySem.W.keepIn K (.ref f9) = true)
    (a10 : PySem.W.nsIn K mainGlobals "_law_drawn" = some (some (.ref f10))) (l10 : K.lookup f10 = some ⟨oc10, od10, .func (PySem.W.fnOf "_law_drawn" "_law_drawn" (defArgs s__law_drawn) (defBody s__law_drawn) (defScope s__law_drawn) .none kV10 dc10 pm10 an10 cd10 ct10), sl10⟩) (c10 : PySem.W.codeIn K cd10 "_law_drawn" = true) (k10 : PySem.W.keepIn K (.ref f10) = true)
    (a11 : PySem.W.nsIn K mainGlobals "_law_alike" = some (some (.ref f11))) (l11 : K.lookup f11 = some ⟨oc11, od11, .func (PySem.W.fnOf "_law_alike" "_law_alike" (defArgs s__law_alike) (defBody s__law_alike) (defScope s__law_alike) .none kV11 dc11 pm11 an11 cd11 ct11), sl11⟩) (c11 : PySem.W.codeIn K cd11 "_law_alike" = true) (k11 : PySem.W.keepIn K (.ref f11) = true)
    (a12 : PySem.W.nsIn K mainGlobals "_written" = some (some (.ref f12))) (l12 : K.lookup f12 = some ⟨oc12, od12, .func (PySem.W.fnOf "_written" "_written" (defArgs s__written) (defBody s__written) (defScope s__written) .none kV12 dc12 pm12 an12 cd12 ct12), sl12⟩) (c12 : PySem.W.codeIn K cd12 "_written" = true) (k12 : PySem.W.keepIn K (.ref f12) = true)
    (a13 : PySem.W.nsIn K mainGlobals "_law_text" = some (some (.ref f13))) (l13 : K.lookup f13 = some ⟨oc13, od13, .func (PySem.W.fnOf "_law_text" "_law_text" (defArgs s__law_text) (defBody s__law_text) (defScope s__law_text) .none kV13 dc13 pm13 an13 cd13 ct13), sl13⟩) (c13 : PySem.W.codeIn K cd13 "_law_text" = true) (k13 : PySem.W.keepIn K (.ref f13) = true)
    (a14 : PySem.W.nsIn K mainGlobals "written" = some (some (.ref f14))) (l14 : K.lookup f14 = some ⟨oc14, od14, .func (PySem.W.fnOf "written" "written" (defArgs s_written) (defBody s_written) (defScope s_written) .none kV14 dc14 pm14 an14 cd14 ct14), sl14⟩) (c14 : PySem.W.codeIn K cd14 "written" = true) (k14 : PySem.W.keepIn K (.ref f14) = true)
    (a15 : PySem.W.nsIn K mainGlobals "is_word" = some (some (.ref f15))) (l15 : K.lookup f15 = some ⟨oc15, od15, .func (PySem.W.fnOf "is_word" "is_word" (defArgs s_is_word) (defBody s_is_word) (defScope s_is_word) .none kV15 dc15 pm15 an15 (.ref cT) ct15), sl15⟩) (c15 : PySem.W.codeIn K (.ref cT) "is_word" = true) (k15 : PySem.W.keepIn K (.ref f15) = true)
    (cc : K.lookup cT = some ⟨oq, oe, .fields vq, sq⟩) (v11 : (vq[11]? : Option Value) = some (.ref PT)) (rT : ((recsOf q).find? (fun e => e.name == ("is_word" : Str))).isSome = true) (nP : K.lookup PT = none)
    (a16 : PySem.W.nsIn K mainGlobals "is_whole" = some (some (.ref f16))) (l16 : K.lookup f16 = some ⟨oc16, od16, .func (PySem.W.fnOf "is_whole" "is_whole" (defArgs s_is_whole) (defBody s_is_whole) (defScope s_is_whole) .none kV16 dc16 pm16 an16 cd16 ct16), sl16⟩) (c16 : PySem.W.codeIn K cd16 "is_whole" = true) (k16 : PySem.W.keepIn K (.ref f16) = true)
    (a17 : PySem.W.nsIn K mainGlobals "is_between" = some (some (.ref f17))) (l17 : K.lookup f17 = some ⟨oc17, od17, .func (PySem.W.fnOf "is_between" "is_between" (defArgs s_is_between) (defBody s_is_between) (defScope s_is_between) .none kV17 dc17 pm17 an17 cd17 ct17), sl17⟩) (c17 : PySem.W.codeIn K cd17 "is_between" = true) (k17 : PySem.W.keepIn K (.ref f17) = true)
    (a18 : PySem.W.nsIn K mainGlobals "is_amount" = some (some (.ref f18))) (l18 : K.lookup f18 = some ⟨oc18, od18, .func (PySem.W.fnOf "is_amount" "is_amount" (defArgs s_is_amount) (defBody s_is_amount) (defScope s_is_amount) .none kV18 dc18 pm18 an18 cd18 ct18), sl18⟩) (c18 : PySem.W.codeIn K cd18 "is_amount" = true) (k18 : PySem.W.keepIn K (.ref f18) = true)
    (a19 : PySem.W.nsIn K mainGlobals "kinds_behind" = some (some (.ref f19))) (l19 : K.lookup f19 = some ⟨oc19, od19, .func (PySem.W.fnOf "kinds_behind" "kinds_behind" (defArgs s_kinds_behind) (defBody s_kinds_behind) (defScope s_kinds_behind) .none kV19 dc19 pm19 an19 cd19 ct19), sl19⟩) (c19 : PySem.W.codeIn K cd19 "kinds_behind" = true) (k19 : PySem.W.keepIn K (.ref f19) = true)
    (a20 : PySem.W.nsIn K mainGlobals "_is_plain" = some (some (.ref f20))) (l20 : K.lookup f20 = some ⟨oc20, od20, .func (PySem.W.fnOf "_is_plain" "_is_plain" (defArgs s__is_plain) (defBody s__is_plain) (defScope s__is_plain) .none kV20 dc20 pm20 an20 cd20 ct20), sl20⟩) (c20 : PySem.W.codeIn K cd20 "_is_plain" = true) (k20 : PySem.W.keepIn K (.ref f20) = true)
    (a21 : PySem.W.nsIn K mainGlobals "_need_form" = some (some (.ref f21))) (l21 : K.lookup f21 = some ⟨oc21, od21, .func (PySem.W.fnOf "_need_form" "_need_form" (defArgs s__need_form) (defBody s__need_form) (defScope s__need_form) .none kV21 dc21 pm21 an21 cd21 ct21), sl21⟩) (c21 : PySem.W.codeIn K cd21 "_need_form" = true) (k21 : PySem.W.keepIn K (.ref f21) = true)
    (a22 : PySem.W.nsIn K mainGlobals "need_contract" = some (some (.ref f22))) (l22 : K.lookup f22 = some ⟨oc22, od22, .func (PySem.W.fnOf "need_contract" "need_contract" (defArgs s_need_contract) (defBody s_need_contract) (defScope s_need_contract) .none kV22 dc22 pm22 an22 cd22 ct22), sl22⟩) (c22 : PySem.W.codeIn K cd22 "need_contract" = true) (k22 : PySem.W.keepIn K (.ref f22) = true)
    (a23 : PySem.W.nsIn K mainGlobals "_pieces_of" = some (some (.ref f23))) (l23 : K.lookup f23 = some ⟨oc23, od23, .func (PySem.W.fnOf "_pieces_of" "_pieces_of" (defArgs s__pieces_of) (defBody s__pieces_of) (defScope s__pieces_of) .none kV23 dc23 pm23 an23 cd23 ct23), sl23⟩) (c23 : PySem.W.codeIn K cd23 "_pieces_of" = true) (k23 : PySem.W.keepIn K (.ref f23) = true)
    (i24 : PySem.W.findIn K (.ref C_Pieces) "__init__" = some (some (.ref f24))) (j24 : PySem.W.isFn K (.ref f24) = true) (l24 : K.lookup f24 = some ⟨oc24, od24, .func (PySem.W.fnOf "__init__" "Pieces.__init__" (defArgs s_Pieces) (defBody s_Pieces) (defScope s_Pieces) .none kV24 dc24 pm24 an24 cd24 ct24), sl24⟩) (c24 : PySem.W.codeIn K cd24 "Pieces.__init__" = true) (k24 : PySem.W.keepIn K (.ref f24) = true) (mk24 : PySem.W.makesIn K C_Pieces = true) (kc24 : PySem.W.keepIn K (.ref C_Pieces) = true)
    (i25 : PySem.W.findIn K (.ref C_Pieces) "are_over" = some (some (.ref f25))) (j25 : PySem.W.isFn K (.ref f25) = true) (l25 : K.lookup f25 = some ⟨oc25, od25, .func (PySem.W.fnOf "are_over" "Pieces.are_over" (defArgs s_Pieces_are_over) (defBody s_Pieces_are_over) (defScope s_Pieces_are_over) .none kV25 dc25 pm25 an25 cd25 ct25), sl25⟩) (c25 : PySem.W.codeIn K cd25 "Pieces.are_over" = true) (k25 : PySem.W.keepIn K (.ref f25) = true)
    (i26 : PySem.W.findIn K (.ref C_Pieces) "open_next" = some (some (.ref f26))) (j26 : PySem.W.isFn K (.ref f26) = true) (l26 : K.lookup f26 = some ⟨oc26, od26, .func (PySem.W.fnOf "open_next" "Pieces.open_next" (defArgs s_Pieces_open_next) (defBody s_Pieces_open_next) (defScope s_Pieces_open_next) .none kV26 dc26 pm26 an26 cd26 ct26), sl26⟩) (c26 : PySem.W.codeIn K cd26 "Pieces.open_next" = true) (k26 : PySem.W.keepIn K (.ref f26) = true)
    (i27 : PySem.W.findIn K (.ref C_Pieces) "take" = some (some (.ref f27))) (j27 : PySem.W.isFn K (.ref f27) = true) (l27 : K.lookup f27 = some ⟨oc27, od27, .func (PySem.W.fnOf "take" "Pieces.take" (defArgs s_Pieces_take) (defBody s_Pieces_take) (defScope s_Pieces_take) .none kV27 dc27 pm27 an27 cd27 ct27), sl27⟩) (c27 : PySem.W.codeIn K cd27 "Pieces.take" = true) (k27 : PySem.W.keepIn K (.ref f27) = true)
    (i28 : PySem.W.findIn K (.ref C_Pieces) "pass_over" = some (some (.ref f28))) (j28 : PySem.W.isFn K (.ref f28) = true) (l28 : K.lookup f28 = some ⟨oc28, od28, .func (PySem.W.fnOf "pass_over" "Pieces.pass_over" (defArgs s_Pieces_pass_over) (defBody s_Pieces_pass_over) (defScope s_Pieces_pass_over) .none kV28 dc28 pm28 an28 cd28 ct28), sl28⟩) (c28 : PySem.W.codeIn K cd28 "Pieces.pass_over" = true) (k28 : PySem.W.keepIn K (.ref f28) = true)
    (a29 : PySem.W.nsIn K mainGlobals "_read_figures" = some (some (.ref f29))) (l29 : K.lookup f29 = some ⟨oc29, od29, .func (PySem.W.fnOf "_read_figures" "_read_figures" (defArgs s__read_figures) (defBody s__read_figures) (defScope s__read_figures) .none kV29 dc29 pm29 an29 cd29 ct29), sl29⟩) (c29 : PySem.W.codeIn K cd29 "_read_figures" = true) (k29 : PySem.W.keepIn K (.ref f29) = true)
    (a30 : PySem.W.nsIn K mainGlobals "_read_part" = some (some (.ref f30))) (l30 : K.lookup f30 = some ⟨oc30, od30, .func (PySem.W.fnOf "_read_part" "_read_part" (defArgs s__read_part) (defBody s__read_part) (defScope s__read_part) .none kV30 dc30 pm30 an30 cd30 ct30), sl30⟩) (c30 : PySem.W.codeIn K cd30 "_read_part" = true) (k30 : PySem.W.keepIn K (.ref f30) = true)
    (a31 : PySem.W.nsIn K mainGlobals "_read_form" = some (some (.ref f31))) (l31 : K.lookup f31 = some ⟨oc31, od31, .func (PySem.W.fnOf "_read_form" "_read_form" (defArgs s__read_form) (defBody s__read_form) (defScope s__read_form) .none kV31 dc31 pm31 an31 cd31 ct31), sl31⟩) (c31 : PySem.W.codeIn K cd31 "_read_form" = true) (k31 : PySem.W.keepIn K (.ref f31) = true)
    (a32 : PySem.W.nsIn K mainGlobals "read" = some (some (.ref f32))) (l32 : K.lookup f32 = some ⟨oc32, od32, .func (PySem.W.fnOf "read" "read" (defArgs s_read) (defBody s_read) (defScope s_read) .none kV32 dc32 pm32 an32 cd32 ct32), sl32⟩) (c32 : PySem.W.codeIn K cd32 "read" = true) (k32 : PySem.W.keepIn K (.ref f32) = true)
    (a33 : PySem.W.nsIn K mainGlobals "_law_spoilt" = some (some (.ref f33))) (l33 : K.lookup f33 = some ⟨oc33, od33, .func (PySem.W.fnOf "_law_spoilt" "_law_spoilt" (defArgs s__law_spoilt) (defBody s__law_spoilt) (defScope s__law_spoilt) .none kV33 dc33 pm33 an33 cd33 ct33), sl33⟩) (c33 : PySem.W.codeIn K cd33 "_law_spoilt" = true) (k33 : PySem.W.keepIn K (.ref f33) = true)
    (a34 : PySem.W.nsIn K mainGlobals "_law_tokens" = some (some (.ref f34))) (l34 : K.lookup f34 = some ⟨oc34, od34, .func (PySem.W.fnOf "_law_tokens" "_law_tokens" (defArgs s__law_tokens) (defBody s__law_tokens) (defScope s__law_tokens) .none kV34 dc34 pm34 an34 cd34 ct34), sl34⟩) (c34 : PySem.W.codeIn K cd34 "_law_tokens" = true) (k34 : PySem.W.keepIn K (.ref f34) = true)
    (a35 : PySem.W.nsIn K mainGlobals "law" = some (some (.ref f35))) (l35 : K.lookup f35 = some ⟨oc35, od35, .func (PySem.W.fnOf "law" "law" (defArgs s_law) (defBody s_law) (defScope s_law) .none kV35 dc35 pm35 an35 cd35 ct35), sl35⟩) (c35 : PySem.W.codeIn K cd35 "law" = true) (k35 : PySem.W.keepIn K (.ref f35) = true)
    (xg_BadContract : PySem.W.nsIn K mainGlobals "BadContract" = some (some (.ref C_BadContract))) (xx_BadContract : PySem.W.excIn K C_BadContract [.type "ValueError", .type "Exception", .type "BaseException", .type "object"] "ValueError.__new__" = true) (xk_BadContract : PySem.W.keepIn K (.ref C_BadContract) = true) (xs_BadContract : PySem.W.subIn K (.ref C_BadContract) (.type "BaseException") = some true) (xt_BadContract : PySem.W.typeIn K (.ref C_BadContract) = some (.type "type"))
    (xg_BadText : PySem.W.nsIn K mainGlobals "BadText" = some (some (.ref C_BadText))) (xx_BadText : PySem.W.excIn K C_BadText [.type "ValueError", .type "Exception", .type "BaseException", .type "object"] "ValueError.__new__" = true) (xk_BadText : PySem.W.keepIn K (.ref C_BadText) = true) (xs_BadText : PySem.W.subIn K (.ref C_BadText) (.type "BaseException") = some true) (xt_BadText : PySem.W.typeIn K (.ref C_BadText) = some (.type "type"))
    (xg_TooMany : PySem.W.nsIn K mainGlobals "TooMany" = some (some (.ref C_TooMany))) (xx_TooMany : PySem.W.excIn K C_TooMany [.type "ValueError", .type "Exception", .type "BaseException", .type "object"] "ValueError.__new__" = true) (xk_TooMany : PySem.W.keepIn K (.ref C_TooMany) = true) (xs_TooMany : PySem.W.subIn K (.ref C_TooMany) (.type "BaseException") = some true) (xt_TooMany : PySem.W.typeIn K (.ref C_TooMany) = some (.type "type"))
    (xg_BadMarket : PySem.W.nsIn K mainGlobals "BadMarket" = some (some (.ref C_BadMarket))) (xx_BadMarket : PySem.W.excIn K C_BadMarket [.type "ValueError", .type "Exception", .type "BaseException", .type "object"] "ValueError.__new__" = true) (xk_BadMarket : PySem.W.keepIn K (.ref C_BadMarket) = true) (xs_BadMarket : PySem.W.subIn K (.ref C_BadMarket) (.type "BaseException") = some true) (xt_BadMarket : PySem.W.typeIn K (.ref C_BadMarket) = some (.type "type"))
    (e1 : PySem.W.exmOne K (.ref C_BadText) (.ref C_BadText) = some true)
    (e2 : PySem.W.findIn K (.ref C_BadText) "__getattribute__" = some (some (.builtin "BaseException.__getattribute__")))
    (e3 : PySem.W.findIn K (.ref C_BadText) "__getattr__" = some none)
    (e4 : PySem.W.hasDictIn K C_BadText = true)
    (e5 : PySem.W.findIn K (.ref C_BadText) "__class__" = some (some (.builtin "object.__class__")))
    (e6 : PySem.W.specialIn K (.builtin "object.__class__") "__get__" = some (some (.builtin "getset_descriptor.__get__")))
    (e7 : PySem.W.takesIn K (.builtin "object.__class__") = some true)
    (e8 : PySem.W.mroIn K C_BadText (.type "object") = some true)
    (e9 : PySem.W.kitOne K (.ref C_BadText) (.ref C_BadContract) = some false)
    (e10 : PySem.W.kitOne K (.ref C_BadText) (.ref C_BadMarket) = some false)
    (e11 : PySem.W.kitOne K (.ref C_BadText) (.ref C_TooMany) = some false)
    (e12 : PySem.W.kitOne K (.ref C_BadText) (.ref C_BadText) = some true)
    (e13 : PySem.W.kitOne K (.ref C_BadText) (.type "ValueError") = some true)
    (S_BadContract : PySem.W.findIn K (.ref C_BadContract) "__str__" = some (some (.builtin "BaseException.__str__")))
    (Y_BadContract : PySem.W.exmOne K (.ref C_BadContract) (.ref C_BadContract) = some true)
    (z_len : PySem.W.nsIn K mainGlobals "len" = some none)
    (z_int : PySem.W.nsIn K mainGlobals "int" = some none)
    (z_range : PySem.W.nsIn K mainGlobals "range" = some none)
    (z_all : PySem.W.nsIn K mainGlobals "all" = some none)
    (z_isinstance : PySem.W.nsIn K mainGlobals "isinstance" = some none)
    (z_list : PySem.W.nsIn K mainGlobals "list" = some none)
    (z_tuple : PySem.W.nsIn K mainGlobals "tuple" = some none)
    (z_dict : PySem.W.nsIn K mainGlobals "dict" = some none)
    (z_str : PySem.W.nsIn K mainGlobals "str" = some none)
    (z_bool : PySem.W.nsIn K mainGlobals "bool" = some none)
    (z_LETTERS : PySem.W.nsIn K mainGlobals "LETTERS" = some (some (.str "abcdefghijklmnopqrstuvwxyz" t_LETTERS)))
    (z_LONGEST_WORD : PySem.W.nsIn K mainGlobals "LONGEST_WORD" = some (some (.int 8 t_LONGEST_WORD)))
    (z_TOO_LARGE : PySem.W.nsIn K mainGlobals "TOO_LARGE" = some (some (.int 1000000000000 t_TOO_LARGE)))
    (z_NUMBERS : PySem.W.nsIn K mainGlobals "NUMBERS" = some (some (.ref d_NUMBERS))) (w_NUMBERS : He.dicW K d_NUMBERS = some (He.keysIn w.params (numForms.map (·.1)))) (o_NUMBERS : tabOk K d_NUMBERS numForms = true)
    (z_CONDITIONS : PySem.W.nsIn K mainGlobals "CONDITIONS" = some (some (.ref d_CONDITIONS))) (w_CONDITIONS : He.dicW K d_CONDITIONS = some (He.keysIn w.params (condForms.map (·.1)))) (o_CONDITIONS : tabOk K d_CONDITIONS condForms = true)
    (z_CONTRACTS : PySem.W.nsIn K mainGlobals "CONTRACTS" = some (some (.ref d_CONTRACTS))) (w_CONTRACTS : He.dicW K d_CONTRACTS = some (He.keysIn w.params (ctrForms.map (·.1)))) (o_CONTRACTS : tabOk K d_CONTRACTS ctrForms = true)
    (z_zip : PySem.W.nsIn K mainGlobals "zip" = some none)
    (z_DEEPEST : PySem.W.nsIn K mainGlobals "DEEPEST" = some (some (.int 12 t_DEEPEST)))
    (z_FIGURES : PySem.W.nsIn K mainGlobals "FIGURES" = some (some (.str "0123456789" t_FIGURES)))
    (z_MOST_FIGURES : PySem.W.nsIn K mainGlobals "MOST_FIGURES" = some (some (.int 12 t_MOST_FIGURES)))
    (z_enumerate : PySem.W.nsIn K mainGlobals "enumerate" = some none)
    (z_LONGEST_TEXT : PySem.W.nsIn K mainGlobals "LONGEST_TEXT" = some (some (.int 4000 t_LONGEST_TEXT)))
    (z_min : PySem.W.nsIn K mainGlobals "min" = some none)
    (z_ValueError : PySem.W.nsIn K mainGlobals "ValueError" = some none)
    : LamX.LawAtS l w K CX0 30 63 "_law_script" mg fa h := by
  have e := hfa.symm.trans (PySem.W.mg_of X G a35)
  cases e
  have tab := TO "is_word" cT PT rT (tabIn_of a15 l15 rfl cc v11)
  refine ⟨(PySem.W.fnOf "law" "law" (defArgs s_law) (defBody s_law) (defScope s_law) .none kV35 dc35 pm35 an35 cd35 ct35), [(cT, PT)], (spLaw K PT), fun p hp => ?_, fun p hp => ?_, fun p hp => ?_, fun s v => .of_eq rfl, fun H a ns hl _ hT hS => ⟨ns, a, rfl, hS, hl, ⟨#[], hT _ (List.mem_singleton.mpr rfl), trivial⟩, fun _ => rfl⟩, fun base _ _ hTB => ?_⟩
  · rw [List.mem_singleton.mp hp]; exact tab.2
  · rw [List.mem_singleton.mp hp]; exact nP
  · rw [List.mem_singleton.mp hp]; exact tab.1
  · have tq := hTB _ (List.mem_singleton.mpr rfl)
    have tb : GxR.TabB base mg cT PT := ⟨tq.code, tq.bm, tq.gP⟩
    have X_BadContract : ExcT K mg "BadContract" C_BadContract := ⟨PySem.W.mg_of X G xg_BadContract, xx_BadContract, xk_BadContract, xs_BadContract, xt_BadContract⟩
    have X_BadText : ExcT K mg "BadText" C_BadText := ⟨PySem.W.mg_of X G xg_BadText, xx_BadText, xk_BadText, xs_BadText, xt_BadText⟩
    have X_TooMany : ExcT K mg "TooMany" C_TooMany := ⟨PySem.W.mg_of X G xg_TooMany, xx_TooMany, xk_TooMany, xs_TooMany, xt_TooMany⟩
    have X_BadMarket : ExcT K mg "BadMarket" C_BadMarket := ⟨PySem.W.mg_of X G xg_BadMarket, xx_BadMarket, xk_BadMarket, xs_BadMarket, xt_BadMarket⟩
    have ER : Errs K C_BadText C_BadText C_BadContract C_BadMarket C_TooMany := ⟨e1, ⟨e2, e3, xs_BadText, e4, e5, e6, e7, e8⟩, e9, e10, e11, e12, e13⟩
    have m_len : mg "len" = none := PySem.W.mg_none_of X G z_len
    have m_int : mg "int" = none := PySem.W.mg_none_of X G z_int
    have m_range : mg "range" = none := PySem.W.mg_none_of X G z_range
    have m_all : mg "all" = none := PySem.W.mg_none_of X G z_all
    have m_isinstance : mg "isinstance" = none := PySem.W.mg_none_of X G z_isinstance
    have m_list : mg "list" = none := PySem.W.mg_none_of X G z_list
    have m_tuple : mg "tuple" = none := PySem.W.mg_none_of X G z_tuple
    have m_dict : mg "dict" = none := PySem.W.mg_none_of X G z_dict
    have m_str : mg "str" = none := PySem.W.mg_none_of X G z_str
    have m_bool : mg "bool" = none := PySem.W.mg_none_of X G z_bool
    have m_LETTERS := PySem.W.mg_of X G z_LETTERS
    have m_LONGEST_WORD := PySem.W.mg_of X G z_LONGEST_WORD
    have m_TOO_LARGE := PySem.W.mg_of X G z_TOO_LARGE
    have F_NUMBERS : FTab K w mg "NUMBERS" numForms d_NUMBERS := FTab.of (PySem.W.mg_of X G z_NUMBERS) w_NUMBERS o_NUMBERS
    have F_CONDITIONS : FTab K w mg "CONDITIONS" condForms d_CONDITIONS := FTab.of (PySem.W.mg_of X G z_CONDITIONS) w_CONDITIONS o_CONDITIONS
    have F_CONTRACTS : FTab K w mg "CONTRACTS" ctrForms d_CONTRACTS := FTab.of (PySem.W.mg_of X G z_CONTRACTS) w_CONTRACTS o_CONTRACTS
    have m_zip : mg "zip" = none := PySem.W.mg_none_of X G z_zip
    have m_DEEPEST := PySem.W.mg_of X G z_DEEPEST
    have m_FIGURES := PySem.W.mg_of X G z_FIGURES
    have m_MOST_FIGURES := PySem.W.mg_of X G z_MOST_FIGURES
    have m_enumerate : mg "enumerate" = none := PySem.W.mg_none_of X G z_enumerate
    have m_LONGEST_TEXT := PySem.W.mg_of X G z_LONGEST_TEXT
    have m_min : mg "min" = none := PySem.W.mg_none_of X G z_min
    have m_ValueError : mg "ValueError" = none := PySem.W.mg_none_of X G z_ValueError
    have cl_Pieces : Cls K C_Pieces := ⟨pg_Pieces, hd_Pieces, po_Pieces, sa_Pieces⟩
    have O0 : Own K mg "_law_taken" s__law_taken ["_law_s", "_law_most"] f0 _ := ⟨fun_mk (st := s__law_taken) l0 c0 k0, PySem.W.mg_of X G a0, (fun_mk (st := s__law_taken) l0 c0 k0).binds (ps := ["_law_s", "_law_most"]) fun _ _ _ _ _ _ us hl => match us, hl with | [_, _], _ => rfl⟩
    have O1 : Own K mg "_law_word" s__law_word ["_law_s", "_law_k"] f1 _ := ⟨fun_mk (st := s__law_word) l1 c1 k1, PySem.W.mg_of X G a1, (fun_mk (st := s__law_word) l1 c1 k1).binds (ps := ["_law_s", "_law_k"]) fun _ _ _ _ _ _ us hl => match us, hl with | [_, _], _ => rfl⟩
    have O2 : Own K mg "_law_number" s__law_number ["_law_s"] f2 _ := ⟨fun_mk (st := s__law_number) l2 c2 k2, PySem.W.mg_of X G a2, (fun_mk (st := s__law_number) l2 c2 k2).binds (ps := ["_law_s"]) fun _ _ _ _ _ _ us hl => match us, hl with | [_], _ => rfl⟩
    have O3 : Own K mg "_law_told" s__law_told ["_law_s", "_law_deep"] f3 _ := ⟨fun_mk (st := s__law_told) l3 c3 k3, PySem.W.mg_of X G a3, (fun_mk (st := s__law_told) l3 c3 k3).binds (ps := ["_law_s", "_law_deep"]) fun _ _ _ _ _ _ us hl => match us, hl with | [_, _], _ => rfl⟩
    have O4 : Own K mg "_law_begun" s__law_begun ["_law_script"] f4 _ := ⟨fun_mk (st := s__law_begun) l4 c4 k4, PySem.W.mg_of X G a4, (fun_mk (st := s__law_begun) l4 c4 k4).binds (ps := ["_law_script"]) fun _ _ _ _ _ _ us hl => match us, hl with | [_], _ => rfl⟩
    have O5 : Own K mg "_law_asked" s__law_asked ["_law_s", "_law_deep"] f5 _ := ⟨fun_mk (st := s__law_asked) l5 c5 k5, PySem.W.mg_of X G a5, (fun_mk (st := s__law_asked) l5 c5 k5).binds (ps := ["_law_s", "_law_deep"]) fun _ _ _ _ _ _ us hl => match us, hl with | [_, _], _ => rfl⟩
    have O6 : Own K mg "_law_sides" s__law_sides ["_law_s"] f6 _ := ⟨fun_mk (st := s__law_sides) l6 c6 k6, PySem.W.mg_of X G a6, (fun_mk (st := s__law_sides) l6 c6 k6).binds (ps := ["_law_s"]) fun _ _ _ _ _ _ us hl => match us, hl with | [_], _ => rfl⟩
    have O7 : Own K mg "_law_good" s__law_good ["_law_s"] f7 _ := ⟨fun_mk (st := s__law_good) l7 c7 k7, PySem.W.mg_of X G a7, (fun_mk (st := s__law_good) l7 c7 k7).binds (ps := ["_law_s"]) fun _ _ _ _ _ _ us hl => match us, hl with | [_], _ => rfl⟩
    have O8 : Own K mg "_law_give" s__law_give ["_law_s"] f8 _ := ⟨fun_mk (st := s__law_give) l8 c8 k8, PySem.W.mg_of X G a8, (fun_mk (st := s__law_give) l8 c8 k8).binds (ps := ["_law_s"]) fun _ _ _ _ _ _ us hl => match us, hl with | [_], _ => rfl⟩
    have O9 : Own K mg "_law_contract" s__law_contract ["_law_s", "_law_deep"] f9 _ := ⟨fun_mk (st := s__law_contract) l9 c9 k9, PySem.W.mg_of X G a9, (fun_mk (st := s__law_contract) l9 c9 k9).binds (ps := ["_law_s", "_law_deep"]) fun _ _ _ _ _ _ us hl => match us, hl with | [_, _], _ => rfl⟩
    have O10 : Own K mg "_law_drawn" s__law_drawn ["_law_s", "_law_many"] f10 _ := ⟨fun_mk (st := s__law_drawn) l10 c10 k10, PySem.W.mg_of X G a10, (fun_mk (st := s__law_drawn) l10 c10 k10).binds (ps := ["_law_s", "_law_many"]) fun _ _ _ _ _ _ us hl => match us, hl with | [_, _], _ => rfl⟩
    have O11 : Own K mg "_law_alike" s__law_alike ["_law_found", "_law_due"] f11 _ := ⟨fun_mk (st := s__law_alike) l11 c11 k11, PySem.W.mg_of X G a11, (fun_mk (st := s__law_alike) l11 c11 k11).binds (ps := ["_law_found", "_law_due"]) fun _ _ _ _ _ _ us hl => match us, hl with | [_, _], _ => rfl⟩
    have O12 : Own K mg "_written" s__written ["told"] f12 _ := ⟨fun_mk (st := s__written) l12 c12 k12, PySem.W.mg_of X G a12, (fun_mk (st := s__written) l12 c12 k12).binds (ps := ["told"]) fun _ _ _ _ _ _ us hl => match us, hl with | [_], _ => rfl⟩
    have O13 : Own K mg "_law_text" s__law_text ["_law_told_here"] f13 _ := ⟨fun_mk (st := s__law_text) l13 c13 k13, PySem.W.mg_of X G a13, (fun_mk (st := s__law_text) l13 c13 k13).binds (ps := ["_law_told_here"]) fun _ _ _ _ _ _ us hl => match us, hl with | [_], _ => rfl⟩
    have O14 : Own K mg "written" s_written ["contract"] f14 _ := ⟨fun_mk (st := s_written) l14 c14 k14, PySem.W.mg_of X G a14, (fun_mk (st := s_written) l14 c14 k14).binds (ps := ["contract"]) fun _ _ _ _ _ _ us hl => match us, hl with | [_], _ => rfl⟩
    have O15 : OwnC cT K mg "is_word" s_is_word ["told"] f15 _ := OwnC.mk' (st := s_is_word) l15 c15 k15 (PySem.W.mg_of X G a15) (.all fun us hl => match us, hl with | [_], _ => rfl)
    have O16 : Own K mg "is_whole" s_is_whole ["told"] f16 _ := ⟨fun_mk (st := s_is_whole) l16 c16 k16, PySem.W.mg_of X G a16, (fun_mk (st := s_is_whole) l16 c16 k16).binds (ps := ["told"]) fun _ _ _ _ _ _ us hl => match us, hl with | [_], _ => rfl⟩
    have O17 : Own K mg "is_between" s_is_between ["told", "low", "high"] f17 _ := ⟨fun_mk (st := s_is_between) l17 c17 k17, PySem.W.mg_of X G a17, (fun_mk (st := s_is_between) l17 c17 k17).binds (ps := ["told", "low", "high"]) fun _ _ _ _ _ _ us hl => match us, hl with | [_, _, _], _ => rfl⟩
    have O18 : Own K mg "is_amount" s_is_amount ["told"] f18 _ := ⟨fun_mk (st := s_is_amount) l18 c18 k18, PySem.W.mg_of X G a18, (fun_mk (st := s_is_amount) l18 c18 k18).binds (ps := ["told"]) fun _ _ _ _ _ _ us hl => match us, hl with | [_], _ => rfl⟩
    have O19 : Own K mg "kinds_behind" s_kinds_behind ["word", "kind"] f19 _ := ⟨fun_mk (st := s_kinds_behind) l19 c19 k19, PySem.W.mg_of X G a19, (fun_mk (st := s_kinds_behind) l19 c19 k19).binds (ps := ["word", "kind"]) fun _ _ _ _ _ _ us hl => match us, hl with | [_, _], _ => rfl⟩
    have O20 : Own K mg "_is_plain" s__is_plain ["told", "kind"] f20 _ := ⟨fun_mk (st := s__is_plain) l20 c20 k20, PySem.W.mg_of X G a20, (fun_mk (st := s__is_plain) l20 c20 k20).binds (ps := ["told", "kind"]) fun _ _ _ _ _ _ us hl => match us, hl with | [_, _], _ => rfl⟩
    have O21 : Own K mg "_need_form" s__need_form ["told", "kind", "depth"] f21 _ := ⟨fun_mk (st := s__need_form) l21 c21 k21, PySem.W.mg_of X G a21, (fun_mk (st := s__need_form) l21 c21 k21).binds (ps := ["told", "kind", "depth"]) fun _ _ _ _ _ _ us hl => match us, hl with | [_, _, _], _ => rfl⟩
    have O22 : Own K mg "need_contract" s_need_contract ["contract"] f22 _ := ⟨fun_mk (st := s_need_contract) l22 c22 k22, PySem.W.mg_of X G a22, (fun_mk (st := s_need_contract) l22 c22 k22).binds (ps := ["contract"]) fun _ _ _ _ _ _ us hl => match us, hl with | [_], _ => rfl⟩
    have O23 : Own K mg "_pieces_of" s__pieces_of ["text"] f23 _ := ⟨fun_mk (st := s__pieces_of) l23 c23 k23, PySem.W.mg_of X G a23, (fun_mk (st := s__pieces_of) l23 c23 k23).binds (ps := ["text"]) fun _ _ _ _ _ _ us hl => match us, hl with | [_], _ => rfl⟩
    have O24 : OwnM K "__init__" "Pieces.__init__" s_Pieces ["self", "text"] f24 _ := ⟨fun_mk (st := s_Pieces) l24 c24 k24, (fun_mk (st := s_Pieces) l24 c24 k24).binds (ps := ["self", "text"]) fun _ _ _ _ _ _ us hl => match us, hl with | [_, _], _ => rfl⟩
    have T24 : ClsT K mg "Pieces" C_Pieces f24 := ⟨PySem.W.mg_of X G ca_Pieces, ⟨mk24, i24, j24, kc24⟩, cl_Pieces⟩
    have O25 : OwnM K "are_over" "Pieces.are_over" s_Pieces_are_over ["self"] f25 _ := ⟨fun_mk (st := s_Pieces_are_over) l25 c25 k25, (fun_mk (st := s_Pieces_are_over) l25 c25 k25).binds (ps := ["self"]) fun _ _ _ _ _ _ us hl => match us, hl with | [_], _ => rfl⟩
    have M25 : Meth K C_Pieces "are_over" f25 := ⟨i25, j25, k25⟩
    have O26 : OwnM K "open_next" "Pieces.open_next" s_Pieces_open_next ["self"] f26 _ := ⟨fun_mk (st := s_Pieces_open_next) l26 c26 k26, (fun_mk (st := s_Pieces_open_next) l26 c26 k26).binds (ps := ["self"]) fun _ _ _ _ _ _ us hl => match us, hl with | [_], _ => rfl⟩
    have M26 : Meth K C_Pieces "open_next" f26 := ⟨i26, j26, k26⟩
    have O27 : OwnM K "take" "Pieces.take" s_Pieces_take ["self"] f27 _ := ⟨fun_mk (st := s_Pieces_take) l27 c27 k27, (fun_mk (st := s_Pieces_take) l27 c27 k27).binds (ps := ["self"]) fun _ _ _ _ _ _ us hl => match us, hl with | [_], _ => rfl⟩
    have M27 : Meth K C_Pieces "take" f27 := ⟨i27, j27, k27⟩
    have O28 : OwnM K "pass_over" "Pieces.pass_over" s_Pieces_pass_over ["self", "sign"] f28 _ := ⟨fun_mk (st := s_Pieces_pass_over) l28 c28 k28, (fun_mk (st := s_Pieces_pass_over) l28 c28 k28).binds (ps := ["self", "sign"]) fun _ _ _ _ _ _ us hl => match us, hl with | [_, _], _ => rfl⟩
    have M28 : Meth K C_Pieces "pass_over" f28 := ⟨i28, j28, k28⟩
    have O29 : Own K mg "_read_figures" s__read_figures ["piece"] f29 _ := ⟨fun_mk (st := s__read_figures) l29 c29 k29, PySem.W.mg_of X G a29, (fun_mk (st := s__read_figures) l29 c29 k29).binds (ps := ["piece"]) fun _ _ _ _ _ _ us hl => match us, hl with | [_], _ => rfl⟩
    have O30 : Own K mg "_read_part" s__read_part ["pieces", "kind", "depth"] f30 _ := ⟨fun_mk (st := s__read_part) l30 c30 k30, PySem.W.mg_of X G a30, (fun_mk (st := s__read_part) l30 c30 k30).binds (ps := ["pieces", "kind", "depth"]) fun _ _ _ _ _ _ us hl => match us, hl with | [_, _, _], _ => rfl⟩
    have O31 : Own K mg "_read_form" s__read_form ["pieces", "kind", "depth"] f31 _ := ⟨fun_mk (st := s__read_form) l31 c31 k31, PySem.W.mg_of X G a31, (fun_mk (st := s__read_form) l31 c31 k31).binds (ps := ["pieces", "kind", "depth"]) fun _ _ _ _ _ _ us hl => match us, hl with | [_, _, _], _ => rfl⟩
    have O32 : Own K mg "read" s_read ["text"] f32 _ := ⟨fun_mk (st := s_read) l32 c32 k32, PySem.W.mg_of X G a32, (fun_mk (st := s_read) l32 c32 k32).binds (ps := ["text"]) fun _ _ _ _ _ _ us hl => match us, hl with | [_], _ => rfl⟩
    have O33 : Own K mg "_law_spoilt" s__law_spoilt ["_law_s", "_law_line"] f33 _ := ⟨fun_mk (st := s__law_spoilt) l33 c33 k33, PySem.W.mg_of X G a33, (fun_mk (st := s__law_spoilt) l33 c33 k33).binds (ps := ["_law_s", "_law_line"]) fun _ _ _ _ _ _ us hl => match us, hl with | [_, _], _ => rfl⟩
    have O34 : Own K mg "_law_tokens" s__law_tokens ["_law_line"] f34 _ := ⟨fun_mk (st := s__law_tokens) l34 c34 k34, PySem.W.mg_of X G a34, (fun_mk (st := s__law_tokens) l34 c34 k34).binds (ps := ["_law_line"]) fun _ _ _ _ _ _ us hl => match us, hl with | [_], _ => rfl⟩
    have O35 : Own K mg "law" s_law ["_law_script"] fa _ := ⟨fun_mk (st := s_law) l35 c35 k35, PySem.W.mg_of X G a35, (fun_mk (st := s_law) l35 c35 k35).binds (ps := ["_law_script"]) fun _ _ _ _ _ _ us hl => match us, hl with | [_], _ => rfl⟩
    have H__law_taken := h__law_taken (P := l.prog) (w := w) (mg := mg) (base := base) (k := 0) O0   m_len m_int
    have H__law_word := h__law_word (P := l.prog) (w := w) (mg := mg) (base := base) (k := 0) O1   
    have H__law_number := h__law_number (P := l.prog) (w := w) (mg := mg) (base := base) (k := 1) O2  (H__law_taken.mono (by omega)) 
    have R__law_told : ∀ n : Nat, Has l.prog w K mg base "_law_told" ["_law_s", "_law_deep"] (2 + n) CX0 (spTold K n) f3 (PySem.W.fnOf "_law_told" "_law_told" (defArgs s__law_told) (defBody s__law_told) (defScope s__law_told) .none kV3 dc3 pm3 an3 cd3 ct3) := fun n => by
      induction n with
      | zero => exact O3.has ((none_told (P := l.prog) (w := w) (mg := mg) (base := base)).mono (Nat.zero_le _))
      | succ n ih => exact h__law_told (P := l.prog) (w := w) (mg := mg) (base := base) (n := n) (k := 2 + n) O3  ih (H__law_number.mono (by omega)) (H__law_taken.mono (by omega)) m_len
    have H__law_told := R__law_told 4
    have H__law_begun := h__law_begun (P := l.prog) (w := w) (mg := mg) (base := base) (k := 1) O4  (H__law_taken.mono (by omega)) m_int m_len
    have R__law_asked : ∀ n : Nat, Has l.prog w K mg base "_law_asked" ["_law_s", "_law_deep"] (6 + n) CX0 (spAsked K n) f5 (PySem.W.fnOf "_law_asked" "_law_asked" (defArgs s__law_asked) (defBody s__law_asked) (defScope s__law_asked) .none kV5 dc5 pm5 an5 cd5 ct5) := fun n => by
      induction n with
      | zero => exact O5.has ((none_asked (P := l.prog) (w := w) (mg := mg) (base := base)).mono (Nat.zero_le _))
      | succ n ih => exact h__law_asked (P := l.prog) (w := w) (mg := mg) (base := base) (n := n) (k := 6 + n) O5  ih (H__law_told.mono (by omega)) (H__law_taken.mono (by omega)) 
    have H__law_asked := R__law_asked 4
    have H__law_sides := h__law_sides (P := l.prog) (w := w) (mg := mg) (base := base) (k := 1) O6  (H__law_word.mono (by omega)) (H__law_taken.mono (by omega)) 
    have H__law_good := h__law_good (P := l.prog) (w := w) (mg := mg) (base := base) (k := 1) O7  (H__law_word.mono (by omega)) (H__law_taken.mono (by omega)) 
    have H__law_give := h__law_give (P := l.prog) (w := w) (mg := mg) (base := base) (k := 6) O8  (H__law_told.mono (by omega)) (H__law_good.mono (by omega)) (H__law_sides.mono (by omega)) 
    have R__law_contract : ∀ n : Nat, Has l.prog w K mg base "_law_contract" ["_law_s", "_law_deep"] (10 + n) CX0 (spContract K n) f9 (PySem.W.fnOf "_law_contract" "_law_contract" (defArgs s__law_contract) (defBody s__law_contract) (defScope s__law_contract) .none kV9 dc9 pm9 an9 cd9 ct9) := fun n => by
      induction n with
      | zero => exact O9.has ((none_contract (P := l.prog) (w := w) (mg := mg) (base := base)).mono (Nat.zero_le _))
      | succ n ih => exact h__law_contract (P := l.prog) (w := w) (mg := mg) (base := base) (n := n) (k := 10 + n) O9  ih (H__law_asked.mono (by omega)) (H__law_taken.mono (by omega)) (H__law_sides.mono (by omega)) (H__law_give.mono (by omega)) m_int
    have H__law_contract := R__law_contract 4
    have H__law_drawn := h__law_drawn (P := l.prog) (w := w) (mg := mg) (base := base) (k := 14) O10  (H__law_taken.mono (by omega)) (H__law_sides.mono (by omega)) (H__law_asked.mono (by omega)) (H__law_told.mono (by omega)) (H__law_good.mono (by omega)) (H__law_contract.mono (by omega)) (H__law_word.mono (by omega)) m_range
    have R__law_alike : ∀ n : Nat, Has l.prog w K mg base "_law_alike" ["_law_found", "_law_due"] (0 + n) CX0 (spAlike K n) f11 (PySem.W.fnOf "_law_alike" "_law_alike" (defArgs s__law_alike) (defBody s__law_alike) (defScope s__law_alike) .none kV11 dc11 pm11 an11 cd11 ct11) := fun n => by
      induction n with
      | zero => exact O11.has ((none_alike (P := l.prog) (w := w) (mg := mg) (base := base)).mono (Nat.zero_le _))
      | succ n ih => exact h__law_alike (P := l.prog) (w := w) (mg := mg) (base := base) (n := n) (k := 0 + n) O11  ih m_all m_range m_len m_isinstance m_list m_tuple m_dict m_str m_int m_bool
    have H__law_alike := R__law_alike 14
    have R__written : ∀ n : Nat, Has l.prog w K mg base "_written" ["told"] (0 + n) CX0 (spTx K n) f12 (PySem.W.fnOf "_written" "_written" (defArgs s__written) (defBody s__written) (defScope s__written) .none kV12 dc12 pm12 an12 cd12 ct12) := fun n => by
      induction n with
      | zero => exact O12.has ((none_tx (P := l.prog) (w := w) (mg := mg) (base := base)).mono (Nat.zero_le _))
      | succ n ih => exact h__written (P := l.prog) (w := w) (mg := mg) (base := base) (n := n) (k := 0 + n) O12  ih m_len m_str m_isinstance m_tuple
    have H__written := R__written 13
    have R__law_text : ∀ n : Nat, Has l.prog w K mg base "_law_text" ["_law_told_here"] (0 + n) CX0 (spTx K n) f13 (PySem.W.fnOf "_law_text" "_law_text" (defArgs s__law_text) (defBody s__law_text) (defScope s__law_text) .none kV13 dc13 pm13 an13 cd13 ct13) := fun n => by
      induction n with
      | zero => exact O13.has ((none_tx (P := l.prog) (w := w) (mg := mg) (base := base)).mono (Nat.zero_le _))
      | succ n ih => exact h__law_text (P := l.prog) (w := w) (mg := mg) (base := base) (n := n) (k := 0 + n) O13  ih m_len m_str m_isinstance m_int
    have H__law_text := R__law_text 13
    have H_written := h_written (P := l.prog) (w := w) (mg := mg) (base := base) (k := 13) O14  (H__written.mono (by omega)) 
    have H_is_word := h_is_word (P := l.prog) (w := w) (mg := mg) (base := base) (k := 0) tb O15   m_all m_LETTERS m_len m_LONGEST_WORD m_isinstance m_str
    have H_is_whole := h_is_whole (P := l.prog) (w := w) (mg := mg) (base := base) (k := 0) O16   m_isinstance m_bool m_int
    have H_is_between := h_is_between (P := l.prog) (w := w) (mg := mg) (base := base) (k := 1) O17  (H_is_whole.mono (by omega)) 
    have H_is_amount := h_is_amount (P := l.prog) (w := w) (mg := mg) (base := base) (k := 1) O18  (H_is_whole.mono (by omega)) m_TOO_LARGE
    have H_kinds_behind := h_kinds_behind (P := l.prog) (w := w) (mg := mg) (base := base) (k := 0) O19   F_NUMBERS F_CONDITIONS F_CONTRACTS
    have H__is_plain := h__is_plain (P := l.prog) (w := w) (mg := mg) (base := base) (k := 2) O20  (H_is_word.mono (by omega)) (H_is_between.mono (by omega)) (H_is_amount.mono (by omega)) 
    have R__need_form : ∀ n : Nat, Has l.prog w K mg base "_need_form" ["told", "kind", "depth"] (3 + n) (BkX.CX l.prog w) (spForm K C_BadContract PT n) f21 (PySem.W.fnOf "_need_form" "_need_form" (defArgs s__need_form) (defBody s__need_form) (defScope s__need_form) .none kV21 dc21 pm21 an21 cd21 ct21) := fun n => by
      induction n with
      | zero => exact O21.has ((none_form (P := l.prog) (w := w) (mg := mg) (base := base)).mono (Nat.zero_le _))
      | succ n ih => exact h__need_form (P := l.prog) (w := w) (mg := mg) (base := base) (n := n) (k := 3 + n) O21 X_BadContract ih (H__is_plain.mono (by omega)) (H_kinds_behind.mono (by omega)) m_zip m_len m_isinstance m_str m_tuple m_DEEPEST
    have H__need_form := R__need_form 13
    have H_need_contract := h_need_contract (P := l.prog) (w := w) (mg := mg) (base := base) (k := 16) O22 X_BadContract (H__need_form.mono (by omega)) 
    have H__pieces_of := h__pieces_of (P := l.prog) (w := w) (mg := mg) (base := base) (k := 0) O23 X_BadText  
    have H_Pieces := h_Pieces (P := l.prog) (w := w) (mg := mg) (base := base) (k := 1) T24 O24 n_Pieces__left (H__pieces_of.mono (by omega)) 
    have H_Pieces_are_over := h_Pieces_are_over (P := l.prog) (w := w) (mg := mg) (base := base) (k := 0) cl_Pieces M25 O25 n_Pieces__left  m_len
    have H_Pieces_open_next := h_Pieces_open_next (P := l.prog) (w := w) (mg := mg) (base := base) (k := 0) cl_Pieces M26 O26 n_Pieces__left  m_len
    have H_Pieces_take := h_Pieces_take (P := l.prog) (w := w) (mg := mg) (base := base) (k := 0) cl_Pieces M27 O27 X_BadText n_Pieces__left  m_len
    have H_Pieces_pass_over := h_Pieces_pass_over (P := l.prog) (w := w) (mg := mg) (base := base) (k := 1) cl_Pieces M28 O28 X_BadText (H_Pieces_take.mono (by omega)) 
    have H__read_figures := h__read_figures (P := l.prog) (w := w) (mg := mg) (base := base) (k := 0) O29 X_BadText  m_int m_all m_FIGURES m_len m_MOST_FIGURES
    have R__read_form : ∀ n : Nat, Has l.prog w K mg base "_read_form" ["pieces", "kind", "depth"] (2 + 2 * n) (L2.CX l.prog w) (spRF K C_BadText C_Pieces PT n) f31 (PySem.W.fnOf "_read_form" "_read_form" (defArgs s__read_form) (defBody s__read_form) (defScope s__read_form) .none kV31 dc31 pm31 an31 cd31 ct31) := fun n => by
      induction n with
      | zero => exact O31.has ((none_rf (P := l.prog) (w := w) (mg := mg) (base := base)).mono (Nat.zero_le _))
      | succ n ih =>
        have hp0 := h__read_part (P := l.prog) (w := w) (mg := mg) (base := base) (n := n) (k := 2 + 2 * n) O30 cl_Pieces (H_Pieces_take.mono (by omega)) (H__read_figures.mono (by omega)) ih 
        exact (h__read_form (P := l.prog) (w := w) (mg := mg) (base := base) (n := n) (k := 2 + 2 * n + 1) O31 X_BadText cl_Pieces (H_Pieces_pass_over.mono (by omega)) hp0 (H_kinds_behind.mono (by omega)) (H_Pieces_open_next.mono (by omega)) (H_is_word.mono (by omega)) (H__read_figures.mono (by omega)) (H_Pieces_take.mono (by omega)) m_len m_enumerate m_DEEPEST).mono (by omega)
    have H__read_form := R__read_form 13
    have H__read_part := h__read_part (P := l.prog) (w := w) (mg := mg) (base := base) (n := 13) (k := 28) O30 cl_Pieces (H_Pieces_take.mono (by omega)) (H__read_figures.mono (by omega)) (H__read_form.mono (by omega)) 
    have H_read := h_read (P := l.prog) (w := w) (mg := mg) (base := base) (k := 28) O32 X_BadContract X_BadText S_BadContract Y_BadContract cl_Pieces (H_need_contract.mono (by omega)) (H_Pieces_are_over.mono (by omega)) (H__read_form.mono (by omega)) (H_Pieces.mono (by omega)) m_str m_len m_LONGEST_TEXT
    have H__law_spoilt := h__law_spoilt (P := l.prog) (w := w) (mg := mg) (base := base) (k := 1) O33  (H__law_taken.mono (by omega)) m_len m_min
    have H__law_tokens := h__law_tokens (P := l.prog) (w := w) (mg := mg) (base := base) (k := 0) O34   m_len
    have H_law := h_law (P := l.prog) (w := w) (mg := mg) (base := base) (k := 29) O35 X_BadText X_TooMany X_BadMarket X_BadContract ER (H__law_alike.mono (by omega)) (H_read.mono (by omega)) (H_written.mono (by omega)) (H__law_tokens.mono (by omega)) (H__law_text.mono (by omega)) (H_need_contract.mono (by omega)) (H__law_taken.mono (by omega)) (H__law_spoilt.mono (by omega)) (H__law_drawn.mono (by omega)) (H__law_begun.mono (by omega)) m_isinstance m_ValueError m_range
    exact H_law.G
end Bk
open PySem PySem.W PyProof.Rows
set_option maxHeartbeats 0 in
theorem PySem.Challenge.cw_contractbook_k35_whole_what_is_read_holds : PySem.Challenge.rw_contractbook_k35_whole_what_is_read.Holds := by
  w_on; o_law; k_head; (case hw => w_witness2)
  k_fill
  refine Bk.walk_tabs (l := PySem.Challenge.rw_contractbook_k35_whole_what_is_read) (n := 63) (k := 30) (x := "_law_script") (CX := fun _ => L2.CX0) rfl (by decide) rfl ⟨rfl, by decide, by decide⟩ (fun w h Y => PySem.W.kIn_of Y) ?F (fun _ _ _ _ _ h => h)
  case F =>
    intro w mg fa h KX G hmg TO
    refine' Bk.all_mk KX G hmg TO ?ca_Pieces ?pg_Pieces ?hd_Pieces ?po_Pieces ?sa_Pieces ?n_Pieces__left ?a0 ?l0 ?c0 ?k0 ?a1 ?l1 ?c1 ?k1 ?a2 ?l2 ?c2 ?k2 ?a3 ?l3 ?c3 ?k3 ?a4 ?l4 ?c4 ?k4 ?a5 ?l5 ?c5 ?k5 ?a6 ?l6 ?c6 ?k6 ?a7 ?l7 ?c7 ?k7 ?a8 ?l8 ?c8 ?k8 ?a9 ?l9 ?c9 ?k9 ?a10 ?l10 ?c10 ?k10 ?a11 ?l11 ?c11 ?k11 ?a12 ?l12 ?c12 ?k12 ?a13 ?l13 ?c13 ?k13 ?a14 ?l14 ?c14 ?k14 ?a15 ?l15 ?c15 ?k15 ?cc ?v11 ?rT ?nP ?a16 ?l16 ?c16 ?k16 ?a17 ?l17 ?c17 ?k17 ?a18 ?l18 ?c18 ?k18 ?a19 ?l19 ?c19 ?k19 ?a20 ?l20 ?c20 ?k20 ?a21 ?l21 ?c21 ?k21 ?a22 ?l22 ?c22 ?k22 ?a23 ?l23 ?c23 ?k23 ?i24 ?j24 ?l24 ?c24 ?k24 ?mk24 ?kc24 ?i25 ?j25 ?l25 ?c25 ?k25 ?i26 ?j26 ?l26 ?c26 ?k26 ?i27 ?j27 ?l27 ?c27 ?k27 ?i28 ?j28 ?l28 ?c28 ?k28 ?a29 ?l29 ?c29 ?k29 ?a30 ?l30 ?c30 ?k30 ?a31 ?l31 ?c31 ?k31 ?a32 ?l32 ?c32 ?k32 ?a33 ?l33 ?c33 ?k33 ?a34 ?l34 ?c34 ?k34 ?a35 ?l35 ?c35 ?k35 ?xg_BadContract ?xx_BadContract ?xk_BadContract ?xs_BadContract ?xt_BadContract ?xg_BadText ?xx_BadText ?xk_BadText ?xs_BadText ?xt_BadText ?xg_TooMany ?xx_TooMany ?xk_TooMany ?xs_TooMany ?xt_TooMany ?xg_BadMarket ?xx_BadMarket ?xk_BadMarket ?xs_BadMarket ?xt_BadMarket ?e1 ?e2 ?e3 ?e4 ?e5 ?e6 ?e7 ?e8 ?e9 ?e10 ?e11 ?e12 ?e13 ?S_BadContract ?Y_BadContract ?z_len ?z_int ?z_range ?z_all ?z_isinstance ?z_list ?z_tuple ?z_dict ?z_str ?z_bool ?z_LETTERS ?z_LONGEST_WORD ?z_TOO_LARGE ?z_NUMBERS ?w_NUMBERS ?o_NUMBERS ?z_CONDITIONS ?w_CONDITIONS ?o_CONDITIONS ?z_CONTRACTS ?w_CONTRACTS ?o_CONTRACTS ?z_zip ?z_DEEPEST ?z_FIGURES ?z_MOST_FIGURES ?z_enumerate ?z_LONGEST_TEXT ?z_min ?z_ValueError
    (case ca_Pieces => k_is)
    (case pg_Pieces => k_is)
    (case hd_Pieces => k_is)
    (case po_Pieces => k_is)
    (case sa_Pieces => k_is)
    (case n_Pieces__left => k_is)
    (case a0 => k_is)
    (case l0 => k_is)
    (case c0 => k_is)
    (case k0 => k_is)
    (case a1 => k_is)
    (case l1 => k_is)
    (case c1 => k_is)
    (case k1 => k_is)
    (case a2 => k_is)
    (case l2 => k_is)
    (case c2 => k_is)
    (case k2 => k_is)
    (case a3 => k_is)
    (case l3 => k_is)
    (case c3 => k_is)
    (case k3 => k_is)
    (case a4 => k_is)
    (case l4 => k_is)
    (case c4 => k_is)
    (case k4 => k_is)
    (case a5 => k_is)
    (case l5 => k_is)
    (case c5 => k_is)
    (case k5 => k_is)
    (case a6 => k_is)
    (case l6 => k_is)
    (case c6 => k_is)
    (case k6 => k_is)
    (case a7 => k_is)
    (case l7 => k_is)
    (case c7 => k_is)
    (case k7 => k_is)
    (case a8 => k_is)
    (case l8 => k_is)
    (case c8 => k_is)
    (case k8 => k_is)
    (case a9 => k_is)
    (case l9 => k_is)
    (case c9 => k_is)
    (case k9 => k_is)
    (case a10 => k_is)
    (case l10 => k_is)
    (case c10 => k_is)
    (case k10 => k_is)
    (case a11 => k_is)
    (case l11 => k_is)
    (case c11 => k_is)
    (case k11 => k_is)
    (case a12 => k_is)
    (case l12 => k_is)
    (case c12 => k_is)
    (case k12 => k_is)
    (case a13 => k_is)
    (case l13 => k_is)
    (case c13 => k_is)
    (case k13 => k_is)
    (case a14 => k_is)
    (case l14 => k_is)
    (case c14 => k_is)
    (case k14 => k_is)
    (case a15 => k_is)
    (case l15 => k_is)
    (case c15 => k_is)
    (case k15 => k_is)
    (case cc => k_is)
    (case v11 => rfl)
    (case rT => kernel_rfl)
    (case nP => kernel_rfl)
    (case a16 => k_is)
    (case l16 => k_is)
    (case c16 => k_is)
    (case k16 => k_is)
    (case a17 => k_is)
    (case l17 => k_is)
    (case c17 => k_is)
    (case k17 => k_is)
    (case a18 => k_is)
    (case l18 => k_is)
    (case c18 => k_is)
    (case k18 => k_is)
    (case a19 => k_is)
    (case l19 => k_is)
    (case c19 => k_is)
    (case k19 => k_is)
    (case a20 => k_is)
    (case l20 => k_is)
    (case c20 => k_is)
    (case k20 => k_is)
    (case a21 => k_is)
    (case l21 => k_is)
    (case c21 => k_is)
    (case k21 => k_is)
    (case a22 => k_is)
    (case l22 => k_is)
    (case c22 => k_is)
    (case k22 => k_is)
    (case a23 => k_is)
    (case l23 => k_is)
    (case c23 => k_is)
    (case k23 => k_is)
    (case i24 => k_is)
    (case j24 => k_is)
    (case l24 => k_is)
    (case c24 => k_is)
    (case k24 => k_is)
    (case mk24 => k_is)
    (case kc24 => k_is)
    (case i25 => k_is)
    (case j25 => k_is)
    (case l25 => k_is)
    (case c25 => k_is)
    (case k25 => k_is)
    (case i26 => k_is)
    (case j26 => k_is)
    (case l26 => k_is)
    (case c26 => k_is)
    (case k26 => k_is)
    (case i27 => k_is)
    (case j27 => k_is)
    (case l27 => k_is)
    (case c27 => k_is)
    (case k27 => k_is)
    (case i28 => k_is)
    (case j28 => k_is)
    (case l28 => k_is)
    (case c28 => k_is)
    (case k28 => k_is)
    (case a29 => k_is)
    (case l29 => k_is)
    (case c29 => k_is)
    (case k29 => k_is)
    (case a30 => k_is)
    (case l30 => k_is)
    (case c30 => k_is)
    (case k30 => k_is)
    (case a31 => k_is)
    (case l31 => k_is)
    (case c31 => k_is)
    (case k31 => k_is)
    (case a32 => k_is)
    (case l32 => k_is)
    (case c32 => k_is)
    (case k32 => k_is)
    (case a33 => k_is)
    (case l33 => k_is)
    (case c33 => k_is)
    (case k33 => k_is)
    (case a34 => k_is)
    (case l34 => k_is)
    (case c34 => k_is)
    (case k34 => k_is)
    (case a35 => k_is)
    (case l35 => k_is)
    (case c35 => k_is)
    (case k35 => k_is)
    (case xg_BadContract => k_is)
    (case xx_BadContract => k_exc)
    (case xk_BadContract => k_is)
    (case xs_BadContract => k_is)
    (case xt_BadContract => k_is)
    (case xg_BadText => k_is)
    (case xx_BadText => k_exc)
    (case xk_BadText => k_is)
    (case xs_BadText => k_is)
    (case xt_BadText => k_is)
    (case xg_TooMany => k_is)
    (case xx_TooMany => k_exc)
    (case xk_TooMany => k_is)
    (case xs_TooMany => k_is)
    (case xt_TooMany => k_is)
    (case xg_BadMarket => k_is)
    (case xx_BadMarket => k_exc)
    (case xk_BadMarket => k_is)
    (case xs_BadMarket => k_is)
    (case xt_BadMarket => k_is)
    (case e1 => kernel_rfl)
    (case e2 => k_is)
    (case e3 => k_is)
    (case e4 => k_is)
    (case e5 => k_is)
    (case e6 => k_is)
    (case e7 => k_is)
    (case e8 => k_is)
    (case e9 => kernel_rfl)
    (case e10 => kernel_rfl)
    (case e11 => kernel_rfl)
    (case e12 => kernel_rfl)
    (case e13 => kernel_rfl)
    (case S_BadContract => k_is)
    (case Y_BadContract => kernel_rfl)
    (case z_len => k_is)
    (case z_int => k_is)
    (case z_range => k_is)
    (case z_all => k_is)
    (case z_isinstance => k_is)
    (case z_list => k_is)
    (case z_tuple => k_is)
    (case z_dict => k_is)
    (case z_str => k_is)
    (case z_bool => k_is)
    (case z_LETTERS => k_is)
    (case z_LONGEST_WORD => k_is)
    (case z_TOO_LARGE => k_is)
    (case z_NUMBERS => k_is)
    (case w_NUMBERS => kernel_rfl)
    (case o_NUMBERS => kernel_rfl)
    (case z_CONDITIONS => k_is)
    (case w_CONDITIONS => kernel_rfl)
    (case o_CONDITIONS => kernel_rfl)
    (case z_CONTRACTS => k_is)
    (case w_CONTRACTS => kernel_rfl)
    (case o_CONTRACTS => kernel_rfl)
    (case z_zip => k_is)
    (case z_DEEPEST => k_is)
    (case z_FIGURES => k_is)
    (case z_MOST_FIGURES => k_is)
    (case z_enumerate => k_is)
    (case z_LONGEST_TEXT => k_is)
    (case z_min => k_is)
    (case z_ValueError => k_is)
