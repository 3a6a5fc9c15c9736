import PyProof.Rows.All
import Wide.All
import OpenK.AllK
import Wide.FinOn
import HandS.ForMost
import HandS.Wide
import HandS.WideBits
import HandS.Gcd
import HandS.EndBits
import HandS.Steps
import HandS.Style
import HandS.IsInst
import HandS.Deep
import HandS.ExcInit
import HandS.ExcOwn
import HandS.ExcField
import HandS.FStr
import HandS.TryOnly
import HandS.ForSpec
import HandS.SortRule
import HandS.TupSets
import PyProof.ReprRoads
import PyProof.ReprLen
import HandS.Words
import PySem.Challenge.RW_twicedial_k47_turning_widths
set_option Elab.async false
set_option linter.all false
set_option maxRecDepth 100000
set_option maxHeartbeats 8000000
namespace Tw
open PySem PySem.Spec PyProof.Rows L2
/-! ### heaps: what stays -/
/-- all tracked objects but dicts stay -/
def Keep (H H' : Hp) : Prop := ∀ b o, (∀ kvs, o ≠ .dK kvs) → H b = some o → H' b = some o
theorem Keep.refl (H : Hp) : Keep H H := fun _ _ _ h => h
theorem Keep.of {H H' : Hp} (e : Same H H') : Keep H H' := fun b o _ h => e b o h
theorem Keep.trans {H H1 H2 : Hp} (a : Keep H H1) (b : Keep H1 H2) : Keep H H2 := fun c o n h => b c o n (a c o n h)
theorem Keep.rd {H H' : Hp} {a : Addr} {u : HO} (e : Keep H H') (n : ∀ kvs, u ≠ .dK kvs) (h : Rd H a u) : Rd H' a u := by
  rcases h with h | ⟨o, h⟩
  · exact .inl (e a _ n h)
  · exact .inr ⟨o, e a _ (fun kvs z => nomatch z) h⟩
theorem Keep.seqL {K : PySem.W.Frag} {H H' : Hp} {a : Addr} {xs : List V} (e : Keep H H') (h : SqL K H a xs) : SqL K H' a xs := by
  rcases h with h | h
  · exact .inl (e.rd (fun _ z => nomatch z) h)
  · exact .inr h
theorem Keep.seqT {K : PySem.W.Frag} {H H' : Hp} {a : Addr} {xs : List V} (e : Keep H H') (h : SqT K H a xs) : SqT K H' a xs := by
  rcases h with h | h
  · exact .inl (e.rd (fun _ z => nomatch z) h)
  · exact .inr h
theorem Keep.l {H H' : Hp} {a : Addr} {xs : List V} (e : Keep H H') (h : H a = some (.lst xs)) : H' a = some (.lst xs) := e a _ (fun _ z => nomatch z) h
theorem Keep.t {H H' : Hp} {a : Addr} {xs : List V} (e : Keep H H') (h : H a = some (.tup xs)) : H' a = some (.tup xs) := e a _ (fun _ z => nomatch z) h
theorem len_ok {n : Nat} (h : n ≤ 1000) : n ≤ sizeLine := Nat.le_trans h (by decide)
theorem len_lt {n : Nat} (h : n ≤ 1000) : n < sizeLine := Nat.lt_of_le_of_lt h (by decide)
theorem same_new {H : Hp} {p : Addr} {o : HO} (h : H p = none) : Same H (upd H p o) := fun b x e => by
  rw [upd_ne (ne_of_none e h)]; exact e
/-- an object that H does not know may change -/
theorem same_mut {H H' : Hp} {p : Addr} {o : HO} (e : Same H H') (h : H p = none) : Same H (upd H' p o) := fun a u ha => by
  rw [upd_ne (ne_of_none ha h)]; exact e a u ha
theorem keep_mut {H H' : Hp} {p : Addr} {o : HO} (e : Keep H H') (h : H p = none) : Keep H (upd H' p o) := fun a u n ha => by
  rw [upd_ne (ne_of_none ha h)]; exact e a u n ha
theorem keep_dict {H : Hp} {m : Addr} {kvs : List (Key × V)} {o : HO} (h : H m = some (.dK kvs)) : Keep H (upd H m o) := fun b u n e => by
  rw [upd_ne]
  · exact e
  · intro z; subst z; rw [h] at e; exact n kvs (Option.some.inj e).symm
theorem keep_free {H H' : Hp} (e : Same H H') {l : Addr} (h : H' l = none) : H l = none := e.free h

/-! ### data -/
abbrev Dt := PyData
mutual
theorem Dpk {K : PySem.W.Frag} {H H' : Hp} (e : Keep H H') : ∀ (d : PyData) (v : V), Dp K H v d → Dp K H' v d
  | .none, _, h => by cases h; exact .non
  | .bool b, _, h => by cases h; exact .bl b
  | .int i, _, h => by cases h; exact .int i
  | .str x, _, h => by cases h; exact .str x
  | .list ds, _, h => by
    cases h with
    | lst hs ha => exact .lst (e.seqL hs) (DpkAll e ds _ ha)
  | .tuple ds, _, h => by
    cases h with
    | tup hs ha => exact .tup (e.seqT hs) (DpkAll e ds _ ha)
  | .dict _, _, h => by cases h
theorem DpkAll {K : PySem.W.Frag} {H H' : Hp} (e : Keep H H') : ∀ (ds : List PyData) (vs : List V), DpAll K H vs ds → DpAll K H' vs ds
  | [], _, h => by cases h; exact .nil
  | d :: ds, _, h => by
    cases h with
    | cons h1 h2 => exact .cons (Dpk e d _ h1) (DpkAll e ds _ h2)
end
section
variable {K : PySem.W.Frag} {H H' : Hp} {v : V} {d : PyData} {vs : List V} {ds : List PyData} {a p : Addr} {xs : List V}
theorem dp_keep (e : Keep H H') (h : Dp K H v d) : Dp K H' v d := Dpk e d v h
theorem dp_same (e : Same H H') (h : Dp K H v d) : Dp K H' v d := Dpk (Keep.of e) d v h
theorem dpa_keep (e : Keep H H') (h : DpAll K H vs ds) : DpAll K H' vs ds := DpkAll e ds vs h
theorem dpa_same (e : Same H H') (h : DpAll K H vs ds) : DpAll K H' vs ds := DpkAll (Keep.of e) ds vs h
theorem dp_int {i : Int} (h : Dp K H v (.int i)) : v = .int i := by cases h; rfl
theorem dp_str {i : Str} (h : Dp K H v (.str i)) : v = .str i := by cases h; rfl
theorem dp_bl {i : Bool} (h : Dp K H v (.bool i)) : v = .bl i := by cases h; rfl
theorem dp_non (h : Dp K H v .none) : v = .non := by cases h; rfl
theorem dp_tup (h : Dp K H v (.tuple ds)) : ∃ a xs, v = .ref a ∧ SqT K H a xs ∧ DpAll K H xs ds := by
  cases h with
  | tup hs ha => exact ⟨_, _, rfl, hs, ha⟩
theorem dp_lst (h : Dp K H v (.list ds)) : ∃ a xs, v = .ref a ∧ SqL K H a xs ∧ DpAll K H xs ds := by
  cases h with
  | lst hs ha => exact ⟨_, _, rfl, hs, ha⟩
theorem dpa_len : ∀ {vs : List V} {ds : List PyData}, DpAll K H vs ds → vs.length = ds.length
  | _, [], h => by cases h; rfl
  | _, d :: ds, h => by
    cases h with
    | cons h1 h2 => simp [dpa_len h2]
theorem dpa_get : ∀ {vs : List V} {ds : List PyData} {i : Nat} {d : PyData}, DpAll K H vs ds → ds[i]? = some d → ∃ v, vs[i]? = some v ∧ Dp K H v d
  | _, [], i, d, h, e => by simp at e
  | _, d0 :: ds, 0, d, h, e => by
    cases h with
    | cons h1 h2 => simp at e; subst e; exact ⟨_, rfl, h1⟩
  | _, d0 :: ds, i + 1, d, h, e => by
    cases h with
    | cons h1 h2 =>
      obtain ⟨v, e1, e2⟩ := dpa_get (i := i) h2 (by simpa using e)
      exact ⟨v, by simpa using e1, e2⟩
theorem dpa_get2 : ∀ {vs : List V} {ds : List PyData} {i : Nat} {v : V}, DpAll K H vs ds → vs[i]? = some v → ∃ d, ds[i]? = some d ∧ Dp K H v d := fun {vs ds i v} h e => by
  have hi : i < ds.length := by
    rw [← dpa_len h]; exact (List.getElem?_eq_some_iff.mp e).1
  obtain ⟨v', e1, e2⟩ := dpa_get h (List.getElem?_eq_getElem hi)
  rw [e] at e1
  cases e1
  exact ⟨_, List.getElem?_eq_getElem hi, e2⟩
theorem dpa_app : ∀ {vs : List V} {ds : List PyData} {ws : List V} {es : List PyData}, DpAll K H vs ds → DpAll K H ws es → DpAll K H (vs ++ ws) (ds ++ es)
  | _, [], _, _, h, g => by cases h; exact g
  | _, d :: ds, _, _, h, g => by
    cases h with
    | cons h1 h2 => exact .cons h1 (dpa_app h2 g)
theorem dpa_one (h : Dp K H v d) : DpAll K H [v] [d] := .cons h .nil
theorem dpa_take : ∀ {vs : List V} {ds : List PyData} (n : Nat), DpAll K H vs ds → DpAll K H (vs.take n) (ds.take n)
  | _, _, 0, h => by simp; exact .nil
  | _, [], n + 1, h => by cases h; exact .nil
  | _, d :: ds, n + 1, h => by
    cases h with
    | cons h1 h2 => exact .cons h1 (dpa_take n h2)
theorem dpa_drop : ∀ {vs : List V} {ds : List PyData} (n : Nat), DpAll K H vs ds → DpAll K H (vs.drop n) (ds.drop n)
  | _, _, 0, h => h
  | _, [], n + 1, h => by cases h; exact .nil
  | _, d :: ds, n + 1, h => by
    cases h with
    | cons h1 h2 => exact dpa_drop n h2
theorem dpa_ints : ∀ (ns : List Int), DpAll K H (ns.map V.int) (ns.map PyData.int)
  | [] => .nil
  | n :: ns => .cons (.int n) (dpa_ints ns)
theorem dpa_ints_inv : ∀ {vs : List V} {ns : List Int}, DpAll K H vs (ns.map PyData.int) → vs = ns.map V.int
  | _, [], h => by cases h; rfl
  | _, n :: ns, h => by
    cases h with
    | cons h1 h2 => cases h1; rw [dpa_ints_inv h2]; rfl
theorem dpa_strs : ∀ (ns : List Str), DpAll K H (ns.map V.str) (ns.map PyData.str)
  | [] => .nil
  | n :: ns => .cons (.str n) (dpa_strs ns)
theorem dpa_strs_inv : ∀ {vs : List V} {ns : List Str}, DpAll K H vs (ns.map PyData.str) → vs = ns.map V.str
  | _, [], h => by cases h; rfl
  | _, n :: ns, h => by
    cases h with
    | cons h1 h2 => cases h1; rw [dpa_strs_inv h2]; rfl
theorem dp_newL (h : H a = some (.lst xs)) (g : DpAll K H xs ds) : Dp K H (.ref a) (.list ds) := .lst (.of h) g
theorem dp_newT (h : H a = some (.tup xs)) (g : DpAll K H xs ds) : Dp K H (.ref a) (.tuple ds) := .tup (.of h) g
end

/-! ### readings, step by step -/
def rB (x : V) (H : Hp) (Q : Bool → Hp → Prop) : Prop := ∃ k, x = .bl k ∧ Q k H
def rBV (x : V) (A : Bool → Prop) : Prop := ∃ c, x = .bl c ∧ A c
def rDG (x y : V) (H : Hp) (Q : VK) : Prop := ∃ a v, x = .ref a ∧ DGet H a y (some v) ∧ Q v H
def rDP (x y v : V) (H : Hp) (Q : Hp → Prop) : Prop := ∃ a H4, x = .ref a ∧ DPut H a y v H4 ∧ Q H4
def r2V (vs : List V) (A : V → V → Prop) : Prop := ∃ v w, vs = [v, w] ∧ A v w
def rNewT (xs : List V) (H : Hp) (Q : VK) : Prop := xs.length ≤ sizeLine ∧ ∀ p, H p = none → Q (.ref p) (upd H p (.tup xs))
def rNewL (xs : List V) (H : Hp) (Q : VK) : Prop := xs.length ≤ sizeLine ∧ ∀ p, H p = none → Q (.ref p) (upd H p (.lst xs))
def rPI (x : V) (A : Option Int → Prop) : Prop := ∃ i, x = .int i ∧ A (some i)
section
variable {K : PySem.W.Frag} {σ : L2.St} {H : Hp} {Q : VK} {D : Ends} {v x y z : V} {i : Nat} {ta tb tc te : TE} {t u : TS} {c : TT} {g : TG} {tn : TA} {r : R2}
theorem w_seq (h : t { D with nx := u D } σ H) : tSeq t u D σ H := h
theorem w_next (h : D.nx σ H) : tNext D σ H := h
theorem w_asg (h : te σ H fun x H1 => D.nx (σ.set i (some x)) H1) : tAsg te (gName i) D σ H := h
theorem w_asgG (h : te σ H fun x H1 => g x σ H1 D.nx) : tAsg te g D σ H := h
theorem w_drop (h : te σ H fun _ H1 => D.nx σ H1) : tDrop te D σ H := h
theorem w_ret (h : te σ H D.rt) : tRet te D σ H := h
theorem w_retN (h : D.rt .non H) : tRetN D σ H := h
theorem w_brk (h : D.bk σ H) : tBreak D σ H := h
theorem w_cont (h : D.ct σ H) : tCont D σ H := h
theorem w_ifS (h : c σ H fun b H1 => if b = true then t D σ H1 else u D σ H1) : tIfS c t u D σ H := h
theorem w_var (h : σ[i]? = some (some v)) (q : Q v H) : tVar i σ H Q := ⟨v, h, q⟩
theorem w_c (q : Q v H) : tC v σ H Q := q
theorem w_op (h : ta σ H fun x H1 => tb σ H1 fun y H2 => r x y H2 Q) : tOp r ta tb σ H Q := h
theorem w_un {r : V → Hp → VK → Prop} (h : ta σ H fun x H1 => r x H1 Q) : tUn r ta σ H Q := h
theorem w_rI0 {g : Int → Int → V} {i j : Int} (q : Q (g i j) H) : rI0 g (.int i) (.int j) H Q := ⟨i, j, rfl, rfl, q⟩
theorem w_rI {C : Int → Int → Prop} {g : Int → Int → V} {i j : Int} (hc : C i j) (q : Q (g i j) H) : rI C g (.int i) (.int j) H Q := ⟨i, j, rfl, rfl, hc, q⟩
theorem w_rU {g : Int → V} {i : Int} (q : Q (g i) H) : rU g (.int i) H Q := ⟨i, rfl, q⟩
theorem w_eqI {i j : Int} (q : Q (.bl (decide (i = j))) H) : rEq (.int i) (.int j) H Q := ⟨rfl, by
  rw [dec_int, show (i == j) = decide (i = j) from rfl]; exact q⟩
theorem w_neI {i j : Int} (q : Q (.bl (!decide (i = j))) H) : rNe (.int i) (.int j) H Q := ⟨rfl, by
  rw [dec_int, show (i == j) = decide (i = j) from rfl]; exact q⟩
theorem w_rEq (hs : scal x y = true) (q : Q (.bl (decide (x = y))) H) : rEq x y H Q := ⟨hs, q⟩
theorem w_rNe (hs : scal x y = true) (q : Q (.bl (!decide (x = y))) H) : rNe x y H Q := ⟨hs, q⟩
theorem w_tI (h : c σ H fun b H1 => if b = true then ta σ H1 Q else tb σ H1 Q) : tIf c ta tb σ H Q := h
theorem w_tTest {Q : Bool → Hp → Prop} (h : te σ H fun x H' => rB x H' Q) : tTest te σ H Q := h
theorem w_tB {Q : Bool → Hp → Prop} (h : te σ H fun x H' => rB x H' Q) : tB te σ H Q := h
theorem w_bl {b : Bool} {Q : Bool → Hp → Prop} (h : Q b H) : rB (.bl b) H Q := ⟨b, rfl, h⟩
theorem w_blV {b : Bool} {A : Bool → Prop} (h : A b) : rBV (.bl b) A := ⟨b, rfl, h⟩
theorem w_and {t u : TT} {Q : Bool → Hp → Prop} (h : t σ H fun c H1 => if c = true then u σ H1 Q else Q false H1) : tAnd t u σ H Q := h
theorem w_or {t u : TT} {Q : Bool → Hp → Prop} (h : t σ H fun c H1 => if c = true then Q true H1 else u σ H1 Q) : tOr t u σ H Q := h
theorem w_not {t : TT} {Q : Bool → Hp → Prop} (h : t σ H fun c H1 => Q (!c) H1) : tNot t σ H Q := h
theorem w_andV (h : ta σ H fun x H1 => rBV x fun c => if c = true then tb σ H1 Q else Q (.bl false) H1) : tAndV ta tb σ H Q := h
theorem w_orV (h : ta σ H fun x H1 => rBV x fun c => if c = true then Q (.bl true) H1 else tb σ H1 Q) : tOrV ta tb σ H Q := h
theorem w_notV (h : ta σ H fun x H1 => rBV x fun c => Q (.bl (!c)) H1) : tNotV ta σ H Q := h
theorem w_chain {r r' : R2} (h : ta σ H fun x H1 => tb σ H1 fun y H2 => r x y H2 fun z H3 => rBV z fun k => if k = true then tc σ H3 fun w' H4 => r' y w' H4 Q else Q (.bl false) H3) : tChain r r' ta tb tc σ H Q := h
theorem w_nil {Q : List V → Hp → Prop} (q : Q [] H) : tNil σ H Q := q
theorem w_cons {Q : List V → Hp → Prop} (h : ta σ H fun x H1 => tn σ H1 fun xs H2 => Q (x :: xs) H2) : tCons ta tn σ H Q := h
theorem w_call {sp : Sp} {dvs : List V} {E : XK} (h : tn σ H fun vs H1 => sp (vs ++ dvs) H1 Q E) : tCall sp dvs E tn σ H Q := h
theorem w_cb {r : List V → Hp → VK → Prop} (h : tn σ H fun vs H1 => r vs H1 Q) : tCB r tn σ H Q := h
theorem w_tup (h : tn σ H fun xs H1 => rNewT xs H1 Q) : tTup tn σ H Q := h
theorem w_lst (h : tn σ H fun xs H1 => rNewL xs H1 Q) : tLst tn σ H Q := h
theorem w_newT {xs : List V} {ds : List PyData} (hl : xs.length ≤ sizeLine) (hd : DpAll K H xs ds) (q : ∀ p H', H p = none → Same H H' → Dp K H' (.ref p) (.tuple ds) → Q (.ref p) H') :
    rNewT xs H Q :=
  ⟨hl, fun p hp => q p _ hp (same_new hp) (dp_newT upd_same (dpa_same (same_new hp) hd))⟩
theorem w_newL {xs : List V} {ds : List PyData} (hl : xs.length ≤ sizeLine) (hd : DpAll K H xs ds) (q : ∀ p H', H p = none → Same H H' → H' p = some (.lst xs) → Dp K H' (.ref p) (.list ds) → Q (.ref p) H') :
    rNewL xs H Q :=
  ⟨hl, fun p hp => q p _ hp (same_new hp) upd_same (dp_newL upd_same (dpa_same (same_new hp) hd))⟩
theorem w_ite {b : Bool} {A B : Prop} (h1 : b = true → A) (h2 : b = false → B) : if b = true then A else B := by
  cases b with
  | true => rw [if_pos rfl]; exact h1 rfl
  | false => rw [if_neg Bool.false_ne_true]; exact h2 rfl
theorem w_iteD {P : Prop} [Decidable P] {A B : Prop} (h1 : P → A) (h2 : ¬ P → B) : if decide P = true then A else B := by
  by_cases h : P
  · rw [if_pos (decide_eq_true h)]; exact h1 h
  · rw [if_neg (by simpa using h)]; exact h2 h
theorem w_iteND {P : Prop} [Decidable P] {A B : Prop} (h1 : ¬ P → A) (h2 : P → B) : if (!decide P) = true then A else B := by
  by_cases h : P
  · rw [decide_eq_true h]; simpa using h2 h
  · rw [decide_eq_false h]; simpa using h1 h
theorem w_iteT {A B : Prop} (h : A) : if true = true then A else B := by rw [if_pos rfl]; exact h
theorem w_iteNT {A B : Prop} (h : B) : if (!true) = true then A else B := by rw [Bool.not_true, if_neg Bool.false_ne_true]; exact h
theorem w_iteNF {A B : Prop} (h : A) : if (!false) = true then A else B := by rw [Bool.not_false, if_pos rfl]; exact h
theorem w_iteF {A B : Prop} (h : B) : if false = true then A else B := by rw [if_neg Bool.false_ne_true]; exact h
end
end Tw
namespace Tw
open PySem PySem.Spec PyProof.Rows L2
/-! ### rules by data -/
section
variable {X : Cx}
def rLen (K : PySem.W.Frag) : List V → Hp → VK → Prop := fun xs H Q => ∃ x n, xs = [x] ∧ LenV K x H n ∧ Q (.int n) H
theorem cl_len {K : PySem.W.Frag} (h : X.K = K := by rfl) : CallR X (.builtin "len") (rLen K) := h ▸ call_len
def rInt : List V → Hp → VK → Prop := fun xs H Q => (∃ i, xs = [.int i] ∧ Q (.int i) H) ∨ ∃ k, xs = [.bl k] ∧ Q (.int (if k then 1 else 0)) H
theorem cl_int : CallR X (.type "int") rInt := call_int1
def rStrI : List V → Hp → VK → Prop := fun xs H Q => ∃ i, xs = [.int i] ∧ i.natAbs.log2 < 1920 ∧ Q (.str (toString i)) H
theorem cl_strI : CallR X (.type "str") rStrI := call_str_int
def rTupOf (K : PySem.W.Frag) : List V → Hp → VK → Prop := fun xs H Q => ∃ p ys, xs = [.ref p] ∧ ((SqL K H p ys ∧ ∀ l, H l = none → Q (.ref l) (upd H l (.tup ys))) ∨ (SqT K H p ys ∧ Q (.ref p) H))
def rMax2 : List V → Hp → VK → Prop := fun xs H Q => ∃ i j, xs = [.int i, .int j] ∧ Q (.int (if j > i then j else i)) H
theorem cl_max2 (hc : X.calm = true) : CallR X (.builtin "max") rMax2 := call_max2 hc
def rMin2 : List V → Hp → VK → Prop := fun xs H Q => ∃ i j, xs = [.int i, .int j] ∧ Q (.int (if j < i then j else i)) H
theorem cl_min2 (hc : X.calm = true) : CallR X (.builtin "min") rMin2 := call_min2 hc
theorem pe_cint {x : Str} {pos : Pos} {i : Int} {t : Tok} (hg : Gl X x) (hm : X.mg x = some (.int i t)) (hd : (x == ("__debug__" : Str)) = false := by decide) : PE X (.Name x pos) (tC (.int i)) := pe_glob hg hm (show RelV (.int i) _ from ⟨t, rfl⟩) hd
theorem cl_tup {K : PySem.W.Frag} (h : X.K = K := by rfl) : CallR X (.type "tuple") (rTupOf K) := h ▸ call_tuple_of
def rLstOf (K : PySem.W.Frag) : List V → Hp → VK → Prop := fun xs H Q => ∃ p ys, xs = [.ref p] ∧ (SqL K H p ys ∨ SqT K H p ys) ∧ ∀ l, H l = none → Q (.ref l) (upd H l (.lst ys))
theorem cl_lst {K : PySem.W.Frag} (h : X.K = K := by rfl) : CallR X (.type "list") (rLstOf K) := h ▸ call_list_of
theorem ix_listK {K : PySem.W.Frag} (h : X.K = K := by rfl) : IxR X (rIxL K) := h ▸ ix_list
theorem ix_tupK {K : PySem.W.Frag} (h : X.K = K := by rfl) : IxR X (rIxT K) := h ▸ ix_tup
theorem op_eqK {K : PySem.W.Frag} (hu : X.A.units + 64 < cLine) (h : X.K = K := by rfl) : OpR X (compareOp .Eq) (rEqD K) := h ▸ op_eqD hu
theorem op_neK {K : PySem.W.Frag} (hu : X.A.units + 64 < cLine) (h : X.K = K := by rfl) : OpR X (compareOp .NotEq) (rNeD K) := h ▸ op_neD hu
theorem sl_listK {K : PySem.W.Frag} (h : X.K = K := by rfl) : SlR X (rSlL K) := h ▸ sl_list
theorem pi_listK {K : PySem.W.Frag} {tg l : Expr} {tl : TE} (hl : PE X l tl) (h : X.K = K := by rfl) : PI X tg l (iList K tl) := h ▸ pi_list hl
theorem pi_tupK {K : PySem.W.Frag} {tg l : Expr} {tl : TE} (hl : PE X l tl) (h : X.K = K := by rfl) : PI X tg l (iTup K tl) := h ▸ pi_tup hl
def rAddStr : R2 := fun x y H Q => ∃ i j, x = .str i ∧ y = .str j ∧ i.length + j.length ≤ sizeLine ∧ Q (.str (i ++ j)) H
theorem op_addS : OpR X (binaryOp .Add) rAddStr := op_add_str
theorem op_catL : OpR X (binaryOp .Add) rCat := op_cat
def rJoin (K : PySem.W.Frag) : V → List V → Hp → VK → Prop := fun x xs H Q => ∃ a p, ∃ ys : List Str, x = .str a ∧ xs = [.ref p] ∧ (SqL K H p (ys.map V.str) ∨ SqT K H p (ys.map V.str)) ∧ (ys.map (·.length)).sum + ys.length * a.length ≤ 16777216 ∧ Q (.str (Txt.join a ys)) H
def tTru (K : PySem.W.Frag) (ta : TE) : TT := fun σ H Q => ta σ H fun x H' => ∃ k, TruV K x H' k ∧ Q k H'
theorem pt_tru {K : PySem.W.Frag} {a : Expr} {ta : TE} (ha : PE X a ta) (he : ∀ whole, isTrue a X.env whole = (do let v ← whole; standAt a.pos; holding [v] (truthy v))) (h : X.K = K := by rfl) : PT X a (tTru K ta) := h ▸ pt_truth ha he
end
end Tw

namespace Tw
open PySem PySem.Spec PyProof.Rows L2
section
variable {X : Cx}
theorem pe_joinD {K : PySem.W.Frag} {o e : Expr} {to te : TE} {apos pos : Pos} (ho : PE X o to) (he : PE X e te) (h : X.K = K := by rfl) (hs : starEach [e] X.env = [(false, eval e X.env)] := by rfl) (hbase : attributeBase o "join" X.env (eval o X.env) = eval o X.env := by rfl) (hline : (apos.endLine == pos.line) = true := by rfl) :
    PE X (.Call (.Attribute o "join" apos) [e] [] pos) (tM1 (rJoin K) to te) := h ▸ pe_join ho he hs hbase hline
end
section
variable {K : PySem.W.Frag} {σ : L2.St} {H : Hp} {Q : VK} {D : Ends} {v x y z : V} {d e : PyData} {ds es : List PyData} {i : Nat} {to ta tb tc te : TE} {t u : TS} {tn : TA}
theorem w_lenL (h : Dp K H v (.list ds)) (q : Q (.int (ds.length : Int)) H) : rLen K [v] H Q := by
  obtain ⟨a, xs, rfl, hs, ha⟩ := dp_lst h
  exact ⟨.ref a, ds.length, rfl, .inl ⟨xs, hs, (dpa_len ha).symm⟩, q⟩
theorem w_lenT (h : Dp K H v (.tuple ds)) (q : Q (.int (ds.length : Int)) H) : rLen K [v] H Q := by
  obtain ⟨a, xs, rfl, hs, ha⟩ := dp_tup h
  exact ⟨.ref a, ds.length, rfl, .inr ⟨xs, hs, (dpa_len ha).symm⟩, q⟩
theorem w_lenS {x : Str} (h : x.length ≤ sizeLine) (q : Q (.int (x.length : Int)) H) : rLen K [.str x] H Q := ⟨.str x, x.length, rfl, ⟨h, rfl⟩, q⟩
theorem w_int {n : Int} (q : Q (.int n) H) : rInt [.int n] H Q := .inl ⟨n, rfl, q⟩
theorem w_strI {n : Int} (h : n.natAbs.log2 < 1920) (q : Q (.str (toString n)) H) : rStrI [.int n] H Q := ⟨n, rfl, h, q⟩
theorem w_max2 {i j : Int} (q : ∀ r, r = max i j → Q (.int r) H) : rMax2 [.int i, .int j] H Q := ⟨i, j, rfl, q _ (by split <;> omega)⟩
theorem w_min2 {i j : Int} (q : ∀ r, r = min i j → Q (.int r) H) : rMin2 [.int i, .int j] H Q := ⟨i, j, rfl, q _ (by split <;> omega)⟩
theorem w_tupOf (h : Dp K H v (.list ds)) (q : ∀ p H', H p = none → Same H H' → Dp K H' (.ref p) (.tuple ds) → Q (.ref p) H') : rTupOf K [v] H Q := by
  obtain ⟨a, xs, rfl, hs, ha⟩ := dp_lst h
  exact ⟨a, xs, rfl, .inl ⟨hs, fun l hl => q l _ hl (same_new hl) (dp_newT upd_same (dpa_same (same_new hl) ha))⟩⟩
theorem w_tupOfT (h : Dp K H v (.tuple ds)) (q : ∀ v, Dp K H v (.tuple ds) → Q v H) : rTupOf K [v] H Q := by
  obtain ⟨a, xs, rfl, hs, ha⟩ := dp_tup h
  exact ⟨a, xs, rfl, .inr ⟨hs, q _ h⟩⟩
theorem w_lstOfT (h : Dp K H v (.tuple ds)) (q : ∀ p H' xs, H p = none → Same H H' → H' p = some (.lst xs) → Dp K H' (.ref p) (.list ds) → Q (.ref p) H') : rLstOf K [v] H Q := by
  obtain ⟨a, xs, rfl, hs, ha⟩ := dp_tup h
  exact ⟨a, xs, rfl, .inr hs, fun l hl => q l _ xs hl (same_new hl) upd_same (dp_newL upd_same (dpa_same (same_new hl) ha))⟩
theorem w_lstOfL (h : Dp K H v (.list ds)) (q : ∀ p H' xs, H p = none → Same H H' → H' p = some (.lst xs) → Dp K H' (.ref p) (.list ds) → Q (.ref p) H') : rLstOf K [v] H Q := by
  obtain ⟨a, xs, rfl, hs, ha⟩ := dp_lst h
  exact ⟨a, xs, rfl, .inl hs, fun l hl => q l _ xs hl (same_new hl) upd_same (dp_newL upd_same (dpa_same (same_new hl) ha))⟩
theorem w_addS {x y : Str} (h : x.length + y.length ≤ sizeLine) (q : Q (.str (x ++ y)) H) : rAddStr (.str x) (.str y) H Q := ⟨x, y, rfl, rfl, h, q⟩
/-- an item by a place that is known to be a number -/
theorem w_ixL {n : Int} {j : Nat} (h : Dp K H v (.list ds)) (hn : n = (j : Int)) (hd : ds[j]? = some d) (q : ∀ v', Dp K H v' d → Q v' H) : rIxL K v (.int n) H Q := by
  obtain ⟨a, xs, rfl, hs, ha⟩ := dp_lst h
  obtain ⟨v', e1, e2⟩ := dpa_get ha hd
  exact ⟨a, xs, n, v', rfl, rfl, hs, at_of hn e1, q v' e2⟩
theorem w_ixT {n : Int} {j : Nat} (h : Dp K H v (.tuple ds)) (hn : n = (j : Int)) (hd : ds[j]? = some d) (q : ∀ v', Dp K H v' d → Q v' H) : rIxT K v (.int n) H Q := by
  obtain ⟨a, xs, rfl, hs, ha⟩ := dp_tup h
  obtain ⟨v', e1, e2⟩ := dpa_get ha hd
  exact ⟨a, xs, n, v', rfl, rfl, hs, at_of hn e1, q v' e2⟩
theorem w_ixLI {n : Int} {ns : List Int} (h : Dp K H v (.list (ns.map PyData.int))) (h0 : 0 ≤ n) (h1 : n < (ns.length : Int)) (q : ∀ z, ns[n.toNat]? = some z → Q (.int z) H) : rIxL K v (.int n) H Q := by
  have hl : n.toNat < ns.length := by omega
  refine w_ixL (j := n.toNat) (d := .int ns[n.toNat]) h (by omega) (by simp [hl]) fun v' hv => ?_
  cases hv
  exact q _ (List.getElem?_eq_getElem hl)
theorem w_ixTI {n : Int} {ns : List Int} (h : Dp K H v (.tuple (ns.map PyData.int))) (h0 : 0 ≤ n) (h1 : n < (ns.length : Int)) (q : ∀ z, ns[n.toNat]? = some z → Q (.int z) H) : rIxT K v (.int n) H Q := by
  have hl : n.toNat < ns.length := by omega
  refine w_ixT (j := n.toNat) (d := .int ns[n.toNat]) h (by omega) (by simp [hl]) fun v' hv => ?_
  cases hv
  exact q _ (List.getElem?_eq_getElem hl)
theorem w_ixLast (h : Dp K H v (.list ds)) (hd : ds.getLast? = some d) (q : ∀ v', Dp K H v' d → Q v' H) : rIxL K v (.int (-1)) H Q := by
  obtain ⟨a, xs, rfl, hs, ha⟩ := dp_lst h
  rw [List.getLast?_eq_getElem?] at hd
  obtain ⟨v', e1, e2⟩ := dpa_get ha hd
  have hne : xs ≠ [] := fun z => by subst z; simp at e1
  have hx : xs = xs.dropLast ++ [xs.getLast hne] := (List.dropLast_concat_getLast hne).symm
  have e3 : v' = xs.getLast hne := by
    rw [← dpa_len ha, ← List.getLast?_eq_getElem?, List.getLast?_eq_getLast hne] at e1
    exact (Option.some.inj e1).symm
  refine ⟨a, xs, -1, v', rfl, rfl, hs, ?_, q v' e2⟩
  rw [hx, e3]; exact atI_last _ _
theorem w_ixLastT (h : Dp K H v (.tuple ds)) (hd : ds.getLast? = some d) (q : ∀ v', Dp K H v' d → Q v' H) : rIxT K v (.int (-1)) H Q := by
  obtain ⟨a, xs, rfl, hs, ha⟩ := dp_tup h
  rw [List.getLast?_eq_getElem?] at hd
  obtain ⟨v', e1, e2⟩ := dpa_get ha hd
  have hne : xs ≠ [] := fun z => by subst z; simp at e1
  have hx : xs = xs.dropLast ++ [xs.getLast hne] := (List.dropLast_concat_getLast hne).symm
  have e3 : v' = xs.getLast hne := by
    rw [← dpa_len ha, ← List.getLast?_eq_getElem?, List.getLast?_eq_getLast hne] at e1
    exact (Option.some.inj e1).symm
  refine ⟨a, xs, -1, v', rfl, rfl, hs, ?_, q v' e2⟩
  rw [hx, e3]; exact atI_last _ _
theorem w_ixS {s : Str} {n : Int} {j c : Nat} (hz : s.length ≤ sizeLine) (hn : n = (j : Int)) (hd : s.cps.toList[j]? = some c) (q : Q (.str ⟨#[c]⟩) H) : rIxS (.str s) (.int n) H Q :=
  ⟨s, n, c, rfl, rfl, hz, by rw [hn]; exact atI_nat hd, q⟩
theorem w_tIsN (q : Q (.bl (decide (x = .non))) H) : rIsN x .non H Q := ⟨rfl, q⟩
theorem w_tNotN (q : Q (.bl (!decide (x = .non))) H) : rNotN x .non H Q := ⟨rfl, q⟩
theorem w_bm {T : String} {r : V → List V → Hp → VK → Prop} (h : to σ H fun x H1 => tyV K T x H1 ∧ tn σ H1 fun xs H2 => r x xs H2 Q) : tBM K T r to tn σ H Q := h
theorem w_bm0 {T : String} {r : V → List V → Hp → VK → Prop} (h : to σ H fun x H1 => tyV K T x H1 ∧ r x [] H1 Q) : tBM0 K T r to σ H Q := h
theorem w_m1 {r : V → List V → Hp → VK → Prop} (h : to σ H fun x H1 => (∃ a, x = .str a) ∧ te σ H1 fun y H2 => r x [y] H2 Q) : tM1 r to te σ H Q := h
theorem w_isStr {s : Str} {A : Prop} (h : A) : (∃ a, V.str s = .str a) ∧ A := ⟨⟨s, rfl⟩, h⟩
theorem w_append {l : Addr} {xs : List V} (h : H l = some (.lst xs)) (hz : xs.length < sizeLine) (q : Q .non (upd H l (.lst (xs ++ [y])))) : rAppend (.ref l) [y] H Q := ⟨l, xs, y, rfl, rfl, h, hz, q⟩
theorem w_tyL {a : Addr} {xs : List V} {A : Prop} (h : H a = some (.lst xs)) (q : A) : tyV K "list" (.ref a) H ∧ A := ⟨.inl ⟨rfl, xs, .of h⟩, q⟩
theorem w_tyS {s : Str} {A : Prop} (q : A) : tyV K "str" (.str s) H ∧ A := ⟨rfl, q⟩
theorem w_join {s : Str} {ys : List Str} (h : Dp K H v (.list (ys.map PyData.str))) (hz : (ys.map (·.length)).sum + ys.length * s.length ≤ 16777216) (q : Q (.str (Txt.join s ys)) H) : rJoin K (.str s) [v] H Q := by
  obtain ⟨a, xs, rfl, hs, ha⟩ := dp_lst h
  rw [dpa_strs_inv ha] at hs
  exact ⟨s, a, ys, rfl, rfl, .inl hs, hz, q⟩
/-- a new list out of two -/
theorem w_catL {a b : Addr} {xs zs : List V} (h : H a = some (.lst xs)) (h' : H b = some (.lst zs)) (hz : xs.length + zs.length ≤ sizeLine) (q : ∀ p H', H p = none → Same H H' → H' p = some (.lst (xs ++ zs)) → Q (.ref p) H') : rCat (.ref a) (.ref b) H Q :=
  ⟨a, b, xs, zs, rfl, rfl, h, h', hz, fun p hp => q p _ hp (same_new hp) upd_same⟩
theorem w_dget {td ty : TE} (h : td σ H fun x H1 => ty σ H1 fun y H2 => rDG x y H2 Q) : tDGet td ty σ H Q := h
theorem w_dgS {k : Str} {kvs : List (Key × V)} {m : Addr} (h : H m = some (.dK kvs)) (e : valV kvs (.inr k) = some v) (q : Q v H) : rDG (.ref m) (.str k) H Q :=
  ⟨m, v, rfl, by rw [← e]; exact DGet.k (k := .inr k) h, q⟩
theorem w_dpS {k : Str} {kvs kvs' : List (Key × V)} {m : Addr} (h : H m = some (.dK kvs)) (e : putK kvs (.inr k) v = kvs') (hl : kvs.length < sizeLine) {Q : Hp → Prop} (q : ∀ H', Keep H H' → H' m = some (.dK kvs') → Q H') : rDP (.ref m) (.str k) v H Q := by
  subst e
  exact ⟨m, _, rfl, DPut.k (k := .inr k) h hl, q _ (keep_dict h) upd_same⟩
theorem w_dput {td ty tv : TE} (h : tv σ H fun v H1 => td σ H1 fun x H2 => ty σ H2 fun y H3 => rDP x y v H3 (D.nx σ)) : sDPut td ty tv D σ H := h
theorem w_par {a b : Nat} {ta : TA} (h : ta σ H fun vs H1 => r2V vs fun v w => D.nx ((σ.set a (some v)).set b (some w)) H1) : tPar a b ta D σ H := h
theorem w_par2 {v w : V} {A : V → V → Prop} (h : A v w) : r2V [v, w] A := ⟨v, w, rfl, h⟩
def r3V (vs : List V) (A : V → V → V → Prop) : Prop := ∃ u v w, vs = [u, v, w] ∧ A u v w
theorem w_par3 {a b c : Nat} {ta : TA} (h : ta σ H fun vs H1 => r3V vs fun u v w => D.nx (((σ.set a (some u)).set b (some v)).set c (some w)) H1) : tPar3 a b c ta D σ H := h
theorem w_par33 {u v w : V} {A : V → V → V → Prop} (h : A u v w) : r3V [u, v, w] A := ⟨u, v, w, rfl, h⟩
theorem w_eqB {a b : Bool} (q1 : a = b → Q (.bl true) H) (q2 : a ≠ b → Q (.bl false) H) : rEq (.bl a) (.bl b) H Q := ⟨rfl, by
  by_cases h : a = b
  · subst h; rw [decide_eq_true rfl]; exact q1 rfl
  · rw [decide_eq_false (fun z => h (V.bl.inj z))]; exact q2 h⟩
theorem w_neB {a b : Bool} (q1 : a = b → Q (.bl false) H) (q2 : a ≠ b → Q (.bl true) H) : rNe (.bl a) (.bl b) H Q := ⟨rfl, by
  by_cases h : a = b
  · subst h; rw [decide_eq_true rfl]; exact q1 rfl
  · rw [decide_eq_false (fun z => h (V.bl.inj z))]; exact q2 h⟩
theorem w_aug {te : TE} {ti : TIp} (h : σ[i]? = some (some x)) (q : te σ H fun y H1 => ti x y H1 fun z H2 => D.nx (σ.set i (some z)) H2) : tAug i te ti D σ H := ⟨x, h, q⟩
theorem w_gTup {n : Nat} {tg : TGs} {Q : L2.St → Hp → Prop} {a : Addr} {xs : List V} (hs : SqT K H a xs) (hn : xs.length = n) (q : tg xs σ H Q) : gTup K n tg (.ref a) σ H Q := ⟨a, xs, rfl, hs, hn, q⟩
theorem w_gTup2 {i j : Nat} {Q : L2.St → Hp → Prop} {d e : PyData} (h : Dp K H v (.tuple [d, e])) (q : ∀ v1 v2, Dp K H v1 d → Dp K H v2 e → Q ((σ.set i (some v1)).set j (some v2)) H) : gTup K 2 (gCons (gName i) (gCons (gName j) gNil)) v σ H Q := by
  obtain ⟨a, xs, rfl, hs, ha⟩ := dp_tup h
  cases ha with
  | cons h1 h2 => cases h2 with
    | cons h3 h4 => cases h4; exact ⟨a, _, rfl, hs, rfl, _, _, rfl, _, _, rfl, rfl, q _ _ h1 h3⟩
theorem w_slice {r : V → Option Int → Option Int → Hp → VK → Prop} {tl th : TO} (h : te σ H fun x H1 => tl σ H1 fun l H2 => th σ H2 fun u H3 => r x l u H3 Q) : tSl r te tl th σ H Q := h
theorem w_noPart {Q : Option Int → Hp → Prop} (h : Q none H) : tNoPart σ H Q := h
theorem w_part {Q : Option Int → Hp → Prop} (h : te σ H fun x H1 => rPI x fun o => Q o H1) : tPart te σ H Q := h
theorem w_pint {n : Int} {A : Option Int → Prop} (h : A (some n)) : rPI (.int n) A := ⟨n, rfl, h⟩
theorem w_slL {lo hi : Option Int} {ds' : List PyData} (h : Dp K H v (.list ds)) (hc : ∀ xs, xs.length = ds.length → DpAll K H xs ds → DpAll K H (cutV xs lo hi) ds') (q : ∀ p H' xs, H p = none → Same H H' → H' p = some (.lst xs) → Dp K H' (.ref p) (.list ds') → Q (.ref p) H') : rSlL K v lo hi H Q := by
  obtain ⟨a, xs, rfl, hs, ha⟩ := dp_lst h
  exact ⟨a, xs, rfl, hs, fun p hp => q p _ _ hp (same_new hp) upd_same (dp_newL upd_same (dpa_same (same_new hp) (hc xs (dpa_len ha) ha)))⟩
end
/-- a text's signs, a text of signs -/
theorem wideX {i j : Int} {a b : Nat} (ha : i.natAbs < 2 ^ a) (hb : j.natAbs < 2 ^ b) (h : a + b ≤ 134217728) : CMulX i j := mulx_ok ha hb h
theorem mulS {i j : Int} (ha : -(2 ^ 250) < i ∧ i < 2 ^ 250) (hb : -(2 ^ 250) < j ∧ j < 2 ^ 250) : CMulX i j := mulx_ok (a := 250) (b := 250) (by omega) (by omega) (by decide)
theorem divS {i j : Int} (h : 0 < j ∧ j < 2 ^ 250) : CDivW i j := wide_div (b := 250) h.1 (by omega) (by decide) (by decide)
end Tw
namespace Tw
open PySem PySem.Spec PyProof.Rows L2
def rMod : R2 := rI (fun _ j => 0 < j) fun i j => .int (i % j)
theorem op_modD {X : Cx} : OpR X (binaryOp .Mod) rMod := op_mod
theorem w_rMod {H : Hp} {Q : VK} {i j : Int} (hc : 0 < j) (q : Q (.int (i % j)) H) : rMod (.int i) (.int j) H Q := ⟨i, j, rfl, rfl, hc, q⟩
/-- the rest as a letter -/
theorem w_rModA {H : Hp} {Q : VK} {i j : Int} (hc : 0 < j) (q : ∀ r, r = i % j → 0 ≤ r → r < j → Q (.int r) H) : rMod (.int i) (.int j) H Q :=
  ⟨i, j, rfl, rfl, hc, q _ rfl (Int.emod_nonneg _ (by omega)) (Int.emod_lt_of_pos _ hc)⟩
theorem w_rModB {H : Hp} {Q : VK} {i j : Int} (hc : 0 < j) (q : ∀ r, 0 ≤ r → r < j → Q (.int r) H) : rMod (.int i) (.int j) H Q :=
  w_rModA hc fun r _ => q r
def rWB (W : Nat → L2.St → Hp → Prop) (m : Nat) (tb : TS) (D : Ends) (σ : L2.St) (H1 : Hp) : Prop := ∃ N : L2.St → Hp → Prop, (∀ σ' H', N σ' H' → ∃ m', m' < m ∧ W m' σ' H') ∧ tb { D with nx := N, ct := N, bk := D.nx } σ H1
theorem w_wb {W : Nat → L2.St → Hp → Prop} {m : Nat} {tb : TS} {D : Ends} {σ : L2.St} {H1 : Hp} (h : tb { D with nx := fun σ' H' => ∃ m', m' < m ∧ W m' σ' H', ct := fun σ' H' => ∃ m', m' < m ∧ W m' σ' H', bk := D.nx } σ H1) : rWB W m tb D σ H1 :=
  ⟨_, fun _ _ h => h, h⟩
theorem whl_by {c : TT} {tb : TS} {D : Ends} {σ : L2.St} {H : Hp} (W : Nat → L2.St → Hp → Prop) (m0 : Nat) (h0 : W m0 σ H) (hs : ∀ m σ H, W m σ H → c σ H fun b H1 => if b = true then rWB W m tb D σ H1 else D.nx σ H1) : tWhile c tb D σ H :=
  ⟨W, ⟨m0, h0⟩, hs⟩
/-- two ways of an expression meet behind it -/
theorem w_meet {t : TE} {σ : L2.St} {H : Hp} {Q : VK} (Pm : V → Hp → Prop) (h : ∀ Q' : VK, (∀ v H', Pm v H' → Q' v H') → t σ H Q') (k : ∀ v H', Pm v H' → Q v H') : t σ H Q := h Q k
/-- .. of a statement -/
theorem w_meetS {t : TS} {D : Ends} {σ : L2.St} {H : Hp} (Pm : L2.St → Hp → Prop) (h : ∀ nx' : L2.St → Hp → Prop, (∀ σ' H', Pm σ' H' → nx' σ' H') → t { D with nx := nx' } σ H) (k : ∀ σ' H', Pm σ' H' → D.nx σ' H') : t D σ H := h D.nx k
theorem cxK {CX : CXT} {P : Program} {w : World} {K : PySem.W.Frag} {mg : Str → Option Value} {base : Heap} {N : List Str} {qual : Str} {scope : Scope} {f : Addr} {cd : Value} {A : Around} {outer : List Env} {s : Shared} {H : Hp} {E : XK} :
    (cxOf CX P w K mg base N qual scope f cd A outer s H E).nox.K = K := rfl
end Tw
namespace Tw
open PySem PySem.Spec PyProof.Rows L2
/-! ### slices, for -/
def cutD {α : Type} (ds : List α) (lo hi : Option Int) : List α := (ds.drop (HT.sIx ds.length 0 lo)).take (HT.sIx ds.length ds.length hi - HT.sIx ds.length 0 lo)
theorem cutD_len {α : Type} (ds : List α) (lo hi : Option Int) : (cutD ds lo hi).length ≤ ds.length := by
  unfold cutD; rw [List.length_take, List.length_drop]; omega
theorem cutD_map {α β : Type} (f : α → β) (ds : List α) (lo hi : Option Int) : cutD (ds.map f) lo hi = (cutD ds lo hi).map f := by
  unfold cutD; rw [List.length_map, List.map_take, List.map_drop]
theorem cutD_from {α : Type} (ds : List α) {k : Int} (h : 0 ≤ k) : cutD ds (some k) none = ds.drop k.toNat := by
  obtain ⟨n, rfl⟩ := Int.eq_ofNat_of_zero_le h
  unfold cutD
  rw [show HT.sIx ds.length 0 (some (n : Int)) = min n ds.length from HT.sIx_nat _ _ _, HT.sIx_none, Int.toNat_natCast]
  by_cases hn : n ≤ ds.length
  · rw [Nat.min_eq_left hn, List.take_of_length_le (by rw [List.length_drop]; omega)]
  · rw [Nat.min_eq_right (by omega), List.drop_eq_nil_of_le (Nat.le_refl _), List.drop_eq_nil_of_le (by omega)]
    simp
theorem cutD_to {α : Type} (ds : List α) {k : Int} (h : 0 ≤ k) : cutD ds none (some k) = ds.take k.toNat := by
  obtain ⟨n, rfl⟩ := Int.eq_ofNat_of_zero_le h
  unfold cutD
  rw [show HT.sIx ds.length ds.length (some (n : Int)) = min n ds.length from HT.sIx_nat _ _ _, HT.sIx_none, Int.toNat_natCast, Nat.sub_zero, List.drop_zero]
  by_cases hn : n ≤ ds.length
  · rw [Nat.min_eq_left hn]
  · rw [Nat.min_eq_right (by omega), List.take_length, List.take_of_length_le (by omega)]
theorem cutD_both {α : Type} (ds : List α) {a b : Int} (h : 0 ≤ a) (h2 : 0 ≤ b) : cutD ds (some a) (some b) = (ds.take b.toNat).drop a.toNat := by
  obtain ⟨n, rfl⟩ := Int.eq_ofNat_of_zero_le h
  obtain ⟨k, rfl⟩ := Int.eq_ofNat_of_zero_le h2
  unfold cutD
  rw [show HT.sIx ds.length 0 (some (n : Int)) = min n ds.length from HT.sIx_nat _ _ _, show HT.sIx ds.length ds.length (some (k : Int)) = min k ds.length from HT.sIx_nat _ _ _, Int.toNat_natCast, Int.toNat_natCast, ← List.drop_take]
  have e1 : List.take (min k ds.length) ds = List.take k ds := by
    by_cases hk : k ≤ ds.length
    · rw [Nat.min_eq_left hk]
    · rw [Nat.min_eq_right (show ds.length ≤ k by omega), List.take_length, List.take_of_length_le (show ds.length ≤ k by omega)]
  rw [e1]
  by_cases hn : n ≤ ds.length
  · rw [Nat.min_eq_left hn]
  · rw [Nat.min_eq_right (show ds.length ≤ n by omega), List.drop_eq_nil_of_le (by rw [List.length_take]; omega), List.drop_eq_nil_of_le (by rw [List.length_take]; omega)]
theorem cutD_butlast {α : Type} (ds : List α) : cutD ds none (some (-1)) = ds.dropLast := by
  unfold cutD
  rw [HT.sIx_none]
  show (List.drop 0 ds).take ((if (-1 : Int) < 0 then ((-1 : Int) + (ds.length : Int)).toNat else min (-1 : Int).toNat ds.length) - 0) = _
  rw [if_pos (by decide), List.drop_zero, List.dropLast_eq_take]
  congr 1
  omega
theorem cutV_D (xs : List V) (lo hi : Option Int) : cutV xs lo hi = cutD xs lo hi := rfl
section
variable {K : PySem.W.Frag} {σ : L2.St} {H : Hp} {Q : VK} {D : Ends} {v x y z : V} {d e : PyData} {ds es : List PyData} {tl te : TE} {ta : TA} {tb : TS} {g : TG} {lo hi : Option Int}
theorem dpa_cut {vs : List V} (h : DpAll K H vs ds) : DpAll K H (cutD vs lo hi) (cutD ds lo hi) := by
  unfold cutD
  rw [dpa_len h]
  exact dpa_take _ (dpa_drop _ h)
theorem w_slD (h : Dp K H v (.list ds)) (q : ∀ p H' xs, H p = none → Same H H' → H' p = some (.lst xs) → Dp K H' (.ref p) (.list (cutD ds lo hi)) → Q (.ref p) H') : rSlL K v lo hi H Q := by
  obtain ⟨a, xs, rfl, hs, ha⟩ := dp_lst h
  exact ⟨a, xs, rfl, hs, fun p hp => q p _ _ hp (same_new hp) upd_same (dp_newL upd_same (dpa_same (same_new hp) (dpa_cut ha)))⟩
theorem w_slV {a : Addr} {xs : List V} (h : SqL K H a xs) (q : ∀ p H', H p = none → Same H H' → H' p = some (.lst (cutD xs lo hi)) → Q (.ref p) H') : rSlL K (.ref a) lo hi H Q :=
  ⟨a, xs, rfl, h, fun p hp => q p _ hp (same_new hp) upd_same⟩
theorem w_slT (h : Dp K H v (.tuple ds)) (q : ∀ p H', Same H H' → Dp K H' (.ref p) (.tuple (cutD ds lo hi)) → Q (.ref p) H') (hne : ¬ (HT.sIx ds.length 0 lo = 0 ∧ HT.sIx ds.length ds.length hi = ds.length)) : ∃ a xs, v = .ref a ∧ SqT K H a xs := by
  obtain ⟨a, xs, rfl, hs, ha⟩ := dp_tup h
  exact ⟨a, xs, rfl, hs⟩
/-- strings -/
theorem w_slS {s : Str} (hz : s.length ≤ sizeLine) (q : Q (.str ⟨(cutD s.cps.toList lo hi).toArray⟩) H) : rSlS (.str s) lo hi H Q := ⟨s, rfl, hz, q⟩
def rForL (K : PySem.W.Frag) (g : TG) (tb : TS) (D : Ends) (σ : L2.St) (x : V) (H1 : Hp) : Prop := ∃ a, x = .ref a ∧ (∃ xs, SqL K H1 a xs) ∧ ∃ W : Nat → Nat → L2.St → Hp → Prop, (∃ m, W 0 m σ H1) ∧ ∀ i m σ H, W i m σ H →
  ((Itl K a).stop i H ∧ D.nx σ H) ∨ ((Itl K a).go i H ∧ ∃ N : L2.St → Hp → Prop, (∀ σ' H', N σ' H' → ∃ m', m' < m ∧ W (i + 1) m' σ' H') ∧ ∀ x H', (Itl K a).yld i H x H' → g x σ H' fun σ2 H2 => tb { D with nx := N, ct := N, bk := D.nx } σ2 H2)
theorem w_forL (h : tl σ H fun x H1 => rForL K g tb D σ x H1) : tFor (iList K tl) g tb D σ H := h
def rForT (K : PySem.W.Frag) (g : TG) (tb : TS) (D : Ends) (σ : L2.St) (x : V) (H1 : Hp) : Prop := ∃ a, x = .ref a ∧ (∃ xs, SqT K H1 a xs) ∧ ∃ W : Nat → Nat → L2.St → Hp → Prop, (∃ m, W 0 m σ H1) ∧ ∀ i m σ H, W i m σ H →
  ((Itt K a).stop i H ∧ D.nx σ H) ∨ ((Itt K a).go i H ∧ ∃ N : L2.St → Hp → Prop, (∀ σ' H', N σ' H' → ∃ m', m' < m ∧ W (i + 1) m' σ' H') ∧ ∀ x H', (Itt K a).yld i H x H' → g x σ H' fun σ2 H2 => tb { D with nx := N, ct := N, bk := D.nx } σ2 H2)
theorem w_forT (h : tl σ H fun x H1 => rForT K g tb D σ x H1) : tFor (iTup K tl) g tb D σ H := h
def rForR (g : TG) (tb : TS) (D : Ends) (σ : L2.St) (lo : Int) (n : Nat) (H1 : Hp) : Prop := ∃ W : Nat → Nat → L2.St → Hp → Prop, (∃ m, W 0 m σ H1) ∧ ∀ i m σ H, W i m σ H →
  ((Itr lo n).stop i H ∧ D.nx σ H) ∨ ((Itr lo n).go i H ∧ ∃ N : L2.St → Hp → Prop, (∀ σ' H', N σ' H' → ∃ m', m' < m ∧ W (i + 1) m' σ' H') ∧ ∀ x H', (Itr lo n).yld i H x H' → g x σ H' fun σ2 H2 => tb { D with nx := N, ct := N, bk := D.nx } σ2 H2)
def rForR1 (g : TG) (tb : TS) (D : Ends) (σ : L2.St) (vs : List V) (H1 : Hp) : Prop := ∃ j : Int, vs = [.int j] ∧ -(2 ^ 62) ≤ j ∧ j < 2 ^ 62 ∧ rForR g tb D σ 0 j.toNat H1
def rForR2 (g : TG) (tb : TS) (D : Ends) (σ : L2.St) (vs : List V) (H1 : Hp) : Prop := ∃ i j : Int, vs = [.int i, .int j] ∧ (-(2 ^ 62) ≤ i ∧ i < 2 ^ 62 ∧ -(2 ^ 62) ≤ j ∧ j < 2 ^ 62) ∧ rForR g tb D σ i (j - i).toNat H1
theorem w_forR1 (h : ta σ H fun vs H1 => rForR1 g tb D σ vs H1) : tFor (iRng1 ta) g tb D σ H := h
theorem w_forR2 (h : ta σ H fun vs H1 => rForR2 g tb D σ vs H1) : tFor (iRng2 ta) g tb D σ H := h
def rForS (g : TG) (tb : TS) (D : Ends) (σ : L2.St) (v : V) (H1 : Hp) : Prop := ∃ x, v = .str x ∧ ∃ W : Nat → Nat → L2.St → Hp → Prop, (∃ m, W 0 m σ H1) ∧ ∀ i m σ H, W i m σ H →
  ((Its x).stop i H ∧ D.nx σ H) ∨ ((Its x).go i H ∧ ∃ N : L2.St → Hp → Prop, (∀ σ' H', N σ' H' → ∃ m', m' < m ∧ W (i + 1) m' σ' H') ∧ ∀ x' H', (Its x).yld i H x' H' → g x' σ H' fun σ2 H2 => tb { D with nx := N, ct := N, bk := D.nx } σ2 H2)
theorem w_forS (h : te σ H fun v H1 => rForS g tb D σ v H1) : tFor (iStr te) g tb D σ H := h
/-- a list walked: at each turn an item by its data -/
theorem forL_by (Pv : Nat → L2.St → Hp → Prop) (src : Dp K H x (.list ds)) (h0 : Pv 0 σ H) (hk : ∀ i σ' H', i ≤ ds.length → Pv i σ' H' → Keep H H')
    (hs : ∀ i d y σ' H', ds[i]? = some d → Dp K H' y d → Pv i σ' H' → g y σ' H' fun σ2 H2 => tb { D with nx := Pv (i + 1), ct := Pv (i + 1), bk := D.nx } σ2 H2) (hd : ∀ σ' H', Pv ds.length σ' H' → D.nx σ' H') : rForL K g tb D σ x H := by
  obtain ⟨a, xs, rfl, hq, ha⟩ := dp_lst src
  have hl := dpa_len ha
  refine ⟨a, rfl, ⟨xs, hq⟩, for_list (xs := xs) Pv h0 (fun i σ' H' hi p => (hk i σ' H' (by omega) p).seqL hq) (fun i y σ' H' hi p => ?_) (fun σ' H' p => hd σ' H' (by rw [← hl]; exact p))⟩
  obtain ⟨d, e1, e2⟩ := dpa_get2 ha hi
  exact hs i d y σ' H' e1 (dp_keep (hk i σ' H' (by have := (List.getElem?_eq_some_iff.mp e1).1; omega) p) e2) p
theorem forT_by (Pv : Nat → L2.St → Hp → Prop) (src : Dp K H x (.tuple ds)) (h0 : Pv 0 σ H) (hk : ∀ i σ' H', i ≤ ds.length → Pv i σ' H' → Keep H H')
    (hs : ∀ i d y σ' H', ds[i]? = some d → Dp K H' y d → Pv i σ' H' → g y σ' H' fun σ2 H2 => tb { D with nx := Pv (i + 1), ct := Pv (i + 1), bk := D.nx } σ2 H2) (hd : ∀ σ' H', Pv ds.length σ' H' → D.nx σ' H') : rForT K g tb D σ x H := by
  obtain ⟨a, xs, rfl, hq, ha⟩ := dp_tup src
  have hl := dpa_len ha
  refine ⟨a, rfl, ⟨xs, hq⟩, for_tup (xs := xs) Pv h0 (fun i σ' H' hi p => (hk i σ' H' (by omega) p).seqT hq) (fun i y σ' H' hi p => ?_) (fun σ' H' p => hd σ' H' (by rw [← hl]; exact p))⟩
  obtain ⟨d, e1, e2⟩ := dpa_get2 ha hi
  exact hs i d y σ' H' e1 (dp_keep (hk i σ' H' (by have := (List.getElem?_eq_some_iff.mp e1).1; omega) p) e2) p
theorem forR1_by {k : Int} (Pv : Nat → L2.St → Hp → Prop) (hz : -(2 ^ 62) ≤ k ∧ k < 2 ^ 62) (h0 : Pv 0 σ H)
    (hs : ∀ (i : Nat) σ' H', (i : Int) < k → Pv i σ' H' → g (.int (i : Int)) σ' H' fun σ2 H2 => tb { D with nx := Pv (i + 1), ct := Pv (i + 1), bk := D.nx } σ2 H2) (hd : ∀ σ' H', Pv k.toNat σ' H' → D.nx σ' H') : rForR1 g tb D σ [.int k] H :=
  ⟨k, rfl, hz.1, hz.2, for_range (lo := 0) (n := k.toNat) Pv h0 (fun i σ' H' hi p => by rw [Int.zero_add]; exact hs i σ' H' (by omega) p) hd⟩
theorem forR2_by {lo k : Int} (Pv : Nat → L2.St → Hp → Prop) (hz : -(2 ^ 62) ≤ lo ∧ lo < 2 ^ 62 ∧ -(2 ^ 62) ≤ k ∧ k < 2 ^ 62) (h0 : Pv 0 σ H)
    (hs : ∀ (i : Nat) σ' H', lo + (i : Int) < k → Pv i σ' H' → g (.int (lo + (i : Int))) σ' H' fun σ2 H2 => tb { D with nx := Pv (i + 1), ct := Pv (i + 1), bk := D.nx } σ2 H2) (hd : ∀ σ' H', Pv (k - lo).toNat σ' H' → D.nx σ' H') : rForR2 g tb D σ [.int lo, .int k] H :=
  ⟨lo, k, rfl, hz, for_range (lo := lo) (n := (k - lo).toNat) Pv h0 (fun i σ' H' hi p => hs i σ' H' (by omega) p) hd⟩
theorem forS_by {s : Str} (Pv : Nat → L2.St → Hp → Prop) (h0 : Pv 0 σ H)
    (hs : ∀ (i : Nat) c σ' H', s.cps.toList[i]? = some c → Pv i σ' H' → g (.str ⟨#[c]⟩) σ' H' fun σ2 H2 => tb { D with nx := Pv (i + 1), ct := Pv (i + 1), bk := D.nx } σ2 H2) (hd : ∀ σ' H', Pv s.length σ' H' → D.nx σ' H') : rForS g tb D σ (.str s) H := by
  refine ⟨s, rfl, fun i m σ H => m = s.length - i ∧ i ≤ s.length ∧ Pv i σ H, ⟨s.length, by simp, Nat.zero_le _, h0⟩, ?_⟩
  rintro i m σ H ⟨rfl, hi, p⟩
  by_cases hlt : i < s.length
  · refine .inr ⟨hlt, Pv (i + 1), fun σ' H' p' => ⟨s.length - (i + 1), by omega, rfl, hlt, p'⟩, fun x H' y => ?_⟩
    obtain ⟨e, c, hc, rfl⟩ := y
    subst e
    exact hs i c σ _ (by simpa using hc) p
  · have e : i = s.length := by omega
    subst e
    exact .inl ⟨Nat.le_refl _, hd σ H p⟩
theorem w_gName {j : Nat} {Q : L2.St → Hp → Prop} (q : Q (σ.set j (some v)) H) : gName j v σ H Q := q
theorem w_pw {P : Prop} (h : P) : P := h
end
end Tw
namespace Tw
open PySem PySem.Spec PyProof.Rows L2
/-! ### data without bools and dicts: == is equality -/
def pln : Nat → PyData → Bool
  | _, .none => true
  | _, .int _ => true
  | _, .str x => PyData.strOk x
  | k + 1, .list ds => ds.all (pln k)
  | k + 1, .tuple ds => ds.all (pln k)
  | _, _ => false
theorem pln_shape : ∀ (k : Nat) (d : PyData), pln k d = true → d.canLay0 = true ∧ d.depth ≤ k := by
  intro k
  induction k with
  | zero =>
    intro d h
    cases d <;> simp [pln] at h <;> simp [PyData.canLay0, PyData.depth, h]
  | succ k ih =>
    have all : ∀ ds : List PyData, ds.all (pln k) = true → PyData.canLayAll0 ds = true ∧ PyData.depthAll ds ≤ k := by
      intro ds
      induction ds with
      | nil => intro _; exact ⟨rfl, Nat.zero_le _⟩
      | cons d ds ihd =>
        intro h
        rw [List.all_cons, Bool.and_eq_true] at h
        obtain ⟨a, b⟩ := ih d h.1
        obtain ⟨a', b'⟩ := ihd h.2
        exact ⟨by simp [PyData.canLayAll0, a, a'], by simp only [PyData.depthAll]; omega⟩
    intro d h
    cases d with
    | list ds =>
      obtain ⟨a, b⟩ := all ds (by simpa [pln] using h)
      exact ⟨by simpa [PyData.canLay0] using a, by simp only [PyData.depth]; omega⟩
    | tuple ds =>
      obtain ⟨a, b⟩ := all ds (by simpa [pln] using h)
      exact ⟨by simpa [PyData.canLay0] using a, by simp only [PyData.depth]; omega⟩
    | none => simp [PyData.canLay0, PyData.depth]
    | int i => simp [PyData.canLay0, PyData.depth]
    | str x => simp [pln] at h; simp [PyData.canLay0, PyData.depth, h]
    | bool b => simp [pln] at h
    | dict kvs => simp [pln] at h
theorem pln_shaped {k : Nat} {d : PyData} (h : pln k d = true) (hk : k ≤ 64) : SeqAt.shaped d = true := by
  obtain ⟨a, b⟩ := pln_shape k d h
  unfold SeqAt.shaped
  rw [a, Bool.true_and, decide_eq_true]
  omega
theorem pln_eqv : ∀ (k l : Nat) (d e : PyData), pln k d = true → pln l e = true → (PyData.eqv d e = true ↔ d = e) := by
  intro k
  induction k with
  | zero =>
    intro l d e h1 h2
    cases d <;> simp [pln] at h1 <;> cases e <;> simp [PyData.eqv] <;> cases l <;> simp [pln] at h2
  | succ k ih =>
    have all : ∀ (l : Nat) (ds es : List PyData), ds.all (pln k) = true → es.all (pln l) = true → (PyData.eqvAll ds es = true ↔ ds = es) := by
      intro l ds
      induction ds with
      | nil => intro es _ _; cases es <;> simp [PyData.eqvAll]
      | cons d ds ihd =>
        intro es h1 h2
        cases es with
        | nil => simp [PyData.eqvAll]
        | cons e es =>
          rw [List.all_cons, Bool.and_eq_true] at h1 h2
          simp only [PyData.eqvAll, Bool.and_eq_true, List.cons.injEq]
          rw [ih l d e h1.1 h2.1, ihd es h1.2 h2.2]
    intro l d e h1 h2
    cases d with
    | list ds =>
      cases e with
      | list es =>
        cases l with
        | zero => simp [pln] at h2
        | succ l =>
          have := all l ds es (by simpa [pln] using h1) (by simpa [pln] using h2)
          simpa [PyData.eqv] using this
      | _ => simp [PyData.eqv]
    | tuple ds =>
      cases e with
      | tuple es =>
        cases l with
        | zero => simp [pln] at h2
        | succ l =>
          have := all l ds es (by simpa [pln] using h1) (by simpa [pln] using h2)
          simpa [PyData.eqv] using this
      | _ => simp [PyData.eqv]
    | none => cases e <;> simp [PyData.eqv]
    | int i => cases e <;> simp [PyData.eqv] <;> (cases l <;> simp [pln] at h2)
    | str x => cases e <;> simp [PyData.eqv]
    | bool b => simp [pln] at h1
    | dict kvs => simp [pln] at h1
theorem pln_ints {k : Nat} (ns : List Int) : pln (k + 1) (.list (ns.map PyData.int)) = true := by
  cases k <;> simp [pln, List.all_eq_true]
theorem pln_intsT {k : Nat} (ns : List Int) : pln (k + 1) (.tuple (ns.map PyData.int)) = true := by
  cases k <;> simp [pln, List.all_eq_true]
section
variable {K : PySem.W.Frag} {H : Hp} {Q : VK} {x y : V} {d e : PyData}
theorem w_eqP (h1 : Dp K H x d) (h2 : Dp K H y e) (p1 : pln 9 d = true) (p2 : pln 9 e = true) (q1 : d = e → Q (.bl true) H) (q2 : d ≠ e → Q (.bl false) H) : rEqD K x y H Q := by
  refine ⟨d, e, h1, h2, pln_shaped p1 (by decide), pln_shaped p2 (by decide), ?_⟩
  have r := pln_eqv _ _ d e p1 p2
  cases he : PyData.eqv d e with
  | true => exact q1 (r.mp he)
  | false => exact q2 (fun z => by rw [r.mpr z] at he; cases he)
theorem w_neP (h1 : Dp K H x d) (h2 : Dp K H y e) (p1 : pln 9 d = true) (p2 : pln 9 e = true) (q1 : d = e → Q (.bl false) H) (q2 : d ≠ e → Q (.bl true) H) : rNeD K x y H Q := by
  refine ⟨d, e, h1, h2, pln_shaped p1 (by decide), pln_shaped p2 (by decide), ?_⟩
  have r := pln_eqv _ _ d e p1 p2
  cases he : PyData.eqv d e with
  | true => exact q1 (r.mp he)
  | false => exact q2 (fun z => by rw [r.mpr z] at he; cases he)
end
/-! ### a dict written out -/
def rDisp (p : Addr) (ps : List (V × V)) (H2 : Hp) (Q : VK) : Prop := H2 p = some (.dK []) ∧ ∃ kvs : List (Key × V), ps = kvs.map (fun kv => (kV kv.1, kv.2)) ∧ kvs.length ≤ 15 ∧ Q (.ref p) (upd H2 p (.dK (mergeK [] kvs)))
theorem w_disp {σ : L2.St} {H : Hp} {Q : VK} {trs : List (TE × TE)} (h : ∀ p H0, H p = none → Same H H0 → H0 p = some (.dK []) → tPairs trs σ H0 fun ps H2 => rDisp p ps H2 Q) : tDisp trs σ H Q := fun p hp => h p _ hp (same_new hp) upd_same
theorem w_pp {σ : L2.St} {H : Hp} {Q : List (V × V) → Hp → Prop} {tk tv : TE} {r : List (TE × TE)} (h : tk σ H fun x H1 => tv σ H1 fun y H2 => tPairs r σ H2 fun ps H3 => Q ((x, y) :: ps) H3) : tPairs ((tk, tv) :: r) σ H Q := h
theorem w_pp0 {σ : L2.St} {H : Hp} {Q : List (V × V) → Hp → Prop} (h : Q [] H) : tPairs [] σ H Q := h
theorem pg_tupK {X : Cx} {K : PySem.W.Frag} {es : List Expr} {k : Nat} {t : TGs} {n : Nat} {pos : Pos} (hc : X.calm = true) (hh : PGs X es t) (h : X.K = K := by rfl)
    (hn : (assignEach es X.env).length = n := by rfl) (hst : (assignEach es X.env).findIdx? (·.1) = none := by rfl) : PG X (.Tuple es k pos) (gTup K n t) := h ▸ pg_tup hc hh hn hst
end Tw
namespace Tw
open PySem PySem.Spec PyProof.Rows L2
/-! ### the law's own drawing: its dict -/
def moKvs (left seed : Int) (c : Addr) (spot : Int) : List (Key × V) := [(.inr "left", .int left), (.inr "seed", .int seed), (.inr "cells", .ref c), (.inr "spot", .int spot)]
theorem mo_len {l s : Int} {c : Addr} {p : Int} : (moKvs l s c p).length < sizeLine := by show 4 < sizeLine; decide
/-- a number of the script, or a little more -/
structure Big (n : Int) : Prop where
  lt : n.natAbs < 2 ^ 1048600
theorem Big.mul {i j : Int} (h : Big i) (hb : -(2 ^ 250) < j ∧ j < 2 ^ 250) : CMulX i j := mulx_ok (a := 1048600) (b := 250) h.lt (by omega) (by decide)
theorem Big.bits {n : Int} (h : Builtin.Int.intBits n ≤ 1048576) : Big n := by
  have h1 : n.natAbs < 2 ^ Builtin.Int.intBits n := by
    by_cases h0 : n = 0
    · subst h0; decide
    · unfold Builtin.Int.intBits
      rw [if_neg (by simpa using h0)]
      exact Nat.lt_log2_self
  exact ⟨Nat.lt_of_lt_of_le h1 (Nat.pow_le_pow_right (by decide) (by omega))⟩
theorem Big.small {n : Int} (h : -(2 ^ 250) < n ∧ n < 2 ^ 250) : Big n := by
  exact ⟨Nat.lt_of_lt_of_le (show n.natAbs < 2 ^ 250 by omega) (Nat.pow_le_pow_right (by decide) (by decide))⟩
/-- the dict of the law's draws, at most b of which were made; its cells at c -/
def Mo (H : Hp) (m c : Addr) (b : Nat) : Prop := ∃ (left seed spot : Int) (ns : List Int),
  H m = some (.dK (moKvs left seed c spot)) ∧ H c = some (.lst (ns.map V.int)) ∧ 0 < ns.length ∧ ns.length ≤ 100 ∧ (∀ n ∈ ns, Big n) ∧ 0 ≤ seed ∧ seed < 2147483647 ∧ 0 ≤ spot ∧ spot ≤ b
theorem k_left_seed : ¬ Str.ofString "left" = Str.ofString "seed" := by decide +kernel
theorem k_left_cells : ¬ Str.ofString "left" = Str.ofString "cells" := by decide +kernel
theorem k_left_spot : ¬ Str.ofString "left" = Str.ofString "spot" := by decide +kernel
theorem k_seed_cells : ¬ Str.ofString "seed" = Str.ofString "cells" := by decide +kernel
theorem k_seed_spot : ¬ Str.ofString "seed" = Str.ofString "spot" := by decide +kernel
theorem k_cells_spot : ¬ Str.ofString "cells" = Str.ofString "spot" := by decide +kernel
theorem mo_left {l s : Int} {c : Addr} {p : Int} : valV (moKvs l s c p) (.inr "left") = some (.int l) := by simp [valV, moKvs]
theorem mo_seed {l s : Int} {c : Addr} {p : Int} : valV (moKvs l s c p) (.inr "seed") = some (.int s) := by simp [valV, moKvs, k_left_seed]
theorem mo_cells {l s : Int} {c : Addr} {p : Int} : valV (moKvs l s c p) (.inr "cells") = some (.ref c) := by simp [valV, moKvs, k_left_cells, k_seed_cells]
theorem mo_spot {l s : Int} {c : Addr} {p : Int} : valV (moKvs l s c p) (.inr "spot") = some (.int p) := by simp [valV, moKvs, k_left_spot, k_seed_spot, k_cells_spot]
theorem mo_put_left {l s : Int} {c : Addr} {p z : Int} : putK (moKvs l s c p) (.inr "left") (.int z) = moKvs z s c p := by
  simp [putK, moKvs, k_left_seed, k_left_cells, k_left_spot, Ne.symm k_left_seed, Ne.symm k_left_cells, Ne.symm k_left_spot]
theorem mo_put_spot {l s : Int} {c : Addr} {p z : Int} : putK (moKvs l s c p) (.inr "spot") (.int z) = moKvs l s c z := by
  simp [putK, moKvs, k_left_spot, k_seed_spot, k_cells_spot]
theorem Mo.mono {H : Hp} {m c : Addr} {a b : Nat} (h : Mo H m c a) (l : a ≤ b) : Mo H m c b := by
  obtain ⟨left, seed, spot, ns, h1, h2, h3, h4, h5, h6, h7, h8, h9⟩ := h
  exact ⟨left, seed, spot, ns, h1, h2, h3, h4, h5, h6, h7, h8, by omega⟩
theorem Mo.same {H H' : Hp} {m c : Addr} {a : Nat} (e : Same H H') (h : Mo H m c a) : Mo H' m c a := by
  obtain ⟨left, seed, spot, ns, h1, h2, h⟩ := h
  exact ⟨left, seed, spot, ns, e _ _ h1, e _ _ h2, h⟩
theorem Mo.ne {H : Hp} {m c : Addr} {a : Nat} {D : Addr} (h : Mo H m c a) (hD : H D = none) : c ≠ D := by
  obtain ⟨left, seed, spot, ns, h1, h2, h⟩ := h
  exact ne_of_none h2 hD
theorem Mo.upd {H : Hp} {m c : Addr} {a : Nat} {D : Addr} {o : HO} {xs : List V} (h : Mo H m c a) (hD : H D = some (.lst xs)) (n : c ≠ D) : Mo (upd H D o) m c a := by
  obtain ⟨left, seed, spot, ns, h1, h2, h⟩ := h
  refine ⟨left, seed, spot, ns, ?_, ?_, h⟩
  · rw [upd_ne (ne_of h1 hD (fun z => nomatch z))]; exact h1
  · rw [upd_ne n]; exact h2
theorem Mo.new {H : Hp} {m c : Addr} {a : Nat} {D : Addr} {o : HO} (h : Mo H m c a) (hD : H D = none) : Mo (L2.upd H D o) m c a := h.same (same_new hD)
/-! ### data without lists -/
mutual
def noL : PyData → Bool
  | .list _ => false
  | .dict _ => false
  | .tuple ds => noLs ds
  | .none => true
  | .bool _ => true
  | .int _ => true
  | .str _ => true
def noLs : List PyData → Bool
  | [] => true
  | d :: ds => noL d && noLs ds
end
mutual
theorem dp_upd {K : PySem.W.Frag} {H : Hp} {D : Addr} {o : HO} {xs0 : List V} (hD : H D = some (.lst xs0)) : ∀ (d : PyData) (v : V), noL d = true → Dp K H v d → Dp K (upd H D o) v d
  | .none, _, _, h => by cases h; exact .non
  | .bool b, _, _, h => by cases h; exact .bl b
  | .int i, _, _, h => by cases h; exact .int i
  | .str x, _, _, h => by cases h; exact .str x
  | .list ds, _, n, h => by simp [noL] at n
  | .tuple ds, _, n, h => by
    cases h with
    | tup hs ha =>
      refine .tup ?_ (dpa_upd hD ds _ (by simpa [noL] using n) ha)
      rcases hs with (hs | ⟨ob, hs⟩) | hs
      · exact .inl (.inl (by rw [upd_ne (ne_of hs hD (fun z => nomatch z))]; exact hs))
      · exact .inl (.inr ⟨ob, by rw [upd_ne (ne_of hs hD (fun z => nomatch z))]; exact hs⟩)
      · exact .inr hs
  | .dict _, _, n, h => by cases h
theorem dpa_upd {K : PySem.W.Frag} {H : Hp} {D : Addr} {o : HO} {xs0 : List V} (hD : H D = some (.lst xs0)) : ∀ (ds : List PyData) (vs : List V), noLs ds = true → DpAll K H vs ds → DpAll K (upd H D o) vs ds
  | [], _, _, h => by cases h; exact .nil
  | d :: ds, _, n, h => by
    simp only [noLs, Bool.and_eq_true] at n
    cases h with
    | cons h1 h2 => exact .cons (dp_upd hD d _ n.1 h1) (dpa_upd hD ds _ n.2 h2)
end
theorem noLs_app : ∀ {ds es : List PyData}, noLs ds = true → noLs es = true → noLs (ds ++ es) = true
  | [], _, _, h => h
  | d :: ds, es, n, h => by
    simp only [noLs, Bool.and_eq_true] at n
    simp only [List.cons_append, noLs, Bool.and_eq_true]
    exact ⟨n.1, noLs_app n.2 h⟩
theorem noLs_one {d : PyData} (h : noL d = true) : noLs [d] = true := by simp [noLs, h]

/-! ### comprehensions -/
section
variable {K : PySem.W.Frag} {σ : L2.St} {H H1 : Hp} {Q : VK} {x : V} {ds : List PyData} {j : Nat} {vs : List Nat} {tt : TT} {te tl : TE} {ta : TA}
/-- what holds between two turns of a comprehension: i turns, the data made so far, the heap -/
structure LcJ (H1 : Hp) (J : Nat → List PyData → Hp → Prop) : Prop where
  start : ∀ D, H1 D = none → J 0 [] (L2.upd H1 D (.lst []))
  keep : ∀ i es H', J i es H' → Keep H1 H'
  upd : ∀ i es H' D xs o, H1 D = none → H' D = some (.lst xs) → J i es H' → J i es (L2.upd H' D o)
def LcP (K : PySem.W.Frag) (J : Nat → List PyData → Hp → Prop) (D : Addr) (i : Nat) (H' : Hp) : Prop :=
  ∃ vs es, H' D = some (.lst vs) ∧ DpAll K H' vs es ∧ noLs es = true ∧ es.length ≤ i ∧ J i es H'
def LcTurn (K : PySem.W.Frag) (J : Nat → List PyData → Hp → Prop) (tt : TT) (te : TE) (σx : L2.St) (i : Nat) (es : List PyData) (H' : Hp) : Prop :=
  ∀ (Yes : VK) (No : Hp → Prop), (∀ z H4 e, Keep H' H4 → noL e = true → Dp K H4 z e → J (i + 1) (es ++ [e]) H4 → Yes z H4) → (∀ H3, Keep H' H3 → J (i + 1) es H3 → No H3) →
    tt σx H' fun b H3 => if b = true then te σx H3 Yes else No H3
theorem lc_turn {J : Nat → List PyData → Hp → Prop} (lj : LcJ H1 J) {D : Addr} (hD : H1 D = none) {i : Nat} (hi : i < 1000000) {H' : Hp} {σx : L2.St} (p : LcP K J D i H') (turn : ∀ es, J i es H' → LcTurn K J tt te σx i es H') :
    tt σx H' fun b H3 => if b = true then te σx H3 fun y H4 => ∃ acc, H4 D = some (.lst acc) ∧ acc.length < sizeLine ∧ LcP K J D (i + 1) (L2.upd H4 D (.lst (acc ++ [y]))) else LcP K J D (i + 1) H3 := by
  obtain ⟨vs, es, p1, p2, p3, p4, p5⟩ := p
  have hs : sizeLine = 16777216 := sizeLine_eq
  refine turn es p5 _ _ (fun z H4 e k n dz j => ?_) (fun H3 k j => ?_)
  · have l := dpa_len p2
    refine ⟨vs, k.l p1, by omega, _, es ++ [e], upd_same, ?_, noLs_app p3 (noLs_one n), by simp; omega, lj.upd _ _ _ _ vs _ hD (k.l p1) j⟩
    exact dpa_app (dpa_upd (k.l p1) _ _ p3 (dpa_keep k p2)) (dpa_one (dp_upd (k.l p1) _ _ n dz))
  · exact ⟨vs, es, k.l p1, dpa_keep k p2, p3, by omega, j⟩
def rLcL (K : PySem.W.Frag) (j : Nat) (tt : TT) (te : TE) (vs : List Nat) (σ : L2.St) (x : V) (H1 : Hp) (Q : VK) : Prop := ∃ a, x = .ref a ∧ (∃ xs, SqL K H1 a xs) ∧ ∀ D, H1 D = none → ∃ W : Nat → Nat → Hp → Prop, (∃ m, W 0 m (L2.upd H1 D (.lst []))) ∧ ∀ i m H, W i m H →
  ((Itl K a).stop i H ∧ Q (.ref D) H) ∨ ((Itl K a).go i H ∧ ∃ Nx : Hp → Prop, (∀ H', Nx H' → ∃ m', m' < m ∧ W (i + 1) m' H') ∧ ∀ x H', (Itl K a).yld i H x H' → gName j x (wipe σ vs) H' fun σ2 H2 => wipe σ2 vs = wipe σ vs ∧ tt σ2 H2 fun b H3 =>
    if b = true then te σ2 H3 fun y H4 => ∃ acc, H4 D = some (.lst acc) ∧ acc.length < sizeLine ∧ Nx (L2.upd H4 D (.lst (acc ++ [y]))) else Nx H3)
theorem w_lcL (h : tl σ H fun x H1 => rLcL K j tt te vs σ x H1 Q) : tLc (iList K tl) (gName j) tt te vs σ H Q := h
theorem lc_list_by (J : Nat → List PyData → Hp → Prop) (lj : LcJ H1 J) (src : Dp K H1 x (.list ds)) (hz : ds.length ≤ 1000000) (hw : ∀ x, wipe ((wipe σ vs).set j (some x)) vs = wipe σ vs)
    (turn : ∀ i d y H' es, ds[i]? = some d → Dp K H' y d → J i es H' → LcTurn K J tt te ((wipe σ vs).set j (some y)) i es H')
    (done : ∀ p H' vs es, H1 p = none → Keep H1 H' → H' p = some (.lst vs) → Dp K H' (.ref p) (.list es) → J ds.length es H' → Q (.ref p) H') : rLcL K j tt te vs σ x H1 Q := by
  obtain ⟨a, xs, rfl, hs, ha⟩ := dp_lst src
  have hl := dpa_len ha
  refine ⟨a, rfl, ⟨xs, hs⟩, fun D hD => lc_list (xs := xs) (LcP K J D) ⟨[], [], upd_same, .nil, rfl, Nat.le_refl _, lj.start D hD⟩ (fun i H' _ p => ?_) (fun i y H' hi p => ⟨hw y, lc_turn lj hD ?_ p fun es q => ?_⟩) fun H' p => ?_⟩
  · obtain ⟨vs, es, p1, p2, p3, p4, p5⟩ := p
    exact (lj.keep _ _ _ p5).seqL hs
  · have := (List.getElem?_eq_some_iff.mp hi).1; omega
  · obtain ⟨d, e1, e2⟩ := dpa_get2 ha hi
    exact turn i d y H' es e1 (dp_keep (lj.keep _ _ _ q) e2) q
  · obtain ⟨vs, es, p1, p2, p3, p4, p5⟩ := p
    rw [hl] at p5
    exact done D H' vs es hD (lj.keep _ _ _ p5) p1 (dp_newL p1 p2) p5
def rLcT (K : PySem.W.Frag) (j : Nat) (tt : TT) (te : TE) (vs : List Nat) (σ : L2.St) (x : V) (H1 : Hp) (Q : VK) : Prop := ∃ a, x = .ref a ∧ (∃ xs, SqT K H1 a xs) ∧ ∀ D, H1 D = none → ∃ W : Nat → Nat → Hp → Prop, (∃ m, W 0 m (L2.upd H1 D (.lst []))) ∧ ∀ i m H, W i m H →
  ((Itt K a).stop i H ∧ Q (.ref D) H) ∨ ((Itt K a).go i H ∧ ∃ Nx : Hp → Prop, (∀ H', Nx H' → ∃ m', m' < m ∧ W (i + 1) m' H') ∧ ∀ x H', (Itt K a).yld i H x H' → gName j x (wipe σ vs) H' fun σ2 H2 => wipe σ2 vs = wipe σ vs ∧ tt σ2 H2 fun b H3 =>
    if b = true then te σ2 H3 fun y H4 => ∃ acc, H4 D = some (.lst acc) ∧ acc.length < sizeLine ∧ Nx (L2.upd H4 D (.lst (acc ++ [y]))) else Nx H3)
theorem w_lcT (h : tl σ H fun x H1 => rLcT K j tt te vs σ x H1 Q) : tLc (iTup K tl) (gName j) tt te vs σ H Q := h
theorem lc_tup_by (J : Nat → List PyData → Hp → Prop) (lj : LcJ H1 J) (src : Dp K H1 x (.tuple ds)) (hz : ds.length ≤ 1000000) (hw : ∀ x, wipe ((wipe σ vs).set j (some x)) vs = wipe σ vs)
    (turn : ∀ i d y H' es, ds[i]? = some d → Dp K H' y d → J i es H' → LcTurn K J tt te ((wipe σ vs).set j (some y)) i es H')
    (done : ∀ p H' vs es, H1 p = none → Keep H1 H' → H' p = some (.lst vs) → Dp K H' (.ref p) (.list es) → J ds.length es H' → Q (.ref p) H') : rLcT K j tt te vs σ x H1 Q := by
  obtain ⟨a, xs, rfl, hs, ha⟩ := dp_tup src
  have hl := dpa_len ha
  refine ⟨a, rfl, ⟨xs, hs⟩, fun D hD => lc_tup (xs := xs) (LcP K J D) ⟨[], [], upd_same, .nil, rfl, Nat.le_refl _, lj.start D hD⟩ (fun i H' _ p => ?_) (fun i y H' hi p => ⟨hw y, lc_turn lj hD ?_ p fun es q => ?_⟩) fun H' p => ?_⟩
  · obtain ⟨vs, es, p1, p2, p3, p4, p5⟩ := p
    exact (lj.keep _ _ _ p5).seqT hs
  · have := (List.getElem?_eq_some_iff.mp hi).1; omega
  · obtain ⟨d, e1, e2⟩ := dpa_get2 ha hi
    exact turn i d y H' es e1 (dp_keep (lj.keep _ _ _ q) e2) q
  · obtain ⟨vs, es, p1, p2, p3, p4, p5⟩ := p
    rw [hl] at p5
    exact done D H' vs es hD (lj.keep _ _ _ p5) p1 (dp_newL p1 p2) p5
def rLcR (j : Nat) (tt : TT) (te : TE) (us : List Nat) (σ : L2.St) (lo : Int) (n : Nat) (H1 : Hp) (Q : VK) : Prop := ∀ D, H1 D = none → ∃ W : Nat → Nat → Hp → Prop, (∃ m, W 0 m (L2.upd H1 D (.lst []))) ∧ ∀ i m H, W i m H →
  ((Itr lo n).stop i H ∧ Q (.ref D) H) ∨ ((Itr lo n).go i H ∧ ∃ Nx : Hp → Prop, (∀ H', Nx H' → ∃ m', m' < m ∧ W (i + 1) m' H') ∧ ∀ x H', (Itr lo n).yld i H x H' → gName j x (wipe σ us) H' fun σ2 H2 => wipe σ2 us = wipe σ us ∧ tt σ2 H2 fun b H3 =>
    if b = true then te σ2 H3 fun y H4 => ∃ acc, H4 D = some (.lst acc) ∧ acc.length < sizeLine ∧ Nx (L2.upd H4 D (.lst (acc ++ [y]))) else Nx H3)
def rLcR1 (j : Nat) (tt : TT) (te : TE) (us : List Nat) (σ : L2.St) (vs : List V) (H1 : Hp) (Q : VK) : Prop := ∃ k : Int, vs = [.int k] ∧ -(2 ^ 62) ≤ k ∧ k < 2 ^ 62 ∧ rLcR j tt te us σ 0 k.toNat H1 Q
def rLcR2 (j : Nat) (tt : TT) (te : TE) (us : List Nat) (σ : L2.St) (vs : List V) (H1 : Hp) (Q : VK) : Prop := ∃ i k : Int, vs = [.int i, .int k] ∧ (-(2 ^ 62) ≤ i ∧ i < 2 ^ 62 ∧ -(2 ^ 62) ≤ k ∧ k < 2 ^ 62) ∧ rLcR j tt te us σ i (k - i).toNat H1 Q
theorem w_lcR1 (h : ta σ H fun ws H1 => rLcR1 j tt te vs σ ws H1 Q) : tLc (iRng1 ta) (gName j) tt te vs σ H Q := h
theorem w_lcR2 (h : ta σ H fun ws H1 => rLcR2 j tt te vs σ ws H1 Q) : tLc (iRng2 ta) (gName j) tt te vs σ H Q := h
theorem lc_rng_by {lo : Int} {n : Nat} (J : Nat → List PyData → Hp → Prop) (lj : LcJ H1 J) (hz : n ≤ 1000000) (hw : ∀ x, wipe ((wipe σ vs).set j (some x)) vs = wipe σ vs)
    (turn : ∀ (i : Nat) H' es, i < n → J i es H' → LcTurn K J tt te ((wipe σ vs).set j (some (.int (lo + (i : Int))))) i es H')
    (done : ∀ p H' vs es, H1 p = none → Keep H1 H' → H' p = some (.lst vs) → Dp K H' (.ref p) (.list es) → J n es H' → Q (.ref p) H') : rLcR j tt te vs σ lo n H1 Q := by
  refine fun D hD => lc_range (lo := lo) (n := n) (LcP K J D) ⟨[], [], upd_same, .nil, rfl, Nat.le_refl _, lj.start D hD⟩ (fun i H' hi p => ⟨hw _, lc_turn lj hD (by omega) p fun es q => turn i H' es hi q⟩) fun H' p => ?_
  obtain ⟨vs, es, p1, p2, p3, p4, p5⟩ := p
  exact done D H' vs es hD (lj.keep _ _ _ p5) p1 (dp_newL p1 p2) p5
theorem lc_rng1_by {k : Int} (J : Nat → List PyData → Hp → Prop) (lj : LcJ H1 J) (hz : 0 ≤ k ∧ k ≤ 1000000) (hw : ∀ x, wipe ((wipe σ vs).set j (some x)) vs = wipe σ vs)
    (turn : ∀ (i : Nat) H' es, (i : Int) < k → J i es H' → LcTurn K J tt te ((wipe σ vs).set j (some (.int (i : Int)))) i es H')
    (done : ∀ p H' vs es, H1 p = none → Keep H1 H' → H' p = some (.lst vs) → Dp K H' (.ref p) (.list es) → J k.toNat es H' → Q (.ref p) H') : rLcR1 j tt te vs σ [.int k] H1 Q := by
  refine ⟨k, rfl, by omega, by omega, lc_rng_by (K := K) J lj (by omega) hw (fun i H' es hi q => ?_) done⟩
  rw [Int.zero_add]
  exact turn i H' es (by omega) q
theorem lc_rng2_by {lo k : Int} (J : Nat → List PyData → Hp → Prop) (lj : LcJ H1 J) (hz : -1000000 ≤ lo ∧ lo ≤ 1000000 ∧ -1000000 ≤ k ∧ k ≤ 1000000 ∧ k - lo ≤ 1000000) (hw : ∀ x, wipe ((wipe σ vs).set j (some x)) vs = wipe σ vs)
    (turn : ∀ (i : Nat) H' es, lo + (i : Int) < k → J i es H' → LcTurn K J tt te ((wipe σ vs).set j (some (.int (lo + (i : Int))))) i es H')
    (done : ∀ p H' vs es, H1 p = none → Keep H1 H' → H' p = some (.lst vs) → Dp K H' (.ref p) (.list es) → J (k - lo).toNat es H' → Q (.ref p) H') : rLcR2 j tt te vs σ [.int lo, .int k] H1 Q :=
  ⟨lo, k, rfl, by omega, lc_rng_by (K := K) J lj (by omega) hw (fun i H' es hi q => turn i H' es (by omega) q) done⟩
theorem w_tYes {Q : Bool → Hp → Prop} (q : Q true H) : tYes σ H Q := q
/-- nothing but new objects: a word about the turns and the data -/
def JP (H1 : Hp) (R : Nat → List PyData → Prop) (i : Nat) (es : List PyData) (H' : Hp) : Prop := Same H1 H' ∧ R i es
theorem JP.ok {R : Nat → List PyData → Prop} (r0 : R 0 []) : LcJ H1 (JP H1 R) where
  start := fun D hD => ⟨same_new hD, r0⟩
  keep := fun _ _ _ h => Keep.of h.1
  upd := fun _ _ _ _ _ _ hD _ h => ⟨same_mut h.1 hD, h.2⟩
/-- .. and draws, at most n a turn -/
def JM (H1 : Hp) (m c : Addr) (b n : Nat) (R : Nat → List PyData → Prop) (i : Nat) (es : List PyData) (H' : Hp) : Prop := Keep H1 H' ∧ Mo H' m c (b + n * i) ∧ R i es
theorem JM.ok {m c : Addr} {b n : Nat} {R : Nat → List PyData → Prop} (hm : Mo H1 m c b) (r0 : R 0 []) : LcJ H1 (JM H1 m c b n R) where
  start := fun D hD => ⟨Keep.of (same_new hD), hm.new hD, r0⟩
  keep := fun _ _ _ h => h.1
  upd := fun _ _ _ _ _ _ hD hx h => ⟨keep_mut h.1 hD, h.2.1.upd hx (hm.ne hD), h.2.2⟩
end
end Tw
namespace Tw
open PySem PySem.Spec PyProof.Rows L2
/-! ### texts as lists of codes -/
def Sg (l : List Nat) : Str := ⟨l.toArray⟩
theorem sg_tl (l : List Nat) : (Sg l).cps.toList = l := by simp [Sg]
theorem sg_len (l : List Nat) : (Sg l).length = l.length := by simp [Sg, Str.length]
theorem sg_app (a b : List Nat) : Sg a ++ Sg b = Sg (a ++ b) := by
  show Str.append (Sg a) (Sg b) = _
  simp [Sg, Str.append]
theorem sg_inj {a b : List Nat} (h : Sg a = Sg b) : a = b := by
  have := congrArg (fun s : Str => s.cps.toList) h
  simpa [Sg] using this
theorem sg_eq {a b : List Nat} : Sg a = Sg b ↔ a = b := ⟨sg_inj, fun h => by rw [h]⟩
theorem sg_one (c : Nat) : (⟨#[c]⟩ : Str) = Sg [c] := rfl
theorem sg_of (s : Str) : ∃ l, s = Sg l := ⟨s.cps.toList, by simp [Sg]⟩
theorem sg_V {a b : List Nat} : (V.str (Sg a) = V.str (Sg b)) ↔ a = b := by
  constructor
  · intro h; exact sg_inj (V.str.inj h)
  · intro h; rw [h]
theorem sg_join (ys : List (List Nat)) : Txt.join (Sg []) (ys.map Sg) = Sg ys.flatten := by
  rw [TL.join_eq]
  induction ys with
  | nil => rfl
  | cons a r ih =>
    cases r with
    | nil => simp [Str.join]
    | cons b r =>
      show Str.append (Str.append (Sg a) (Sg [])) (Str.join (Sg []) (Sg b :: r.map Sg)) = _
      rw [show Sg b :: r.map Sg = (b :: r).map Sg from rfl, ih]
      simp [Sg, Str.append]
theorem sg_empty : Str.ofString "" = Sg [] := by decide +kernel
theorem sg_cut (l : List Nat) (lo hi : Option Int) : (⟨(cutD (Sg l).cps.toList lo hi).toArray⟩ : Str) = Sg (cutD l lo hi) := by simp [Sg]
section
variable {K : PySem.W.Frag} {H : Hp} {Q : VK} {v : V} {lo hi : Option Int}
theorem w_ixSg {l : List Nat} {n : Int} (hz : l.length ≤ 1000000) (h0 : 0 ≤ n) (h1 : n < (l.length : Int)) (q : ∀ c, l[n.toNat]? = some c → Q (.str (Sg [c])) H) : rIxS (.str (Sg l)) (.int n) H Q := by
  have hl : n.toNat < l.length := by omega
  have hs : sizeLine = 16777216 := sizeLine_eq
  exact w_ixS (j := n.toNat) (c := l[n.toNat]) (by rw [sg_len]; omega) (by omega) (by rw [sg_tl]; exact List.getElem?_eq_getElem hl) (q _ (List.getElem?_eq_getElem hl))
theorem w_ixSgLast {l : List Nat} (hz : l.length ≤ 1000000) (h1 : l ≠ []) (q : Q (.str (Sg [l.getLast h1])) H) : rIxS (.str (Sg l)) (.int (-1)) H Q := by
  have hs : sizeLine = 16777216 := sizeLine_eq
  refine ⟨Sg l, -1, l.getLast h1, rfl, rfl, by rw [sg_len]; omega, ?_, q⟩
  rw [sg_tl]
  have e : l = l.dropLast ++ [l.getLast h1] := (List.dropLast_concat_getLast h1).symm
  rw [show atI l (-1) = atI (l.dropLast ++ [l.getLast h1]) (-1) by rw [← e]]
  exact atI_last _ _
theorem w_lenSg {l : List Nat} (h : l.length ≤ 1000000) (q : Q (.int (l.length : Int)) H) : rLen K [.str (Sg l)] H Q := by
  have hs : sizeLine = 16777216 := sizeLine_eq
  refine w_lenS (by rw [sg_len]; omega) ?_
  rw [sg_len]; exact q
theorem w_addSg {a b : List Nat} (h : a.length + b.length ≤ 1000000) (q : Q (.str (Sg (a ++ b))) H) : rAddStr (.str (Sg a)) (.str (Sg b)) H Q := by
  have hs : sizeLine = 16777216 := sizeLine_eq
  refine w_addS (by rw [sg_len, sg_len]; omega) ?_
  rw [sg_app]; exact q
theorem w_slSg {l : List Nat} (h : l.length ≤ 1000000) (q : Q (.str (Sg (cutD l lo hi))) H) : rSlS (.str (Sg l)) lo hi H Q := by
  have hs : sizeLine = 16777216 := sizeLine_eq
  refine w_slS (by rw [sg_len]; omega) ?_
  rw [sg_cut]; exact q
theorem w_eqSg {a b : List Nat} (q1 : a = b → Q (.bl true) H) (q2 : a ≠ b → Q (.bl false) H) : rEq (.str (Sg a)) (.str (Sg b)) H Q := by
  refine ⟨rfl, ?_⟩
  by_cases h : a = b
  · rw [decide_eq_true (sg_V.mpr h)]; exact q1 h
  · rw [decide_eq_false (fun z => h (sg_V.mp z))]; exact q2 h
theorem w_neSg {a b : List Nat} (q1 : a = b → Q (.bl false) H) (q2 : a ≠ b → Q (.bl true) H) : rNe (.str (Sg a)) (.str (Sg b)) H Q := by
  refine ⟨rfl, ?_⟩
  by_cases h : a = b
  · rw [decide_eq_true (sg_V.mpr h)]; exact q1 h
  · rw [decide_eq_false (fun z => h (sg_V.mp z))]; exact q2 h
theorem w_joinSg {ys : List (List Nat)} (h : Dp K H v (.list (ys.map fun y => PyData.str (Sg y)))) (hz : ys.flatten.length ≤ 1000000) (q : Q (.str (Sg ys.flatten)) H) : rJoin K (.str (Sg [])) [v] H Q := by
  refine w_join (ys := ys.map Sg) (by rw [List.map_map]; exact h) ?_ (by rw [sg_join]; exact q)
  rw [List.map_map, sg_len, List.length_nil, Nat.mul_zero, Nat.add_zero]
  have e : (ys.map ((·.length) ∘ Sg)).sum = ys.flatten.length := by
    rw [List.length_flatten]
    congr 1
    first
    | done
    | (apply List.map_congr_left; intro a _; exact sg_len a)
  omega
end
section
variable {K : PySem.W.Frag} {H : Hp} {Q : VK} {v x : V} {ds : List PyData}
theorem cl_isi {X : Cx} {K : PySem.W.Frag} (h : X.K = K := by rfl) : CallR X (.builtin "isinstance") (rIsi K) := h ▸ call_isi
theorem w_isiY {t n : String} (ty : TyX K H x (.type t)) (h : kitB t n = some true) (q : Q (.bl true) H) : rIsi K [x, .ty n] H Q := ⟨x, .ty n, .type t, .type n, true, rfl, .ty n, ty, kit_ty h, q⟩
theorem w_isiN {t n : String} (ty : TyX K H x (.type t)) (h : kitB t n = some false) (q : Q (.bl false) H) : rIsi K [x, .ty n] H Q := ⟨x, .ty n, .type t, .type n, false, rfl, .ty n, ty, kit_ty h, q⟩
theorem ty_tup (h : Dp K H v (.tuple ds)) : TyX K H v (.type "tuple") := by
  obtain ⟨a, xs, rfl, hs, ha⟩ := dp_tup h
  rcases hs with (hs | ⟨o, hs⟩) | ⟨o, its, n, e, c, _⟩
  · exact .base (.tup hs)
  · exact .fTuple hs
  · exact .kTuple e c
theorem ty_lst (h : Dp K H v (.list ds)) : TyX K H v (.type "list") := by
  obtain ⟨a, xs, rfl, hs, ha⟩ := dp_lst h
  rcases hs with (hs | ⟨o, hs⟩) | ⟨o, its, n, e, c, _⟩
  · exact .base (.lst hs)
  · exact .base (.frz hs)
  · exact .kList e c
theorem ty_int {i : Int} : TyX K H (.int i) (.type "int") := .base (.int i)
theorem ty_non : TyX K H .non (.type "NoneType") := .base .non
theorem ty_bl {b : Bool} : TyX K H (.bl b) (.type "bool") := .base (.bl b)
theorem ty_str {s : Str} : TyX K H (.str s) (.type "str") := .base (.str s)
end
end Tw
namespace Tw
open PySem PySem.Spec PyProof.Rows L2
/-! ### ratios in lowest terms -/
def red (p q : Nat) : Nat × Nat := (p / Nat.gcd p q, q / Nat.gcd p q)
theorem red_pos {p q : Nat} (h : 0 < q) : 0 < (red p q).2 := Nat.div_pos (Nat.le_of_dvd h (Nat.gcd_dvd_right p q)) (Nat.gcd_pos_of_pos_right p h)
theorem red_coprime {p q : Nat} (h : 0 < q) : Nat.Coprime (red p q).1 (red p q).2 := Nat.coprime_div_gcd_div_gcd (Nat.gcd_pos_of_pos_right p h)
theorem red_cross {p q : Nat} : (red p q).1 * q = p * (red p q).2 := by
  have h1 := Nat.gcd_dvd_left p q
  have h2 := Nat.gcd_dvd_right p q
  show p / Nat.gcd p q * q = p * (q / Nat.gcd p q)
  rw [← Nat.mul_div_assoc p h2, Nat.div_mul_right_comm h1]
theorem red_unique {a b c d : Nat} (hb : 0 < b) (hd : 0 < d) (h1 : Nat.Coprime a b) (h2 : Nat.Coprime c d) (h : a * d = c * b) : a = c ∧ b = d := by
  have e1 : b ∣ d := h1.symm.dvd_of_dvd_mul_left (by rw [h]; exact Nat.dvd_mul_left b c)
  have e2 : d ∣ b := h2.symm.dvd_of_dvd_mul_left (by rw [← h]; exact Nat.dvd_mul_left d a)
  have e3 := Nat.dvd_antisymm e1 e2
  subst e3
  exact ⟨Nat.eq_of_mul_eq_mul_right hb h, rfl⟩
theorem red_eq {p q p' q' : Nat} (hq : 0 < q) (hq' : 0 < q') (h : p * q' = p' * q) : red p q = red p' q' := by
  have e := red_unique (red_pos (p := p) hq) (red_pos (p := p') hq') (red_coprime hq) (red_coprime hq') (by
    have h1 := red_cross (p := p) (q := q)
    have h2 := red_cross (p := p') (q := q')
    have h3 : (red p q).1 * (red p' q').2 * (q * q') = (red p' q').1 * (red p q).2 * (q * q') := by grind
    exact Nat.eq_of_mul_eq_mul_right (Nat.mul_pos hq hq') h3)
  exact Prod.ext e.1 e.2
theorem red_self {p q : Nat} (h : Nat.Coprime p q) : red p q = (p, q) := by
  unfold red
  rw [show Nat.gcd p q = 1 from h, Nat.div_one, Nat.div_one]
theorem red_of {x : Nat × Nat} {p q : Nat} (hx : Nat.Coprime x.1 x.2) (h0 : 0 < x.2) (hq : 0 < q) (h : x.1 * q = p * x.2) : red p q = x := by
  rw [← red_eq h0 hq h, red_self hx]
theorem red_le {p q : Nat} : (red p q).2 ≤ q := Nat.div_le_self _ _
theorem red_le1 {p q : Nat} : (red p q).1 ≤ p := Nat.div_le_self _ _
theorem red_dvd {p q : Nat} : (red p q).2 ∣ q := Nat.div_dvd_of_dvd (Nat.gcd_dvd_right p q)
theorem red_lt {p q : Nat} (h : p < q) : (red p q).1 < (red p q).2 := Nat.div_lt_div_of_lt_of_dvd (Nat.gcd_dvd_right p q) h
/-! ### places -/
def CN : Nat := 56525307072677432455503587098948920087821904549333509463754043204567040000
theorem CN_pos : 0 < CN := by decide +kernel
theorem CN_lt : CN < 2 ^ 250 := by decide +kernel
theorem CN_dvdAll : ∀ m : Fin 24, ∀ n : Fin 25, 1 ≤ n.val → m.val + n.val ≤ 24 → CN % (2 ^ m.val * (2 ^ n.val - 1)) = 0 := by decide +kernel
theorem CN_dvd {m n : Nat} (hn : 1 ≤ n) (h : m + n ≤ 24) : 2 ^ m * (2 ^ n - 1) ∣ CN := Nat.dvd_of_mod_eq_zero (CN_dvdAll ⟨m, by omega⟩ ⟨n, by omega⟩ hn h)
theorem two_pow_pos (n : Nat) : 0 < 2 ^ n := Nat.pow_pos (by decide)
theorem bot_pos {m n : Nat} (hn : 1 ≤ n) : 0 < 2 ^ m * (2 ^ n - 1) := by
  have h1 : 2 ≤ 2 ^ n := by
    calc 2 = 2 ^ 1 := rfl
      _ ≤ 2 ^ n := Nat.pow_le_pow_right (by decide) hn
  exact Nat.mul_pos (two_pow_pos m) (by omega)
theorem bot_lt {m n : Nat} (h : m + n ≤ 24) : 2 ^ m * (2 ^ n - 1) < 2 ^ 24 := by
  have h0 := two_pow_pos n
  have h1 := two_pow_pos m
  calc 2 ^ m * (2 ^ n - 1) < 2 ^ m * 2 ^ n := Nat.mul_lt_mul_of_pos_left (by omega) h1
    _ = 2 ^ (m + n) := (Nat.pow_add 2 m n).symm
    _ ≤ 2 ^ 24 := Nat.pow_le_pow_right (by decide) h
/-- a place -/
structure Plc (x : Nat × Nat) : Prop where
  lt : x.1 < x.2
  cop : Nat.Coprime x.1 x.2
  bot : ∃ m n, 1 ≤ n ∧ m + n ≤ 24 ∧ x.2 ∣ 2 ^ m * (2 ^ n - 1)
section
variable {x y z a b : Nat × Nat}
theorem Plc.dvd (h : Plc x) : x.2 ∣ CN := by
  obtain ⟨m, n, h1, h2, h3⟩ := h.bot
  exact Nat.dvd_trans h3 (CN_dvd h1 h2)
theorem Plc.pos (h : Plc x) : 0 < x.2 := Nat.lt_of_le_of_lt (Nat.zero_le _) h.lt
theorem Plc.small (h : Plc x) : x.2 < 2 ^ 24 := by
  obtain ⟨m, n, h1, h2, h3⟩ := h.bot
  exact Nat.lt_of_le_of_lt (Nat.le_of_dvd (bot_pos h1) h3) (bot_lt h2)
/-- steps of 1 / CN from zero -/
def sz (x : Nat × Nat) : Nat := x.1 * (CN / x.2)
theorem sz_mul (h : Plc x) : sz x * x.2 = x.1 * CN := by
  unfold sz
  rw [Nat.mul_assoc, Nat.div_mul_cancel h.dvd]
theorem sz_lt (h : Plc x) : sz x < CN := by
  have h1 := sz_mul h
  have h2 : sz x * x.2 < CN * x.2 := by
    rw [h1, Nat.mul_comm CN]
    exact Nat.mul_lt_mul_of_pos_right h.lt CN_pos
  exact Nat.lt_of_mul_lt_mul_right h2
theorem sz_red (h : Plc x) : red (sz x) CN = x := red_of h.cop h.pos CN_pos (sz_mul h).symm
theorem sz_inj (h : Plc x) (h' : Plc y) (e : sz x = sz y) : x = y := by rw [← sz_red h, ← sz_red h', e]
theorem sz_less (h : Plc x) (h' : Plc y) : (x.1 * y.2 < y.1 * x.2 ↔ sz x < sz y) := by
  have h1 := sz_mul h
  have h2 := sz_mul h'
  have p := h.pos
  have p' := h'.pos
  have e1 : x.1 * y.2 * CN = sz x * (x.2 * y.2) := by grind
  have e2 : y.1 * x.2 * CN = sz y * (x.2 * y.2) := by grind
  constructor
  · intro l
    have : x.1 * y.2 * CN < y.1 * x.2 * CN := Nat.mul_lt_mul_of_pos_right l CN_pos
    rw [e1, e2] at this
    exact Nat.lt_of_mul_lt_mul_right this
  · intro l
    have : sz x * (x.2 * y.2) < sz y * (x.2 * y.2) := Nat.mul_lt_mul_of_pos_right l (Nat.mul_pos p p')
    rw [← e1, ← e2] at this
    exact Nat.lt_of_mul_lt_mul_right this
/-- the way up from a to b -/
def wu (a b : Nat × Nat) : Nat := (sz b + (CN - sz a)) % CN
theorem wu_lt : wu a b < CN := Nat.mod_lt _ CN_pos
theorem wu_eq (ha : Plc a) (hb : Plc b) : wu a b = if sz a ≤ sz b then sz b - sz a else sz b + CN - sz a := by
  have h1 := sz_lt ha
  have h2 := sz_lt hb
  unfold wu
  split
  · rw [show sz b + (CN - sz a) = (sz b - sz a) + CN by omega, Nat.add_mod_right, Nat.mod_eq_of_lt (by omega)]
  · rw [Nat.mod_eq_of_lt (by omega)]; omega
theorem wu_int (ha : Plc a) (hb : Plc b) : ((sz b : Int) - sz a) % (CN : Int) = (wu a b : Int) := by
  have h1 := sz_lt ha
  have h2 := sz_lt hb
  rw [wu_eq ha hb]
  split
  · rw [Int.emod_eq_of_lt (by omega) (by omega)]; omega
  · rw [← Int.add_emod_right, Int.emod_eq_of_lt (by omega) (by omega)]; omega
def arcN (a b : Nat × Nat) : Nat × Nat := red (wu a b) CN
/-- the mirrored place -/
def mirN (x : Nat × Nat) : Nat × Nat := (if x.1 = 0 then 0 else x.2 - x.1, x.2)
theorem mir_plc (h : Plc x) : Plc (mirN x) := by
  have h1 := h.lt
  refine ⟨?_, ?_, h.bot⟩
  · show (if x.1 = 0 then 0 else x.2 - x.1) < x.2
    split <;> omega
  · show Nat.Coprime (if x.1 = 0 then 0 else x.2 - x.1) x.2
    have hc := h.cop
    split
    · rename_i e
      rw [e] at hc
      exact hc
    · unfold Nat.Coprime at hc ⊢
      rw [Nat.gcd_comm, Nat.gcd_self_sub_right (Nat.le_of_lt h1), Nat.gcd_comm]
      exact hc
theorem mir_sz (h : Plc x) : sz (mirN x) = if sz x = 0 then 0 else CN - sz x := by
  have h1 := sz_mul h
  have h3 := sz_mul (mir_plc h)
  have hp := h.pos
  have hl := h.lt
  have hs := sz_lt h
  have e2 : (mirN x).2 = x.2 := rfl
  have e1 : (mirN x).1 = if x.1 = 0 then 0 else x.2 - x.1 := rfl
  rw [e2, e1] at h3
  by_cases h0 : x.1 = 0
  · have : sz x = 0 := by unfold sz; rw [h0, Nat.zero_mul]
    rw [if_pos this]
    rw [if_pos h0, Nat.zero_mul] at h3
    rcases Nat.mul_eq_zero.mp h3 with h | h
    · exact h
    · omega
  · have hn : sz x ≠ 0 := by
      intro z
      rw [z, Nat.zero_mul] at h1
      rcases Nat.mul_eq_zero.mp h1.symm with h | h
      · exact h0 h
      · have := CN_pos; omega
    rw [if_neg hn]
    rw [if_neg h0, Nat.sub_mul, ← h1] at h3
    have e : sz (mirN x) * x.2 = (CN - sz x) * x.2 := by rw [h3, Nat.sub_mul, Nat.mul_comm CN]
    exact Nat.eq_of_mul_eq_mul_right hp e
theorem mir_wu (ha : Plc a) (hb : Plc b) : wu (mirN b) (mirN a) = wu a b := by
  have h1 := sz_lt ha
  have h2 := sz_lt hb
  rw [wu_eq (mir_plc hb) (mir_plc ha), wu_eq ha hb, mir_sz ha, mir_sz hb]
  (repeat' split) <;> omega
end
def pd (x : Nat × Nat) : PyData := .tuple [.int x.1, .int x.2]
theorem pd_inj {x y : Nat × Nat} (h : pd x = pd y) : x = y := by
  simp only [pd, PyData.tuple.injEq, List.cons.injEq, PyData.int.injEq, and_true] at h
  exact Prod.ext (by omega) (by omega)
theorem pd_pln {k : Nat} (x : Nat × Nat) : pln (k + 1) (pd x) = true := by
  cases k <;> simp [pd, pln]
theorem pd_noL (x : Nat × Nat) : noL (pd x) = true := rfl
end Tw
namespace Tw
open PySem PySem.Spec PyProof.Rows L2
theorem mir_int {x : Nat × Nat} (h : x.1 < x.2) : (-(x.1 : Int)) % (x.2 : Int) = ((mirN x).1 : Int) := by
  show _ = (((if x.1 = 0 then 0 else x.2 - x.1) : Nat) : Int)
  split
  · rename_i e; rw [e]; simp
  · rw [← Int.add_emod_right, Int.emod_eq_of_lt (by omega) (by omega)]; omega
/-! ### doubling -/
def dblN (x : Nat × Nat) : Nat × Nat := if x.2 % 2 = 0 then (x.1 % (x.2 / 2), x.2 / 2) else (2 * x.1 % x.2, x.2)
theorem odd_of_dvd {b n : Nat} (hn : 1 ≤ n) (h : b ∣ 2 ^ 0 * (2 ^ n - 1)) : b % 2 = 1 := by
  obtain ⟨k, hk⟩ := h
  rw [Nat.pow_zero, Nat.one_mul] at hk
  have h1 : 2 ^ n = 2 * 2 ^ (n - 1) := by rw [← Nat.pow_succ']; congr 1; omega
  have h0 := two_pow_pos (n - 1)
  rcases Nat.mod_two_eq_zero_or_one b with hb | hb
  · have hb2 : b = 2 * (b / 2) := by omega
    rw [hb2, Nat.mul_assoc] at hk
    omega
  · exact hb
theorem dbl_plc {x : Nat × Nat} (h : Plc x) : Plc (dblN x) := by
  obtain ⟨m, n, h1, h2, h3⟩ := h.bot
  have hp := h.pos
  have hl := h.lt
  have hc := h.cop
  unfold dblN
  split
  · rename_i e
    have hx : x.2 = 2 * (x.2 / 2) := by omega
    have hq : 0 < x.2 / 2 := by omega
    have hm : 1 ≤ m := by
      cases m with
      | zero => have := odd_of_dvd h1 h3; omega
      | succ m => omega
    refine ⟨Nat.mod_lt _ hq, ?_, m - 1, n, h1, by omega, ?_⟩
    · show Nat.Coprime (x.1 % (x.2 / 2)) (x.2 / 2)
      have hd : Nat.gcd x.1 (x.2 / 2) ∣ Nat.gcd x.1 x.2 := Nat.dvd_gcd (Nat.gcd_dvd_left _ _) (Nat.dvd_trans (Nat.gcd_dvd_right _ _) ⟨2, by omega⟩)
      rw [show Nat.gcd x.1 x.2 = 1 from hc] at hd
      unfold Nat.Coprime
      rw [← Nat.gcd_rec, Nat.gcd_comm]
      exact Nat.dvd_one.mp hd
    · show x.2 / 2 ∣ _
      have e2 : 2 ^ m = 2 * 2 ^ (m - 1) := by rw [← Nat.pow_succ']; congr 1; omega
      rw [hx, e2, Nat.mul_assoc] at h3
      exact Nat.dvd_of_mul_dvd_mul_left (by decide) h3
  · rename_i e
    refine ⟨Nat.mod_lt _ hp, ?_, m, n, h1, h2, h3⟩
    show Nat.Coprime (2 * x.1 % x.2) x.2
    unfold Nat.Coprime
    rw [← Nat.gcd_rec]
    have h2c : Nat.Coprime x.2 2 := by
      unfold Nat.Coprime
      rw [Nat.gcd_comm, Nat.gcd_rec, show x.2 % 2 = 1 by omega]
      rfl
    exact Nat.Coprime.mul_right h2c hc.symm
/-! ### digits -/
def bv (l : List Nat) : Nat := l.foldl (fun s c => 2 * s + (c - 48)) 0
def Dg (l : List Nat) : Prop := ∀ c ∈ l, c = 48 ∨ c = 49
theorem bv_snoc (l : List Nat) (c : Nat) : bv (l ++ [c]) = 2 * bv l + (c - 48) := by simp [bv, List.foldl_append]
theorem bv_lt : ∀ (l : List Nat), Dg l → bv l < 2 ^ l.length := by
  intro l
  induction hn : l.length generalizing l with
  | zero => intro _; rw [List.length_eq_zero_iff.mp hn]; decide
  | succ n ih =>
    intro h
    have hne : l ≠ [] := fun z => by rw [z] at hn; simp at hn
    have hl : l.dropLast.length = n := by rw [List.length_dropLast]; omega
    have h1 := ih l.dropLast hl (fun c hc => h c (List.dropLast_subset l hc))
    have h2 := h (l.getLast hne) (List.getLast_mem hne)
    rw [← List.dropLast_concat_getLast hne, bv_snoc, Nat.pow_succ]
    omega
def botN (h c : List Nat) : Nat := 2 ^ h.length * (2 ^ c.length - 1)
def binN (h c : List Nat) : Nat × Nat := red ((bv h * (2 ^ c.length - 1) + bv c) % botN h c) (botN h c)
theorem botN_pos {h c : List Nat} (hc : c ≠ []) : 0 < botN h c := bot_pos (List.length_pos_iff.mpr hc)
theorem bin_plc {h c : List Nat} (hc : c ≠ []) (hl : h.length + c.length ≤ 24) : Plc (binN h c) :=
  ⟨red_lt (Nat.mod_lt _ (botN_pos hc)), red_coprime (botN_pos hc), h.length, c.length, List.length_pos_iff.mpr hc, hl, red_dvd⟩
/-! ### what readings ask -/
section
variable {K : PySem.W.Frag} {σ : L2.St} {H : Hp} {Q : VK} {v y : V} {x : Nat × Nat} {p q : Nat}
theorem w_gcdN (h : Q (.int ((Nat.gcd p q : Nat) : Int)) H) : rGcd [.int (p : Int), .int (q : Int)] H Q := ⟨p, q, rfl, by simpa using h⟩
theorem w_ix0 (h : Dp K H v (pd x)) (q : Q (.int (x.1 : Int)) H) : rIxT K v (.int 0) H Q := w_ixT (j := 0) h rfl rfl fun v' hv => by cases hv; exact q
theorem w_ix1 (h : Dp K H v (pd x)) (q : Q (.int (x.2 : Int)) H) : rIxT K v (.int 1) H Q := w_ixT (j := 1) h rfl rfl fun v' hv => by cases hv; exact q
theorem w_gTupP {i j : Nat} {Q : L2.St → Hp → Prop} (h : Dp K H v (pd x)) (q : Q ((σ.set i (some (.int (x.1 : Int)))).set j (some (.int (x.2 : Int)))) H) : gTup K 2 (gCons (gName i) (gCons (gName j) gNil)) v σ H Q :=
  w_gTup2 h fun v1 v2 h1 h2 => by cases h1; cases h2; exact q
def rAbs : List V → Hp → VK → Prop := fun xs H Q => ∃ i, xs = [.int i] ∧ Q (.int (if i < 0 then -i else i)) H
theorem cl_abs {X : Cx} : CallR X (.builtin "abs") rAbs := call_abs
theorem w_absN (h : Q (.int (p : Int)) H) : rAbs [.int (p : Int)] H Q := ⟨p, rfl, by rw [if_neg (by omega)]; exact h⟩
theorem w_absI {i : Int} (h : Q (.int (i.natAbs : Int)) H) : rAbs [.int i] H Q := ⟨i, rfl, by
  rw [show (if i < 0 then -i else i) = (i.natAbs : Int) by split <;> omega]; exact h⟩
def rIntS : List V → Hp → VK → Prop := fun xs H Q => ∃ a n, xs = [.str a] ∧ PySem.intText? a = some n ∧ a.length ≤ 640 ∧ Q (.int n) H
theorem cl_intS {X : Cx} : CallR X (.type "int") rIntS := call_int_str
theorem int_0 : PySem.intText? (Sg [48]) = some 0 := by decide +kernel
theorem int_1 : PySem.intText? (Sg [49]) = some 1 := by decide +kernel
theorem w_intS {c : Nat} (hc : c = 48 ∨ c = 49) (h : Q (.int ((c - 48 : Nat) : Int)) H) : rIntS [.str (Sg [c])] H Q := by
  rcases hc with rfl | rfl
  · exact ⟨Sg [48], 0, rfl, int_0, by decide, h⟩
  · exact ⟨Sg [49], 1, rfl, int_1, by decide, h⟩
theorem op_inDK {X : Cx} {K : PySem.W.Frag} (hu : X.A.units + 65 < cLine) (h : X.K = K := by rfl) : OpR X (compareOp .In) (rInD K) := h ▸ op_inD hu
theorem op_notInDK {X : Cx} {K : PySem.W.Frag} (hu : X.A.units + 65 < cLine) (h : X.K = K := by rfl) : OpR X (compareOp .NotIn) (rNotInD K) := h ▸ op_notInD hu
theorem any_eqv {d : PyData} {ds : List PyData} (hd : pln 8 d = true) (hs : ∀ z ∈ ds, pln 8 z = true) : (ds.any fun z => PyData.eqv z d) = true ↔ d ∈ ds := by
  rw [List.any_eq_true]
  constructor
  · rintro ⟨z, hz, e⟩
    rw [(pln_eqv 8 8 z d (hs z hz) hd).mp e] at hz
    exact hz
  · intro h
    exact ⟨d, h, (pln_eqv 8 8 d d hd hd).mpr rfl⟩
theorem pln_list {k : Nat} {ds : List PyData} (h : ∀ z ∈ ds, pln k z = true) : pln (k + 1) (.list ds) = true := by simpa [pln] using h
theorem pln_tuple {k : Nat} {ds : List PyData} (h : ∀ z ∈ ds, pln k z = true) : pln (k + 1) (.tuple ds) = true := by simpa [pln] using h
theorem w_inP {d : PyData} {ds : List PyData} (h1 : Dp K H v d) (h2 : Dp K H y (.list ds)) (p1 : pln 8 d = true) (p2 : ∀ z ∈ ds, pln 8 z = true) (q1 : d ∈ ds → Q (.bl true) H) (q2 : d ∉ ds → Q (.bl false) H) : rInD K v y H Q := by
  refine ⟨d, ds, h1, h2, pln_shaped p1 (by decide), pln_shaped (pln_list p2) (by decide), ?_⟩
  have r := any_eqv p1 p2
  cases he : (ds.any fun z => PyData.eqv z d) with
  | true => exact q1 (r.mp he)
  | false => exact q2 (fun z => by rw [r.mpr z] at he; cases he)
theorem w_notInP {d : PyData} {ds : List PyData} (h1 : Dp K H v d) (h2 : Dp K H y (.list ds)) (p1 : pln 8 d = true) (p2 : ∀ z ∈ ds, pln 8 z = true) (q1 : d ∈ ds → Q (.bl false) H) (q2 : d ∉ ds → Q (.bl true) H) : rNotInD K v y H Q := by
  refine ⟨d, ds, h1, h2, pln_shaped p1 (by decide), pln_shaped (pln_list p2) (by decide), ?_⟩
  have r := any_eqv p1 p2
  cases he : (ds.any fun z => PyData.eqv z d) with
  | true => exact q1 (r.mp he)
  | false => exact q2 (fun z => by rw [r.mpr z] at he; cases he)
theorem Room65 {k : Nat} {A : Around} (r : Room k A) : A.units + 65 < cLine := by have := r.un; omega
end
/-! ### Euclid's steps -/
structure Eu (a b : Nat) (i a' b' : Nat) : Prop where
  g : Nat.gcd a' b' = Nat.gcd a b
  s : i = 0 → b' = b
  l : 1 ≤ i → b' < a' ∧ a' * b' * 2 ^ (i - 1) < 2 ^ 380 ∨ b' = 0
theorem Eu.start (a b : Nat) : Eu a b 0 a b := ⟨rfl, fun _ => rfl, fun h => by omega⟩
theorem Eu.step {a b i a' b' : Nat} (hb : b < 2 ^ 190) (h : Eu a b i a' b') (h0 : b' ≠ 0) : Eu a b (i + 1) b' (a' % b') := by
  have hlt : a' % b' < b' := Nat.mod_lt _ (by omega)
  refine ⟨?_, fun z => by omega, fun _ => ?_⟩
  · rw [← h.g, Nat.gcd_comm b', ← Nat.gcd_rec, Nat.gcd_comm]
  · left
    refine ⟨hlt, ?_⟩
    rw [Nat.add_sub_cancel]
    by_cases hi : i = 0
    · subst hi
      have e := h.s rfl
      subst e
      rw [Nat.pow_zero, Nat.mul_one]
      calc b' * (a' % b') ≤ b' * b' := Nat.mul_le_mul_left _ (Nat.le_of_lt hlt)
        _ < 2 ^ 190 * 2 ^ 190 := Nat.mul_lt_mul'' hb hb
        _ = 2 ^ 380 := by rw [← Nat.pow_add]
    · rcases h.l (by omega) with ⟨h1, h2⟩ | h1
      · have h3 : 2 * (a' % b') ≤ a' := by
          have := Nat.div_add_mod a' b'
          have : 1 ≤ a' / b' := Nat.div_pos (by omega) (by omega)
          have : b' * 1 ≤ b' * (a' / b') := Nat.mul_le_mul_left _ this
          omega
        have e : 2 ^ i = 2 * 2 ^ (i - 1) := by rw [← Nat.pow_succ']; congr 1; omega
        calc b' * (a' % b') * 2 ^ i = b' * (2 * (a' % b')) * 2 ^ (i - 1) := by rw [e]; grind
          _ ≤ b' * a' * 2 ^ (i - 1) := Nat.mul_le_mul_right _ (Nat.mul_le_mul_left _ h3)
          _ = a' * b' * 2 ^ (i - 1) := by rw [Nat.mul_comm b']
          _ < 2 ^ 380 := h2
      · exact absurd h1 h0
theorem Eu.done {a b i a' b' : Nat} (h : Eu a b i a' b') (hi : 382 ≤ i) : a' = Nat.gcd a b := by
  have : b' = 0 := by
    rcases h.l (by omega) with ⟨h1, h2⟩ | h1
    · by_cases hb : b' = 0
      · exact hb
      · exfalso
        have h3 : 1 ≤ a' * b' := Nat.mul_pos (by omega) (by omega)
        have h4 : 2 ^ 380 ≤ 2 ^ (i - 1) := Nat.pow_le_pow_right (by decide) (by omega)
        have h5 : 1 * 2 ^ (i - 1) ≤ a' * b' * 2 ^ (i - 1) := Nat.mul_le_mul_right _ h3
        omega
    · exact h1
  rw [← h.g, this, Nat.gcd_zero_right]
theorem Eu.zero {a b i a' : Nat} (h : Eu a b i a' 0) : a' = Nat.gcd a b := by rw [← h.g, Nat.gcd_zero_right]
end Tw
namespace Tw
open PySem PySem.Spec PyProof.Rows L2
/-- x lies between a and b, going up from a (by the law's own look) -/
def btw (a x b : Nat × Nat) : Prop := if sz a < sz b then sz a < sz x ∧ sz x < sz b else sz a < sz x ∨ sz x < sz b
instance {a x b : Nat × Nat} : Decidable (btw a x b) := by unfold btw; infer_instance
theorem btw_wu {a x b : Nat × Nat} (ha : Plc a) (hx : Plc x) (hb : Plc b) (h1 : x ≠ a) (h2 : x ≠ b) (h3 : a ≠ b) : btw a x b ↔ (0 < wu a x ∧ wu a x < wu a b) := by
  have s1 := sz_lt ha
  have s2 := sz_lt hx
  have s3 := sz_lt hb
  have n1 : sz x ≠ sz a := fun z => h1 (sz_inj hx ha z)
  have n2 : sz x ≠ sz b := fun z => h2 (sz_inj hx hb z)
  have n3 : sz a ≠ sz b := fun z => h3 (sz_inj ha hb z)
  rw [wu_eq ha hx, wu_eq ha hb]
  unfold btw
  (repeat' split) <;> omega
theorem wu_self {a : Nat × Nat} (ha : Plc a) : wu a a = 0 := by rw [wu_eq ha ha]; simp
theorem arc_top {a b : Nat × Nat} (ha : Plc a) (hb : Plc b) : ∃ n : Nat, (if 0 ≤ (b.1 : Int) * a.2 - (a.1 : Int) * b.2 then (b.1 : Int) * a.2 - (a.1 : Int) * b.2 else (b.1 : Int) * a.2 - (a.1 : Int) * b.2 + (a.2 : Int) * b.2) = (n : Int) ∧ n * CN = wu a b * (a.2 * b.2) := by
  have e1 := sz_mul ha
  have e2 := sz_mul hb
  have p1 := ha.lt
  have p2 := hb.lt
  have hl : (a.1 * b.2 ≤ b.1 * a.2 ↔ sz a ≤ sz b) := by
    have := sz_less hb ha
    omega
  have u1 : b.1 * a.2 * CN = sz b * (a.2 * b.2) := by grind
  have u2 : a.1 * b.2 * CN = sz a * (a.2 * b.2) := by grind
  have hab : a.1 * b.2 ≤ a.2 * b.2 := Nat.mul_le_mul_right _ (Nat.le_of_lt p1)
  have c1 : (b.1 : Int) * a.2 = ((b.1 * a.2 : Nat) : Int) := rfl
  have c2 : (a.1 : Int) * b.2 = ((a.1 * b.2 : Nat) : Int) := rfl
  have c3 : (a.2 : Int) * b.2 = ((a.2 * b.2 : Nat) : Int) := rfl
  rw [c1, c2, c3, wu_eq ha hb]
  have s1 := sz_lt ha
  by_cases h : sz a ≤ sz b
  · have h' := hl.mpr h
    refine ⟨b.1 * a.2 - a.1 * b.2, by rw [if_pos (by omega)]; omega, ?_⟩
    rw [if_pos h, Nat.sub_mul, Nat.sub_mul, u1, u2]
  · have h' : ¬ a.1 * b.2 ≤ b.1 * a.2 := fun z => h (hl.mp z)
    refine ⟨b.1 * a.2 + a.2 * b.2 - a.1 * b.2, by rw [if_neg (by omega)]; omega, ?_⟩
    rw [if_neg h, Nat.sub_mul, Nat.add_mul, u1, u2, Nat.sub_mul, Nat.add_mul, Nat.mul_comm CN]
/-- sums of arcs -/
theorem red_add {n k : Nat} {x y : Nat × Nat} (hx : x = red n CN) (hy : y = red k CN) : red (x.1 * y.2 + y.1 * x.2) (x.2 * y.2) = red (n + k) CN := by
  have h1 := red_cross (p := n) (q := CN)
  have h2 := red_cross (p := k) (q := CN)
  have p1 := red_pos (p := n) CN_pos
  have p2 := red_pos (p := k) CN_pos
  rw [← hx] at h1 p1
  rw [← hy] at h2 p2
  refine red_eq (Nat.mul_pos p1 p2) CN_pos ?_
  grind
theorem red_one : red CN CN = (1, 1) := by
  unfold red; rw [Nat.gcd_self, Nat.div_self CN_pos]
theorem red_two : red (2 * CN) CN = (2, 1) := by
  unfold red
  rw [Nat.gcd_comm, Nat.gcd_mul_left_right, Nat.div_self CN_pos, Nat.mul_div_cancel _ CN_pos]
theorem red_ne {n k : Nat} (h : red n CN = red k CN) : n = k := by
  have h1 := red_cross (p := n) (q := CN)
  have h2 := red_cross (p := k) (q := CN)
  have p1 := red_pos (p := n) CN_pos
  rw [h] at h1
  rw [h] at p1
  have := h1.symm.trans h2
  exact Nat.eq_of_mul_eq_mul_right p1 this
theorem arc_bd {a b : Nat × Nat} (ha : Plc a) (hb : Plc b) : 0 < (arcN a b).2 ∧ (arcN a b).2 < 2 ^ 48 ∧ (arcN a b).1 < 2 ^ 48 := by
  have p1 := ha.small
  have p3 := hb.small
  have hd : a.2 * b.2 < 2 ^ 48 := by
    calc a.2 * b.2 < 2 ^ 24 * 2 ^ 24 := Nat.mul_lt_mul'' p1 p3
      _ = 2 ^ 48 := by rw [← Nat.pow_add]
  have hpos : 0 < a.2 * b.2 := Nat.mul_pos ha.pos hb.pos
  obtain ⟨n, _, hn⟩ := arc_top ha hb
  have e : arcN a b = red n (a.2 * b.2) := (red_eq hpos CN_pos hn).symm
  have h1 := red_le (p := n) (q := a.2 * b.2)
  have h2 := red_pos (p := n) hpos
  have h3 : (arcN a b).1 < (arcN a b).2 := red_lt wu_lt
  rw [← e] at h1 h2
  omega
theorem wu_back {a b : Nat × Nat} (ha : Plc a) (hb : Plc b) (h : a ≠ b) : wu a b + wu b a = CN := by
  have s1 := sz_lt ha
  have s3 := sz_lt hb
  have n3 : sz a ≠ sz b := fun z => h (sz_inj ha hb z)
  rw [wu_eq ha hb, wu_eq hb ha]
  (repeat' split) <;> omega
theorem arc_mir {a b : Nat × Nat} (ha : Plc a) (hb : Plc b) : arcN (mirN b) (mirN a) = arcN a b := by unfold arcN; rw [mir_wu ha hb]
theorem sum_bd {a x b : Nat × Nat} (ha : Plc a) (hx : Plc x) (hb : Plc b) :
    0 < (red ((arcN a x).1 * (arcN x b).2 + (arcN x b).1 * (arcN a x).2) ((arcN a x).2 * (arcN x b).2)).2 ∧ (red ((arcN a x).1 * (arcN x b).2 + (arcN x b).1 * (arcN a x).2) ((arcN a x).2 * (arcN x b).2)).2 < 2 ^ 96 ∧
    (red ((arcN a x).1 * (arcN x b).2 + (arcN x b).1 * (arcN a x).2) ((arcN a x).2 * (arcN x b).2)).1 < 2 ^ 97 := by
  have b1 := arc_bd ha hx
  have b2 := arc_bd hx hb
  have hq : (arcN a x).2 * (arcN x b).2 < 2 ^ 96 := by
    calc (arcN a x).2 * (arcN x b).2 < 2 ^ 48 * 2 ^ 48 := Nat.mul_lt_mul'' b1.2.1 b2.2.1
      _ = 2 ^ 96 := by rw [← Nat.pow_add]
  have h1 : (arcN a x).1 * (arcN x b).2 < 2 ^ 96 := by
    calc (arcN a x).1 * (arcN x b).2 < 2 ^ 48 * 2 ^ 48 := Nat.mul_lt_mul'' b1.2.2 b2.2.1
      _ = 2 ^ 96 := by rw [← Nat.pow_add]
  have h2 : (arcN x b).1 * (arcN a x).2 < 2 ^ 96 := by
    calc (arcN x b).1 * (arcN a x).2 < 2 ^ 48 * 2 ^ 48 := Nat.mul_lt_mul'' b2.2.2 b1.2.1
      _ = 2 ^ 96 := by rw [← Nat.pow_add]
  exact ⟨red_pos (Nat.mul_pos b1.1 b2.1), Nat.lt_of_le_of_lt red_le hq, Nat.lt_of_le_of_lt red_le1 (by omega)⟩
end Tw
namespace Tw
open PySem PySem.Spec PyProof.Rows L2
theorem pe_ownInit {X : Cx} {e : Expr} {es : List Expr} {ta : TA} {p1 p2 pos : Pos} {pl : Sem Bool} {x : Str} {D : Addr} (hg : Gl X x) (hm : X.mg x = some (.ref D))
    (sp : PySem.W.specialIn X.K (.ref D) "__getattribute__" = some (some (.builtin "type.__getattribute__"))) (tp : PySem.W.typeIn X.K (.ref D) = some (.type "type")) (rd : PySem.W.readsIn X.K D (.type "type") = true)
    (fc : PySem.W.findCls X.K (.ref D) (.type "type") "__init__" = some (.val (.builtin "ValueError.__init__"))) (ha : PA X (e :: es) ta) (hd : (x == ("__debug__" : Str)) = false := by rfl)
    (he : eval (.Call (.Attribute (.Name x p1) "__init__" p2) (e :: es) [] pos) X.env = (do
      let ov ← eval (.Name x p1) X.env
      standAt p2.atName
      let (f, first) ← holding [ov] (getMethod ov "__init__" pl)
      callWith pos f first (backTo pos (starEach (e :: es) X.env)) (backToKw pos (keywordEach [] X.env))) := by rfl)
    (h1 : starEach (e :: es) X.env = (false, eval e X.env) :: starEach es X.env := by rfl) (h2 : (backTo pos (starEach es X.env)).any (·.1) = false := by rfl) :
    PE X (.Call (.Attribute (.Name x p1) "__init__" p2) (e :: es) [] pos) (tVeI X.K ta) where
  run := fun pins s σ H Q I h => by
    obtain ⟨m, fr⟩ := I.fr
    have kin := I.ok.mod.kin
    refine PySem.W.methodCall_KW (ld_glob I hg hm ?_ hd) he
    refine PySem.W.method_of_cls fr kin sp (PySem.W.cls_val fr kin tp rd fc (by rfl) ?_)
    refine callWith_method1 (thn (ha.run pos pins _ σ H _ (I.tok _) h) fun us s' z => ?_) h1 h2
    obtain ⟨vs, H', I', rv, a, C, ws, rfl, hl, ox, hx, q⟩ := z
    cases rv with
    | cons r1 r2 =>
      cases r1
      refine oinit_ok ox I' hx ?_ fun s2 I2 => ⟨.non, H', I2, rfl, q⟩
      have := r2.length
      rw [sizeLine_eq]
      omega
/-- a call of a def that may raise, where it doesn't -/
theorem passF {P : Program} {w : World} {X : Cx} : Passes (CX P w) X (fun _ _ _ => False) := by
  intro pins σ H s e s' I h
  obtain ⟨_, _, _, _, _, _, _, _, _, _, _, _, h⟩ := h
  exact h.elim
/-- what the top says of an own class of errors at C -/
structure ExK (K : PySem.W.Frag) (C : Addr) : Prop where
  o : OexC K C
  f : XfC K C
/-- .. of one whose __init__ is called by name -/
structure ExB (K : PySem.W.Frag) (D : Addr) : Prop where
  sp : PySem.W.specialIn K (.ref D) "__getattribute__" = some (some (.builtin "type.__getattribute__"))
  tp : PySem.W.typeIn K (.ref D) = some (.type "type")
  rd : PySem.W.readsIn K D (.type "type") = true
  fc : PySem.W.findCls K (.ref D) (.type "type") "__init__" = some (.val (.builtin "ValueError.__init__"))
section
variable {K : PySem.W.Frag} {σ : L2.St} {H : Hp} {Q : VK} {D : Ends}
theorem w_vei {ta : TA} (h : ta σ H fun vs H1 => ∃ a C ws, vs = V.ref a :: ws ∧ ws.length ≤ 1000 ∧ OexC K C ∧ H1 a = some (exo a C none) ∧ Q V.non H1) : tVeI K ta σ H Q := h
theorem w_ost {f : Str} {to te : TE} (h : te σ H fun y H1 => to σ H1 fun x H2 => ∃ a C, x = V.ref a ∧ OexC K C ∧ PySem.W.findIn K (Value.ref C) f = some none ∧
      ((H2 a = some (exo a C none) ∧ ∀ dx : Addr, H2 dx = none → dx ≠ a → D.nx σ (upd (upd H2 dx (exd dx [(f, y)])) a (exo a C (some dx)))) ∨
        ∃ dx fs, H2 a = some (exo a C (some dx)) ∧ H2 dx = some (exd dx fs) ∧ fs.length ≤ 900 ∧ D.nx σ (upd H2 dx (exd dx ((f, y) :: fs))))) : tOst K f to te D σ H := h
theorem w_js {t : TE} {ts : List TE} {acc : Str} {Q : Str → Hp → Prop} (h : t σ H fun x H1 => ∃ y : Str, x = .str y ∧ (acc ++ y).length ≤ sizeLine ∧ tJs ts (acc ++ y) σ H1 Q) : tJs (t :: ts) acc σ H Q := h
theorem w_jsN {acc : Str} {Q : Str → Hp → Prop} (h : Q acc H) : tJs [] acc σ H Q := h
theorem w_fmt {te : TE} (h : te σ H fun x H1 => (∃ y, x = V.str y ∧ y.length ≤ sizeLine ∧ Q (V.str y) H1) ∨ ∃ i, x = V.int i ∧ i.natAbs.log2 < 1920 ∧ Q (V.str (Str.ofString (toString i))) H1) : tFmt te σ H Q := h
end
theorem exm_ofS {K : PySem.W.Frag} {C S : Addr} {b : Bool} (h1 : PySem.W.subIn K (.ref S) (.type "BaseException") = some true) (h2 : PySem.W.isClsIn K S = true) (h3 : PySem.W.typeIn K (.ref S) = some (.type "type")) (h4 : PySem.W.subIn K (.ref C) (.ref S) = some b) :
    PySem.W.exmOne K (.ref C) (.ref S) = some b := by
  have e1 : (PySem.W.subIn K (.ref S) (.type "BaseException") == some true) = true := by rw [h1] <;> rfl
  have e2 : ((PySem.W.clsIn K S).isSome && PySem.W.typeIn K (.ref S) == some (.type "type")) = true := by
    have h2' : (PySem.W.clsIn K S).isSome = true := h2
    rw [h2', h3] <;> rfl
  show (if (PySem.W.subIn K (.ref S) (.type "BaseException") == some true) = true then (if ((PySem.W.clsIn K S).isSome && PySem.W.typeIn K (.ref S) == some (.type "type")) = true then PySem.W.subIn K (.ref C) (.ref S) else none) else none) = some b
  rw [if_pos e1, if_pos e2]
  exact h4
theorem str_app (a b : Str) : (a ++ b).length = a.length + b.length := by
  show (a.cps ++ b.cps).size = _
  exact Array.size_append
theorem log2_ok {n : Int} (h0 : 0 ≤ n) (h1 : n < 1000000) : n.natAbs.log2 < 1920 := by
  by_cases z : n.natAbs = 0
  · rw [z]; decide
  · rw [Nat.log2_lt z]
    exact Nat.lt_of_lt_of_le (show n.natAbs < 2 ^ 20 by omega) (Nat.pow_le_pow_right (by decide) (by decide))
theorem strI_len {n : Int} (h0 : 0 ≤ n) (h1 : n < 1000000) : (Str.ofString (toString n)).length ≤ 6 := toString_length_le h0 (by decide) (by omega)
section
variable {K : PySem.W.Frag} {σ : L2.St} {H : Hp} {D : Ends} {C : Addr}
theorem w_mko {sp : Sp} {dvs : List V} {ta : TA} {Q : XK} (h : ta σ H fun vs H1 => vs.length ≤ 1000 ∧ ∀ a : Addr, H1 a = none → sp (V.ref a :: (vs ++ dvs)) (upd H1 a (exo a C none))
      (fun v H2 => v = V.non ∧ ∃ d fs, H2 a = some (exo a C (some d)) ∧ H2 d = some (exd d fs) ∧ H1 d = none ∧ Q (Value.ref C) (some d) (upd (del H2 a) d (HO.xd fs))) fun _ _ _ => False) : tMkO C sp dvs ta σ H Q := h
/-- the error's dict beside what stood -/
theorem raise_same {H : Hp} {a dx : Addr} {o1 o2 o3 o4 : HO} (ha : H a = none) (hd : H dx = none) : Same H (upd (del (upd (upd (upd H a o1) dx o2) a o3) a) dx o4) := fun b o e => by
  have h1 : b ≠ a := fun z => by rw [z, ha] at e; cases e
  have h2 : b ≠ dx := fun z => by rw [z, hd] at e; cases e
  rw [upd_ne h2, del_ne h1, upd_ne h1, upd_ne h2, upd_ne h1]
  exact e
end
section
variable {K : PySem.W.Frag} {σ : L2.St} {H : Hp} {Q : VK}
theorem w_callS {sp : Sp} {E : L2.St → XK} {ta : TA} (h : ta σ H fun vs H1 => sp vs H1 Q (E σ)) : tCallS sp E ta σ H Q := h
theorem w_xf {a C : Addr} {cls : Value} {d : Option Addr} {f : Str} {te : TE} (h : te σ H fun x H1 => x = V.ref a ∧ cls = Value.ref C ∧ ∃ dd fs v, d = some dd ∧ H1 dd = some (HO.xd fs) ∧ List.lookup f fs = some v ∧ Q v H1) : tXf a cls d C f te σ H Q := h
end
end Tw
namespace Tw
open PySem PySem.Spec PyProof.Rows L2
def rInT (K : PySem.W.Frag) : R2 := fun x y H Q => ∃ d ds, Dp K H x d ∧ Dp K H y (.tuple ds) ∧ SeqAt.shaped d = true ∧ SeqAt.shaped (.tuple ds) = true ∧ Q (.bl (ds.any fun z => PyData.eqv z d)) H
def rNotInT (K : PySem.W.Frag) : R2 := fun x y H Q => ∃ d ds, Dp K H x d ∧ Dp K H y (.tuple ds) ∧ SeqAt.shaped d = true ∧ SeqAt.shaped (.tuple ds) = true ∧ Q (.bl (!(ds.any fun z => PyData.eqv z d))) H
theorem op_inT {X : Cx} {K : PySem.W.Frag} (hu : X.A.units + 65 < cLine) (hK : X.K = K := by rfl) : OpR X (compareOp .In) (rInT K) := by
  subst hK
  intro pins s σ H x y v u Q I rx ry h
  obtain ⟨d, ds, h1, h2, h3, h4, q⟩ := h
  obtain ⟨as, r1⟩ := L2.Dp.reads I d x v h1 rx
  obtain ⟨bs, r2⟩ := L2.Dp.reads I _ y u h2 ry
  refine SeqAt.in_tuple_reads r2 r1 (SeqAt.canLay_of_shaped h4) (SeqAt.canLay_of_shaped h3) (room_in_shaped h3 hu) ?_
  exact ⟨.bl _, H, I, rfl, q⟩
theorem op_notInT {X : Cx} {K : PySem.W.Frag} (hu : X.A.units + 65 < cLine) (hK : X.K = K := by rfl) : OpR X (compareOp .NotIn) (rNotInT K) := by
  subst hK
  intro pins s σ H x y v u Q I rx ry h
  obtain ⟨d, ds, h1, h2, h3, h4, q⟩ := h
  obtain ⟨as, r1⟩ := L2.Dp.reads I d x v h1 rx
  obtain ⟨bs, r2⟩ := L2.Dp.reads I _ y u h2 ry
  refine SeqAt.notIn_tuple_reads r2 r1 (SeqAt.canLay_of_shaped h4) (SeqAt.canLay_of_shaped h3) (room_in_shaped h3 hu) ?_
  exact ⟨.bl _, H, I, rfl, q⟩
section
variable {K : PySem.W.Frag} {H : Hp} {Q : VK} {x y : V} {d : PyData} {ds : List PyData}
/-- x in y, y a tuple of data without bools -/
theorem w_inT (h1 : Dp K H x d) (h2 : Dp K H y (.tuple ds)) (p1 : pln 8 d = true) (p2 : pln 9 (.tuple ds) = true) (q1 : d ∈ ds → Q (.bl true) H) (q2 : d ∉ ds → Q (.bl false) H) : rInT K x y H Q := by
  have hs : ∀ z ∈ ds, pln 8 z = true := List.all_eq_true.mp p2
  have e := any_eqv p1 hs
  refine ⟨d, ds, h1, h2, pln_shaped p1 (by decide), pln_shaped p2 (by decide), ?_⟩
  cases hc : ds.any fun z => PyData.eqv z d with
  | true => exact q1 (e.mp hc)
  | false => exact q2 fun z => by rw [e.mpr z] at hc; cases hc
theorem w_notInT (h1 : Dp K H x d) (h2 : Dp K H y (.tuple ds)) (p1 : pln 8 d = true) (p2 : pln 9 (.tuple ds) = true) (q1 : d ∈ ds → Q (.bl false) H) (q2 : d ∉ ds → Q (.bl true) H) : rNotInT K x y H Q := by
  have hs : ∀ z ∈ ds, pln 8 z = true := List.all_eq_true.mp p2
  have e := any_eqv p1 hs
  refine ⟨d, ds, h1, h2, pln_shaped p1 (by decide), pln_shaped p2 (by decide), ?_⟩
  cases hc : ds.any fun z => PyData.eqv z d with
  | true => exact q1 (e.mp hc)
  | false => exact q2 fun z => by rw [e.mpr z] at hc; cases hc
end
end Tw
namespace Tw
open PySem PySem.Spec PyProof.Rows L2
/-- a value (i, (p, q)) -/
def IsRow (h : Heap) (v : Value) (k : Int × Int × Int) : Prop :=
  ∃ a o t b n, v = .ref a ∧ h.get? a = some o ∧ o.cls = .type "tuple" ∧ o.data = .seq #[.int k.1 t, .ref b] n ∧ Srt.IsPair h (.ref b) k.2.1 k.2.2
theorem IsRow.keeps {h h' : Heap} {v : Value} {k : Int × Int × Int} (r : IsRow h v k) (e : ∀ b o, h.get? b = some o → o.cls = .type "tuple" → h'.get? b = some o) : IsRow h' v k := by
  obtain ⟨a, o, t, b, n, rfl, h1, h2, h3, h4⟩ := r
  exact ⟨a, o, t, b, n, rfl, e _ _ h1 h2, h2, h3, h4.keeps e⟩
theorem row_firsts {h : Heap} : ∀ {vs : List Value}, (∀ v ∈ vs, ∃ k, IsRow h v k) → ∃ fs, W.KatTups h vs fs ∧ fs.length = vs.length ∧ ∀ f ∈ fs, ∃ x t, f = Value.int x t
  | [], _ => ⟨[], .nil, rfl, fun _ z => nomatch z⟩
  | v :: vs, hv => by
    obtain ⟨fs, h1, h2, h3⟩ := row_firsts (vs := vs) fun u hu => hv u (List.mem_cons_of_mem _ hu)
    obtain ⟨k, a, o, t, b, n, rfl, g1, g2, g3, g4⟩ := hv v List.mem_cons_self
    refine ⟨.int k.1 t :: fs, ⟨⟨a, o, _, n, rfl, g1, g2, g3, rfl⟩, h1⟩, by simp [h2], fun f hf => ?_⟩
    rcases List.mem_cons.mp hf with rfl | hf
    · exact ⟨_, _, rfl⟩
    · exact h3 f hf
theorem isInt_me (x : Int) (t : Tok) : Value.isInt x (.int x t) = true := by simp [Value.isInt]
theorem pair_key {P : Program} {w : World} {h : Heap} {b : Addr} {x y : Int} (r : Srt.IsPair h (.ref b) x y) : IsTupleKey (intKind P w) h [x, y] b := by
  obtain ⟨a, o, t, u, n, e, h1, h2, h3⟩ := r
  cases e
  exact ⟨o, _, n, h1, h2, h3, .cons (v := .int x t) (isInt_me x t) (.cons (v := .int y u) (isInt_me y u) .nil)⟩
theorem row_cmp {prog : Program} {w : World} {A : Around} {s : Shared} {vs : List Value} {k : Value → Int × Int × Int} (hu : A.units < cLine) (h : ∀ v ∈ vs, IsRow s.heap v (k v)) (det : ∀ v ∈ vs, ∀ u ∈ vs, (k v).1 = (k u).1 → (k v).2 = (k u).2) :
    SrtO.Cmp prog w A s (PyProof.Rows.tuples' true) (fun p => p.fst ∈ vs) (SrtO.lt2 fun v u => decide ((k v).1 < (k u).1)) := by
  intro p q hp hq
  obtain ⟨a, o, t, b, n, e1, h1, h2, h3, h4⟩ := h _ hp
  obtain ⟨a', o', t', b', n', e1', h1', h2', h3', h4'⟩ := h _ hq
  have hd := det _ hp _ hq
  show wpAny _ _ (PyProof.Rows.keyLt' _ p.fst q.fst) _ _ _
  unfold SrtO.lt2
  dsimp only
  generalize k p.fst = kp at *
  generalize k q.fst = kq at *
  rw [e1, e1']
  refine PySem.W.kat_lt h1 h3 h1' h3' (PySem.W.kat_cons ?_)
  refine (intKind prog w).eqBool (a := kp.1) (b := kq.1) (isInt_me kp.1 t) (isInt_me kq.1 t') ?_
  unfold PySem.W.KatGo
  by_cases hk : kp.1 = kq.1
  · rw [if_pos (decide_eq_true hk)]
    refine PySem.W.kat_cons ?_
    have h5 := hd hk
    refine wpAny_eqBool_tuple (knd := intKind prog w) hu (pair_key h4) (pair_key h4') ?_
    unfold PySem.W.KatGo
    rw [h5, if_pos (decide_eq_true rfl)]
    exact ⟨rfl, by rw [hk]; simp⟩
  · rw [if_neg (by simpa using hk)]
    exact TS.oneLt_ints _ ⟨rfl, rfl⟩
theorem ltk_swo {α : Type} (k : α → Int) : SrtO.Swo fun v u => decide (k v < k u) := by
  refine ⟨fun x y h => ?_, fun x y z h1 h2 => ?_⟩
  · rw [decide_eq_true_eq] at h
    rw [decide_eq_false_iff_not]
    omega
  · rw [decide_eq_false_iff_not] at *
    omega
theorem rows_sortable {prog : Program} {w : World} {A : Around} {s : Shared} {a : Addr} {vs : List Value} {k : Value → Int × Int × Int} (hu : A.units < cLine) (h0 : 0 < vs.length) (h : ∀ v ∈ vs, IsRow s.heap v (k v)) (det : ∀ v ∈ vs, ∀ u ∈ vs, (k v).1 = (k u).1 → (k v).2 = (k u).2)
    (ha : ∀ o, s.heap.get? a = some o → o.cls ≠ .type "tuple") : SrtO.SortableO prog w A s a vs fun v u => decide ((k v).1 < (k u).1) := by
  intro h' keep
  have hr : ∀ v ∈ vs, IsRow h' v (k v) := fun v hv => (h v hv).keeps fun b o e1 e2 => keep b o (fun z => by subst z; exact ha o e1 e2) e1
  obtain ⟨fs, f1, f2, f3⟩ := row_firsts (h := h') (vs := vs) fun v hv => ⟨_, hr v hv⟩
  refine ⟨PyProof.Rows.tuples' true, fun Q E q => ?_, row_cmp hu hr det⟩
  refine PySem.W.kat_kind (T := .type "int") f1 (by omega) (fun v hv => ?_) (by decide +kernel) ?_
  · obtain ⟨x, t, rfl⟩ := f3 v hv
    exact PySem.W.Looks.now
  · rw [show (Value.type "int" != Value.type "tuple") = true by decide +kernel]
    exact q
theorem sorted_rows {prog : Program} {w : World} {A : Around} {E : Value → Shared → Prop} {s : Shared} {l : Addr} {vs : List Value} {k : Value → Int × Int × Int} {Q : Value → Shared → Prop} (hu : A.in1.in1.units < cLine) (hl : s.heap.IsList l vs.toArray) (hz : vs.length ≤ sizeLine)
    (h : ∀ v ∈ vs, IsRow s.heap v (k v)) (det : ∀ v ∈ vs, ∀ u ∈ vs, (k v).1 = (k u).1 → (k v).2 = (k u).2)
    (q : ∀ (h' : Heap) (d : Addr) (out : List Value), out.Perm vs → out.Pairwise (fun v u => (k v).1 ≤ (k u).1) → (∀ b o, s.heap.get? b = some o → h'.get? b = some o) → s.heap.objs.size ≤ d → (∃ n, h'.get? d = some (PyProof.Rows.seqObj "list" out.toArray n)) →
      Q (.ref d) { heap := h', gens := s.gens, drawn := s.drawn, toks := s.toks, os := s.os }) :
    wpAny (model prog w) A (call (.builtin "sorted") [.ref l]) Q E s := by
  refine SrtO.sorted_ord (ltk_swo fun v => (k v).1) hl hz (fun h2 h1 a g1 g2 => ?_) fun out o1 o2 => ?_
  · refine rows_sortable hu (by omega) (fun v hv => (h v hv).keeps fun b o e1 _ => (g2 b o e1).2) det fun o e => ?_
    rw [g1] at e
    cases e
    intro z
    exact absurd (Value.type.inj z) (by decide)
  · refine q _ _ out o2.perm ?_ (fun b o e => PyProof.Rows.sortedAll_old e) (Nat.le_succ _) (PyProof.Rows.sortedAll_at _ _ _)
    refine List.Pairwise.imp (fun {x y} z => ?_) o1
    rw [decide_eq_false_iff_not] at z
    omega
end Tw
namespace Tw
open PySem PySem.Spec PyProof.Rows L2
def rowP (e : Int × Int × Int) : PyData := .tuple [.int e.1, .tuple [.int e.2.1, .int e.2.2]]
theorem pairP {X : Cx} {pins : List (Addr × Obj)} {σ : L2.St} {H : Hp} {s : Shared} {v : V} {p q : Int} (I : L2.Inv X pins σ H s) (d : Dp X.K H v (.tuple [.int p, .int q])) : ∃ b, v = .ref b ∧ Srt.IsPair s.heap (.ref b) p q := by
  obtain ⟨b, xs, rfl, hs, ha⟩ := dp_tup d
  obtain ⟨its, hv, ⟨o, h1, h2, n, h3⟩, _⟩ := I.tuple hs
  cases ha with
  | cons a1 a2 =>
    cases a2 with
    | cons a2 a3 =>
      cases a3
      cases a1; cases a2
      cases hv with
      | cons v1 v2 =>
        cases v2 with
        | cons v2 v3 =>
          cases v3
          obtain ⟨t, rfl⟩ := v1
          obtain ⟨u, rfl⟩ := v2
          exact ⟨b, rfl, b, o, t, u, n, rfl, h1, h2, h3⟩
theorem rowI {X : Cx} {pins : List (Addr × Obj)} {σ : L2.St} {H : Hp} {s : Shared} {v : V} {u : Value} {e : Int × Int × Int} (I : L2.Inv X pins σ H s) (r : RelV v u) (d : Dp X.K H v (rowP e)) : IsRow s.heap u e ∧ ∃ a, v = .ref a := by
  obtain ⟨a, xs, rfl, hs, ha⟩ := dp_tup d
  obtain ⟨its, hv, ⟨o, h1, h2, n, h3⟩, _⟩ := I.tuple hs
  cases r
  cases ha with
  | cons a1 a2 =>
    cases a2 with
    | cons a2 a3 =>
      cases a3
      cases a1
      obtain ⟨b, rfl, hp⟩ := pairP I a2
      cases hv with
      | cons v1 v2 =>
        cases v2 with
        | cons v2 v3 =>
          cases v3
          obtain ⟨t, rfl⟩ := v1
          cases v2
          exact ⟨⟨a, o, t, b, n, rfl, h1, h2, h3, hp⟩, a, rfl⟩
theorem row_one {h : Heap} {v : Value} {e f : Int × Int × Int} (a : IsRow h v e) (b : IsRow h v f) : e = f := by
  obtain ⟨a1, o1, t1, b1, n1, rfl, g1, _, g2, x1, y1, _, _, _, q1, q2, _, q3⟩ := a
  obtain ⟨a2, o2, t2, b2, n2, h0, k1, _, k2, x2, y2, _, _, _, r1, r2, _, r3⟩ := b
  cases h0
  rw [g1] at k1
  cases k1
  rw [g2] at k2
  simp only [Data.seq.injEq, Array.mk.injEq, List.cons.injEq, Value.int.injEq, Value.ref.injEq, and_true] at k2
  obtain ⟨⟨⟨i1, _⟩, i2⟩, _⟩ := k2
  subst i2
  cases q1; cases r1
  rw [q2] at r2
  cases r2
  rw [q3] at r3
  simp only [Data.seq.injEq, Array.mk.injEq, List.cons.injEq, Value.int.injEq, and_true] at r3
  obtain ⟨⟨⟨j1, _⟩, ⟨j2, _⟩⟩, _⟩ := r3
  exact Prod.ext i1 (Prod.ext j1 j2)
open Classical in
noncomputable def rowK (h : Heap) (v : Value) : Int × Int × Int := if z : ∃ e, IsRow h v e then z.choose else (0, 0, 0)
theorem rowK_eq {h : Heap} {v : Value} {e : Int × Int × Int} (r : IsRow h v e) : rowK h v = e := by
  unfold rowK
  rw [dif_pos ⟨e, r⟩]
  exact row_one (Exists.choose_spec (⟨e, r⟩ : ∃ e, IsRow h v e)) r
theorem rowsI {X : Cx} {pins : List (Addr × Obj)} {σ : L2.St} {H : Hp} {s : Shared} (I : L2.Inv X pins σ H s) : ∀ {xs : List V} {its : List Value} {es : List (Int × Int × Int)}, Vals xs its → DpAll X.K H xs (es.map rowP) →
    es = its.map (rowK s.heap) ∧ ∀ u ∈ its, IsRow s.heap u (rowK s.heap u) ∧ RelV (backV u) u ∧ Dp X.K H (backV u) (rowP (rowK s.heap u))
  | [], _, es, hv, hd => by
    cases hv
    cases es with
    | nil => exact ⟨rfl, fun _ z => nomatch z⟩
    | cons e es => cases hd
  | x :: xs, _, es, hv, hd => by
    cases hv with
    | cons r hv =>
      cases es with
      | nil => cases hd
      | cons e es =>
        cases hd with
        | cons d hd =>
          obtain ⟨i1, i2⟩ := rowsI I hv hd
          obtain ⟨j1, a, rfl⟩ := rowI I r d
          have j2 := rowK_eq j1
          refine ⟨by rw [List.map_cons, j2, ← i1], fun u hu => ?_⟩
          rcases List.mem_cons.mp hu with rfl | hu
          · cases r
            rw [j2]
            exact ⟨j1, rfl, d⟩
          · exact i2 u hu
def rSortR (K : PySem.W.Frag) : List V → Hp → VK → Prop := fun vs H Q => ∃ (a : Addr) (es : List (Int × Int × Int)), vs = [.ref a] ∧ Dp K H (.ref a) (.list (es.map rowP)) ∧ (∀ e ∈ es, ∀ f ∈ es, e.1 = f.1 → e.2 = f.2) ∧
  ∀ (es' : List (Int × Int × Int)) (p : Addr) H', es'.Perm es → es'.Pairwise (fun e f => e.1 ≤ f.1) → H p = none → Same H H' → Dp K H' (.ref p) (.list (es'.map rowP)) → Q (.ref p) H'
theorem cr_sortR {X : Cx} {K : PySem.W.Frag} (hu : X.A.units + 64 < cLine) (hK : X.K = K := by rfl) : CallR X (.builtin "sorted") (rSortR K) := by
  subst hK
  intro pins s σ H xs us Q I hv h
  obtain ⟨a, es, rfl, hd, det, q⟩ := h
  obtain ⟨u, rfl, ru⟩ := vals1 hv
  cases ru
  obtain ⟨a', ys, e0, hs, ha⟩ := dp_lst hd
  cases e0
  obtain ⟨its, hy, hp, hz⟩ := I.list hs
  have hl := hy.length
  obtain ⟨r1, r2⟩ := rowsI I hy ha
  refine sorted_rows (k := rowK s.heap) (by show X.A.units + 1 + 1 < cLine; omega) (PlainL.isList hp) (by omega) (fun v hv => (r2 v hv).1) (fun v hv u hu e => ?_) fun h' d out o1 o2 o3 o4 o5 => ?_
  · exact det _ (by rw [r1]; exact List.mem_map_of_mem hv) _ (by rw [r1]; exact List.mem_map_of_mem hu) e
  · have hn : H d = none := I.hok.fresh o4
    have hvs : ∀ l : List Value, (∀ u ∈ l, u ∈ its) → Vals (l.map backV) l ∧ DpAll X.K H (l.map backV) ((l.map (rowK s.heap)).map rowP) := by
      intro l
      induction l with
      | nil => exact fun _ => ⟨.nil, .nil⟩
      | cons u l ih =>
        intro hl
        obtain ⟨i1, i2⟩ := ih fun v hv => hl v (List.mem_cons_of_mem _ hv)
        obtain ⟨_, j1, j2⟩ := r2 u (hl u List.mem_cons_self)
        exact ⟨.cons j1 i1, .cons j2 i2⟩
    obtain ⟨v1, v2⟩ := hvs out fun u hu => (o1.mem_iff).mp hu
    have lo : out.length = its.length := o1.length_eq
    obtain ⟨n, o5⟩ := o5
    have same : Same H (upd H d (.lst (out.map backV))) := same_new hn
    refine ⟨.ref d, upd H d (.lst (out.map backV)), I.laid o3 o4 ⟨by rw [List.length_map]; omega, out, n, v1, o5⟩, rfl, q (out.map (rowK s.heap)) d _ (by rw [r1]; exact o1.map _) (List.pairwise_map.mpr o2) hn same ?_⟩
    exact .lst (SqL.of upd_same) (dpa_same same v2)
end Tw
namespace Tw
open PySem PySem.Spec PyProof.Rows L2
/-! ### repr -/
/-- what repr can show: no dict, numbers of at most so many digits, not too deep, not too much -/
def Shw (d : PyData) : Prop := d.showable = true ∧ d.hasDict = false ∧ d.shown.length ≤ sizeLine ∧ d.depth ≤ 40
def rRepr (K : PySem.W.Frag) : List V → Hp → VK → Prop := fun vs H Q => ∃ (a : Addr) (d : PyData), vs = [.ref a] ∧ Dp K H (.ref a) d ∧ Shw d ∧ Q (.str d.shown) H
theorem cr_repr {X : Cx} {K : PySem.W.Frag} (hg : X.A.guards = some []) (hu : X.A.units + 64 < cLine) (hK : X.K = K := by rfl) : CallR X (.builtin "repr") (rRepr K) := by
  subst hK
  intro pins s σ H xs us Q I hv h
  obtain ⟨a, d, rfl, hd, ⟨h1, h2, h3, h4⟩, q⟩ := h
  obtain ⟨u, rfl, ru⟩ := vals1 hv
  cases ru
  obtain ⟨as, R⟩ := Dp.reads I d _ _ hd rfl
  refine repr_of_reads' R h1 (PyData.noDict_hsm h2) hg (by omega) (fun _ _ e => e) (fun h' u tk hk => ?_) h3
  exact ⟨.str d.shown, H, I.kept hk, ⟨u, rfl⟩, q⟩
/-! ### defs that are run only where no repr is under way -/
structure FnG (P : Program) (w : World) (K : PySem.W.Frag) (mg : Str → Option Value) (base : Heap) (CX : CXT) (k : Nat) (f : Addr) (fd : FuncData) (ps : List Str) (sp : Sp) : Prop where
  many : ∀ us H Q E, sp us H Q E → us.length = ps.length
  goes : ∀ (A : Around) (up : List Env) (t : Shared) (H : Hp) (as : Args) (us : List Value) (vs : List V) (Q : VK) (E : XK),
    A.guards = some [] → Room k A → Env0 P w K mg base A up t H → BindsTo t fd as (ps.zip us) → Vals vs us → sp vs H Q E → codeAny (model P w) A (.call (.ref f) as) (CR CX up P w H t Q E) t
section
variable {P : Program} {w : World} {K : PySem.W.Frag} {mg : Str → Option Value} {base : Heap}
/-- such a def by its body -/
theorem FnG.of {x qual : Str} {st : Stmt} {f : Addr} {fd : FuncData} {N ps : List Str} {k : Nat} {sp : Sp} (F : L2.Fun K x qual st f fd) (S : FnScope N ps (defScope st)) (many : ∀ us H Q E, sp us H Q E → us.length = ps.length)
    (body : ∀ (cdv : Value) (A : Around) (up : List Env) (t : Shared) (H : Hp) (vs : List V) (Q : VK) (E : XK), A.guards = some [] → Room k (A.deeper (envOfC qual (defScope st) t.heap.objs.size f cdv)) → sp vs H Q E →
      ∃ r, PSs (cxOf CX0 P w K mg base N qual (defScope st) f cdv A up t H E).nox (defBody st) r ∧ r { nx := fun _ H' => Q .non H', rt := Q } (start N vs) H) : FnG P w K mg base CX0 (k + 1) f fd ps sp := by
  obtain ⟨cl, od, kv, dc, pm, an, cdv, ct, sl, hfd, hlk, hcode⟩ := F.ex
  subst hfd
  refine ⟨many, ?_⟩
  intro A up t H as us vs Q E hg room env binds rv hsp
  have old : ∀ b o, base.get? b = some o → t.heap.get? b = some o := fun b o e => (env.bs b o e).1
  have inK : K.In t.heap := env.mod.kin.keeps old
  have noLim : t.heap.NoLimit := env.mod.nolimit.keeps old
  have names : ∀ y ∈ ps.zip us, (defScope st).names.lookup y.1 = some .local ∨ ((defScope st).names.lookup y.1 = some .cell ∧ ((cellsFrom (t.heap.objs.size + 1) (defScope st).names []).lookup y.1).isSome = true) := by
    rintro ⟨nm, v⟩ hy
    have hp := S.par nm (List.of_mem_zip hy).1
    exact hp.imp id fun q => ⟨q, PySem.W.cellsFrom_some _ _ _ (.inl q)⟩
  have step := fun h => codeAny_call_function (prog := P) (w := w) (R := CR CX0 up P w H t Q E) room.depth (inK f _ hlk) rfl S.co S.gen rfl (PySem.W.codeRec_of inK hcode) (binds _ _ _ _ h)
  refine step (wpAny_newFunctionEnv_cells S.kind names fun env' heq t1 inC => ?_)
  cases heq
  obtain ⟨r, hr, hq⟩ := body cdv A up t H vs Q E hg (room.deeper _) hsp
  have J0 := inv_start (CX := CX0) (P := P) (w := w) (mg := mg) (E := E) S room.hd env (many _ _ _ _ hsp) rv inC
  refine ⟨noLim.keeps inC.toInCall.keep, codeAny_func (wpAny_mono (hr.nox.run [] t1 (start N vs) H _ J0 hq) ?_ fun _ _ z => z)⟩
  rintro fl t' hs
  match fl, hs with
  | .ret u, ⟨v, _, H', J, rv', q⟩ => exact ⟨v, H', J.os, J.bare, J.base, J.hok, rv', q⟩
  | .next, ⟨_, H', J, q⟩ => exact ⟨V.non, H', J.os, J.bare, J.base, J.hok, rfl, q⟩
  | .brk, ⟨_, _, _, q⟩ => exact q.elim
  | .cont, ⟨_, _, _, q⟩ => exact q.elim
end
section
variable {X : Cx} {CX : CXT} {k : Nat} {f : Addr} {fd : FuncData} {ps : List Str} {sp : Sp} {dvs : List V} {ds : List Value} {E : XK} {x : Str} {p pos : Pos} {e : Expr} {es : List Expr} {t : TA}
/-- a call of such a def -/
theorem pe_callG (F : FnG X.prog X.w X.K X.mg X.base CX k f fd ps sp) (hgd : X.A.guards = some []) (hr : Room k X.A) (hg : Gl X x) (hm : X.mg x = some (.ref f)) (hk : PySem.W.keepIn X.K (.ref f) = true) (hb : Binds X.K fd ps ds) (hd : Vals dvs ds) (hx : Passes CX X E)
    (args : PA X (e :: es) t) (nodbg : (x == ("__debug__" : Str)) = false := by decide) (st1 : starEach (e :: es) X.env = (false, eval e X.env) :: starEach es X.env := by rfl)
    (st2 : (backTo pos (starEach es X.env)).any (·.1) = false := by rfl) : PE X (.Call (.Name x p) (e :: es) [] pos) (tCall sp dvs E t) := by
  refine ⟨fun pins s σ H Q I h => wpAny_Call_Name_kw (ld_glob I hg hm (PySem.W.callWith_K I.ok.mod.kin hk (thn (args.run pos pins s σ H _ I h) ?_) st1 st2) nodbg)⟩
  rintro us s1 ⟨vs, H1, I1, rv, q⟩
  have rall : Vals (vs ++ dvs) (us ++ ds) := rv.append hd
  have many : (us ++ ds).length = ps.length := rall.length.symm.trans (F.many _ _ _ _ q)
  refine ⟨I1.kIn, wpAny_call (codeAny_mono (F.goes X.A X.stack s1 H1 ⟨us, []⟩ _ _ Q E hgd hr I1.env0 (hb s1 us I1.kIn many) rall q) ?_)⟩
  rintro (er | fl) s2 hq
  · exact hx pins σ H1 s1 er s2 I1 hq
  · match fl, hq with
    | .ret u, hq => exact I1.after hq
    | .next, hq => exact hq.elim
    | .brk, hq => exact hq.elim
    | .cont, hq => exact hq.elim
end
/-! ### a law that is such a def -/
section
variable {P : Program} {w : World} {K : PySem.W.Frag} {mg mb : Str → Option Value} {CX : CXT} {k : Nat} {fa a : Addr} {fd : FuncData} {x : Str} {sp : Sp} {t : Shared} {us : List Value} {zs : List Int}
/-- the script's list as it lies -/
abbrev scO (us : List Value) : Obj := { cls := .type "list", data := .seq us.toArray }
/-- the end of the caller's call -/
abbrev LawEnd (t : Shared) (r : Result) (t' : Shared) : Prop := r = .ok (.ret (.bool true)) ∧ OldK t.heap t'.heap ∧ t'.os = t.os ∧ AllBare t'.gens
theorem law_at {H : Hp} (hk : K.In t.heap) (hn : t.heap.Ns mainGlobals mg) (hm : t.heap.Ns builtinsNs mb) (hmm : ∀ y : Str, y ≠ "__name__" → mb y = bootBuiltins y) (hL : t.heap.NoLimit) (h0 : t.gens = #[])
    (at_ : t.heap.get? a = some (scO us)) (hr : Room k callerA) (F : ∀ base : Heap, K.In base → base.Ns mainGlobals mg → FnG P w K mg base CX k fa fd [x] sp) (bnd : ∀ (t : Shared) (u : Value), BindsTo t fd ⟨[u], []⟩ [(x, u)])
    (cx : ∀ H e t', CX [] H t (fun _ _ _ => False) e t' → False) (only : Only H) (ok : HOk P w H t.heap) (onlyA : ∀ b, b ≠ a → H b = none) (nK : H a ≠ none → K.lookup a = none)
    (q : sp [.ref a] H (fun v _ => v = .bl true) fun _ _ _ => False) : codeAny (model P w) callerA (.call (.ref fa) ⟨[.ref a], []⟩) (LawEnd t) t := by
  have clear : ∀ {b : Addr} {o : Obj}, t.heap.get? b = some o → (∀ es ep, o.data = .dict es ep → H b = none) := by
    intro b o e es ep ed
    by_cases hb : b = a
    · rw [hb, at_] at e
      rw [← Option.some.inj e] at ed
      cases ed
    · exact onlyA b hb
  have seen : ∀ {b : Addr} {m : Str → Option Value}, t.heap.Ns b m → (hidT t.heap H).Ns b m := by
    rintro b m ⟨o, es, ep, e, ed, rest⟩
    exact ⟨o, es, ep, hidT_get e (clear e es ep ed), ed, rest⟩
  have hk' : K.In (hidT t.heap H) := by
    intro b o e
    refine hidT_get (hk b o e) ?_
    by_cases hb : b = a
    · subst hb
      cases hz : H b with
      | none => rfl
      | some z => exact absurd (nK (by rw [hz]; exact Option.some_ne_none z)) (by rw [e]; exact Option.some_ne_none o)
    · exact onlyA b hb
  obtain ⟨mc, c1, c2⟩ := hL
  have env : Env0 P w K mg (hidT t.heap H) callerA [] t H :=
    { frames := rfl, mod := ⟨hk', seen hn, ⟨mb, seen hm, hmm⟩, ⟨mc, seen c1, c2⟩⟩, bs := fun _ _ => of_hidT, bsz := Nat.le_of_eq (hidT_size t.heap H), funs := trivial, frf := (fun b hb => by cases (show b ∈ ([] : List Addr) from hb)), hok := ok, bare := AllBare.of_eq h0 }
  have run := (F _ hk' (seen hn)).goes callerA [] t H ⟨[.ref a], []⟩ [.ref a] [.ref a] _ _ rfl hr env (bnd t _) (.cons rfl .nil) q
  refine codeAny_mono run ?_
  rintro (er | fl) t' z
  · exact (cx H er t' z).elim
  · match fl, z with
    | .ret u, ⟨v, H2, o1, o2, un, ok2, rv, qv⟩ =>
      subst qv
      have eu : u = Value.bool true := rv
      refine ⟨by rw [eu], OldK.of_keep ?_, o1, o2⟩
      intro b o e
      cases hz : H b with
      | none => exact un.keep b o e hz (fun y => by cases (show b ∈ ([] : List Addr) from y)) (fun y => by cases y)
      | some z =>
        obtain hn | ⟨ob, l, hf⟩ := only b
        · rw [hz] at hn
          cases hn
        · have f2 := un.frzs b ob _ hf
          have g1 := (ok b _ hf).1
          have g2 := (ok2 b _ f2).1
          rw [g2, ← e, g1]
    | .next, z => exact z.elim
    | .brk, z => exact z.elim
    | .cont, z => exact z.elim
theorem law_goes (hk : K.In t.heap) (hn : t.heap.Ns mainGlobals mg) (hm : t.heap.Ns builtinsNs mb) (hmm : ∀ y : Str, y ≠ "__name__" → mb y = bootBuiltins y) (hL : t.heap.NoLimit) (h0 : t.gens = #[])
    (at_ : t.heap.get? a = some (scO us)) (zi : IntsAre us zs) (zl : zs.length ≤ sizeLine) (hr : Room k callerA) (F : ∀ base : Heap, K.In base → base.Ns mainGlobals mg → FnG P w K mg base CX k fa fd [x] sp) (bnd : ∀ (t : Shared) (u : Value), BindsTo t fd ⟨[u], []⟩ [(x, u)])
    (cx : ∀ H e t', CX [] H t (fun _ _ _ => False) e t' → False) (q : ∀ H : Hp, Only H → SqL K H a (zs.map V.int) → sp [.ref a] H (fun v _ => v = .bl true) fun _ _ _ => False) :
    codeAny (model P w) callerA (.call (.ref fa) ⟨[.ref a], []⟩) (LawEnd t) t := by
  have rel := vals_ints zi
  have many := zi.length
  by_cases z : ∃ o, K.lookup a = some o
  · obtain ⟨o, ho⟩ := z
    have eo : scO us = o := Option.some.inj (at_.symm.trans (hk a o ho))
    subst eo
    have emp : Only (fun _ => none) := fun _ => .inl rfl
    refine law_at (H := fun _ => none) hk hn hm hmm hL h0 at_ hr F bnd cx emp (fun b u e => by cases (show (none : Option HO) = some u from e)) (fun _ _ => rfl) (fun e => absurd rfl e) (q _ emp (Or.inr ⟨scO us, us.toArray, _, ho, rfl, rfl, rfl, ?_, ?_⟩))
    · show us.toArray.size ≤ sizeLine
      rw [List.size_toArray]
      omega
    · simpa using rel
  · have nK : K.lookup a = none := by
      cases y : K.lookup a with
      | none => rfl
      | some o => exact absurd ⟨o, y⟩ z
    have hA : (upd (fun _ => none) a (.frz (scO us) (.lst (zs.map V.int))) : Hp) a = some (.frz (scO us) (.lst (zs.map V.int))) := upd_same
    have hB : ∀ b, b ≠ a → (upd (fun _ => none) a (.frz (scO us) (.lst (zs.map V.int))) : Hp) b = none := fun b hb => upd_ne hb
    have one : Only (upd (fun _ => none) a (.frz (scO us) (.lst (zs.map V.int)))) := by
      intro b
      by_cases hb : b = a
      · exact .inr ⟨_, _, by rw [hb]; exact hA⟩
      · exact .inl (hB b hb)
    refine law_at hk hn hm hmm hL h0 at_ hr F bnd cx one ?_ hB (fun _ => nK) (q _ one (.inl (.inr ⟨scO us, hA⟩)))
    intro b u e
    by_cases hb : b = a
    · subst hb
      rw [hA] at e
      rw [← Option.some.inj e]
      refine ⟨at_, ?_, us, _, rel, at_⟩
      rw [List.length_map]
      exact zl
    · rw [hB b hb] at e
      cases e
end
/-- the end of a law whose def is run only where no repr is under way -/
theorem walk_ofG {l : PySem.W.OpenLaw} {n k : Nat} {p : Program} {loose : List Str} {XP : (Str → Option Value) → Heap → Prop} {YP : World → Heap → Prop} {d : DefRec} {K : Params → PySem.W.Frag} {CX : World → CXT} {sp : World → Sp} {x : Str}
    (h1 : l.most = some n) (h2 : n ≤ sizeLine) (h3 : d.params.defaults = []) (hr : Room k callerA) (hY : ∀ (w : World) (h : Heap), YP w h → (K w.params).In h)
    (F : ∀ (w : World) (gl : Str → Option Value) (fa : Addr) (t : Heap), (K w.params).In t → t.Ns mainGlobals gl → gl d.name = some (.ref fa) →
      ∃ fd : FuncData, (∀ (t : Shared) (u : Value), BindsTo t fd ⟨[u], []⟩ [(x, u)]) ∧ ∀ base : Heap, (K w.params).In base → base.Ns mainGlobals gl → FnG l.prog w (K w.params) gl base (CX w) k fa fd [x] (sp w))
    (q : ∀ (w : World) (H : Hp) (a : Addr) (zs : List Int), zs.length ≤ n → (∀ z ∈ zs, Builtin.Int.intBits z ≤ 1048576) → Only H → SqL (K w.params) H a (zs.map V.int) → sp w [.ref a] H (fun v _ => v = .bl true) fun _ _ _ => False)
    (cx : ∀ (w : World) (H : Hp) (t : Shared) (e : Value) (t' : Shared), CX w [] H t (fun _ _ _ => False) e t' → False) : PySem.W.WalkO p loose XP YP l.row.toRowW d [] (fun f vs => PySem.call f vs) := by
  refine Att.attach_callB h1 h3 ?_
  intro w _ t mg mb fa o _ _ _ a us zs G Y _ _ _ name lies nums len bits bare
  obtain ⟨fd, bnd, hF⟩ := F w mg fa _ (hY w _ Y) G.T.g name
  exact law_goes (hY w _ Y) G.T.g G.T.b G.T.builtins G.T.nolimit bare lies nums (Nat.le_trans len h2) hr hF bnd (fun H e t' => cx w H t e t') fun H hO hS => q w H a zs len bits hO hS
end Tw
namespace Tw
open PySem PySem.Spec PyProof.Rows L2
/-! ### Euclid's steps for numbers below 2 ^ B -/
structure EuB (B a b i a' b' : Nat) : Prop where
  g : Nat.gcd a' b' = Nat.gcd a b
  s : i = 0 → b' = b
  l : 1 ≤ i → b' < a' ∧ a' * b' * 2 ^ (i - 1) < 2 ^ (B + B) ∨ b' = 0
theorem EuB.start (B a b : Nat) : EuB B a b 0 a b := ⟨rfl, fun _ => rfl, fun h => by omega⟩
theorem EuB.step {B a b i a' b' : Nat} (hb : b < 2 ^ B) (h : EuB B a b i a' b') (h0 : b' ≠ 0) : EuB B a b (i + 1) b' (a' % b') := by
  have hlt : a' % b' < b' := Nat.mod_lt _ (by omega)
  refine ⟨?_, fun z => by omega, fun _ => ?_⟩
  · rw [← h.g, Nat.gcd_comm b', ← Nat.gcd_rec, Nat.gcd_comm]
  · left
    refine ⟨hlt, ?_⟩
    rw [Nat.add_sub_cancel]
    by_cases hi : i = 0
    · subst hi
      have e := h.s rfl
      subst e
      rw [Nat.pow_zero, Nat.mul_one]
      calc b' * (a' % b') ≤ b' * b' := Nat.mul_le_mul_left _ (Nat.le_of_lt hlt)
        _ < 2 ^ B * 2 ^ B := Nat.mul_lt_mul'' hb hb
        _ = 2 ^ (B + B) := by rw [← Nat.pow_add]
    · rcases h.l (by omega) with ⟨h1, h2⟩ | h1
      · have h3 : 2 * (a' % b') ≤ a' := by
          have := Nat.div_add_mod a' b'
          have : 1 ≤ a' / b' := Nat.div_pos (by omega) (by omega)
          have : b' * 1 ≤ b' * (a' / b') := Nat.mul_le_mul_left _ this
          omega
        have e : 2 ^ i = 2 * 2 ^ (i - 1) := by rw [← Nat.pow_succ']; congr 1; omega
        calc b' * (a' % b') * 2 ^ i = b' * (2 * (a' % b')) * 2 ^ (i - 1) := by rw [e]; grind
          _ ≤ b' * a' * 2 ^ (i - 1) := Nat.mul_le_mul_right _ (Nat.mul_le_mul_left _ h3)
          _ = a' * b' * 2 ^ (i - 1) := by rw [Nat.mul_comm b']
          _ < 2 ^ (B + B) := h2
      · exact absurd h1 h0
theorem EuB.done {B a b i a' b' : Nat} (h : EuB B a b i a' b') (hi : B + B + 2 ≤ i) : b' = 0 := by
  rcases h.l (by omega) with ⟨h1, h2⟩ | h1
  · by_cases hb : b' = 0
    · exact hb
    · exfalso
      have h3 : 1 ≤ a' * b' := Nat.mul_pos (by omega) (by omega)
      have h4 : 2 ^ (B + B) ≤ 2 ^ (i - 1) := Nat.pow_le_pow_right (by decide) (by omega)
      have h5 : 1 * 2 ^ (i - 1) ≤ a' * b' * 2 ^ (i - 1) := Nat.mul_le_mul_right _ h3
      omega
  · exact h1
theorem EuB.zero {B a b i a' : Nat} (h : EuB B a b i a' 0) : a' = Nat.gcd a b := by
  have := h.g
  rwa [Nat.gcd_zero_right] at this
/-! ### the sums -/
def phW (q : Nat) : Nat := ((List.range' 1 (q - 1)).filter fun p => decide (Nat.gcd p q = 1)).length
def twS (s : Nat × Nat) (q : Nat) : Nat × Nat := red (s.1 * (2 ^ q - 1) + phW q * s.2) (s.2 * (2 ^ q - 1))
def twN : Nat → Nat × Nat
  | 0 => (0, 1)
  | n + 1 => if n = 0 then (0, 1) else twS (twN n) (n + 1)
def leW (a b : Nat × Nat) : Bool := decide (a.1 * b.2 < b.1 * a.2)
def okW (s : Nat × Nat) : Bool := decide (0 < s.2) && decide (s.1 < s.2) && decide (s.2 < 2 ^ 1850) && decide (Nat.gcd s.1 s.2 = 1)
theorem tw_check : ((List.range 60).all fun n => okW (twN (n + 1)) && leW (twN (n + 1)) (twN (n + 2))) = true := by decide +kernel
theorem ph_check : ((List.range 61).all fun q => decide (phW q < 61)) = true := by decide +kernel
theorem ph_check60 : ((List.range 60).all fun n => decide (phW (n + 2) < 61)) = true := by decide +kernel
theorem tw_two : twN 1 = (0, 1) ∧ twN 3 = (13, 21) := by decide +kernel
theorem tw_check2 : ((List.range 60).all fun n => decide ((twN (n + 1)).1 * (2 ^ (n + 2) - 1) + phW (n + 2) * (twN (n + 1)).2 < 2 ^ 1990) && decide ((twN (n + 1)).2 * (2 ^ (n + 2) - 1) < 2 ^ 1990)) = true := by decide +kernel
theorem all60 {p : Nat → Bool} (h : (List.range 60).all p = true) {n : Nat} (h1 : 1 ≤ n) (h2 : n ≤ 60) : p (n - 1) = true := List.all_eq_true.mp h (n - 1) (List.mem_range.mpr (by omega))
theorem tw_ok {n : Nat} (h1 : 1 ≤ n) (h2 : n ≤ 60) : 0 < (twN n).2 ∧ (twN n).1 < (twN n).2 ∧ (twN n).2 < 2 ^ 1850 ∧ Nat.gcd (twN n).1 (twN n).2 = 1 := by
  have := all60 tw_check h1 h2
  rw [Nat.sub_add_cancel h1] at this
  unfold okW at this
  simp only [Bool.and_eq_true, decide_eq_true_eq] at this
  exact ⟨this.1.1.1.1, this.1.1.1.2, this.1.1.2, this.1.2⟩
theorem tw_next {n : Nat} (h1 : 1 ≤ n) (h2 : n ≤ 60) : (twN n).1 * (twN (n + 1)).2 < (twN (n + 1)).1 * (twN n).2 := by
  have := all60 tw_check h1 h2
  rw [Nat.sub_add_cancel h1, show n - 1 + 2 = n + 1 by omega] at this
  unfold leW at this
  simp only [Bool.and_eq_true, decide_eq_true_eq] at this
  exact this.2
theorem tw_pre {n : Nat} (h1 : 1 ≤ n) (h2 : n ≤ 60) : (twN n).1 * (2 ^ (n + 1) - 1) + phW (n + 1) * (twN n).2 < 2 ^ 1990 ∧ (twN n).2 * (2 ^ (n + 1) - 1) < 2 ^ 1990 := by
  have := all60 tw_check2 h1 h2
  rw [Nat.sub_add_cancel h1, show n - 1 + 2 = n + 1 by omega] at this
  simp only [Bool.and_eq_true, decide_eq_true_eq] at this
  exact this
theorem tw_succ {n : Nat} (h1 : 1 ≤ n) : twN (n + 1) = red ((twN n).1 * (2 ^ (n + 1) - 1) + phW (n + 1) * (twN n).2) ((twN n).2 * (2 ^ (n + 1) - 1)) := by
  rw [twN, if_neg (by omega)]
  rfl
theorem le_tr {a b c d e f : Nat} (hb : 0 < d) (h1 : a * d < c * b) (h2 : c * f < e * d) (hf : 0 < f) (hb2 : 0 < b) : a * f < e * b := by
  have g1 : a * d * f < c * b * f := Nat.mul_lt_mul_of_pos_right h1 hf
  have g2 : c * f * b < e * d * b := Nat.mul_lt_mul_of_pos_right h2 hb2
  have g3 : a * f * d < e * b * d := by
    have e1 : a * f * d = a * d * f := Nat.mul_right_comm a f d
    have e2 : c * b * f = c * f * b := Nat.mul_right_comm c b f
    have e3 : e * b * d = e * d * b := Nat.mul_right_comm e b d
    omega
  exact Nat.lt_of_mul_lt_mul_right g3
theorem tw_less {n : Nat} (h1 : 1 ≤ n) : ∀ k, n + k + 1 ≤ 60 → (twN n).1 * (twN (n + k + 1)).2 < (twN (n + k + 1)).1 * (twN n).2
  | 0, h => tw_next h1 (by omega)
  | k + 1, h => by
    have i1 := tw_less h1 k (by omega)
    have i2 := tw_next (n := n + k + 1) (by omega) (by omega)
    exact le_tr (tw_ok (n := n + k + 1) (by omega) (by omega)).1 i1 i2 (tw_ok (n := n + k + 1 + 1) (by omega) (by omega)).1 (tw_ok h1 (by omega)).1
theorem tw_rest {n : Nat} (h1 : 1 ≤ n) (h2 : n ≤ 60) : red ((twN n).2 - (twN n).1) (twN n).2 = ((twN n).2 - (twN n).1, (twN n).2) := by
  obtain ⟨a, b, _, d⟩ := tw_ok h1 h2
  refine red_self ?_
  have g1 := Nat.gcd_dvd_left ((twN n).2 - (twN n).1) (twN n).2
  have g2 := Nat.gcd_dvd_right ((twN n).2 - (twN n).1) (twN n).2
  have g3 := Nat.dvd_sub g2 g1
  rw [show (twN n).2 - ((twN n).2 - (twN n).1) = (twN n).1 by omega] at g3
  have := Nat.dvd_gcd g3 g2
  rw [d] at this
  exact Nat.dvd_one.mp this
/-! ### what repr shows of two pairs of numbers -/
theorem big10 : 2 ^ 1850 ≤ 10 ^ 599 := by decide +kernel
theorem shw_int {i : Int} (h : i.natAbs < 2 ^ 1850) : PyData.showable (.int i) = true ∧ PyData.leavesShort 600 (.int i) = true ∧ PyData.weight (.int i) ≤ 1850 := by
  have hl := PySem.Flt.log2_lt_of (by decide) h
  refine ⟨?_, ?_, ?_⟩
  · rw [PyData.showable]
    exact decide_eq_true (by omega)
  · rw [PyData.leavesShort]
    refine decide_eq_true ?_
    show (Str.ofString (toString i)).length ≤ 600
    rw [PySem.ofString_length]
    exact int_text_length_le10 (k := 599) (by decide) (Nat.lt_of_lt_of_le h big10)
  · rw [PyData.weight]
    split <;> omega
def p4 (a b c d : Int) : PyData := .tuple [.tuple [.int a, .int b], .tuple [.int c, .int d]]
theorem shw_p4 {a b c d : Int} (ha : a.natAbs < 2 ^ 1850) (hb : b.natAbs < 2 ^ 1850) (hc : c.natAbs < 2 ^ 1850) (hd : d.natAbs < 2 ^ 1850) : Shw (p4 a b c d) := by
  obtain ⟨a1, a2, a3⟩ := shw_int ha
  obtain ⟨b1, b2, b3⟩ := shw_int hb
  obtain ⟨c1, c2, c3⟩ := shw_int hc
  obtain ⟨d1, d2, d3⟩ := shw_int hd
  refine ⟨?_, ?_, ?_, ?_⟩
  · simp only [p4, PyData.showable, PyData.showableAll] at a1 b1 c1 d1 ⊢
    rw [a1, b1, c1, d1]
    rfl
  · simp only [p4, PyData.hasDict, PyData.hasDictAll, Bool.or_false]
  · have hl : (p4 a b c d).leavesShort 600 = true := by
      simp only [p4, PyData.leavesShort, PyData.leavesShortAll] at a2 b2 c2 d2 ⊢
      rw [a2, b2, c2, d2]
      rfl
    have hw : (p4 a b c d).weight ≤ 7500 := by
      simp only [p4, PyData.weight, PyData.weightAll] at a3 b3 c3 d3 ⊢
      omega
    have := PyData.shown_le 600 (by decide) _ hl
    have e := sizeLine_eq
    have : (600 + 2) * (p4 a b c d).weight ≤ 602 * 7500 := Nat.mul_le_mul (by decide) hw
    omega
  · simp [p4, PyData.depth, PyData.depthAll]
theorem shw_lim : Shw (.list [.int 60, .none]) := by
  refine ⟨by decide +kernel, by decide +kernel, ?_, by decide +kernel⟩
  have := PyData.shown_le 600 (by decide) (.list [.int 60, .none]) (by decide +kernel)
  have e := sizeLine_eq
  have hw : (PyData.list [.int 60, .none]).weight = 8 := by decide +kernel
  rw [hw] at this
  omega
end Tw
namespace Tw
open PySem PySem.Spec PyProof.Rows L2
def topS (i : Nat) : Stmt := PySem.Challenge.pw_twicedial_k47_turning_widths.main.body.getD i (.Pass ⟨0, 0, 0, 0⟩)
abbrev s_TooMany__init : Stmt := inClass (topS 3) 0
abbrev N_TooMany__init : List Str := ["self", "limit"]
theorem sc_TooMany__init : FnScope N_TooMany__init ["self", "limit"] (defScope s_TooMany__init) := ⟨rfl, rfl, rfl, by decide +kernel, rfl, by decide +kernel, by decide +kernel⟩
abbrev s_reduced : Stmt := topS 5
abbrev N_reduced : List Str := ["top", "bottom", "common"]
theorem sc_reduced : FnScope N_reduced ["top", "bottom"] (defScope s_reduced) := ⟨rfl, rfl, rfl, by decide +kernel, rfl, by decide +kernel, by decide +kernel⟩
abbrev s_turning_widths : Stmt := topS 8
abbrev N_turning_widths : List Str := ["most", "top", "bottom", "q", "width"]
theorem sc_turning_widths : FnScope N_turning_widths ["most"] (defScope s_turning_widths) := ⟨rfl, rfl, rfl, by decide +kernel, rfl, by decide +kernel, by decide +kernel⟩
abbrev s__tops : Stmt := topS 9
abbrev N__tops : List Str := ["q", "p"]
theorem sc__tops : FnScope N__tops ["q"] (defScope s__tops) := ⟨rfl, rfl, rfl, by decide +kernel, rfl, by decide +kernel, by decide +kernel⟩
abbrev s__law_begun : Stmt := topS 11
abbrev N__law_begun : List Str := ["script", "k", "cells", "great", "seed", "cell"]
theorem sc__law_begun : FnScope N__law_begun ["script", "k"] (defScope s__law_begun) := ⟨rfl, rfl, rfl, by decide +kernel, rfl, by decide +kernel, by decide +kernel⟩
abbrev s__law_draw : Stmt := topS 12
abbrev N__law_draw : List Str := ["m", "below", "found", "spot", "cells", "extra", "cell", "blend"]
theorem sc__law_draw : FnScope N__law_draw ["m", "below"] (defScope s__law_draw) := ⟨rfl, rfl, rfl, by decide +kernel, rfl, by decide +kernel, by decide +kernel⟩
abbrev s__law_twos : Stmt := topS 13
abbrev N__law_twos : List Str := ["count", "found", "k"]
theorem sc__law_twos : FnScope N__law_twos ["count"] (defScope s__law_twos) := ⟨rfl, rfl, rfl, by decide +kernel, rfl, by decide +kernel, by decide +kernel⟩
abbrev s__law_shared : Stmt := topS 14
abbrev N__law_shared : List Str := ["a", "b", "k"]
theorem sc__law_shared : FnScope N__law_shared ["a", "b"] (defScope s__law_shared) := ⟨rfl, rfl, rfl, by decide +kernel, rfl, by decide +kernel, by decide +kernel⟩
abbrev s__law_less : Stmt := topS 15
abbrev N__law_less : List Str := ["x", "y"]
theorem sc__law_less : FnScope N__law_less ["x", "y"] (defScope s__law_less) := ⟨rfl, rfl, rfl, by decide +kernel, rfl, by decide +kernel, by decide +kernel⟩
abbrev s__law_lowest : Stmt := topS 16
abbrev N__law_lowest : List Str := ["top", "bottom", "a", "b", "k"]
theorem sc__law_lowest : FnScope N__law_lowest ["top", "bottom"] (defScope s__law_lowest) := ⟨rfl, rfl, rfl, by decide +kernel, rfl, by decide +kernel, by decide +kernel⟩
abbrev s__law_sum : Stmt := topS 17
abbrev N__law_sum : List Str := ["most", "top", "bottom", "q", "wide", "many_so", "p"]
theorem sc__law_sum : FnScope N__law_sum ["most"] (defScope s__law_sum) := ⟨rfl, rfl, rfl, by decide +kernel, rfl, by decide +kernel, by decide +kernel⟩
abbrev s__law_limit : Stmt := topS 18
abbrev N__law_limit : List Str := ["most", "e"]
theorem sc__law_limit : FnScope N__law_limit ["most"] (defScope s__law_limit) := ⟨rfl, rfl, rfl, by decide +kernel, rfl, by decide +kernel, by decide +kernel⟩
abbrev s_law : Stmt := topS 19
abbrev N_law : List Str := ["script", "m", "most", "total", "rest", "told", "more"]
theorem sc_law : FnScope N_law ["script"] (defScope s_law) := ⟨rfl, rfl, rfl, by decide +kernel, rfl, by decide +kernel, by decide +kernel⟩
structure Top (K : PySem.W.Frag) (mg : Str → Option Value) where
  f_TooMany__init : Addr
  fd_TooMany__init : FuncData
  F_TooMany__init : Fun K "__init__" "TooMany.__init__" s_TooMany__init f_TooMany__init fd_TooMany__init
  b_TooMany__init : Binds K fd_TooMany__init ["self", "limit"] []
  f_reduced : Addr
  fd_reduced : FuncData
  F_reduced : Fun K "reduced" "reduced" s_reduced f_reduced fd_reduced
  b_reduced : Binds K fd_reduced ["top", "bottom"] []
  g_reduced : mg "reduced" = some (.ref f_reduced)
  f_turning_widths : Addr
  fd_turning_widths : FuncData
  F_turning_widths : Fun K "turning_widths" "turning_widths" s_turning_widths f_turning_widths fd_turning_widths
  b_turning_widths : Binds K fd_turning_widths ["most"] []
  g_turning_widths : mg "turning_widths" = some (.ref f_turning_widths)
  f__tops : Addr
  fd__tops : FuncData
  F__tops : Fun K "_tops" "_tops" s__tops f__tops fd__tops
  b__tops : Binds K fd__tops ["q"] []
  g__tops : mg "_tops" = some (.ref f__tops)
  f__law_begun : Addr
  fd__law_begun : FuncData
  F__law_begun : Fun K "_law_begun" "_law_begun" s__law_begun f__law_begun fd__law_begun
  b__law_begun : Binds K fd__law_begun ["script", "k"] []
  g__law_begun : mg "_law_begun" = some (.ref f__law_begun)
  f__law_draw : Addr
  fd__law_draw : FuncData
  F__law_draw : Fun K "_law_draw" "_law_draw" s__law_draw f__law_draw fd__law_draw
  b__law_draw : Binds K fd__law_draw ["m", "below"] []
  g__law_draw : mg "_law_draw" = some (.ref f__law_draw)
  f__law_twos : Addr
  fd__law_twos : FuncData
  F__law_twos : Fun K "_law_twos" "_law_twos" s__law_twos f__law_twos fd__law_twos
  b__law_twos : Binds K fd__law_twos ["count"] []
  g__law_twos : mg "_law_twos" = some (.ref f__law_twos)
  f__law_shared : Addr
  fd__law_shared : FuncData
  F__law_shared : Fun K "_law_shared" "_law_shared" s__law_shared f__law_shared fd__law_shared
  b__law_shared : Binds K fd__law_shared ["a", "b"] []
  g__law_shared : mg "_law_shared" = some (.ref f__law_shared)
  f__law_less : Addr
  fd__law_less : FuncData
  F__law_less : Fun K "_law_less" "_law_less" s__law_less f__law_less fd__law_less
  b__law_less : Binds K fd__law_less ["x", "y"] []
  g__law_less : mg "_law_less" = some (.ref f__law_less)
  f__law_lowest : Addr
  fd__law_lowest : FuncData
  F__law_lowest : Fun K "_law_lowest" "_law_lowest" s__law_lowest f__law_lowest fd__law_lowest
  b__law_lowest : Binds K fd__law_lowest ["top", "bottom"] []
  g__law_lowest : mg "_law_lowest" = some (.ref f__law_lowest)
  f__law_sum : Addr
  fd__law_sum : FuncData
  F__law_sum : Fun K "_law_sum" "_law_sum" s__law_sum f__law_sum fd__law_sum
  b__law_sum : Binds K fd__law_sum ["most"] []
  g__law_sum : mg "_law_sum" = some (.ref f__law_sum)
  f__law_limit : Addr
  fd__law_limit : FuncData
  F__law_limit : Fun K "_law_limit" "_law_limit" s__law_limit f__law_limit fd__law_limit
  b__law_limit : Binds K fd__law_limit ["most"] []
  g__law_limit : mg "_law_limit" = some (.ref f__law_limit)
  f_law : Addr
  fd_law : FuncData
  F_law : Fun K "law" "law" s_law f_law fd_law
  b_law : Binds K fd_law ["script"] []
  g_law : mg "law" = some (.ref f_law)
  c_DialError : Addr
  gc_DialError : mg "DialError" = some (.ref c_DialError)
  x_DialError : ExK K c_DialError
  y_DialError : ExB K c_DialError
  c_TooMany : Addr
  gc_TooMany : mg "TooMany" = some (.ref c_TooMany)
  x_TooMany : ExK K c_TooMany
  iC_TooMany : PySem.W.findIn K (.ref c_TooMany) "__init__" = some (some (.ref f_TooMany__init))
  tI_TooMany : PySem.W.typeIn K (.ref f_TooMany__init) = some (.type "function")
  n_TooMany_limit : PySem.W.findIn K (.ref c_TooMany) "limit" = some none
  e_TooMany_TooMany : PySem.W.exmOne K (.ref c_TooMany) (.ref c_TooMany) = some true
  z_int : mg "int" = none
  z_len : mg "len" = none
  z_range : mg "range" = none
  z_repr : mg "repr" = none
  i_gcd : mg "gcd" = some (.builtin "math.gcd")
  t_MOST_WIDTHS : Tok
  c_MOST_WIDTHS : mg "MOST_WIDTHS" = some (.int 60 t_MOST_WIDTHS)
end Tw
namespace Tw
open PySem PySem.Spec PyProof.Rows L2
local macro_rules | `(tactic| walk_at "dp") => `(tactic| first
  | exact Dp.int _ | exact Dp.str _ | exact Dp.bl _ | exact Dp.non
  | assumption
  | ((refine' dp_same ?he ?hd); (case he => assumption); (case hd => walk_at "dp"))
  | ((refine' dp_keep ?he ?hd); (case he => assumption); (case hd => walk_at "dp")))
local macro_rules | `(tactic| walk_at "dpa") => `(tactic| first
  | exact DpAll.nil
  | assumption
  | ((refine' DpAll.cons ?ha ?hb); (case ha => walk_at "dp"); (case hb => walk_at "dpa")))
local macro_rules | `(tactic| walk_at "ty") => `(tactic| first
  | exact ty_int | exact ty_non | exact ty_bl | exact ty_str
  | ((refine' ty_tup ?hx); (case hx => walk_at "dp"))
  | ((refine' ty_lst ?hx); (case hx => walk_at "dp")))
local macro_rules | `(tactic| walk_at "c") => `(tactic| ((try dsimp only); (first
  | (with_reducible assumption) | omega | decide
  | (simp only [List.length_map]; omega)
  | exact mulS ⟨by omega, by omega⟩ ⟨by omega, by omega⟩
  | exact divS ⟨by omega, by omega⟩)))
local macro_rules | `(tactic| walk_at "e0") => `(tactic| first
  | with_reducible refine w_c ?_
  | ((with_reducible refine' w_var ?hv ?_); case hv => rfl)
  | with_reducible refine w_op ?_
  | with_reducible refine w_rI0 ?_
  | with_reducible refine w_rU ?_
  | with_reducible refine w_cons ?_
  | with_reducible refine w_nil ?_
  | with_reducible refine w_cb ?_
  | with_reducible refine w_call ?_
  | with_reducible refine w_tTest ?_
  | with_reducible refine w_bl ?_
  | with_reducible refine w_blV ?_
  | with_reducible refine w_andV ?_
  | with_reducible refine w_chain ?_
  | with_reducible refine w_orV ?_
  | with_reducible refine w_notV ?_
  | with_reducible refine w_tB ?_
  | with_reducible refine w_and ?_
  | with_reducible refine w_or ?_
  | with_reducible refine w_not ?_
  | with_reducible refine w_tI ?_
  | with_reducible refine w_un ?_
  | with_reducible refine w_int ?_
  | with_reducible refine w_tup ?_
  | with_reducible refine w_lst ?_
  | with_reducible refine w_tIsN ?_
  | with_reducible refine w_tNotN ?_
  | with_reducible refine w_slice ?_
  | with_reducible refine w_noPart ?_
  | with_reducible refine w_part ?_
  | with_reducible refine w_pint ?_
  | with_reducible refine w_isStr ?_
  | with_reducible refine w_bm ?_
  | with_reducible refine w_bm0 ?_
  | with_reducible refine w_m1 ?_
  | with_reducible refine w_tyS ?_
  | with_reducible refine w_dget ?_
  | with_reducible refine w_iteT ?_
  | with_reducible refine w_iteF ?_
  | with_reducible refine w_iteNT ?_
  | with_reducible refine w_iteNF ?_
  | with_reducible refine w_pp ?_
  | with_reducible refine w_pp0 ?_
  | with_reducible refine w_lcL ?_
  | with_reducible refine w_lcT ?_
  | with_reducible refine w_lcR1 ?_
  | with_reducible refine w_lcR2 ?_
  | with_reducible refine w_tYes ?_
  | ((with_reducible refine' w_dgS ?h ?hm ?_); (case h => assumption); (case hm => first | exact mo_left | exact mo_seed | exact mo_cells | exact mo_spot))
  | ((with_reducible refine' w_isiY ?ty ?h ?_); (case ty => walk_at "ty"); (case h => decide +kernel))
  | ((with_reducible refine' w_isiN ?ty ?h ?_); (case ty => walk_at "ty"); (case h => decide +kernel))
  | ((with_reducible refine' w_lenL ?h ?_); case h => walk_at "dp")
  | ((with_reducible refine' w_lenT ?h ?_); case h => walk_at "dp")
  | ((with_reducible refine' w_lenSg ?h ?_); case h => walk_at "c")
  | ((with_reducible refine' w_lenS ?h ?_); case h => walk_at "c")
  | ((with_reducible refine' w_addSg ?h ?_); case h => walk_at "c")
  | ((with_reducible refine' w_rI ?c ?_); case c => walk_at "c")
  | with_reducible refine w_eqI ?_
  | with_reducible refine w_neI ?_
  | ((with_reducible refine' w_rEq ?hs ?_); case hs => rfl)
  | ((with_reducible refine' w_rNe ?hs ?_); case hs => rfl))
local macro_rules | `(tactic| walk_at "e") => `(tactic| first
  | walk_at "e0"
  | ((with_reducible refine' w_rMod ?c ?_); case c => walk_at "c"))
local macro_rules | `(tactic| walk_at "p") => `(tactic| first
  | ((with_reducible refine' w_ix0 ?h ?_); case h => walk_at "dp")
  | ((with_reducible refine' w_ix1 ?h ?_); case h => walk_at "dp")
  | ((with_reducible refine' w_gTupP ?h ?_); case h => walk_at "dp")
  | with_reducible refine w_gcdN ?_
  | with_reducible refine w_absN ?_
  | with_reducible refine w_absI ?_
  | with_reducible refine w_vei ?_
  | with_reducible refine w_ost ?_
  | with_reducible refine w_callS ?_
  | with_reducible refine w_xf ?_
  | with_reducible refine w_mko ?_
  | with_reducible refine w_max2 (fun _ _ => ?_)
  | with_reducible refine w_min2 (fun _ _ => ?_))
local macro_rules | `(tactic| walk_at "s0") => `(tactic| first
  | with_reducible refine w_seq ?_
  | with_reducible refine w_asg ?_
  | with_reducible refine w_ret ?_
  | with_reducible refine w_drop ?_
  | with_reducible refine w_next ?_
  | with_reducible refine w_retN ?_
  | with_reducible refine w_brk ?_
  | with_reducible refine w_cont ?_
  | with_reducible refine w_dput ?_
  | with_reducible refine w_forL ?_
  | with_reducible refine w_wb ?_
  | with_reducible refine w_forT ?_
  | with_reducible refine w_forR1 ?_
  | with_reducible refine w_forR2 ?_
  | with_reducible refine w_forS ?_
  | with_reducible refine w_gName ?_
  | with_reducible refine w_par ?_
  | with_reducible refine w_asgG ?_
  | with_reducible refine w_par3 ?_
  | with_reducible refine w_par33 ?_
  | with_reducible refine w_par2 ?_)
local macro_rules | `(tactic| walk_at "s") => `(tactic| first
  | walk_at "s0"
  | with_reducible refine w_ifS ?_)
local macro_rules | `(tactic| walk_at "w") => `(tactic| repeat first | walk_at "e" | walk_at "s")
local macro_rules | `(tactic| walk_at "w0") => `(tactic| repeat first | walk_at "e0" | walk_at "s")
local macro_rules | `(tactic| walk_at "wp") => `(tactic| repeat first | walk_at "e" | walk_at "s" | walk_at "p")
local macro_rules | `(tactic| walk_at "t") => `(tactic| first
  | ((with_reducible refine' w_newT (K := ‹PySem.W.Frag›) ?hl ?hd (fun _ _ _ _ _ => ?_)); (case hl => exact len_ok (by simp)); (case hd => walk_at "dpa"))
  | ((with_reducible refine' w_newL (K := ‹PySem.W.Frag›) ?hl ?hd (fun _ _ _ _ _ _ => ?_)); (case hl => exact len_ok (by simp)); (case hd => walk_at "dpa"))
  | ((with_reducible refine' w_gTup2 ?h (fun _ _ _ _ => ?_)); case h => walk_at "dp"))
local macro_rules | `(tactic| walk_at "wt") => `(tactic| repeat first | walk_at "e" | walk_at "s" | walk_at "p" | walk_at "t")
local macro_rules | `(tactic| walk_at "same") => `(tactic| first
  | exact Same.refl _
  | assumption
  | ((refine' Same.trans ?ha ?hb); (case hb => assumption); (case ha => walk_at "same")))
local macro_rules | `(tactic| walk_at "keep") => `(tactic| first
  | exact Keep.refl _
  | assumption
  | (refine Keep.of ?_; assumption)
  | ((refine' Keep.trans ?ha ?hb); (case hb => first | assumption | (refine Keep.of ?_; assumption)); (case ha => walk_at "keep")))
local macro_rules | `(tactic| walk_at "wi") => `(tactic| repeat first | walk_at "e" | walk_at "s0" | walk_at "p" | walk_at "t")
section
variable {P : Program} {w : World} {K : PySem.W.Frag} {mg : Str → Option Value} {base : Heap}
/-! ### TooMany__init -/
def sp_TooMany__init (K : PySem.W.Frag) : Sp := fun vs H Q _ => ∃ (a C : Addr) (n : Int), vs = [.ref a, .int n] ∧ OexC K C ∧ PySem.W.findIn K (.ref C) "limit" = some none ∧ H a = some (exo a C none) ∧ 0 ≤ n ∧ n < 1000000 ∧ ∀ dx, H dx = none → dx ≠ a → Q .non (upd (upd H dx (exd dx [("limit", .int n)])) a (exo a C (some dx)))
theorem ok_TooMany__init (T : Top K mg) : FnOk P w K mg base CX0 1 T.f_TooMany__init T.fd_TooMany__init ["self", "limit"] (sp_TooMany__init K) := by
  refine T.F_TooMany__init.ok sc_TooMany__init (fun vs H Q E h => ?_) (fun cdv A outer s H vs Q E hr h => ?_)
  · obtain ⟨a, C, n, rfl, _⟩ := h
    rfl
  · obtain ⟨a, C, n, rfl, ox, hn, hx, h0, h1, q⟩ := h
    refine ⟨_, (pss_cons (ps_expr (pe_ownInit (by rfl) T.gc_DialError T.y_DialError.sp T.y_DialError.tp T.y_DialError.rd T.y_DialError.fc (pa_cons (pv 0) (pa_cons (pe_joined (.cons pe_str (.cons (pe_fmt (pv 1)) .nil))) pa_nil))))
      (pss_one (ps_ost (pv 0) (pv 1)))), ?_⟩
    rw [show start N_TooMany__init [.ref a, .int n] = [some (.ref a), some (.int n)] from rfl]
    try dsimp only [cxK]
    have hl := strI_len h0 h1
    have hz := sizeLine_eq
    walk_at "wp"
    refine w_js ⟨_, rfl, by rw [sizeLine_eq]; decide +kernel, w_js (w_fmt ⟨_, rfl, .inr ⟨n, rfl, log2_ok h0 h1, _, rfl, ?_, ?_⟩⟩)⟩
    · rw [str_app]
      have : (Str.empty ++ Str.ofString "more than ").length = 10 := by decide +kernel
      omega
    · refine w_jsN ?_
      walk_at "wp"
      refine ⟨a, C, _, rfl, by simp, ox, hx, ?_⟩
      walk_at "wp"
      exact ⟨a, C, rfl, ox, hn, .inl ⟨hx, q⟩⟩

/-! ### reduced -/
def sp_reduced (K : PySem.W.Frag) : Sp := fun vs H Q _ => ∃ p q : Nat, vs = [.int (p : Int), .int (q : Int)] ∧ 0 < q ∧ q < 2 ^ 1990 ∧ ∀ v H', Same H H' → Dp K H' v (pd (red p q)) → Q v H'
theorem ok_reduced (T : Top K mg) : FnOk P w K mg base CX0 1 T.f_reduced T.fd_reduced ["top", "bottom"] (sp_reduced K) := by
  refine T.F_reduced.ok sc_reduced (fun vs H Q E h => ?_) (fun cdv A outer s H vs Q E hr h => ?_)
  · obtain ⟨p, q, rfl, _⟩ := h
    rfl
  · obtain ⟨p, q, rfl, h0, h1, q1⟩ := h
    refine ⟨_, (pss_cons (ps_set (i := 2) sc_reduced.nd (by rfl) (by first | exact Or.inl rfl | exact Or.inr rfl) (pe_callBfun cr_gcd (by rfl) T.i_gcd (pa_cons (pv 0) (pa_cons (pv 1) pa_nil))))
      (pss_one (ps_ret (pe_tup (pa_cons (pe_op op_fdivW (pv 0) (pv 2)) (pa_cons (pe_op op_fdivW (pv 1) (pv 2)) pa_nil)))))), ?_⟩
    rw [show start N_reduced [.int (p : Int), .int (q : Int)] = [some (.int (p : Int)), some (.int (q : Int)), none] from rfl]
    try dsimp only [cxK]
    have g0 : 0 < Nat.gcd p q := Nat.gcd_pos_of_pos_right p h0
    have g1 : Nat.gcd p q < 2 ^ 1990 := Nat.lt_of_le_of_lt (Nat.le_of_dvd h0 (Nat.gcd_dvd_right p q)) h1
    have hc : ∀ i : Int, CDivW i ((Nat.gcd p q : Nat) : Int) := fun i => wide_div (b := 1990) (Int.natCast_pos.mpr g0) (by rw [Int.natAbs_natCast]; exact g1) (by decide) (by decide)
    clear h1 g1
    walk_at "wp"
    refine w_rI (C := CDivW) (hc _) ?_
    walk_at "wp"
    refine w_rI (C := CDivW) (hc _) ?_
    walk_at "wp"
    refine w_newT (K := K) (ds := [.int ((p : Int) / (Nat.gcd p q : Nat)), .int ((q : Int) / (Nat.gcd p q : Nat))]) (len_ok (by simp)) (.cons (.int _) (dpa_one (.int _))) fun t H1 n1 e1 d1 => ?_
    exact q1 _ H1 e1 d1

/-! ### _tops -/
def sp__tops (K : PySem.W.Frag) : Sp := fun vs H Q _ => ∃ q : Nat, vs = [.int (q : Int)] ∧ 1 ≤ q ∧ q ≤ 1000 ∧ ∀ v H', Same H H' → Dp K H' v (.list (((List.range' 1 (q - 1)).filter fun p => decide (Nat.gcd p q = 1)).map fun p : Nat => PyData.int (p : Int))) → Q v H'
theorem ok__tops (T : Top K mg) : FnOk P w K mg base CX0 1 T.f__tops T.fd__tops ["q"] (sp__tops K) := by
  refine T.F__tops.ok sc__tops (fun vs H Q E h => ?_) (fun cdv A outer s H vs Q E hr h => ?_)
  · obtain ⟨q, rfl, _⟩ := h
    rfl
  · obtain ⟨n, rfl, h0, h1, q⟩ := h
    refine ⟨_, (pss_one (ps_ret (pe_lc (own := [("p", 1)]) (g := gName 1) (by rfl) sc__tops.nd (pi_range2 (by rfl) T.z_range (pa_cons pe_int (pa_cons (pv 0) pa_nil))) (blkOk_by (own := [("p", 1)]) (N := N__tops) (sc := defScope s__tops) (by decide +kernel)) (fun _ _ _ _ _ => (pg_name (i := 1) sc__tops.nd (by rfl) (by first | exact Or.inl rfl | exact Or.inr rfl))) (fun _ _ _ _ _ => (pts_one (pt_cmpR op_eq (pe_callBfun cr_gcd (by rfl) T.i_gcd (pa_cons (pv 1) (pa_cons (pv 0) pa_nil))) pe_int (nomark _)))) (fun _ _ _ _ _ => (pv 1))))), ?_⟩
    rw [show start N__tops [.int (n : Int)] = [some (.int (n : Int)), none] from rfl]
    try dsimp only [cxK]
    walk_at "wp"
    refine lc_rng2_by (K := K) (JP H fun i es => es = ((List.range' 1 i).filter fun p => decide (Nat.gcd p n = 1)).map fun p : Nat => PyData.int (p : Int)) (JP.ok rfl) (by omega) (fun _ => rfl) ?_ ?_
    · rintro i H1 es hi ⟨s1, rfl⟩ Yes No hyes hno
      rw [show (1 : Int) + (i : Int) = ((1 + i : Nat) : Int) by omega]
      walk_at "wp"
      have e := List.range'_concat (s := 1) (n := i) (step := 1)
      rw [Nat.one_mul] at e
      refine w_iteD (fun h => ?_) (fun h => ?_)
      · walk_at "wp"
        refine hyes _ _ (.int ((1 + i : Nat) : Int)) (Keep.refl _) rfl (.int _) ⟨s1, ?_⟩
        have hg : Nat.gcd (1 + i) n = 1 := by omega
        have eg : List.filter (fun p => decide (Nat.gcd p n = 1)) [1 + i] = [1 + i] := by simp [hg]
        dsimp only
        rw [e, List.filter_append, List.map_append, eg]
        rfl
      · refine hno _ (Keep.refl _) ⟨s1, ?_⟩
        have hg : ¬ Nat.gcd (1 + i) n = 1 := by omega
        have eg : List.filter (fun p => decide (Nat.gcd p n = 1)) [1 + i] = [] := by simp [hg]
        dsimp only
        rw [e, List.filter_append, List.map_append, eg]
        simp
    · rintro p H1 vs es hn k1 hv dl ⟨s1, rfl⟩
      rw [show ((n : Int) - 1).toNat = n - 1 by omega] at dl
      exact q _ _ s1 dl

/-! ### _law_begun -/
def sp__law_begun (K : PySem.W.Frag) : Sp := fun vs H Q _ => ∃ (a : Addr) (ns : List Int) (k : Int), vs = [.ref a, .int k] ∧ SqL K H a (ns.map V.int) ∧ ns.length ≤ 63 ∧ (∀ n ∈ ns, Big n) ∧ 0 ≤ k ∧ k < 1000 ∧
  ∀ (m c : Addr) H', Same H H' → H m = none → Mo H' m c 0 → Q (.ref m) H'
theorem ok__law_begun (T : Top K mg) : FnOk P w K mg base CX0 1 T.f__law_begun T.fd__law_begun ["script", "k"] (sp__law_begun K) := by
  refine T.F__law_begun.ok sc__law_begun (fun vs H Q E h => ?_) (fun cdv A outer s H vs Q E hr h => ?_)
  · obtain ⟨a, ns, k, rfl, _⟩ := h
    rfl
  · obtain ⟨a, ns, k, rfl, hS, hl, hB, hk0, hk1, q⟩ := h
    refine ⟨_, (pss_cons (ps_set (i := 2) sc__law_begun.nd (by rfl) (by first | exact Or.inl rfl | exact Or.inr rfl) (pe_op op_catL (pe_slice (sl_listK (K := K)) (pv 0) (po_some (pv 1)) po_none) (pe_slice (sl_listK (K := K)) (pv 0) po_none (po_some (pv 1)))))
      (pss_cons (ps_setLc (i := 3) (own := [("cell", 5)]) (g := gName 5) (by rfl) sc__law_begun.nd (by rfl) (by rfl) (sw_true rfl rfl rfl (by decide +kernel)) (pi_listK (K := K) (pv 2)) (blkOk_by (own := [("cell", 5)]) (N := N__law_begun) (sc := defScope s__law_begun) (by decide +kernel)) (fun _ _ _ _ _ => (pg_name (i := 5) sc__law_begun.nd (by rfl) (by first | exact Or.inl rfl | exact Or.inr rfl))) (fun _ _ _ _ _ => (pts_one (pt_cmpR op_ge (pv 5) (pe_op op_pow pe_int pe_int) (nomark _)))) (fun _ _ _ _ _ => (pv 5)))
      (pss_cons (ps_set (i := 4) sc__law_begun.nd (by rfl) (by first | exact Or.inl rfl | exact Or.inr rfl) (pe_op op_add pe_int (pv 1)))
      (pss_cons (ps_for PassesOwn.never (by rfl) (pi_listK (K := K) (pv 2)) (pg_name (i := 5) sc__law_begun.nd (by rfl) (by first | exact Or.inl rfl | exact Or.inr rfl)) (pss_one (ps_set (i := 4) sc__law_begun.nd (by rfl) (by first | exact Or.inl rfl | exact Or.inr rfl) (pe_op op_modD (pe_callTy cl_int (by rfl) T.z_int (by decide +kernel) (pa_cons (pe_op op_add (pe_op op_mulX (pv 4) pe_int) (pv 5)) pa_nil)) pe_int))))
      (pss_one (ps_ret (pe_disp (pps_cons pe_str (pe_ifExp (pt_cmpR (op_neK (K := K) hr.units) (pv 3) (pe_lst pa_nil) (nomark _)) (pe_ix (ix_listK (K := K)) (pv 3) pe_int (fun _ _ => rfl)) pe_int) (pps_cons pe_str (pv 4) (pps_cons pe_str (pe_op op_catL (pv 2) (pe_lst (pa_cons (pe_op op_add (pe_op op_mulX pe_int (pv 1)) pe_int) pa_nil))) (pps_cons pe_str pe_int pps_nil)))) (by rfl) (by rfl) (fun z => by cases z) (by decide)))))))), ?_⟩
    rw [show start N__law_begun [.ref a, .int k] = [some (.ref a), some (.int k), none, none, none, none] from rfl]
    try dsimp only [cxK]
    have hz : sizeLine = 16777216 := sizeLine_eq
    walk_at "w"
    refine w_slV hS fun p1 H1 n1 e1 f1 => ?_
    walk_at "w"
    refine w_slV (e1.seq hS) fun p2 H2 n2 e2 f2 => ?_
    rw [cutD_from _ hk0] at f1
    rw [cutD_to _ hk0] at f2
    refine w_catL (e2 _ _ f1) f2 (by simp only [List.length_drop, List.length_take, List.length_map]; omega) fun p3 H3 n3 e3 f3 => ?_
    rw [← List.map_drop, ← List.map_take, ← List.map_append] at f3
    generalize hcs : ns.drop k.toNat ++ ns.take k.toNat = cs at f3
    have hcB : ∀ n ∈ cs, Big n := fun n hn => by
      rw [← hcs] at hn
      rcases List.mem_append.mp hn with hn | hn
      · exact hB n (List.mem_of_mem_drop hn)
      · exact hB n (List.mem_of_mem_take hn)
    have hcl : cs.length ≤ 63 := by rw [← hcs]; simp only [List.length_append, List.length_drop, List.length_take]; omega
    have d3 : Dp K H3 (.ref p3) (.list (cs.map PyData.int)) := .lst (.of f3) (dpa_ints cs)
    have s3 : Same H H3 := (e1.trans e2).trans e3
    walk_at "w"
    refine lc_list_by (JP H3 fun i es => ∃ gs : List Int, es = gs.map PyData.int ∧ gs.length ≤ i) (JP.ok ⟨[], rfl, by simp⟩) d3 (by simp; omega) (fun _ => rfl) ?_ ?_
    · intro i d y H' es hd hy hJ Yes No hyes hno
      obtain ⟨hs, gs, rfl, hgl⟩ := hJ
      rw [List.getElem?_map] at hd
      obtain ⟨z, hz1, rfl⟩ := Option.map_eq_some_iff.mp hd
      cases hy
      walk_at "w"
      refine w_rI ⟨by decide, by decide, by decide⟩ ?_
      walk_at "w"
      refine w_ite (fun hb => ?_) (fun hb => ?_)
      · walk_at "w"
        exact hyes _ H' (.int z) (Keep.refl _) rfl (.int z) ⟨hs, gs ++ [z], by simp, by simp; omega⟩
      · exact hno H' (Keep.refl _) ⟨hs, gs, rfl, by omega⟩
    · intro p4 H4 vs4 es n4 k4 f4 d4 hJ
      obtain ⟨s4, gs, rfl, hgl⟩ := hJ
      rw [List.length_map] at hgl
      walk_at "w"
      refine forL_by (fun i σ' H' => ∃ (sd : Int) (y5 : Option V), σ' = [some (.ref a), some (.int k), some (.ref p3), some (.ref p4), some (.int sd), y5] ∧ H4 = H' ∧ 0 ≤ sd ∧ sd < 2147483647) (dp_same s4 d3) ⟨71 + k, none, rfl, rfl, by omega, by omega⟩ ?_ ?_ ?_
      · rintro i σ' H' _ ⟨sd, y5, rfl, rfl, _⟩
        exact Keep.refl _
      · rintro i d y σ' H' hd hy ⟨sd, y5, rfl, rfl, hsd0, hsd1⟩
        rw [List.getElem?_map] at hd
        obtain ⟨z, hz1, rfl⟩ := Option.map_eq_some_iff.mp hd
        cases hy
        walk_at "w0"
        refine w_rModB (by decide) fun r h0 h1 => ?_
        walk_at "w0"
        exact ⟨r, _, rfl, rfl, h0, h1⟩
      · rintro σ' H' ⟨sd, y5, rfl, rfl, hsd0, hsd1⟩
        walk_at "w"
        refine w_disp fun pd Hd nd ed fd => ?_
        walk_at "w"
        refine w_newL (K := K) (by decide) .nil fun p6 H6 n6 e6 f6 d6 => ?_
        have d4' : Dp K H6 (.ref p4) (.list (gs.map PyData.int)) := dp_same e6 (dp_same ed d4)
        have rest : ∀ (lv : Int) (H7 : Hp), Same H6 H7 → rNewL [V.int (53 * k + 11)] H7 fun y H2 => rCat (V.ref p3) y H2 fun y H2 =>
            tPairs [(tC (V.str (Str.ofString "spot")), tC (V.int 0))] [some (V.ref a), some (V.int k), some (V.ref p3), some (V.ref p4), some (V.int sd), y5] H2 fun ps H3 =>
              rDisp pd ((V.str (Str.ofString "left"), V.int lv) :: (V.str (Str.ofString "seed"), V.int sd) :: (V.str (Str.ofString "cells"), y) :: ps) H3 Q := by
          intro lv H7 e7
          refine w_newL (K := K) (len_ok (by simp)) (dpa_one (.int _)) fun p8 H8 n8 e8 f8 d8 => ?_
          refine w_catL (e8 _ _ (e7 _ _ (e6 _ _ (ed _ _ (s4 _ _ f3))))) f8 (by simp; omega) fun p9 H9 n9 e9 f9 => ?_
          walk_at "w"
          have fd9 : H9 pd = some (.dK []) := e9 _ _ (e8 _ _ (e7 _ _ (e6 _ _ fd)))
          refine ⟨fd9, [(.inr "left", .int lv), (.inr "seed", .int sd), (.inr "cells", .ref p9), (.inr "spot", .int 0)], rfl, by simp, ?_⟩
          have hm : mergeK [] [((.inr "left" : Key), V.int lv), (.inr "seed", .int sd), (.inr "cells", .ref p9), (.inr "spot", .int 0)] = moKvs lv sd p9 0 := by
            simp [mergeK, putK, moKvs, k_left_seed, k_left_cells, k_left_spot, k_seed_cells, k_seed_spot, k_cells_spot]
          rw [hm]
          have sall : Same H4 H9 := (((ed.trans e6).trans e7).trans e8).trans e9
          refine q pd p9 _ (same_mut ((s3.trans s4).trans sall) ((s3.trans s4).free nd)) ((s3.trans s4).free nd) ⟨lv, sd, 0, cs ++ [53 * k + 11], upd_same, ?_, by simp, by simp; omega, ?_, hsd0, hsd1, by omega, by omega⟩
          · rw [upd_ne (ne_of f9 fd9 (fun z => nomatch z)), f9]
            simp
          · intro n hn
            rcases List.mem_append.mp hn with hn | hn
            · exact hcB n hn
            · simp at hn; subst hn; exact Big.small (by omega)
        refine w_neP d4' d6 (pln_ints _) rfl (fun he => ?_) (fun he => ?_)
        · walk_at "w"
          exact rest 0 H6 (Same.refl _)
        · have hg0 : 0 < gs.length := by
            cases gs with
            | nil => exact absurd rfl he
            | cons g gs => simp
          walk_at "w"
          refine w_ixLI d4' (by decide) (by omega) fun z _ => ?_
          walk_at "w"
          exact rest z H6 (Same.refl _)

/-! ### _law_draw -/
def sp__law_draw (K : PySem.W.Frag) : Sp := fun vs H Q _ => ∃ (m c : Addr) (below : Int) (b : Nat), vs = [.ref m, .int below] ∧ 0 < below ∧ below < 2 ^ 60 ∧ Mo H m c b ∧ b < 2 ^ 50 ∧
  ∀ (r : Int) H', 0 ≤ r → r < below → Keep H H' → Mo H' m c (b + 1) → Q (.int r) H'
theorem ok__law_draw (T : Top K mg) : FnOk P w K mg base CX0 1 T.f__law_draw T.fd__law_draw ["m", "below"] (sp__law_draw K) := by
  refine T.F__law_draw.ok sc__law_draw (fun vs H Q E h => ?_) (fun cdv A outer s H vs Q E hr h => ?_)
  · obtain ⟨m, c, below, b, rfl, _⟩ := h
    rfl
  · obtain ⟨m, c, below, b, rfl, hb0, hb1, hm, hb, q⟩ := h
    refine ⟨_, (pss_cons (ps_if (pt_cmpR op_gt (pe_dget (hu_of hr) (pv 0) pe_str (fun _ _ => rfl)) pe_int (nomark _)) (pss_cons (ps_set (i := 2) sc__law_draw.nd (by rfl) (by first | exact Or.inl rfl | exact Or.inr rfl) (pe_op op_modD (pe_callTy cl_int (by rfl) T.z_int (by decide +kernel) (pa_cons (pe_dget (hu_of hr) (pv 0) pe_str (fun _ _ => rfl)) pa_nil)) (pv 1)))
      (pss_cons (ps_dput (hu_of hr) (pv 0) pe_str (pe_op op_fdivW (pe_dget (hu_of hr) (pv 0) pe_str (fun _ _ => rfl)) (pv 1)) rfl)
      (pss_one (ps_ret (pv 2))))) pss_nil)
      (pss_cons (ps_set (i := 3) sc__law_draw.nd (by rfl) (by first | exact Or.inl rfl | exact Or.inr rfl) (pe_dget (hu_of hr) (pv 0) pe_str (fun _ _ => rfl)))
      (pss_cons (ps_dput (hu_of hr) (pv 0) pe_str (pe_op op_add (pv 3) pe_int) rfl)
      (pss_cons (ps_par (i := 4) (j := 5) (by rfl) sc__law_draw.nd (by rfl) (by rfl) (by decide) (by rfl) (by rfl) (pa_cons (pe_dget (hu_of hr) (pv 0) pe_str (fun _ _ => rfl)) (pa_cons (pe_op op_add (pe_dget (hu_of hr) (pv 0) pe_str (fun _ _ => rfl)) (pe_op op_mulX (pe_op op_mulX pe_int (pv 3)) (pv 3))) pa_nil)) (by rfl))
      (pss_cons (ps_set (i := 6) sc__law_draw.nd (by rfl) (by first | exact Or.inl rfl | exact Or.inr rfl) (pe_ix (ix_listK (K := K)) (pv 4) (pe_op op_modD (pe_callTy cl_int (by rfl) T.z_int (by decide +kernel) (pa_cons (pv 3) pa_nil)) (pe_callB (cl_len (K := K)) (by rfl) T.z_len (by decide +kernel) (pa_cons (pv 4) pa_nil))) (fun _ _ => rfl)))
      (pss_cons (ps_set (i := 7) sc__law_draw.nd (by rfl) (by first | exact Or.inl rfl | exact Or.inr rfl) (pe_op op_modD (pe_callTy cl_int (by rfl) T.z_int (by decide +kernel) (pa_cons (pe_op op_add (pe_op op_mulX (pv 6) (pe_op op_add (pe_op op_mulX pe_int (pv 3)) pe_int)) (pv 5)) pa_nil)) pe_int))
      (pss_cons (ps_set (i := 7) sc__law_draw.nd (by rfl) (by first | exact Or.inl rfl | exact Or.inr rfl) (pe_op op_modD (pe_callTy cl_int (by rfl) T.z_int (by decide +kernel) (pa_cons (pe_op op_add (pe_op op_add (pe_op op_mulX (pv 7) (pv 7)) (pe_op op_mulX pe_int (pv 3))) (pe_dget (hu_of hr) (pv 0) pe_str (fun _ _ => rfl))) pa_nil)) pe_int))
      (pss_one (ps_ret (pe_op op_modD (pe_op op_fdivW (pe_op op_modD (pe_callTy cl_int (by rfl) T.z_int (by decide +kernel) (pa_cons (pe_op op_add (pe_op op_mulX (pv 7) pe_int) (pv 3)) pa_nil)) pe_int) pe_int) (pv 1))))))))))), ?_⟩
    rw [show start N__law_draw [.ref m, .int below] = [some (.ref m), some (.int below), none, none, none, none, none, none] from rfl]
    obtain ⟨left, seed, spot, ns, m1, m2, m3, m4, m5, m6, m7, m8, m9⟩ := hm
    try dsimp only [cxK]
    walk_at "w"
    refine w_iteD (fun hl => ?_) (fun hl => ?_)
    · walk_at "w"
      refine w_dpS m1 mo_put_left mo_len fun H1 e1 m1' => ?_
      walk_at "w"
      exact q _ H1 (Int.emod_nonneg _ (by omega)) (Int.emod_lt_of_pos _ hb0) e1 ⟨_, seed, spot, ns, m1', e1.l m2, m3, m4, m5, m6, m7, m8, by omega⟩
    · walk_at "w"
      refine w_dpS m1 mo_put_spot mo_len fun H1 e1 m1' => ?_
      have m2' := e1.l m2
      have dC : Dp K H1 (.ref c) (.list (ns.map PyData.int)) := .lst (.of m2') (dpa_ints ns)
      walk_at "w"
      rw [List.length_map]
      refine w_ixLI dC (Int.emod_nonneg _ (by omega)) (Int.emod_lt_of_pos _ (by omega)) fun z hz => ?_
      have hz2 := m5 z (List.mem_of_getElem? hz)
      walk_at "w"
      refine w_rI (hz2.mul (by omega)) ?_
      walk_at "w0"
      refine w_rModB (by decide) fun r1 h1 h1' => ?_
      walk_at "w0"
      refine w_rModB (by decide) fun r2 h2 h2' => ?_
      walk_at "w0"
      refine w_rModB (by decide) fun r3 h3 h3' => ?_
      walk_at "w0"
      refine w_rModB hb0 fun r4 h4 h4' => ?_
      walk_at "w0"
      exact q r4 H1 h4 h4' e1 ⟨left, seed, spot + 1, ns, m1', m2', m3, m4, m5, m6, m7, by omega, by omega⟩

/-! ### _law_twos -/
def sp__law_twos (K : PySem.W.Frag) : Sp := fun vs H Q _ => ∃ n : Nat, vs = [.int (n : Int)] ∧ n ≤ 200 ∧ Q (.int ((2 ^ n : Nat) : Int)) H
theorem ok__law_twos (T : Top K mg) : FnOk P w K mg base CX0 1 T.f__law_twos T.fd__law_twos ["count"] (sp__law_twos K) := by
  refine T.F__law_twos.ok sc__law_twos (fun vs H Q E h => ?_) (fun cdv A outer s H vs Q E hr h => ?_)
  · obtain ⟨n, rfl, _⟩ := h
    rfl
  · obtain ⟨n, rfl, hn, q⟩ := h
    refine ⟨_, (pss_cons (ps_set (i := 1) sc__law_twos.nd (by rfl) (by first | exact Or.inl rfl | exact Or.inr rfl) pe_int)
      (pss_cons (ps_for PassesOwn.never (by rfl) (pi_range1 (by rfl) T.z_range (pa_cons (pv 0) pa_nil)) (pg_name (i := 2) sc__law_twos.nd (by rfl) (by first | exact Or.inl rfl | exact Or.inr rfl)) (pss_one (ps_set (i := 1) sc__law_twos.nd (by rfl) (by first | exact Or.inl rfl | exact Or.inr rfl) (pe_op op_mulX pe_int (pv 1)))))
      (pss_one (ps_ret (pv 1))))), ?_⟩
    rw [show start N__law_twos [.int (n : Int)] = [some (.int (n : Int)), none, none] from rfl]
    try dsimp only [cxK]
    walk_at "wp"
    refine forR1_by (fun i σ' H' => ∃ (y : Option V) (P : Nat), P = 2 ^ i ∧ σ' = [some (.int (n : Int)), some (.int (P : Int)), y] ∧ H = H') (by omega) ⟨none, 1, rfl, rfl, rfl⟩ ?_ ?_
    · rintro i σ' H' hi ⟨y, P, hP, rfl, rfl⟩
      have hp : P ≤ 2 ^ 200 := by rw [hP]; exact Nat.pow_le_pow_right (by decide) (by omega)
      walk_at "wp"
      refine ⟨_, 2 * P, ?_, rfl, rfl⟩
      rw [hP, Nat.pow_succ']
    · rintro σ' H' ⟨y, P, rfl, rfl, rfl⟩
      walk_at "wp"
      rw [Int.toNat_natCast]
      exact q

/-! ### _law_shared -/
def sp__law_shared (K : PySem.W.Frag) : Sp := fun vs H Q _ => ∃ a b : Nat, vs = [.int (a : Int), .int (b : Int)] ∧ b < 2 ^ 190 ∧ Q (.int (Nat.gcd a b : Int)) H
theorem ok__law_shared (T : Top K mg) : FnOk P w K mg base CX0 1 T.f__law_shared T.fd__law_shared ["a", "b"] (sp__law_shared K) := by
  refine T.F__law_shared.ok sc__law_shared (fun vs H Q E h => ?_) (fun cdv A outer s H vs Q E hr h => ?_)
  · obtain ⟨a, b, rfl, _⟩ := h
    rfl
  · obtain ⟨a, b, rfl, hb, q⟩ := h
    refine ⟨_, (pss_cons (ps_for PassesOwn.never (by rfl) (pi_range1 (by rfl) T.z_range (pa_cons pe_int pa_nil)) (pg_name (i := 2) sc__law_shared.nd (by rfl) (by first | exact Or.inl rfl | exact Or.inr rfl)) (pss_cons (ps_if (pt_cmpR op_eq (pv 1) pe_int (nomark _)) (pss_one (ps_ret (pv 0))) pss_nil)
      (pss_one (ps_par (i := 0) (j := 1) (by rfl) sc__law_shared.nd (by rfl) (by rfl) (by decide) (by rfl) (by rfl) (pa_cons (pv 1) (pa_cons (pe_op op_modD (pe_callTy cl_int (by rfl) T.z_int (by decide +kernel) (pa_cons (pv 0) pa_nil)) (pv 1)) pa_nil)) (by rfl)))))
      (pss_one (ps_ret (pv 0)))), ?_⟩
    rw [show start N__law_shared [.int (a : Int), .int (b : Int)] = [some (.int (a : Int)), some (.int (b : Int)), none] from rfl]
    try dsimp only [cxK]
    walk_at "wp"
    refine forR1_by (fun i σ' H' => ∃ (y : Option V) (a' b' : Nat), σ' = [some (.int (a' : Int)), some (.int (b' : Int)), y] ∧ H = H' ∧ Eu a b i a' b') (by omega) ⟨none, a, b, rfl, rfl, Eu.start a b⟩ ?_ ?_
    · rintro i σ' H' hi ⟨y, a', b', rfl, rfl, he⟩
      walk_at "wp"
      refine w_iteD (fun h => ?_) (fun h => ?_)
      · walk_at "wp"
        have hb0 : b' = 0 := by omega
        subst hb0
        rw [he.zero]
        exact q
      · walk_at "wp"
        exact ⟨_, b', a' % b', rfl, rfl, he.step hb (by omega)⟩
    · rintro σ' H' ⟨y, a', b', rfl, rfl, he⟩
      walk_at "wp"
      rw [he.done (by decide)]
      exact q

/-! ### _law_less -/
def sp__law_less (K : PySem.W.Frag) : Sp := fun vs H Q _ => ∃ (v w : V) (x y : Nat × Nat), vs = [v, w] ∧ Dp K H v (pd x) ∧ Dp K H w (pd y) ∧ (x.1 < 2 ^ 1850 ∧ x.2 < 2 ^ 1850 ∧ y.1 < 2 ^ 1850 ∧ y.2 < 2 ^ 1850) ∧ Q (.bl (decide ((x.1 : Int) * y.2 < y.1 * x.2))) H
theorem ok__law_less (T : Top K mg) : FnOk P w K mg base CX0 1 T.f__law_less T.fd__law_less ["x", "y"] (sp__law_less K) := by
  refine T.F__law_less.ok sc__law_less (fun vs H Q E h => ?_) (fun cdv A outer s H vs Q E hr h => ?_)
  · obtain ⟨v, w, x, y, rfl, _⟩ := h
    rfl
  · obtain ⟨v, w, x, y, rfl, hv, hw, ⟨z1, z2, z3, z4⟩, q⟩ := h
    refine ⟨_, (pss_one (ps_ret (pe_cmpR op_lt (pe_op op_mulX (pe_ix (ix_tupK (K := K)) (pv 0) pe_int (fun _ _ => rfl)) (pe_ix (ix_tupK (K := K)) (pv 1) pe_int (fun _ _ => rfl))) (pe_op op_mulX (pe_ix (ix_tupK (K := K)) (pv 1) pe_int (fun _ _ => rfl)) (pe_ix (ix_tupK (K := K)) (pv 0) pe_int (fun _ _ => rfl))) (nomark _)))), ?_⟩
    rw [show start N__law_less [v, w] = [some (v), some (w)] from rfl]
    try dsimp only [cxK]
    have m1 : CMulX (x.1 : Int) (y.2 : Int) := wideX (a := 1850) (b := 1850) (by rw [Int.natAbs_natCast]; exact z1) (by rw [Int.natAbs_natCast]; exact z4) (by decide)
    have m2 : CMulX (y.1 : Int) (x.2 : Int) := wideX (a := 1850) (b := 1850) (by rw [Int.natAbs_natCast]; exact z3) (by rw [Int.natAbs_natCast]; exact z2) (by decide)
    clear z1 z2 z3 z4
    walk_at "wp"
    exact q

/-! ### _law_lowest -/
def sp__law_lowest (K : PySem.W.Frag) : Sp := fun vs H Q _ => ∃ p q : Nat, vs = [.int (p : Int), .int (q : Int)] ∧ 0 < q ∧ q < 2 ^ 1990 ∧ ∀ v H', Same H H' → Dp K H' v (pd (red p q)) → Q v H'
theorem ok__law_lowest (T : Top K mg) : FnOk P w K mg base CX0 1 T.f__law_lowest T.fd__law_lowest ["top", "bottom"] (sp__law_lowest K) := by
  refine T.F__law_lowest.ok sc__law_lowest (fun vs H Q E h => ?_) (fun cdv A outer s H vs Q E hr h => ?_)
  · obtain ⟨p, q, rfl, _⟩ := h
    rfl
  · obtain ⟨p, q, rfl, h0, h1, q1⟩ := h
    refine ⟨_, (pss_cons (ps_par (i := 2) (j := 3) (by rfl) sc__law_lowest.nd (by rfl) (by rfl) (by decide) (by rfl) (by rfl) (pa_cons (pv 0) (pa_cons (pv 1) pa_nil)) (by rfl))
      (pss_cons (ps_for PassesOwn.never (by rfl) (pi_range1 (by rfl) T.z_range (pa_cons pe_int pa_nil)) (pg_name (i := 4) sc__law_lowest.nd (by rfl) (by first | exact Or.inl rfl | exact Or.inr rfl)) (pss_cons (ps_if (pt_cmpR op_eq (pv 3) pe_int (nomark _)) (pss_one ps_break) pss_nil)
      (pss_one (ps_par (i := 2) (j := 3) (by rfl) sc__law_lowest.nd (by rfl) (by rfl) (by decide) (by rfl) (by rfl) (pa_cons (pv 3) (pa_cons (pe_op op_modD (pe_callTy cl_int (by rfl) T.z_int (by decide +kernel) (pa_cons (pv 2) pa_nil)) (pv 3)) pa_nil)) (by rfl)))))
      (pss_one (ps_ret (pe_tup (pa_cons (pe_op op_fdivW (pv 0) (pv 2)) (pa_cons (pe_op op_fdivW (pv 1) (pv 2)) pa_nil))))))), ?_⟩
    rw [show start N__law_lowest [.int (p : Int), .int (q : Int)] = [some (.int (p : Int)), some (.int (q : Int)), none, none, none] from rfl]
    try dsimp only [cxK]
    have g0 : 0 < Nat.gcd p q := Nat.gcd_pos_of_pos_right p h0
    have g1 : Nat.gcd p q < 2 ^ 1990 := Nat.lt_of_le_of_lt (Nat.le_of_dvd h0 (Nat.gcd_dvd_right p q)) h1
    have hc : ∀ i : Int, CDivW i ((Nat.gcd p q : Nat) : Int) := fun i => wide_div (b := 1990) (Int.natCast_pos.mpr g0) (by rw [Int.natAbs_natCast]; exact g1) (by decide) (by decide)
    have st : ∀ {i a b : Nat}, EuB 1990 p q i a b → b ≠ 0 → EuB 1990 p q (i + 1) b (a % b) := fun h z => h.step h1 z
    clear h1 g1
    walk_at "wp"
    refine forR1_by (fun i σ' H' => ∃ (y : Option V) (a b : Nat), σ' = [some (.int (p : Int)), some (.int (q : Int)), some (.int (a : Int)), some (.int (b : Int)), y] ∧ H = H' ∧ EuB 1990 p q i a b) (by omega) ⟨none, p, q, rfl, rfl, .start _ p q⟩ ?_ ?_
    · rintro i σ' H' hi ⟨y, a, b, rfl, rfl, he⟩
      walk_at "wp"
      refine w_iteD (fun h => ?_) (fun h => ?_)
      · have hb : b = 0 := by omega
        subst hb
        have ha := he.zero
        subst ha
        walk_at "wp"
        refine w_rI (C := CDivW) (hc _) ?_
        walk_at "wp"
        refine w_rI (C := CDivW) (hc _) ?_
        walk_at "wp"
        refine w_newT (K := K) (ds := [.int ((p : Int) / (Nat.gcd p q : Nat)), .int ((q : Int) / (Nat.gcd p q : Nat))]) (len_ok (by simp)) (.cons (.int _) (dpa_one (.int _))) fun t H1 n1 e1 d1 => ?_
        exact q1 _ H1 e1 d1
      · walk_at "wp"
        exact ⟨_, b, a % b, rfl, rfl, st he (by omega)⟩
    · rintro σ' H' ⟨y, a, b, rfl, rfl, he⟩
      have hb := he.done (by decide)
      subst hb
      have ha := he.zero
      subst ha
      walk_at "wp"
      refine w_rI (C := CDivW) (hc _) ?_
      walk_at "wp"
      refine w_rI (C := CDivW) (hc _) ?_
      walk_at "wp"
      refine w_newT (K := K) (ds := [.int ((p : Int) / (Nat.gcd p q : Nat)), .int ((q : Int) / (Nat.gcd p q : Nat))]) (len_ok (by simp)) (.cons (.int _) (dpa_one (.int _))) fun t H1 n1 e1 d1 => ?_
      exact q1 _ H1 e1 d1

/-! ### _law_sum -/
def sp__law_sum (K : PySem.W.Frag) : Sp := fun vs H Q _ => ∃ n : Nat, vs = [.int (n : Int)] ∧ 1 ≤ n ∧ n ≤ 60 ∧ ∀ v H', Same H H' → Dp K H' v (pd (twN n)) → Q v H'
theorem ok__law_sum (T : Top K mg) : FnOk P w K mg base CX0 2 T.f__law_sum T.fd__law_sum ["most"] (sp__law_sum K) := by
  refine T.F__law_sum.ok sc__law_sum (fun vs H Q E h => ?_) (fun cdv A outer s H vs Q E hr h => ?_)
  · obtain ⟨n, rfl, _⟩ := h
    rfl
  · obtain ⟨n, rfl, h0, h1, q1⟩ := h
    refine ⟨_, (pss_cons (ps_asg (pe_tup (pa_cons pe_int (pa_cons pe_int pa_nil))) (pg_tupK (K := K) (n := 2) (by rfl) (pgs_cons (pg_name (i := 1) sc__law_sum.nd (by rfl) (by first | exact Or.inl rfl | exact Or.inr rfl)) (pgs_cons (pg_name (i := 2) sc__law_sum.nd (by rfl) (by first | exact Or.inl rfl | exact Or.inr rfl)) pgs_nil))))
      (pss_cons (ps_for PassesOwn.never (by rfl) (pi_range2 (by rfl) T.z_range (pa_cons pe_int (pa_cons (pe_op op_add (pv 0) pe_int) pa_nil))) (pg_name (i := 3) sc__law_sum.nd (by rfl) (by first | exact Or.inl rfl | exact Or.inr rfl)) (pss_cons (ps_set (i := 4) sc__law_sum.nd (by rfl) (by first | exact Or.inl rfl | exact Or.inr rfl) (pe_op op_sub (pe_call (ok__law_twos T) (hr.mono (by decide)) (by rfl) T.g__law_twos T.F__law_twos.kp T.b__law_twos .nil pass0 (pa_cons (pv 3) pa_nil)) pe_int))
      (pss_cons (ps_set (i := 5) sc__law_sum.nd (by rfl) (by first | exact Or.inl rfl | exact Or.inr rfl) (pe_callB (cl_len (K := K)) (by rfl) T.z_len (by decide +kernel) (pa_cons (pe_lc (own := [("p", 6)]) (g := gName 6) (by rfl) sc__law_sum.nd (pi_range2 (by rfl) T.z_range (pa_cons pe_int (pa_cons (pv 3) pa_nil))) (blkOk_by (own := [("p", 6)]) (N := N__law_sum) (sc := defScope s__law_sum) (by decide +kernel)) (fun _ _ _ _ _ => (pg_name (i := 6) sc__law_sum.nd (by rfl) (by first | exact Or.inl rfl | exact Or.inr rfl))) (fun _ _ _ _ _ => (pts_one (pt_cmpR op_eq (pe_call (ok__law_shared T) (hr.mono (by decide)) (by rfl) T.g__law_shared T.F__law_shared.kp T.b__law_shared .nil pass0 (pa_cons (pv 6) (pa_cons (pv 3) pa_nil))) pe_int (nomark _)))) (fun _ _ _ _ _ => (pv 6))) pa_nil)))
      (pss_one (ps_asg (pe_call (ok__law_lowest T) (hr.mono (by decide)) (by rfl) T.g__law_lowest T.F__law_lowest.kp T.b__law_lowest .nil pass0 (pa_cons (pe_op op_add (pe_op op_mulX (pv 1) (pv 4)) (pe_op op_mulX (pv 5) (pv 2))) (pa_cons (pe_op op_mulX (pv 2) (pv 4)) pa_nil))) (pg_tupK (K := K) (n := 2) (by rfl) (pgs_cons (pg_name (i := 1) sc__law_sum.nd (by rfl) (by first | exact Or.inl rfl | exact Or.inr rfl)) (pgs_cons (pg_name (i := 2) sc__law_sum.nd (by rfl) (by first | exact Or.inl rfl | exact Or.inr rfl)) pgs_nil))))))))
      (pss_one (ps_ret (pe_tup (pa_cons (pv 1) (pa_cons (pv 2) pa_nil))))))), ?_⟩
    rw [show start N__law_sum [.int (n : Int)] = [some (.int (n : Int)), none, none, none, none, none, none] from rfl]
    try dsimp only [cxK]
    walk_at "wp"
    refine w_newT (K := K) (ds := [.int 0, .int 1]) (len_ok (by simp)) (.cons (.int _) (dpa_one (.int _))) fun t0 H0 n0 e0 d0 => ?_
    refine w_gTup2 d0 fun v1 v2 g1 g2 => ?_
    cases g1
    cases g2
    walk_at "wp"
    refine forR2_by (fun i σ' H' => ∃ (y1 y2 y3 y4 : Option V) (t b : Nat), σ' = [some (.int (n : Int)), some (.int (t : Int)), some (.int (b : Int)), y1, y2, y3, y4] ∧ Same H H' ∧ (t, b) = twN (1 + i)) (by omega) ⟨none, none, none, none, 0, 1, rfl, e0, rfl⟩ ?_ ?_
    · rintro i σ' H' hi ⟨y1, y2, y3, y4, t, b, rfl, s1, hs⟩
      have hn2 : 1 + i + 1 ≤ 60 := by omega
      obtain ⟨o1, o2, o3, o4⟩ := tw_ok (n := 1 + i) (by omega) (by omega)
      obtain ⟨p1, p2⟩ := tw_pre (n := 1 + i) (by omega) (by omega)
      have hsu := tw_succ (n := 1 + i) (by omega)
      rw [← hs] at o1 o2 o3 p1 p2 hsu
      rw [show 1 + i + 1 = 2 + i by omega] at p1 p2 hsu
      dsimp only at o1 o2 o3 p1 p2 hsu
      walk_at "wp"
      refine ⟨2 + i, by simp, by omega, ?_⟩
      walk_at "wp"
      refine lc_rng2_by (K := K) (JP H' fun j es => es = ((List.range' 1 j).filter fun p => decide (Nat.gcd p (2 + i) = 1)).map fun p : Nat => PyData.int (p : Int)) (JP.ok rfl) (by omega) (fun _ => rfl) ?_ ?_
      · rintro j H2 es hj ⟨s2, rfl⟩ Yes No hyes hno
        rw [show (1 : Int) + (j : Int) = ((1 + j : Nat) : Int) by omega]
        walk_at "wp"
        refine ⟨1 + j, 2 + i, by simp, by omega, ?_⟩
        walk_at "wp"
        have e := List.range'_concat (s := 1) (n := j) (step := 1)
        rw [Nat.one_mul] at e
        refine w_iteD (fun h => ?_) (fun h => ?_)
        · walk_at "wp"
          refine hyes _ _ (.int ((1 + j : Nat) : Int)) (Keep.refl _) rfl (.int _) ⟨s2, ?_⟩
          have hg : Nat.gcd (1 + j) (2 + i) = 1 := by omega
          have eg : List.filter (fun p => decide (Nat.gcd p (2 + i) = 1)) [1 + j] = [1 + j] := by simp [hg]
          dsimp only
          rw [e, List.filter_append, List.map_append, eg]
          rfl
        · refine hno _ (Keep.refl _) ⟨s2, ?_⟩
          have hg : ¬ Nat.gcd (1 + j) (2 + i) = 1 := by omega
          have eg : List.filter (fun p => decide (Nat.gcd p (2 + i) = 1)) [1 + j] = [] := by simp [hg]
          dsimp only
          rw [e, List.filter_append, List.map_append, eg]
          simp
      · rintro p H2 vs es hn k2 hv dl ⟨s2, rfl⟩
        rw [show ((2 + (i : Int)) - 1).toNat = 2 + i - 1 by omega] at dl
        generalize hC : phW (2 + i) = C at *
        have hCb : C < 2 ^ 61 := by
          have := all60 ph_check60 (n := 1 + i) (by omega) (by omega)
          rw [show 1 + i - 1 + 2 = 2 + i by omega, hC] at this
          exact Nat.lt_trans (of_decide_eq_true this) (by decide)
        have hW1 : 1 ≤ 2 ^ (2 + i) := Nat.one_le_two_pow
        have hWb : 2 ^ (2 + i) ≤ 2 ^ 61 := Nat.pow_le_pow_right (by decide) (by omega)
        obtain ⟨W, hW⟩ : ∃ W, 2 ^ (2 + i) - 1 = W := ⟨_, rfl⟩
        have hWz : 0 < W := by
          have : 2 ^ 1 ≤ 2 ^ (2 + i) := Nat.pow_le_pow_right (by decide) (by omega)
          omega
        have hWi : ((2 ^ (2 + i) : Nat) : Int) - 1 = (W : Int) := by omega
        have hWlt : W < 2 ^ 61 := by omega
        have ht : t < 2 ^ 1850 := Nat.lt_trans o2 o3
        have nz : 0 < b * W := Nat.mul_pos o1 hWz
        have m1 : CMulX (t : Int) (W : Int) := wideX (a := 1850) (b := 61) (by rw [Int.natAbs_natCast]; exact ht) (by rw [Int.natAbs_natCast]; exact hWlt) (by decide)
        have m2 : CMulX (C : Int) (b : Int) := wideX (a := 61) (b := 1850) (by rw [Int.natAbs_natCast]; exact hCb) (by rw [Int.natAbs_natCast]; exact o3) (by decide)
        have m3 : CMulX (b : Int) (W : Int) := wideX (a := 1850) (b := 61) (by rw [Int.natAbs_natCast]; exact o3) (by rw [Int.natAbs_natCast]; exact hWlt) (by decide)
        rw [hW] at p1 p2 hsu
        clear o3 ht hCb hWb hWlt
        walk_at "wp"
        rw [List.length_map, show (List.filter (fun p => decide (Nat.gcd p (2 + i) = 1)) (List.range' 1 (2 + i - 1))).length = C from hC, hWi]
        refine w_rI (C := CMulX) m1 ?_
        walk_at "wp"
        refine ⟨t * W + C * b, b * W, by simp, nz, p2, fun v H3 e3 d3 => ?_⟩
        rw [← hsu] at d3
        refine w_gTup2 d3 fun v1 v2 g1 g2 => ?_
        cases g1
        cases g2
        exact ⟨_, _, _, _, (twN (2 + i)).1, (twN (2 + i)).2, rfl, (s1.trans s2).trans e3, by rw [show 1 + (i + 1) = 2 + i by omega]⟩
    · rintro σ' H' ⟨y1, y2, y3, y4, t, b, rfl, s1, hs⟩
      walk_at "wp"
      refine w_newT (K := K) (ds := [.int (t : Int), .int (b : Int)]) (len_ok (by simp)) (.cons (.int _) (dpa_one (.int _))) fun t0 H1 n1 e1 d1 => ?_
      rw [show 1 + ((n : Int) + 1 - 2).toNat = n by omega] at hs
      refine q1 _ H1 (s1.trans e1) ?_
      rw [← hs]
      exact d1

/-! ### turning_widths -/
def sp_turning_widths {K : PySem.W.Frag} {mg : Str → Option Value} (T : Top K mg) : Sp := fun vs H Q E => ∃ most : Int, vs = [.int most] ∧ ((60 < most ∧ ∀ d H', Same H H' → H' d = some (.xd [("limit", .int 60)]) → E (.ref T.c_TooMany) (some d) H') ∨
  ∃ n : Nat, most = (n : Int) ∧ 1 ≤ n ∧ n ≤ 60 ∧ ∀ v H', Same H H' → Dp K H' v (p4 (twN n).1 (twN n).2 (((twN n).2 : Int) - (twN n).1) (twN n).2) → Q v H')
theorem ok_turning_widths (T : Top K mg) : FnOk P w K mg base (CX P w) 3 T.f_turning_widths T.fd_turning_widths ["most"] (sp_turning_widths T) := by
  refine T.F_turning_widths.okX sc_turning_widths (fun vs H Q E h => ?_) (fun cdv A outer s H vs Q E hr h => ?_)
  · obtain ⟨most, rfl, _⟩ := h
    rfl
  · obtain ⟨most, rfl, h⟩ := h
    refine ⟨_, (pss_cons (ps_if (pt_cmpR op_gt (pv 0) (pe_cint (by rfl) T.c_MOST_WIDTHS) (nomark _)) (pss_one (ps_raise rfl (takes_of rfl rfl rfl rfl) (pmk_oex T.x_TooMany.o T.iC_TooMany T.tI_TooMany (ok_TooMany__init T) (hr.mono (by decide)) T.b_TooMany__init .nil pass0 (by rfl) T.gc_TooMany (pa_cons (pe_cint (by rfl) T.c_MOST_WIDTHS) pa_nil)))) pss_nil)
      (PSs.nox (pss_cons (ps_set (i := 1) sc_turning_widths.nd (by rfl) (by first | exact Or.inl rfl | exact Or.inr rfl) pe_int)
      (pss_cons (ps_set (i := 2) sc_turning_widths.nd (by rfl) (by first | exact Or.inl rfl | exact Or.inr rfl) pe_int)
      (pss_cons (ps_for PassesOwn.never (by rfl) (pi_range2 (by rfl) T.z_range (pa_cons pe_int (pa_cons (pe_op op_add (pv 0) pe_int) pa_nil))) (pg_name (i := 3) sc_turning_widths.nd (by rfl) (by first | exact Or.inl rfl | exact Or.inr rfl)) (pss_cons (ps_set (i := 4) sc_turning_widths.nd (by rfl) (by first | exact Or.inl rfl | exact Or.inr rfl) (pe_op op_sub (pe_op op_shl pe_int (pv 3)) pe_int))
      (pss_one (ps_asg (pe_call (ok_reduced T) (hr.mono (by decide)) (by rfl) T.g_reduced T.F_reduced.kp T.b_reduced .nil pass0 (pa_cons (pe_op op_add (pe_op op_mulX (pv 1) (pv 4)) (pe_op op_mulX (pe_callB (cl_len (K := K)) (by rfl) T.z_len (by decide +kernel) (pa_cons (pe_call (ok__tops T) (hr.mono (by decide)) (by rfl) T.g__tops T.F__tops.kp T.b__tops .nil pass0 (pa_cons (pv 3) pa_nil)) pa_nil)) (pv 2))) (pa_cons (pe_op op_mulX (pv 2) (pv 4)) pa_nil))) (pg_tupK (K := K) (n := 2) (by rfl) (pgs_cons (pg_name (i := 1) sc_turning_widths.nd (by rfl) (by first | exact Or.inl rfl | exact Or.inr rfl)) (pgs_cons (pg_name (i := 2) sc_turning_widths.nd (by rfl) (by first | exact Or.inl rfl | exact Or.inr rfl)) pgs_nil)))))))
      (pss_one (ps_ret (pe_tup (pa_cons (pe_tup (pa_cons (pv 1) (pa_cons (pv 2) pa_nil))) (pa_cons (pe_tup (pa_cons (pe_op op_sub (pv 2) (pv 1)) (pa_cons (pv 2) pa_nil))) pa_nil)))))))))), ?_⟩
    rw [show start N_turning_widths [.int most] = [some (.int most), none, none, none, none] from rfl]
    try dsimp only [cxK]
    walk_at "wp"
    rcases h with ⟨h1, q⟩ | ⟨n, rfl, h0, h1, q⟩
    · refine w_iteD (fun _ => ?_) (fun h => absurd h1 h)
      walk_at "wp"
      refine ⟨by simp, fun a ha => ⟨a, T.c_TooMany, 60, rfl, T.x_TooMany.o, T.n_TooMany_limit, upd_same, by decide, by decide, fun dx hdx hne => ⟨rfl, dx, [("limit", .int 60)], upd_same, ?_, ?_, ?_⟩⟩⟩
      · rw [upd_ne hne]; exact upd_same
      · rw [upd_ne hne] at hdx; exact hdx
      · rw [upd_ne hne] at hdx
        exact q dx _ (raise_same ha hdx) upd_same
    · refine w_iteD (fun h => absurd h (by omega)) (fun _ => ?_)
      walk_at "wp"
      refine forR2_by (fun i σ' H' => ∃ (y1 y2 : Option V) (t b : Nat), σ' = [some (.int (n : Int)), some (.int (t : Int)), some (.int (b : Int)), y1, y2] ∧ Same H H' ∧ (t, b) = twN (1 + i)) (by omega) ⟨none, none, 0, 1, rfl, Same.refl _, rfl⟩ ?_ ?_
      · rintro i σ' H' hi ⟨y1, y2, t, b, rfl, s1, hs⟩
        have hn2 : 1 + i + 1 ≤ 60 := by omega
        obtain ⟨o1, o2, o3, o4⟩ := tw_ok (n := 1 + i) (by omega) (by omega)
        obtain ⟨p1, p2⟩ := tw_pre (n := 1 + i) (by omega) (by omega)
        have hsu := tw_succ (n := 1 + i) (by omega)
        rw [← hs] at o1 o2 o3 p1 p2 hsu
        rw [show 1 + i + 1 = 2 + i by omega] at p1 p2 hsu
        dsimp only at o1 o2 o3 p1 p2 hsu
        generalize hC : phW (2 + i) = C at *
        have hCb : C < 2 ^ 61 := by
          have := all60 ph_check60 (n := 1 + i) (by omega) (by omega)
          rw [show 1 + i - 1 + 2 = 2 + i by omega, hC] at this
          exact Nat.lt_trans (of_decide_eq_true this) (by decide)
        have hW1 : 1 ≤ 2 ^ (2 + i) := Nat.one_le_two_pow
        have hWb : 2 ^ (2 + i) ≤ 2 ^ 61 := Nat.pow_le_pow_right (by decide) (by omega)
        obtain ⟨W, hW⟩ : ∃ W, 2 ^ (2 + i) - 1 = W := ⟨_, rfl⟩
        have hWz : 0 < W := by
          have : 2 ^ 1 ≤ 2 ^ (2 + i) := Nat.pow_le_pow_right (by decide) (by omega)
          omega
        have hWi : ((2 ^ (2 + i) : Nat) : Int) - 1 = (W : Int) := by omega
        have hWlt : W < 2 ^ 61 := by omega
        have ht : t < 2 ^ 1850 := Nat.lt_trans o2 o3
        have nz : 0 < b * W := Nat.mul_pos o1 hWz
        have m1 : CMulX (t : Int) (W : Int) := wideX (a := 1850) (b := 61) (by rw [Int.natAbs_natCast]; exact ht) (by rw [Int.natAbs_natCast]; exact hWlt) (by decide)
        have m2 : CMulX (C : Int) (b : Int) := wideX (a := 61) (b := 1850) (by rw [Int.natAbs_natCast]; exact hCb) (by rw [Int.natAbs_natCast]; exact o3) (by decide)
        have m3 : CMulX (b : Int) (W : Int) := wideX (a := 1850) (b := 61) (by rw [Int.natAbs_natCast]; exact o3) (by rw [Int.natAbs_natCast]; exact hWlt) (by decide)
        rw [hW] at p1 p2 hsu
        clear o3 ht hCb hWb hWlt
        have hsh : (1 : Int) * 2 ^ (2 + (i : Int)).toNat - 1 = (W : Int) := by
          rw [show (2 + (i : Int)).toNat = 2 + i by omega, Int.one_mul, ← hWi]
          simp
        walk_at "wp"
        refine w_rI (C := CPow) ⟨by omega, by omega, by decide⟩ ?_
        walk_at "wp"
        rw [hsh]
        walk_at "wp"
        refine ⟨2 + i, by simp, by omega, by omega, fun v H1 e1 d1 => ?_⟩
        walk_at "wp"
        rw [List.length_map, show (List.filter (fun p => decide (Nat.gcd p (2 + i) = 1)) (List.range' 1 (2 + i - 1))).length = C from hC]
        walk_at "wp"
        refine ⟨t * W + C * b, b * W, by simp, nz, p2, fun v H3 e3 d3 => ?_⟩
        rw [← hsu] at d3
        refine w_gTup2 d3 fun v1 v2 g1 g2 => ?_
        cases g1
        cases g2
        exact ⟨_, _, (twN (2 + i)).1, (twN (2 + i)).2, rfl, (s1.trans e1).trans e3, by rw [show 1 + (i + 1) = 2 + i by omega]⟩
      · rintro σ' H' ⟨y1, y2, t, b, rfl, s1, hs⟩
        walk_at "wp"
        refine w_newT (K := K) (ds := [.int (t : Int), .int (b : Int)]) (len_ok (by simp)) (.cons (.int _) (dpa_one (.int _))) fun t0 H1 n1 e1 d1 => ?_
        walk_at "wp"
        refine w_newT (K := K) (ds := [.int ((b : Int) - t), .int (b : Int)]) (len_ok (by simp)) (.cons (.int _) (dpa_one (.int _))) fun t1 H2 n2 e2 d2 => ?_
        walk_at "wp"
        refine w_newT (K := K) (len_ok (by simp)) (.cons (dp_same e2 d1) (dpa_one d2)) fun t2 H3 n3 e3 d3 => ?_
        rw [show 1 + ((n : Int) + 1 - 2).toNat = n by omega] at hs
        refine q _ H3 (((s1.trans e1).trans e2).trans e3) ?_
        rw [← hs]
        exact d3

/-! ### _law_limit -/
def sp__law_limit (K : PySem.W.Frag) : Sp := fun vs H Q _ => ∃ most : Int, vs = [.int most] ∧ ((60 < most ∧ ∀ H', Same H H' → Q (.int 60) H') ∨ ∃ n : Nat, most = (n : Int) ∧ 1 ≤ n ∧ n ≤ 60 ∧ ∀ H', Same H H' → Q .non H')
theorem ok__law_limit (T : Top K mg) : FnOk P w K mg base CX0 4 T.f__law_limit T.fd__law_limit ["most"] (sp__law_limit K) := by
  refine T.F__law_limit.ok sc__law_limit (fun vs H Q E h => ?_) (fun cdv A outer s H vs Q E hr h => ?_)
  · obtain ⟨most, rfl, _⟩ := h
    rfl
  · obtain ⟨most, rfl, h⟩ := h
    refine ⟨_, (pss_cons (ps_try_as (i := 1) rfl rfl sc__law_limit.nd (by rfl) (by rfl) ⟨rfl, by decide, .inl T.gc_TooMany⟩ L2.takes0 (fun W pn xe tk _ => (pss_one (ps_expr (pe_callS (ok_turning_widths T) (hr.mono (by decide)) (by rfl) T.g_turning_widths T.F_turning_widths.kp T.b_turning_widths (fun σ => passAt tk σ) (pa_cons (pv 0) pa_nil))))) (fun a oe cls d pn hz hf => (pss_one (ps_ret (pe_xf T.x_TooMany.f T.n_TooMany_limit hz hf (pv 1))))))
      (pss_one (ps_ret pe_non))), ?_⟩
    rw [show start N__law_limit [.int most] = [some (.int most), none] from rfl]
    try dsimp only [cxK]
    walk_at "wp"
    rcases h with ⟨h1, q⟩ | ⟨n, rfl, h0, h1, q⟩
    · refine ⟨most, rfl, .inl ⟨h1, fun d H' e hd => ⟨true, T.e_TooMany_TooMany, fun _ a ha => ?_, fun z => absurd z (by decide)⟩⟩⟩
      walk_at "wp"
      exact ⟨rfl, rfl, d, _, _, rfl, hd, rfl, q _ e⟩
    · refine ⟨(n : Int), rfl, .inr ⟨n, rfl, h0, h1, fun v H' e hd => ?_⟩⟩
      walk_at "wp"
      exact q _ e

/-! ### law -/
def sp_law (K : PySem.W.Frag) : Sp := fun vs H Q _ => ∃ (a : Addr) (ns : List Int), vs = [.ref a] ∧ SqL K H a (ns.map V.int) ∧ ns.length ≤ 63 ∧ (∀ z ∈ ns, Builtin.Int.intBits z ≤ 1048576) ∧ ∀ H', Q (.bl true) H'
theorem ok_law (T : Top K mg) : FnG P w K mg base CX0 5 T.f_law T.fd_law ["script"] (sp_law K) := by
  refine FnG.of T.F_law sc_law (fun vs H Q E h => ?_) (fun cdv A outer s H vs Q E hgd hr h => ?_)
  · obtain ⟨a, ns, rfl, _⟩ := h
    rfl
  · obtain ⟨a, ns, rfl, hS, hl, hB, q⟩ := h
    refine ⟨_, (pss_cons (ps_set (i := 1) sc_law.nd (by rfl) (by first | exact Or.inl rfl | exact Or.inr rfl) (pe_call (ok__law_begun T) (hr.mono (by decide)) (by rfl) T.g__law_begun T.F__law_begun.kp T.b__law_begun .nil pass0 (pa_cons (pv 0) (pa_cons pe_int pa_nil))))
      (pss_cons (ps_set (i := 2) sc_law.nd (by rfl) (by first | exact Or.inl rfl | exact Or.inr rfl) (pe_op op_add pe_int (pe_call (ok__law_draw T) (hr.mono (by decide)) (by rfl) T.g__law_draw T.F__law_draw.kp T.b__law_draw .nil pass0 (pa_cons (pv 1) (pa_cons (pe_ifExp (pt_cmpR op_eq (pe_call (ok__law_draw T) (hr.mono (by decide)) (by rfl) T.g__law_draw T.F__law_draw.kp T.b__law_draw .nil pass0 (pa_cons (pv 1) (pa_cons pe_int pa_nil))) pe_int (nomark _)) pe_int pe_int) pa_nil)))))
      (pss_cons (ps_set (i := 3) sc_law.nd (by rfl) (by first | exact Or.inl rfl | exact Or.inr rfl) (pe_call (ok__law_sum T) (hr.mono (by decide)) (by rfl) T.g__law_sum T.F__law_sum.kp T.b__law_sum .nil pass0 (pa_cons (pv 2) pa_nil)))
      (pss_cons (ps_set (i := 4) sc_law.nd (by rfl) (by first | exact Or.inl rfl | exact Or.inr rfl) (pe_call (ok__law_lowest T) (hr.mono (by decide)) (by rfl) T.g__law_lowest T.F__law_lowest.kp T.b__law_lowest .nil pass0 (pa_cons (pe_op op_sub (pe_ix (ix_tupK (K := K)) (pv 3) pe_int (fun _ _ => rfl)) (pe_ix (ix_tupK (K := K)) (pv 3) pe_int (fun _ _ => rfl))) (pa_cons (pe_ix (ix_tupK (K := K)) (pv 3) pe_int (fun _ _ => rfl)) pa_nil))))
      (pss_cons (ps_set (i := 5) sc_law.nd (by rfl) (by first | exact Or.inl rfl | exact Or.inr rfl) (pe_call (ok_turning_widths T) (hr.mono (by decide)) (by rfl) T.g_turning_widths T.F_turning_widths.kp T.b_turning_widths .nil passF (pa_cons (pv 2) pa_nil)))
      (pss_cons (ps_if (PW.pt (pw_or (pt_cmpR op_ne (pe_callB (cr_repr (K := K) hgd hr.units) (by rfl) T.z_repr (by decide +kernel) (pa_cons (pv 5) pa_nil)) (pe_callB (cr_repr (K := K) hgd hr.units) (by rfl) T.z_repr (by decide +kernel) (pa_cons (pe_tup (pa_cons (pv 3) (pa_cons (pv 4) pa_nil))) pa_nil)) (nomark _)) (pw_or1 (pt_cmpR op_lt (pe_ix (ix_tupK (K := K)) (pv 4) pe_int (fun _ _ => rfl)) pe_int (nomark _))))) (pss_one (ps_ret pe_bl)) pss_nil)
      (pss_cons (ps_if (pt_cmpR op_lt (pv 2) pe_int (nomark _)) (pss_cons (ps_set (i := 6) sc_law.nd (by rfl) (by first | exact Or.inl rfl | exact Or.inr rfl) (pe_call (ok_turning_widths T) (hr.mono (by decide)) (by rfl) T.g_turning_widths T.F_turning_widths.kp T.b_turning_widths .nil passF (pa_cons (pe_op op_add (pe_op op_add (pv 2) pe_int) (pe_call (ok__law_draw T) (hr.mono (by decide)) (by rfl) T.g__law_draw T.F__law_draw.kp T.b__law_draw .nil pass0 (pa_cons (pv 1) (pa_cons (pe_op op_sub pe_int (pv 2)) pa_nil)))) pa_nil)))
      (pss_one (ps_if (PW.pt (pw_or (pt_not (pt_val (pe_call (ok__law_less T) (hr.mono (by decide)) (by rfl) T.g__law_less T.F__law_less.kp T.b__law_less .nil pass0 (pa_cons (pe_ix (ix_tupK (K := K)) (pv 5) pe_int (fun _ _ => rfl)) (pa_cons (pe_ix (ix_tupK (K := K)) (pv 6) pe_int (fun _ _ => rfl)) pa_nil))))) (pw_or (pt_not (pt_val (pe_call (ok__law_less T) (hr.mono (by decide)) (by rfl) T.g__law_less T.F__law_less.kp T.b__law_less .nil pass0 (pa_cons (pe_ix (ix_tupK (K := K)) (pv 6) pe_int (fun _ _ => rfl)) (pa_cons (pe_ix (ix_tupK (K := K)) (pv 5) pe_int (fun _ _ => rfl)) pa_nil))))) (pw_or1 (pt_cmpR op_lt (pe_ix (ix_tupK (K := K)) (pe_ix (ix_tupK (K := K)) (pv 6) pe_int (fun _ _ => rfl)) pe_int (fun _ _ => rfl)) pe_int (nomark _)))))) (pss_one (ps_ret pe_bl)) pss_nil))) pss_nil)
      (pss_cons (ps_if (PW.pt (pw_or (pt_cmpR op_ne (pe_callB (cr_repr (K := K) hgd hr.units) (by rfl) T.z_repr (by decide +kernel) (pa_cons (pe_call (ok_turning_widths T) (hr.mono (by decide)) (by rfl) T.g_turning_widths T.F_turning_widths.kp T.b_turning_widths .nil passF (pa_cons pe_int pa_nil)) pa_nil)) (pe_callB (cr_repr (K := K) hgd hr.units) (by rfl) T.z_repr (by decide +kernel) (pa_cons (pe_tup (pa_cons (pe_tup (pa_cons pe_int (pa_cons pe_int pa_nil))) (pa_cons (pe_tup (pa_cons pe_int (pa_cons pe_int pa_nil))) pa_nil))) pa_nil)) (nomark _)) (pw_or1 (pt_cmpR op_ne (pe_callB (cr_repr (K := K) hgd hr.units) (by rfl) T.z_repr (by decide +kernel) (pa_cons (pe_call (ok_turning_widths T) (hr.mono (by decide)) (by rfl) T.g_turning_widths T.F_turning_widths.kp T.b_turning_widths .nil passF (pa_cons pe_int pa_nil)) pa_nil)) (pe_callB (cr_repr (K := K) hgd hr.units) (by rfl) T.z_repr (by decide +kernel) (pa_cons (pe_tup (pa_cons (pe_tup (pa_cons pe_int (pa_cons pe_int pa_nil))) (pa_cons (pe_tup (pa_cons pe_int (pa_cons pe_int pa_nil))) pa_nil))) pa_nil)) (nomark _))))) (pss_one (ps_ret pe_bl)) pss_nil)
      (pss_one (ps_ret (pe_cmpR op_eq (pe_callB (cr_repr (K := K) hgd hr.units) (by rfl) T.z_repr (by decide +kernel) (pa_cons (pe_lst (pa_cons (pe_call (ok__law_limit T) (hr.mono (by decide)) (by rfl) T.g__law_limit T.F__law_limit.kp T.b__law_limit .nil pass0 (pa_cons (pe_op op_add pe_int (pe_call (ok__law_draw T) (hr.mono (by decide)) (by rfl) T.g__law_draw T.F__law_draw.kp T.b__law_draw .nil pass0 (pa_cons (pv 1) (pa_cons (pe_op op_pow pe_int pe_int) pa_nil)))) pa_nil)) (pa_cons (pe_call (ok__law_limit T) (hr.mono (by decide)) (by rfl) T.g__law_limit T.F__law_limit.kp T.b__law_limit .nil pass0 (pa_cons pe_int pa_nil)) pa_nil))) pa_nil)) (pe_callB (cr_repr (K := K) hgd hr.units) (by rfl) T.z_repr (by decide +kernel) (pa_cons (pe_lst (pa_cons pe_int (pa_cons pe_non pa_nil))) pa_nil)) (nomark _)))))))))))), ?_⟩
    rw [show start N_law [.ref a] = [some (.ref a), none, none, none, none, none, none] from rfl]
    try dsimp only [cxK]
    have hBig : ∀ n ∈ ns, Big n := fun n hn => Big.bits (hB n hn)
    walk_at "wp"
    refine ⟨a, ns, 0, rfl, hS, hl, hBig, by omega, by omega, fun m c H1 e1 n1 m1 => ?_⟩
    with_reducible refine w_seq ?_
    with_reducible refine w_asg ?_
    refine w_meet (fun v H2 => ∃ n : Nat, v = .int (n : Int) ∧ 1 ≤ n ∧ n ≤ 60 ∧ Mo H2 m c 200) (fun Q' hQ' => ?_) ?_
    · walk_at "wp"
      refine ⟨m, c, 4, 0, rfl, by decide, by decide, m1, by decide, fun d0 H2 _ _ k2 m2 => ?_⟩
      walk_at "wp"
      refine w_iteD (fun _ => ?_) (fun _ => ?_)
      · walk_at "wp"
        refine ⟨m, c, 60, _, rfl, by decide, by decide, m2, by decide, fun d H3 h0 h1 k3 m3 => ?_⟩
        walk_at "wp"
        exact hQ' _ _ ⟨(1 + d).toNat, by rw [Int.toNat_of_nonneg (by omega)], by omega, by omega, m3.mono (by omega)⟩
      · walk_at "wp"
        refine ⟨m, c, 16, _, rfl, by decide, by decide, m2, by decide, fun d H3 h0 h1 k3 m3 => ?_⟩
        walk_at "wp"
        exact hQ' _ _ ⟨(1 + d).toNat, by rw [Int.toNat_of_nonneg (by omega)], by omega, by omega, m3.mono (by omega)⟩
    · rintro v H2 ⟨n, rfl, hn1, hn2, m2⟩
      obtain ⟨o1, o2, o3, o4⟩ := tw_ok hn1 hn2
      walk_at "wp"
      refine ⟨n, rfl, hn1, hn2, fun vt H3 e3 d3 => ?_⟩
      walk_at "wp"
      have hb1 : (twN n).2 < 2 ^ 1990 := Nat.lt_trans o3 (Nat.pow_lt_pow_right (by decide) (by decide))
      have hrr := tw_rest hn1 hn2
      have big := shw_p4 (a := ((twN n).1 : Int)) (b := ((twN n).2 : Int)) (c := ((twN n).2 : Int) - (twN n).1) (d := ((twN n).2 : Int)) (by rw [Int.natAbs_natCast]; exact Nat.lt_trans o2 o3) (by rw [Int.natAbs_natCast]; exact o3) (Nat.lt_of_le_of_lt (by omega) o3) (by rw [Int.natAbs_natCast]; exact o3)
      clear o3
      refine ⟨(twN n).2 - (twN n).1, (twN n).2, by rw [Int.natCast_sub (Nat.le_of_lt o2)]; rfl, o1, hb1, fun vr H4 e4 d4 => ?_⟩
      rw [hrr] at d4
      clear hb1
      walk_at "wp"
      refine ⟨(n : Int), rfl, .inr ⟨n, rfl, hn1, hn2, fun vo H5 e5 d5 => ?_⟩⟩
      walk_at "wp"
      obtain ⟨ao, _, ev, _, _⟩ := dp_tup d5
      subst ev
      refine ⟨ao, _, rfl, d5, big, ?_⟩
      walk_at "wp"
      refine w_newT (K := K) (len_ok (by simp)) (.cons (dp_same (e4.trans e5) d3) (dpa_one (dp_same e5 d4))) fun t1 H6 n6 e6 d6 => ?_
      walk_at "wp"
      refine ⟨t1, p4 ((twN n).1 : Int) ((twN n).2 : Int) (((twN n).2 : Int) - (twN n).1) ((twN n).2 : Int), rfl, ?_, big, ?_⟩
      · unfold pd at d6
        dsimp only at d6
        rw [Int.natCast_sub (Nat.le_of_lt o2)] at d6
        exact d6
      walk_at "wp"
      rw [if_neg (by simp)]
      have c6 : Dp K H6 (.ref ao) (.tuple [pd (twN n), pd ((twN n).2 - (twN n).1, (twN n).2)]) := by
        unfold pd
        dsimp only
        rw [Int.natCast_sub (Nat.le_of_lt o2)]
        exact dp_same e6 d5
      have m6 : Mo H6 m c 200 := m2.same (((e3.trans e4).trans e5).trans e6)
      walk_at "wp"
      refine w_iteD (fun h => ?_) (fun _ => ?_)
      · dsimp only at h
        omega
      walk_at "wi"
      refine w_meetS (fun σ' H' => ∃ y : Option V, σ' = [some (.ref a), some (.ref m), some (.int (n : Int)), some vt, some vr, some (.ref ao), y] ∧ ∃ b, b < 300 ∧ Mo H' m c b) (fun D hD => ?_) ?_
      · walk_at "wp"
        refine w_iteD (fun h => ?_) (fun h => ?_)
        · walk_at "wp"
          refine ⟨m, c, 60 - (n : Int), _, rfl, by omega, by omega, m6, by omega, fun d H7 h0 h1 k7 m7 => ?_⟩
          obtain ⟨e, rfl⟩ := Int.eq_ofNat_of_zero_le h0
          have hN : n + e + 1 ≤ 60 := by omega
          obtain ⟨r1, r2, r3, r4⟩ := tw_ok (n := n + e + 1) (by omega) hN
          obtain ⟨_, _, q3, _⟩ := tw_ok hn1 hn2
          have hlt := tw_less hn1 e hN
          walk_at "wp"
          refine ⟨_, rfl, .inr ⟨n + e + 1, by omega, by omega, hN, fun vm H8 e8 d8 => ?_⟩⟩
          have c8 : Dp K H8 vm (.tuple [pd (twN (n + e + 1)), pd ((twN (n + e + 1)).2 - (twN (n + e + 1)).1, (twN (n + e + 1)).2)]) := by
            unfold pd
            dsimp only
            rw [Int.natCast_sub (Nat.le_of_lt r2)]
            exact d8
          have b8 := dp_same e8 (dp_keep k7 c6)
          have m8 := m7.same e8
          have hz : ((twN n).1 : Int) * (twN (n + e + 1)).2 < (twN (n + e + 1)).1 * (twN n).2 := by
            rw [← Int.natCast_mul, ← Int.natCast_mul]
            exact Int.ofNat_lt.mpr hlt
          have hz2 : (((twN (n + e + 1)).2 - (twN (n + e + 1)).1 : Nat) : Int) * (twN n).2 < (((twN n).2 - (twN n).1 : Nat) : Int) * (twN (n + e + 1)).2 := by
            rw [Int.natCast_sub (Nat.le_of_lt o2), Int.natCast_sub (Nat.le_of_lt r2), Int.sub_mul, Int.sub_mul, Int.mul_comm ((twN (n + e + 1)).2 : Int) ((twN n).2 : Int)]
            omega
          have z1 : (twN n).1 < 2 ^ 1850 := Nat.lt_trans o2 q3
          have z2 : (twN (n + e + 1)).1 < 2 ^ 1850 := Nat.lt_trans r2 r3
          have z3 : (twN n).2 - (twN n).1 < 2 ^ 1850 := Nat.lt_of_le_of_lt (Nat.sub_le _ _) q3
          have z4 : (twN (n + e + 1)).2 - (twN (n + e + 1)).1 < 2 ^ 1850 := Nat.lt_of_le_of_lt (Nat.sub_le _ _) r3
          have y1 := And.intro z1 (And.intro q3 (And.intro z2 r3))
          have y2 := And.intro z4 (And.intro r3 (And.intro z3 q3))
          clear z1 z2 z3 z4 q3 r3 hlt
          walk_at "wp"
          refine w_ixT (j := 0) b8 rfl rfl fun v1 g1 => ?_
          walk_at "wp"
          refine w_ixT (j := 0) c8 rfl rfl fun v2 g2 => ?_
          walk_at "wp"
          refine ⟨v1, v2, twN n, twN (n + e + 1), rfl, g1, g2, y1, ?_⟩
          rw [decide_eq_true hz]
          walk_at "wp"
          refine w_ixT (j := 1) c8 rfl rfl fun v3 g3 => ?_
          walk_at "wp"
          refine w_ixT (j := 1) b8 rfl rfl fun v4 g4 => ?_
          walk_at "wp"
          refine ⟨v3, v4, _, _, rfl, g3, g4, y2, ?_⟩
          rw [decide_eq_true hz2]
          walk_at "wp"
          refine w_ixT (j := 1) c8 rfl rfl fun v5 g5 => ?_
          walk_at "wp"
          refine w_iteD (fun h => ?_) (fun _ => ?_)
          · dsimp only at h
            omega
          walk_at "wp"
          exact hD _ _ ⟨_, rfl, _, by omega, m8⟩
        · walk_at "wp"
          exact hD _ _ ⟨_, rfl, _, by omega, m6⟩
      · rintro σ' H7 ⟨y, rfl, b, hb, m7⟩
        walk_at "wp"
        refine ⟨1, rfl, .inr ⟨1, rfl, by decide, by decide, fun v8 H8 e8 d8 => ?_⟩⟩
        rw [tw_two.1] at d8
        have d8 : Dp K H8 v8 (p4 0 1 1 1) := d8
        obtain ⟨a8, _, ev8, _, _⟩ := dp_tup d8
        subst ev8
        have sh8 : Shw (p4 0 1 1 1) := shw_p4 (by decide +kernel) (by decide +kernel) (by decide +kernel) (by decide +kernel)
        walk_at "wp"
        refine ⟨a8, _, rfl, d8, sh8, ?_⟩
        walk_at "wp"
        refine w_newT (K := K) (ds := [.int 0, .int 1]) (len_ok (by simp)) (.cons (.int _) (dpa_one (.int _))) fun t8a H8a _ e8a d8a => ?_
        walk_at "wp"
        refine w_newT (K := K) (ds := [.int 1, .int 1]) (len_ok (by simp)) (.cons (.int _) (dpa_one (.int _))) fun t8b H8b _ e8b d8b => ?_
        walk_at "wp"
        refine w_newT (K := K) (len_ok (by simp)) (.cons (dp_same e8b d8a) (dpa_one d8b)) fun t8c H8c _ e8c d8c => ?_
        walk_at "wp"
        refine ⟨t8c, p4 0 1 1 1, rfl, d8c, sh8, ?_⟩
        walk_at "wp"
        rw [if_neg (by simp)]
        walk_at "wp"
        refine ⟨3, rfl, .inr ⟨3, rfl, by decide, by decide, fun v9 H9 e9 d9 => ?_⟩⟩
        rw [tw_two.2] at d9
        have d9 : Dp K H9 v9 (p4 13 21 8 21) := d9
        obtain ⟨a9, _, ev9, _, _⟩ := dp_tup d9
        subst ev9
        have sh9 : Shw (p4 13 21 8 21) := shw_p4 (by decide +kernel) (by decide +kernel) (by decide +kernel) (by decide +kernel)
        walk_at "wp"
        refine ⟨a9, _, rfl, d9, sh9, ?_⟩
        walk_at "wp"
        refine w_newT (K := K) (ds := [.int 13, .int 21]) (len_ok (by simp)) (.cons (.int _) (dpa_one (.int _))) fun t9a H9a _ e9a d9a => ?_
        walk_at "wp"
        refine w_newT (K := K) (ds := [.int 8, .int 21]) (len_ok (by simp)) (.cons (.int _) (dpa_one (.int _))) fun t9b H9b _ e9b d9b => ?_
        walk_at "wp"
        refine w_newT (K := K) (len_ok (by simp)) (.cons (dp_same e9b d9a) (dpa_one d9b)) fun t9c H9c _ e9c d9c => ?_
        walk_at "wp"
        refine ⟨t9c, p4 13 21 8 21, rfl, d9c, sh9, ?_⟩
        walk_at "wp"
        rw [if_neg (by simp)]
        walk_at "wp"
        have m9 := m7.same ((((((e8.trans e8a).trans e8b).trans e8c).trans e9).trans e9a).trans (e9b.trans e9c))
        refine w_rI (C := CPow) ⟨by decide, by decide, by decide⟩ ?_
        walk_at "wp"
        refine ⟨m, c, 1000000, _, by simp, by decide, by decide, m9, by omega, fun d H10 h0 h1 k10 m10 => ?_⟩
        walk_at "wp"
        refine ⟨_, rfl, .inl ⟨by omega, fun H11 e11 => ?_⟩⟩
        walk_at "wp"
        refine ⟨60, rfl, .inr ⟨60, rfl, by decide, by decide, fun H12 e12 => ?_⟩⟩
        walk_at "wp"
        refine w_newL (K := K) (ds := [.int 60, .none]) (len_ok (by simp)) (.cons (.int _) (dpa_one .non)) fun p13 H13 n13 e13 f13 d13 => ?_
        walk_at "wp"
        refine ⟨p13, _, rfl, d13, shw_lim, ?_⟩
        walk_at "wp"
        refine w_newL (K := K) (ds := [.int 60, .none]) (len_ok (by simp)) (.cons (.int _) (dpa_one .non)) fun p14 H14 n14 e14 f14 d14 => ?_
        walk_at "wp"
        refine ⟨p14, _, rfl, d14, shw_lim, ?_⟩
        walk_at "wp"
        rw [decide_eq_true rfl]
        exact q _

end
end Tw
namespace Tw
open PySem PySem.Spec PyProof.Rows L2
set_option maxHeartbeats 4000000 in
def top_mk {K : PySem.W.Frag} {h : Heap} {mg : Str → Option Value} (X : K.In h) (G : h.Ns mainGlobals mg) {f_TooMany__init f_reduced f_turning_widths f__tops f__law_begun f__law_draw f__law_twos f__law_shared f__law_less f__law_lowest f__law_sum f__law_limit f_law : Addr} {od_TooMany__init an_TooMany__init od_reduced an_reduced od_turning_widths an_turning_widths od__tops an__tops od__law_begun an__law_begun od__law_draw an__law_draw od__law_twos an__law_twos od__law_shared an__law_shared od__law_less an__law_less od__law_lowest an__law_lowest od__law_sum an__law_sum od__law_limit an__law_limit od_law an_law : Option Addr} {oc_TooMany__init kV_TooMany__init dc_TooMany__init pm_TooMany__init cd_TooMany__init ct_TooMany__init oc_reduced kV_reduced dc_reduced pm_reduced cd_reduced ct_reduced oc_turning_widths kV_turning_widths dc_turning_widths pm_turning_widths cd_turning_widths ct_turning_widths oc__tops kV__tops dc__tops pm__tops cd__tops ct__tops oc__law_begun kV__law_begun dc__law_begun pm__law_begun cd__law_begun ct__law_begun oc__law_draw kV__law_draw dc__law_draw pm__law_draw cd__law_draw ct__law_draw oc__law_twos kV__law_twos dc__law_twos pm__law_twos cd__law_twos ct__law_twos oc__law_shared kV__law_shared dc__law_shared pm__law_shared cd__law_shared ct__law_shared oc__law_less kV__law_less dc__law_less pm__law_less cd__law_less ct__law_less oc__law_lowest kV__law_lowest dc__law_lowest pm__law_lowest cd__law_lowest ct__law_lowest oc__law_sum kV__law_sum dc__law_sum pm__law_sum cd__law_sum ct__law_sum oc__law_limit kV__law_limit dc__law_limit pm__law_limit cd__law_limit ct__law_limit oc_law kV_law dc_law pm_law cd_law ct_law : Value} {sl_TooMany__init sl_reduced sl_turning_widths sl__tops sl__law_begun sl__law_draw sl__law_twos sl__law_shared sl__law_less sl__law_lowest sl__law_sum sl__law_limit sl_law : Array (Option Value)} {c_DialError N_DialError : Addr} {nm_DialError q_DialError : Str} {bs_DialError sub_DialError : List Value} {sn_DialError : List Str} {ab_DialError : Bool} {col_DialError : Option Bool} {dd_DialError : Option Addr} {m0_DialError m1_DialError m2_DialError m3_DialError m5_DialError : Option Value} {c_TooMany N_TooMany : Addr} {nm_TooMany q_TooMany : Str} {bs_TooMany sub_TooMany : List Value} {sn_TooMany : List Str} {ab_TooMany : Bool} {col_TooMany : Option Bool} {dd_TooMany : Option Addr} {m0_TooMany m1_TooMany m2_TooMany m3_TooMany m5_TooMany : Option Value} {t_MOST_WIDTHS : Tok}
    (gc_DialError : PySem.W.nsIn K mainGlobals "DialError" = some (some (.ref c_DialError)))
    (xL_DialError : K.lookup c_DialError = some (excClassObj nm_DialError q_DialError c_DialError N_DialError bs_DialError ([.type "ValueError", .type "Exception", .type "BaseException", .type "object"]) true sn_DialError sub_DialError ab_DialError col_DialError dd_DialError m0_DialError m1_DialError m2_DialError m3_DialError m5_DialError "ValueError.__new__"))
    (sa_DialError : PySem.W.findIn K (.ref c_DialError) "__setattr__" = some (some (.builtin "object.__setattr__")))
    (eC_DialError : PySem.W.subIn K (.ref c_DialError) (.type "BaseException") = some true)
    (tC_DialError : PySem.W.typeIn K (.ref c_DialError) = some (.type "type"))
    (kC_DialError : PySem.W.keepIn K (.ref c_DialError) = true)
    (ga_DialError : PySem.W.findIn K (.ref c_DialError) "__getattribute__" = some (some (.builtin "BaseException.__getattribute__")))
    (gg_DialError : PySem.W.findIn K (.ref c_DialError) "__getattr__" = some none)
    (hC_DialError : PySem.W.hasDictIn K c_DialError = true)
    (ys_DialError : PySem.W.specialIn K (.ref c_DialError) "__getattribute__" = some (some (.builtin "type.__getattribute__")))
    (yr_DialError : PySem.W.readsIn K c_DialError (.type "type") = true)
    (yf_DialError : PySem.W.findCls K (.ref c_DialError) (.type "type") "__init__" = some (.val (.builtin "ValueError.__init__")))
    (gc_TooMany : PySem.W.nsIn K mainGlobals "TooMany" = some (some (.ref c_TooMany)))
    (xL_TooMany : K.lookup c_TooMany = some (excClassObj nm_TooMany q_TooMany c_TooMany N_TooMany bs_TooMany (.ref c_DialError :: [.type "ValueError", .type "Exception", .type "BaseException", .type "object"]) true sn_TooMany sub_TooMany ab_TooMany col_TooMany dd_TooMany m0_TooMany m1_TooMany m2_TooMany m3_TooMany m5_TooMany "ValueError.__new__"))
    (sa_TooMany : PySem.W.findIn K (.ref c_TooMany) "__setattr__" = some (some (.builtin "object.__setattr__")))
    (eC_TooMany : PySem.W.subIn K (.ref c_TooMany) (.type "BaseException") = some true)
    (tC_TooMany : PySem.W.typeIn K (.ref c_TooMany) = some (.type "type"))
    (kC_TooMany : PySem.W.keepIn K (.ref c_TooMany) = true)
    (ga_TooMany : PySem.W.findIn K (.ref c_TooMany) "__getattribute__" = some (some (.builtin "BaseException.__getattribute__")))
    (gg_TooMany : PySem.W.findIn K (.ref c_TooMany) "__getattr__" = some none)
    (hC_TooMany : PySem.W.hasDictIn K c_TooMany = true)
    (iC_TooMany : PySem.W.findIn K (.ref c_TooMany) "__init__" = some (some (.ref f_TooMany__init))) (tI_TooMany : PySem.W.typeIn K (.ref f_TooMany__init) = some (.type "function"))
    (n_TooMany_limit : PySem.W.findIn K (.ref c_TooMany) "limit" = some none)
    (e_TooMany_TooMany : PySem.W.subIn K (.ref c_TooMany) (.ref c_TooMany) = some true)
    (iL_TooMany : PySem.W.isClsIn K c_TooMany = true)
    (l_TooMany__init : K.lookup f_TooMany__init = some ⟨oc_TooMany__init, od_TooMany__init, .func (PySem.W.fnOf "__init__" "TooMany.__init__" (defArgs s_TooMany__init) (defBody s_TooMany__init) (defScope s_TooMany__init) .none kV_TooMany__init dc_TooMany__init pm_TooMany__init an_TooMany__init cd_TooMany__init ct_TooMany__init), sl_TooMany__init⟩) (c_TooMany__init : PySem.W.codeIn K cd_TooMany__init "TooMany.__init__" = true) (k_TooMany__init : PySem.W.keepIn K (.ref f_TooMany__init) = true)
    (a_reduced : PySem.W.nsIn K mainGlobals "reduced" = some (some (.ref f_reduced)))
    (l_reduced : K.lookup f_reduced = some ⟨oc_reduced, od_reduced, .func (PySem.W.fnOf "reduced" "reduced" (defArgs s_reduced) (defBody s_reduced) (defScope s_reduced) .none kV_reduced dc_reduced pm_reduced an_reduced cd_reduced ct_reduced), sl_reduced⟩) (c_reduced : PySem.W.codeIn K cd_reduced "reduced" = true) (k_reduced : PySem.W.keepIn K (.ref f_reduced) = true)
    (a_turning_widths : PySem.W.nsIn K mainGlobals "turning_widths" = some (some (.ref f_turning_widths)))
    (l_turning_widths : K.lookup f_turning_widths = some ⟨oc_turning_widths, od_turning_widths, .func (PySem.W.fnOf "turning_widths" "turning_widths" (defArgs s_turning_widths) (defBody s_turning_widths) (defScope s_turning_widths) .none kV_turning_widths dc_turning_widths pm_turning_widths an_turning_widths cd_turning_widths ct_turning_widths), sl_turning_widths⟩) (c_turning_widths : PySem.W.codeIn K cd_turning_widths "turning_widths" = true) (k_turning_widths : PySem.W.keepIn K (.ref f_turning_widths) = true)
    (a__tops : PySem.W.nsIn K mainGlobals "_tops" = some (some (.ref f__tops)))
    (l__tops : K.lookup f__tops = some ⟨oc__tops, od__tops, .func (PySem.W.fnOf "_tops" "_tops" (defArgs s__tops) (defBody s__tops) (defScope s__tops) .none kV__tops dc__tops pm__tops an__tops cd__tops ct__tops), sl__tops⟩) (c__tops : PySem.W.codeIn K cd__tops "_tops" = true) (k__tops : PySem.W.keepIn K (.ref f__tops) = true)
    (a__law_begun : PySem.W.nsIn K mainGlobals "_law_begun" = some (some (.ref f__law_begun)))
    (l__law_begun : K.lookup f__law_begun = some ⟨oc__law_begun, od__law_begun, .func (PySem.W.fnOf "_law_begun" "_law_begun" (defArgs s__law_begun) (defBody s__law_begun) (defScope s__law_begun) .none kV__law_begun dc__law_begun pm__law_begun an__law_begun cd__law_begun ct__law_begun), sl__law_begun⟩) (c__law_begun : PySem.W.codeIn K cd__law_begun "_law_begun" = true) (k__law_begun : PySem.W.keepIn K (.ref f__law_begun) = true)
    (a__law_draw : PySem.W.nsIn K mainGlobals "_law_draw" = some (some (.ref f__law_draw)))
    (l__law_draw : K.lookup f__law_draw = some ⟨oc__law_draw, od__law_draw, .func (PySem.W.fnOf "_law_draw" "_law_draw" (defArgs s__law_draw) (defBody s__law_draw) (defScope s__law_draw) .none kV__law_draw dc__law_draw pm__law_draw an__law_draw cd__law_draw ct__law_draw), sl__law_draw⟩) (c__law_draw : PySem.W.codeIn K cd__law_draw "_law_draw" = true) (k__law_draw : PySem.W.keepIn K (.ref f__law_draw) = true)
    (a__law_twos : PySem.W.nsIn K mainGlobals "_law_twos" = some (some (.ref f__law_twos)))
    (l__law_twos : K.lookup f__law_twos = some ⟨oc__law_twos, od__law_twos, .func (PySem.W.fnOf "_law_twos" "_law_twos" (defArgs s__law_twos) (defBody s__law_twos) (defScope s__law_twos) .none kV__law_twos dc__law_twos pm__law_twos an__law_twos cd__law_twos ct__law_twos), sl__law_twos⟩) (c__law_twos : PySem.W.codeIn K cd__law_twos "_law_twos" = true) (k__law_twos : PySem.W.keepIn K (.ref f__law_twos) = true)
    (a__law_shared : PySem.W.nsIn K mainGlobals "_law_shared" = some (some (.ref f__law_shared)))
    (l__law_shared : K.lookup f__law_shared = some ⟨oc__law_shared, od__law_shared, .func (PySem.W.fnOf "_law_shared" "_law_shared" (defArgs s__law_shared) (defBody s__law_shared) (defScope s__law_shared) .none kV__law_shared dc__law_shared pm__law_shared an__law_shared cd__law_shared ct__law_shared), sl__law_shared⟩) (c__law_shared : PySem.W.codeIn K cd__law_shared "_law_shared" = true) (k__law_shared : PySem.W.keepIn K (.ref f__law_shared) = true)
    (a__law_less : PySem.W.nsIn K mainGlobals "_law_less" = some (some (.ref f__law_less)))
    (l__law_less : K.lookup f__law_less = some ⟨oc__law_less, od__law_less, .func (PySem.W.fnOf "_law_less" "_law_less" (defArgs s__law_less) (defBody s__law_less) (defScope s__law_less) .none kV__law_less dc__law_less pm__law_less an__law_less cd__law_less ct__law_less), sl__law_less⟩) (c__law_less : PySem.W.codeIn K cd__law_less "_law_less" = true) (k__law_less : PySem.W.keepIn K (.ref f__law_less) = true)
    (a__law_lowest : PySem.W.nsIn K mainGlobals "_law_lowest" = some (some (.ref f__law_lowest)))
    (l__law_lowest : K.lookup f__law_lowest = some ⟨oc__law_lowest, od__law_lowest, .func (PySem.W.fnOf "_law_lowest" "_law_lowest" (defArgs s__law_lowest) (defBody s__law_lowest) (defScope s__law_lowest) .none kV__law_lowest dc__law_lowest pm__law_lowest an__law_lowest cd__law_lowest ct__law_lowest), sl__law_lowest⟩) (c__law_lowest : PySem.W.codeIn K cd__law_lowest "_law_lowest" = true) (k__law_lowest : PySem.W.keepIn K (.ref f__law_lowest) = true)
    (a__law_sum : PySem.W.nsIn K mainGlobals "_law_sum" = some (some (.ref f__law_sum)))
    (l__law_sum : K.lookup f__law_sum = some ⟨oc__law_sum, od__law_sum, .func (PySem.W.fnOf "_law_sum" "_law_sum" (defArgs s__law_sum) (defBody s__law_sum) (defScope s__law_sum) .none kV__law_sum dc__law_sum pm__law_sum an__law_sum cd__law_sum ct__law_sum), sl__law_sum⟩) (c__law_sum : PySem.W.codeIn K cd__law_sum "_law_sum" = true) (k__law_sum : PySem.W.keepIn K (.ref f__law_sum) = true)
    (a__law_limit : PySem.W.nsIn K mainGlobals "_law_limit" = some (some (.ref f__law_limit)))
    (l__law_limit : K.lookup f__law_limit = some ⟨oc__law_limit, od__law_limit, .func (PySem.W.fnOf "_law_limit" "_law_limit" (defArgs s__law_limit) (defBody s__law_limit) (defScope s__law_limit) .none kV__law_limit dc__law_limit pm__law_limit an__law_limit cd__law_limit ct__law_limit), sl__law_limit⟩) (c__law_limit : PySem.W.codeIn K cd__law_limit "_law_limit" = true) (k__law_limit : PySem.W.keepIn K (.ref f__law_limit) = true)
    (a_law : PySem.W.nsIn K mainGlobals "law" = some (some (.ref f_law)))
    (l_law : K.lookup f_law = some ⟨oc_law, od_law, .func (PySem.W.fnOf "law" "law" (defArgs s_law) (defBody s_law) (defScope s_law) .none kV_law dc_law pm_law an_law cd_law ct_law), sl_law⟩) (c_law : PySem.W.codeIn K cd_law "law" = true) (k_law : PySem.W.keepIn K (.ref f_law) = true)
    (z_int : PySem.W.nsIn K mainGlobals "int" = some none)
    (z_len : PySem.W.nsIn K mainGlobals "len" = some none)
    (z_range : PySem.W.nsIn K mainGlobals "range" = some none)
    (z_repr : PySem.W.nsIn K mainGlobals "repr" = some none)
    (i_gcd : PySem.W.nsIn K mainGlobals "gcd" = some (some (.builtin "math.gcd")))
    (c_MOST_WIDTHS : PySem.W.nsIn K mainGlobals "MOST_WIDTHS" = some (some (.int 60 t_MOST_WIDTHS))) : Top K mg :=
  { f_TooMany__init := f_TooMany__init, fd_TooMany__init := PySem.W.fnOf "__init__" "TooMany.__init__" (defArgs s_TooMany__init) (defBody s_TooMany__init) (defScope s_TooMany__init) .none kV_TooMany__init dc_TooMany__init pm_TooMany__init an_TooMany__init cd_TooMany__init ct_TooMany__init, F_TooMany__init := fun_mk (st := s_TooMany__init) l_TooMany__init c_TooMany__init k_TooMany__init, b_TooMany__init := (fun_mk (st := s_TooMany__init) l_TooMany__init c_TooMany__init k_TooMany__init).binds (ps := ["self", "limit"]) fun _ _ _ _ _ _ us hl => match us, hl with | [_, _], _ => rfl,
    g_reduced := PySem.W.mg_of X G a_reduced,
    f_reduced := f_reduced, fd_reduced := PySem.W.fnOf "reduced" "reduced" (defArgs s_reduced) (defBody s_reduced) (defScope s_reduced) .none kV_reduced dc_reduced pm_reduced an_reduced cd_reduced ct_reduced, F_reduced := fun_mk (st := s_reduced) l_reduced c_reduced k_reduced, b_reduced := (fun_mk (st := s_reduced) l_reduced c_reduced k_reduced).binds (ps := ["top", "bottom"]) fun _ _ _ _ _ _ us hl => match us, hl with | [_, _], _ => rfl,
    g_turning_widths := PySem.W.mg_of X G a_turning_widths,
    f_turning_widths := f_turning_widths, fd_turning_widths := PySem.W.fnOf "turning_widths" "turning_widths" (defArgs s_turning_widths) (defBody s_turning_widths) (defScope s_turning_widths) .none kV_turning_widths dc_turning_widths pm_turning_widths an_turning_widths cd_turning_widths ct_turning_widths, F_turning_widths := fun_mk (st := s_turning_widths) l_turning_widths c_turning_widths k_turning_widths, b_turning_widths := (fun_mk (st := s_turning_widths) l_turning_widths c_turning_widths k_turning_widths).binds (ps := ["most"]) fun _ _ _ _ _ _ us hl => match us, hl with | [_], _ => rfl,
    g__tops := PySem.W.mg_of X G a__tops,
    f__tops := f__tops, fd__tops := PySem.W.fnOf "_tops" "_tops" (defArgs s__tops) (defBody s__tops) (defScope s__tops) .none kV__tops dc__tops pm__tops an__tops cd__tops ct__tops, F__tops := fun_mk (st := s__tops) l__tops c__tops k__tops, b__tops := (fun_mk (st := s__tops) l__tops c__tops k__tops).binds (ps := ["q"]) fun _ _ _ _ _ _ us hl => match us, hl with | [_], _ => rfl,
    g__law_begun := PySem.W.mg_of X G a__law_begun,
    f__law_begun := f__law_begun, fd__law_begun := PySem.W.fnOf "_law_begun" "_law_begun" (defArgs s__law_begun) (defBody s__law_begun) (defScope s__law_begun) .none kV__law_begun dc__law_begun pm__law_begun an__law_begun cd__law_begun ct__law_begun, F__law_begun := fun_mk (st := s__law_begun) l__law_begun c__law_begun k__law_begun, b__law_begun := (fun_mk (st := s__law_begun) l__law_begun c__law_begun k__law_begun).binds (ps := ["script", "k"]) fun _ _ _ _ _ _ us hl => match us, hl with | [_, _], _ => rfl,
    g__law_draw := PySem.W.mg_of X G a__law_draw,
    f__law_draw := f__law_draw, fd__law_draw := PySem.W.fnOf "_law_draw" "_law_draw" (defArgs s__law_draw) (defBody s__law_draw) (defScope s__law_draw) .none kV__law_draw dc__law_draw pm__law_draw an__law_draw cd__law_draw ct__law_draw, F__law_draw := fun_mk (st := s__law_draw) l__law_draw c__law_draw k__law_draw, b__law_draw := (fun_mk (st := s__law_draw) l__law_draw c__law_draw k__law_draw).binds (ps := ["m", "below"]) fun _ _ _ _ _ _ us hl => match us, hl with | [_, _], _ => rfl,
    g__law_twos := PySem.W.mg_of X G a__law_twos,
    f__law_twos := f__law_twos, fd__law_twos := PySem.W.fnOf "_law_twos" "_law_twos" (defArgs s__law_twos) (defBody s__law_twos) (defScope s__law_twos) .none kV__law_twos dc__law_twos pm__law_twos an__law_twos cd__law_twos ct__law_twos, F__law_twos := fun_mk (st := s__law_twos) l__law_twos c__law_twos k__law_twos, b__law_twos := (fun_mk (st := s__law_twos) l__law_twos c__law_twos k__law_twos).binds (ps := ["count"]) fun _ _ _ _ _ _ us hl => match us, hl with | [_], _ => rfl,
    g__law_shared := PySem.W.mg_of X G a__law_shared,
    f__law_shared := f__law_shared, fd__law_shared := PySem.W.fnOf "_law_shared" "_law_shared" (defArgs s__law_shared) (defBody s__law_shared) (defScope s__law_shared) .none kV__law_shared dc__law_shared pm__law_shared an__law_shared cd__law_shared ct__law_shared, F__law_shared := fun_mk (st := s__law_shared) l__law_shared c__law_shared k__law_shared, b__law_shared := (fun_mk (st := s__law_shared) l__law_shared c__law_shared k__law_shared).binds (ps := ["a", "b"]) fun _ _ _ _ _ _ us hl => match us, hl with | [_, _], _ => rfl,
    g__law_less := PySem.W.mg_of X G a__law_less,
    f__law_less := f__law_less, fd__law_less := PySem.W.fnOf "_law_less" "_law_less" (defArgs s__law_less) (defBody s__law_less) (defScope s__law_less) .none kV__law_less dc__law_less pm__law_less an__law_less cd__law_less ct__law_less, F__law_less := fun_mk (st := s__law_less) l__law_less c__law_less k__law_less, b__law_less := (fun_mk (st := s__law_less) l__law_less c__law_less k__law_less).binds (ps := ["x", "y"]) fun _ _ _ _ _ _ us hl => match us, hl with | [_, _], _ => rfl,
    g__law_lowest := PySem.W.mg_of X G a__law_lowest,
    f__law_lowest := f__law_lowest, fd__law_lowest := PySem.W.fnOf "_law_lowest" "_law_lowest" (defArgs s__law_lowest) (defBody s__law_lowest) (defScope s__law_lowest) .none kV__law_lowest dc__law_lowest pm__law_lowest an__law_lowest cd__law_lowest ct__law_lowest, F__law_lowest := fun_mk (st := s__law_lowest) l__law_lowest c__law_lowest k__law_lowest, b__law_lowest := (fun_mk (st := s__law_lowest) l__law_lowest c__law_lowest k__law_lowest).binds (ps := ["top", "bottom"]) fun _ _ _ _ _ _ us hl => match us, hl with | [_, _], _ => rfl,
    g__law_sum := PySem.W.mg_of X G a__law_sum,
    f__law_sum := f__law_sum, fd__law_sum := PySem.W.fnOf "_law_sum" "_law_sum" (defArgs s__law_sum) (defBody s__law_sum) (defScope s__law_sum) .none kV__law_sum dc__law_sum pm__law_sum an__law_sum cd__law_sum ct__law_sum, F__law_sum := fun_mk (st := s__law_sum) l__law_sum c__law_sum k__law_sum, b__law_sum := (fun_mk (st := s__law_sum) l__law_sum c__law_sum k__law_sum).binds (ps := ["most"]) fun _ _ _ _ _ _ us hl => match us, hl with | [_], _ => rfl,
    g__law_limit := PySem.W.mg_of X G a__law_limit,
    f__law_limit := f__law_limit, fd__law_limit := PySem.W.fnOf "_law_limit" "_law_limit" (defArgs s__law_limit) (defBody s__law_limit) (defScope s__law_limit) .none kV__law_limit dc__law_limit pm__law_limit an__law_limit cd__law_limit ct__law_limit, F__law_limit := fun_mk (st := s__law_limit) l__law_limit c__law_limit k__law_limit, b__law_limit := (fun_mk (st := s__law_limit) l__law_limit c__law_limit k__law_limit).binds (ps := ["most"]) fun _ _ _ _ _ _ us hl => match us, hl with | [_], _ => rfl,
    g_law := PySem.W.mg_of X G a_law,
    f_law := f_law, fd_law := PySem.W.fnOf "law" "law" (defArgs s_law) (defBody s_law) (defScope s_law) .none kV_law dc_law pm_law an_law cd_law ct_law, F_law := fun_mk (st := s_law) l_law c_law k_law, b_law := (fun_mk (st := s_law) l_law c_law k_law).binds (ps := ["script"]) fun _ _ _ _ _ _ us hl => match us, hl with | [_], _ => rfl,
    c_DialError := c_DialError, gc_DialError := PySem.W.mg_of X G gc_DialError, x_DialError := ⟨⟨⟨_, _, _, _, _, _, _, _, _, _, _, _, _, _, _, xL_DialError, by rfl⟩, sa_DialError, eC_DialError, tC_DialError, kC_DialError⟩, ⟨ga_DialError, gg_DialError, eC_DialError, hC_DialError⟩⟩,
    y_DialError := ⟨ys_DialError, tC_DialError, yr_DialError, yf_DialError⟩,
    c_TooMany := c_TooMany, gc_TooMany := PySem.W.mg_of X G gc_TooMany, x_TooMany := ⟨⟨⟨_, _, _, _, _, _, _, _, _, _, _, _, _, _, _, xL_TooMany, by rfl⟩, sa_TooMany, eC_TooMany, tC_TooMany, kC_TooMany⟩, ⟨ga_TooMany, gg_TooMany, eC_TooMany, hC_TooMany⟩⟩,
    iC_TooMany := iC_TooMany, tI_TooMany := tI_TooMany,
    n_TooMany_limit := n_TooMany_limit,
    e_TooMany_TooMany := exm_ofS eC_TooMany iL_TooMany tC_TooMany e_TooMany_TooMany,
    z_int := PySem.W.mg_none_of X G z_int,
    z_len := PySem.W.mg_none_of X G z_len,
    z_range := PySem.W.mg_none_of X G z_range,
    z_repr := PySem.W.mg_none_of X G z_repr,
    i_gcd := PySem.W.mg_of X G i_gcd,
    t_MOST_WIDTHS := t_MOST_WIDTHS, c_MOST_WIDTHS := PySem.W.mg_of X G c_MOST_WIDTHS }
theorem all_mk {l : PySem.W.OpenLaw} {w : World} {K : PySem.W.Frag} {h : Heap} {mg : Str → Option Value} {fa : Addr} (X : K.In h) (G : h.Ns mainGlobals mg) (hfa : mg "law" = some (.ref fa)) {f_TooMany__init f_reduced f_turning_widths f__tops f__law_begun f__law_draw f__law_twos f__law_shared f__law_less f__law_lowest f__law_sum f__law_limit f_law : Addr} {od_TooMany__init an_TooMany__init od_reduced an_reduced od_turning_widths an_turning_widths od__tops an__tops od__law_begun an__law_begun od__law_draw an__law_draw od__law_twos an__law_twos od__law_shared an__law_shared od__law_less an__law_less od__law_lowest an__law_lowest od__law_sum an__law_sum od__law_limit an__law_limit od_law an_law : Option Addr} {oc_TooMany__init kV_TooMany__init dc_TooMany__init pm_TooMany__init cd_TooMany__init ct_TooMany__init oc_reduced kV_reduced dc_reduced pm_reduced cd_reduced ct_reduced oc_turning_widths kV_turning_widths dc_turning_widths pm_turning_widths cd_turning_widths ct_turning_widths oc__tops kV__tops dc__tops pm__tops cd__tops ct__tops oc__law_begun kV__law_begun dc__law_begun pm__law_begun cd__law_begun ct__law_begun oc__law_draw kV__law_draw dc__law_draw pm__law_draw cd__law_draw ct__law_draw oc__law_twos kV__law_twos dc__law_twos pm__law_twos cd__law_twos ct__law_twos oc__law_shared kV__law_shared dc__law_shared pm__law_shared cd__law_shared ct__law_shared oc__law_less kV__law_less dc__law_less pm__law_less cd__law_less ct__law_less oc__law_lowest kV__law_lowest dc__law_lowest pm__law_lowest cd__law_lowest ct__law_lowest oc__law_sum kV__law_sum dc__law_sum pm__law_sum cd__law_sum ct__law_sum oc__law_limit kV__law_limit dc__law_limit pm__law_limit cd__law_limit ct__law_limit oc_law kV_law dc_law pm_law cd_law ct_law : Value} {sl_TooMany__init sl_reduced sl_turning_widths sl__tops sl__law_begun sl__law_draw sl__law_twos sl__law_shared sl__law_less sl__law_lowest sl__law_sum sl__law_limit sl_law : Array (Option Value)} {c_DialError N_DialError : Addr} {nm_DialError q_DialError : Str} {bs_DialError sub_DialError : List Value} {sn_DialError : List Str} {ab_DialError : Bool} {col_DialError : Option Bool} {dd_DialError : Option Addr} {m0_DialError m1_DialError m2_DialError m3_DialError m5_DialError : Option Value} {c_TooMany N_TooMany : Addr} {nm_TooMany q_TooMany : Str} {bs_TooMany sub_TooMany : List Value} {sn_TooMany : List Str} {ab_TooMany : Bool} {col_TooMany : Option Bool} {dd_TooMany : Option Addr} {m0_TooMany m1_TooMany m2_TooMany m3_TooMany m5_TooMany : Option Value} {t_MOST_WIDTHS : Tok}
    (gc_DialError : PySem.W.nsIn K mainGlobals "DialError" = some (some (.ref c_DialError)))
    (xL_DialError : K.lookup c_DialError = some (excClassObj nm_DialError q_DialError c_DialError N_DialError bs_DialError ([.type "ValueError", .type "Exception", .type "BaseException", .type "object"]) true sn_DialError sub_DialError ab_DialError col_DialError dd_DialError m0_DialError m1_DialError m2_DialError m3_DialError m5_DialError "ValueError.__new__"))
    (sa_DialError : PySem.W.findIn K (.ref c_DialError) "__setattr__" = some (some (.builtin "object.__setattr__")))
    (eC_DialError : PySem.W.subIn K (.ref c_DialError) (.type "BaseException") = some true)
    (tC_DialError : PySem.W.typeIn K (.ref c_DialError) = some (.type "type"))
    (kC_DialError : PySem.W.keepIn K (.ref c_DialError) = true)
    (ga_DialError : PySem.W.findIn K (.ref c_DialError) "__getattribute__" = some (some (.builtin "BaseException.__getattribute__")))
    (gg_DialError : PySem.W.findIn K (.ref c_DialError) "__getattr__" = some none)
    (hC_DialError : PySem.W.hasDictIn K c_DialError = true)
    (ys_DialError : PySem.W.specialIn K (.ref c_DialError) "__getattribute__" = some (some (.builtin "type.__getattribute__")))
    (yr_DialError : PySem.W.readsIn K c_DialError (.type "type") = true)
    (yf_DialError : PySem.W.findCls K (.ref c_DialError) (.type "type") "__init__" = some (.val (.builtin "ValueError.__init__")))
    (gc_TooMany : PySem.W.nsIn K mainGlobals "TooMany" = some (some (.ref c_TooMany)))
    (xL_TooMany : K.lookup c_TooMany = some (excClassObj nm_TooMany q_TooMany c_TooMany N_TooMany bs_TooMany (.ref c_DialError :: [.type "ValueError", .type "Exception", .type "BaseException", .type "object"]) true sn_TooMany sub_TooMany ab_TooMany col_TooMany dd_TooMany m0_TooMany m1_TooMany m2_TooMany m3_TooMany m5_TooMany "ValueError.__new__"))
    (sa_TooMany : PySem.W.findIn K (.ref c_TooMany) "__setattr__" = some (some (.builtin "object.__setattr__")))
    (eC_TooMany : PySem.W.subIn K (.ref c_TooMany) (.type "BaseException") = some true)
    (tC_TooMany : PySem.W.typeIn K (.ref c_TooMany) = some (.type "type"))
    (kC_TooMany : PySem.W.keepIn K (.ref c_TooMany) = true)
    (ga_TooMany : PySem.W.findIn K (.ref c_TooMany) "__getattribute__" = some (some (.builtin "BaseException.__getattribute__")))
    (gg_TooMany : PySem.W.findIn K (.ref c_TooMany) "__getattr__" = some none)
    (hC_TooMany : PySem.W.hasDictIn K c_TooMany = true)
    (iC_TooMany : PySem.W.findIn K (.ref c_TooMany) "__init__" = some (some (.ref f_TooMany__init))) (tI_TooMany : PySem.W.typeIn K (.ref f_TooMany__init) = some (.type "function"))
    (n_TooMany_limit : PySem.W.findIn K (.ref c_TooMany) "limit" = some none)
    (e_TooMany_TooMany : PySem.W.subIn K (.ref c_TooMany) (.ref c_TooMany) = some true)
    (iL_TooMany : PySem.W.isClsIn K c_TooMany = true)
    (l_TooMany__init : K.lookup f_TooMany__init = some ⟨oc_TooMany__init, od_TooMany__init, .func (PySem.W.fnOf "__init__" "TooMany.__init__" (defArgs s_TooMany__init) (defBody s_TooMany__init) (defScope s_TooMany__init) .none kV_TooMany__init dc_TooMany__init pm_TooMany__init an_TooMany__init cd_TooMany__init ct_TooMany__init), sl_TooMany__init⟩) (c_TooMany__init : PySem.W.codeIn K cd_TooMany__init "TooMany.__init__" = true) (k_TooMany__init : PySem.W.keepIn K (.ref f_TooMany__init) = true)
    (a_reduced : PySem.W.nsIn K mainGlobals "reduced" = some (some (.ref f_reduced)))
    (l_reduced : K.lookup f_reduced = some ⟨oc_reduced, od_reduced, .func (PySem.W.fnOf "reduced" "reduced" (defArgs s_reduced) (defBody s_reduced) (defScope s_reduced) .none kV_reduced dc_reduced pm_reduced an_reduced cd_reduced ct_reduced), sl_reduced⟩) (c_reduced : PySem.W.codeIn K cd_reduced "reduced" = true) (k_reduced : PySem.W.keepIn K (.ref f_reduced) = true)
    (a_turning_widths : PySem.W.nsIn K mainGlobals "turning_widths" = some (some (.ref f_turning_widths)))
    (l_turning_widths : K.lookup f_turning_widths = some ⟨oc_turning_widths, od_turning_widths, .func (PySem.W.fnOf "turning_widths" "turning_widths" (defArgs s_turning_widths) (defBody s_turning_widths) (defScope s_turning_widths) .none kV_turning_widths dc_turning_widths pm_turning_widths an_turning_widths cd_turning_widths ct_turning_widths), sl_turning_widths⟩) (c_turning_widths : PySem.W.codeIn K cd_turning_widths "turning_widths" = true) (k_turning_widths : PySem.W.keepIn K (.ref f_turning_widths) = true)
    (a__tops : PySem.W.nsIn K mainGlobals "_tops" = some (some (.ref f__tops)))
    (l__tops : K.lookup f__tops = some ⟨oc__tops, od__tops, .func (PySem.W.fnOf "_tops" "_tops" (defArgs s__tops) (defBody s__tops) (defScope s__tops) .none kV__tops dc__tops pm__tops an__tops cd__tops ct__tops), sl__tops⟩) (c__tops : PySem.W.codeIn K cd__tops "_tops" = true) (k__tops : PySem.W.keepIn K (.ref f__tops) = true)
    (a__law_begun : PySem.W.nsIn K mainGlobals "_law_begun" = some (some (.ref f__law_begun)))
    (l__law_begun : K.lookup f__law_begun = some ⟨oc__law_begun, od__law_begun, .func (PySem.W.fnOf "_law_begun" "_law_begun" (defArgs s__law_begun) (defBody s__law_begun) (defScope s__law_begun) .none kV__law_begun dc__law_begun pm__law_begun an__law_begun cd__law_begun ct__law_begun), sl__law_begun⟩) (c__law_begun : PySem.W.codeIn K cd__law_begun "_law_begun" = true) (k__law_begun : PySem.W.keepIn K (.ref f__law_begun) = true)
    (a__law_draw : PySem.W.nsIn K mainGlobals "_law_draw" = some (some (.ref f__law_draw)))
    (l__law_draw : K.lookup f__law_draw = some ⟨oc__law_draw, od__law_draw, .func (PySem.W.fnOf "_law_draw" "_law_draw" (defArgs s__law_draw) (defBody s__law_draw) (defScope s__law_draw) .none kV__law_draw dc__law_draw pm__law_draw an__law_draw cd__law_draw ct__law_draw), sl__law_draw⟩) (c__law_draw : PySem.W.codeIn K cd__law_draw "_law_draw" = true) (k__law_draw : PySem.W.keepIn K (.ref f__law_draw) = true)
    (a__law_twos : PySem.W.nsIn K mainGlobals "_law_twos" = some (some (.ref f__law_twos)))
    (l__law_twos : K.lookup f__law_twos = some ⟨oc__law_twos, od__law_twos, .func (PySem.W.fnOf "_law_twos" "_law_twos" (defArgs s__law_twos) (defBody s__law_twos) (defScope s__law_twos) .none kV__law_twos dc__law_twos pm__law_twos an__law_twos cd__law_twos ct__law_twos), sl__law_twos⟩) (c__law_twos : PySem.W.codeIn K cd__law_twos "_law_twos" = true) (k__law_twos : PySem.W.keepIn K (.ref f__law_twos) = true)
    (a__law_shared : PySem.W.nsIn K mainGlobals "_law_shared" = some (some (.ref f__law_shared)))
    (l__law_shared : K.lookup f__law_shared = some ⟨oc__law_shared, od__law_shared, .func (PySem.W.fnOf "_law_shared" "_law_shared" (defArgs s__law_shared) (defBody s__law_shared) (defScope s__law_shared) .none kV__law_shared dc__law_shared pm__law_shared an__law_shared cd__law_shared ct__law_shared), sl__law_shared⟩) (c__law_shared : PySem.W.codeIn K cd__law_shared "_law_shared" = true) (k__law_shared : PySem.W.keepIn K (.ref f__law_shared) = true)
    (a__law_less : PySem.W.nsIn K mainGlobals "_law_less" = some (some (.ref f__law_less)))
    (l__law_less : K.lookup f__law_less = some ⟨oc__law_less, od__law_less, .func (PySem.W.fnOf "_law_less" "_law_less" (defArgs s__law_less) (defBody s__law_less) (defScope s__law_less) .none kV__law_less dc__law_less pm__law_less an__law_less cd__law_less ct__law_less), sl__law_less⟩) (c__law_less : PySem.W.codeIn K cd__law_less "_law_less" = true) (k__law_less : PySem.W.keepIn K (.ref f__law_less) = true)
    (a__law_lowest : PySem.W.nsIn K mainGlobals "_law_lowest" = some (some (.ref f__law_lowest)))
    (l__law_lowest : K.lookup f__law_lowest = some ⟨oc__law_lowest, od__law_lowest, .func (PySem.W.fnOf "_law_lowest" "_law_lowest" (defArgs s__law_lowest) (defBody s__law_lowest) (defScope s__law_lowest) .none kV__law_lowest dc__law_lowest pm__law_lowest an__law_lowest cd__law_lowest ct__law_lowest), sl__law_lowest⟩) (c__law_lowest : PySem.W.codeIn K cd__law_lowest "_law_lowest" = true) (k__law_lowest : PySem.W.keepIn K (.ref f__law_lowest) = true)
    (a__law_sum : PySem.W.nsIn K mainGlobals "_law_sum" = some (some (.ref f__law_sum)))
    (l__law_sum : K.lookup f__law_sum = some ⟨oc__law_sum, od__law_sum, .func (PySem.W.fnOf "_law_sum" "_law_sum" (defArgs s__law_sum) (defBody s__law_sum) (defScope s__law_sum) .none kV__law_sum dc__law_sum pm__law_sum an__law_sum cd__law_sum ct__law_sum), sl__law_sum⟩) (c__law_sum : PySem.W.codeIn K cd__law_sum "_law_sum" = true) (k__law_sum : PySem.W.keepIn K (.ref f__law_sum) = true)
    (a__law_limit : PySem.W.nsIn K mainGlobals "_law_limit" = some (some (.ref f__law_limit)))
    (l__law_limit : K.lookup f__law_limit = some ⟨oc__law_limit, od__law_limit, .func (PySem.W.fnOf "_law_limit" "_law_limit" (defArgs s__law_limit) (defBody s__law_limit) (defScope s__law_limit) .none kV__law_limit dc__law_limit pm__law_limit an__law_limit cd__law_limit ct__law_limit), sl__law_limit⟩) (c__law_limit : PySem.W.codeIn K cd__law_limit "_law_limit" = true) (k__law_limit : PySem.W.keepIn K (.ref f__law_limit) = true)
    (a_law : PySem.W.nsIn K mainGlobals "law" = some (some (.ref f_law)))
    (l_law : K.lookup f_law = some ⟨oc_law, od_law, .func (PySem.W.fnOf "law" "law" (defArgs s_law) (defBody s_law) (defScope s_law) .none kV_law dc_law pm_law an_law cd_law ct_law), sl_law⟩) (c_law : PySem.W.codeIn K cd_law "law" = true) (k_law : PySem.W.keepIn K (.ref f_law) = true)
    (z_int : PySem.W.nsIn K mainGlobals "int" = some none)
    (z_len : PySem.W.nsIn K mainGlobals "len" = some none)
    (z_range : PySem.W.nsIn K mainGlobals "range" = some none)
    (z_repr : PySem.W.nsIn K mainGlobals "repr" = some none)
    (i_gcd : PySem.W.nsIn K mainGlobals "gcd" = some (some (.builtin "math.gcd")))
    (c_MOST_WIDTHS : PySem.W.nsIn K mainGlobals "MOST_WIDTHS" = some (some (.int 60 t_MOST_WIDTHS))) :
    ∃ fd : FuncData, (∀ (s : Shared) (v : Value), BindsTo s fd ⟨[v], []⟩ [("script", v)]) ∧ ∀ base : Heap, K.In base → base.Ns mainGlobals mg → FnG l.prog w K mg base CX0 5 fa fd ["script"] (sp_law K) := by
  have e := hfa.symm.trans (PySem.W.mg_of X G a_law)
  cases e
  exact ⟨_, fun s v => .of_eq rfl, fun base _ _ => ok_law (top_mk X G gc_DialError xL_DialError sa_DialError eC_DialError tC_DialError kC_DialError ga_DialError gg_DialError hC_DialError ys_DialError yr_DialError yf_DialError gc_TooMany xL_TooMany sa_TooMany eC_TooMany tC_TooMany kC_TooMany ga_TooMany gg_TooMany hC_TooMany iC_TooMany tI_TooMany n_TooMany_limit e_TooMany_TooMany iL_TooMany l_TooMany__init c_TooMany__init k_TooMany__init a_reduced l_reduced c_reduced k_reduced a_turning_widths l_turning_widths c_turning_widths k_turning_widths a__tops l__tops c__tops k__tops a__law_begun l__law_begun c__law_begun k__law_begun a__law_draw l__law_draw c__law_draw k__law_draw a__law_twos l__law_twos c__law_twos k__law_twos a__law_shared l__law_shared c__law_shared k__law_shared a__law_less l__law_less c__law_less k__law_less a__law_lowest l__law_lowest c__law_lowest k__law_lowest a__law_sum l__law_sum c__law_sum k__law_sum a__law_limit l__law_limit c__law_limit k__law_limit a_law l_law c_law k_law z_int z_len z_range z_repr i_gcd c_MOST_WIDTHS)⟩
end Tw
open PySem PySem.W PyProof.Rows
set_option maxHeartbeats 0 in
theorem PySem.Challenge.cw_twicedial_k47_turning_widths_holds : PySem.Challenge.rw_twicedial_k47_turning_widths.Holds := by
  w_on; o_law; k_head; (case hw => w_witness2)
  k_fill
  refine Tw.walk_ofG (l := PySem.Challenge.rw_twicedial_k47_turning_widths) (n := 63) (k := 5) (x := "script") (CX := fun _ => L2.CX0) (sp := fun w => Tw.sp_law _) rfl (by decide) rfl ⟨rfl, by decide, by decide⟩ (fun w h Y => PySem.W.kIn_of Y) ?F (fun _ _ a ns hl hb _ hS => ⟨a, ns, rfl, hS, hl, hb, fun _ => rfl⟩) (fun _ _ _ _ _ h => h)
  case F =>
    intro w mg fa h KX G hmg
    refine' Tw.all_mk KX G hmg ?gc_DialError ?xL_DialError ?sa_DialError ?eC_DialError ?tC_DialError ?kC_DialError ?ga_DialError ?gg_DialError ?hC_DialError ?ys_DialError ?yr_DialError ?yf_DialError ?gc_TooMany ?xL_TooMany ?sa_TooMany ?eC_TooMany ?tC_TooMany ?kC_TooMany ?ga_TooMany ?gg_TooMany ?hC_TooMany ?iC_TooMany ?tI_TooMany ?n_TooMany_limit ?e_TooMany_TooMany ?iL_TooMany ?l_TooMany__init ?c_TooMany__init ?k_TooMany__init ?a_reduced ?l_reduced ?c_reduced ?k_reduced ?a_turning_widths ?l_turning_widths ?c_turning_widths ?k_turning_widths ?a__tops ?l__tops ?c__tops ?k__tops ?a__law_begun ?l__law_begun ?c__law_begun ?k__law_begun ?a__law_draw ?l__law_draw ?c__law_draw ?k__law_draw ?a__law_twos ?l__law_twos ?c__law_twos ?k__law_twos ?a__law_shared ?l__law_shared ?c__law_shared ?k__law_shared ?a__law_less ?l__law_less ?c__law_less ?k__law_less ?a__law_lowest ?l__law_lowest ?c__law_lowest ?k__law_lowest ?a__law_sum ?l__law_sum ?c__law_sum ?k__law_sum ?a__law_limit ?l__law_limit ?c__law_limit ?k__law_limit ?a_law ?l_law ?c_law ?k_law ?z_int ?z_len ?z_range ?z_repr ?i_gcd ?c_MOST_WIDTHS
    (case gc_DialError => k_is); (case xL_DialError => k_is); (case sa_DialError => k_is); (case eC_DialError => k_is); (case tC_DialError => k_is); (case kC_DialError => k_is); (case ga_DialError => k_is); (case gg_DialError => k_is); (case hC_DialError => k_is); (case ys_DialError => k_is); (case yr_DialError => k_is); (case yf_DialError => k_is); (case gc_TooMany => k_is); (case xL_TooMany => k_is); (case sa_TooMany => k_is); (case eC_TooMany => k_is); (case tC_TooMany => k_is); (case kC_TooMany => k_is); (case ga_TooMany => k_is); (case gg_TooMany => k_is); (case hC_TooMany => k_is); (case iC_TooMany => k_is); (case tI_TooMany => k_is); (case n_TooMany_limit => k_is); (case e_TooMany_TooMany => first | rfl | k_is); (case iL_TooMany => k_is); (case l_TooMany__init => k_is); (case c_TooMany__init => k_is); (case k_TooMany__init => k_is); (case a_reduced => k_is); (case l_reduced => k_is); (case c_reduced => k_is); (case k_reduced => k_is); (case a_turning_widths => k_is); (case l_turning_widths => k_is); (case c_turning_widths => k_is); (case k_turning_widths => k_is); (case a__tops => k_is); (case l__tops => k_is); (case c__tops => k_is); (case k__tops => k_is); (case a__law_begun => k_is); (case l__law_begun => k_is); (case c__law_begun => k_is); (case k__law_begun => k_is); (case a__law_draw => k_is); (case l__law_draw => k_is); (case c__law_draw => k_is); (case k__law_draw => k_is); (case a__law_twos => k_is); (case l__law_twos => k_is); (case c__law_twos => k_is); (case k__law_twos => k_is); (case a__law_shared => k_is); (case l__law_shared => k_is); (case c__law_shared => k_is); (case k__law_shared => k_is); (case a__law_less => k_is); (case l__law_less => k_is); (case c__law_less => k_is); (case k__law_less => k_is); (case a__law_lowest => k_is); (case l__law_lowest => k_is); (case c__law_lowest => k_is); (case k__law_lowest => k_is); (case a__law_sum => k_is); (case l__law_sum => k_is); (case c__law_sum => k_is); (case k__law_sum => k_is); (case a__law_limit => k_is); (case l__law_limit => k_is); (case c__law_limit => k_is); (case k__law_limit => k_is); (case a_law => k_is); (case l_law => k_is); (case c_law => k_is); (case k_law => k_is); (case z_int => k_is); (case z_len => k_is); (case z_range => k_is); (case z_repr => k_is); (case i_gcd => k_is); (case c_MOST_WIDTHS => k_is)
