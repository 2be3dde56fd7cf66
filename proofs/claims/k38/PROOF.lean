import PyProof.Rows.All
import Wide.All
import OpenK.AllK
import Wide.FinOn
import HandS.ForMost
import HandS.IsInst
import HandS.TupLe
import HandS.Walk
import HandS.Codes
import HandS.Wide
import HandS.TupAny
import PyProof.EqAt
import PyProof.EqKinds
import KE.DataCmp
import KE.SortData
import HandS.More
import HandS.TupLen
import HandS.Conv
import PySem.Challenge.RW_hookcheck_k38_tests
set_option Elab.async false
set_option linter.all false
set_option maxRecDepth 100000
namespace My
open PySem L2

/-! ### a def that is called -/
structure Cal (P : Program) (w : World) (K : PySem.W.Frag) (mg : Str → Option Value) (base : Heap) (x : Str) (k : Nat) (ps : List Str) (sp : PySem.W.Frag → Sp) (f : Addr) (fd : FuncData) : Prop where
  ok : FnOk P w K mg base CX0 k f fd ps (sp K)
  b : Binds K fd ps []
  kp : PySem.W.keepIn K (.ref f) = true
  m : mg x = some (.ref f)

/-! ### heaps: all that was tracked but t is as it was -/
def Sm (t : Addr) (H H' : Hp) : Prop := ∀ b o, b ≠ t → H b = some o → H' b = some o
theorem Sm.refl (t : Addr) (H : Hp) : Sm t H H := fun _ _ _ h => h
theorem Sm.trans {t : Addr} {H H1 H2 : Hp} (a : Sm t H H1) (b : Sm t H1 H2) : Sm t H H2 := fun c o n h => b c o n (a c o n h)
theorem Sm.same {t : Addr} {H H1 : Hp} (a : Same H H1) : Sm t H H1 := fun c o _ h => a c o h
theorem Sm.new {t p : Addr} {H : Hp} {o : HO} (h : H p = none) : Sm t H (upd H p o) := fun c u _ e => by
  rw [upd_ne (ne_of_none e h)]; exact e
theorem Sm.put {t : Addr} {H : Hp} {o : HO} : Sm t H (upd H t o) := fun c u n e => by rw [upd_ne n]; exact e
/-- a change at an address that was not tracked before -/
theorem Sm.late {t p : Addr} {H H1 : Hp} {o : HO} (a : Sm t H H1) (h : H p = none) : Sm t H (upd H1 p o) := fun c u n e => by
  rw [upd_ne (ne_of_none e h)]; exact a c u n e
theorem same_new {H : Hp} {p : Addr} (h : H p = none) (o : HO) : Same H (upd H p o) := fun b u q => by rw [upd_ne (ne_of_none q h)]; exact q
theorem _root_.L2.Same.late {p : Addr} {H H1 : Hp} {o : HO} (a : Same H H1) (h : H p = none) : Same H (upd H1 p o) := fun c u e => by
  rw [upd_ne (ne_of_none e h)]; exact a c u e
theorem Sm.seqL {K : PySem.W.Frag} {t a : Addr} {H H' : Hp} {xs : List V} (e : Sm t H H') (n : a ≠ t) (h : SqL K H a xs) : SqL K H' a xs := by
  rcases h with (h | ⟨o, h⟩) | h
  · exact .inl (.inl (e _ _ n h))
  · exact .inl (.inr ⟨o, e _ _ n h⟩)
  · exact .inr h
theorem Sm.seqT {K : PySem.W.Frag} {t a : Addr} {H H' : Hp} {xs : List V} (e : Sm t H H') (n : a ≠ t) (h : SqT K H a xs) : SqT K H' a xs := by
  rcases h with (h | ⟨o, h⟩) | h
  · exact .inl (.inl (e _ _ n h))
  · exact .inl (.inr ⟨o, e _ _ n h⟩)
  · exact .inr h
theorem _root_.L2.Same.seqT {K : PySem.W.Frag} {a : Addr} {H H' : Hp} {xs : List V} (e : Same H H') (h : SqT K H a xs) : SqT K H' a xs := by
  rcases h with (h | ⟨o, h⟩) | h
  · exact .inl (.inl (e _ _ h))
  · exact .inl (.inr ⟨o, e _ _ h⟩)
  · exact .inr h

/-! ### the tape -/
structure Tape (H : Hp) (t : Addr) : Prop where
  ex : ∃ (l : Addr) (ns : List Int) (a b c : Int), H t = some (.lst [.ref l, .int a, .int b, .int c]) ∧ H l = some (.lst (ns.map V.int)) ∧ l ≠ t ∧ 0 ≤ a ∧ ns.length ≤ 63
theorem Tape.same {H H' : Hp} {t : Addr} (h : Tape H t) (e : Same H H') : Tape H' t := by
  obtain ⟨l, ns, a, b, c, h1, h2, h3⟩ := h.ex
  exact ⟨l, ns, a, b, c, e _ _ h1, e _ _ h2, h3⟩
theorem Tape.new {H : Hp} {t p : Addr} {o : HO} (h : Tape H t) (e : H p = none) : Tape (upd H p o) t := h.same (same_new e o)
theorem Tape.tracked {H : Hp} {t : Addr} (h : Tape H t) : ∃ o, H t = some o := by
  obtain ⟨l, ns, a, b, c, h1, _⟩ := h.ex
  exact ⟨_, h1⟩
/-- a fresh address is not the tape -/
theorem Tape.ne {H : Hp} {t p : Addr} (h : Tape H t) (e : H p = none) : p ≠ t := by
  obtain ⟨o, h⟩ := h.tracked
  exact (ne_of_none h e).symm
/-- the script's copy that the tape holds -/
def tL (H : Hp) (t : Addr) : Option Addr := match H t with
  | some (.lst (.ref l :: _)) => some l
  | _ => none
theorem tL_of {H : Hp} {t l : Addr} {xs : List V} (h : H t = some (.lst (.ref l :: xs))) : tL H t = some l := by
  unfold tL
  rw [h]
/-- the tape goes on, what else was tracked stands -/
structure Go (t : Addr) (H H' : Hp) : Prop where
  tp : Tape H' t
  sm : Sm t H H'
  fx : tL H' t = tL H t
theorem Go.trans {t : Addr} {H H1 H2 : Hp} (a : Go t H H1) (b : Go t H1 H2) : Go t H H2 := ⟨b.tp, a.sm.trans b.sm, b.fx.trans a.fx⟩
theorem Go.refl {t : Addr} {H : Hp} (h : Tape H t) : Go t H H := ⟨h, Sm.refl _ _, rfl⟩
theorem Go.same {t : Addr} {H H1 : Hp} (h : Tape H t) (a : Same H H1) : Go t H H1 := by
  obtain ⟨l, ns, x, b, c, h1, h2, h3⟩ := h.ex
  exact ⟨h.same a, Sm.same a, by rw [tL_of h1, tL_of (a _ _ h1)]⟩
theorem Go.new {t p : Addr} {H H1 : Hp} {o : HO} (a : Go t H H1) (h : H1 p = none) : Go t H (upd H1 p o) := a.trans (Go.same a.tp (same_new h o))
theorem Go.put {t l : Addr} {H H1 : Hp} {xs : List V} {ns : List Int} {a b c : Int} (h1 : H t = some (.lst (.ref l :: xs))) (s : Sm t H H1) (h2 : H1 l = some (.lst (ns.map V.int))) (h3 : l ≠ t) (h4 : 0 ≤ a) (h5 : ns.length ≤ 63) :
    Go t H (upd H1 t (.lst [.ref l, .int a, .int b, .int c])) :=
  ⟨⟨l, ns, a, b, c, upd_same, by rw [upd_ne h3]; exact h2, h3, h4, h5⟩, s.trans Sm.put, by rw [tL_of h1, tL_of upd_same]⟩
/-- a change at an address that was not tracked at first -/
theorem Go.late {t p : Addr} {H H1 : Hp} {o : HO} (h : Tape H t) (a : Go t H H1) (n : H p = none) : Go t H (upd H1 p o) := by
  obtain ⟨l, ns, x, b, c, h1, h2, h3⟩ := h.ex
  obtain ⟨l', ns', x', b', c', k1, k2, k3⟩ := a.tp.ex
  have e := a.fx
  rw [tL_of h1, tL_of k1] at e
  cases e
  have n1 : t ≠ p := ne_of_none h1 n
  have n2 : l ≠ p := ne_of_none h2 n
  exact ⟨⟨l, ns', x', b', c', by rw [upd_ne n1]; exact k1, by rw [upd_ne n2]; exact k2, k3⟩, a.sm.late n, by rw [tL_of h1]; exact tL_of (by rw [upd_ne n1]; exact k1)⟩

/-! ### texts -/
section
variable {X : Cx}
/-- s * n -/
theorem op_mulS : OpR X (binaryOp .Mult) (fun x y H Q => ∃ (z : Str) (n : Int), x = .str z ∧ y = .int n ∧ n ≤ 1000000 ∧ -1000000 ≤ n ∧ z.length * n.toNat ≤ sizeLine ∧ Q (.str (Txt.mul z n)) H) := by
  intro pins s σ H x y u v Q I rx ry h
  obtain ⟨z, n, rfl, rfl, h1, h2, h3, q⟩ := h
  obtain ⟨t, rfl⟩ := rx
  obtain ⟨t', rfl⟩ := ry
  refine PySem.SB.mul ⟨?_, ?_, ?_⟩ fun t' k => ⟨.str _, H, ?_, ⟨_, rfl⟩, q⟩
  · simp only [Bool.or_eq_false_iff, decide_eq_false_iff_not]
    exact ⟨by omega, by omega⟩
  · intro p _ q
    have e : (1000000 : Int) ≤ (2 ^ 63 - 1) / n := by
      rw [Int.le_ediv_iff_mul_le (by omega)]
      omega
    by_cases hz : z.length ≤ 1000000
    · omega
    · have h4 : z.length * 1 ≤ z.length * n.toNat := Nat.mul_le_mul_left _ (by omega)
      have e2 : (sizeLine : Int) ≤ (2 ^ 63 - 1) / n := by
        rw [Int.le_ediv_iff_mul_le (by omega)]
        show (16777216 : Int) * n ≤ _
        omega
      have h5 : (z.length : Int) ≤ (sizeLine : Int) := by
        have := Nat.le_trans h4 h3
        omega
      omega
  · intro _ _
    unfold PySem.Builtin.Str.tooLong
    simp only [decide_eq_false_iff_not]
    show ¬ z.length * n.toNat > 16777216
    have : z.length * n.toNat ≤ 16777216 := h3
    omega
  · exact I.tok k
end

/-! ### rules over a written part that is named -/
section
variable {X : Cx} {K : PySem.W.Frag}
theorem kx_list (h : X.K = K) : IxR X (rIxL K) := h ▸ ix_list
theorem kx_tup (h : X.K = K) : IxR X (rIxT K) := h ▸ ix_tup
theorem kx_seq (h : X.K = K) : IxR X (rIx K) := h ▸ ix_seq
theorem ksl_list (h : X.K = K) : SlR X (rSlL K) := h ▸ sl_list
theorem kop_eqD (h : X.K = K) (hu : X.A.units + 64 < cLine) : OpR X (compareOp .Eq) (rEqD K) := h ▸ op_eqD hu
theorem kop_neD (h : X.K = K) (hu : X.A.units + 64 < cLine) : OpR X (compareOp .NotEq) (rNeD K) := h ▸ op_neD hu
theorem kop_in (h : X.K = K) : OpR X (compareOp .In) (rIn K false) := h ▸ op_in_seq
theorem kop_notIn (h : X.K = K) : OpR X (compareOp .NotIn) (rIn K true) := h ▸ op_notIn_seq
theorem kop_catT (h : X.K = K) : OpR X (binaryOp .Add) (rCatA K) := h ▸ op_catA
theorem ksl_tup (h : X.K = K) : SlR X (rSlA K) := h ▸ sl_tupA
def rLen (K : PySem.W.Frag) : List V → Hp → VK → Prop := fun xs H Q => ∃ x n, xs = [x] ∧ LenV K x H n ∧ Q (.int n) H
theorem kc_len (h : X.K = K) : CallR X (.builtin "len") (rLen K) := h ▸ call_len
def rLenS (K : PySem.W.Frag) : List V → Hp → VK → Prop := fun xs H Q => ∃ p ys, xs = [.ref p] ∧ (SqL K H p ys ∨ SqT K H p ys) ∧ Q (.int ys.length) H
theorem kc_lenS (h : X.K = K) : CallR X (.builtin "len") (rLenS K) := h ▸ call_len_seq
def rListOf (K : PySem.W.Frag) : List V → Hp → VK → Prop := fun xs H Q => ∃ p ys, xs = [.ref p] ∧ (SqL K H p ys ∨ SqT K H p ys) ∧ ∀ l, H l = none → Q (.ref l) (upd H l (.lst ys))
theorem kc_list (h : X.K = K) : CallR X (.type "list") (rListOf K) := h ▸ call_list_of
def rTupOf (K : PySem.W.Frag) : List V → Hp → VK → Prop := fun xs H Q => ∃ p ys, xs = [.ref p] ∧ ((SqL K H p ys ∧ ∀ l, H l = none → Q (.ref l) (upd H l (.tup ys))) ∨ (SqT K H p ys ∧ Q (.ref p) H))
theorem kc_tuple (h : X.K = K) : CallR X (.type "tuple") (rTupOf K) := h ▸ call_tuple_of
theorem kc_all (h : X.K = K) (hc : X.calm = true) : CallR X (.builtin "all") (rAll K) := h ▸ cr_all hc
theorem kc_any (h : X.K = K) (hc : X.calm = true) : CallR X (.builtin "any") (rAny K) := h ▸ cr_any hc
theorem kc_isi (h : X.K = K) : CallR X (.builtin "isinstance") (rIsi K) := h ▸ call_isi
theorem kpi_list {tg l : Expr} {tl : TE} (h : X.K = K) (hl : PE X l tl) : PI X tg l (iList K tl) := h ▸ pi_list hl
theorem kpi_tup {tg l : Expr} {tl : TE} (h : X.K = K) (hl : PE X l tl) : PI X tg l (iTup K tl) := h ▸ pi_tup hl
def rJoin (K : PySem.W.Frag) : V → List V → Hp → VK → Prop := fun x xs H Q => ∃ a p, ∃ ys : List Str, x = .str a ∧ xs = [.ref p] ∧ (SqL K H p (ys.map V.str) ∨ SqT K H p (ys.map V.str)) ∧ (ys.map (·.length)).sum + ys.length * a.length ≤ 16777216 ∧ Q (.str (Txt.join a ys)) H
end
/-! ### loops -/
section
variable {J : It} {n : Nat} {G : Hp → Prop} {Y : Nat → Hp → V → Hp → Prop}
/-- what is made so far stands at D -/
def AccI (I : Nat → List V → Hp → Prop) (D : Addr) (i : Nat) (H : Hp) : Prop := ∃ acc, H D = some (.lst acc) ∧ acc.length = i ∧ I i acc H
theorem acc_step {I : Nat → List V → Hp → Prop} {D : Addr} {i : Nat} {acc : List V} {y : V} {H4 : Hp} (e : H4 D = some (.lst acc)) (el : acc.length = i) (hi : i ≤ 1000000) (k : I (i + 1) (acc ++ [y]) (upd H4 D (.lst (acc ++ [y])))) :
    ∃ acc, H4 D = some (.lst acc) ∧ acc.length < sizeLine ∧ AccI I D (i + 1) (upd H4 D (.lst (acc ++ [y]))) := by
  refine ⟨acc, e, ?_, acc ++ [y], upd_same, by rw [List.length_append, el]; rfl, k⟩
  show acc.length < 16777216
  omega
/-- a comprehension without a test -/
theorem lc_acc (w : Walk J n G Y) {g : TG} {te : TE} {vs : List Nat} {σ : St} {H1 : Hp} {D : Addr} {Qd : Hp → Prop} (I : Nat → List V → Hp → Prop) (h0 : I 0 [] (upd H1 D (.lst [])))
    (hG : ∀ i acc H, i ≤ n → H D = some (.lst acc) → I i acc H → G H)
    (hs : ∀ i acc x H H', i < n → H D = some (.lst acc) → acc.length = i → I i acc H → Y i H x H' → g x (wipe σ vs) H' fun σ2 H2 => wipe σ2 vs = wipe σ vs ∧ te σ2 H2 fun y H4 => ∃ acc, H4 D = some (.lst acc) ∧ acc.length < sizeLine ∧ AccI I D (i + 1) (upd H4 D (.lst (acc ++ [y]))))
    (hd : ∀ acc H, H D = some (.lst acc) → acc.length = n → I n acc H → Qd H) :
    ∃ W : Nat → Nat → Hp → Prop, (∃ m, W 0 m (upd H1 D (.lst []))) ∧ ∀ i m H, W i m H →
      (J.stop i H ∧ Qd H) ∨ (J.go i H ∧ ∃ Nx : Hp → Prop, (∀ H', Nx H' → ∃ m', m' < m ∧ W (i + 1) m' H') ∧ ∀ x H', J.yld i H x H' → g x (wipe σ vs) H' fun σ2 H2 => wipe σ2 vs = wipe σ vs ∧ tYes σ2 H2 fun b H3 =>
        if b = true then te σ2 H3 fun y H4 => ∃ acc, H4 D = some (.lst acc) ∧ acc.length < sizeLine ∧ Nx (upd H4 D (.lst (acc ++ [y]))) else Nx H3) := by
  refine lc_it w (AccI I D) ⟨[], upd_same, rfl, h0⟩ (fun i H hi ⟨acc, e, _, k⟩ => hG i acc H hi e k) (fun i x H H' hi ⟨acc, e, el, k⟩ hy => ?_) (fun H ⟨acc, e, el, k⟩ => hd acc H e el k)
  exact hs i acc x H H' hi e el k hy
end

theorem take_succ_code {z : Str} {i c : Nat} (h : z.cps[i]? = some c) : z.cps.toList.take (i + 1) = z.cps.toList.take i ++ [c] := by
  have h' : z.cps.toList[i]? = some c := by rw [Array.getElem?_toList]; exact h
  obtain ⟨hl, e⟩ := List.getElem?_eq_some_iff.mp h'
  rw [List.take_succ_eq_append_getElem hl, e]
theorem str_of_list {z : Str} (h : z.cps.toList = []) : z = Str.ofString "" := by
  obtain ⟨⟨l⟩⟩ := z
  have e : l = [] := h
  subst e
  rfl
theorem int_get {ns : List Int} {i : Nat} {y : V} (h : (ns.map V.int)[i]? = some y) : ∃ u, y = V.int u ∧ ns[i]? = some u := by
  rw [List.getElem?_map] at h
  cases e : ns[i]? with
  | none => rw [e] at h; cases h
  | some u => rw [e] at h; exact ⟨u, (Option.some.inj h).symm, rfl⟩
theorem fmod_in {a m : Int} (h : 0 < m) : 0 ≤ a.fmod m ∧ a.fmod m < m := by
  rw [Int.fmod_eq_emod_of_nonneg a (by omega)]
  exact ⟨Int.emod_nonneg _ (by omega), Int.emod_lt_of_pos _ h⟩

/-! ### texts by their codes -/
theorem str_ext {a b : Str} (h : a.cps.toList = b.cps.toList) : a = b := by
  obtain ⟨⟨x⟩⟩ := a
  obtain ⟨⟨y⟩⟩ := b
  have e : x = y := h
  rw [e]
theorem app_codes (a b : Str) : (a ++ b).cps.toList = a.cps.toList ++ b.cps.toList := by
  show (a.cps ++ b.cps).toList = _
  rw [Array.toList_append]
theorem app_len (a b : Str) : (a ++ b).length = a.length + b.length := by
  show (a.cps ++ b.cps).size = _
  rw [Array.size_append]; rfl
theorem len_codes (a : Str) : a.cps.toList.length = a.length := by simp [Str.length]
theorem join_codes : ∀ ys : List Str, (Txt.join (Str.ofString "") ys).cps.toList = (ys.map (·.cps.toList)).flatten := by
  have h : ∀ ys : List Str, (Str.join (Str.ofString "") ys).cps.toList = (ys.map (·.cps.toList)).flatten := by
    intro ys
    induction ys with
    | nil => rfl
    | cons x r ih =>
      cases r with
      | nil =>
        show x.cps.toList = _
        simp
      | cons y r =>
        show (x ++ Str.ofString "" ++ Str.join (Str.ofString "") (y :: r)).cps.toList = _
        rw [app_codes, app_codes, ih]
        show x.cps.toList ++ [] ++ _ = _
        rw [List.append_nil, List.map_cons (l := y :: r), List.flatten_cons]
  intro ys
  have e : Txt.join (Str.ofString "") ys = Str.join (Str.ofString "") ys := StrLaws.glued_eq_join _ ys
  rw [e, h]
/-- a text of drawn signs -/
def Sg (c : Nat) : Prop := 32 ≤ c ∧ c ≤ 126 ∧ c ≠ 37
instance (c : Nat) : Decidable (Sg c) := by unfold Sg; exact inferInstance
def SgT (z : Str) : Prop := ∀ c ∈ z.cps.toList, Sg c
theorem SgT.app {a b : Str} (h : SgT a) (k : SgT b) : SgT (a ++ b) := fun c hc => by
  rw [app_codes] at hc
  rcases List.mem_append.mp hc with q | q
  · exact h c q
  · exact k c q
theorem SgT.one {c : Nat} (h : Sg c) : SgT ⟨#[c]⟩ := fun d hd => by
  have e : d = c := by simpa using hd
  rw [e]; exact h

/-! ### plain data: what is passed and returned -/
inductive Dt where
  | non | bl (b : Bool) | int (i : Int) | str (s : Str) | tup (xs : List Dt)
mutual
inductive DT (K : PySem.W.Frag) (H : Hp) : V → Dt → Prop
  | non : DT K H .non .non
  | bl (b : Bool) : DT K H (.bl b) (.bl b)
  | int (i : Int) : DT K H (.int i) (.int i)
  | str (z : Str) : DT K H (.str z) (.str z)
  | tup {a : Addr} {xs : List V} {ds : List Dt} : SqT K H a xs → DTs K H xs ds → DT K H (.ref a) (.tup ds)
inductive DTs (K : PySem.W.Frag) (H : Hp) : List V → List Dt → Prop
  | nil : DTs K H [] []
  | cons {v : V} {vs : List V} {d : Dt} {ds : List Dt} : DT K H v d → DTs K H vs ds → DTs K H (v :: vs) (d :: ds)
end
mutual
theorem DT.mono {K : PySem.W.Frag} {H H' : Hp} (k : ∀ a xs, SqT K H a xs → SqT K H' a xs) : ∀ (d : Dt) (v : V), DT K H v d → DT K H' v d
  | .non, _, h => by cases h; exact .non
  | .bl b, _, h => by cases h; exact .bl _
  | .int b, _, h => by cases h; exact .int _
  | .str b, _, h => by cases h; exact .str _
  | .tup ds, _, h => by
    cases h with
    | tup h1 h2 => exact .tup (k _ _ h1) (DTs.mono k ds _ h2)
theorem DTs.mono {K : PySem.W.Frag} {H H' : Hp} (k : ∀ a xs, SqT K H a xs → SqT K H' a xs) : ∀ (ds : List Dt) (vs : List V), DTs K H vs ds → DTs K H' vs ds
  | [], _, h => by cases h; exact .nil
  | d :: ds, _, h => by
    cases h with
    | cons h1 h2 => exact .cons (DT.mono k d _ h1) (DTs.mono k ds _ h2)
end
section
variable {K : PySem.W.Frag} {H H' : Hp}
theorem DT.same {v : V} {d : Dt} (h : DT K H v d) (e : Same H H') : DT K H' v d := DT.mono (fun _ _ q => e.seqT q) d v h
theorem DTs.same {v : List V} {d : List Dt} (h : DTs K H v d) (e : Same H H') : DTs K H' v d := DTs.mono (fun _ _ q => e.seqT q) d v h
theorem seqT_go {t a : Addr} {xs : List V} (hT : Tape H t) (e : Sm t H H') (h : SqT K H a xs) : SqT K H' a xs := by
  obtain ⟨l, ns, x, b, c, h1, _⟩ := hT.ex
  rcases h with (h | ⟨o, h⟩) | h
  · exact .inl (.inl (e _ _ (ne_of h h1 (fun z => by cases z)) h))
  · exact .inl (.inr ⟨o, e _ _ (ne_of h h1 (fun z => by cases z)) h⟩)
  · exact .inr h
theorem DT.go {t : Addr} {v : V} {d : Dt} (h : DT K H v d) (hT : Tape H t) (e : Sm t H H') : DT K H' v d := DT.mono (fun _ _ q => seqT_go hT e q) d v h
theorem DTs.go {t : Addr} {v : List V} {d : List Dt} (h : DTs K H v d) (hT : Tape H t) (e : Sm t H H') : DTs K H' v d := DTs.mono (fun _ _ q => seqT_go hT e q) d v h
theorem DTs.length {vs : List V} {ds : List Dt} (h : DTs K H vs ds) : vs.length = ds.length := by
  induction ds generalizing vs with
  | nil => cases h; rfl
  | cons d ds ih =>
    cases h with
    | cons _ h2 => rw [List.length_cons, List.length_cons, ih h2]
theorem DTs.get {vs : List V} {ds : List Dt} (h : DTs K H vs ds) {i : Nat} {d : Dt} (e : ds[i]? = some d) : ∃ v, vs[i]? = some v ∧ DT K H v d := by
  induction ds generalizing vs i with
  | nil => simp at e
  | cons x ds ih =>
    cases h with
    | cons h1 h2 =>
      cases i with
      | zero =>
        have e' : x = d := by simpa using e
        subst e'
        exact ⟨_, rfl, h1⟩
      | succ i => exact ih h2 (by simpa using e)
theorem DTs.get' {vs : List V} {ds : List Dt} (h : DTs K H vs ds) {i : Nat} {v : V} (e : vs[i]? = some v) : ∃ d, ds[i]? = some d ∧ DT K H v d := by
  have hl := h.length
  have hi : i < ds.length := by rw [← hl]; exact (List.getElem?_eq_some_iff.mp e).1
  obtain ⟨w, e2, k⟩ := h.get (List.getElem?_eq_getElem hi)
  rw [e] at e2
  cases e2
  exact ⟨_, List.getElem?_eq_getElem hi, k⟩
theorem DTs.append {vs ws : List V} {ds es : List Dt} (h : DTs K H vs ds) (k : DTs K H ws es) : DTs K H (vs ++ ws) (ds ++ es) := by
  induction ds generalizing vs with
  | nil => cases h; exact k
  | cons x ds ih =>
    cases h with
    | cons h1 h2 => exact .cons h1 (ih h2)
end
/-! ### how deep, how wide -/
mutual
def Dt.deep : Dt → Nat
  | .tup xs => Dt.deeps xs + 1
  | _ => 1
def Dt.deeps : List Dt → Nat
  | [] => 0
  | d :: ds => max d.deep (Dt.deeps ds)
end
mutual
def Dt.fits : Dt → Bool
  | .tup xs => decide (xs.length ≤ 1000000) && Dt.fitss xs
  | _ => true
def Dt.fitss : List Dt → Bool
  | [] => true
  | d :: ds => d.fits && Dt.fitss ds
end
theorem Dt.deeps_mem {d : Dt} : ∀ {ds : List Dt}, d ∈ ds → d.deep ≤ Dt.deeps ds
  | x :: ds, h => by
    unfold Dt.deeps
    rcases List.mem_cons.mp h with rfl | h
    · omega
    · have := Dt.deeps_mem h
      omega
theorem Dt.fitss_mem {d : Dt} : ∀ {ds : List Dt}, d ∈ ds → Dt.fitss ds = true → d.fits = true
  | x :: ds, h, k => by
    unfold Dt.fitss at k
    rw [Bool.and_eq_true] at k
    rcases List.mem_cons.mp h with rfl | h
    · exact k.1
    · exact Dt.fitss_mem h k.2
def Dt.name : Dt → String
  | .non => "NoneType" | .bl _ => "bool" | .int _ => "int" | .str _ => "str" | .tup _ => "tuple"
theorem seqT_ty {K : PySem.W.Frag} {H : Hp} {a : Addr} {xs : List V} (h : SqT K H a xs) : TyX K H (.ref a) (.type "tuple") := by
  rcases h with (h | ⟨o, h⟩) | ⟨o, its, n, h1, h2, _⟩
  · exact .base (.tup h)
  · exact .fTuple h
  · exact .kTuple h1 h2
theorem DT.ty {K : PySem.W.Frag} {H : Hp} {v : V} {d : Dt} (h : DT K H v d) : TyX K H v (.type d.name) := by
  cases h with
  | non => exact .base .non
  | bl b => exact .base (.bl b)
  | int i => exact .base (.int i)
  | str z => exact .base (.str z)
  | tup h1 _ => exact seqT_ty h1

theorem at_any {α : Type} {xs : List α} {z : Int} {j : Nat} {v : α} (e : z = (j : Int)) (h : xs[j]? = some v) : atI xs z = some v := by
  rw [e]
  exact atI_nat h
theorem none_left {P : Program} {w : World} {K : PySem.W.Frag} {mg : Str → Option Value} {base : Heap} {f : Addr} {fd : FuncData} {ps : List Str} {sp : Sp} (no : ∀ vs H Q E, ¬ sp vs H Q E) : FnOk P w K mg base CX0 0 f fd ps sp :=
  ⟨fun vs H Q E h => absurd h (no vs H Q E), fun A outer s H args us vs Q E _ _ _ _ h => absurd h (no vs H Q E)⟩
theorem mul_codes (z : Str) (n : Int) : (Txt.mul z n).cps.toList = (List.replicate n.toNat z.cps.toList).flatten := by
  unfold Txt.mul
  by_cases h1 : n < 1
  · rw [if_pos h1, show n.toNat = 0 by omega]
    rfl
  · rw [if_neg h1]
    have fl : ∀ (k : Nat) (a : Array Nat), ((List.replicate k z.cps).foldl (· ++ ·) a).toList = a.toList ++ (List.replicate k z.cps.toList).flatten := by
      intro k
      induction k with
      | zero => intro a; simp
      | succ k ih =>
        intro a
        rw [List.replicate_succ, List.foldl_cons, ih, List.replicate_succ, List.flatten_cons, Array.toList_append, List.append_assoc]
    by_cases h2 : (n == 1 || z.length == 0) = true
    · rw [if_pos h2]
      rw [Bool.or_eq_true] at h2
      rcases h2 with h2 | h2
      · have e : n = 1 := by simpa using h2
        subst e
        simp
      · have e : z.cps.toList = [] := by
          have : z.cps.toList.length = 0 := by rw [len_codes]; simpa using h2
          exact List.length_eq_zero_iff.mp this
        rw [e]
        simp
    · rw [if_neg h2]
      have e := fl n.toNat #[]
      simpa using e
theorem mul_len (z : Str) (n : Int) : (Txt.mul z n).length = n.toNat * z.length := by
  rw [← len_codes, mul_codes, List.length_flatten, List.map_replicate, List.sum_replicate_nat, len_codes]
/-- a list of texts as data of the model -/
theorem dpa_strs {K : PySem.W.Frag} {H : Hp} : ∀ ws : List Str, DpAll K H (ws.map V.str) (ws.map PyData.str)
  | [] => .nil
  | z :: ws => .cons (.str z) (dpa_strs ws)
theorem shaped_strs {ws : List Str} (h : ∀ z ∈ ws, SgT z) : SeqAt.shaped (.list (ws.map PyData.str)) = true := by
  have l : ∀ ws : List Str, (∀ z ∈ ws, SgT z) → PyData.canLayAll0 (ws.map PyData.str) = true ∧ PyData.depthAll (ws.map PyData.str) = 0 := by
    intro ws
    induction ws with
    | nil => intro _; exact ⟨rfl, rfl⟩
    | cons z ws ih =>
      intro h
      obtain ⟨a, b⟩ := ih fun y hy => h y (List.mem_cons_of_mem _ hy)
      have hz : PyData.strOk z = true := by
        unfold PyData.strOk
        rw [Array.all_eq_true_iff_forall_mem]
        intro c hc
        have := h z List.mem_cons_self c (by simpa using hc)
        have k := this.2.1
        simp
        omega
      refine ⟨?_, ?_⟩
      · rw [List.map_cons, PyData.canLayAll0, PyData.canLay0, hz, a]
        rfl
      · rw [List.map_cons, PyData.depthAll, b, PyData.depth]
        rfl
  obtain ⟨a, b⟩ := l ws h
  unfold SeqAt.shaped
  rw [PyData.canLay0, PyData.depth, a, b]
  rfl
theorem eqv_strs_nil (ws : List Str) : PyData.eqv (.list (ws.map PyData.str)) (.list []) = ws.isEmpty := by
  cases ws <;> simp [PyData.eqv, PyData.eqvAll]
theorem SgT.cut {z : Str} (h : SgT z) (a b : Option Int) : SgT (cutS z a b) := fun c hc => by
  refine h c ?_
  unfold cutS at hc
  exact List.mem_of_mem_drop (List.mem_of_mem_take (by simpa using hc))
theorem SgT.mul {z : Str} (h : SgT z) (n : Int) : SgT (Txt.mul z n) := fun c hc => by
  rw [mul_codes] at hc
  obtain ⟨l, h1, h2⟩ := List.mem_flatten.mp hc
  rw [List.eq_of_mem_replicate h1] at h2
  exact h c h2
/-! ### slices, by take and drop -/
theorem sIx_pos {n d : Nat} {a : Int} (h : 0 ≤ a) : HT.sIx n d (some a) = min a.toNat n := by
  show (if a < 0 then _ else _) = _
  rw [if_neg (by omega)]
theorem cut_pre (z : Str) {a : Int} (h : 0 ≤ a) : (cutS z none (some a)).cps.toList = z.cps.toList.take a.toNat := by
  show ((z.cps.toList.drop 0).take (HT.sIx z.length z.length (some a) - 0)) = _
  rw [sIx_pos h, List.drop_zero, Nat.sub_zero, ← len_codes]
  by_cases c : a.toNat ≤ z.cps.toList.length
  · rw [Nat.min_eq_left c]
  · rw [Nat.min_eq_right (by omega), List.take_of_length_le (Nat.le_refl _), List.take_of_length_le (by omega)]
theorem cut_suf (z : Str) {a : Int} (h : 0 ≤ a) : (cutS z (some a) none).cps.toList = z.cps.toList.drop a.toNat := by
  show ((z.cps.toList.drop (HT.sIx z.length 0 (some a))).take (z.length - HT.sIx z.length 0 (some a))) = _
  rw [sIx_pos h, ← len_codes]
  by_cases c : a.toNat ≤ z.cps.toList.length
  · rw [Nat.min_eq_left c, List.take_of_length_le (by rw [List.length_drop]; exact Nat.le_refl _)]
  · rw [Nat.min_eq_right (by omega), List.drop_of_length_le (Nat.le_refl _), List.drop_of_length_le (by omega), List.take_nil]
theorem cut_pre_len (z : Str) {a : Int} (h : 0 ≤ a) : (cutS z none (some a)).length = min a.toNat z.length := by
  rw [← len_codes, cut_pre z h, List.length_take, len_codes]
theorem cut_suf_len (z : Str) {a : Int} (h : 0 ≤ a) : (cutS z (some a) none).length = z.length - a.toNat := by
  rw [← len_codes, cut_suf z h, List.length_drop, len_codes]
theorem cutV_pre {xs : List V} {a : Int} (h : 0 ≤ a) : cutV xs none (some a) = xs.take a.toNat := by
  show (xs.drop 0).take (HT.sIx xs.length xs.length (some a) - 0) = _
  rw [sIx_pos h, List.drop_zero, Nat.sub_zero]
  by_cases c : a.toNat ≤ xs.length
  · rw [Nat.min_eq_left c]
  · rw [Nat.min_eq_right (by omega), List.take_of_length_le (Nat.le_refl _), List.take_of_length_le (by omega)]
theorem cutV_suf {xs : List V} {a : Int} (h : 0 ≤ a) : cutV xs (some a) none = xs.drop a.toNat := by
  show (xs.drop (HT.sIx xs.length 0 (some a))).take (xs.length - HT.sIx xs.length 0 (some a)) = _
  rw [sIx_pos h]
  by_cases c : a.toNat ≤ xs.length
  · rw [Nat.min_eq_left c, List.take_of_length_le (by rw [List.length_drop]; exact Nat.le_refl _)]
  · rw [Nat.min_eq_right (by omega), List.drop_of_length_le (Nat.le_refl _), List.drop_of_length_le (by omega), List.take_nil]
theorem pickN (l : List Nat) {v : V} (h : v ∈ l.map fun n : Nat => V.int (n : Int)) {b : Nat} (hb : (l.all fun n => decide (n ≤ b)) = true) : ∃ n : Nat, n ≤ b ∧ v = V.int (n : Int) := by
  obtain ⟨n, h1, h2⟩ := List.mem_map.mp h
  exact ⟨n, of_decide_eq_true (List.all_eq_true.mp hb n h1), h2.symm⟩
theorem pickS (l : List Str) {v : V} (h : v ∈ l.map V.str) : ∃ z : Str, z ∈ l ∧ v = V.str z := by
  obtain ⟨n, h1, h2⟩ := List.mem_map.mp h
  exact ⟨n, h1, h2.symm⟩
theorem le_line {n : Nat} (h : n ≤ 1000000) : n ≤ sizeLine := Nat.le_trans h (by decide)
theorem lt_line {n : Nat} (h : n ≤ 1000000) : n < sizeLine := Nat.lt_of_le_of_lt h (by decide)
theorem DTs.strs {K : PySem.W.Frag} {H : Hp} : ∀ ws : List Str, DTs K H (ws.map V.str) (ws.map Dt.str)
  | [] => .nil
  | z :: ws => .cons (.str z) (DTs.strs ws)
theorem deeps_strs : ∀ ws : List Str, Dt.deeps (ws.map Dt.str) ≤ 1
  | [] => by simp [Dt.deeps]
  | z :: ws => by
    have := deeps_strs ws
    have e : Dt.deep (.str z) = 1 := rfl
    rw [List.map_cons, Dt.deeps, e]
    omega
theorem fitss_strs : ∀ ws : List Str, Dt.fitss (ws.map Dt.str) = true
  | [] => rfl
  | z :: ws => by
    have e : Dt.fits (.str z) = true := rfl
    rw [List.map_cons, Dt.fitss, e, fitss_strs ws]
    rfl
theorem fits_strs {ws : List Str} (h : ws.length ≤ 1000000) : Dt.fits (.tup (ws.map Dt.str)) = true := by
  rw [Dt.fits, fitss_strs, List.length_map, decide_eq_true h]
  rfl
theorem flat_ones : ∀ cs : List Nat, ((cs.map fun c => (⟨#[c]⟩ : Str)).map (·.cps.toList)).flatten = cs
  | [] => rfl
  | c :: cs => by
    rw [List.map_cons, List.map_cons, List.flatten_cons, flat_ones cs]
    rfl
theorem sum_ones : ∀ cs : List Nat, ((cs.map fun c => (⟨#[c]⟩ : Str)).map (·.length)).sum = cs.length
  | [] => rfl
  | c :: cs => by
    rw [List.map_cons, List.map_cons, List.sum_cons, sum_ones cs, List.length_cons]
    show 1 + cs.length = _
    omega
theorem sum_lens {b : Nat} : ∀ {ws : List Str}, (∀ w ∈ ws, w.length ≤ b) → (ws.map (·.length)).sum ≤ ws.length * b
  | [], _ => by simp
  | w :: ws, h => by
    have h1 := h w List.mem_cons_self
    have h2 := sum_lens fun x hx => h x (List.mem_cons_of_mem _ hx)
    rw [List.map_cons, List.sum_cons, List.length_cons, Nat.succ_mul]
    omega
theorem join_len_le (sep : Str) (ws : List Str) : (Txt.join sep ws).length ≤ (ws.map (·.length)).sum + ws.length * sep.length := by
  have e : Txt.join sep ws = Str.join sep ws := StrLaws.glued_eq_join _ ws
  rw [e]
  exact StrLaws.join_length_le sep ws
/-! ### comprehensions that change nothing else -/
theorem wipe_back {σ : St} {k : Nat} {v : Option V} : wipe ((wipe σ [k]).set k v) [k] = wipe σ [k] := by
  show ((σ.set k none).set k v).set k none = σ.set k none
  rw [List.set_set, List.set_set]
/-- [f x for x in ..] without a test -/
theorem lc_pure {J : It} {n : Nat} {G : Hp → Prop} {Y : Nat → Hp → V → Hp → Prop} (w : Walk J n G Y) (hn : n ≤ 1000000) {k : Nat} {te : TE} {σ : St} {H1 : Hp} {D : Addr} {Qd : Hp → Prop} (it : Nat → V → Prop) (f : Nat → V)
    (hY : ∀ i H x H', i < n → Y i H x H' → H' = H ∧ it i x) (hG : ∀ acc, G (upd H1 D (.lst acc)))
    (he : ∀ i x acc (R : VK), i < n → it i x → R (f i) (upd H1 D (.lst acc)) → te ((wipe σ [k]).set k (some x)) (upd H1 D (.lst acc)) R)
    (hd : Qd (upd H1 D (.lst ((List.range n).map f)))) :
    ∃ W : Nat → Nat → Hp → Prop, (∃ m, W 0 m (upd H1 D (.lst []))) ∧ ∀ i m H, W i m H →
      (J.stop i H ∧ Qd H) ∨ (J.go i H ∧ ∃ Nx : Hp → Prop, (∀ H', Nx H' → ∃ m', m' < m ∧ W (i + 1) m' H') ∧ ∀ x H', J.yld i H x H' → gName k x (wipe σ [k]) H' fun σ2 H2 => wipe σ2 [k] = wipe σ [k] ∧ tYes σ2 H2 fun b H3 =>
        if b = true then te σ2 H3 fun y H4 => ∃ acc, H4 D = some (.lst acc) ∧ acc.length < sizeLine ∧ Nx (upd H4 D (.lst (acc ++ [y]))) else Nx H3) := by
  refine lc_it w (fun i H => H = upd H1 D (.lst ((List.range i).map f))) rfl (fun i H _ e => e ▸ hG _) (fun i x H H' hi e hy => ?_) (fun H e => e ▸ hd)
  obtain ⟨rfl, hit⟩ := hY i H x H' hi hy
  subst e
  refine ⟨wipe_back, ?_⟩
  refine he i x _ _ hi hit ⟨_, upd_same, ?_, ?_⟩
  · rw [List.length_map, List.length_range]
    exact lt_line (by omega)
  · rw [upd_upd, List.range_succ, List.map_append]
    rfl
/-- [x for x in texts if ..] -/
theorem lc_filterS {K : PySem.W.Frag} {a : Addr} {ws : List Str} {k : Nat} {tt : TT} {σ : St} {H1 : Hp} {D : Addr} {Qd : Hp → Prop} (f : Str → Bool) (hk : k < σ.length) (hS : SqL K H1 a (ws.map V.str)) (hD : H1 D = none) (hn : ws.length ≤ 1000000)
    (ht : ∀ (i : Nat) (w : Str) (acc : List V) (R : Bool → Hp → Prop), ws[i]? = some w → R (f w) (upd H1 D (.lst acc)) → tt ((wipe σ [k]).set k (some (.str w))) (upd H1 D (.lst acc)) R)
    (hd : Qd (upd H1 D (.lst ((ws.filter f).map V.str)))) :
    ∃ W : Nat → Nat → Hp → Prop, (∃ m, W 0 m (upd H1 D (.lst []))) ∧ ∀ i m H, W i m H →
      ((Itl K a).stop i H ∧ Qd H) ∨ ((Itl K a).go i H ∧ ∃ Nx : Hp → Prop, (∀ H', Nx H' → ∃ m', m' < m ∧ W (i + 1) m' H') ∧ ∀ x H', (Itl K a).yld i H x H' → gName k x (wipe σ [k]) H' fun σ2 H2 => wipe σ2 [k] = wipe σ [k] ∧ tt σ2 H2 fun b H3 =>
        if b = true then tVar k σ2 H3 fun y H4 => ∃ acc, H4 D = some (.lst acc) ∧ acc.length < sizeLine ∧ Nx (upd H4 D (.lst (acc ++ [y]))) else Nx H3) := by
  refine lc_it (walk_list (K := K) (a := a) (xs := ws.map V.str)) (fun i H => H = upd H1 D (.lst (((ws.take i).filter f).map V.str))) rfl (fun i H _ e => by rw [e]; exact (same_new hD _).seq hS) (fun i x H H' hi e hy => ?_) (fun H e => ?_)
  · obtain ⟨rfl, hx⟩ := hy
    subst e
    rw [List.getElem?_map] at hx
    obtain ⟨u, hu, rfl⟩ := Option.map_eq_some_iff.mp hx
    obtain ⟨hl2, ew⟩ := List.getElem?_eq_some_iff.mp hu
    refine ⟨wipe_back, ?_⟩
    refine ht i u _ _ hu ?_
    by_cases c : f u = true
    · rw [if_pos c]
      refine ⟨.str u, ?_, _, upd_same, ?_, ?_⟩
      · show ((σ.set k none).set k (some (.str u)))[k]? = _
        rw [List.getElem?_set_self (by rw [List.length_set]; exact hk)]
      · rw [List.length_map]
        exact lt_line (Nat.le_trans (List.length_filter_le _ _) (by rw [List.length_take]; omega))
      · rw [upd_upd, List.take_succ_eq_append_getElem hl2, ew, List.filter_append, List.map_append, List.filter_cons_of_pos c]
        rfl
    · rw [if_neg c, List.take_succ_eq_append_getElem hl2, ew, List.filter_append, List.filter_cons_of_neg c, List.filter_nil, List.append_nil]
  · rw [List.length_map, List.take_length] at e
    rw [e]
    exact hd
theorem inV_strs (z : Str) : ∀ ws : List Str, inV (.str z) (ws.map V.str) = decide (z ∈ ws)
  | [] => rfl
  | w :: ws => by
    have ih := inV_strs z ws
    unfold inV at ih ⊢
    rw [List.map_cons, List.any_cons, ih]
    show ((w == z) || _) = _
    by_cases c : w = z
    · subst c
      simp
    · have e : (w == z) = false := by rw [beq_eq_false_iff_ne]; exact c
      rw [e, Bool.false_or]
      exact decide_eq_decide.mpr ⟨fun h => List.mem_cons_of_mem _ h, fun h => (List.mem_cons.mp h).elim (fun q => absurd q.symm c) id⟩
theorem flat_strs (ws : List Str) : (ws.map V.str).all flatV = true := by
  rw [List.all_map, List.all_eq_true]
  intro x _
  rfl
theorem yint {i : Nat} {H : Hp} {x : V} {H' : Hp} (h : YFn (fun i => V.int (0 + (i : Nat))) i H x H') : H' = H ∧ x = .int (i : Int) := by
  obtain ⟨h1, h2⟩ := h
  refine ⟨h1, h2.trans ?_⟩
  show V.int (0 + (i : Int)) = V.int (i : Int)
  rw [Int.zero_add]
theorem log_small {i : Int} (h : i.natAbs ≤ 1900) : i.natAbs.log2 < 1920 := Nat.lt_of_le_of_lt (Nat.log2_le_self _) (by omega)
theorem Sm.free {t p : Addr} {H H' : Hp} (s : Sm t H H') (n : p ≠ t) (h : H' p = none) : H p = none := by
  cases e : H p with
  | none => rfl
  | some o => rw [s p o n e] at h; cases h
end My

namespace My
open PySem L2
/-! ### == and < of plain data -/
mutual
def Dt.eqb : Dt → Dt → Bool
  | .non, e => match e with | .non => true | _ => false
  | .bl a, e => match e with | .bl b => a == b | .int j => (if a then 1 else 0) == j | _ => false
  | .int i, e => match e with | .bl b => i == (if b then 1 else 0) | .int j => i == j | _ => false
  | .str x, e => match e with | .str y => x == y | _ => false
  | .tup xs, e => match e with | .tup ys => Dt.eqbs xs ys | _ => false
def Dt.eqbs : List Dt → List Dt → Bool
  | [], ys => ys.isEmpty
  | x :: xs, ys => match ys with | [] => false | y :: r => Dt.eqb x y && Dt.eqbs xs r
end
abbrev pairD (xs ys : List Dt) (j : Nat) : Bool := Dt.eqb (xs.getD j .non) (ys.getD j .non)
theorem eqbs_all : ∀ xs ys : List Dt, ((List.range (min xs.length ys.length)).all (pairD xs ys) && xs.length == ys.length) = Dt.eqbs xs ys
  | [], [] => rfl
  | [], _ :: _ => by simp [Dt.eqbs]
  | _ :: _, [] => by simp [Dt.eqbs]
  | x :: xs, y :: ys => by
    have ih := eqbs_all xs ys
    have q1 : min (x :: xs).length (y :: ys).length = min xs.length ys.length + 1 := by rw [List.length_cons, List.length_cons]; omega
    have q2 : ((x :: xs).length == (y :: ys).length) = (xs.length == ys.length) := by simp
    rw [q1, q2, List.range_succ_eq_map, List.all_cons, List.all_map, Dt.eqbs, ← ih, Bool.and_assoc]
    rfl
mutual
theorem eqb_refl : ∀ d : Dt, Dt.eqb d d = true
  | .non => by rw [Dt.eqb]
  | .bl _ => by simp [Dt.eqb]
  | .int _ => by simp [Dt.eqb]
  | .str _ => by simp [Dt.eqb]
  | .tup xs => by
    rw [Dt.eqb]
    exact eqbs_refl xs
theorem eqbs_refl : ∀ ds : List Dt, Dt.eqbs ds ds = true
  | [] => rfl
  | d :: ds => by
    rw [Dt.eqbs, eqb_refl d, eqbs_refl ds]
    rfl
end
section
variable {X : Cx} {pins : List (Addr × Obj)} {σ : St} {H : Hp} {s : Shared}
mutual
theorem DT.inj (I : Inv X pins σ H s) : ∀ (d e : Dt) (v : V), DT X.K H v d → DT X.K H v e → d = e
  | .non, e, v, h, k => by cases h; cases k; rfl
  | .bl b, e, v, h, k => by cases h; cases k; rfl
  | .int b, e, v, h, k => by cases h; cases k; rfl
  | .str b, e, v, h, k => by cases h; cases k; rfl
  | .tup ds, e, v, h, k => by
    cases h with
    | tup h1 h2 =>
      cases k with
      | tup k1 k2 =>
        cases I.tuple_inj h1 k1
        rw [DTs.inj I ds _ _ h2 k2]
theorem DTs.inj (I : Inv X pins σ H s) : ∀ (ds es : List Dt) (vs : List V), DTs X.K H vs ds → DTs X.K H vs es → ds = es
  | [], es, vs, h, k => by cases h; cases k; rfl
  | d :: ds, es, vs, h, k => by
    cases h with
    | cons h1 h2 =>
      cases k with
      | cons k1 k2 => rw [DT.inj I d _ _ h1 k1, DTs.inj I ds _ _ h2 k2]
end
theorem in1_units (A : Around) : A.in1.units = A.units + 1 := rfl
mutual
theorem eqAtD (I : Inv X pins σ H s) : ∀ (d e : Dt) (A : Around) (v u : V) (a b : Value), DT X.K H v d → DT X.K H u e → RelV v a → RelV u b → A.units + d.deep < cLine → SeqAt.EqAt A s a b (Dt.eqb d e)
  | .non, e, A, v, u, a, b, hd, he, ra, rb, hu => by
    cases hd
    cases (show a = Value.none from ra)
    cases he with
    | non => cases (show b = Value.none from rb); exact SeqAt.EqAt.same _
    | bl y => cases (show b = Value.bool y from rb); exact SeqAt.EqAt.none_bool y
    | int y => obtain ⟨t, q⟩ := (show ∃ t, b = Value.int y t from rb); cases q; exact SeqAt.EqAt.none_int y t
    | str y => obtain ⟨t, q⟩ := (show ∃ t, b = Value.str y t from rb); cases q; exact SeqAt.EqAt.none_str y t
    | tup k1 k2 =>
      cases (show b = Value.ref _ from rb)
      obtain ⟨its, _, p, _⟩ := I.tuple k1
      exact SeqAt.EqAt.none_tuple p (by omega)
  | .bl x, e, A, v, u, a, b, hd, he, ra, rb, hu => by
    cases hd
    cases (show a = Value.bool x from ra)
    cases he with
    | non => cases (show b = Value.none from rb); exact SeqAt.EqAt.bool_none x
    | bl y => cases (show b = Value.bool y from rb); exact SeqAt.EqAt.bool_bool x y
    | int y => obtain ⟨t, q⟩ := (show ∃ t, b = Value.int y t from rb); cases q; exact SeqAt.EqAt.bool_int x y t
    | str y => obtain ⟨t, q⟩ := (show ∃ t, b = Value.str y t from rb); cases q; exact SeqAt.EqAt.bool_str x y t
    | tup k1 k2 =>
      cases (show b = Value.ref _ from rb)
      obtain ⟨its, _, p, _⟩ := I.tuple k1
      exact SeqAt.EqAt.bool_tuple x p (by omega)
  | .int x, e, A, v, u, a, b, hd, he, ra, rb, hu => by
    cases hd
    obtain ⟨t0, q0⟩ := (show ∃ t, a = Value.int x t from ra)
    cases q0
    cases he with
    | non => cases (show b = Value.none from rb); exact SeqAt.EqAt.int_none x t0
    | bl y => cases (show b = Value.bool y from rb); exact SeqAt.EqAt.int_bool x t0 y
    | int y => obtain ⟨t, q⟩ := (show ∃ t, b = Value.int y t from rb); cases q; exact SeqAt.EqAt.int_int x t0 y t
    | str y => obtain ⟨t, q⟩ := (show ∃ t, b = Value.str y t from rb); cases q; exact SeqAt.EqAt.int_str x t0 y t
    | tup k1 k2 =>
      cases (show b = Value.ref _ from rb)
      obtain ⟨its, _, p, _⟩ := I.tuple k1
      exact SeqAt.EqAt.int_tuple x t0 p (by omega)
  | .str x, e, A, v, u, a, b, hd, he, ra, rb, hu => by
    cases hd
    obtain ⟨t0, q0⟩ := (show ∃ t, a = Value.str x t from ra)
    cases q0
    cases he with
    | non => cases (show b = Value.none from rb); exact SeqAt.EqAt.str_none x t0
    | bl y => cases (show b = Value.bool y from rb); exact SeqAt.EqAt.str_bool x t0 y
    | int y => obtain ⟨t, q⟩ := (show ∃ t, b = Value.int y t from rb); cases q; exact SeqAt.EqAt.str_int x t0 y t
    | str y => obtain ⟨t, q⟩ := (show ∃ t, b = Value.str y t from rb); cases q; exact SeqAt.EqAt.str_str x t0 y t
    | tup k1 k2 =>
      cases (show b = Value.ref _ from rb)
      obtain ⟨its, _, p, _⟩ := I.tuple k1
      exact SeqAt.EqAt.str_tuple x t0 p (by omega)
  | .tup ds, e, A, v, u, a, b, hd, he, ra, rb, hu => by
    cases hd with
    | @tup l vs _ h1 h2 =>
    cases (show a = Value.ref l from ra)
    obtain ⟨its, r1, p1, _⟩ := I.tuple h1
    cases he with
    | non => cases (show b = Value.none from rb); exact SeqAt.EqAt.tuple_none p1 (by omega)
    | bl y => cases (show b = Value.bool y from rb); exact SeqAt.EqAt.tuple_bool y p1 (by omega)
    | int y => obtain ⟨t, q⟩ := (show ∃ t, b = Value.int y t from rb); cases q; exact SeqAt.EqAt.tuple_int y t p1 (by omega)
    | str y => obtain ⟨t, q⟩ := (show ∃ t, b = Value.str y t from rb); cases q; exact SeqAt.EqAt.tuple_str y t p1 (by omega)
    | @tup l2 us es k1 k2 =>
      cases (show b = Value.ref l2 from rb)
      obtain ⟨its2, r2, p2, _⟩ := I.tuple k1
      by_cases hll : l = l2
      · subst hll
        cases I.tuple_inj h1 k1
        cases DTs.inj I ds es _ h2 k2
        rw [eqb_refl]
        exact SeqAt.EqAt.same _
      · have n1 : its.toArray.size = ds.length := by rw [List.size_toArray, ← r1.length, h2.length]
        have n2 : its2.toArray.size = es.length := by rw [List.size_toArray, ← r2.length, k2.length]
        show SeqAt.EqAt A s (.ref l) (.ref l2) (Dt.eqbs ds es)
        rw [← eqbs_all ds es, ← n1, ← n2]
        have hu' : A.in1.units + Dt.deeps ds < cLine := by
          rw [in1_units]
          unfold Dt.deep at hu
          omega
        refine SeqAt.EqAt.of_refs hll (SeqAt.RcAt.tuples p1 p2 (by unfold Dt.deep at hu; omega) fun j j1 j2 => ?_)
        have q := eqAtDs I ds es A.in1 vs us its its2 h2 k2 r1 r2 hu' j (by simpa using j1) (by simpa using j2)
        simpa using q
theorem eqAtDs (I : Inv X pins σ H s) : ∀ (ds es : List Dt) (A : Around) (vs us : List V) (as bs : List Value), DTs X.K H vs ds → DTs X.K H us es → Vals vs as → Vals us bs → A.units + Dt.deeps ds < cLine →
    ∀ j (h1 : j < as.length) (h2 : j < bs.length), SeqAt.EqAt A s as[j] bs[j] (pairD ds es j)
  | [], es, A, vs, us, as, bs, hd, he, ra, rb, hu, j, h1, h2 => by
    cases hd
    cases ra
    exact absurd h1 (Nat.not_lt_zero _)
  | d :: ds, es, A, vs, us, as, bs, hd, he, ra, rb, hu, j, h1, h2 => by
    cases hd with
    | cons x1 x2 =>
    cases ra with
    | cons r1 r2 =>
    unfold Dt.deeps at hu
    cases he with
    | nil =>
      cases rb
      exact absurd h2 (Nat.not_lt_zero _)
    | cons y1 y2 =>
      cases rb with
      | cons q1 q2 =>
        cases j with
        | zero => exact eqAtD I d _ A _ _ _ _ x1 y1 r1 q1 (by omega)
        | succ j => exact eqAtDs I ds _ A _ _ _ _ x2 y2 r2 q2 (by omega) j (Nat.lt_of_succ_lt_succ h1) (Nat.lt_of_succ_lt_succ h2)
end
end
/-- == of two tuples -/
def rEqT (K : PySem.W.Frag) : R2 := fun x y H Q => ∃ ds es, DT K H x (.tup ds) ∧ DT K H y (.tup es) ∧ Dt.deeps ds ≤ 60 ∧ Q (.bl (Dt.eqbs ds es)) H
theorem op_eqT {X : Cx} {K : PySem.W.Frag} (hK : X.K = K) (hu : X.A.units + 64 < cLine) : OpR X (compareOp .Eq) (rEqT K) := by
  subst hK
  intro pins s σ H x y v u Q I rx ry h
  obtain ⟨ds, es, hd, he, hz, q⟩ := h
  cases hd with
  | @tup l vs _ h1 h2 =>
  cases (show v = Value.ref l from rx)
  obtain ⟨its, r1, p1, _⟩ := I.tuple h1
  cases he with
  | @tup l2 us _ k1 k2 =>
  cases (show u = Value.ref l2 from ry)
  obtain ⟨its2, r2, p2, _⟩ := I.tuple k1
  have n1 : its.toArray.size = ds.length := by rw [List.size_toArray, ← r1.length, h2.length]
  have n2 : its2.toArray.size = es.length := by rw [List.size_toArray, ← r2.length, k2.length]
  have z : SeqAt.RcAt X.A s (.ref l) (.ref l2) (Dt.eqbs ds es) := by
    rw [← eqbs_all ds es, ← n1, ← n2]
    refine SeqAt.RcAt.tuples p1 p2 (by omega) fun j j1 j2 => ?_
    have q := eqAtDs I ds es X.A.in1 vs us its its2 h2 k2 r1 r2 (by rw [in1_units]; omega) j (by simpa using j1) (by simpa using j2)
    simpa using q
  exact z X.prog X.w X.xe _ ⟨.bl _, H, I, rfl, q⟩
end My

namespace My
open PySem L2 PySem.SeqAt
open PySem.AutoSeq1 (wpAny_loadPart')
open PySem.MeetsSeq PySem.MeetsSeq2 PySem.MeetsSeq3
/-- a < b of two tuples, where only the first unequal pair is asked for its order -/
theorem ltFirst (l b : Addr) (xs ys : Array Value) (n n2 : Nat) (dd dd2 : Option Addr) (sl sl2 : Array (Option Value)) (e r : Nat → Bool) :
    Meets (Builtin.«tuple.__lt__» ⟨[.ref l, .ref b], []⟩)
      (fun A R s => s.heap.get? l = some { cls := .type "tuple", dict := dd, data := .seq xs n, slots := sl } ∧ s.heap.get? b = some { cls := .type "tuple", dict := dd2, data := .seq ys n2, slots := sl2 } ∧
        (∀ j (k1 : j < xs.size) (k2 : j < ys.size), EqAt A.in1 s xs[j] ys[j] (e j)) ∧
        (∀ j (k1 : j < xs.size) (k2 : j < ys.size), (∀ i, i < j → e i = true) → e j = false → Ob.RcOp .Lt A.in1 s xs[j] ys[j] (r j)) ∧
        R (.ok (.ret (.bool (Ob.lexAt e r (decide (xs.size < ys.size)) 0 (min xs.size ys.size))))) s) :=
  .of_wp fun prog w A R s h => by
    obtain ⟨hp, g, d, tk, os⟩ := s
    obtain ⟨hl, hb, he, hr, h⟩ := h
    have f2 := AutoSeq1.sub_tuple_tuple
    have hZ : (xs.toList.zip ys.toList).length = min xs.size ys.size := by simp
    wp_walk using wpAny_loadPart' hl, wpAny_loadPart' hb, wpAny_forIn_list _ (fun rest acc s' => acc.1 = none ∧ s' = ⟨hp, g, d, tk, os⟩ ∧ ∃ i, rest = (xs.toList.zip ys.toList).drop i ∧ (∀ i', i' < i → e i' = true) ∧
      R (.ok (.ret (.bool (Ob.lexAt e r (decide (xs.size < ys.size)) i (min xs.size ys.size - i))))) ⟨hp, g, d, tk, os⟩) _
    case turn =>
      rintro ⟨y, x⟩ rest acc s' ⟨hacc, rfl, i, hz, hpre, hR⟩
      have hlt : i < (xs.toList.zip ys.toList).length := by
        apply Nat.lt_of_not_le
        intro hge
        rw [List.drop_of_length_le hge] at hz
        cases hz
      have hmin : i < min xs.size ys.size := by omega
      have k1 : i < xs.size := by omega
      have k2 : i < ys.size := by omega
      rw [List.drop_eq_getElem_cons hlt] at hz
      injection hz with hyx hrest
      have ey : y = xs[i] := by simpa using congrArg Prod.fst hyx
      have ex : x = ys[i] := by simpa using congrArg Prod.snd hyx
      subst ey ex
      rw [show min xs.size ys.size - i = (min xs.size ys.size - (i + 1)) + 1 by omega, Ob.lexAt_succ] at hR
      refine wpAny_bind (he i k1 k2 prog w _ _ ?_)
      cases hei : e i with
      | true =>
        rw [hei, if_pos rfl] at hR
        wp_walk
        refine ⟨rfl, rfl, i + 1, hrest, fun i' hi' => ?_, hR⟩
        by_cases q : i' = i
        · rw [q]; exact hei
        · exact hpre i' (by omega)
      | false =>
        rw [hei, if_neg Bool.false_ne_true] at hR
        have hri := hr i k1 k2 hpre hei prog w
        wp_walk using hri
        exact ⟨_, rfl, by simpa using hR⟩
    case fin =>
      rintro ⟨b1, b2⟩ s' ⟨hacc, rfl, i, hz, hpre, hR⟩
      simp only at hacc
      subst hacc
      have hge : min xs.size ys.size ≤ i := by
        apply Nat.le_of_not_lt
        intro hlt
        rw [List.drop_eq_getElem_cons (by omega)] at hz
        cases hz
      rw [Nat.sub_eq_zero_of_le hge, Ob.lexAt_zero] at hR
      wp_walk
      exact ⟨_, rfl, by simpa [Builtin.Tuple.tupleCompareSizes] using hR⟩
    case h =>
      exact ⟨rfl, rfl, 0, rfl, fun i' hi' => absurd hi' (Nat.not_lt_zero _), by simpa using h⟩
theorem rcFirst {A : Around} {s : Shared} {l b : Addr} {xs ys : Array Value} {e r : Nat → Bool} (hl : s.heap.IsTuple l xs) (hb : s.heap.IsTuple b ys) (hu : A.units < cLine)
    (he : ∀ j (k1 : j < xs.size) (k2 : j < ys.size), EqAt A.in1 s xs[j] ys[j] (e j))
    (hr : ∀ j (k1 : j < xs.size) (k2 : j < ys.size), (∀ i, i < j → e i = true) → e j = false → Ob.RcOp .Lt A.in1 s xs[j] ys[j] (r j)) :
    Ob.RcOp .Lt A s (.ref l) (.ref b) (Ob.lexAt e r (decide (xs.size < ys.size)) 0 (min xs.size ys.size)) := fun prog w E Q h => by
  obtain ⟨⟨c1, d1, t1, s1⟩, o1, z1, n, y1⟩ := id hl
  obtain ⟨⟨c2, d2, t2, s2⟩, o2, z2, n2, y2⟩ := id hb
  simp only at z1 y1 z2 y2
  subst z1 y1 z2 y2
  refine richCompare_meets_room (op := .Lt) ⟨_, o1, rfl⟩ ⟨_, o2, rfl⟩ F.slot_tuple_lt F.entry_tuple_lt (F.args_tuple_lt_2 _ _) (ltFirst l b xs ys n n2 d1 d2 s1 s2 e r) ?_ hu
  exact ⟨o1, o2, he, hr, ⟨(fun x => nomatch x), h⟩⟩

/-! ### the order of plain data -/
mutual
def Dt.lt? : Dt → Dt → Option Bool
  | .int a, e => match e with | .int b => some (decide (a < b)) | _ => none
  | .str a, e => match e with | .str b => some (decide (a.cps.toList < b.cps.toList)) | _ => none
  | .tup xs, e => match e with | .tup ys => Dt.lts? xs ys | _ => none
  | .non, _ => none
  | .bl _, _ => none
def Dt.lts? : List Dt → List Dt → Option Bool
  | [], ys => some (!ys.isEmpty)
  | x :: xs, ys => match ys with | [] => some false | y :: r => if Dt.eqb x y = true then Dt.lts? xs r else Dt.lt? x y
end
abbrev ordD (xs ys : List Dt) (j : Nat) : Bool := (Dt.lt? (xs.getD j .non) (ys.getD j .non)).getD false
theorem lexAt_shift {e r : Nat → Bool} {z : Bool} : ∀ (k i : Nat), Ob.lexAt (fun j => e (j + 1)) (fun j => r (j + 1)) z i k = Ob.lexAt e r z (i + 1) k
  | 0, i => rfl
  | k + 1, i => by
    rw [Ob.lexAt_succ, Ob.lexAt_succ, lexAt_shift k (i + 1)]
theorem lts_lex : ∀ (xs ys : List Dt) (b : Bool), Dt.lts? xs ys = some b → Ob.lexAt (pairD xs ys) (ordD xs ys) (decide (xs.length < ys.length)) 0 (min xs.length ys.length) = b
  | [], [], b, h => by simpa [Dt.lts?, Ob.lexAt_zero] using h
  | [], y :: ys, b, h => by simpa [Dt.lts?, Ob.lexAt_zero] using h
  | x :: xs, [], b, h => by simpa [Dt.lts?, Ob.lexAt_zero] using h
  | x :: xs, y :: ys, b, h => by
    rw [Dt.lts?] at h
    have q1 : min (x :: xs).length (y :: ys).length = min xs.length ys.length + 1 := by rw [List.length_cons, List.length_cons]; omega
    have q2 : decide ((x :: xs).length < (y :: ys).length) = decide (xs.length < ys.length) := by simp
    rw [q1, q2, Ob.lexAt_succ]
    by_cases c : Dt.eqb x y = true
    · rw [if_pos c] at h
      have c' : pairD (x :: xs) (y :: ys) 0 = true := c
      rw [if_pos c', ← lexAt_shift]
      exact lts_lex xs ys b h
    · rw [if_neg c] at h
      have c' : ¬ pairD (x :: xs) (y :: ys) 0 = true := c
      rw [if_neg c']
      show (Dt.lt? x y).getD false = b
      rw [h]
      rfl
section
variable {X : Cx} {pins : List (Addr × Obj)} {σ : St} {H : Hp} {s : Shared}
mutual
theorem ltAtD (I : Inv X pins σ H s) : ∀ (d e : Dt) (A : Around) (v u : V) (a b : Value) (k : Bool), DT X.K H v d → DT X.K H u e → RelV v a → RelV u b → A.units + d.deep < cLine → Dt.lt? d e = some k → Ob.RcOp .Lt A s a b k
  | .non, e, A, v, u, a, b, k, hd, he, ra, rb, hu, hk => by cases hk
  | .bl x, e, A, v, u, a, b, k, hd, he, ra, rb, hu, hk => by cases hk
  | .int x, e, A, v, u, a, b, k, hd, he, ra, rb, hu, hk => by
    cases hd
    obtain ⟨t0, q0⟩ := (show ∃ t, a = Value.int x t from ra)
    cases q0
    cases he with
    | int y =>
      obtain ⟨t, q⟩ := (show ∃ t, b = Value.int y t from rb)
      cases q
      cases (show some (decide (x < y)) = some k from hk)
      exact Ob.RcOp.lt_int x y t0 t
    | _ => cases hk
  | .str x, e, A, v, u, a, b, k, hd, he, ra, rb, hu, hk => by
    cases hd
    obtain ⟨t0, q0⟩ := (show ∃ t, a = Value.str x t from ra)
    cases q0
    cases he with
    | str y =>
      obtain ⟨t, q⟩ := (show ∃ t, b = Value.str y t from rb)
      cases q
      cases (show some (decide (x.cps.toList < y.cps.toList)) = some k from hk)
      exact fun prog w E Q h => PyProof.Rows.lt_str h
    | _ => cases hk
  | .tup ds, e, A, v, u, a, b, k, hd, he, ra, rb, hu, hk => by
    cases hd with
    | @tup l vs _ h1 h2 =>
    cases (show a = Value.ref l from ra)
    obtain ⟨its, r1, p1, _⟩ := I.tuple h1
    cases he with
    | @tup l2 us es k1 k2 =>
      cases (show b = Value.ref l2 from rb)
      obtain ⟨its2, r2, p2, _⟩ := I.tuple k1
      have n1 : its.toArray.size = ds.length := by rw [List.size_toArray, ← r1.length, h2.length]
      have n2 : its2.toArray.size = es.length := by rw [List.size_toArray, ← r2.length, k2.length]
      have hk' : Dt.lts? ds es = some k := hk
      rw [← lts_lex ds es k hk', ← n1, ← n2]
      have hu' : A.in1.units + Dt.deeps ds < cLine := by
        rw [in1_units]
        unfold Dt.deep at hu
        omega
      refine rcFirst p1 p2 (by unfold Dt.deep at hu; omega) (fun j j1 j2 => ?_) (fun j j1 j2 jp jf => ?_)
      · have q := eqAtDs I ds es A.in1 vs us its its2 h2 k2 r1 r2 hu' j (by simpa using j1) (by simpa using j2)
        simpa using q
      · have q := ltAtDs I ds es A.in1 vs us its its2 k h2 k2 r1 r2 hu' hk' j (by simpa using j1) (by simpa using j2) jp jf
        simpa using q
    | _ => cases hk
theorem ltAtDs (I : Inv X pins σ H s) : ∀ (ds es : List Dt) (A : Around) (vs us : List V) (as bs : List Value) (k : Bool), DTs X.K H vs ds → DTs X.K H us es → Vals vs as → Vals us bs → A.units + Dt.deeps ds < cLine → Dt.lts? ds es = some k →
    ∀ j (h1 : j < as.length) (h2 : j < bs.length), (∀ i, i < j → pairD ds es i = true) → pairD ds es j = false → Ob.RcOp .Lt A s as[j] bs[j] (ordD ds es j)
  | [], es, A, vs, us, as, bs, k, hd, he, ra, rb, hu, hk, j, h1, h2, jp, jf => by
    cases hd
    cases ra
    exact absurd h1 (Nat.not_lt_zero _)
  | d :: ds, es, A, vs, us, as, bs, k, hd, he, ra, rb, hu, hk, j, h1, h2, jp, jf => by
    cases hd with
    | cons x1 x2 =>
    cases ra with
    | cons r1 r2 =>
    unfold Dt.deeps at hu
    cases he with
    | nil =>
      cases rb
      exact absurd h2 (Nat.not_lt_zero _)
    | @cons _ _ e es' y1 y2 =>
      cases rb with
      | cons q1 q2 =>
        rw [Dt.lts?] at hk
        cases j with
        | zero =>
          have c : ¬ Dt.eqb d e = true := by
            have : Dt.eqb d e = false := jf
            rw [this]; exact Bool.false_ne_true
          rw [if_neg c] at hk
          have z := ltAtD I d e A _ _ _ _ k x1 y1 r1 q1 (by omega) hk
          have ek : ordD (d :: ds) (e :: es') 0 = k := by
            show (Dt.lt? d e).getD false = k
            rw [hk]; rfl
          rw [ek]
          exact z
        | succ j =>
          have c : Dt.eqb d e = true := jp 0 (Nat.succ_pos _)
          rw [if_pos c] at hk
          exact ltAtDs I ds es' A _ _ _ _ k x2 y2 r2 q2 (by omega) hk j (Nat.lt_of_succ_lt_succ h1) (Nat.lt_of_succ_lt_succ h2) (fun i hi => jp (i + 1) (Nat.succ_lt_succ hi)) jf
end
end
/-- < of two tuples -/
def rLtTD (K : PySem.W.Frag) : R2 := fun x y H Q => ∃ ds es k, DT K H x (.tup ds) ∧ DT K H y (.tup es) ∧ Dt.deeps ds ≤ 60 ∧ Dt.lts? ds es = some k ∧ Q (.bl k) H
theorem op_ltTD {X : Cx} {K : PySem.W.Frag} (hK : X.K = K) (hu : X.A.units + 64 < cLine) : OpR X (compareOp .Lt) (rLtTD K) := by
  subst hK
  intro pins s σ H x y v u Q I rx ry h
  obtain ⟨ds, es, k, hd, he, hz, hk, q⟩ := h
  exact ltAtD I (.tup ds) (.tup es) X.A x y v u k hd he rx ry (by unfold Dt.deep; omega) hk X.prog X.w X.xe _ ⟨.bl _, H, I, rfl, q⟩
end My

namespace My
open PySem L2
/-! ### keys -/
def allIn (cs gs : List Nat) : Bool := cs.all fun c => decide (c ∈ gs)
def firstC : List Nat := (Str.ofString "abcdefghijklmnopqrstuvwxyz").cps.toList
def keyC : List Nat := (Str.ofString "abcdefghijklmnopqrstuvwxyzABCDEFGHIJKLMNOPQRSTUVWXYZ0123456789-").cps.toList
/-- what a key is, by its signs -/
def isKeyC (cs : List Nat) : Bool := decide (cs ≠ []) && decide (cs.length ≤ 16) && decide (cs.headD 0 ∈ firstC) && allIn cs keyC
theorem isKeyC_no {cs : List Nat} (h : cs = [] ∨ 16 < cs.length) : isKeyC cs = false := by
  unfold isKeyC
  rcases h with rfl | h
  · rfl
  · rw [decide_eq_false (p := cs.length ≤ 16) (by omega)]
    simp
theorem isKeyC_yes {cs : List Nat} {c : Nat} (h0 : cs[0]? = some c) (h : cs.length ≤ 16) : isKeyC cs = (decide (c ∈ firstC) && allIn cs keyC) := by
  cases cs with
  | nil => simp at h0
  | cons a r =>
    have e : a = c := by simpa using h0
    subst e
    unfold isKeyC
    rw [decide_eq_true h, decide_eq_true (by simp)]
    simp
theorem isKeyC_iff {cs : List Nat} : isKeyC cs = true ↔ ∃ c r, cs = c :: r ∧ c ∈ firstC ∧ cs.length ≤ 16 ∧ ∀ d ∈ cs, d ∈ keyC := by
  constructor
  · intro h
    unfold isKeyC at h
    simp only [Bool.and_eq_true, decide_eq_true_eq] at h
    obtain ⟨⟨⟨h1, h2⟩, h3⟩, h4⟩ := h
    obtain ⟨c, r, rfl⟩ := List.exists_cons_of_ne_nil h1
    refine ⟨c, r, rfl, h3, h2, fun d hd => ?_⟩
    unfold allIn at h4
    exact of_decide_eq_true (List.all_eq_true.mp h4 d hd)
  · rintro ⟨c, r, rfl, h1, h2, h3⟩
    unfold isKeyC
    simp only [Bool.and_eq_true, decide_eq_true_eq]
    refine ⟨⟨⟨by simp, h2⟩, h1⟩, ?_⟩
    unfold allIn
    rw [List.all_eq_true]
    exact fun d hd => decide_eq_true (h3 d hd)
/-- the key of a text -/
def KeyT (z : Str) : Prop := isKeyC z.cps.toList = true
theorem KeyT.len {z : Str} (h : KeyT z) : z.length ≤ 16 := by
  obtain ⟨c, r, e, _, h2, _⟩ := isKeyC_iff.mp h
  rw [len_codes] at h2
  exact h2
theorem keyC_sg : ∀ c ∈ keyC, Sg c ∧ c ≠ 32 ∧ c ≠ 34 ∧ c ≠ 46 := by decide +kernel
theorem KeyT.sg {z : Str} (h : KeyT z) : SgT z := fun c hc => by
  obtain ⟨_, r, e, _, _, h3⟩ := isKeyC_iff.mp h
  exact (keyC_sg c (h3 c hc)).1
/-- more signs behind a key -/
theorem KeyT.app {z u : Str} (h : KeyT z) (hu : ∀ c ∈ u.cps.toList, c ∈ keyC) (hl : z.length + u.length ≤ 16) : KeyT (z ++ u) := by
  obtain ⟨c, r, e, h1, h2, h3⟩ := isKeyC_iff.mp h
  refine isKeyC_iff.mpr ⟨c, r ++ u.cps.toList, ?_, h1, ?_, fun d hd => ?_⟩
  · rw [app_codes, e]; rfl
  · rw [len_codes, app_len]; exact hl
  · rw [app_codes] at hd
    exact (List.mem_append.mp hd).elim (h3 d) (hu d)
theorem KeyT.cut {z : Str} (h : KeyT z) {n : Int} (h1 : 1 ≤ n) : KeyT (cutS z none (some n)) := by
  obtain ⟨c, r, e, h1', h2, h3⟩ := isKeyC_iff.mp h
  have ec := cut_pre z (a := n) (by omega)
  obtain ⟨m, hm⟩ : ∃ m, n.toNat = m + 1 := ⟨n.toNat - 1, by omega⟩
  refine isKeyC_iff.mpr ⟨c, r.take m, ?_, h1', ?_, fun d hd => h3 d ?_⟩
  · rw [ec, e, hm]; rfl
  · rw [ec, List.length_take]
    omega
  · rw [ec] at hd
    exact List.mem_of_mem_take hd
theorem KeyT.one {c : Nat} (h : c ∈ firstC) : KeyT ⟨#[c]⟩ := isKeyC_iff.mpr ⟨c, [], rfl, h, (by show 1 ≤ 16; decide), fun d hd => by
  have e : d = c := by simpa using hd
  subst e
  have z : ∀ c ∈ firstC, c ∈ keyC := by decide +kernel
  exact z d h⟩
def resL : List Str := [Str.ofString "hook", Str.ofString "each", Str.ofString "when", Str.ofString "then", Str.ofString "and", Str.ofString "or", Str.ofString "not", Str.ofString "has", Str.ofString "set", Str.ofString "default", Str.ofString "from", Str.ofString "remove", Str.ofString "reject", Str.ofString "true", Str.ofString "false"]
end My

namespace My
open PySem L2
/-! ### slices and sums of tuples, one way -/
section
variable {K : PySem.W.Frag} {H : Hp}
theorem slA_of {a : Addr} {xs : List V} {lo hi : Option Int} {Q : VK} (h : SqT K H a xs) (q : ∀ p H', Same H H' → SqT K H' p (cutV xs lo hi) → Q (.ref p) H') : rSlA K (.ref a) lo hi H Q := by
  refine ⟨a, xs, rfl, h, fun e => q a H (Same.refl H) ?_, fun _ p hp => q p _ (same_new hp _) (SqT.of upd_same)⟩
  have ec : cutV xs lo hi = xs := by
    unfold cutV
    rw [e.1, e.2, List.drop_zero, Nat.sub_zero, List.take_length]
  rw [ec]
  exact h
theorem catA_of {a b : Addr} {xs ys : List V} {Q : VK} (h : SqT K H a xs) (k : SqT K H b ys) (hl : xs.length + ys.length ≤ sizeLine) (q : ∀ p H', Same H H' → SqT K H' p (xs ++ ys) → Q (.ref p) H') : rCatA K (.ref a) (.ref b) H Q := by
  refine ⟨a, b, xs, ys, rfl, rfl, h, k, hl, fun e => ?_, fun _ e => ?_, fun _ _ p hp => q p _ (same_new hp _) (SqT.of upd_same)⟩
  · subst e
    exact q b H (Same.refl H) k
  · subst e
    refine q a H (Same.refl H) ?_
    rw [List.append_nil]
    exact h
end
/-! ### data of the model stand as long as nothing changes -/
mutual
theorem Dp.mono {K : PySem.W.Frag} {H H' : Hp} (k : ∀ a xs, SqT K H a xs → SqT K H' a xs) (k2 : ∀ a xs, SqL K H a xs → SqL K H' a xs) : ∀ (d : PyData) (v : V), Dp K H v d → Dp K H' v d
  | .none, _, h => by cases h; exact .non
  | .bool b, _, h => by cases h; exact .bl _
  | .int b, _, h => by cases h; exact .int _
  | .str b, _, h => by cases h; exact .str _
  | .list ds, _, h => by
    cases h with
    | lst h1 h2 => exact .lst (k2 _ _ h1) (DpAll.mono k k2 ds _ h2)
  | .tuple ds, _, h => by
    cases h with
    | tup h1 h2 => exact .tup (k _ _ h1) (DpAll.mono k k2 ds _ h2)
  | .dict _, _, h => by cases h
theorem DpAll.mono {K : PySem.W.Frag} {H H' : Hp} (k : ∀ a xs, SqT K H a xs → SqT K H' a xs) (k2 : ∀ a xs, SqL K H a xs → SqL K H' a xs) : ∀ (ds : List PyData) (vs : List V), DpAll K H vs ds → DpAll K H' vs ds
  | [], _, h => by cases h; exact .nil
  | d :: ds, _, h => by
    cases h with
    | cons h1 h2 => exact .cons (Dp.mono k k2 d _ h1) (DpAll.mono k k2 ds _ h2)
end
theorem _root_.L2.Dp.same {K : PySem.W.Frag} {H H' : Hp} {d : PyData} {v : V} (h : Dp K H v d) (e : Same H H') : Dp K H' v d := Dp.mono (fun _ _ q => e.seqT q) (fun _ _ q => e.seq q) d v h
theorem _root_.L2.DpAll.same {K : PySem.W.Frag} {H H' : Hp} {d : List PyData} {v : List V} (h : DpAll K H v d) (e : Same H H') : DpAll K H' v d := DpAll.mono (fun _ _ q => e.seqT q) (fun _ _ q => e.seq q) d v h
theorem _root_.L2.DpAll.append {K : PySem.W.Frag} {H : Hp} {vs us : List V} {ds es : List PyData} (h : DpAll K H vs ds) (k : DpAll K H us es) : DpAll K H (vs ++ us) (ds ++ es) := by
  induction ds generalizing vs with
  | nil => cases h; exact k
  | cons d ds ih =>
    cases h with
    | cons h1 h2 => exact .cons h1 (ih h2)
/-- the order of alike data -/
def rLtP (K : PySem.W.Frag) : R2 := fun x y H Q => ∃ d e, Dp K H x d ∧ Dp K H y e ∧ PySem.W.alike d e = true ∧ d ≠ .none ∧ d.depth ≤ 60 ∧ Q (.bl (PySem.W.dataLt d e)) H
def rGtP (K : PySem.W.Frag) : R2 := fun x y H Q => ∃ d e, Dp K H x d ∧ Dp K H y e ∧ PySem.W.alike d e = true ∧ d ≠ .none ∧ d.depth ≤ 60 ∧ Q (.bl (PySem.W.dataLt e d)) H
section
variable {X : Cx} {K : PySem.W.Frag}
theorem op_ltP (hK : X.K = K) (hu : X.A.units + 64 < cLine) : OpR X (compareOp .Lt) (rLtP K) := by
  subst hK
  intro pins s σ H x y v u Q I rx ry h
  obtain ⟨d, e, hd, he, ha, hn, hz, q⟩ := h
  obtain ⟨as, r1⟩ := L2.Dp.reads I d x v hd rx
  obtain ⟨bs, r2⟩ := L2.Dp.reads I e y u he ry
  exact PySem.W.lt_data r1 r2 ha hn (by have := Nat.min_le_left d.depth e.depth; omega) ⟨.bl _, H, I, rfl, q⟩
theorem op_gtP (hK : X.K = K) (hu : X.A.units + 64 < cLine) : OpR X (compareOp .Gt) (rGtP K) := by
  subst hK
  intro pins s σ H x y v u Q I rx ry h
  obtain ⟨d, e, hd, he, ha, hn, hz, q⟩ := h
  obtain ⟨as, r1⟩ := L2.Dp.reads I d x v hd rx
  obtain ⟨bs, r2⟩ := L2.Dp.reads I e y u he ry
  exact PySem.W.gt_data r1 r2 ha hn (by have := Nat.min_le_left d.depth e.depth; omega) ⟨.bl _, H, I, rfl, q⟩
end
/-! ### the order of texts -/
def rkT (z : Str) : List Dt := [.int z.length, .str z]
/-- -1, 0, 1 -/
def cmpD (ds es : List Dt) : Int := if Dt.eqbs ds es = true then 0 else if Dt.lts? ds es = some true then -1 else 1
def ltC (a b : List Nat) : Prop := a.length < b.length ∨ (a.length = b.length ∧ a < b)
instance (a b : List Nat) : Decidable (ltC a b) := by unfold ltC; exact inferInstance
def cmpC (a b : List Nat) : Int := if a = b then 0 else if ltC a b then -1 else 1
theorem ltC_irrefl (a : List Nat) : ¬ ltC a a := fun h => h.elim (fun q => Nat.lt_irrefl _ q) (fun q => List.lt_irrefl _ q.2)
theorem ltC_asymm {a b : List Nat} (h : ltC a b) : ¬ ltC b a := fun k => by
  rcases h with h | ⟨h, h'⟩ <;> rcases k with k | ⟨k, k'⟩
  · omega
  · omega
  · omega
  · exact List.lt_asymm h' k'
theorem ltC_total {a b : List Nat} (h : a ≠ b) : ltC a b ∨ ltC b a := by
  rcases Nat.lt_trichotomy a.length b.length with k | k | k
  · exact .inl (.inl k)
  · by_cases c : a < b
    · exact .inl (.inr ⟨k, c⟩)
    · have c' : b ≤ a := List.not_lt.mp c
      rcases List.le_iff_lt_or_eq.mp c' with d | d
      · exact .inr (.inr ⟨k.symm, d⟩)
      · exact absurd d.symm h
  · exact .inr (.inl k)
theorem eqbs_rkT (a b : Str) : Dt.eqbs (rkT a) (rkT b) = decide (a.cps.toList = b.cps.toList) := by
  by_cases c : a.cps.toList = b.cps.toList
  · have e := str_ext c
    subst e
    rw [eqbs_refl, decide_eq_true rfl]
  · rw [decide_eq_false c]
    show (((a.length : Int) == (b.length : Int)) && ((a == b) && true)) = false
    have e : (a == b) = false := by
      rw [beq_eq_false_iff_ne]
      intro q
      exact c (by rw [q])
    rw [e]
    simp
theorem lts_rkT (a b : Str) (h : a.cps.toList ≠ b.cps.toList) : Dt.lts? (rkT a) (rkT b) = some (decide (ltC a.cps.toList b.cps.toList)) := by
  have la := len_codes a
  have lb := len_codes b
  show (if Dt.eqb (.int a.length) (.int b.length) = true then (if Dt.eqb (.str a) (.str b) = true then Dt.lts? [] [] else some (decide (a.cps.toList < b.cps.toList))) else some (decide ((a.length : Int) < (b.length : Int)))) = _
  have e1 : Dt.eqb (.int a.length) (.int b.length) = decide (a.length = b.length) := by
    show ((a.length : Int) == (b.length : Int)) = _
    rw [Bool.beq_eq_decide_eq]
    exact decide_eq_decide.mpr ⟨by omega, by omega⟩
  have e2 : Dt.eqb (.str a) (.str b) = false := by
    show (a == b) = false
    rw [beq_eq_false_iff_ne]
    intro q
    exact h (by rw [q])
  rw [e1, e2]
  by_cases c : a.length = b.length
  · rw [decide_eq_true c, if_pos rfl, if_neg Bool.false_ne_true]
    congr 1
    exact decide_eq_decide.mpr ⟨fun q => .inr ⟨by rw [la, lb]; exact c, q⟩, fun q => Or.elim q (fun z => absurd z (by omega)) (·.2)⟩
  · rw [decide_eq_false c, if_neg Bool.false_ne_true]
    congr 1
    exact decide_eq_decide.mpr ⟨fun q => .inl (by omega), fun q => Or.elim q (fun z => by omega) (fun z => absurd z.1 (by omega))⟩
theorem lts_same (ds : List Dt) : Dt.lts? ds ds = some false := by
  induction ds with
  | nil => rfl
  | cons d ds ih => rw [Dt.lts?, if_pos (eqb_refl d), ih]
theorem lts_rkT_any (a b : Str) : ∃ k, Dt.lts? (rkT a) (rkT b) = some k := by
  by_cases c : a.cps.toList = b.cps.toList
  · rw [str_ext c]
    exact ⟨_, lts_same _⟩
  · exact ⟨_, lts_rkT a b c⟩
theorem cmpD_rkT (a b : Str) : cmpD (rkT a) (rkT b) = cmpC a.cps.toList b.cps.toList := by
  unfold cmpD cmpC
  rw [eqbs_rkT]
  by_cases c : a.cps.toList = b.cps.toList
  · rw [decide_eq_true c, if_pos rfl, if_pos c]
  · rw [decide_eq_false c, if_neg Bool.false_ne_true, if_neg c, lts_rkT a b c]
    by_cases d : ltC a.cps.toList b.cps.toList
    · rw [decide_eq_true d, if_pos rfl, if_pos d]
    · rw [decide_eq_false d, if_neg (by intro z; cases z), if_neg d]
/-! ### the order of paths -/
/-- the path as comes first -/
def ltP : List Str → List Str → Bool
  | [], bs => !bs.isEmpty
  | a :: as, bs => match bs with
    | [] => false
    | b :: bs => if a = b then ltP as bs else decide (ltC a.cps.toList b.cps.toList)
def cmpP (as bs : List Str) : Int := if as = bs then 0 else if ltP as bs = true then -1 else 1
theorem codes_ne {a b : Str} (h : a ≠ b) : a.cps.toList ≠ b.cps.toList := fun q => h (str_ext q)
theorem ltP_irrefl : ∀ as, ltP as as = false
  | [] => rfl
  | a :: as => by rw [ltP, if_pos rfl, ltP_irrefl as]
theorem ltP_asymm : ∀ as bs, ltP as bs = true → ltP bs as = false
  | [], [], h => rfl
  | [], b :: bs, h => rfl
  | a :: as, [], h => by cases h
  | a :: as, b :: bs, h => by
    rw [ltP] at h ⊢
    by_cases c : a = b
    · subst c
      rw [if_pos rfl] at h ⊢
      exact ltP_asymm as bs h
    · rw [if_neg c] at h
      rw [if_neg (fun q => c q.symm)]
      exact decide_eq_false (ltC_asymm (of_decide_eq_true h))
theorem ltP_total : ∀ as bs, as ≠ bs → ltP as bs = true ∨ ltP bs as = true
  | [], [], h => absurd rfl h
  | [], b :: bs, h => .inl rfl
  | a :: as, [], h => .inr rfl
  | a :: as, b :: bs, h => by
    rw [ltP, ltP]
    by_cases c : a = b
    · subst c
      rw [if_pos rfl, if_pos rfl]
      exact ltP_total as bs fun q => h (by rw [q])
    · rw [if_neg c, if_neg (fun q => c q.symm)]
      exact (ltC_total (codes_ne c)).imp decide_eq_true decide_eq_true
theorem cmpP_sign (as bs : List Str) : cmpP as bs = (if ltP bs as = true then (1 : Int) else 0) - (if ltP as bs = true then 1 else 0) := by
  unfold cmpP
  by_cases c : as = bs
  · subst c
    rw [if_pos rfl, ltP_irrefl]
    rfl
  · rw [if_neg c]
    by_cases d : ltP as bs = true
    · rw [if_pos d, if_pos d, ltP_asymm _ _ d]
      rfl
    · have e := (ltP_total as bs c).resolve_left d
      rw [if_neg d, if_neg d, if_pos e]
      rfl
/-- what orders paths -/
def rkP (ks : List Str) : List Dt := ks.map fun k => .tup (rkT k)
theorem eqbs_rkP : ∀ as bs, Dt.eqbs (rkP as) (rkP bs) = decide (as = bs)
  | [], [] => rfl
  | [], b :: bs => rfl
  | a :: as, [] => rfl
  | a :: as, b :: bs => by
    have ih := eqbs_rkP as bs
    show (Dt.eqbs (rkT a) (rkT b) && Dt.eqbs (rkP as) (rkP bs)) = _
    rw [ih, eqbs_rkT, ← Bool.decide_and]
    exact decide_eq_decide.mpr ⟨fun q => by rw [str_ext q.1, q.2], fun q => by cases q; exact ⟨rfl, rfl⟩⟩
theorem lts_rkP : ∀ as bs, Dt.lts? (rkP as) (rkP bs) = some (ltP as bs)
  | [], [] => rfl
  | [], b :: bs => rfl
  | a :: as, [] => rfl
  | a :: as, b :: bs => by
    have ih := lts_rkP as bs
    show (if Dt.eqbs (rkT a) (rkT b) = true then Dt.lts? (rkP as) (rkP bs) else Dt.lts? (rkT a) (rkT b)) = _
    rw [eqbs_rkT, ih, ltP]
    by_cases c : a = b
    · subst c
      rw [decide_eq_true rfl, if_pos rfl, if_pos rfl]
    · rw [decide_eq_false (codes_ne c), if_neg Bool.false_ne_true, if_neg c, lts_rkT a b (codes_ne c)]
theorem cmpD_rkP (as bs : List Str) : cmpD (rkP as) (rkP bs) = cmpP as bs := by
  unfold cmpD cmpP
  rw [eqbs_rkP, lts_rkP]
  by_cases c : as = bs
  · rw [decide_eq_true c, if_pos rfl, if_pos c]
  · rw [decide_eq_false c, if_neg Bool.false_ne_true, if_neg c]
    by_cases d : ltP as bs = true
    · rw [d, if_pos rfl, if_pos rfl]
    · rw [if_neg d, if_neg]
      intro z
      exact d (Option.some.inj z)
theorem deeps_rkP : ∀ ks : List Str, Dt.deeps (rkP ks) ≤ 2
  | [] => by decide
  | k :: ks => by
    have := deeps_rkP ks
    have e : Dt.deep (.tup (rkT k)) = 2 := rfl
    show max (Dt.deep (.tup (rkT k))) (Dt.deeps (rkP ks)) ≤ 2
    omega
/-! ### the same as data of the model -/
def dK (k : Str) : PyData := .tuple [.int k.length, .str k]
theorem alike_dK (a b : Str) : PySem.W.alike (dK a) (dK b) = true := rfl
theorem eqv_dK (a b : Str) : PyData.eqv (dK a) (dK b) = decide (a = b) := by
  show (((a.length : Int) == (b.length : Int)) && ((a == b) && true)) = _
  by_cases c : a = b
  · subst c; simp
  · have e : (a == b) = false := by rw [beq_eq_false_iff_ne]; exact c
    rw [e, decide_eq_false c]
    simp
theorem dataLt_dK (a b : Str) (h : a ≠ b) : PySem.W.dataLt (dK a) (dK b) = decide (ltC a.cps.toList b.cps.toList) := by
  have la := len_codes a
  have lb := len_codes b
  show PySem.W.dataLt (.tuple [.int a.length, .str a]) (.tuple [.int b.length, .str b]) = _
  rw [PySem.W.dataLt_pair rfl rfl, PySem.W.dataLt_int, PySem.W.dataLt_str]
  have e1 : PyData.eqv (.int a.length) (.int b.length) = decide (a.length = b.length) := by
    show ((a.length : Int) == (b.length : Int)) = _
    rw [Bool.beq_eq_decide_eq]
    exact decide_eq_decide.mpr ⟨by omega, by omega⟩
  have e2 : PyData.eqv (.str a) (.str b) = false := by
    show (a == b) = false
    rw [beq_eq_false_iff_ne]
    exact h
  rw [e1, e2, if_neg Bool.false_ne_true]
  by_cases c : a.length = b.length
  · rw [decide_eq_true c, if_pos rfl]
    exact decide_eq_decide.mpr ⟨fun q => .inr ⟨by rw [la, lb]; exact c, q⟩, fun q => Or.elim q (fun z => absurd z (by omega)) (·.2)⟩
  · rw [decide_eq_false c, if_neg Bool.false_ne_true]
    exact decide_eq_decide.mpr ⟨fun q => .inl (by omega), fun q => Or.elim q (fun z => by omega) (fun z => absurd z.1 (by omega))⟩
theorem alike_rows : ∀ as bs : List Str, PySem.W.alikeAll (as.map dK) (bs.map dK) = true
  | [], bs => by cases bs <;> rfl
  | a :: as, [] => rfl
  | a :: as, b :: bs => by
    rw [List.map_cons, List.map_cons, PySem.W.alikeAll, alike_dK, alike_rows as bs]
    rfl
theorem rowLt_rows : ∀ as bs : List Str, PySem.W.dataLt (.list (as.map dK)) (.list (bs.map dK)) = ltP as bs
  | [], [] => rfl
  | [], b :: bs => rfl
  | a :: as, [] => rfl
  | a :: as, b :: bs => by
    have ih := rowLt_rows as bs
    rw [PySem.W.dataLt_list] at ih ⊢
    rw [List.map_cons, List.map_cons, PySem.W.dataLt_cons (alike_dK a b), eqv_dK, ih, ltP]
    by_cases c : a = b
    · rw [decide_eq_true c, if_pos rfl, if_pos c]
    · rw [decide_eq_false c, if_neg Bool.false_ne_true, if_neg c, dataLt_dK a b c]
theorem depth_rows : ∀ as : List Str, PyData.depthAll (as.map dK) ≤ 1
  | [] => by decide
  | a :: as => by
    have := depth_rows as
    rw [List.map_cons, PyData.depthAll]
    have e : PyData.depth (dK a) = 1 := rfl
    omega
theorem depth_list (as : List Str) : PyData.depth (.list (as.map dK)) ≤ 60 := by
  have := depth_rows as
  rw [PyData.depth]
  omega
/-- paths as data -/
def ptD (ks : List Str) : Dt := .tup (ks.map .str)
theorem eqbs_strs : ∀ as bs : List Str, Dt.eqbs (as.map .str) (bs.map .str) = decide (as = bs)
  | [], [] => rfl
  | [], b :: bs => rfl
  | a :: as, [] => rfl
  | a :: as, b :: bs => by
    have ih := eqbs_strs as bs
    show ((a == b) && Dt.eqbs (as.map .str) (bs.map .str)) = _
    rw [ih]
    by_cases c : a = b
    · subst c
      simp
    · have e : (a == b) = false := by rw [beq_eq_false_iff_ne]; exact c
      rw [e, Bool.false_and, decide_eq_false]
      intro q
      cases q
      exact c rfl
theorem DTs.strs_inv {K : PySem.W.Frag} {H : Hp} {vs : List V} {ws : List Str} (h : DTs K H vs (ws.map Dt.str)) : vs = ws.map V.str := by
  induction ws generalizing vs with
  | nil => cases h; rfl
  | cons w ws ih =>
    cases h with
    | cons h1 h2 => cases h1; rw [ih h2]; rfl
/-- rows of a rank hold no list -/
theorem DpAll.rows {K : PySem.W.Frag} {H H' : Hp} (k : ∀ a xs, SqT K H a xs → SqT K H' a xs) : ∀ (ks : List Str) (vs : List V), DpAll K H vs (ks.map dK) → DpAll K H' vs (ks.map dK)
  | [], vs, h => by cases h; exact .nil
  | a :: ks, vs, h => by
    cases h with
    | cons h1 h2 =>
      refine .cons ?_ (DpAll.rows k ks _ h2)
      cases h1 with
      | tup q1 q2 =>
        refine .tup (k _ _ q1) ?_
        cases q2 with
        | cons r1 r2 =>
          cases r1
          cases r2 with
          | cons r3 r4 =>
            cases r3
            cases r4
            exact .cons (.int _) (.cons (.str _) .nil)
end My

namespace My
open PySem L2
theorem kx_dict {X : Cx} {K : PySem.W.Frag} {w : World} (h : X.K = K) (hw : X.w = w) : IxR X (rIxD K w) := by
  subst h
  subst hw
  exact ix_kdict
/-! ### contents -/
inductive Sc where
  | null | fals | tru | num (n : Int) | text (s : Str) | recd
def scD : Sc → List Dt
  | .null => [.str (Str.ofString "null")]
  | .fals => [.str (Str.ofString "false")]
  | .tru => [.str (Str.ofString "true")]
  | .num n => [.str (Str.ofString "number"), .int n]
  | .text s => [.str (Str.ofString "text"), .str s]
  | .recd => [.str (Str.ofString "record")]
/-- what orders contents -/
def scR : Sc → List Dt
  | .null => [.int 0]
  | .fals => [.int 1]
  | .tru => [.int 2]
  | .num n => [.int 3, .int (if n < 0 then -n else n), .int (if n < 0 then 1 else 0)]
  | .text s => [.int 4, .tup (rkT s)]
  | .recd => [.int 5]
/-- within the bounds -/
def scOk : Sc → Prop
  | .num n => -1000000000 ≤ n ∧ n ≤ 1000000000
  | .text s => s.length ≤ 60 ∧ SgT s
  | _ => True
/-- the law's own worth: a number, a number, a text -/
def wA : Sc → Int
  | .null => 0 | .fals => 1 | .tru => 2 | .num _ => 3 | .text _ => 4 | .recd => 5
def wB : Sc → Int
  | .num n => 2 * (if n < 0 then -n else n) - (if n > 0 then 1 else 0)
  | .text s => s.length
  | _ => 0
def wC : Sc → Str
  | .text s => s
  | _ => Str.ofString ""
def wP (c : Sc) : PyData := .tuple [.int (wA c), .int (wB c), .str (wC c)]
def ltS (a b : Sc) : Bool := decide (wA a < wA b) || (decide (wA a = wA b) && (decide (wB a < wB b) || (decide (wB a = wB b) && decide ((wC a).cps.toList < (wC b).cps.toList))))
theorem eqv_int (a b : Int) : PyData.eqv (.int a) (.int b) = decide (a = b) := by
  show (a == b) = _
  rw [Bool.beq_eq_decide_eq]
theorem eqv_str (a b : Str) : PyData.eqv (.str a) (.str b) = decide (a = b) := by
  show (a == b) = _
  rw [Bool.beq_eq_decide_eq]
theorem dataLt_wP (a b : Sc) : PySem.W.dataLt (wP a) (wP b) = ltS a b := by
  unfold wP ltS
  rw [PySem.W.dataLt_tuple, PySem.W.dataLt_cons rfl, PySem.W.dataLt_cons rfl, PySem.W.dataLt_cons rfl, eqv_int, eqv_int, eqv_str, PySem.W.dataLt_int, PySem.W.dataLt_int, PySem.W.dataLt_str]
  by_cases h1 : wA a = wA b
  · rw [decide_eq_true h1, if_pos rfl, decide_eq_false (p := wA a < wA b) (by omega)]
    by_cases h2 : wB a = wB b
    · rw [decide_eq_true h2, if_pos rfl, decide_eq_false (p := wB a < wB b) (by omega)]
      by_cases h3 : wC a = wC b
      · rw [decide_eq_true h3, if_pos rfl, h3, decide_eq_false (List.lt_irrefl _)]
        rfl
      · rw [decide_eq_false h3, if_neg Bool.false_ne_true]
        simp
    · rw [decide_eq_false h2, if_neg Bool.false_ne_true]
      simp
  · rw [decide_eq_false h1, if_neg Bool.false_ne_true]
    simp
theorem alike_wP (a b : Sc) : PySem.W.alike (wP a) (wP b) = true := rfl
/-- the ranks are equal for the same content alone -/
theorem eqbs_scR (a b : Sc) : Dt.eqbs (scR a) (scR b) = true ↔ (wA a = wA b ∧ wB a = wB b ∧ wC a = wC b) := by
  cases a <;> cases b <;> simp [scR, Dt.eqbs, Dt.eqb, wA, wB, wC]
  · rename_i x y
    by_cases h1 : x < 0 <;> by_cases h2 : y < 0 <;> by_cases h3 : 0 < x <;> by_cases h4 : 0 < y <;> simp [h1, h2, h3, h4] <;> omega
  · rename_i x y
    have e := eqbs_rkT x y
    unfold rkT at e ⊢
    rw [e, decide_eq_true_iff]
    exact ⟨fun q => by rw [str_ext q]; exact ⟨rfl, rfl⟩, fun q => by rw [q.2]⟩
theorem lts_scR (a b : Sc) : Dt.lts? (scR a) (scR b) = some (ltS a b) := by
  cases a <;> cases b <;> simp [scR, Dt.lts?, Dt.lt?, Dt.eqbs, Dt.eqb, ltS, wA, wB, wC]
  · rename_i x y
    by_cases h1 : x < 0 <;> by_cases h2 : y < 0 <;> by_cases h3 : 0 < x <;> by_cases h4 : 0 < y <;> simp [h1, h2, h3, h4] <;> (try split) <;> (try simp) <;> (try omega)
    all_goals
      rw [Bool.eq_iff_iff]
      simp
      omega
  · rename_i x y
    have la := len_codes x
    have lb := len_codes y
    rw [eqbs_rkT]
    by_cases c : x.cps.toList = y.cps.toList
    · have e := str_ext c
      subst e
      rw [decide_eq_true rfl, if_pos rfl, decide_eq_false (Nat.lt_irrefl _), decide_eq_false (Array.lt_irrefl _)]
      simp
    · rw [decide_eq_false c, if_neg Bool.false_ne_true, lts_rkT x y c]
      congr 1
      rw [Bool.eq_iff_iff]
      simp only [decide_eq_true_eq, Bool.or_eq_true, Bool.and_eq_true]
      unfold ltC
      rw [la, lb]
      constructor
      · rintro (h | h)
        · exact .inl h
        · exact .inr ⟨decide_eq_true (congrArg Int.ofNat h.1), h.2⟩
      · rintro (h | h)
        · exact .inl h
        · exact .inr ⟨Int.ofNat.inj (of_decide_eq_true h.1), h.2⟩
/-! ### the order of contents -/
theorem ltS_irrefl (a b : Sc) (h : wA a = wA b ∧ wB a = wB b ∧ wC a = wC b) : ltS a b = false := by
  unfold ltS
  rw [h.1, h.2.1, h.2.2]
  simp
theorem ltS_asymm {a b : Sc} (h : ltS a b = true) : ltS b a = false := by
  unfold ltS at h ⊢
  simp only [Bool.or_eq_true, Bool.and_eq_true, decide_eq_true_eq] at h
  rw [Bool.eq_false_iff]
  intro k
  simp only [Bool.or_eq_true, Bool.and_eq_true, decide_eq_true_eq] at k
  rcases h with h | ⟨h, h | ⟨h', h''⟩⟩ <;> rcases k with k | ⟨k, k | ⟨k', k''⟩⟩ <;> first | omega | exact List.lt_asymm h'' k''
theorem ltS_iff (a b : Sc) : ltS a b = true ↔ (wA a < wA b ∨ (wA a = wA b ∧ (wB a < wB b ∨ (wB a = wB b ∧ (wC a).cps.toList < (wC b).cps.toList)))) := by
  unfold ltS
  rw [Bool.or_eq_true, Bool.and_eq_true, Bool.or_eq_true, Bool.and_eq_true, decide_eq_true_iff, decide_eq_true_iff, decide_eq_true_iff, decide_eq_true_iff, decide_eq_true_iff]
theorem ltS_total {a b : Sc} (h : ¬ (wA a = wA b ∧ wB a = wB b ∧ wC a = wC b)) (k : ltS a b = false) : ltS b a = true := by
  have k2 : ¬ (wA a < wA b ∨ (wA a = wA b ∧ (wB a < wB b ∨ (wB a = wB b ∧ (wC a).cps.toList < (wC b).cps.toList)))) := fun q => by
    rw [(ltS_iff a b).mpr q] at k
    cases k
  refine (ltS_iff b a).mpr ?_
  by_cases h1 : wA a = wA b
  · by_cases h2 : wB a = wB b
    · have h3 : wC a ≠ wC b := fun q => h ⟨h1, h2, q⟩
      refine .inr ⟨h1.symm, .inr ⟨h2.symm, ?_⟩⟩
      have n : ¬ (wC a).cps.toList < (wC b).cps.toList := fun q => k2 (.inr ⟨h1, .inr ⟨h2, q⟩⟩)
      rcases List.le_iff_lt_or_eq.mp (List.not_lt.mp n) with d | d
      · exact d
      · exact absurd (str_ext d).symm h3
    · refine .inr ⟨h1.symm, .inl ?_⟩
      have : ¬ wB a < wB b := fun q => k2 (.inr ⟨h1, .inl q⟩)
      omega
  · refine .inl ?_
    have : ¬ wA a < wA b := fun q => k2 (.inl q)
    omega
def cmpSc (a b : Sc) : Int := (if ltS b a = true then (1 : Int) else 0) - (if ltS a b = true then 1 else 0)
theorem cmpD_scR (a b : Sc) : cmpD (scR a) (scR b) = cmpSc a b := by
  unfold cmpD cmpSc
  rw [lts_scR]
  by_cases c : Dt.eqbs (scR a) (scR b) = true
  · have h := (eqbs_scR a b).mp c
    rw [if_pos c, ltS_irrefl a b h, ltS_irrefl b a ⟨h.1.symm, h.2.1.symm, h.2.2.symm⟩]
    rfl
  · have h : ¬ (wA a = wA b ∧ wB a = wB b ∧ wC a = wC b) := fun q => c ((eqbs_scR a b).mpr q)
    rw [if_neg c]
    cases d : ltS a b with
    | true =>
      rw [if_pos rfl, ltS_asymm d]
      rfl
    | false =>
      rw [if_neg (by intro z; cases z), ltS_total h d]
      rfl
theorem deeps_scR (a : Sc) : Dt.deeps (scR a) ≤ 2 := by
  cases a with
  | num n => show 1 ≤ 2; decide
  | text s => show 2 ≤ 2; decide
  | _ => decide
theorem scD_same (a : Sc) : (Dt.tup (scD a)).deep ≤ 40 ∧ (Dt.tup (scD a)).fits = true := by
  cases a with
  | num n => exact ⟨by show 2 ≤ 40; decide, rfl⟩
  | text s => exact ⟨by show 2 ≤ 40; decide, rfl⟩
  | _ => exact ⟨by decide, by decide⟩
/-- the word of a content -/
def scW : Sc → Str
  | .null => Str.ofString "null"
  | .fals => Str.ofString "false"
  | .tru => Str.ofString "true"
  | .num _ => Str.ofString "number"
  | .text _ => Str.ofString "text"
  | .recd => Str.ofString "record"
/-- a content stands as a tuple whose first item is its word -/
theorem sc_tup {K : PySem.W.Frag} {H : Hp} {v : V} {c : Sc} (h : DT K H v (.tup (scD c))) : ∃ a xs, v = .ref a ∧ SqT K H a xs ∧ xs[0]? = some (.str (scW c)) ∧ (∀ n, c = .num n → xs[1]? = some (.int n)) ∧ (∀ s, c = .text s → xs[1]? = some (.str s)) := by
  cases h with
  | @tup a xs _ h1 h2 =>
  refine ⟨a, xs, rfl, h1, ?_⟩
  cases c with
  | null => cases h2 with | cons q r => cases q; exact ⟨rfl, (fun n e => by cases e), (fun n e => by cases e)⟩
  | fals => cases h2 with | cons q r => cases q; exact ⟨rfl, (fun n e => by cases e), (fun n e => by cases e)⟩
  | tru => cases h2 with | cons q r => cases q; exact ⟨rfl, (fun n e => by cases e), (fun n e => by cases e)⟩
  | num m => cases h2 with | cons q r => cases q; cases r with | cons q2 r2 => cases q2; exact ⟨rfl, (fun n e => by cases e; rfl), (fun n e => by cases e)⟩
  | text s => cases h2 with | cons q r => cases q; cases r with | cons q2 r2 => cases q2; exact ⟨rfl, (fun n e => by cases e), (fun n e => by cases e; rfl)⟩
  | recd => cases h2 with | cons q r => cases q; exact ⟨rfl, (fun n e => by cases e), (fun n e => by cases e)⟩
end My

namespace My
open PySem L2
/-! ### numbers as texts -/
theorem ofString_app (a b : String) : Str.ofString (a ++ b) = Str.ofString a ++ Str.ofString b := by
  apply str_ext
  rw [app_codes, Str.ofString_eq_toList, Str.ofString_eq_toList, Str.ofString_eq_toList]
  simp
theorem num_nat_len : ∀ (k n : Nat), n < 10 ^ (k + 1) → (Str.ofString (toString (n : Int))).length ≤ k + 1
  | 0, n, h => by
    have e : (Str.ofString (toString (n : Int))).cps.toList = [48 + n] := by
      have z : TL.tl (Str.ofString (toString (n : Int))) = [48 + n] := by rw [TL.tl_num, TL.numL_lt (by omega)]
      exact z
    rw [← len_codes, e]
    exact Nat.le_refl _
  | k + 1, n, h => by
    by_cases c : n < 10
    · have e : (Str.ofString (toString (n : Int))).cps.toList = [48 + n] := by
        have z : TL.tl (Str.ofString (toString (n : Int))) = [48 + n] := by rw [TL.tl_num, TL.numL_lt c]
        exact z
      rw [← len_codes, e]
      exact Nat.succ_le_succ (Nat.zero_le _)
    · have ih := num_nat_len k (n / 10) (by rw [Nat.div_lt_iff_lt_mul (by decide)]; rw [Nat.pow_succ] at h; exact h)
      have e1 : (Str.ofString (toString (n : Int))).cps.toList = TL.numL n := TL.tl_num n
      have e2 : (Str.ofString (toString ((n / 10 : Nat) : Int))).cps.toList = TL.numL (n / 10) := TL.tl_num (n / 10)
      rw [← len_codes, e2] at ih
      rw [← len_codes, e1, TL.numL_step (by omega), List.length_append, List.length_singleton]
      omega
theorem num_len {n : Int} (h : n.natAbs ≤ 9999999999) : (Str.ofString (toString n)).length ≤ 11 := by
  rcases n with m | m
  · have := num_nat_len 9 m (by show m < 10 ^ 10; have : (Int.ofNat m).natAbs = m := rfl; omega)
    exact Nat.le_trans this (by decide)
  · have e : toString (Int.negSucc m) = "-" ++ toString (m + 1) := rfl
    have k := num_nat_len 9 (m + 1) (by show m + 1 < 10 ^ 10; have : (Int.negSucc m).natAbs = m + 1 := rfl; omega)
    have e3 : toString ((m + 1 : Nat) : Int) = toString (m + 1) := rfl
    rw [e3] at k
    rw [e, ofString_app, app_len]
    have : (Str.ofString "-").length = 1 := by decide +kernel
    omega
end My

namespace My
open PySem L2
/-! ### sorted -/
theorem each_sort {P : Program} {w : World} {X : Cx} {pins : List (Addr × Obj)} {σ : St} {H : Hp} {s : Shared} (I : Inv X pins σ H s) {β : Type} {enc : β → PyData} : ∀ (bs : List β) (xs : List V) (us : List Value), DpAll X.K H xs (bs.map enc) → Vals xs us →
    PySem.W.EachIs (fun (u : Value) (b : V × β) => RelV b.1 u) us (xs.zip bs) ∧ PySem.W.EachIs (fun (u : Value) (b : V × β) => ∃ as, Reads s.heap u (enc b.2) as) us (xs.zip bs)
  | [], xs, us, d, r => by
    cases d
    cases r
    exact ⟨.nil, .nil⟩
  | b :: bs, xs, us, d, r => by
    cases d with
    | cons d1 d2 =>
    cases r with
    | cons r1 r2 =>
      obtain ⟨i1, i2⟩ := each_sort (P := P) (w := w) I bs _ _ d2 r2
      exact ⟨.cons r1 i1, .cons (L2.Dp.reads I _ _ _ d1 r1) i2⟩
theorem vals_out {β : Type} : ∀ {us : List Value} {zs : List (V × β)}, PySem.W.EachIs (fun (u : Value) (b : V × β) => RelV b.1 u) us zs → Vals (zs.map (·.1)) us
  | _, _, .nil => .nil
  | _, _, .cons h t => .cons h (vals_out t)
/-- sorted(xs): each item of xs stands for an item of bs -/
def rSortB {β : Type} (enc : β → PyData) (K : PySem.W.Frag) : List V → Hp → VK → Prop := fun vs H Q => ∃ (a : Addr) (xs : List V) (bs : List β), vs = [.ref a] ∧ SqL K H a xs ∧ DpAll K H xs (bs.map enc) ∧ PySem.W.AllAlike (bs.map enc) ∧ PySem.W.Sortable (bs.map enc) ∧ (∀ b ∈ bs, (enc b).depth ≤ 60) ∧
  ∀ (zs : List (V × β)) p, zs.Perm (xs.zip bs) → zs.map (·.2) = bs.mergeSort (PySem.W.dataLe false enc) → H p = none → Q (.ref p) (upd H p (.lst (zs.map (·.1))))
theorem dpAll_len {K : PySem.W.Frag} {H : Hp} : ∀ {xs : List V} {ds : List PyData}, DpAll K H xs ds → xs.length = ds.length
  | _, [], h => by cases h; rfl
  | _, d :: ds, h => by
    cases h with
    | cons _ h2 => rw [List.length_cons, List.length_cons, dpAll_len h2]
theorem cr_sortB {X : Cx} {K : PySem.W.Frag} {β : Type} {enc : β → PyData} (hK : X.K = K) (hu : X.A.units + 64 < cLine) : CallR X (.builtin "sorted") (rSortB enc K) := by
  subst hK
  intro pins s σ H vs us Q I r h
  obtain ⟨a, xs, bs, rfl, hs, hd, hal, hk, hdep, q⟩ := h
  obtain ⟨its, rv, hl, hz⟩ := I.list hs
  rw [Vals.ref1 r]
  have ln : xs.length = bs.length := by rw [dpAll_len hd, List.length_map]
  obtain ⟨e1, e2⟩ := each_sort (P := X.prog) (w := X.w) I bs xs its hd rv
  have em : (xs.zip bs).map (fun z => enc z.2) = bs.map enc := by
    have e0 : (xs.zip bs).map (fun z => enc z.2) = ((xs.zip bs).map Prod.snd).map enc := by rw [List.map_map]; rfl
    rw [e0, List.map_snd_zip (by omega)]
  refine PySem.W.sorted_data (enc := fun z : V × β => enc z.2) (bs := xs.zip bs) hl.isList e1 e2 (by rw [em]; exact hal) (by rw [em]; exact hk) (by rw [List.length_zip]; have := Nat.min_le_left xs.length bs.length; omega) (fun b hb => ?_) fun out ho eo => ?_
  · have hm : b.2 ∈ bs := (List.of_mem_zip hb).2
    have := hdep _ hm
    omega
  · obtain ⟨ep, he'⟩ := PyProof.Rows.sortedAll_at s.heap its out.toArray
    have hp : ((xs.zip bs).mergeSort (PySem.W.dataLe false fun z : V × β => enc z.2)).Perm (xs.zip bs) := List.mergeSort_perm _ _
    have hlen : (((xs.zip bs).mergeSort (PySem.W.dataLe false fun z : V × β => enc z.2)).map (·.1)).length ≤ sizeLine := by
      rw [List.length_map, hp.length_eq, List.length_zip]
      have := Nat.min_le_left xs.length bs.length
      omega
    refine ⟨.ref _, upd H (s.heap.objs.size + 1) (.lst (((xs.zip bs).mergeSort (PySem.W.dataLe false fun z : V × β => enc z.2)).map (·.1))), I.laid (t' := s.toks) (fun _ _ => PyProof.Rows.sortedAll_old) (Nat.le_succ _) ⟨hlen, out, ep, vals_out eo, he'⟩, rfl, q _ _ hp ?_ (I.hok.fresh (Nat.le_succ _))⟩
    have e3 := List.map_mergeSort (r := PySem.W.dataLe false fun z : V × β => enc z.2) (s := PySem.W.dataLe false enc) (f := Prod.snd) (l := xs.zip bs) (fun _ _ _ _ => rfl)
    rw [List.map_snd_zip (by omega)] at e3
    exact e3
theorem units1 {n : Nat} (h : n + 64 < cLine) : n + 1 < cLine := by omega
/-! ### tables of paths -/
abbrev Fl := List (List Str × Sc)
abbrev kP (p : List Str) : List Key := p.map Sum.inr
theorem kP_V (p : List Str) : (kP p).map kV = p.map V.str := by
  unfold kP
  rw [List.map_map]
  rfl
theorem kP_inj {p q : List Str} : kP p = kP q ↔ p = q := ⟨fun h => by
  have e : (kP p).map kV = (kP q).map kV := by rw [h]
  rw [kP_V, kP_V] at e
  exact (List.map_inj_right (fun a b c => by cases c; rfl)).mp e, fun h => by rw [h]⟩
inductive FlK (K : PySem.W.Frag) (H : Hp) : List (List Key × V) → Fl → Prop
  | nil : FlK K H [] []
  | cons {v : V} {p : List Str} {c : Sc} {kvs : List (List Key × V)} {fl : Fl} : DT K H v (.tup (scD c)) → FlK K H kvs fl → FlK K H ((kP p, v) :: kvs) ((p, c) :: fl)
def getF (fl : Fl) (p : List Str) : Option Sc := (fl.find? fun x => decide (x.1 = p)).map (·.2)
def putF (fl : Fl) (p : List Str) (c : Sc) : Fl := if (fl.any fun x => decide (x.1 = p)) = true then fl.map (fun x => if x.1 = p then (x.1, c) else x) else fl ++ [(p, c)]
def cutF (fl : Fl) (p : List Str) : Fl := fl.filter fun x => !decide (x.1.take p.length = p)
section
variable {K : PySem.W.Frag} {H H' : Hp} {kvs : List (List Key × V)} {fl : Fl}
theorem FlK.mono (k : ∀ a xs, SqT K H a xs → SqT K H' a xs) (h : FlK K H kvs fl) : FlK K H' kvs fl := by
  induction h with
  | nil => exact .nil
  | cons h1 _ ih => exact .cons (DT.mono k _ _ h1) ih
theorem FlK.same (h : FlK K H kvs fl) (e : Same H H') : FlK K H' kvs fl := h.mono fun _ _ q => e.seqT q
theorem FlK.go {t : Addr} (h : FlK K H kvs fl) (hT : Tape H t) (e : Sm t H H') : FlK K H' kvs fl := h.mono fun _ _ q => seqT_go hT e q
theorem FlK.len (h : FlK K H kvs fl) : kvs.length = fl.length := by
  induction h with
  | nil => rfl
  | cons _ _ ih => rw [List.length_cons, List.length_cons, ih]
theorem FlK.at (h : FlK K H kvs fl) {i : Nat} {k : List Key} {v : V} (e : kvs[i]? = some (k, v)) : ∃ p c, fl[i]? = some (p, c) ∧ k = kP p ∧ DT K H v (.tup (scD c)) := by
  induction h generalizing i with
  | nil => simp at e
  | cons h1 _ ih =>
    cases i with
    | zero =>
      have e' := Option.some.inj e
      cases e'
      exact ⟨_, _, rfl, rfl, h1⟩
    | succ i => exact ih (by simpa using e)
theorem FlK.get (h : FlK K H kvs fl) (p : List Str) : (valV kvs (kP p) = none ∧ getF fl p = none) ∨ ∃ v c, valV kvs (kP p) = some v ∧ getF fl p = some c ∧ DT K H v (.tup (scD c)) := by
  induction h with
  | nil => exact .inl ⟨rfl, rfl⟩
  | @cons v q c kvs fl h1 _ ih =>
    by_cases e : q = p
    · subst e
      exact .inr ⟨v, c, valV_pos rfl, by simp [getF], h1⟩
    · have e1 : valV ((kP q, v) :: kvs) (kP p) = valV kvs (kP p) := valV_neg fun z => e (kP_inj.mp z)
      have e2 : getF ((q, c) :: fl) p = getF fl p := by simp [getF, e]
      rw [e1, e2]
      exact ih
theorem FlK.any (h : FlK K H kvs fl) (p : List Str) : (kvs.any fun kv => decide (kv.1 = kP p)) = fl.any fun x => decide (x.1 = p) := by
  induction h with
  | nil => rfl
  | @cons v q c kvs fl h1 _ ih =>
    rw [List.any_cons, List.any_cons, ih]
    congr 1
    exact decide_eq_decide.mpr kP_inj
theorem FlK.app {kvs' : List (List Key × V)} {fl' : Fl} (h : FlK K H kvs fl) (k : FlK K H kvs' fl') : FlK K H (kvs ++ kvs') (fl ++ fl') := by
  induction h with
  | nil => exact k
  | cons h1 _ ih => exact .cons h1 ih
theorem FlK.put (h : FlK K H kvs fl) (p : List Str) {v : V} {c : Sc} (d : DT K H v (.tup (scD c))) : FlK K H (putK kvs (kP p) v) (putF fl p c) := by
  unfold putK putF
  rw [h.any p]
  by_cases e : (fl.any fun x => decide (x.1 = p)) = true
  · rw [if_pos e, if_pos e]
    clear e
    induction h with
    | nil => exact .nil
    | @cons u q c' kvs fl h1 _ ih =>
      rw [List.map_cons, List.map_cons]
      by_cases e : q = p
      · subst e
        rw [if_pos rfl, if_pos rfl]
        exact .cons d ih
      · rw [if_neg e, if_neg (fun z => e (kP_inj.mp z))]
        exact .cons h1 ih
  · rw [if_neg e, if_neg e]
    exact h.app (.cons d .nil)
end
/-! what a table holds -/
theorem getF_cons (q : List Str) (c : Sc) (fl : Fl) (p : List Str) : getF ((q, c) :: fl) p = if q = p then some c else getF fl p := by
  unfold getF
  by_cases e : q = p
  · simp [e]
  · simp [e]
theorem getF_mem {fl : Fl} {p : List Str} {c : Sc} (h : getF fl p = some c) : (p, c) ∈ fl := by
  induction fl with
  | nil => cases h
  | cons x fl ih =>
    obtain ⟨q, d⟩ := x
    rw [getF_cons] at h
    by_cases e : q = p
    · rw [if_pos e] at h
      cases h
      subst e
      exact List.mem_cons_self
    · rw [if_neg e] at h
      exact List.mem_cons_of_mem _ (ih h)
theorem mem_getF {fl : Fl} {p : List Str} {c : Sc} (h : (p, c) ∈ fl) : ∃ d, getF fl p = some d := by
  induction fl with
  | nil => cases h
  | cons x fl ih =>
    obtain ⟨q, d⟩ := x
    rw [getF_cons]
    by_cases e : q = p
    · exact ⟨d, if_pos e⟩
    · rw [if_neg e]
      refine ih ?_
      rcases List.mem_cons.mp h with h | h
      · cases h; exact absurd rfl e
      · exact h
theorem getF_nd {fl : Fl} (nd : (fl.map (·.1)).Nodup) {p : List Str} {c : Sc} (h : (p, c) ∈ fl) : getF fl p = some c := by
  induction fl with
  | nil => cases h
  | cons x fl ih =>
    obtain ⟨q, d⟩ := x
    rw [List.map_cons, List.nodup_cons] at nd
    rw [getF_cons]
    rcases List.mem_cons.mp h with h | h
    · cases h
      exact if_pos rfl
    · rw [if_neg (fun z => nd.1 (by rw [show (q, d).1 = p from z]; exact List.mem_map.mpr ⟨_, h, rfl⟩))]
      exact ih nd.2 h
theorem getF_put (fl : Fl) (p q : List Str) (c : Sc) : getF (putF fl p c) q = if q = p then some c else getF fl q := by
  have hm : ∀ fl : Fl, getF (fl.map (fun x => if x.1 = p then (x.1, c) else x)) q = if q = p then (getF fl q).map fun _ => c else getF fl q := by
    intro fl
    induction fl with
    | nil => by_cases e : q = p <;> simp [getF]
    | cons x fl ih =>
      obtain ⟨r, d⟩ := x
      rw [List.map_cons]
      by_cases e : r = p
      · rw [if_pos e, getF_cons, getF_cons, ih]
        by_cases e2 : r = q
        · have e3 : q = p := e2.symm.trans e
          rw [if_pos e2, if_pos e2, if_pos e3]
          rfl
        · rw [if_neg e2, if_neg e2]
      · rw [if_neg e, getF_cons, getF_cons, ih]
        by_cases e2 : r = q
        · have e3 : ¬ q = p := fun z => e (e2.trans z)
          rw [if_pos e2, if_pos e2, if_neg e3]
        · rw [if_neg e2, if_neg e2]
  have ha : ∀ fl : Fl, (fl.any fun x => decide (x.1 = p)) = (getF fl p).isSome := by
    intro fl
    induction fl with
    | nil => rfl
    | cons x fl ih =>
      obtain ⟨r, d⟩ := x
      rw [List.any_cons, getF_cons, ih]
      by_cases e : r = p <;> simp [e]
  have hs : ∀ fl : Fl, getF (fl ++ [(p, c)]) q = match getF fl q with | some d => some d | none => if p = q then some c else none := by
    intro fl
    induction fl with
    | nil => rw [List.nil_append, getF_cons]; rfl
    | cons x fl ih =>
      obtain ⟨r, d⟩ := x
      rw [List.cons_append, getF_cons, getF_cons, ih]
      by_cases e : r = q
      · rw [if_pos e, if_pos e]
      · rw [if_neg e, if_neg e]
  unfold putF
  by_cases e : (fl.any fun x => decide (x.1 = p)) = true
  · rw [if_pos e, hm]
    by_cases e2 : q = p
    · subst e2
      rw [if_pos rfl, if_pos rfl]
      rw [ha] at e
      obtain ⟨d, hd⟩ := Option.isSome_iff_exists.mp e
      rw [hd]
      rfl
    · rw [if_neg e2, if_neg e2]
  · rw [if_neg e, hs]
    by_cases e2 : q = p
    · subst e2
      rw [if_pos rfl]
      rw [ha] at e
      cases hg : getF fl q with
      | none =>
        exact (if_pos rfl).symm
      | some d => rw [hg] at e; exact absurd rfl e
    · rw [if_neg e2]
      cases hg : getF fl q with
      | none => exact if_neg fun z => e2 z.symm
      | some d => rfl
theorem getF_cut (fl : Fl) (p q : List Str) : getF (cutF fl p) q = if q.take p.length = p then none else getF fl q := by
  unfold cutF
  induction fl with
  | nil => by_cases e : q.take p.length = p <;> simp [getF]
  | cons x fl ih =>
    obtain ⟨r, d⟩ := x
    by_cases e : r.take p.length = p
    · rw [List.filter_cons_of_neg (by simp [e]), ih, getF_cons]
      by_cases e2 : r = q
      · subst e2
        rw [if_pos e, if_pos e]
      · rw [if_neg e2]
    · rw [List.filter_cons_of_pos (by simp [e]), getF_cons, ih, getF_cons]
      by_cases e2 : r = q
      · subst e2
        rw [if_pos rfl, if_neg e, if_pos rfl]
      · rw [if_neg e2, if_neg e2]
theorem nd_put {fl : Fl} (h : (fl.map (·.1)).Nodup) (p : List Str) (c : Sc) : ((putF fl p c).map (·.1)).Nodup := by
  unfold putF
  by_cases e : (fl.any fun x => decide (x.1 = p)) = true
  · rw [if_pos e, List.map_map]
    have e2 : (fun x : List Str × Sc => x.1) ∘ (fun x : List Str × Sc => if x.1 = p then (x.1, c) else x) = fun x => x.1 := by
      funext x
      by_cases z : x.1 = p
      · simp [z]
      · simp [z]
    rw [e2]
    exact h
  · rw [if_neg e, List.map_append, List.nodup_append]
    refine ⟨h, by simp, fun a ha b hb => ?_⟩
    have hb' : b = p := by simpa using hb
    subst hb'
    intro z
    subst z
    obtain ⟨x, hx, rfl⟩ := List.mem_map.mp ha
    exact e (List.any_eq_true.mpr ⟨x, hx, decide_eq_true rfl⟩)
theorem nd_cut {fl : Fl} (h : (fl.map (·.1)).Nodup) (p : List Str) : ((cutF fl p).map (·.1)).Nodup := h.sublist (List.Sublist.map _ List.filter_sublist)
theorem len_put (fl : Fl) (p : List Str) (c : Sc) : (putF fl p c).length ≤ fl.length + 1 := by
  unfold putF
  by_cases e : (fl.any fun x => decide (x.1 = p)) = true
  · rw [if_pos e, List.length_map]; omega
  · rw [if_neg e, List.length_append]; exact Nat.le_refl _
theorem len_cut (fl : Fl) (p : List Str) : (cutF fl p).length ≤ fl.length := List.length_filter_le _ _
/-- the path is set: what is above is a record, what was there is gone -/
def upsF (fl : Fl) (p : List Str) (n : Nat) : Fl := (List.range n).foldl (fun f i => putF f (p.take (i + 1)) .recd) fl
def setF (fl : Fl) (p : List Str) (c : Sc) : Fl := putF (upsF (cutF fl p) p (p.length - 1)) p c
theorem upsF_succ (fl : Fl) (p : List Str) (n : Nat) : upsF fl p (n + 1) = putF (upsF fl p n) (p.take (n + 1)) .recd := by
  unfold upsF
  rw [List.range_succ, List.foldl_append]
  rfl
theorem len_ups (fl : Fl) (p : List Str) (n : Nat) : (upsF fl p n).length ≤ fl.length + n := by
  induction n with
  | zero => exact Nat.le_refl _
  | succ n ih =>
    rw [upsF_succ]
    have := len_put (upsF fl p n) (p.take (n + 1)) .recd
    omega
theorem nd_ups {fl : Fl} (h : (fl.map (·.1)).Nodup) (p : List Str) (n : Nat) : ((upsF fl p n).map (·.1)).Nodup := by
  induction n with
  | zero => exact h
  | succ n ih =>
    rw [upsF_succ]
    exact nd_put ih _ _
theorem getF_ups (fl : Fl) (p q : List Str) (n : Nat) (hn : n ≤ p.length) : getF (upsF fl p n) q = if 1 ≤ q.length ∧ q.length ≤ n ∧ q = p.take q.length then some .recd else getF fl q := by
  induction n with
  | zero =>
    rw [if_neg (fun h => by omega)]
    rfl
  | succ n ih =>
    rw [upsF_succ, getF_put, ih (by omega)]
    have lt : (p.take (n + 1)).length = n + 1 := by rw [List.length_take]; omega
    by_cases e : q = p.take (n + 1)
    · rw [if_pos e, if_pos]
      have lq : q.length = n + 1 := by rw [e, lt]
      exact ⟨by omega, by omega, by rw [lq]; exact e⟩
    · rw [if_neg e]
      by_cases c : 1 ≤ q.length ∧ q.length ≤ n ∧ q = p.take q.length
      · rw [if_pos c, if_pos ⟨c.1, by omega, c.2.2⟩]
      · rw [if_neg c, if_neg]
        rintro ⟨h1, h2, h3⟩
        by_cases z : q.length = n + 1
        · rw [z] at h3
          exact e h3
        · exact c ⟨h1, by omega, h3⟩
theorem getF_set (fl : Fl) (p q : List Str) (c : Sc) : getF (setF fl p c) q = if q = p then some c else if 1 ≤ q.length ∧ q.length < p.length ∧ q = p.take q.length then some .recd else if q.take p.length = p then none else getF fl q := by
  unfold setF
  rw [getF_put, getF_ups _ _ _ _ (by omega), getF_cut]
  by_cases e : q = p
  · rw [if_pos e, if_pos e]
  · rw [if_neg e, if_neg e]
    by_cases z : 1 ≤ q.length ∧ q.length < p.length ∧ q = p.take q.length
    · rw [if_pos z, if_pos ⟨z.1, by omega, z.2.2⟩]
    · rw [if_neg z, if_neg (fun y => z ⟨y.1, by omega, y.2.2⟩)]
/-- a table of a document -/
structure Wf (ws : List Str) (fl : Fl) : Prop where
  nd : (fl.map (·.1)).Nodup
  pa : ∀ p c, getF fl p = some c → 1 ≤ p.length ∧ p.length ≤ 5 ∧ (∀ k ∈ p, k ∈ ws) ∧ scOk c
  up : ∀ p c, getF fl p = some c → ∀ j, 1 ≤ j → j < p.length → getF fl (p.take j) = some .recd
theorem Wf.nil (ws : List Str) : Wf ws [] := ⟨List.nodup_nil, (fun _ _ h => by cases h), (fun _ _ h => by cases h)⟩
theorem take_take_le {p : List Str} {i j : Nat} (h : j ≤ i) : (p.take i).take j = p.take j := by rw [List.take_take, Nat.min_eq_left h]
theorem Wf.set {ws : List Str} {fl : Fl} (h : Wf ws fl) {p : List Str} {c : Sc} (h1 : 1 ≤ p.length) (h5 : p.length ≤ 5) (hk : ∀ k ∈ p, k ∈ ws) (hc : scOk c) : Wf ws (setF fl p c) := by
  refine ⟨nd_put (nd_ups (nd_cut h.nd _) _ _) _ _, fun q d hq => ?_, fun q d hq j j1 j2 => ?_⟩
  · rw [getF_set] at hq
    by_cases e : q = p
    · rw [if_pos e] at hq
      cases hq
      rw [e]
      exact ⟨h1, h5, hk, hc⟩
    · rw [if_neg e] at hq
      by_cases z : 1 ≤ q.length ∧ q.length < p.length ∧ q = p.take q.length
      · rw [if_pos z] at hq
        cases hq
        exact ⟨z.1, by omega, fun k hk' => hk k (by rw [z.2.2] at hk'; exact List.mem_of_mem_take hk'), trivial⟩
      · rw [if_neg z] at hq
        by_cases y : q.take p.length = p
        · rw [if_pos y] at hq; cases hq
        · rw [if_neg y] at hq
          exact h.pa q d hq
  · have lt : (q.take j).length = j := by rw [List.length_take]; omega
    rw [getF_set] at hq ⊢
    by_cases e : q = p
    · subst e
      rw [if_neg (fun z => by have := congrArg List.length z; omega), if_pos ⟨by omega, by omega, by rw [lt]⟩]
    · rw [if_neg e] at hq
      by_cases z : 1 ≤ q.length ∧ q.length < p.length ∧ q = p.take q.length
      · have e3 : q.take j = (p.take q.length).take j := by rw [← z.2.2]
        have e4 : q.take j = p.take j := by rw [e3, take_take_le (by omega)]
        have hw : 1 ≤ (q.take j).length ∧ (q.take j).length < p.length ∧ q.take j = p.take (q.take j).length := ⟨by omega, by omega, by rw [lt]; exact e4⟩
        rw [if_neg (fun y => by have := congrArg List.length y; omega), if_pos hw]
      · rw [if_neg z] at hq
        by_cases y : q.take p.length = p
        · rw [if_pos y] at hq; cases hq
        · rw [if_neg y] at hq
          have up := h.up q d hq j j1 j2
          have n1 : ¬ q.take j = p := fun a => y (by
            have l2 := congrArg List.length a
            rw [lt] at l2
            rw [← l2]
            exact a)
          have n2 : ¬ (q.take j).take p.length = p := fun a => by
            have l2 := congrArg List.length a
            rw [List.length_take, lt] at l2
            refine y ?_
            have : (q.take j).take p.length = q.take p.length := take_take_le (by omega)
            rw [← this]
            exact a
          rw [if_neg n1]
          by_cases w : 1 ≤ (q.take j).length ∧ (q.take j).length < p.length ∧ q.take j = p.take (q.take j).length
          · rw [if_pos w]
          · rw [if_neg w, if_neg n2]
            exact up
theorem len_set (fl : Fl) (p : List Str) (c : Sc) : (setF fl p c).length ≤ fl.length + p.length + 1 := by
  unfold setF
  have h1 := len_put (upsF (cutF fl p) p (p.length - 1)) p c
  have h2 := len_ups (cutF fl p) p (p.length - 1)
  have h3 := len_cut fl p
  omega
/-! ### documents -/
def srtK (ks : List Str) : List Str := ks.mergeSort (PySem.W.dataLe false dK)
theorem srtK_mem {k : Str} {ks : List Str} : k ∈ srtK ks ↔ k ∈ ks := (List.mergeSort_perm ks _).mem_iff
theorem srtK_len (ks : List Str) : (srtK ks).length = ks.length := (List.mergeSort_perm ks _).length_eq
def lastS (p : List Str) : Str := p.getLastD (Str.ofString "")
def isBelow (p : List Str) (x : List Str × Sc) : Bool := decide (x.1.length = p.length + 1) && decide (x.1.take p.length = p)
def keysB (fl : Fl) (p : List Str) : List Str := (fl.filter (isBelow p)).map fun x => lastS x.1
def below (fl : Fl) (p : List Str) : List Str := srtK (keysB fl p)
theorem lastS_snoc (p : List Str) (k : Str) : lastS (p ++ [k]) = k := by
  unfold lastS
  simp
theorem isBelow_iff (p : List Str) (x : List Str × Sc) : isBelow p x = true ↔ ∃ k, x.1 = p ++ [k] := by
  unfold isBelow
  rw [Bool.and_eq_true, decide_eq_true_iff, decide_eq_true_iff]
  constructor
  · rintro ⟨h1, h2⟩
    have h3 : x.1 = x.1.take p.length ++ x.1.drop p.length := (List.take_append_drop _ _).symm
    rw [h2] at h3
    obtain ⟨k, hk⟩ := List.length_eq_one_iff.mp (show (x.1.drop p.length).length = 1 by rw [List.length_drop]; omega)
    exact ⟨k, by rw [h3, hk]⟩
  · rintro ⟨k, e⟩
    rw [e]
    refine ⟨by simp, ?_⟩
    rw [List.take_left]
theorem mem_below {fl : Fl} {p : List Str} {k : Str} : k ∈ below fl p ↔ ∃ c, getF fl (p ++ [k]) = some c := by
  unfold below keysB
  rw [srtK_mem]
  constructor
  · intro h
    obtain ⟨x, hx, rfl⟩ := List.mem_map.mp h
    obtain ⟨h1, h2⟩ := List.mem_filter.mp hx
    obtain ⟨k, e⟩ := (isBelow_iff p x).mp h2
    rw [e, lastS_snoc]
    exact mem_getF (c := x.2) (by rw [← e]; exact h1)
  · rintro ⟨c, h⟩
    exact List.mem_map.mpr ⟨_, List.mem_filter.mpr ⟨getF_mem h, (isBelow_iff _ _).mpr ⟨k, rfl⟩⟩, lastS_snoc p k⟩
theorem below_len (fl : Fl) (p : List Str) : (below fl p).length ≤ fl.length := by
  unfold below keysB
  rw [srtK_len, List.length_map]
  exact List.length_filter_le _ _
def dF : Nat → Fl → List Str → List Dt
  | 0, _, _ => []
  | n + 1, fl, p => (below fl p).map fun k => .tup [.str k, match getF fl (p ++ [k]) with | some .recd => .tup [.str (Str.ofString "record"), .tup (dF n fl (p ++ [k]))] | some c => .tup (scD c) | none => .non]
/-- the fields of the record at the path -/
def doc (fl : Fl) (p : List Str) : List Dt := dF (9 - p.length) fl p
/-- the value at the path; None if it is absent -/
def valD (fl : Fl) (p : List Str) : Dt := match getF fl p with | some .recd => .tup [.str (Str.ofString "record"), .tup (doc fl p)] | some c => .tup (scD c) | none => .non
theorem doc_eq {fl : Fl} (h : ∀ q c, getF fl q = some c → q.length ≤ 9) (p : List Str) : doc fl p = (below fl p).map fun k => .tup [.str k, valD fl (p ++ [k])] := by
  unfold doc
  by_cases hp : p.length < 9
  · obtain ⟨m, hm⟩ : ∃ m, 9 - p.length = m + 1 := ⟨8 - p.length, by omega⟩
    rw [hm, dF]
    refine List.map_congr_left fun k _ => ?_
    unfold valD doc
    rw [show 9 - (p ++ [k]).length = m by rw [List.length_append]; show 9 - (p.length + 1) = m; omega]
  · have e : below fl p = [] := by
      rw [List.eq_nil_iff_forall_not_mem]
      intro k hk
      obtain ⟨c, hc⟩ := mem_below.mp hk
      have := h _ _ hc
      rw [List.length_append] at this
      simp at this
      omega
    rw [e, show 9 - p.length = 0 by omega]
    rfl
theorem Wf.nine {ws : List Str} {fl : Fl} (h : Wf ws fl) : ∀ q c, getF fl q = some c → q.length ≤ 9 := fun q c e => by have := (h.pa q c e).2.1; omega
theorem deeps_le {ds : List Dt} {n : Nat} (h : ∀ d ∈ ds, d.deep ≤ n) : Dt.deeps ds ≤ n := by
  induction ds with
  | nil => exact Nat.zero_le _
  | cons d ds ih =>
    unfold Dt.deeps
    have h1 := h d List.mem_cons_self
    have h2 := ih fun x hx => h x (List.mem_cons_of_mem _ hx)
    omega
theorem fitss_of {ds : List Dt} (h : ∀ d ∈ ds, d.fits = true) : Dt.fitss ds = true := by
  induction ds with
  | nil => rfl
  | cons d ds ih =>
    unfold Dt.fitss
    rw [h d List.mem_cons_self, ih fun x hx => h x (List.mem_cons_of_mem _ hx)]
    rfl
theorem deep_scD (c : Sc) : (Dt.tup (scD c)).deep ≤ 2 := by
  cases c with
  | num n => show 2 ≤ 2; decide
  | text s => show 2 ≤ 2; decide
  | _ => decide
theorem deep_pair (a b : Dt) : (Dt.tup [a, b]).deep = max a.deep b.deep + 1 := by
  show max a.deep (max b.deep 0) + 1 = _
  omega
theorem deep_dF : ∀ (n : Nat) (fl : Fl) (p : List Str), Dt.deeps (dF n fl p) ≤ 3 * n
  | 0, _, _ => Nat.le_refl _
  | n + 1, fl, p => by
    rw [dF]
    refine deeps_le fun d hd => ?_
    obtain ⟨k, _, rfl⟩ := List.mem_map.mp hd
    have ih := deep_dF n fl (p ++ [k])
    have s1 : ∀ z : Str, (Dt.str z).deep = 1 := fun _ => rfl
    rw [deep_pair, s1]
    split
    · rw [deep_pair, s1]
      have : (Dt.tup (dF n fl (p ++ [k]))).deep = Dt.deeps (dF n fl (p ++ [k])) + 1 := rfl
      rw [this]
      omega
    · rename_i c _ _
      have := deep_scD c
      omega
    · have : Dt.non.deep = 1 := rfl
      omega
theorem fits_dF {fl : Fl} (hl : fl.length ≤ 1000000) : ∀ (n : Nat) (p : List Str), (Dt.tup (dF n fl p)).fits = true
  | 0, _ => rfl
  | n + 1, p => by
    rw [dF]
    show (decide _ && _) = true
    rw [decide_eq_true (by rw [List.length_map]; have := below_len fl p; omega), Bool.true_and]
    refine fitss_of fun d hd => ?_
    obtain ⟨k, _, rfl⟩ := List.mem_map.mp hd
    have pr : ∀ a b : Dt, b.fits = true → (Dt.tup [.str (Str.ofString "record"), b]).fits = true ∧ (Dt.tup [.str k, b]).fits = true := fun a b h => by
      constructor
      · show (true && (true && (b.fits && true))) = true
        rw [h]
        rfl
      · show (true && (true && (b.fits && true))) = true
        rw [h]
        rfl
    refine (pr .non _ ?_).2
    split
    · exact (pr .non _ (fits_dF hl n _)).1
    · exact (scD_same _).2
    · rfl
theorem doc_ok {fl : Fl} (hl : fl.length ≤ 1000000) (p : List Str) : (Dt.tup (doc fl p)).deep ≤ 30 ∧ (Dt.tup (doc fl p)).fits = true := by
  refine ⟨?_, fits_dF hl _ _⟩
  have := deep_dF (9 - p.length) fl p
  show Dt.deeps (doc fl p) + 1 ≤ 30
  unfold doc
  omega
/-! ### != of paths -/
theorem strOk_sg {z : Str} (h : SgT z) : PyData.strOk z = true := by
  unfold PyData.strOk
  rw [Array.all_eq_true_iff_forall_mem]
  intro c hc
  have := h c (by simpa using hc)
  have k := this.2.1
  simp
  omega
theorem lay_strs : ∀ ws : List Str, (∀ z ∈ ws, SgT z) → PyData.canLayAll0 (ws.map PyData.str) = true ∧ PyData.depthAll (ws.map PyData.str) = 0
  | [], _ => ⟨rfl, rfl⟩
  | z :: ws, h => by
    obtain ⟨a, b⟩ := lay_strs ws fun y hy => h y (List.mem_cons_of_mem _ hy)
    refine ⟨?_, ?_⟩
    · rw [List.map_cons, PyData.canLayAll0, PyData.canLay0, strOk_sg (h z List.mem_cons_self), a]
      rfl
    · rw [List.map_cons, PyData.depthAll, b, PyData.depth]
      rfl
theorem shaped_tup {ws : List Str} (h : ∀ z ∈ ws, SgT z) : SeqAt.shaped (.tuple (ws.map PyData.str)) = true := by
  obtain ⟨a, b⟩ := lay_strs ws h
  unfold SeqAt.shaped
  rw [PyData.canLay0, PyData.depth, a, b]
  rfl
theorem eqvs_strs : ∀ as bs : List Str, PyData.eqvAll (as.map PyData.str) (bs.map PyData.str) = decide (as = bs)
  | [], [] => rfl
  | [], _ :: _ => rfl
  | _ :: _, [] => rfl
  | a :: as, b :: bs => by
    rw [List.map_cons, List.map_cons, PyData.eqvAll, eqvs_strs as bs, eqv_str]
    by_cases h1 : a = b <;> by_cases h2 : as = bs <;> simp [h1, h2]
theorem ne_paths {K : PySem.W.Frag} {H : Hp} {a b : Addr} {p q : List Str} {Q : VK} (ha : SqT K H a (p.map V.str)) (hb : SqT K H b (q.map V.str)) (hp : ∀ z ∈ p, SgT z) (hq : ∀ z ∈ q, SgT z) (h : Q (.bl (!decide (p = q))) H) : rNeD K (.ref a) (.ref b) H Q := by
  refine ⟨.tuple (p.map .str), .tuple (q.map .str), .tup ha (dpa_strs p), .tup hb (dpa_strs q), shaped_tup hp, shaped_tup hq, ?_⟩
  have e : PyData.eqv (.tuple (p.map .str)) (.tuple (q.map .str)) = decide (p = q) := by
    rw [PyData.eqv]
    exact eqvs_strs p q
  rw [e]
  exact h
/-- the texts of a table -/
def FlS (fl : Fl) : Prop := ∀ x ∈ fl, ∀ k ∈ x.1, SgT k
theorem Wf.sg {ws : List Str} {fl : Fl} (h : Wf ws fl) (hw : ∀ z ∈ ws, SgT z) : FlS fl := fun x hx k hk => hw k ((h.pa x.1 x.2 (getF_nd h.nd hx)).2.2.1 k hk)
/-- a slice that leaves something out is new -/
theorem slA_new {K : PySem.W.Frag} {H : Hp} {a : Addr} {xs : List V} {lo hi : Option Int} {Q : VK} (h : SqT K H a xs) (hw : ¬ (HT.sIx xs.length 0 lo = 0 ∧ HT.sIx xs.length xs.length hi = xs.length)) (q : ∀ p, H p = none → Q (.ref p) (upd H p (.tup (cutV xs lo hi)))) : rSlA K (.ref a) lo hi H Q :=
  ⟨a, xs, rfl, h, fun z => absurd z hw, fun _ => q⟩
/-- a slice of a tracked tuple is tracked -/
theorem slA_tr {K : PySem.W.Frag} {H : Hp} {a : Addr} {xs : List V} {lo hi : Option Int} {Q : VK} (h : H a = some (.tup xs)) (q : ∀ p H', Same H H' → H' p = some (.tup (cutV xs lo hi)) → Q (.ref p) H') : rSlA K (.ref a) lo hi H Q := by
  refine ⟨a, xs, rfl, SqT.of h, fun z => ?_, fun _ p hp => q p _ (same_new hp _) upd_same⟩
  refine q a H (Same.refl H) ?_
  rw [h]
  congr 2
  unfold cutV
  rw [z.1, z.2, List.drop_zero, Nat.sub_zero, List.take_length]
/-! ### for the single defs -/
theorem none_any {P : Program} {w : World} {K : PySem.W.Frag} {mg : Str → Option Value} {base : Heap} {k : Nat} {f : Addr} {fd : FuncData} {ps : List Str} {sp : Sp} (no : ∀ vs H Q E, ¬ sp vs H Q E) : FnOk P w K mg base CX0 k f fd ps sp :=
  ⟨fun vs H Q E h => absurd h (no vs H Q E), fun A outer s H args us vs Q E _ _ _ _ h => absurd h (no vs H Q E)⟩
theorem dt_tup {K : PySem.W.Frag} {H : Hp} {v : V} {ds : List Dt} (h : DT K H v (.tup ds)) : ∃ a xs, v = .ref a ∧ SqT K H a xs ∧ DTs K H xs ds := by
  cases h with
  | tup h1 h2 => exact ⟨_, _, rfl, h1, h2⟩
theorem dt_head {K : PySem.W.Frag} {H : Hp} {v : V} {z : Str} {ds : List Dt} (h : DT K H v (.tup (.str z :: ds))) : ∃ a xs, v = .ref a ∧ SqT K H a (.str z :: xs) ∧ DTs K H xs ds := by
  obtain ⟨a, xs, rfl, h1, h2⟩ := dt_tup h
  cases h2 with
  | cons h3 h4 =>
    cases h3
    exact ⟨_, _, rfl, h1, h4⟩
/-- the word of a scalar is not that of a record -/
theorem sc_word (c : Sc) (h : c ≠ .recd) : ∃ z ds, scD c = .str z :: ds ∧ z ≠ Str.ofString "record" := by
  cases c with
  | null => exact ⟨_, _, rfl, by decide +kernel⟩
  | fals => exact ⟨_, _, rfl, by decide +kernel⟩
  | tru => exact ⟨_, _, rfl, by decide +kernel⟩
  | num n => exact ⟨_, _, rfl, by decide +kernel⟩
  | text s => exact ⟨_, _, rfl, by decide +kernel⟩
  | recd => exact absurd rfl h
/-- a table whose paths stand below records -/
structure Up (fl : Fl) : Prop where
  nine : ∀ q c, getF fl q = some c → q.length ≤ 9
  up : ∀ p c, getF fl p = some c → ∀ j, 1 ≤ j → j < p.length → getF fl (p.take j) = some .recd
theorem Wf.toUp {ws : List Str} {fl : Fl} (h : Wf ws fl) : Up fl := ⟨h.nine, h.up⟩
/-- what the path holds, with all below it -/
def atD (fl : Fl) (p : List Str) : Dt := if p = [] then .tup [.str (Str.ofString "record"), .tup (doc fl [])] else valD fl p
theorem valD_none {fl : Fl} {p : List Str} (h : getF fl p = none) : valD fl p = .non := by unfold valD; rw [h]
theorem valD_recd {fl : Fl} {p : List Str} (h : getF fl p = some .recd) : valD fl p = .tup [.str (Str.ofString "record"), .tup (doc fl p)] := by unfold valD; rw [h]
theorem valD_sc {fl : Fl} {p : List Str} {c : Sc} (h : getF fl p = some c) (n : c ≠ .recd) : valD fl p = .tup (scD c) := by
  unfold valD
  rw [h]
  cases c <;> first | rfl | exact absurd rfl n
/-- a record, a scalar, or nothing -/
theorem atD_cases (fl : Fl) (p : List Str) : (atD fl p = .tup [.str (Str.ofString "record"), .tup (doc fl p)] ∧ (p = [] ∨ getF fl p = some .recd)) ∨ (∃ c, c ≠ .recd ∧ atD fl p = .tup (scD c) ∧ p ≠ [] ∧ getF fl p = some c) ∨ (atD fl p = .non ∧ p ≠ [] ∧ getF fl p = none) := by
  unfold atD
  by_cases e : p = []
  · subst e
    exact .inl ⟨if_pos rfl, .inl rfl⟩
  · rw [if_neg e]
    cases h : getF fl p with
    | none => exact .inr (.inr ⟨valD_none h, e, rfl⟩)
    | some c =>
      by_cases n : c = .recd
      · subst n
        exact .inl ⟨valD_recd h, .inr rfl⟩
      · exact .inr (.inl ⟨c, n, valD_sc h n, e, rfl⟩)
theorem field_valD (fl : Fl) (p : List Str) (k : Str) : (if k ∈ below fl p then valD fl (p ++ [k]) else .non) = valD fl (p ++ [k]) := by
  by_cases h : k ∈ below fl p
  · rw [if_pos h]
  · rw [if_neg h]
    cases g : getF fl (p ++ [k]) with
    | none => exact (valD_none g).symm
    | some c => exact absurd (mem_below.mpr ⟨c, g⟩) h
/-- nothing below what is no record -/
theorem Up.none {fl : Fl} (h : Up fl) {p : List Str} {i : Nat} (hi : i < p.length) (h1 : p.take i ≠ []) (hn : getF fl (p.take i) ≠ some .recd) : atD fl p = .non := by
  have np : p ≠ [] := fun e => by subst e; simp at hi
  unfold atD
  rw [if_neg np]
  cases g : getF fl p with
  | none => exact valD_none g
  | some c =>
    have i1 : 1 ≤ i := by
      cases i with
      | zero => exact absurd rfl h1
      | succ i => omega
    exact absurd (h.up p c g i i1 hi) hn
/-- what the path holds -/
def hdD (fl : Fl) (p : List Str) : Dt := if p = [] then .tup (scD .recd) else match getF fl p with | some c => .tup (scD c) | none => .non
theorem Up.below {fl : Fl} (h : Up fl) {p : List Str} (h1 : p ≠ []) (hn : getF fl p ≠ some .recd) : below fl p = [] := by
  rw [List.eq_nil_iff_forall_not_mem]
  intro k hk
  obtain ⟨c, hc⟩ := mem_below.mp hk
  refine hn ?_
  have := h.up _ c hc p.length (by cases p with | nil => exact absurd rfl h1 | cons a r => simp) (by simp)
  rwa [List.take_left] at this
/-- a table of paths stands at d -/
structure FlatAt (K : PySem.W.Frag) (H : Hp) (d : Addr) (fl : Fl) : Prop where
  ex : ∃ kvs, H d = some (.dT kvs) ∧ FlK K H kvs fl
theorem FlatAt.same {K : PySem.W.Frag} {H H' : Hp} {d : Addr} {fl : Fl} (h : FlatAt K H d fl) (e : Same H H') : FlatAt K H' d fl := by
  obtain ⟨kvs, h1, h2⟩ := h.ex
  exact ⟨kvs, e _ _ h1, h2.same e⟩
theorem FlatAt.go {K : PySem.W.Frag} {H H' : Hp} {t d : Addr} {fl : Fl} (h : FlatAt K H d fl) (hT : Tape H t) (e : Sm t H H') : FlatAt K H' d fl := by
  obtain ⟨kvs, h1, h2⟩ := h.ex
  obtain ⟨l, ns, x, b, c, h3, _⟩ := hT.ex
  exact ⟨kvs, e _ _ (ne_of h1 h3 (fun z => by cases z)) h1, h2.go hT e⟩
/-- what reads as tuples still does where one thing that is no tuple has changed -/
theorem seqT_put {K : PySem.W.Frag} {H : Hp} {b a : Addr} {xs : List V} {o u : HO} (hb : H b = some o) (n1 : ∀ ys, o ≠ .tup ys) (n2 : ∀ z ys, o ≠ .frz z (.tup ys)) (h : SqT K H a xs) : SqT K (upd H b u) a xs := by
  rcases h with (h | ⟨z, h⟩) | h
  · exact .inl (.inl (by rw [upd_ne (ne_of h hb (fun e => n1 _ e.symm))]; exact h))
  · exact .inl (.inr ⟨z, by rw [upd_ne (ne_of h hb (fun e => n2 _ _ e.symm))]; exact h⟩)
  · exact .inr h
theorem seqT_two {K : PySem.W.Frag} {H H' : Hp} {f d a : Addr} {kvs : List (List Key × V)} {xs : List V} (s : ∀ b o, b ≠ f → b ≠ d → H b = some o → H' b = some o) (hf : H f = none) (hd : H d = some (.dT kvs)) (h : SqT K H a xs) : SqT K H' a xs := by
  rcases h with (h | ⟨z, h⟩) | h
  · exact .inl (.inl (s _ _ (ne_of_none h hf) (ne_of h hd (fun e => by cases e)) h))
  · exact .inl (.inr ⟨z, s _ _ (ne_of_none h hf) (ne_of h hd (fun e => by cases e)) h⟩)
  · exact .inr h
theorem cutF_take {fl : Fl} {p q : List Str} {c : Sc} {i : Nat} (h : fl[i]? = some (q, c)) : cutF (fl.take (i + 1)) p = if q.take p.length = p then cutF (fl.take i) p else cutF (fl.take i) p ++ [(q, c)] := by
  obtain ⟨hi, e⟩ := List.getElem?_eq_some_iff.mp h
  unfold cutF
  rw [List.take_succ_eq_append_getElem hi, e, List.filter_append]
  by_cases z : q.take p.length = p
  · rw [if_pos z, List.filter_cons_of_neg (by simp [z]), List.filter_nil, List.append_nil]
  · rw [if_neg z, List.filter_cons_of_pos (by simp [z]), List.filter_nil]
theorem putF_new {fl : Fl} {q : List Str} (c : Sc) (h : getF fl q = none) : putF fl q c = fl ++ [(q, c)] := by
  unfold putF
  rw [if_neg]
  intro z
  obtain ⟨x, hx, e⟩ := List.any_eq_true.mp z
  obtain ⟨d, hd⟩ := mem_getF (fl := fl) (p := q) (c := x.2) (by rw [← of_decide_eq_true e]; exact hx)
  rw [h] at hd
  cases hd
theorem getF_take {fl : Fl} (nd : (fl.map (·.1)).Nodup) {q : List Str} {c : Sc} {i : Nat} (h : fl[i]? = some (q, c)) : getF (fl.take i) q = none := by
  obtain ⟨hi, e⟩ := List.getElem?_eq_some_iff.mp h
  have n2 : ((fl.take (i + 1)).map (·.1)).Nodup := nd.sublist (List.Sublist.map _ (List.take_sublist _ _))
  rw [List.take_succ_eq_append_getElem hi, e, List.map_append, List.nodup_append] at n2
  cases g : getF (fl.take i) q with
  | none => rfl
  | some d => exact absurd rfl (n2.2.2 q (List.mem_map.mpr ⟨_, getF_mem g, rfl⟩) q (by simp))
theorem FlatAt.put {K : PySem.W.Frag} {H : Hp} {f b : Addr} {fl : Fl} {p : List Str} {v : V} {c : Sc} (h : FlatAt K H f fl) (lf : fl.length ≤ 100000) (hb : H b = some (.tup (p.map V.str))) (d : DT K H v (.tup (scD c))) :
    ∃ H', DPut H f (.ref b) v H' ∧ (∀ a o, a ≠ f → H a = some o → H' a = some o) ∧ (∀ a xs, SqT K H a xs → SqT K H' a xs) ∧ FlatAt K H' f (putF fl p c) := by
  obtain ⟨kvs, h1, h2⟩ := h.ex
  have lk := h2.len
  have mo : ∀ a xs, SqT K H a xs → SqT K (upd H f (.dT (putK kvs (kP p) v))) a xs := fun _ _ h => seqT_put h1 (fun _ z => by cases z) (fun _ _ z => by cases z) h
  exact ⟨_, DPut.t h1 (by rw [kP_V]; exact hb) (lt_line (by omega)), fun a o n e => by rw [upd_ne n]; exact e, mo, _, upd_same, (h2.put p d).mono mo⟩
inductive Al2 {α β : Type} (R : α → β → Prop) : List α → List β → Prop
  | nil : Al2 R [] []
  | cons {a : α} {b : β} {l : List α} {m : List β} : R a b → Al2 R l m → Al2 R (a :: l) (b :: m)
section
variable {α β : Type} {R S : α → β → Prop}
theorem Al2.mono (f : ∀ a b, R a b → S a b) {l : List α} {m : List β} (h : Al2 R l m) : Al2 S l m := by
  induction h with
  | nil => exact .nil
  | cons h1 _ ih => exact .cons (f _ _ h1) ih
theorem Al2.len {l : List α} {m : List β} (h : Al2 R l m) : l.length = m.length := by
  induction h with
  | nil => rfl
  | cons _ _ ih => rw [List.length_cons, List.length_cons, ih]
theorem Al2.app {l l' : List α} {m m' : List β} (h : Al2 R l m) (k : Al2 R l' m') : Al2 R (l ++ l') (m ++ m') := by
  induction h with
  | nil => exact k
  | cons h1 _ ih => exact .cons h1 ih
theorem Al2.at {l : List α} {m : List β} (h : Al2 R l m) {i : Nat} {a : α} (e : l[i]? = some a) : ∃ b, m[i]? = some b ∧ R a b := by
  induction h generalizing i with
  | nil => simp at e
  | cons h1 _ ih =>
    cases i with
    | zero =>
      have e' := Option.some.inj e
      cases e'
      exact ⟨_, rfl, h1⟩
    | succ i => exact ih (by simpa using e)
theorem Al2.zip {l : List α} {m : List β} (h : Al2 R l m) : ∀ z ∈ l.zip m, R z.1 z.2 := by
  induction h with
  | nil => intro z hz; cases hz
  | cons h1 _ ih =>
    intro z hz
    rw [List.zip_cons_cons] at hz
    rcases List.mem_cons.mp hz with rfl | hz
    · exact h1
    · exact ih z hz
theorem Al2.maps {zs : List (α × β)} (h : ∀ z ∈ zs, R z.1 z.2) : Al2 R (zs.map (·.1)) (zs.map (·.2)) := by
  induction zs with
  | nil => exact .nil
  | cons z zs ih => exact .cons (h z List.mem_cons_self) (ih fun x hx => h x (List.mem_cons_of_mem _ hx))
end
theorem same_free {H H' : Hp} {p : Addr} (s : Same H H') (h : H' p = none) : H p = none := by
  cases e : H p with
  | none => rfl
  | some o => rw [s p o e] at h; cases h
/-- v is the tracked tuple of the path -/
def PthV (H : Hp) (v : V) (p : List Str) : Prop := ∃ b, v = .ref b ∧ H b = some (.tup (p.map V.str))
def encP (p : List Str) : PyData := .tuple [.list (p.map dK), .tuple (p.map .str)]
def srtP (ps : List (List Str)) : List (List Str) := ps.mergeSort (PySem.W.dataLe false encP)
/-- a row to be sorted -/
def RowP (K : PySem.W.Frag) (D : Addr) (H : Hp) (y : V) (p : List Str) : Prop := ∃ o r b vs, y = .ref o ∧ H o = some (.tup [.ref r, .ref b]) ∧ H b = some (.tup (p.map V.str)) ∧ r ≠ D ∧ SqL K H r vs ∧ DpAll K H vs (p.map dK)
theorem RowP.same {K : PySem.W.Frag} {D : Addr} {H H' : Hp} {y : V} {p : List Str} (h : RowP K D H y p) (e : Same H H') : RowP K D H' y p := by
  obtain ⟨o, r, b, vs, h1, h2, h3, h4, h5, h6⟩ := h
  exact ⟨o, r, b, vs, h1, e _ _ h2, e _ _ h3, h4, e.seq h5, h6.same e⟩
theorem RowP.put {K : PySem.W.Frag} {D : Addr} {H : Hp} {y : V} {p : List Str} {acc acc' : List V} (h : RowP K D H y p) (e : H D = some (.lst acc)) : RowP K D (upd H D (.lst acc')) y p := by
  obtain ⟨o, r, b, vs, h1, h2, h3, h4, h5, h6⟩ := h
  refine ⟨o, r, b, vs, h1, by rw [upd_ne (ne_of h2 e (fun z => by cases z))]; exact h2, by rw [upd_ne (ne_of h3 e (fun z => by cases z))]; exact h3, h4, ?_, DpAll.rows (fun _ _ h => seqT_put e (fun _ z => by cases z) (fun _ _ z => by cases z) h) _ _ h6⟩
  rcases h5 with (h | ⟨z, h⟩) | h
  · exact .inl (.inl (by rw [upd_ne h4]; exact h))
  · exact .inl (.inr ⟨z, by rw [upd_ne h4]; exact h⟩)
  · exact .inr h
theorem RowP.dp {K : PySem.W.Frag} {D : Addr} {H : Hp} {y : V} {p : List Str} (h : RowP K D H y p) : Dp K H y (encP p) := by
  obtain ⟨o, r, b, vs, rfl, h2, h3, h4, h5, h6⟩ := h
  exact .tup (SqT.of h2) (.cons (.lst h5 h6) (.cons (.tup (SqT.of h3) (dpa_strs p)) .nil))
theorem rows_dp {K : PySem.W.Frag} {D : Addr} {H : Hp} {ys : List V} {ps : List (List Str)} (h : Al2 (RowP K D H) ys ps) : DpAll K H ys (ps.map encP) := by
  induction h with
  | nil => exact .nil
  | cons h1 _ ih => exact .cons h1.dp ih
theorem alike_strs : ∀ as bs : List Str, PySem.W.alikeAll (as.map PyData.str) (bs.map PyData.str) = true
  | [], bs => by simp [PySem.W.alikeAll]
  | a :: as, [] => by simp [PySem.W.alikeAll]
  | a :: as, b :: bs => by
    rw [List.map_cons, List.map_cons, PySem.W.alikeAll, alike_strs as bs]
    rfl
theorem alike_encP (a b : List Str) : PySem.W.alike (encP a) (encP b) = true := by
  unfold encP
  rw [PySem.W.alike, PySem.W.alikeAll, PySem.W.alikeAll, PySem.W.alikeAll, PySem.W.alike, PySem.W.alike, alike_rows, alike_strs]
  rfl
theorem depth_encP (p : List Str) : (encP p).depth ≤ 60 := by
  have h1 := depth_rows p
  have h2 : PyData.depthAll (p.map PyData.str) = 0 := by
    induction p with
    | nil => rfl
    | cons z p ih => rw [List.map_cons, PyData.depthAll, ih (depth_rows p), PyData.depth]; rfl
  unfold encP
  rw [PyData.depth, PyData.depthAll, PyData.depthAll, PyData.depthAll, PyData.depth, PyData.depth, h2]
  omega
theorem cutV_neg1 {xs : List V} : cutV xs none (some (-1)) = xs.take (xs.length - 1) := by
  show (xs.drop 0).take (HT.sIx xs.length xs.length (some (-1)) - 0) = _
  rw [List.drop_zero, Nat.sub_zero]
  congr 1
  show (if (-1 : Int) < 0 then ((-1 : Int) + (xs.length : Int)).toNat else min (-1 : Int).toNat xs.length) = _
  rw [if_pos (by decide)]
  omega
/-- a row to be sorted -/
def RowK (H : Hp) (y : V) (k : Str) : Prop := ∃ o, y = .ref o ∧ H o = some (.tup [.int k.length, .str k])
theorem rowks_dp {K : PySem.W.Frag} {H : Hp} {ys : List V} {ks : List Str} (h : Al2 (RowK H) ys ks) : DpAll K H ys (ks.map dK) := by
  induction h with
  | nil => exact .nil
  | cons h1 _ ih =>
    obtain ⟨o, rfl, h2⟩ := h1
    exact .cons (.tup (SqT.of h2) (.cons (.int _) (.cons (.str _) .nil))) ih
theorem depth_dK (k : Str) : (dK k).depth ≤ 60 := by
  show (PyData.tuple [.int k.length, .str k]).depth ≤ 60
  simp [PyData.depth, PyData.depthAll]
theorem catA_tr {K : PySem.W.Frag} {H : Hp} {a b : Addr} {xs ys : List V} {Q : VK} (h : SqT K H a xs) (k : H b = some (.tup ys)) (hy : ys ≠ []) (hl : xs.length + ys.length ≤ sizeLine) (q : ∀ p H', Same H H' → H' p = some (.tup (xs ++ ys)) → Q (.ref p) H') : rCatA K (.ref a) (.ref b) H Q :=
  ⟨a, b, xs, ys, rfl, rfl, h, SqT.of k, hl, (fun e => q b H (Same.refl H) (by rw [e]; exact k)), (fun _ e => absurd e hy), fun _ _ p hp => q p _ (same_new hp _) upd_same⟩
theorem eqbs_recd (c : Sc) : Dt.eqbs (scD c) [.str (Str.ofString "record")] = match c with | .recd => true | _ => false := by
  have f : ∀ (z : Str) (r : List Dt), (z == Str.ofString "record") = false → Dt.eqbs (.str z :: r) [.str (Str.ofString "record")] = false := fun z r h => by
    rw [Dt.eqbs, Dt.eqb, h]
    rfl
  cases c with
  | null => exact f _ _ (by decide +kernel)
  | fals => exact f _ _ (by decide +kernel)
  | tru => exact f _ _ (by decide +kernel)
  | num n => exact f _ _ (by decide +kernel)
  | text s => exact f _ _ (by decide +kernel)
  | recd => exact eqbs_refl _
def prD (fl : Fl) (p : List Str) (k : Str) : Dt := .tup [.str k, valD fl (p ++ [k])]
theorem keys_al {K : PySem.W.Frag} {H H0 : Hp} {kvs : List (List Key × V)} {fl : Fl} (h : FlK K H kvs fl) : ∀ {bs : List Addr}, IsKeys H0 kvs bs → Al2 (PthV H0) (bs.map V.ref) (fl.map (·.1)) := by
  unfold IsKeys
  induction h with
  | nil =>
    intro bs k
    cases k
    exact .nil
  | @cons v p c kvs fl _ _ ih =>
    intro bs k
    cases k with
    | cons k1 k2 => exact .cons ⟨_, rfl, by rw [k1, kP_V]⟩ (ih k2)
/-- a list of paths as data -/
theorem dpa_paths {K : PySem.W.Frag} {H : Hp} {ys : List V} {ps : List (List Str)} (h : Al2 (PthV H) ys ps) : DpAll K H ys (ps.map fun p => PyData.tuple (p.map .str)) := by
  induction h with
  | nil => exact .nil
  | cons h1 _ ih =>
    obtain ⟨b, rfl, h2⟩ := h1
    exact .cons (.tup (SqT.of h2) (dpa_strs _)) ih
theorem lay_paths : ∀ ps : List (List Str), (∀ p ∈ ps, ∀ z ∈ p, SgT z) → PyData.canLayAll0 (ps.map fun p => PyData.tuple (p.map .str)) = true ∧ PyData.depthAll (ps.map fun p => PyData.tuple (p.map .str)) ≤ 1
  | [], _ => ⟨rfl, Nat.zero_le _⟩
  | p :: ps, h => by
    obtain ⟨a, b⟩ := lay_paths ps fun y hy => h y (List.mem_cons_of_mem _ hy)
    obtain ⟨c, d⟩ := lay_strs p (h p List.mem_cons_self)
    refine ⟨?_, ?_⟩
    · rw [List.map_cons, PyData.canLayAll0, PyData.canLay0, c, a]
      rfl
    · rw [List.map_cons, PyData.depthAll, PyData.depth, d]
      omega
theorem shaped_paths {ps : List (List Str)} (h : ∀ p ∈ ps, ∀ z ∈ p, SgT z) : SeqAt.shaped (.list (ps.map fun p => PyData.tuple (p.map .str))) = true := by
  obtain ⟨a, b⟩ := lay_paths ps h
  unfold SeqAt.shaped
  rw [PyData.canLay0, PyData.depth, a, decide_eq_true (by omega)]
  rfl
theorem eqv_paths_nil (ps : List (List Str)) : PyData.eqv (.list (ps.map fun p => PyData.tuple (p.map .str))) (.list []) = ps.isEmpty := by
  cases ps <;> simp [PyData.eqv, PyData.eqvAll]
/-- a tracked path -/
def P5 (H : Hp) (v : V) : Prop := ∃ (b : Addr) (p : List Str), v = .ref b ∧ H b = some (.tup (p.map V.str)) ∧ p.length ≤ 50
theorem P5.go {t : Addr} {H H' : Hp} (hT : Tape H t) (g : Sm t H H') {l : List V} (h : ∀ v ∈ l, P5 H v) : ∀ v ∈ l, P5 H' v := fun v hv => by
  obtain ⟨b, p, h1, h2, h3⟩ := h v hv
  obtain ⟨m, ns, x, b', c, h4, _⟩ := hT.ex
  exact ⟨b, p, h1, g _ _ (ne_of h2 h4 (fun z => by cases z)) h2, h3⟩
theorem P5.same {H H' : Hp} (g : Same H H') {l : List V} (h : ∀ v ∈ l, P5 H v) : ∀ v ∈ l, P5 H' v := fun v hv => by
  obtain ⟨b, p, h1, h2, h3⟩ := h v hv
  exact ⟨b, p, h1, g _ _ h2, h3⟩
theorem P5.snoc {H : Hp} {l : List V} {b : Addr} {p : List Str} (h : ∀ v ∈ l, P5 H v) (e : H b = some (.tup (p.map V.str))) (k : p.length ≤ 50) : ∀ v ∈ l ++ [.ref b], P5 H v := fun v hv => by
  rcases List.mem_append.mp hv with q | q
  · exact h v q
  · exact ⟨b, p, List.mem_singleton.mp q, e, k⟩
/-- the paths directly below -/
def entD (fl : Fl) (p : List Str) : List Dt := (below fl p).map fun k => ptD (p ++ [k])
end My

namespace My
open PySem L2
/-! ### the keys below a path stand in one order alone -/
def LtS (a b : Str) : Prop := ltC a.cps.toList b.cps.toList
instance (a b : Str) : Decidable (LtS a b) := by unfold LtS; exact inferInstance
theorem LtS.irrefl (a : Str) : ¬ LtS a a := ltC_irrefl _
theorem LtS.asymm {a b : Str} (h : LtS a b) : ¬ LtS b a := ltC_asymm h
theorem LtS.total {a b : Str} (h : a ≠ b) : LtS a b ∨ LtS b a := ltC_total (codes_ne h)
theorem LtS.trans {a b c : Str} (h : LtS a b) (k : LtS b c) : LtS a c := by
  unfold LtS ltC at *
  rcases h with h | ⟨h1, h2⟩ <;> rcases k with k | ⟨k1, k2⟩
  · exact .inl (by omega)
  · exact .inl (by omega)
  · exact .inl (by omega)
  · exact .inr ⟨by omega, List.lt_trans h2 k2⟩
theorem leK_eq (a b : Str) : PySem.W.dataLe false dK a b = !decide (LtS b a) := by
  rw [PySem.W.dataLe_eq]
  show (!PySem.W.dataLt (dK b) (dK a)) = _
  by_cases h : b = a
  · subst h
    have e : PySem.W.dataLt (dK b) (dK b) = false := by
      unfold dK
      rw [PySem.W.dataLt_pair rfl rfl, eqv_int, eqv_str, decide_eq_true rfl, decide_eq_true rfl, if_pos rfl, if_pos rfl]
    rw [e, decide_eq_false (LtS.irrefl b)]
  · rw [dataLt_dK _ _ h]
    rfl
theorem srtK_sorted {ks : List Str} (nd : ks.Nodup) : (srtK ks).Pairwise LtS := by
  have h1 : (srtK ks).Pairwise fun a b => PySem.W.dataLe false dK a b = true := by
    refine List.pairwise_mergeSort (fun a b c h k => ?_) (fun a b => ?_) ks
    · rw [leK_eq, Bool.not_eq_true', decide_eq_false_iff_not] at *
      intro z
      by_cases e : a = b
      · subst e; exact k z
      · rcases LtS.total e with y | y
        · exact k (z.trans y)
        · exact h y
    · rw [leK_eq, leK_eq]
      by_cases z : LtS b a
      · rw [decide_eq_false (p := LtS a b) z.asymm]; simp
      · rw [decide_eq_false z]; simp
  have h2 : (srtK ks).Nodup := (List.mergeSort_perm ks _).nodup_iff.mpr nd
  refine (h1.and h2).imp fun {a b} h => ?_
  obtain ⟨h3, h4⟩ := h
  rw [leK_eq, Bool.not_eq_true', decide_eq_false_iff_not] at h3
  exact (LtS.total h4).resolve_right h3
theorem srt_unique : ∀ {l m : List Str}, l.Pairwise LtS → m.Pairwise LtS → (∀ k, k ∈ l ↔ k ∈ m) → l = m
  | [], [], _, _, _ => rfl
  | [], b :: m, _, _, h => absurd ((h b).mpr List.mem_cons_self) (by simp)
  | a :: l, [], _, _, h => absurd ((h a).mp List.mem_cons_self) (by simp)
  | a :: l, b :: m, hl, hm, h => by
    rw [List.pairwise_cons] at hl hm
    have e : a = b := by
      rcases List.mem_cons.mp ((h a).mp List.mem_cons_self) with e | e
      · exact e
      rcases List.mem_cons.mp ((h b).mpr List.mem_cons_self) with e2 | e2
      · exact e2.symm
      · exact absurd (hl.1 b e2) (hm.1 a e).asymm
    subst e
    rw [srt_unique hl.2 hm.2 fun k => ?_]
    have := h k
    rw [List.mem_cons, List.mem_cons] at this
    constructor
    · intro z
      rcases this.mp (.inr z) with e | e
      · subst e; exact absurd (hl.1 _ z) (LtS.irrefl _)
      · exact e
    · intro z
      rcases this.mpr (.inr z) with e | e
      · subst e; exact absurd (hm.1 _ z) (LtS.irrefl _)
      · exact e
theorem keysB_nd {fl : Fl} (nd : (fl.map (·.1)).Nodup) (p : List Str) : (keysB fl p).Nodup := by
  unfold keysB
  have h1 : ((fl.filter (isBelow p)).map (·.1)).Nodup := nd.sublist (List.Sublist.map _ List.filter_sublist)
  rw [List.nodup_iff_pairwise_ne, List.pairwise_map] at h1 ⊢
  refine h1.imp_of_mem fun {x y} hx hy h e => h ?_
  obtain ⟨k, ek⟩ := (isBelow_iff p x).mp (List.mem_filter.mp hx).2
  obtain ⟨j, ej⟩ := (isBelow_iff p y).mp (List.mem_filter.mp hy).2
  rw [ek, ej, lastS_snoc, lastS_snoc] at e
  rw [ek, ej, e]
theorem below_sorted {fl : Fl} (nd : (fl.map (·.1)).Nodup) (p : List Str) : (below fl p).Pairwise LtS := srtK_sorted (keysB_nd nd p)
theorem below_of {fl : Fl} (nd : (fl.map (·.1)).Nodup) {p : List Str} {l : List Str} (hl : l.Pairwise LtS) (h : ∀ k, k ∈ l ↔ ∃ c, getF fl (p ++ [k]) = some c) : below fl p = l :=
  srt_unique (below_sorted nd p) hl fun k => by rw [mem_below, h]
theorem below_congr {fl fl' : Fl} (nd : (fl.map (·.1)).Nodup) (nd' : (fl'.map (·.1)).Nodup) {p : List Str} (h : ∀ k, getF fl (p ++ [k]) = getF fl' (p ++ [k])) : below fl p = below fl' p :=
  below_of nd (below_sorted nd' p) fun k => by rw [mem_below, h]
theorem dF_congr {fl fl' : Fl} (nd : (fl.map (·.1)).Nodup) (nd' : (fl'.map (·.1)).Nodup) : ∀ (n : Nat) (p : List Str), (∀ k r, getF fl (p ++ k :: r) = getF fl' (p ++ k :: r)) → dF n fl p = dF n fl' p
  | 0, _, _ => rfl
  | n + 1, p, h => by
    rw [dF, dF, below_congr nd nd' (fun k => h k [])]
    refine List.map_congr_left fun k _ => ?_
    rw [h k [], dF_congr nd nd' n (p ++ [k]) fun j r => ?_]
    rw [List.append_assoc]
    exact h k (j :: r)
theorem doc_congr {fl fl' : Fl} (nd : (fl.map (·.1)).Nodup) (nd' : (fl'.map (·.1)).Nodup) {p : List Str} (h : ∀ k r, getF fl (p ++ k :: r) = getF fl' (p ++ k :: r)) : doc fl p = doc fl' p := dF_congr nd nd' _ _ h
theorem valD_congr {fl fl' : Fl} (nd : (fl.map (·.1)).Nodup) (nd' : (fl'.map (·.1)).Nodup) {p : List Str} (h0 : getF fl p = getF fl' p) (h : ∀ k r, getF fl (p ++ k :: r) = getF fl' (p ++ k :: r)) : valD fl p = valD fl' p := by
  unfold valD
  rw [h0, doc_congr nd nd' h]
/-! ### one field in its place -/
def insD (ks : List Str) (f : Str → Dt) (k : Str) (d : Dt) : List Dt := (ks.filter fun j => decide (LtS j k)).map f ++ [.tup [.str k, d]] ++ (ks.filter fun j => decide (LtS k j)).map f
theorem ins_sorted {ks : List Str} (h : ks.Pairwise LtS) (k : Str) : ((ks.filter fun j => decide (LtS j k)) ++ [k] ++ (ks.filter fun j => decide (LtS k j))).Pairwise LtS := by
  rw [List.pairwise_append, List.pairwise_append]
  refine ⟨⟨h.sublist List.filter_sublist, List.pairwise_singleton _ _, fun a ha b hb => ?_⟩, h.sublist List.filter_sublist, fun a ha b hb => ?_⟩
  · rw [List.mem_singleton.mp hb]
    exact of_decide_eq_true (List.mem_filter.mp ha).2
  · have hb' : LtS k b := of_decide_eq_true (List.mem_filter.mp hb).2
    rcases List.mem_append.mp ha with ha | ha
    · exact (of_decide_eq_true (List.mem_filter.mp ha).2 : LtS a k).trans hb'
    · rw [List.mem_singleton.mp ha]
      exact hb'
theorem doc_ins {fl fl' : Fl} (nd : (fl.map (·.1)).Nodup) (nd' : (fl'.map (·.1)).Nodup) (h9 : ∀ q c, getF fl' q = some c → q.length ≤ 9) {b : List Str} {k : Str} (hk : ∃ c, getF fl' (b ++ [k]) = some c) (ho : ∀ j r, j ≠ k → getF fl' (b ++ j :: r) = getF fl (b ++ j :: r)) :
    doc fl' b = insD (below fl b) (prD fl b) k (valD fl' (b ++ [k])) := by
  have hb : below fl' b = ((below fl b).filter fun j => decide (LtS j k)) ++ [k] ++ ((below fl b).filter fun j => decide (LtS k j)) := by
    refine below_of nd' (ins_sorted (below_sorted nd b) k) fun j => ?_
    rw [List.mem_append, List.mem_append, List.mem_filter, List.mem_filter, List.mem_singleton, decide_eq_true_iff, decide_eq_true_iff, mem_below]
    by_cases e : j = k
    · subst e
      exact ⟨fun _ => hk, fun _ => .inl (.inr rfl)⟩
    · rw [ho j [] e]
      constructor
      · rintro ((h | h) | h)
        · exact h.1
        · exact absurd h e
        · exact h.1
      · intro h
        rcases LtS.total e with z | z
        · exact .inl (.inl ⟨h, z⟩)
        · exact .inr ⟨h, z⟩
  have pr : ∀ j, j ≠ k → prD fl' b j = prD fl b j := fun j e => by
    unfold prD
    rw [valD_congr nd' nd (ho j [] e) fun i r => by rw [List.append_assoc]; exact ho j (i :: r) e]
  rw [doc_eq h9, hb]
  show List.map (prD fl' b) _ = _
  rw [List.map_append, List.map_append]
  unfold insD
  congr 1
  · congr 1
    exact List.map_congr_left fun j hj => pr j fun e => by
      subst e
      exact LtS.irrefl _ (of_decide_eq_true (List.mem_filter.mp hj).2)
  · exact List.map_congr_left fun j hj => pr j fun e => by
      subst e
      exact LtS.irrefl _ (of_decide_eq_true (List.mem_filter.mp hj).2)
/-! ### set and removed -/
theorem set_other (fl : Fl) (b : List Str) (k : Str) (r : List Str) (c : Sc) (j : Str) (s : List Str) (h : j ≠ k) : getF (setF fl (b ++ k :: r) c) (b ++ j :: s) = getF fl (b ++ j :: s) := by
  have n1 : ¬ b ++ j :: s = b ++ k :: r := fun e => by
    have := List.append_cancel_left e
    injection this with e1
    exact h e1
  have n2 : ∀ n, ¬ (b ++ k :: r).take n = b ++ j :: s := fun n e => by
    have hl : b.length < n := by
      have := congrArg List.length e
      simp at this
      omega
    rw [List.take_append, List.take_of_length_le (by omega)] at e
    have := List.append_cancel_left e
    obtain ⟨m, hm⟩ : ∃ m, n - b.length = m + 1 := ⟨n - b.length - 1, by omega⟩
    rw [hm, List.take_succ_cons] at this
    injection this with e1
    exact h e1.symm
  have n3 : ∀ n, ¬ (b ++ j :: s).take n = b ++ k :: r := fun n e => by
    have hl : b.length < n := by
      have := congrArg List.length e
      simp at this
      omega
    rw [List.take_append, List.take_of_length_le (by omega)] at e
    have := List.append_cancel_left e
    obtain ⟨m, hm⟩ : ∃ m, n - b.length = m + 1 := ⟨n - b.length - 1, by omega⟩
    rw [hm, List.take_succ_cons] at this
    injection this with e1
    exact h e1
  rw [getF_set, if_neg n1, if_neg (fun z => n2 _ z.2.2.symm), if_neg (n3 _)]
theorem cut_other (fl : Fl) (b : List Str) (k : Str) (r : List Str) (j : Str) (s : List Str) (h : j ≠ k) : getF (cutF fl (b ++ k :: r)) (b ++ j :: s) = getF fl (b ++ j :: s) := by
  have n3 : ∀ n, ¬ (b ++ j :: s).take n = b ++ k :: r := fun n e => by
    have hl : b.length < n := by
      have := congrArg List.length e
      simp at this
      omega
    rw [List.take_append, List.take_of_length_le (by omega)] at e
    have := List.append_cancel_left e
    obtain ⟨m, hm⟩ : ∃ m, n - b.length = m + 1 := ⟨n - b.length - 1, by omega⟩
    rw [hm, List.take_succ_cons] at this
    injection this with e1
    exact h e1
  rw [getF_cut, if_neg (n3 _)]
theorem set_first (fl : Fl) (b : List Str) (k : Str) (r : List Str) (c : Sc) : getF (setF fl (b ++ k :: r) c) (b ++ [k]) = some (if r = [] then c else .recd) := by
  rw [getF_set]
  by_cases e : r = []
  · subst e
    rw [if_pos rfl, if_pos rfl]
  · have l1 : 0 < r.length := List.length_pos_iff.mpr e
    rw [if_neg (fun z => e (by have := List.append_cancel_left z; injection this with _ e2; exact e2.symm)), if_neg e, if_pos]
    refine ⟨by simp, by simp; omega, ?_⟩
    rw [List.take_append, List.take_of_length_le (by simp)]
    simp
/-- the fields of what a path holds -/
theorem valD_fields {fl : Fl} (up : Up fl) {p : List Str} (hp : p ≠ []) : valD fl p = .tup [.str (Str.ofString "record"), .tup (doc fl p)] ∨ ((valD fl p = .non ∨ ∃ c, c ≠ .recd ∧ valD fl p = .tup (scD c)) ∧ doc fl p = []) := by
  cases h : getF fl p with
  | none =>
    refine .inr ⟨.inl (valD_none h), ?_⟩
    rw [doc_eq up.nine, up.below hp (by rw [h]; exact fun z => by cases z)]
    rfl
  | some c =>
    by_cases n : c = .recd
    · subst n
      exact .inl (valD_recd h)
    · refine .inr ⟨.inr ⟨c, n, valD_sc h n⟩, ?_⟩
      rw [doc_eq up.nine, up.below hp (by rw [h]; exact fun z => n (Option.some.inj z))]
      rfl
theorem nd_set {fl : Fl} (h : (fl.map (·.1)).Nodup) (p : List Str) (c : Sc) : ((setF fl p c).map (·.1)).Nodup := nd_put (nd_ups (nd_cut h _) _ _) _ _
theorem nine_set {fl : Fl} (h : ∀ q c, getF fl q = some c → q.length ≤ 9) {p : List Str} (hp : p.length ≤ 9) (c : Sc) : ∀ q d, getF (setF fl p c) q = some d → q.length ≤ 9 := fun q d e => by
  rw [getF_set] at e
  by_cases z : q = p
  · rw [z]; exact hp
  · rw [if_neg z] at e
    by_cases y : 1 ≤ q.length ∧ q.length < p.length ∧ q = p.take q.length
    · omega
    · rw [if_neg y] at e
      by_cases x : q.take p.length = p
      · rw [if_pos x] at e; cases e
      · rw [if_neg x] at e
        exact h q d e
theorem nine_cut {fl : Fl} (h : ∀ q c, getF fl q = some c → q.length ≤ 9) (p : List Str) : ∀ q d, getF (cutF fl p) q = some d → q.length ≤ 9 := fun q d e => by
  rw [getF_cut] at e
  by_cases x : q.take p.length = p
  · rw [if_pos x] at e; cases e
  · rw [if_neg x] at e
    exact h q d e
theorem below_lens {fl : Fl} (h : ∀ x ∈ fl, ∀ k ∈ x.1, k.length ≤ 1000) (p : List Str) : ∀ j ∈ below fl p, j.length ≤ 1000 := fun j hj => by
  obtain ⟨c, hc⟩ := mem_below.mp hj
  exact h _ (getF_mem hc) j (by simp)
theorem cut_first {fl : Fl} {b : List Str} {k : Str} {r : List Str} (h : r ≠ []) : getF (cutF fl (b ++ k :: r)) (b ++ [k]) = getF fl (b ++ [k]) := by
  have l1 : 0 < r.length := List.length_pos_iff.mpr h
  rw [getF_cut, if_neg]
  intro e
  have := congrArg List.length e
  rw [List.length_take, List.length_append, List.length_append, List.length_cons, List.length_cons, List.length_nil] at this
  omega
theorem doc_del {fl : Fl} (nd : (fl.map (·.1)).Nodup) (h9 : ∀ q c, getF fl q = some c → q.length ≤ 9) (b : List Str) (k : Str) : doc (cutF fl (b ++ [k])) b = ((below fl b).filter fun j => !decide (j = k)).map (prD fl b) := by
  have nd' := nd_cut nd (b ++ [k])
  have hb : below (cutF fl (b ++ [k])) b = (below fl b).filter fun j => !decide (j = k) := by
    refine below_of nd' ((below_sorted nd b).sublist List.filter_sublist) fun j => ?_
    rw [List.mem_filter, mem_below]
    by_cases e : j = k
    · subst e
      rw [getF_cut, if_pos (by rw [List.take_of_length_le (Nat.le_refl _)])]
      simp
    · rw [cut_other fl b k [] j [] e]
      simp [e]
  rw [doc_eq (nine_cut h9 _), hb]
  refine List.map_congr_left fun j hj => ?_
  have e : j ≠ k := by simpa using (List.mem_filter.mp hj).2
  unfold prD
  rw [valD_congr nd' nd (cut_other fl b k [] j [] e) fun i r => by rw [List.append_assoc]; exact cut_other fl b k [] j (i :: r) e]
theorem doc_kept {fl : Fl} (up : Up fl) (nd : (fl.map (·.1)).Nodup) {b : List Str} {k : Str} {r : List Str} (hr : r ≠ []) (hn : getF fl (b ++ [k]) ≠ some .recd) : doc (cutF fl (b ++ k :: r)) b = doc fl b := by
  refine doc_congr (nd_cut nd _) nd fun j s => ?_
  by_cases e : j = k
  · subst e
    rw [getF_cut]
    by_cases z : (b ++ j :: s).take (b ++ j :: r).length = b ++ j :: r
    · rw [if_pos z]
      cases g : getF fl (b ++ j :: s) with
      | none => rfl
      | some c =>
        have l1 : 0 < r.length := List.length_pos_iff.mpr hr
        have l2 := congrArg List.length z
        rw [List.length_take, List.length_append, List.length_append, List.length_cons, List.length_cons] at l2
        have := up.up _ c g (b.length + 1) (by omega) (by rw [List.length_append, List.length_cons]; omega)
        rw [List.take_append, List.take_of_length_le (by omega), show b.length + 1 - b.length = 1 by omega] at this
        exact absurd this hn
    · rw [if_neg z]
  · exact cut_other fl b k r j s e
end My

namespace My
open PySem L2
/-! ### plain data as data of the model's own == -/
mutual
def Dt.py : Dt → PyData
  | .non => .none
  | .bl b => .bool b
  | .int i => .int i
  | .str s => .str s
  | .tup xs => .tuple (Dt.pys xs)
def Dt.pys : List Dt → List PyData
  | [] => []
  | d :: ds => d.py :: Dt.pys ds
end
mutual
def Dt.lay : Dt → Bool
  | .str s => PyData.strOk s
  | .tup xs => Dt.lays xs
  | _ => true
def Dt.lays : List Dt → Bool
  | [] => true
  | d :: ds => d.lay && Dt.lays ds
end
mutual
theorem DT.dp {K : PySem.W.Frag} {H : Hp} : ∀ (d : Dt) (v : V), DT K H v d → Dp K H v d.py
  | .non, _, h => by cases h; exact .non
  | .bl b, _, h => by cases h; exact .bl _
  | .int b, _, h => by cases h; exact .int _
  | .str b, _, h => by cases h; exact .str _
  | .tup ds, _, h => by
    cases h with
    | tup h1 h2 => exact .tup h1 (DTs.dps ds _ h2)
theorem DTs.dps {K : PySem.W.Frag} {H : Hp} : ∀ (ds : List Dt) (vs : List V), DTs K H vs ds → DpAll K H vs (Dt.pys ds)
  | [], _, h => by cases h; exact .nil
  | d :: ds, _, h => by
    cases h with
    | cons h1 h2 => exact .cons (DT.dp d _ h1) (DTs.dps ds _ h2)
end
mutual
theorem lay_py : ∀ d : Dt, d.lay = true → d.py.canLay0 = true
  | .non, _ => by rw [Dt.py, PyData.canLay0]
  | .bl b, _ => by rw [Dt.py, PyData.canLay0]
  | .int b, _ => by rw [Dt.py, PyData.canLay0]
  | .str b, h => by rw [Dt.py, PyData.canLay0]; exact h
  | .tup ds, h => by
    rw [Dt.py, PyData.canLay0]
    exact lays_py ds (by rw [Dt.lay] at h; exact h)
theorem lays_py : ∀ ds : List Dt, Dt.lays ds = true → PyData.canLayAll0 (Dt.pys ds) = true
  | [], _ => by rw [Dt.pys, PyData.canLayAll0]
  | d :: ds, h => by
    rw [Dt.lays, Bool.and_eq_true] at h
    rw [Dt.pys, PyData.canLayAll0, lay_py d h.1, lays_py ds h.2]
    rfl
end
mutual
theorem depth_py : ∀ d : Dt, d.py.depth ≤ d.deep
  | .non => by rw [Dt.py, PyData.depth]; exact Nat.zero_le _
  | .bl b => by rw [Dt.py, PyData.depth]; exact Nat.zero_le _
  | .int b => by rw [Dt.py, PyData.depth]; exact Nat.zero_le _
  | .str b => by rw [Dt.py, PyData.depth]; exact Nat.zero_le _
  | .tup ds => by
    have := depths_py ds
    rw [Dt.py, PyData.depth, Dt.deep]
    omega
theorem depths_py : ∀ ds : List Dt, PyData.depthAll (Dt.pys ds) ≤ Dt.deeps ds
  | [] => by rw [Dt.pys, PyData.depthAll]; exact Nat.zero_le _
  | d :: ds => by
    have h1 := depth_py d
    have h2 := depths_py ds
    rw [Dt.pys, PyData.depthAll, Dt.deeps]
    omega
end
theorem shaped_dt {d : Dt} (h : d.lay = true) (k : d.deep ≤ 60) : SeqAt.shaped d.py = true := by
  unfold SeqAt.shaped
  rw [lay_py d h, decide_eq_true (by have := depth_py d; omega)]
  rfl
theorem shaped_dts {ds : List Dt} (h : Dt.lays ds = true) (k : Dt.deeps ds ≤ 60) : SeqAt.shaped (.list (Dt.pys ds)) = true := by
  unfold SeqAt.shaped
  have := depths_py ds
  rw [PyData.canLay0, lays_py ds h, PyData.depth, decide_eq_true (by omega)]
  rfl
theorem lays_of {ds : List Dt} (h : ∀ d ∈ ds, d.lay = true) : Dt.lays ds = true := by
  induction ds with
  | nil => rw [Dt.lays]
  | cons d ds ih => rw [Dt.lays, h d List.mem_cons_self, ih fun x hx => h x (List.mem_cons_of_mem _ hx)]; rfl
theorem lay_sc {c : Sc} (h : scOk c) : (Dt.tup (scD c)).lay = true := by
  cases c with
  | num n =>
    have e : PyData.strOk (Str.ofString "number") = true := by decide +kernel
    rw [Dt.lay, scD, Dt.lays, Dt.lays, Dt.lays, Dt.lay, Dt.lay, e]
    · rfl
    all_goals intros; contradiction
  | text z =>
    have e : PyData.strOk (Str.ofString "text") = true := by decide +kernel
    rw [Dt.lay, scD, Dt.lays, Dt.lays, Dt.lays, Dt.lay, Dt.lay, e, strOk_sg h.2]
    rfl
  | _ => decide +kernel
theorem pys_map : ∀ ds : List Dt, Dt.pys ds = ds.map Dt.py
  | [] => rfl
  | d :: ds => by rw [Dt.pys, pys_map ds, List.map_cons]
theorem eqv_nil (ds : List Dt) : PyData.eqv (.list (Dt.pys ds)) (.list []) = ds.isEmpty := by
  cases ds with
  | nil => rfl
  | cons d ds => rfl
section
variable {K : PySem.W.Frag} {H : Hp} {a b : Addr} {vs : List V} {ds : List Dt} {Q : VK}
theorem ne_nil (h : SqL K H a vs) (k : DTs K H vs ds) (hl : Dt.lays ds = true) (hd : Dt.deeps ds ≤ 60) (hb : SqL K H b []) (q : Q (.bl (!ds.isEmpty)) H) : rNeD K (.ref a) (.ref b) H Q :=
  ⟨.list (Dt.pys ds), .list [], .lst h (DTs.dps ds vs k), .lst hb .nil, shaped_dts hl hd, by decide +kernel, by rw [eqv_nil]; exact q⟩
theorem eq_nil (h : SqL K H a vs) (k : DTs K H vs ds) (hl : Dt.lays ds = true) (hd : Dt.deeps ds ≤ 60) (hb : SqL K H b []) (q : Q (.bl ds.isEmpty) H) : rEqD K (.ref a) (.ref b) H Q :=
  ⟨.list (Dt.pys ds), .list [], .lst h (DTs.dps ds vs k), .lst hb .nil, shaped_dts hl hd, by decide +kernel, by rw [eqv_nil]; exact q⟩
end
theorem DTs.lput {K : PySem.W.Frag} {H : Hp} {D : Addr} {acc : List V} {o : HO} {vs : List V} {ds : List Dt} (nb : H D = some (.lst acc)) (h : DTs K H vs ds) : DTs K (upd H D o) vs ds :=
  DTs.mono (fun _ _ h => seqT_put nb (fun _ z => by cases z) (fun _ _ z => by cases z) h) _ _ h
theorem DT.lput {K : PySem.W.Frag} {H : Hp} {D : Addr} {acc : List V} {o : HO} {v : V} {d : Dt} (nb : H D = some (.lst acc)) (h : DT K H v d) : DT K (upd H D o) v d :=
  DT.mono (fun _ _ h => seqT_put nb (fun _ z => by cases z) (fun _ _ z => by cases z) h) _ _ h
/-- an item of data -/
theorem DTs.mem {K : PySem.W.Frag} {H : Hp} {α : Type} {f : α → Dt} {vs : List V} {bs : List α} (h : DTs K H vs (bs.map f)) {v : V} (hv : v ∈ vs) : ∃ b ∈ bs, DT K H v (f b) := by
  obtain ⟨iv, ei⟩ := List.getElem?_of_mem hv
  obtain ⟨d, ed, dv⟩ := h.get' ei
  obtain ⟨c, hm, rfl⟩ := List.mem_map.mp (List.mem_of_getElem? ed)
  exact ⟨c, hm, dv⟩
theorem DTs.perm {K : PySem.W.Frag} {H : Hp} {α : Type} {f : α → Dt} {vs us : List V} (pm : us.Perm vs) : ∀ {bs : List α}, DTs K H vs (bs.map f) → ∃ cs : List α, cs.Perm bs ∧ DTs K H us (cs.map f) := by
  induction pm with
  | nil => exact fun {bs} h => ⟨bs, .refl _, h⟩
  | @cons x l1 l2 _ ih =>
    intro bs h
    cases bs with
    | nil => cases h
    | cons b bs =>
      cases h with
      | cons h1 h2 =>
        obtain ⟨cs, p, k⟩ := ih h2
        exact ⟨b :: cs, p.cons b, .cons h1 k⟩
  | swap x y l =>
    intro bs h
    cases bs with
    | nil => cases h
    | cons b bs =>
      cases bs with
      | nil => cases h with | cons h1 h2 => cases h2
      | cons c bs =>
        cases h with
        | cons h1 h2 => cases h2 with | cons h2 h3 => exact ⟨c :: b :: bs, .swap _ _ _, .cons h2 (.cons h1 h3)⟩
  | trans p1 p2 ih1 ih2 =>
    intro bs h
    obtain ⟨cs, q1, k1⟩ := ih2 h
    obtain ⟨es, q2, k2⟩ := ih1 k1
    exact ⟨es, q2.trans q1, k2⟩
theorem num_sg (n : Int) : SgT (Str.ofString (toString n)) := by
  have nat : ∀ m : Nat, SgT (Str.ofString (toString (m : Int))) := fun m c hc => by
    have e : (Str.ofString (toString (m : Int))).cps.toList = TL.numL m := TL.tl_num m
    rw [e] at hc
    have := TL.numL_digits m c hc
    exact ⟨by omega, by omega, by omega⟩
  rcases n with m | m
  · exact nat m
  · have e : toString (Int.negSucc m) = "-" ++ toString (m + 1) := rfl
    rw [e, ofString_app]
    refine SgT.app (fun c hc => ?_) ?_
    · have : ∀ c ∈ (Str.ofString "-").cps.toList, Sg c := by decide +kernel
      exact this c hc
    have := nat (m + 1)
    exact this
end My

namespace My
open PySem L2
/-! ### tests of scalars -/
inductive Ts where | eq (c : Sc) | lt (n : Int) | gt (n : Int)
def tsD : Ts → List Dt
  | .eq c => [.str (Str.ofString "="), .tup (scD c)]
  | .lt n => [.str (Str.ofString "<"), .int n]
  | .gt n => [.str (Str.ofString ">"), .int n]
def tsT (t : Ts) : Dt := .tup (tsD t)
def passB : Ts → Sc → Bool
  | .eq d, c => Dt.eqbs (scD c) (scD d)
  | .lt n, .num m => decide (m < n)
  | .gt n, .num m => decide (n < m)
  | _, _ => false
/-- within the bounds that are drawn -/
def scN : Sc → Prop
  | .num n => -999999 ≤ n ∧ n ≤ 999999
  | .text s => s.length ≤ 60 ∧ SgT s
  | .recd => False
  | _ => True
def tsN : Ts → Prop
  | .eq c => scN c
  | .lt n => -999999 ≤ n ∧ n ≤ 999999
  | .gt n => -999999 ≤ n ∧ n ≤ 999999
theorem scN.ok {c : Sc} (h : scN c) : scOk c := by
  cases c with
  | num n => exact ⟨by have := h.1; omega, by have := h.2; omega⟩
  | text s => exact h
  | recd => exact trivial
  | _ => trivial
def tsW : Ts → Str
  | .eq _ => Str.ofString "="
  | .lt _ => Str.ofString "<"
  | .gt _ => Str.ofString ">"
theorem ts_tup {K : PySem.W.Frag} {H : Hp} {v : V} {t : Ts} (h : DT K H v (tsT t)) : ∃ a u, v = .ref a ∧ SqT K H a [.str (tsW t), u] ∧ (∀ c, t = .eq c → DT K H u (.tup (scD c))) ∧ (∀ n, t = .lt n → u = .int n) ∧ (∀ n, t = .gt n → u = .int n) := by
  unfold tsT at h
  cases h with
  | @tup a xs _ h1 h2 =>
  cases t with
  | eq c => cases h2 with | cons x1 x2 => cases x1; cases x2 with | cons y1 y2 => cases y2; exact ⟨a, _, rfl, h1, (fun d e => by cases e; exact y1), (fun n e => by cases e), (fun n e => by cases e)⟩
  | lt n => cases h2 with | cons x1 x2 => cases x1; cases x2 with | cons y1 y2 => cases y2; cases y1; exact ⟨a, _, rfl, h1, (fun d e => by cases e), (fun m e => by cases e; rfl), (fun n e => by cases e)⟩
  | gt n => cases h2 with | cons x1 x2 => cases x1; cases x2 with | cons y1 y2 => cases y2; cases y1; exact ⟨a, _, rfl, h1, (fun d e => by cases e), (fun n e => by cases e), (fun m e => by cases e; rfl)⟩
theorem deeps_scD (c : Sc) : Dt.deeps (scD c) ≤ 60 := by
  cases c with
  | num n => show 1 ≤ 60; decide
  | text n => show 1 ≤ 60; decide
  | _ => decide
theorem lay_ts {t : Ts} (h : tsN t) : (tsT t).lay = true := by
  cases t with
  | eq c =>
    have e : PyData.strOk (Str.ofString "=") = true := by decide +kernel
    rw [tsT, tsD, Dt.lay, Dt.lays, Dt.lays, Dt.lays, Dt.lay, e, lay_sc h.ok]
    rfl
  | lt n =>
    have e : PyData.strOk (Str.ofString "<") = true := by decide +kernel
    rw [tsT, tsD, Dt.lay, Dt.lays, Dt.lays, Dt.lays, Dt.lay, e, Dt.lay]
    · rfl
    all_goals intros; contradiction
  | gt n =>
    have e : PyData.strOk (Str.ofString ">") = true := by decide +kernel
    rw [tsT, tsD, Dt.lay, Dt.lays, Dt.lays, Dt.lays, Dt.lay, e, Dt.lay]
    · rfl
    all_goals intros; contradiction
theorem deep_ts (t : Ts) : (tsT t).deep ≤ 3 := by
  cases t with
  | eq c =>
    have := deep_scD c
    rw [tsT, tsD, deep_pair]
    show max 1 _ + 1 ≤ 3
    omega
  | lt n => show 2 ≤ 3; decide
  | gt n => show 2 ≤ 3; decide
theorem DTs.bools {K : PySem.W.Frag} {H : Hp} (f : Ts → Bool) : ∀ us : List Ts, DTs K H (us.map fun t => .bl (f t)) (us.map fun t => .bl (f t))
  | [] => .nil
  | u :: us => .cons (.bl _) (DTs.bools f us)
/-- the same tests are passed -/
def likeB (ts : List Ts) (c d : Sc) : Bool := ts.all fun t => decide (passB t c = passB t d)
theorem likeB_comm (ts : List Ts) (c d : Sc) : likeB ts c d = likeB ts d c := by
  unfold likeB
  congr 1
  funext t
  exact decide_eq_decide.mpr ⟨Eq.symm, Eq.symm⟩
theorem likeB_perm {ts us : List Ts} (h : ts.Perm us) (c d : Sc) : likeB ts c d = likeB us c d := by
  unfold likeB
  rw [Bool.eq_iff_iff, List.all_eq_true, List.all_eq_true]
  exact ⟨fun k t ht => k t (h.mem_iff.mpr ht), fun k t ht => k t (h.mem_iff.mp ht)⟩
theorem bools_eq (f g : Ts → Bool) : ∀ ts : List Ts, PyData.eqvAll (ts.map fun t => .bool (f t)) (ts.map fun t => .bool (g t)) = ts.all fun t => decide (f t = g t)
  | [] => rfl
  | t :: ts => by
    rw [List.map_cons, List.map_cons, PyData.eqvAll, bools_eq f g ts, List.all_cons]
    rfl
end My

namespace My
open PySem L2
def topS (i : Nat) : Stmt := PySem.Challenge.pw_hookcheck_k38_tests.main.body.getD i (.Pass ⟨0, 0, 0, 0⟩)
abbrev s_passes : Stmt := topS 1
abbrev s_alike : Stmt := topS 2
abbrev s_law_tape : Stmt := topS 4
abbrev s_law_draw : Stmt := topS 5
abbrev s_law_pick : Stmt := topS 6
abbrev s_law_shuffled : Stmt := topS 7
abbrev s_law_same : Stmt := topS 8
abbrev s_law_tight_text : Stmt := topS 9
abbrev s_law_scalar : Stmt := topS 10
abbrev s_law_literal : Stmt := topS 11
abbrev s_law_pass : Stmt := topS 12
abbrev s_law_passes : Stmt := topS 13
abbrev s_law_test_numbers : Stmt := topS 14
abbrev s_law_test : Stmt := topS 15
abbrev s_law_scalar_near : Stmt := topS 16
abbrev s_law : Stmt := topS 17
structure Top (K : PySem.W.Frag) (w : World) (mg : Str → Option Value) : Prop where
  z_abs : mg "abs" = none
  z_all : mg "all" = none
  z_bool : mg "bool" = none
  z_int : mg "int" = none
  z_isinstance : mg "isinstance" = none
  z_len : mg "len" = none
  z_list : mg "list" = none
  z_max : mg "max" = none
  z_range : mg "range" = none
  z_str : mg "str" = none
  z_tuple : mg "tuple" = none
section
variable {P : Program} {w : World} {K : PySem.W.Frag} {mg : Str → Option Value} {base : Heap}
/-! ### passes -/
theorem sc_passes : FnScope ["test", "scalar", "word", "bound"] ["test", "scalar"] (defScope s_passes) := ⟨rfl, rfl, rfl, by decide +kernel, rfl, by decide +kernel, by decide +kernel⟩

def sp_passes (K : PySem.W.Frag) : Sp := fun vs H Q _ => ∃ (x y : V) (t : Ts) (c : Sc), vs = [x, y] ∧ DT K H x (tsT t) ∧ DT K H y (.tup (scD c)) ∧ Q (.bl (passB t c)) H

theorem ok_passes {f : Addr} {fd : FuncData} (F : Fun K "passes" "passes" s_passes f fd) (T : Top K w mg) : FnOk P w K mg base CX0 1 f fd ["test", "scalar"] (sp_passes K) := by
  have sc := sc_passes
  refine F.ok sc (fun vs H Q E h => ?_) (fun cdv A outer s H vs Q E hr h => ?_)
  · obtain ⟨x, y, t, c, rfl, _⟩ := h
    rfl
  obtain ⟨x, y, t, c, rfl, hx, hy, q⟩ := h
  refine ⟨_, (pss_cons (ps_asg (pv 0) (pg_tup rfl (pgs_cons (pg_name (i := 2) sc.nd rfl (Or.inl rfl)) (pgs_cons (pg_name (i := 3) sc.nd rfl (Or.inl rfl)) pgs_nil))))
    (pss_cons (ps_if (pt_cmpR op_eq (pv 2) pe_str (nomark _))
      (pss_one (ps_ret (pe_cmpR (op_eqT (K := K) rfl hr.units) (pv 1) (pv 3) (nomark _))))
      pss_nil)
    (pss_cons (ps_if (pt_cmpR op_ne (pe_ix (kx_tup (K := K) rfl) (pv 1) pe_int (fun _ _ => rfl)) pe_str (nomark _))
      (pss_one (ps_ret pe_bl))
      pss_nil)
    (pss_one (ps_ret (pe_ifExp (pt_cmpR op_eq (pv 2) pe_str (nomark _)) (pe_cmpR op_lt (pe_ix (kx_tup (K := K) rfl) (pv 1) pe_int (fun _ _ => rfl)) (pv 3) (nomark _)) (pe_cmpR op_gt (pe_ix (kx_tup (K := K) rfl) (pv 1) pe_int (fun _ _ => rfl)) (pv 3) (nomark _)))))))), ?_⟩

  obtain ⟨a, u, rfl, hS, he, hl, hg⟩ := ts_tup hx
  obtain ⟨b, ys, rfl, hT, h0, hn, ht⟩ := sc_tup hy
  refine ⟨_, rfl, a, _, rfl, hS, rfl, _, _, rfl, _, _, rfl, rfl, ?_⟩
  cases t with
  | eq d =>
    refine ⟨_, rfl, rfl, _, rfl, iteT ?_⟩
    exact ⟨_, rfl, _, rfl, scD c, scD d, hy, he d rfl, deeps_scD c, q⟩
  | lt n =>
    have hu := hl n rfl
    subst hu
    refine ⟨_, rfl, rfl, _, rfl, iteF ?_⟩
    refine ⟨_, rfl, b, _, 0, _, rfl, rfl, hT, atI_nat h0, rfl, _, rfl, ?_⟩
    cases c with
    | num m => exact iteF ⟨_, rfl, rfl, _, rfl, iteT ⟨_, rfl, b, _, 1, _, rfl, rfl, hT, atI_nat (hn m rfl), _, rfl, _, _, rfl, rfl, q⟩⟩
    | text m => exact iteT q
    | _ => exact iteT q
  | gt n =>
    have hu := hg n rfl
    subst hu
    refine ⟨_, rfl, rfl, _, rfl, iteF ?_⟩
    refine ⟨_, rfl, b, _, 0, _, rfl, rfl, hT, atI_nat h0, rfl, _, rfl, ?_⟩
    cases c with
    | num m => exact iteF ⟨_, rfl, rfl, _, rfl, iteF ⟨_, rfl, b, _, 1, _, rfl, rfl, hT, atI_nat (hn m rfl), _, rfl, _, _, rfl, rfl, q⟩⟩
    | text m => exact iteT q
    | _ => exact iteT q
/-! ### alike -/
theorem sc_alike : FnScope ["tests", "first", "second", "test"] ["tests", "first", "second"] (defScope s_alike) := ⟨rfl, rfl, rfl, by decide +kernel, rfl, by decide +kernel, by decide +kernel⟩

def sp_alike (K : PySem.W.Frag) : Sp := fun vs H Q _ => ∃ (x y z : V) (ts : List Ts) (c d : Sc), vs = [x, y, z] ∧ DT K H x (.tup (ts.map tsT)) ∧ ts.length ≤ 1000000 ∧ DT K H y (.tup (scD c)) ∧ DT K H z (.tup (scD d)) ∧ ∀ H', Same H H' → Q (.bl (likeB ts c d)) H'

theorem ok_alike {f : Addr} {fd : FuncData} (F : Fun K "alike" "alike" s_alike f fd) (T : Top K w mg) {a_passes : Addr} {d_passes : FuncData} (C_passes : Cal P w K mg base "passes" 1 ["test", "scalar"] sp_passes a_passes d_passes) : FnOk P w K mg base CX0 2 f fd ["tests", "first", "second"] (sp_alike K) := by
  have sc := sc_alike
  refine F.ok sc (fun vs H Q E h => ?_) (fun cdv A outer s H vs Q E hr h => ?_)
  · obtain ⟨x, y, z, ts, c, d, rfl, _⟩ := h
    rfl
  obtain ⟨x, y, z, ts, c, d, rfl, hx, lt, hy, hz, q⟩ := h
  refine ⟨_, (pss_one (ps_ret (pe_callB (kc_all (K := K) rfl rfl) (by rfl) T.z_all (by decide +kernel) (pa_cons (pe_lc (own := [("test", 3)]) (g := gName 3) (tt := tYes) rfl sc.nd (kpi_tup (K := K) rfl (pv 0)) (blkOk_by (N := ["tests", "first", "second", "test"]) (sc := defScope s_alike) (by decide +kernel)) (fun _ _ _ _ _ => pg_name (i := 3) sc.nd rfl (Or.inl rfl)) (fun _ _ _ _ _ => pts_nil) (fun _ _ _ _ _ => (pe_cmpR op_eq (pe_call C_passes.ok (hr.mono (by omega)) (by rfl) C_passes.m C_passes.kp C_passes.b .nil pass0 (pa_cons (pv 3) (pa_cons (pv 1) pa_nil))) (pe_call C_passes.ok (hr.mono (by omega)) (by rfl) C_passes.m C_passes.kp C_passes.b .nil pass0 (pa_cons (pv 3) (pa_cons (pv 2) pa_nil))) (nomark _)))) pa_nil)))), ?_⟩

  obtain ⟨p, xs, rfl, hS, hts⟩ := dt_tup hx
  have hl : xs.length = ts.length := by rw [hts.length, List.length_map]
  refine ⟨_, rfl, p, rfl, ⟨_, hS⟩, fun D hD => ?_⟩
  refine lc_it (walk_tup (K := K) (a := p) (xs := xs)) (fun i H' => H' = upd H D (.lst ((ts.take i).map fun t => V.bl (decide (passB t c = passB t d))))) rfl (fun i H' _ e => e ▸ (same_new hD _).seqT hS) ?_ ?_
  · rintro i x H1 H2 hi rfl ⟨rfl, hx⟩
    obtain ⟨u, ed, hd⟩ := hts.get' hx
    rw [List.getElem?_map] at ed
    obtain ⟨t, et, rfl⟩ := Option.map_eq_some_iff.mp ed
    obtain ⟨hl2, ew⟩ := List.getElem?_eq_some_iff.mp et
    refine ⟨wipe_back, _, rfl, _, rfl, x, y, t, c, rfl, hd.same (same_new hD _), hy.same (same_new hD _), ?_⟩
    refine ⟨_, rfl, _, rfl, x, z, t, d, rfl, hd.same (same_new hD _), hz.same (same_new hD _), rfl, _, upd_same, ?_, ?_⟩
    · rw [List.length_map, List.length_take]
      exact lt_line (by omega)
    · rw [upd_upd, List.take_succ_eq_append_getElem hl2, ew, List.map_append]
      rw [show decide (V.bl (passB t c) = V.bl (passB t d)) = decide (passB t c = passB t d) from decide_eq_decide.mpr ⟨fun e => V.bl.inj e, fun e => by rw [e]⟩]
      rfl
  · rintro H1 rfl
    rw [hl, List.take_length]
    refine ⟨D, ts.map fun t => decide (passB t c = passB t d), rfl, SqL.of (by rw [upd_same, List.map_map]; rfl), ?_⟩
    have e : (ts.map fun t => decide (passB t c = passB t d)).all id = likeB ts c d := by
      rw [List.all_map]
      rfl
    rw [e]
    exact q _ (same_new hD _)
/-! ### _law_tape -/
theorem sc_law_tape : FnScope ["script", "total", "cell"] ["script"] (defScope s_law_tape) := ⟨rfl, rfl, rfl, by decide +kernel, rfl, by decide +kernel, by decide +kernel⟩



def sp_law_tape (K : PySem.W.Frag) : Sp := fun vs H Q _ => ∃ (a : Addr) (ns : List Int), vs = [.ref a] ∧ SqL K H a (ns.map V.int) ∧ ns.length ≤ 63 ∧ ∀ t H', Tape H' t → H t = none → Same H H' → Q (.ref t) H'

theorem ok_law_tape {f : Addr} {fd : FuncData} (F : Fun K "_law_tape" "_law_tape" s_law_tape f fd) (T : Top K w mg) : FnOk P w K mg base CX0 1 f fd ["script"] (sp_law_tape K) := by
  have sc := sc_law_tape
  refine F.ok sc (fun vs H Q E h => ?_) (fun cdv A outer s H vs Q E hr h => ?_)
  · obtain ⟨a, ns, rfl, _⟩ := h
    rfl
  obtain ⟨a, ns, rfl, hS, hn, q⟩ := h
  refine ⟨_, (pss_cons (ps_set (i := 1) sc.nd rfl (Or.inl rfl) pe_int)
    (pss_cons (ps_for PassesOwn.never rfl (kpi_list (K := K) rfl (pv 0)) (pg_name (i := 2) sc.nd rfl (Or.inl rfl))
      (pss_one (ps_set (i := 1) sc.nd rfl (Or.inl rfl) (pe_op op_modN (pe_callTy call_int1 (by rfl) T.z_int (by decide +kernel) (pa_cons (pe_op op_add (pe_op op_mul (pv 1) pe_int) (pe_callB call_abs (by rfl) T.z_abs (by decide +kernel) (pa_cons (pe_callTy call_int1 (by rfl) T.z_int (by decide +kernel) (pa_cons (pv 2) pa_nil)) pa_nil))) pa_nil)) pe_int))))
    (pss_one (ps_ret (pe_lst (pa_cons (pe_callTy (kc_list (K := K) rfl) (by rfl) T.z_list (by decide +kernel) (pa_cons (pv 0) pa_nil)) (pa_cons pe_int (pa_cons pe_int (pa_cons (pv 1) pa_nil))))))))), ?_⟩

  have hlen : (ns.map V.int).length = ns.length := List.length_map _
  refine ⟨_, rfl, a, rfl, ⟨_, hS⟩, for_list (K := K) (a := a) (xs := ns.map V.int) (fun i σ H' => H' = H ∧ ∃ (z : Int) (v : Option V), σ = [some (.ref a), some (.int z), v]) ⟨rfl, 7, none, rfl⟩ (fun i σ H' _ ⟨e, _⟩ => e ▸ hS) ?_ ?_⟩
  · rintro i y σ H' hi ⟨rfl, z, v, rfl⟩
    obtain ⟨u, rfl, _⟩ := int_get hi
    refine ⟨_, rfl, _, _, rfl, rfl, .inr ⟨by decide, by decide⟩, ?_⟩
    refine ⟨_, rfl, .inl ⟨_, rfl, _, rfl, ?_⟩⟩
    refine ⟨_, _, rfl, rfl, .inl ⟨_, rfl, _, _, rfl, rfl, (by show (2147483647 : Int) ≠ 0; decide), rfl, _, _, rfl⟩⟩
  · rintro σ H' ⟨rfl, z, v, rfl⟩
    refine ⟨_, rfl, a, _, rfl, .inl hS, fun l hl => ⟨_, rfl, ?_⟩⟩
    refine ⟨(by show 4 ≤ sizeLine; decide), fun t ht => ?_⟩
    have e1 : l ≠ t := ne_of_none upd_same ht
    refine q t _ ⟨l, ns, 0, 0, z, upd_same, by rw [upd_ne e1]; exact upd_same, e1, by omega, hn⟩ ?_ (Same.late (same_new hl _) (by rw [upd_ne e1.symm] at ht; exact ht))
    rw [upd_ne e1.symm] at ht
    exact ht
/-! ### _law_draw -/
theorem sc_law_draw : FnScope ["tape", "many", "number", "place"] ["tape", "many"] (defScope s_law_draw) := ⟨rfl, rfl, rfl, by decide +kernel, rfl, by decide +kernel, by decide +kernel⟩

def sp_law_draw (K : PySem.W.Frag) : Sp := fun vs H Q _ => ∃ (t : Addr) (m : Int), vs = [.ref t, .int m] ∧ Tape H t ∧ -(2 ^ 62) < m ∧ m < 2 ^ 62 ∧ ∀ r H', 0 ≤ r → (r < m ∨ r = 0) → Go t H H' → Q (.int r) H'

theorem ok_law_draw {f : Addr} {fd : FuncData} (F : Fun K "_law_draw" "_law_draw" s_law_draw f fd) (T : Top K w mg) : FnOk P w K mg base CX0 1 f fd ["tape", "many"] (sp_law_draw K) := by
  have sc := sc_law_draw
  refine F.ok sc (fun vs H Q E h => ?_) (fun cdv A outer s H vs Q E hr h => ?_)
  · obtain ⟨t, m, rfl, _⟩ := h
    rfl
  obtain ⟨t, m, rfl, hT, hm0, hm, q⟩ := h
  refine ⟨_, (C8.pss_cut (ps_if (pt_cmpR op_eq (pe_ix (kx_list (K := K) rfl) (pv 0) pe_int (fun _ _ => rfl)) pe_int (nomark _))
      (pss_cons (ps_set (i := 3) sc.nd rfl (Or.inl rfl) (pe_ix (kx_list (K := K) rfl) (pv 0) pe_int (fun _ _ => rfl)))
      (pss_cons (ps_set (i := 2) sc.nd rfl (Or.inl rfl) pe_int)
      (C8.pss_cut (ps_if (pt_cmpR op_lt (pv 3) (pe_callB (kc_lenS (K := K) rfl) (by rfl) T.z_len (by decide +kernel) (pa_cons (pe_ix (kx_list (K := K) rfl) (pv 0) pe_int (fun _ _ => rfl)) pa_nil)) (nomark _))
        (pss_one (ps_set (i := 2) sc.nd rfl (Or.inl rfl) (pe_callB call_abs (by rfl) T.z_abs (by decide +kernel) (pa_cons (pe_callTy call_int1 (by rfl) T.z_int (by decide +kernel) (pa_cons (pe_ix (kx_list (K := K) rfl) (pe_ix (kx_list (K := K) rfl) (pv 0) pe_int (fun _ _ => rfl)) (pv 3) (fun _ _ => rfl)) pa_nil)) pa_nil))))
        (pss_cons (ps_asg (pe_op op_modN (pe_callTy call_int1 (by rfl) T.z_int (by decide +kernel) (pa_cons (pe_op op_add (pe_op op_add (pe_op op_mul (pe_ix (kx_list (K := K) rfl) (pv 0) pe_int (fun _ _ => rfl)) pe_int) (pv 3)) pe_int) pa_nil)) pe_int) (pg_sub (pv 0) pe_int set_list))
        (pss_one (ps_set (i := 2) sc.nd rfl (Or.inl rfl) (pe_ix (kx_list (K := K) rfl) (pv 0) pe_int (fun _ _ => rfl))))))
      (pss_cons (ps_asg (pe_op op_add (pv 3) pe_int) (pg_sub (pv 0) pe_int set_list))
      (pss_cons (ps_if (pt_cmpR op_lt (pv 2) (pe_op op_pow pe_int pe_int) (nomark _))
        (pss_cons (ps_set (i := 2) sc.nd rfl (Or.inl rfl) (pe_op op_modN (pe_callTy call_int1 (by rfl) T.z_int (by decide +kernel) (pa_cons (pe_op op_add (pe_op op_add (pe_op op_mul (pv 2) pe_int) (pe_op op_mul (pv 3) pe_int)) pe_int) pa_nil)) pe_int))
        (pss_cons (ps_set (i := 2) sc.nd rfl (Or.inl rfl) (pe_op op_modN (pe_callTy call_int1 (by rfl) T.z_int (by decide +kernel) (pa_cons (pe_op op_mul (pv 2) pe_int) pa_nil)) pe_int))
        (pss_one (ps_ret (pe_op op_modN (pe_callTy call_int1 (by rfl) T.z_int (by decide +kernel) (pa_cons (pv 2) pa_nil)) (pe_callB (call_max2 rfl) (by rfl) T.z_max (by decide +kernel) (pa_cons (pv 1) (pa_cons pe_int pa_nil))))))))
        pss_nil)
      (pss_one (ps_asg (pv 2) (pg_sub (pv 0) pe_int set_list))))))))
      pss_nil)
    (pss_cons (ps_set (i := 2) sc.nd rfl (Or.inl rfl) (pe_ix (kx_list (K := K) rfl) (pv 0) pe_int (fun _ _ => rfl)))
    (pss_cons (ps_asg (pe_op op_fdivW (pv 2) (pe_callB (call_max2 rfl) (by rfl) T.z_max (by decide +kernel) (pa_cons (pv 1) (pa_cons pe_int pa_nil)))) (pg_sub (pv 0) pe_int set_list))
    (pss_one (ps_ret (pe_op op_modN (pe_callTy call_int1 (by rfl) T.z_int (by decide +kernel) (pa_cons (pv 2) pa_nil)) (pe_callB (call_max2 rfl) (by rfl) T.z_max (by decide +kernel) (pa_cons (pv 1) (pa_cons pe_int pa_nil))))))))), ?_⟩

  obtain ⟨l, ns, a, b, c, h1, h2, h3, h4, h5⟩ := hT.ex
  have hlen : (ns.map V.int).length = ns.length := List.length_map _
  have hmax : (if (1 : Int) > m then 1 else m) ≠ 0 := by split <;> omega
  have last : ∀ (n : Int) (H' : Hp), Go t H H' → Q (.int (n.fmod (if (1 : Int) > m then 1 else m))) H' := fun n H' g => by
    have e := fmod_in (a := n) (m := if (1 : Int) > m then 1 else m) (by split <;> omega)
    refine q _ _ e.1 ?_ g
    have e2 := e.2
    split at e2 <;> omega
  refine ⟨fun σ H' => Go t H H' ∧ ∃ v1 v2, σ = [some (.ref t), some (.int m), v1, v2], ?_, ?_⟩
  · refine ⟨_, rfl, t, _, 2, _, rfl, rfl, SqL.of h1, rfl, rfl, _, rfl, ite2 (fun c1 => ?_) (fun c1 => ⟨Go.refl hT, _, _, rfl⟩)⟩
    refine ⟨_, rfl, t, _, 1, _, rfl, rfl, SqL.of h1, rfl, ?_⟩
    refine ⟨fun σ H' => (∃ c', H' t = some (.lst [.ref l, .int a, .int b, .int c']) ∧ Sm t H H') ∧ ∃ n : Int, σ = [some (.ref t), some (.int m), some (.int n), some (.int a)], ?_, ?_⟩
    · refine ⟨_, rfl, _, rfl, t, _, 0, _, rfl, rfl, SqL.of h1, rfl, l, _, rfl, .inl (SqL.of h2), _, _, rfl, rfl, _, rfl, ite2 (fun c2 => ?_) (fun c2 => ?_)⟩
      · have c2' : a < ((ns.map V.int).length : Int) := of_decide_eq_true c2
        rw [hlen] at c2'
        have hx : (ns.map V.int)[a.toNat]? = some (.int ns[a.toNat]) := by
          rw [List.getElem?_map, List.getElem?_eq_getElem (by omega)]; rfl
        refine ⟨_, rfl, t, _, 0, _, rfl, rfl, SqL.of h1, rfl, _, rfl, l, _, a, _, rfl, rfl, SqL.of h2, at_of (by omega) hx, ?_⟩
        exact .inl ⟨_, rfl, _, rfl, ⟨c, h1, Sm.refl _ _⟩, _, rfl⟩
      · refine ⟨_, rfl, t, _, 3, _, rfl, rfl, SqL.of h1, rfl, ?_⟩
        refine ⟨_, _, rfl, rfl, .inr ⟨by decide, by decide⟩, _, rfl, _, _, rfl, rfl, _, _, rfl, rfl, .inl ⟨_, rfl, ?_⟩⟩
        refine ⟨_, _, rfl, rfl, (by show (2147483647 : Int) ≠ 0; decide), _, rfl, t, _, 3, 3, rfl, rfl, h1, rfl, ?_⟩
        refine ⟨_, rfl, t, _, 3, _, rfl, rfl, SqL.of upd_same, rfl, ⟨_, upd_same, Sm.put⟩, _, rfl⟩
    · rintro σ H1 ⟨⟨c', e1, s1⟩, n, rfl⟩
      refine ⟨_, rfl, _, _, rfl, rfl, _, rfl, t, _, 1, 1, rfl, rfl, e1, rfl, ?_⟩
      have g1 : Go t H (upd H1 t (.lst [.ref l, .int (a + 1), .int b, .int c'])) := Go.put h1 s1 (s1 _ _ h3 h2) h3 (by omega) h5
      refine ⟨_, rfl, _, _, rfl, rfl, ⟨by decide, by decide, by decide⟩, _, _, rfl, rfl, _, rfl, ite2 (fun c2 => ?_) (fun c2 => ?_)⟩
      · refine ⟨_, rfl, _, _, rfl, rfl, .inr ⟨by decide, by decide⟩, _, rfl, _, _, rfl, rfl, .inr ⟨by decide, by decide⟩, _, _, rfl, rfl, _, _, rfl, rfl, .inl ⟨_, rfl, ?_⟩⟩
        refine ⟨_, _, rfl, rfl, (by show (2147483647 : Int) ≠ 0; decide), _, rfl, _, _, rfl, rfl, .inr ⟨by decide, by decide⟩, .inl ⟨_, rfl, ?_⟩⟩
        refine ⟨_, _, rfl, rfl, (by show (2147483629 : Int) ≠ 0; decide), _, rfl, .inl ⟨_, rfl, _, rfl, _, _, rfl, _, _, rfl, rfl, hmax, ?_⟩⟩
        exact last _ _ g1
      · refine ⟨_, rfl, _, rfl, t, _, 2, 2, rfl, rfl, upd_same, rfl, ?_⟩
        rw [upd_upd]
        exact ⟨Go.put h1 s1 (s1 _ _ h3 h2) h3 (by omega) h5, _, _, rfl⟩
  · rintro σ H1 ⟨g0, v1, v2, rfl⟩
    obtain ⟨l', ns', a', b', c', k1, k2, k3, k4, k5⟩ := g0.tp.ex
    refine ⟨_, rfl, t, _, 2, _, rfl, rfl, SqL.of k1, rfl, _, rfl, _, rfl, _, _, rfl, _, _, rfl, rfl, ?_, ?_⟩
    · exact wide_div (b := 63) (by split <;> omega) (by split <;> omega) (by decide) (by decide)
    refine ⟨_, rfl, t, _, 2, 2, rfl, rfl, k1, rfl, ?_⟩
    refine ⟨_, rfl, .inl ⟨_, rfl, _, rfl, _, _, rfl, _, _, rfl, rfl, hmax, ?_⟩⟩
    exact last _ _ (g0.trans (Go.put k1 (Sm.refl _ _) k2 k3 k4 k5))
/-! ### _law_pick -/
theorem sc_law_pick : FnScope ["tape", "row"] ["tape", "row"] (defScope s_law_pick) := ⟨rfl, rfl, rfl, by decide +kernel, rfl, by decide +kernel, by decide +kernel⟩



def sp_law_pick (K : PySem.W.Frag) : Sp := fun vs H Q _ => ∃ (t : Addr) (row : V), vs = [.ref t, row] ∧ Tape H t ∧
  ((∃ z, row = .str z ∧ 1 ≤ z.length ∧ z.length ≤ 1000000 ∧ ∀ c H', c ∈ z.cps.toList → Go t H H' → Q (.str ⟨#[c]⟩) H') ∨
   (∃ p xs, row = .ref p ∧ p ≠ t ∧ (SqL K H p xs ∨ SqT K H p xs) ∧ 1 ≤ xs.length ∧ xs.length ≤ 1000000 ∧ ∀ v H', v ∈ xs → Go t H H' → Q v H'))

theorem ok_law_pick {f : Addr} {fd : FuncData} (F : Fun K "_law_pick" "_law_pick" s_law_pick f fd) (T : Top K w mg) {a_law_draw : Addr} {d_law_draw : FuncData} (C_law_draw : Cal P w K mg base "_law_draw" 1 ["tape", "many"] sp_law_draw a_law_draw d_law_draw) : FnOk P w K mg base CX0 2 f fd ["tape", "row"] (sp_law_pick K) := by
  have sc := sc_law_pick
  refine F.ok sc (fun vs H Q E h => ?_) (fun cdv A outer s H vs Q E hr h => ?_)
  · obtain ⟨t, row, rfl, _⟩ := h
    rfl
  obtain ⟨t, row, rfl, hT, q⟩ := h
  refine ⟨_, (pss_one (ps_ret (pe_ix (kx_seq (K := K) rfl) (pv 1) (pe_call C_law_draw.ok (hr.mono (by omega)) (by rfl) C_law_draw.m C_law_draw.kp C_law_draw.b .nil pass0 (pa_cons (pv 0) (pa_cons (pe_callB (kc_len (K := K) rfl) (by rfl) T.z_len (by decide +kernel) (pa_cons (pv 1) pa_nil)) pa_nil))) (fun _ _ => rfl)))), ?_⟩

  rcases q with ⟨z, rfl, z1, z2, q⟩ | ⟨p, xs, rfl, np, hS, z1, z2, q⟩
  · refine ⟨_, rfl, _, rfl, _, rfl, _, z.length, rfl, ⟨Nat.le_trans z2 (by decide), rfl⟩, t, z.length, rfl, hT, by omega, by omega, fun r H1 r0 r1 g => ?_⟩
    have hr2 : r.toNat < z.cps.toList.length := by rw [len_codes]; omega
    refine .inr (.inr ⟨z, r, z.cps.toList[r.toNat], rfl, rfl, Nat.le_trans z2 (by decide), at_any (z := r) (j := r.toNat) (by omega) (List.getElem?_eq_getElem hr2), ?_⟩)
    exact q _ _ (List.getElem_mem _) g
  · refine ⟨_, rfl, _, rfl, _, rfl, _, xs.length, rfl, hS.elim (fun h => .inl ⟨xs, h, rfl⟩) (fun h => .inr ⟨xs, h, rfl⟩), t, xs.length, rfl, hT, by omega, by omega, fun r H1 r0 r1 g => ?_⟩
    have hr2 : r.toNat < xs.length := by omega
    have q' := q xs[r.toNat] H1 (List.getElem_mem _) g
    rcases hS with hS | hS
    · exact .inl ⟨p, xs, r, _, rfl, rfl, g.sm.seqL np hS, at_of (by omega) (List.getElem?_eq_getElem hr2), q'⟩
    · exact .inr (.inl ⟨p, xs, r, _, rfl, rfl, g.sm.seqT np hS, at_of (by omega) (List.getElem?_eq_getElem hr2), q'⟩)
/-! ### _law_shuffled -/
theorem sc_law_shuffled : FnScope ["tape", "row", "left", "found", "k"] ["tape", "row"] (defScope s_law_shuffled) := ⟨rfl, rfl, rfl, by decide +kernel, rfl, by decide +kernel, by decide +kernel⟩

def sp_law_shuffled (K : PySem.W.Frag) : Sp := fun vs H Q _ => ∃ (t p : Addr) (xs : List V), vs = [.ref t, .ref p] ∧ Tape H t ∧ p ≠ t ∧ SqL K H p xs ∧ xs.length ≤ 100000 ∧ ∀ r ys H', Go t H H' → H r = none → H' r = some (.lst ys) → ys.Perm xs → Q (.ref r) H'

theorem ok_law_shuffled {f : Addr} {fd : FuncData} (F : Fun K "_law_shuffled" "_law_shuffled" s_law_shuffled f fd) (T : Top K w mg) {a_law_draw : Addr} {d_law_draw : FuncData} (C_law_draw : Cal P w K mg base "_law_draw" 1 ["tape", "many"] sp_law_draw a_law_draw d_law_draw) : FnOk P w K mg base CX0 2 f fd ["tape", "row"] (sp_law_shuffled K) := by
  have sc := sc_law_shuffled
  refine F.ok sc (fun vs H Q E h => ?_) (fun cdv A outer s H vs Q E hr h => ?_)
  · obtain ⟨t, p, xs, rfl, _⟩ := h
    rfl
  obtain ⟨t, p, xs, rfl, hT, np, hS, lx, q⟩ := h
  refine ⟨_, (pss_cons (ps_set (i := 2) sc.nd rfl (Or.inl rfl) (pe_callTy (kc_list (K := K) rfl) (by rfl) T.z_list (by decide +kernel) (pa_cons (pv 1) pa_nil)))
    (pss_cons (ps_set (i := 3) sc.nd rfl (Or.inl rfl) (pe_lst pa_nil))
    (pss_cons (ps_for PassesOwn.never rfl (pi_range1 (by rfl) T.z_range (pa_cons (pe_callB (kc_lenS (K := K) rfl) (by rfl) T.z_len (by decide +kernel) (pa_cons (pv 1) pa_nil)) pa_nil)) (pg_name (i := 4) sc.nd rfl (Or.inl rfl))
      (pss_one (ps_expr (pe_bm PySem.F.plainAttrs_list PySem.F.slot_list_append PySem.F.type_list_append mt_append (pv 3) (pa_cons (pe_bm PySem.F.plainAttrs_list PySem.F.slot_list_pop PySem.F.type_list_pop mt_popAt (pv 2) (pa_cons (pe_call C_law_draw.ok (hr.mono (by omega)) (by rfl) C_law_draw.m C_law_draw.kp C_law_draw.b .nil pass0 (pa_cons (pv 0) (pa_cons (pe_callB (kc_lenS (K := K) rfl) (by rfl) T.z_len (by decide +kernel) (pa_cons (pv 2) pa_nil)) pa_nil))) pa_nil)) pa_nil)))))
    (pss_one (ps_ret (pv 3)))))), ?_⟩

  refine ⟨_, rfl, p, xs, rfl, .inl hS, fun L hL => ?_⟩
  refine ⟨(by show 0 ≤ sizeLine; decide), fun F hF => ?_⟩
  have g0 : Go t H (upd (upd H L (.lst xs)) F (.lst [])) := ((Go.refl hT).new hL).new hF
  have nLF : L ≠ F := ne_of_none upd_same hF
  have hF0 : H F = none := by rw [upd_ne nLF.symm] at hF; exact hF
  have nL : L ≠ t := hT.ne hL
  have nF : F ≠ t := hT.ne hF0
  refine ⟨_, rfl, _, _, rfl, .inl (g0.sm.seqL np hS), xs.length, rfl, by omega, by omega, ?_⟩
  refine for_it (walk_range (lo := 0) (n := (xs.length : Int).toNat)) (fun i σ H' => Go t H H' ∧ ∃ (ls fs : List V) (v4 : Option V), H' L = some (.lst ls) ∧ H' F = some (.lst fs) ∧ fs.length = i ∧ (fs ++ ls).Perm xs ∧ σ = [some (.ref t), some (.ref p), some (.ref L), some (.ref F), v4]) ⟨g0, xs, [], _, by rw [upd_ne nLF]; exact upd_same, upd_same, rfl, List.Perm.refl _, rfl⟩ (fun _ _ _ _ _ => trivial) ?_ ?_
  · rintro i x σ H1 H2 hi ⟨g, ls, fs, v4, e1, e2, lf, pm, rfl⟩ ⟨rfl, rfl⟩
    have hpl := pm.length_eq
    rw [List.length_append] at hpl
    have hi' : i < xs.length := by omega
    refine ⟨_, rfl, .inl ⟨rfl, _, SqL.of e2⟩, _, rfl, .inl ⟨rfl, _, SqL.of e1⟩, _, rfl, _, rfl, _, _, rfl, .inl (SqL.of e1), t, ls.length, rfl, g.tp, by omega, by omega, fun r H3 r0 r1 g3 => ?_⟩
    have r2 : 0 < ls.length := by omega
    have r1' : r < ls.length := by omega
    have e13 := g3.sm _ _ nL e1
    have e23 := g3.sm _ _ nF e2
    have hk : seqIndex? r ls.length = some r.toNat := by
      unfold seqIndex?
      have c1 : ¬ r < 0 := by omega
      have c2 : r < (ls.length : Int) := r1'
      simp [c1, c2, r0]
    refine ⟨L, ls, r, r.toNat, ls[r.toNat], rfl, rfl, e13, by omega, by omega, hk, List.getElem?_eq_getElem (by omega), ?_⟩
    refine ⟨F, fs, _, rfl, rfl, by rw [upd_ne nLF.symm]; exact e23, lt_line (by omega), ?_⟩
    refine ⟨(Go.late hT (Go.late hT (g.trans g3) hL) hF0), ls.eraseIdx r.toNat, fs ++ [ls[r.toNat]], _, by rw [upd_ne nLF]; exact upd_same, upd_same, by rw [List.length_append, lf]; rfl, ?_, rfl⟩
    refine List.Perm.trans ?_ pm
    rw [List.append_assoc]
    refine List.Perm.append_left fs ?_
    have h3 : r.toNat < ls.length := by omega
    have e3 : ls = ls.take r.toNat ++ ls[r.toNat] :: ls.drop (r.toNat + 1) := by rw [List.getElem_cons_drop, List.take_append_drop]
    rw [List.eraseIdx_eq_take_drop_succ]
    show (ls[r.toNat] :: (ls.take r.toNat ++ ls.drop (r.toNat + 1))).Perm ls
    exact (List.perm_middle.symm).trans (List.Perm.of_eq e3.symm)
  · rintro σ H1 ⟨g, ls, fs, v4, e1, e2, lf, pm, rfl⟩
    have hpl := pm.length_eq
    rw [List.length_append] at hpl
    have z : ls = [] := List.length_eq_zero_iff.mp (by have : (xs.length : Int).toNat = xs.length := rfl; omega)
    subst z
    rw [List.append_nil] at pm
    exact ⟨_, rfl, q F fs H1 g hF0 e2 pm⟩
/-! ### _law_same -/
theorem sc_law_same : FnScope ["actual", "expected", "k"] ["actual", "expected"] (defScope s_law_same) := ⟨rfl, rfl, rfl, by decide +kernel, rfl, by decide +kernel, by decide +kernel⟩

theorem kit_tuple {K : PySem.W.Frag} {d : Dt} : PySem.W.kitOne K (.type d.name) (.type "tuple") = some (match d with | .tup _ => true | _ => false) := by
  cases d with
  | non => exact kit_ty (a := "NoneType") (b := "tuple") (r := false) (by decide +kernel)
  | bl b => exact kit_ty (a := "bool") (b := "tuple") (r := false) (by decide +kernel)
  | int i => exact kit_ty (a := "int") (b := "tuple") (r := false) (by decide +kernel)
  | str s => exact kit_ty (a := "str") (b := "tuple") (r := false) (by decide +kernel)
  | tup xs => exact kit_ty (a := "tuple") (b := "tuple") (r := true) (by decide +kernel)
theorem kit_bool {K : PySem.W.Frag} {d : Dt} : PySem.W.kitOne K (.type d.name) (.type "bool") = some (match d with | .bl _ => true | _ => false) := by
  cases d with
  | non => exact kit_ty (a := "NoneType") (b := "bool") (r := false) (by decide +kernel)
  | bl b => exact kit_ty (a := "bool") (b := "bool") (r := true) (by decide +kernel)
  | int i => exact kit_ty (a := "int") (b := "bool") (r := false) (by decide +kernel)
  | str s => exact kit_ty (a := "str") (b := "bool") (r := false) (by decide +kernel)
  | tup xs => exact kit_ty (a := "tuple") (b := "bool") (r := false) (by decide +kernel)
theorem kit_str {K : PySem.W.Frag} {d : Dt} : PySem.W.kitOne K (.type d.name) (.type "str") = some (match d with | .str _ => true | _ => false) := by
  cases d with
  | non => exact kit_ty (a := "NoneType") (b := "str") (r := false) (by decide +kernel)
  | bl b => exact kit_ty (a := "bool") (b := "str") (r := false) (by decide +kernel)
  | int i => exact kit_ty (a := "int") (b := "str") (r := false) (by decide +kernel)
  | str s => exact kit_ty (a := "str") (b := "str") (r := true) (by decide +kernel)
  | tup xs => exact kit_ty (a := "tuple") (b := "str") (r := false) (by decide +kernel)
theorem kit_int {K : PySem.W.Frag} {d : Dt} : PySem.W.kitOne K (.type d.name) (.type "int") = some (match d with | .int _ => true | .bl _ => true | _ => false) := by
  cases d with
  | non => exact kit_ty (a := "NoneType") (b := "int") (r := false) (by decide +kernel)
  | bl b => exact kit_ty (a := "bool") (b := "int") (r := true) (by decide +kernel)
  | int i => exact kit_ty (a := "int") (b := "int") (r := true) (by decide +kernel)
  | str s => exact kit_ty (a := "str") (b := "int") (r := false) (by decide +kernel)
  | tup xs => exact kit_ty (a := "tuple") (b := "int") (r := false) (by decide +kernel)


def spSame (n : Nat) (K : PySem.W.Frag) : Sp := fun vs H Q _ => ∃ (x y : V) (d : Dt), vs = [x, y] ∧ DT K H x d ∧ DT K H y d ∧ d.deep ≤ n ∧ d.fits = true ∧ ∀ H', Same H H' → Q (.bl true) H'
abbrev sp_law_same : PySem.W.Frag → Sp := spSame 40


theorem ok_law_same_n {n : Nat} {f : Addr} {fd : FuncData} (F : Fun K "_law_same" "_law_same" s_law_same f fd) (T : Top K w mg) (C_law_same : Cal P w K mg base "_law_same" n ["actual", "expected"] (spSame n) f fd) : FnOk P w K mg base CX0 (n + 1) f fd ["actual", "expected"] (spSame (n + 1) K) := by
  have sc := sc_law_same
  refine F.ok sc (fun vs H Q E h => ?_) (fun cdv A outer s H vs Q E hr h => ?_)
  · obtain ⟨x, y, d, rfl, _⟩ := h
    rfl
  obtain ⟨x, y, d, rfl, hx, hy, hd, hf, q⟩ := h
  refine ⟨_, (pss_cons (ps_if (pt_cmpR op_isN (pv 1) pe_non (nomark _))
      (pss_one (ps_ret (pe_cmpR op_isN (pv 0) pe_non (nomark _))))
      pss_nil)
    (pss_cons (ps_if (pt_val (pe_callB (kc_isi (K := K) rfl) (by rfl) T.z_isinstance (by decide +kernel) (pa_cons (pv 1) (pa_cons (pe_bltn (v := .ty "tuple") (by rfl) T.z_tuple (by decide +kernel) rfl) pa_nil))))
      (pss_cons (ps_if (PW.pt (pw_or (pt_not (pt_val (pe_callB (kc_isi (K := K) rfl) (by rfl) T.z_isinstance (by decide +kernel) (pa_cons (pv 0) (pa_cons (pe_bltn (v := .ty "tuple") (by rfl) T.z_tuple (by decide +kernel) rfl) pa_nil))))) (pw_or1 (pt_cmpR op_ne (pe_callB (kc_len (K := K) rfl) (by rfl) T.z_len (by decide +kernel) (pa_cons (pv 0) pa_nil)) (pe_callB (kc_len (K := K) rfl) (by rfl) T.z_len (by decide +kernel) (pa_cons (pv 1) pa_nil)) (nomark _)))))
        (pss_one (ps_ret pe_bl))
        pss_nil)
      (pss_one (ps_ret (pe_cmpR (kop_eqD (K := K) rfl hr.units) (pe_lc (own := [("k", 2)]) (g := gName 2) rfl sc.nd (pi_range1 (by rfl) T.z_range (pa_cons (pe_callB (kc_len (K := K) rfl) (by rfl) T.z_len (by decide +kernel) (pa_cons (pv 1) pa_nil)) pa_nil)) (blkOk_by (N := ["actual", "expected", "k"]) (sc := defScope s_law_same) (by decide +kernel)) (fun _ _ _ _ _ => pg_name (i := 2) sc.nd rfl (Or.inl rfl)) (fun _ _ _ _ _ => pts_one (pt_not (pt_val (pe_call C_law_same.ok hr (by rfl) C_law_same.m C_law_same.kp C_law_same.b .nil pass0 (pa_cons (pe_ix (kx_seq (K := K) rfl) (pv 0) (pv 2) (fun _ _ => rfl)) (pa_cons (pe_ix (kx_seq (K := K) rfl) (pv 1) (pv 2) (fun _ _ => rfl)) pa_nil)))))) (fun _ _ _ _ _ => (pv 2))) (pe_lst pa_nil) (nomark _)))))
      pss_nil)
    (pss_cons (ps_if (PW.pt (pw_or (pt_val (pe_callB (kc_isi (K := K) rfl) (by rfl) T.z_isinstance (by decide +kernel) (pa_cons (pv 1) (pa_cons (pe_bltn (v := .ty "bool") (by rfl) T.z_bool (by decide +kernel) rfl) pa_nil)))) (pw_or1 (pt_val (pe_callB (kc_isi (K := K) rfl) (by rfl) T.z_isinstance (by decide +kernel) (pa_cons (pv 0) (pa_cons (pe_bltn (v := .ty "bool") (by rfl) T.z_bool (by decide +kernel) rfl) pa_nil)))))))
      (pss_one (ps_ret (pe_and (pe_callB (kc_isi (K := K) rfl) (by rfl) T.z_isinstance (by decide +kernel) (pa_cons (pv 1) (pa_cons (pe_bltn (v := .ty "bool") (by rfl) T.z_bool (by decide +kernel) rfl) pa_nil))) (pe_and (pe_callB (kc_isi (K := K) rfl) (by rfl) T.z_isinstance (by decide +kernel) (pa_cons (pv 0) (pa_cons (pe_bltn (v := .ty "bool") (by rfl) T.z_bool (by decide +kernel) rfl) pa_nil))) (pe_one (pe_cmpR op_eq (pv 0) (pv 1) (nomark _)))))))
      pss_nil)
    (pss_cons (ps_if (pt_val (pe_callB (kc_isi (K := K) rfl) (by rfl) T.z_isinstance (by decide +kernel) (pa_cons (pv 1) (pa_cons (pe_bltn (v := .ty "str") (by rfl) T.z_str (by decide +kernel) rfl) pa_nil))))
      (pss_one (ps_ret (pe_and (pe_callB (kc_isi (K := K) rfl) (by rfl) T.z_isinstance (by decide +kernel) (pa_cons (pv 0) (pa_cons (pe_bltn (v := .ty "str") (by rfl) T.z_str (by decide +kernel) rfl) pa_nil))) (pe_one (pe_cmpR op_eq (pv 0) (pv 1) (nomark _))))))
      pss_nil)
    (pss_one (ps_ret (pe_and (pe_callB (kc_isi (K := K) rfl) (by rfl) T.z_isinstance (by decide +kernel) (pa_cons (pv 0) (pa_cons (pe_bltn (v := .ty "int") (by rfl) T.z_int (by decide +kernel) rfl) pa_nil))) (pe_one (pe_cmpR op_eq (pv 0) (pv 1) (nomark _)))))))))), ?_⟩
  have tx := hx.ty
  have ty := hy.ty
  cases d with
  | non =>
    cases hx; cases hy
    exact ⟨_, rfl, rfl, _, rfl, iteT ⟨_, rfl, rfl, q H (Same.refl H)⟩⟩
  | bl b =>
    cases hx; cases hy
    refine ⟨_, rfl, rfl, _, rfl, iteF ⟨_, rfl, _, _, _, _, _, rfl, .ty _, ty, kit_tuple, _, rfl, iteF ⟨_, rfl, _, _, _, _, _, rfl, .ty _, ty, kit_bool, _, rfl, iteT (iteT ?_)⟩⟩⟩
    refine ⟨_, rfl, _, _, _, _, _, rfl, .ty _, ty, kit_bool, _, rfl, iteT ⟨_, rfl, _, _, _, _, _, rfl, .ty _, tx, kit_bool, _, rfl, iteT ⟨_, rfl, _, rfl, rfl, ?_⟩⟩⟩
    rw [decide_eq_true rfl]
    exact q H (Same.refl H)
  | int i =>
    cases hx; cases hy
    refine ⟨_, rfl, rfl, _, rfl, iteF ⟨_, rfl, _, _, _, _, _, rfl, .ty _, ty, kit_tuple, _, rfl, iteF ⟨_, rfl, _, _, _, _, _, rfl, .ty _, ty, kit_bool, _, rfl, iteF ⟨_, rfl, _, _, _, _, _, rfl, .ty _, tx, kit_bool, _, rfl, iteF ?_⟩⟩⟩⟩
    refine ⟨_, rfl, _, _, _, _, _, rfl, .ty _, ty, kit_str, _, rfl, iteF ⟨_, rfl, _, _, _, _, _, rfl, .ty _, tx, kit_int, _, rfl, iteT ⟨_, rfl, _, rfl, rfl, ?_⟩⟩⟩
    rw [decide_eq_true rfl]
    exact q H (Same.refl H)
  | str i =>
    cases hx; cases hy
    refine ⟨_, rfl, rfl, _, rfl, iteF ⟨_, rfl, _, _, _, _, _, rfl, .ty _, ty, kit_tuple, _, rfl, iteF ⟨_, rfl, _, _, _, _, _, rfl, .ty _, ty, kit_bool, _, rfl, iteF ⟨_, rfl, _, _, _, _, _, rfl, .ty _, tx, kit_bool, _, rfl, iteF ?_⟩⟩⟩⟩
    refine ⟨_, rfl, _, _, _, _, _, rfl, .ty _, ty, kit_str, _, rfl, iteT ⟨_, rfl, _, _, _, _, _, rfl, .ty _, tx, kit_str, _, rfl, iteT ⟨_, rfl, _, rfl, rfl, ?_⟩⟩⟩
    rw [decide_eq_true rfl]
    exact q H (Same.refl H)
  | tup ds =>
    have hx' := hx
    have hy' := hy
    cases hx with
    | @tup a xs _ ha ax =>
    cases hy with
    | @tup b ys _ hb by' =>
    have l1 := ax.length
    have l2 := by'.length
    have hfit : ds.length ≤ 1000000 ∧ Dt.fitss ds = true := by
      unfold Dt.fits at hf
      rw [Bool.and_eq_true] at hf
      exact ⟨of_decide_eq_true hf.1, hf.2⟩
    refine ⟨_, rfl, rfl, _, rfl, iteF ⟨_, rfl, _, _, _, _, _, rfl, .ty _, ty, kit_tuple, _, rfl, iteT ⟨_, rfl, _, _, _, _, _, rfl, .ty _, tx, kit_tuple, _, rfl, iteF ?_⟩⟩⟩
    refine ⟨_, rfl, _, _, rfl, .inr ⟨xs, ha, rfl⟩, _, rfl, _, _, rfl, .inr ⟨ys, hb, rfl⟩, rfl, _, rfl, ?_⟩
    rw [decide_eq_true (show V.int (xs.length : Int) = V.int (ys.length : Int) by rw [l1, l2])]
    refine iteF ?_
    refine ⟨_, rfl, _, _, rfl, .inr ⟨ys, hb, rfl⟩, _, rfl, by omega, by omega, fun D hD => ?_⟩
    refine lc_it (walk_range (lo := 0) (n := (ys.length : Int).toNat)) (fun i H' => Same H H' ∧ H' D = some (.lst [])) ⟨same_new hD _, upd_same⟩ (fun _ _ _ _ => trivial) ?_ ?_
    · rintro i x H1 H2 hi ⟨s1, e1⟩ ⟨rfl, rfl⟩
      have hi2 : i < ds.length := by omega
      obtain ⟨u, eu, du⟩ := ax.get (List.getElem?_eq_getElem hi2)
      obtain ⟨v, ev, dv⟩ := by'.get (List.getElem?_eq_getElem hi2)
      have hm : ds[i] ∈ ds := List.getElem_mem _
      refine ⟨rfl, _, rfl, _, rfl, .inr (.inl ⟨a, xs, _, u, rfl, rfl, s1.seqT ha, at_any (j := i) (by omega) eu, ?_⟩)⟩
      refine ⟨_, rfl, _, rfl, .inr (.inl ⟨b, ys, _, v, rfl, rfl, s1.seqT hb, at_any (j := i) (by omega) ev, ?_⟩)⟩
      refine ⟨u, v, ds[i], rfl, du.same s1, dv.same s1, ?_, Dt.fitss_mem hm hfit.2, fun H3 s3 => ⟨_, rfl, iteF ⟨s1.trans s3, s3 _ _ e1⟩⟩⟩
      have h1 := Dt.deeps_mem hm
      unfold Dt.deep at hd
      omega
    · rintro H1 ⟨s1, e1⟩
      refine ⟨by decide, fun p hp => ?_⟩
      refine ⟨.list [], .list [], .lst (SqL.of (by rw [upd_ne (ne_of_none e1 hp)]; exact e1)) .nil, .lst (SqL.of upd_same) .nil, by decide +kernel, by decide +kernel, ?_⟩
      exact q _ (s1.trans (same_new hp _))
theorem ok_law_same {f : Addr} {fd : FuncData} (F : Fun K "_law_same" "_law_same" s_law_same f fd) (T : Top K w mg) (M : mg "_law_same" = some (.ref f)) : FnOk P w K mg base CX0 40 f fd ["actual", "expected"] (sp_law_same K) := by
  have b := F.binds (ps := ["actual", "expected"]) fun _ _ _ _ _ _ us hl => match us, hl with | [_, _], _ => rfl
  have h : ∀ n, FnOk P w K mg base CX0 n f fd ["actual", "expected"] (spSame n K) := fun n => by
    induction n with
    | zero =>
      refine none_left fun vs H Q E h => ?_
      obtain ⟨x, y, d, _, _, _, hd, _⟩ := h
      cases d <;> simp [Dt.deep] at hd
    | succ n ih => exact ok_law_same_n F T ⟨ih, b, F.kp, M⟩
  exact h 40

/-! ### _law_tight_text -/
theorem sc_law_tight_text : FnScope ["tape", "many", "signs", "k"] ["tape", "many"] (defScope s_law_tight_text) := ⟨rfl, rfl, rfl, by decide +kernel, rfl, by decide +kernel, by decide +kernel⟩

def tightA : Str := Str.ofString "!#$&'()*+,-./0123456789:;<=>?@ABCDEFGHIJKLMNOPQRSTUVWXYZ[\\]^_`"
def tightB : Str := Str.ofString "abcdefghijklmnopqrstuvwxyz{|}~"
def Tg (c : Nat) : Prop := Sg c ∧ c ≠ 32 ∧ c ≠ 34
instance (c : Nat) : Decidable (Tg c) := by unfold Tg; exact inferInstance
theorem tight_ok : ∀ c ∈ (tightA ++ tightB).cps.toList, Tg c := by decide +kernel
theorem tight_len : (tightA ++ tightB).length = 92 := by decide +kernel
def TgT (z : Str) : Prop := ∀ c ∈ z.cps.toList, Tg c
theorem TgT.sg {z : Str} (h : TgT z) : SgT z := fun c hc => (h c hc).1


def sp_law_tight_text (K : PySem.W.Frag) : Sp := fun vs H Q _ => ∃ (t : Addr) (m : Nat), vs = [.ref t, .int m] ∧ Tape H t ∧ m ≤ 100000 ∧ ∀ z H', TgT z → z.length = m → Go t H H' → Q (.str z) H'

theorem ok_law_tight_text {f : Addr} {fd : FuncData} (F : Fun K "_law_tight_text" "_law_tight_text" s_law_tight_text f fd) (T : Top K w mg) {a_law_pick : Addr} {d_law_pick : FuncData} (C_law_pick : Cal P w K mg base "_law_pick" 2 ["tape", "row"] sp_law_pick a_law_pick d_law_pick) : FnOk P w K mg base CX0 3 f fd ["tape", "many"] (sp_law_tight_text K) := by
  have sc := sc_law_tight_text
  refine F.ok sc (fun vs H Q E h => ?_) (fun cdv A outer s H vs Q E hr h => ?_)
  · obtain ⟨t, m, rfl, _⟩ := h
    rfl
  obtain ⟨t, m, rfl, hT, hm, q⟩ := h
  refine ⟨_, (pss_cons (ps_set (i := 2) sc.nd rfl (Or.inr rfl) pe_str)
    (pss_cons (ps_set (i := 2) sc.nd rfl (Or.inr rfl) (pe_op op_add_str (pv 2) pe_str))
    (pss_one (ps_ret (pe_join pe_str (pe_lc (own := [("k", 3)]) (g := gName 3) (tt := tYes) rfl sc.nd (pi_range1 (by rfl) T.z_range (pa_cons (pv 1) pa_nil)) (blkOk_by (N := ["tape", "many", "signs", "k"]) (sc := defScope s_law_tight_text) (by decide +kernel)) (fun _ _ _ _ _ => pg_name (i := 3) sc.nd rfl (Or.inl rfl)) (fun _ _ _ _ _ => pts_nil) (fun _ _ _ _ _ => (pe_call C_law_pick.ok (hr.mono (by omega)) (by rfl) C_law_pick.m C_law_pick.kp C_law_pick.b .nil pass0 (pa_cons (pv 0) (pa_cons (pv 2) pa_nil)))))))))), ?_⟩

  refine ⟨_, rfl, _, _, rfl, rfl, by decide +kernel, ⟨_, rfl⟩, _, rfl, m, rfl, by omega, by omega, fun D hD => ?_⟩
  refine lc_acc (walk_range (lo := 0) (n := (m : Int).toNat)) (fun i acc H' => Go t H H' ∧ ∃ cs : List Nat, acc = (cs.map fun c => (⟨#[c]⟩ : Str)).map V.str ∧ ∀ c ∈ cs, Tg c) ⟨(Go.refl hT).new hD, [], rfl, fun _ h => by cases h⟩ (fun _ _ _ _ _ _ => trivial) ?_ ?_
  · rintro i acc x H1 H2 hi e el ⟨g, cs, ea, hcs⟩ ⟨rfl, rfl⟩
    refine ⟨rfl, _, rfl, _, rfl, t, _, rfl, g.tp, .inl ⟨tightA ++ tightB, rfl, by rw [tight_len]; decide, by rw [tight_len]; decide, fun c H3 hc g3 => ?_⟩⟩
    refine acc_step (g3.sm _ _ (hT.ne hD) e) el (by omega) ⟨Go.late hT (g.trans g3) hD, cs ++ [c], ?_, fun d hd => ?_⟩
    · rw [ea, List.map_append, List.map_append]; rfl
    · rcases List.mem_append.mp hd with h | h
      · exact hcs d h
      · rw [List.mem_singleton.mp h]; exact tight_ok c hc
  · rintro acc H1 e el ⟨g, cs, ea, hcs⟩
    have hl : cs.length = m := by
      rw [ea, List.length_map, List.length_map] at el
      omega
    refine ⟨_, D, cs.map fun c => (⟨#[c]⟩ : Str), rfl, rfl, .inl (SqL.of (by rw [e, ea])), ?_, ?_⟩
    · rw [sum_ones, List.length_map]
      show cs.length + cs.length * 0 ≤ _
      omega
    have ec := join_codes (cs.map fun c => (⟨#[c]⟩ : Str))
    rw [flat_ones] at ec
    refine q _ _ (fun c hc => hcs c (by rw [ec] at hc; exact hc)) ?_ g
    rw [← len_codes, ec]
    exact hl
/-! ### _law_scalar -/
theorem sc_law_scalar : FnScope ["tape", "choice"] ["tape"] (defScope s_law_scalar) := ⟨rfl, rfl, rfl, by decide +kernel, rfl, by decide +kernel, by decide +kernel⟩

def sp_law_scalar (K : PySem.W.Frag) : Sp := fun vs H Q _ => ∃ (t : Addr), vs = [.ref t] ∧ Tape H t ∧ ∀ v c H', Go t H H' → DT K H' v (.tup (scD c)) → scOk c → c ≠ .recd → Q v H'

theorem ok_law_scalar {f : Addr} {fd : FuncData} (F : Fun K "_law_scalar" "_law_scalar" s_law_scalar f fd) (T : Top K w mg) {a_law_draw : Addr} {d_law_draw : FuncData} (C_law_draw : Cal P w K mg base "_law_draw" 1 ["tape", "many"] sp_law_draw a_law_draw d_law_draw) {a_law_pick : Addr} {d_law_pick : FuncData} (C_law_pick : Cal P w K mg base "_law_pick" 2 ["tape", "row"] sp_law_pick a_law_pick d_law_pick) {a_law_tight_text : Addr} {d_law_tight_text : FuncData} (C_law_tight_text : Cal P w K mg base "_law_tight_text" 3 ["tape", "many"] sp_law_tight_text a_law_tight_text d_law_tight_text) : FnOk P w K mg base CX0 4 f fd ["tape"] (sp_law_scalar K) := by
  have sc := sc_law_scalar
  refine F.ok sc (fun vs H Q E h => ?_) (fun cdv A outer s H vs Q E hr h => ?_)
  · obtain ⟨t, rfl, _⟩ := h
    rfl
  obtain ⟨t, rfl, hT, q⟩ := h
  refine ⟨_, (pss_cons (ps_set (i := 1) sc.nd rfl (Or.inl rfl) (pe_call C_law_draw.ok (hr.mono (by omega)) (by rfl) C_law_draw.m C_law_draw.kp C_law_draw.b .nil pass0 (pa_cons (pv 0) (pa_cons pe_int pa_nil))))
    (pss_cons (ps_if (pt_cmpR op_lt (pv 1) pe_int (nomark _))
      (pss_one (ps_ret (pe_ix (kx_list (K := K) rfl) (pe_lst (pa_cons (pe_tup (pa_cons pe_str pa_nil)) (pa_cons (pe_tup (pa_cons pe_str pa_nil)) (pa_cons (pe_tup (pa_cons pe_str pa_nil)) pa_nil)))) (pv 1) (fun _ _ => rfl))))
      pss_nil)
    (pss_cons (ps_if (pt_cmpR op_eq (pv 1) pe_int (nomark _))
      (pss_one (ps_ret (pe_tup (pa_cons pe_str (pa_cons (pe_call C_law_pick.ok (hr.mono (by omega)) (by rfl) C_law_pick.m C_law_pick.kp C_law_pick.b .nil pass0 (pa_cons (pv 0) (pa_cons (pe_lst (pa_cons pe_int (pa_cons (pe_op op_pow pe_int pe_int) (pa_cons (pe_un un_neg pe_int) (pa_cons pe_int pa_nil))))) pa_nil))) pa_nil)))))
      pss_nil)
    (pss_cons (ps_if (pt_cmpR op_lt (pv 1) pe_int (nomark _))
      (pss_one (ps_ret (pe_tup (pa_cons pe_str (pa_cons (pe_op op_sub (pe_call C_law_draw.ok (hr.mono (by omega)) (by rfl) C_law_draw.m C_law_draw.kp C_law_draw.b .nil pass0 (pa_cons (pv 0) (pa_cons pe_int pa_nil))) pe_int) pa_nil)))))
      pss_nil)
    (pss_cons (ps_if (pt_cmpR op_eq (pv 1) pe_int (nomark _))
      (pss_one (ps_ret (pe_tup (pa_cons pe_str (pa_cons (pe_op op_sub (pe_call C_law_draw.ok (hr.mono (by omega)) (by rfl) C_law_draw.m C_law_draw.kp C_law_draw.b .nil pass0 (pa_cons (pv 0) (pa_cons pe_int pa_nil))) pe_int) pa_nil)))))
      pss_nil)
    (pss_cons (ps_if (pt_cmpR op_eq (pv 1) pe_int (nomark _))
      (pss_one (ps_ret (pe_tup (pa_cons pe_str (pa_cons (pe_call C_law_pick.ok (hr.mono (by omega)) (by rfl) C_law_pick.m C_law_pick.kp C_law_pick.b .nil pass0 (pa_cons (pv 0) (pa_cons (pe_lst (pa_cons pe_str (pa_cons pe_str (pa_cons pe_str (pa_cons pe_str (pa_cons pe_str (pa_cons pe_str (pa_cons pe_str (pa_cons pe_str pa_nil))))))))) pa_nil))) pa_nil)))))
      pss_nil)
    (pss_one (ps_ret (pe_tup (pa_cons pe_str (pa_cons (pe_call C_law_tight_text.ok (hr.mono (by omega)) (by rfl) C_law_tight_text.m C_law_tight_text.kp C_law_tight_text.b .nil pass0 (pa_cons (pv 0) (pa_cons (pe_call C_law_pick.ok (hr.mono (by omega)) (by rfl) C_law_pick.m C_law_pick.kp C_law_pick.b .nil pass0 (pa_cons (pv 0) (pa_cons (pe_lst (pa_cons pe_int (pa_cons pe_int (pa_cons pe_int (pa_cons pe_int pa_nil))))) pa_nil))) pa_nil))) pa_nil))))))))))), ?_⟩

  have sgs : ∀ z ∈ [Str.ofString "", Str.ofString " ", Str.ofString "1", Str.ofString "true", Str.ofString "null", Str.ofString "b", Str.ofString "a b", Str.ofString "record"], z.length ≤ 60 ∧ ∀ c ∈ z.cps.toList, Sg c := by decide +kernel
  refine ⟨_, rfl, t, 10, rfl, hT, by decide, by decide, fun ch H1 c0 c1 g1 => ?_⟩
  refine ⟨_, rfl, _, _, rfl, rfl, _, rfl, ite2 (fun d => ?_) (fun d => ?_)⟩
  · have d' : ch < 3 := of_decide_eq_true d
    refine ⟨(by show 1 ≤ sizeLine; decide), fun p1 h1 => ⟨(by show 1 ≤ sizeLine; decide), fun p2 h2 => ⟨(by show 1 ≤ sizeLine; decide), fun p3 h3 => ⟨(by show 3 ≤ sizeLine; decide), fun p4 h4 => ?_⟩⟩⟩⟩
    have g2 := (((g1.new (o := .tup [.str (Str.ofString "null")]) h1).new (o := .tup [.str (Str.ofString "false")]) h2).new (o := .tup [.str (Str.ofString "true")]) h3).new (o := .lst [.ref p1, .ref p2, .ref p3]) h4
    have e3 : (upd (upd (upd (upd H1 p1 (.tup [.str (Str.ofString "null")])) p2 (.tup [.str (Str.ofString "false")])) p3 (.tup [.str (Str.ofString "true")])) p4 (.lst [.ref p1, .ref p2, .ref p3])) p3 = some (.tup [.str (Str.ofString "true")]) := (same_new h4 _) _ _ upd_same
    have e2 : (upd (upd (upd (upd H1 p1 (.tup [.str (Str.ofString "null")])) p2 (.tup [.str (Str.ofString "false")])) p3 (.tup [.str (Str.ofString "true")])) p4 (.lst [.ref p1, .ref p2, .ref p3])) p2 = some (.tup [.str (Str.ofString "false")]) := (same_new h4 _) _ _ ((same_new h3 _) _ _ upd_same)
    have e1 : (upd (upd (upd (upd H1 p1 (.tup [.str (Str.ofString "null")])) p2 (.tup [.str (Str.ofString "false")])) p3 (.tup [.str (Str.ofString "true")])) p4 (.lst [.ref p1, .ref p2, .ref p3])) p1 = some (.tup [.str (Str.ofString "null")]) := (same_new h4 _) _ _ ((same_new h3 _) _ _ ((same_new h2 _) _ _ upd_same))
    have : ch = 0 ∨ ch = 1 ∨ ch = 2 := by omega
    rcases this with rfl | rfl | rfl
    · exact ⟨_, rfl, p4, _, _, _, rfl, rfl, SqL.of upd_same, rfl, q _ .null _ g2 (.tup (SqT.of e1) (.cons (.str _) .nil)) trivial (by intro z; cases z)⟩
    · exact ⟨_, rfl, p4, _, _, _, rfl, rfl, SqL.of upd_same, rfl, q _ .fals _ g2 (.tup (SqT.of e2) (.cons (.str _) .nil)) trivial (by intro z; cases z)⟩
    · exact ⟨_, rfl, p4, _, _, _, rfl, rfl, SqL.of upd_same, rfl, q _ .tru _ g2 (.tup (SqT.of e3) (.cons (.str _) .nil)) trivial (by intro z; cases z)⟩
  have num : ∀ (n : Int) (H' : Hp) (p : Addr), Go t H H' → H' p = none → -1000000000 ≤ n → n ≤ 1000000000 → Q (.ref p) (upd H' p (.tup [.str (Str.ofString "number"), .int n])) := fun n H' p g hp b1 b2 =>
    q _ (.num n) _ (g.new hp) (.tup (SqT.of upd_same) (.cons (.str _) (.cons (.int _) .nil))) ⟨b1, b2⟩ (by intro z; cases z)
  have txt : ∀ (s : Str) (H' : Hp) (p : Addr), Go t H H' → H' p = none → s.length ≤ 60 → SgT s → Q (.ref p) (upd H' p (.tup [.str (Str.ofString "text"), .str s])) := fun s H' p g hp b1 b2 =>
    q _ (.text s) _ (g.new hp) (.tup (SqT.of upd_same) (.cons (.str _) (.cons (.str _) .nil))) ⟨b1, b2⟩ (by intro z; cases z)
  refine ⟨_, rfl, rfl, _, rfl, ite2 (fun _ => ?_) (fun _ => ?_)⟩
  · refine ⟨_, rfl, _, _, rfl, rfl, ⟨by decide, by decide, by decide⟩, _, rfl, (by show 4 ≤ sizeLine; decide), fun p1 hp1 => ?_⟩
    refine ⟨t, _, rfl, g1.tp.new hp1, .inr ⟨p1, _, rfl, g1.tp.ne hp1, .inl (SqL.of upd_same), (by show 1 ≤ 4; decide), (by show 4 ≤ 1000000; decide), fun v H2 hv g2 => ?_⟩⟩
    obtain ⟨n, b1, b2, rfl⟩ : ∃ n : Int, -1000000000 ≤ n ∧ n ≤ 1000000000 ∧ v = V.int n := by
      simp only [List.mem_cons, List.not_mem_nil, or_false] at hv
      rcases hv with rfl | rfl | rfl | rfl
      · exact ⟨_, by decide, by decide, rfl⟩
      · exact ⟨_, by decide, by decide, rfl⟩
      · exact ⟨_, by decide, by decide, rfl⟩
      · exact ⟨_, by decide, by decide, rfl⟩
    exact ⟨(by show 2 ≤ sizeLine; decide), fun p hp => num n _ p ((g1.new hp1).trans g2) hp b1 b2⟩
  refine ⟨_, rfl, _, _, rfl, rfl, _, rfl, ite2 (fun _ => ?_) (fun _ => ?_)⟩
  · refine ⟨_, rfl, t, 25, rfl, g1.tp, by decide, by decide, fun r H2 r0 r1 g2 => ⟨_, _, rfl, rfl, (by show 2 ≤ sizeLine; decide), fun p hp => ?_⟩⟩
    exact num _ _ p (g1.trans g2) hp (by show -1000000000 ≤ r - 12; omega) (by show r - 12 ≤ 1000000000; omega)
  refine ⟨_, rfl, rfl, _, rfl, ite2 (fun _ => ?_) (fun _ => ?_)⟩
  · refine ⟨_, rfl, t, 2000000001, rfl, g1.tp, by decide, by decide, fun r H2 r0 r1 g2 => ⟨_, _, rfl, rfl, (by show 2 ≤ sizeLine; decide), fun p hp => ?_⟩⟩
    exact num _ _ p (g1.trans g2) hp (by show -1000000000 ≤ r - 1000000000; omega) (by show r - 1000000000 ≤ 1000000000; omega)
  refine ⟨_, rfl, rfl, _, rfl, ite2 (fun _ => ?_) (fun _ => ?_)⟩
  · refine ⟨_, rfl, (by show 8 ≤ sizeLine; decide), fun p1 hp1 => ?_⟩
    refine ⟨t, _, rfl, g1.tp.new hp1, .inr ⟨p1, _, rfl, g1.tp.ne hp1, .inl (SqL.of upd_same), (by show 1 ≤ 8; decide), (by show 8 ≤ 1000000; decide), fun v H2 hv g2 => ?_⟩⟩
    obtain ⟨z, hz, rfl⟩ := pickS [Str.ofString "", Str.ofString " ", Str.ofString "1", Str.ofString "true", Str.ofString "null", Str.ofString "b", Str.ofString "a b", Str.ofString "record"] hv
    exact ⟨(by show 2 ≤ sizeLine; decide), fun p hp => txt z _ p ((g1.new hp1).trans g2) hp (sgs z hz).1 (sgs z hz).2⟩
  · refine ⟨_, rfl, _, rfl, (by show 4 ≤ sizeLine; decide), fun p1 hp1 => ?_⟩
    refine ⟨t, _, rfl, g1.tp.new hp1, .inr ⟨p1, _, rfl, g1.tp.ne hp1, .inl (SqL.of upd_same), (by show 1 ≤ 4; decide), (by show 4 ≤ 1000000; decide), fun v H2 hv g2 => ?_⟩⟩
    obtain ⟨m, hm, rfl⟩ := pickN [1, 2, 3, 60] hv (b := 60) rfl
    refine ⟨t, m, rfl, g2.tp, by omega, fun z H3 hz lz g3 => ⟨(by show 2 ≤ sizeLine; decide), fun p hp => ?_⟩⟩
    exact txt z _ p ((g1.new hp1).trans (g2.trans g3)) hp (by omega) hz.sg
/-! ### _law_literal -/
theorem sc_law_literal : FnScope ["tape", "choice"] ["tape"] (defScope s_law_literal) := ⟨rfl, rfl, rfl, by decide +kernel, rfl, by decide +kernel, by decide +kernel⟩

def sp_law_literal (K : PySem.W.Frag) : Sp := fun vs H Q _ => ∃ (t : Addr), vs = [.ref t] ∧ Tape H t ∧ ∀ v c H', Go t H H' → DT K H' v (.tup (scD c)) → scN c → Q v H'

theorem ok_law_literal {f : Addr} {fd : FuncData} (F : Fun K "_law_literal" "_law_literal" s_law_literal f fd) (T : Top K w mg) {a_law_draw : Addr} {d_law_draw : FuncData} (C_law_draw : Cal P w K mg base "_law_draw" 1 ["tape", "many"] sp_law_draw a_law_draw d_law_draw) {a_law_pick : Addr} {d_law_pick : FuncData} (C_law_pick : Cal P w K mg base "_law_pick" 2 ["tape", "row"] sp_law_pick a_law_pick d_law_pick) {a_law_tight_text : Addr} {d_law_tight_text : FuncData} (C_law_tight_text : Cal P w K mg base "_law_tight_text" 3 ["tape", "many"] sp_law_tight_text a_law_tight_text d_law_tight_text) : FnOk P w K mg base CX0 4 f fd ["tape"] (sp_law_literal K) := by
  have sc := sc_law_literal
  refine F.ok sc (fun vs H Q E h => ?_) (fun cdv A outer s H vs Q E hr h => ?_)
  · obtain ⟨t, rfl, _⟩ := h
    rfl
  obtain ⟨t, rfl, hT, q⟩ := h
  refine ⟨_, (pss_cons (ps_set (i := 1) sc.nd rfl (Or.inl rfl) (pe_call C_law_draw.ok (hr.mono (by omega)) (by rfl) C_law_draw.m C_law_draw.kp C_law_draw.b .nil pass0 (pa_cons (pv 0) (pa_cons pe_int pa_nil))))
    (pss_cons (ps_if (pt_cmpR op_lt (pv 1) pe_int (nomark _))
      (pss_one (ps_ret (pe_ix (kx_list (K := K) rfl) (pe_lst (pa_cons (pe_tup (pa_cons pe_str pa_nil)) (pa_cons (pe_tup (pa_cons pe_str pa_nil)) pa_nil))) (pv 1) (fun _ _ => rfl))))
      pss_nil)
    (pss_cons (ps_if (pt_cmpR op_lt (pv 1) pe_int (nomark _))
      (pss_one (ps_ret (pe_tup (pa_cons pe_str (pa_cons (pe_op op_sub (pe_call C_law_draw.ok (hr.mono (by omega)) (by rfl) C_law_draw.m C_law_draw.kp C_law_draw.b .nil pass0 (pa_cons (pv 0) (pa_cons pe_int pa_nil))) pe_int) pa_nil)))))
      pss_nil)
    (pss_cons (ps_if (pt_cmpR op_eq (pv 1) pe_int (nomark _))
      (pss_one (ps_ret (pe_tup (pa_cons pe_str (pa_cons (pe_call C_law_pick.ok (hr.mono (by omega)) (by rfl) C_law_pick.m C_law_pick.kp C_law_pick.b .nil pass0 (pa_cons (pv 0) (pa_cons (pe_lst (pa_cons pe_int (pa_cons pe_int (pa_cons (pe_un un_neg pe_int) (pa_cons pe_int (pa_cons (pe_un un_neg pe_int) (pa_cons pe_int pa_nil))))))) pa_nil))) pa_nil)))))
      pss_nil)
    (pss_cons (ps_if (pt_cmpR op_eq (pv 1) pe_int (nomark _))
      (pss_one (ps_ret (pe_tup (pa_cons pe_str (pa_cons (pe_op op_sub (pe_call C_law_draw.ok (hr.mono (by omega)) (by rfl) C_law_draw.m C_law_draw.kp C_law_draw.b .nil pass0 (pa_cons (pv 0) (pa_cons pe_int pa_nil))) pe_int) pa_nil)))))
      pss_nil)
    (pss_cons (ps_if (pt_cmpR op_eq (pv 1) pe_int (nomark _))
      (pss_one (ps_ret (pe_tup (pa_cons pe_str (pa_cons (pe_call C_law_pick.ok (hr.mono (by omega)) (by rfl) C_law_pick.m C_law_pick.kp C_law_pick.b .nil pass0 (pa_cons (pv 0) (pa_cons (pe_lst (pa_cons pe_str (pa_cons pe_str (pa_cons pe_str (pa_cons pe_str (pa_cons pe_str (pa_cons pe_str (pa_cons pe_str (pa_cons pe_str (pa_cons pe_str (pa_cons pe_str pa_nil))))))))))) pa_nil))) pa_nil)))))
      pss_nil)
    (pss_one (ps_ret (pe_tup (pa_cons pe_str (pa_cons (pe_call C_law_tight_text.ok (hr.mono (by omega)) (by rfl) C_law_tight_text.m C_law_tight_text.kp C_law_tight_text.b .nil pass0 (pa_cons (pv 0) (pa_cons (pe_call C_law_pick.ok (hr.mono (by omega)) (by rfl) C_law_pick.m C_law_pick.kp C_law_pick.b .nil pass0 (pa_cons (pv 0) (pa_cons (pe_lst (pa_cons pe_int (pa_cons pe_int (pa_cons pe_int (pa_cons pe_int (pa_cons pe_int pa_nil)))))) pa_nil))) pa_nil))) pa_nil))))))))))), ?_⟩

  have sgs : ∀ z ∈ [Str.ofString "a", Str.ofString "b", Str.ofString "1", Str.ofString "true", Str.ofString "null", Str.ofString "@", Str.ofString "#", Str.ofString "set", Str.ofString "(", Str.ofString "="], z.length ≤ 60 ∧ ∀ c ∈ z.cps.toList, Sg c := by decide +kernel
  refine ⟨_, rfl, t, 9, rfl, hT, by decide, by decide, fun ch H1 c0 c1 g1 => ?_⟩
  refine ⟨_, rfl, _, _, rfl, rfl, _, rfl, ite2 (fun d => ?_) (fun d => ?_)⟩
  · have d' : ch < 2 := of_decide_eq_true d
    refine ⟨(by show 1 ≤ sizeLine; decide), fun p1 h1 => ⟨(by show 1 ≤ sizeLine; decide), fun p2 h2 => ⟨(by show 2 ≤ sizeLine; decide), fun p4 h4 => ?_⟩⟩⟩
    have g2 := ((g1.new (o := .tup [.str (Str.ofString "true")]) h1).new (o := .tup [.str (Str.ofString "false")]) h2).new (o := .lst [.ref p1, .ref p2]) h4
    have e2 : (upd (upd (upd H1 p1 (.tup [.str (Str.ofString "true")])) p2 (.tup [.str (Str.ofString "false")])) p4 (.lst [.ref p1, .ref p2])) p2 = some (.tup [.str (Str.ofString "false")]) := (same_new h4 _) _ _ upd_same
    have e1 : (upd (upd (upd H1 p1 (.tup [.str (Str.ofString "true")])) p2 (.tup [.str (Str.ofString "false")])) p4 (.lst [.ref p1, .ref p2])) p1 = some (.tup [.str (Str.ofString "true")]) := (same_new h4 _) _ _ ((same_new h2 _) _ _ upd_same)
    have : ch = 0 ∨ ch = 1 := by omega
    rcases this with rfl | rfl
    · exact ⟨_, rfl, p4, _, _, _, rfl, rfl, SqL.of upd_same, rfl, q _ .tru _ g2 (.tup (SqT.of e1) (.cons (.str _) .nil)) trivial⟩
    · exact ⟨_, rfl, p4, _, _, _, rfl, rfl, SqL.of upd_same, rfl, q _ .fals _ g2 (.tup (SqT.of e2) (.cons (.str _) .nil)) trivial⟩
  have num : ∀ (n : Int) (H' : Hp) (p : Addr), Go t H H' → H' p = none → -999999 ≤ n → n ≤ 999999 → Q (.ref p) (upd H' p (.tup [.str (Str.ofString "number"), .int n])) := fun n H' p g hp b1 b2 =>
    q _ (.num n) _ (g.new hp) (.tup (SqT.of upd_same) (.cons (.str _) (.cons (.int _) .nil))) ⟨b1, b2⟩
  have txt : ∀ (s : Str) (H' : Hp) (p : Addr), Go t H H' → H' p = none → s.length ≤ 60 → SgT s → Q (.ref p) (upd H' p (.tup [.str (Str.ofString "text"), .str s])) := fun s H' p g hp b1 b2 =>
    q _ (.text s) _ (g.new hp) (.tup (SqT.of upd_same) (.cons (.str _) (.cons (.str _) .nil))) ⟨b1, b2⟩
  refine ⟨_, rfl, _, _, rfl, rfl, _, rfl, ite2 (fun _ => ?_) (fun _ => ?_)⟩
  · refine ⟨_, rfl, t, 12, rfl, g1.tp, by decide, by decide, fun r H2 r0 r1 g2 => ⟨_, _, rfl, rfl, (by show 2 ≤ sizeLine; decide), fun p hp => ?_⟩⟩
    exact num _ _ p (g1.trans g2) hp (by show -999999 ≤ r - 4; omega) (by show r - 4 ≤ 999999; omega)
  refine ⟨_, rfl, rfl, _, rfl, ite2 (fun _ => ?_) (fun _ => ?_)⟩
  · refine ⟨_, rfl, _, rfl, _, rfl, (by show 6 ≤ sizeLine; decide), fun p1 hp1 => ?_⟩
    refine ⟨t, _, rfl, g1.tp.new hp1, .inr ⟨p1, _, rfl, g1.tp.ne hp1, .inl (SqL.of upd_same), (by show 1 ≤ 6; decide), (by show 6 ≤ 1000000; decide), fun v H2 hv g2 => ?_⟩⟩
    obtain ⟨n, b1, b2, rfl⟩ : ∃ n : Int, -999999 ≤ n ∧ n ≤ 999999 ∧ v = V.int n := by
      simp only [List.mem_cons, List.not_mem_nil, or_false] at hv
      rcases hv with rfl | rfl | rfl | rfl | rfl | rfl
      all_goals exact ⟨_, by decide, by decide, rfl⟩
    exact ⟨(by show 2 ≤ sizeLine; decide), fun p hp => num n _ p ((g1.new hp1).trans g2) hp b1 b2⟩
  refine ⟨_, rfl, rfl, _, rfl, ite2 (fun _ => ?_) (fun _ => ?_)⟩
  · refine ⟨_, rfl, t, 1999999, rfl, g1.tp, by decide, by decide, fun r H2 r0 r1 g2 => ⟨_, _, rfl, rfl, (by show 2 ≤ sizeLine; decide), fun p hp => ?_⟩⟩
    exact num _ _ p (g1.trans g2) hp (by show -999999 ≤ r - 999999; omega) (by show r - 999999 ≤ 999999; omega)
  refine ⟨_, rfl, rfl, _, rfl, ite2 (fun _ => ?_) (fun _ => ?_)⟩
  · refine ⟨_, rfl, (by show 10 ≤ sizeLine; decide), fun p1 hp1 => ?_⟩
    refine ⟨t, _, rfl, g1.tp.new hp1, .inr ⟨p1, _, rfl, g1.tp.ne hp1, .inl (SqL.of upd_same), (by show 1 ≤ 10; decide), (by show 10 ≤ 1000000; decide), fun v H2 hv g2 => ?_⟩⟩
    obtain ⟨z, hz, rfl⟩ := pickS [Str.ofString "a", Str.ofString "b", Str.ofString "1", Str.ofString "true", Str.ofString "null", Str.ofString "@", Str.ofString "#", Str.ofString "set", Str.ofString "(", Str.ofString "="] hv
    exact ⟨(by show 2 ≤ sizeLine; decide), fun p hp => txt z _ p ((g1.new hp1).trans g2) hp (sgs z hz).1 (sgs z hz).2⟩
  · refine ⟨_, rfl, _, rfl, (by show 5 ≤ sizeLine; decide), fun p1 hp1 => ?_⟩
    refine ⟨t, _, rfl, g1.tp.new hp1, .inr ⟨p1, _, rfl, g1.tp.ne hp1, .inl (SqL.of upd_same), (by show 1 ≤ 5; decide), (by show 5 ≤ 1000000; decide), fun v H2 hv g2 => ?_⟩⟩
    obtain ⟨m, hm, rfl⟩ := pickN [1, 1, 2, 3, 30] hv (b := 60) rfl
    refine ⟨t, m, rfl, g2.tp, by omega, fun z H3 hz lz g3 => ⟨(by show 2 ≤ sizeLine; decide), fun p hp => ?_⟩⟩
    exact txt z _ p ((g1.new hp1).trans (g2.trans g3)) hp (by omega) hz.sg
/-! ### _law_pass -/
theorem sc_law_pass : FnScope ["test", "scalar"] ["test", "scalar"] (defScope s_law_pass) := ⟨rfl, rfl, rfl, by decide +kernel, rfl, by decide +kernel, by decide +kernel⟩

def sp_law_pass (K : PySem.W.Frag) : Sp := fun vs H Q _ => ∃ (x y : V) (t : Ts) (c : Sc), vs = [x, y] ∧ DT K H x (tsT t) ∧ DT K H y (.tup (scD c)) ∧ Q (.bl (passB t c)) H

theorem ok_law_pass {f : Addr} {fd : FuncData} (F : Fun K "_law_pass" "_law_pass" s_law_pass f fd) (T : Top K w mg) : FnOk P w K mg base CX0 1 f fd ["test", "scalar"] (sp_law_pass K) := by
  have sc := sc_law_pass
  refine F.ok sc (fun vs H Q E h => ?_) (fun cdv A outer s H vs Q E hr h => ?_)
  · obtain ⟨x, y, t, c, rfl, _⟩ := h
    rfl
  obtain ⟨x, y, t, c, rfl, hx, hy, q⟩ := h
  refine ⟨_, (pss_cons (ps_if (pt_cmpR op_eq (pe_ix (kx_tup (K := K) rfl) (pv 0) pe_int (fun _ _ => rfl)) pe_str (nomark _))
      (pss_one (ps_ret (pe_cmpR (op_eqT (K := K) rfl hr.units) (pv 1) (pe_ix (kx_tup (K := K) rfl) (pv 0) pe_int (fun _ _ => rfl)) (nomark _))))
      pss_nil)
    (pss_cons (ps_if (pt_cmpR op_ne (pe_ix (kx_tup (K := K) rfl) (pv 1) pe_int (fun _ _ => rfl)) pe_str (nomark _))
      (pss_one (ps_ret pe_bl))
      pss_nil)
    (pss_cons (ps_if (pt_cmpR op_eq (pe_ix (kx_tup (K := K) rfl) (pv 0) pe_int (fun _ _ => rfl)) pe_str (nomark _))
      (pss_one (ps_ret (pe_cmpR op_lt (pe_ix (kx_tup (K := K) rfl) (pv 1) pe_int (fun _ _ => rfl)) (pe_ix (kx_tup (K := K) rfl) (pv 0) pe_int (fun _ _ => rfl)) (nomark _))))
      pss_nil)
    (pss_one (ps_ret (pe_cmpR op_gt (pe_ix (kx_tup (K := K) rfl) (pv 1) pe_int (fun _ _ => rfl)) (pe_ix (kx_tup (K := K) rfl) (pv 0) pe_int (fun _ _ => rfl)) (nomark _))))))), ?_⟩

  obtain ⟨a, u, rfl, hS, he, hl, hg⟩ := ts_tup hx
  obtain ⟨b, ys, rfl, hT, h0, hn, ht⟩ := sc_tup hy
  refine ⟨_, rfl, a, _, 0, _, rfl, rfl, hS, rfl, rfl, _, rfl, ?_⟩
  cases t with
  | eq d =>
    exact iteT ⟨_, rfl, _, rfl, a, _, 1, _, rfl, rfl, hS, rfl, scD c, scD d, hy, he d rfl, deeps_scD c, q⟩
  | lt n =>
    have hu := hl n rfl
    subst hu
    refine iteF ⟨_, rfl, b, _, 0, _, rfl, rfl, hT, atI_nat h0, rfl, _, rfl, ?_⟩
    cases c with
    | num m => exact iteF ⟨_, rfl, a, _, 0, _, rfl, rfl, hS, rfl, rfl, _, rfl, iteT ⟨_, rfl, b, _, 1, _, rfl, rfl, hT, atI_nat (hn m rfl), _, rfl, a, _, 1, _, rfl, rfl, hS, rfl, _, _, rfl, rfl, q⟩⟩
    | text m => exact iteT q
    | _ => exact iteT q
  | gt n =>
    have hu := hg n rfl
    subst hu
    refine iteF ⟨_, rfl, b, _, 0, _, rfl, rfl, hT, atI_nat h0, rfl, _, rfl, ?_⟩
    cases c with
    | num m => exact iteF ⟨_, rfl, a, _, 0, _, rfl, rfl, hS, rfl, rfl, _, rfl, iteF ⟨_, rfl, b, _, 1, _, rfl, rfl, hT, atI_nat (hn m rfl), _, rfl, a, _, 1, _, rfl, rfl, hS, rfl, _, _, rfl, rfl, q⟩⟩
    | text m => exact iteT q
    | _ => exact iteT q
/-! ### _law_passes -/
theorem sc_law_passes : FnScope ["tests", "scalar", "test"] ["tests", "scalar"] (defScope s_law_passes) := ⟨rfl, rfl, rfl, by decide +kernel, rfl, by decide +kernel, by decide +kernel⟩

def sp_law_passes (K : PySem.W.Frag) : Sp := fun vs H Q _ => ∃ (p : Addr) (xs : List V) (y : V) (ts : List Ts) (c : Sc), vs = [.ref p, y] ∧ SqL K H p xs ∧ DTs K H xs (ts.map tsT) ∧ ts.length ≤ 1000000 ∧ DT K H y (.tup (scD c)) ∧ ∀ r H', Same H H' → H' r = some (.lst (ts.map fun t => .bl (passB t c))) → Q (.ref r) H'

theorem ok_law_passes {f : Addr} {fd : FuncData} (F : Fun K "_law_passes" "_law_passes" s_law_passes f fd) (T : Top K w mg) {a_law_pass : Addr} {d_law_pass : FuncData} (C_law_pass : Cal P w K mg base "_law_pass" 1 ["test", "scalar"] sp_law_pass a_law_pass d_law_pass) : FnOk P w K mg base CX0 2 f fd ["tests", "scalar"] (sp_law_passes K) := by
  have sc := sc_law_passes
  refine F.ok sc (fun vs H Q E h => ?_) (fun cdv A outer s H vs Q E hr h => ?_)
  · obtain ⟨p, xs, y, ts, c, rfl, _⟩ := h
    rfl
  obtain ⟨p, xs, y, ts, c, rfl, hS, hts, lt, hy, q⟩ := h
  refine ⟨_, (pss_one (ps_ret (pe_lc (own := [("test", 2)]) (g := gName 2) (tt := tYes) rfl sc.nd (kpi_list (K := K) rfl (pv 0)) (blkOk_by (N := ["tests", "scalar", "test"]) (sc := defScope s_law_passes) (by decide +kernel)) (fun _ _ _ _ _ => pg_name (i := 2) sc.nd rfl (Or.inl rfl)) (fun _ _ _ _ _ => pts_nil) (fun _ _ _ _ _ => (pe_call C_law_pass.ok (hr.mono (by omega)) (by rfl) C_law_pass.m C_law_pass.kp C_law_pass.b .nil pass0 (pa_cons (pv 2) (pa_cons (pv 1) pa_nil))))))), ?_⟩

  have hl : xs.length = ts.length := by rw [hts.length, List.length_map]
  refine ⟨_, rfl, p, rfl, ⟨_, hS⟩, fun D hD => ?_⟩
  refine lc_it (walk_list (K := K) (a := p) (xs := xs)) (fun i H' => H' = upd H D (.lst ((ts.take i).map fun t => V.bl (passB t c)))) rfl (fun i H' _ e => e ▸ (same_new hD _).seq hS) ?_ ?_
  · rintro i x H1 H2 hi rfl ⟨rfl, hx⟩
    obtain ⟨d, ed, hd⟩ := hts.get' hx
    rw [List.getElem?_map] at ed
    obtain ⟨t, et, rfl⟩ := Option.map_eq_some_iff.mp ed
    obtain ⟨hl2, ew⟩ := List.getElem?_eq_some_iff.mp et
    refine ⟨wipe_back, _, rfl, _, rfl, x, y, t, c, rfl, hd.same (same_new hD _), hy.same (same_new hD _), _, upd_same, ?_, ?_⟩
    · rw [List.length_map, List.length_take]
      exact lt_line (by omega)
    · rw [upd_upd, List.take_succ_eq_append_getElem hl2, ew, List.map_append]
      rfl
  · rintro H1 rfl
    refine q D _ (same_new hD _) ?_
    rw [hl, List.take_length]
    exact upd_same
/-! ### _law_test_numbers -/
theorem sc_law_test_numbers : FnScope ["tests", "numbers", "test"] ["tests"] (defScope s_law_test_numbers) := ⟨rfl, rfl, rfl, by decide +kernel, rfl, by decide +kernel, by decide +kernel⟩

def numB (n : Int) : Prop := -999999 ≤ n ∧ n ≤ 999999
def sp_law_test_numbers (K : PySem.W.Frag) : Sp := fun vs H Q _ => ∃ (p : Addr) (xs : List V) (ts : List Ts), vs = [.ref p] ∧ SqL K H p xs ∧ DTs K H xs (ts.map tsT) ∧ ts.length ≤ 1000 ∧ (∀ t ∈ ts, tsN t) ∧ ∀ r (ns : List Int) H', Same H H' → H r = none → H' r = some (.lst (ns.map V.int)) → 1 ≤ ns.length → ns.length ≤ 1001 → (∀ n ∈ ns, numB n) → Q (.ref r) H'

theorem ok_law_test_numbers {f : Addr} {fd : FuncData} (F : Fun K "_law_test_numbers" "_law_test_numbers" s_law_test_numbers f fd) (T : Top K w mg) : FnOk P w K mg base CX0 1 f fd ["tests"] (sp_law_test_numbers K) := by
  have sc := sc_law_test_numbers
  refine F.ok sc (fun vs H Q E h => ?_) (fun cdv A outer s H vs Q E hr h => ?_)
  · obtain ⟨p, xs, ts, rfl, _⟩ := h
    rfl
  obtain ⟨p, xs, ts, rfl, hS, hts, lt, hn, q⟩ := h
  refine ⟨_, (pss_cons (ps_set (i := 1) sc.nd rfl (Or.inl rfl) (pe_lst (pa_cons pe_int pa_nil)))
    (pss_cons (ps_for PassesOwn.never rfl (kpi_list (K := K) rfl (pv 0)) (pg_name (i := 2) sc.nd rfl (Or.inl rfl))
      (pss_one (ps_if (pt_cmpR op_ne (pe_ix (kx_tup (K := K) rfl) (pv 2) pe_int (fun _ _ => rfl)) pe_str (nomark _))
        (pss_one (ps_expr (pe_bm PySem.F.plainAttrs_list PySem.F.slot_list_append PySem.F.type_list_append mt_append (pv 1) (pa_cons (pe_ix (kx_tup (K := K) rfl) (pv 2) pe_int (fun _ _ => rfl)) pa_nil))))
        (pss_one (ps_if (pt_cmpR op_eq (pe_ix (kx_tup (K := K) rfl) (pe_ix (kx_tup (K := K) rfl) (pv 2) pe_int (fun _ _ => rfl)) pe_int (fun _ _ => rfl)) pe_str (nomark _))
          (pss_one (ps_expr (pe_bm PySem.F.plainAttrs_list PySem.F.slot_list_append PySem.F.type_list_append mt_append (pv 1) (pa_cons (pe_ix (kx_tup (K := K) rfl) (pe_ix (kx_tup (K := K) rfl) (pv 2) pe_int (fun _ _ => rfl)) pe_int (fun _ _ => rfl)) pa_nil))))
          pss_nil)))))
    (pss_one (ps_ret (pv 1))))), ?_⟩

  have hl : xs.length = ts.length := by rw [hts.length, List.length_map]
  refine ⟨(by show 1 ≤ sizeLine; decide), fun W hW => ?_⟩
  have s1 := same_new hW (.lst [V.int 0])
  refine ⟨_, rfl, p, rfl, ⟨_, s1.seq hS⟩, ?_⟩
  refine for_it (walk_list (K := K) (a := p) (xs := xs)) (fun i σ H' => Same H H' ∧ ∃ (ns : List Int) (v2 : Option V), H' W = some (.lst (ns.map V.int)) ∧ 1 ≤ ns.length ∧ ns.length ≤ i + 1 ∧ (∀ n ∈ ns, numB n) ∧ σ = [some (.ref p), some (.ref W), v2]) ⟨s1, [0], _, upd_same, Nat.le_refl _, Nat.le_refl _, (fun n hn => by rw [List.mem_singleton.mp hn]; exact ⟨by decide, by decide⟩), rfl⟩ (fun i σ H' _ h => h.1.seq hS) ?_ ?_
  · rintro i x σ H2 H3 hi ⟨s2, ns, v2, eW, l1, l2, hns, rfl⟩ ⟨rfl, hx⟩
    obtain ⟨d, ed, hd⟩ := hts.get' hx
    rw [List.getElem?_map] at ed
    obtain ⟨t, et, rfl⟩ := Option.map_eq_some_iff.mp ed
    have tn := hn t (List.mem_of_getElem? et)
    obtain ⟨a, u, rfl, hA, he, hlt, hgt⟩ := ts_tup (hd.same s2)
    have add : ∀ n : Int, numB n → Same H (upd H3 W (.lst (ns.map V.int ++ [.int n]))) ∧ ∃ (ms : List Int) (v2 : Option V), (upd H3 W (.lst (ns.map V.int ++ [.int n]))) W = some (.lst (ms.map V.int)) ∧ 1 ≤ ms.length ∧ ms.length ≤ i + 1 + 1 ∧ (∀ n ∈ ms, numB n) ∧ [some (.ref p), some (.ref W), some (.ref a)] = [some (.ref p), some (.ref W), v2] := fun n hb =>
      ⟨s2.late hW, ns ++ [n], _, by rw [upd_same, List.map_append]; rfl, by rw [List.length_append]; omega, by rw [List.length_append]; show ns.length + 1 ≤ _; omega, (fun m hm => by
        rcases List.mem_append.mp hm with h | h
        · exact hns m h
        · rw [List.mem_singleton.mp h]; exact hb), rfl⟩
    refine ⟨_, rfl, a, _, 0, _, rfl, rfl, hA, rfl, rfl, _, rfl, ?_⟩
    have lline : (ns.map V.int).length < sizeLine := lt_line (by rw [List.length_map]; omega)
    cases t with
    | lt n =>
      have hu := hlt n rfl
      subst hu
      exact iteT ⟨_, rfl, .inl ⟨rfl, _, SqL.of eW⟩, _, rfl, a, _, 1, _, rfl, rfl, hA, rfl, W, _, _, rfl, rfl, eW, lline, add n tn⟩
    | gt n =>
      have hu := hgt n rfl
      subst hu
      exact iteT ⟨_, rfl, .inl ⟨rfl, _, SqL.of eW⟩, _, rfl, a, _, 1, _, rfl, rfl, hA, rfl, W, _, _, rfl, rfl, eW, lline, add n tn⟩
    | eq c =>
      obtain ⟨b, ys, rfl, hB, h0, hnm, htx⟩ := sc_tup (he c rfl)
      refine iteF ⟨_, rfl, a, _, 1, _, rfl, rfl, hA, rfl, b, _, 0, _, rfl, rfl, hB, atI_nat h0, rfl, _, rfl, ?_⟩
      have stay : Same H H3 ∧ ∃ (ms : List Int) (v2 : Option V), H3 W = some (.lst (ms.map V.int)) ∧ 1 ≤ ms.length ∧ ms.length ≤ i + 1 + 1 ∧ (∀ n ∈ ms, numB n) ∧ [some (.ref p), some (.ref W), some (.ref a)] = [some (.ref p), some (.ref W), v2] := ⟨s2, ns, _, eW, l1, by omega, hns, rfl⟩
      cases c with
      | num n => exact iteT ⟨_, rfl, .inl ⟨rfl, _, SqL.of eW⟩, _, rfl, a, _, 1, _, rfl, rfl, hA, rfl, b, _, 1, _, rfl, rfl, hB, atI_nat (hnm n rfl), W, _, _, rfl, rfl, eW, lline, add n tn⟩
      | text m => exact iteF stay
      | _ => exact iteF stay
  · rintro σ H2 ⟨s2, ns, v2, eW, l1, l2, hns, rfl⟩
    exact ⟨_, rfl, q W ns H2 s2 hW eW l1 (by omega) hns⟩
/-! ### _law_test -/
theorem sc_law_test : FnScope ["tape", "literal", "number"] ["tape"] (defScope s_law_test) := ⟨rfl, rfl, rfl, by decide +kernel, rfl, by decide +kernel, by decide +kernel⟩

def sp_law_test (K : PySem.W.Frag) : Sp := fun vs H Q _ => ∃ (t : Addr), vs = [.ref t] ∧ Tape H t ∧ ∀ v c H', Go t H H' → DT K H' v (tsT c) → tsN c → Q v H'

theorem ok_law_test {f : Addr} {fd : FuncData} (F : Fun K "_law_test" "_law_test" s_law_test f fd) (T : Top K w mg) {a_law_draw : Addr} {d_law_draw : FuncData} (C_law_draw : Cal P w K mg base "_law_draw" 1 ["tape", "many"] sp_law_draw a_law_draw d_law_draw) {a_law_pick : Addr} {d_law_pick : FuncData} (C_law_pick : Cal P w K mg base "_law_pick" 2 ["tape", "row"] sp_law_pick a_law_pick d_law_pick) {a_law_literal : Addr} {d_law_literal : FuncData} (C_law_literal : Cal P w K mg base "_law_literal" 4 ["tape"] sp_law_literal a_law_literal d_law_literal) : FnOk P w K mg base CX0 5 f fd ["tape"] (sp_law_test K) := by
  have sc := sc_law_test
  refine F.ok sc (fun vs H Q E h => ?_) (fun cdv A outer s H vs Q E hr h => ?_)
  · obtain ⟨t, rfl, _⟩ := h
    rfl
  obtain ⟨t, rfl, hT, q⟩ := h
  refine ⟨_, (pss_cons (ps_set (i := 1) sc.nd rfl (Or.inl rfl) (pe_call C_law_literal.ok (hr.mono (by omega)) (by rfl) C_law_literal.m C_law_literal.kp C_law_literal.b .nil pass0 (pa_cons (pv 0) pa_nil)))
    (pss_cons (ps_if (pt_cmpR op_eq (pe_call C_law_draw.ok (hr.mono (by omega)) (by rfl) C_law_draw.m C_law_draw.kp C_law_draw.b .nil pass0 (pa_cons (pv 0) (pa_cons pe_int pa_nil))) pe_int (nomark _))
      (pss_one (ps_ret (pe_tup (pa_cons pe_str (pa_cons (pv 1) pa_nil)))))
      pss_nil)
    (pss_cons (ps_set (i := 2) sc.nd rfl (Or.inl rfl) (pe_op op_sub (pe_call C_law_draw.ok (hr.mono (by omega)) (by rfl) C_law_draw.m C_law_draw.kp C_law_draw.b .nil pass0 (pa_cons (pv 0) (pa_cons pe_int pa_nil))) pe_int))
    (C8.pss_cut (ps_if (PW.pt (pw_and (pt_cmpR op_eq (pe_ix (kx_tup (K := K) rfl) (pv 1) pe_int (fun _ _ => rfl)) pe_str (nomark _)) (pw_and1 (pt_cmpR op_eq (pe_call C_law_draw.ok (hr.mono (by omega)) (by rfl) C_law_draw.m C_law_draw.kp C_law_draw.b .nil pass0 (pa_cons (pv 0) (pa_cons pe_int pa_nil))) pe_int (nomark _)))))
      (pss_one (ps_set (i := 2) sc.nd rfl (Or.inl rfl) (pe_ix (kx_tup (K := K) rfl) (pv 1) pe_int (fun _ _ => rfl))))
      pss_nil)
    (pss_one (ps_ret (pe_tup (pa_cons (pe_call C_law_pick.ok (hr.mono (by omega)) (by rfl) C_law_pick.m C_law_pick.kp C_law_pick.b .nil pass0 (pa_cons (pv 0) (pa_cons (pe_lst (pa_cons pe_str (pa_cons pe_str pa_nil))) pa_nil))) (pa_cons (pv 2) pa_nil))))))))), ?_⟩

  refine ⟨_, rfl, t, rfl, hT, fun v c H1 g1 dv hc => ?_⟩
  refine ⟨_, rfl, t, 2, rfl, g1.tp, by decide, by decide, fun r H2 r0 r1 g2 => ⟨rfl, _, rfl, ite2 (fun _ => ?_) (fun _ => ?_)⟩⟩
  · have dv2 := dv.go g1.tp g2.sm
    exact ⟨_, rfl, (by show 2 ≤ sizeLine; decide), fun p hp => q _ (.eq c) _ ((g1.trans g2).new hp) (.tup (SqT.of upd_same) (.cons (.str _) (.cons (dv2.same (same_new hp _)) .nil))) hc⟩
  have dv2 := dv.go g1.tp g2.sm
  refine ⟨_, rfl, t, 12, rfl, g2.tp, by decide, by decide, fun n H3 n0 n1 g3 => ?_⟩
  have dv3 := dv2.go g2.tp g3.sm
  obtain ⟨a, xs, rfl, hS, h0, hn, ht⟩ := sc_tup dv3
  refine ⟨_, _, rfl, rfl, ?_⟩
  refine ⟨fun σ H' => ∃ m : Int, Go t H3 H' ∧ -999999 ≤ m ∧ m ≤ 999999 ∧ σ = [some (.ref t), some (.ref a), some (.int m)], ?_, ?_⟩
  · refine ⟨_, rfl, a, _, 0, _, rfl, rfl, hS, atI_nat h0, rfl, _, rfl, ?_⟩
    have stay : ∃ m : Int, Go t H3 H3 ∧ -999999 ≤ m ∧ m ≤ 999999 ∧ [some (V.ref t), some (.ref a), some (.int (n - 5))] = [some (.ref t), some (.ref a), some (.int m)] := ⟨n - 5, Go.refl g3.tp, by omega, by omega, rfl⟩
    cases c with
    | num k =>
      refine iteT ⟨_, rfl, t, 2, rfl, g3.tp, by decide, by decide, fun r H4 r0 r1 g4 => ⟨rfl, _, rfl, ite2 (fun _ => ?_) (fun _ => ?_)⟩⟩
      · refine ⟨_, rfl, a, _, 1, _, rfl, rfl, seqT_go g3.tp g4.sm hS, atI_nat (hn k rfl), k, g4, hc.1, hc.2, rfl⟩
      · exact ⟨n - 5, g4, by omega, by omega, rfl⟩
    | text m => exact iteF (iteF stay)
    | recd => exact absurd hc (fun z => z)
    | _ => exact iteF (iteF stay)
  · rintro σ H4 ⟨m, g4, m1, m2, rfl⟩
    refine ⟨_, rfl, (by show 2 ≤ sizeLine; decide), fun p1 hp1 => ?_⟩
    refine ⟨t, _, rfl, g4.tp.new hp1, .inr ⟨p1, _, rfl, g4.tp.ne hp1, .inl (SqL.of upd_same), (by show 1 ≤ 2; decide), (by show 2 ≤ 1000000; decide), fun v H5 hv g5 => ?_⟩⟩
    have g5 := (((g1.trans g2).trans g3).trans g4).trans (((Go.refl g4.tp).new hp1).trans g5)
    simp only [List.mem_cons, List.not_mem_nil, or_false] at hv
    rcases hv with rfl | rfl
    · exact ⟨_, rfl, (by show 2 ≤ sizeLine; decide), fun p hp => q _ (.lt m) _ (g5.new hp) (.tup (SqT.of upd_same) (.cons (.str _) (.cons (.int _) .nil))) ⟨m1, m2⟩⟩
    · exact ⟨_, rfl, (by show 2 ≤ sizeLine; decide), fun p hp => q _ (.gt m) _ (g5.new hp) (.tup (SqT.of upd_same) (.cons (.str _) (.cons (.int _) .nil))) ⟨m1, m2⟩⟩
/-! ### _law_scalar_near -/
theorem sc_law_scalar_near : FnScope ["tape", "tests", "number", "choice", "equal", "test"] ["tape", "tests"] (defScope s_law_scalar_near) := ⟨rfl, rfl, rfl, by decide +kernel, rfl, by decide +kernel, by decide +kernel⟩

def sp_law_scalar_near (K : PySem.W.Frag) : Sp := fun vs H Q _ => ∃ (t p : Addr) (xs : List V) (ts : List Ts), vs = [.ref t, .ref p] ∧ Tape H t ∧ p ≠ t ∧ SqL K H p xs ∧ DTs K H xs (ts.map tsT) ∧ ts.length ≤ 1000 ∧ (∀ t ∈ ts, tsN t) ∧ ∀ v c H', Go t H H' → DT K H' v (.tup (scD c)) → scOk c → c ≠ .recd → Q v H'

theorem ok_law_scalar_near {f : Addr} {fd : FuncData} (F : Fun K "_law_scalar_near" "_law_scalar_near" s_law_scalar_near f fd) (T : Top K w mg) {a_law_draw : Addr} {d_law_draw : FuncData} (C_law_draw : Cal P w K mg base "_law_draw" 1 ["tape", "many"] sp_law_draw a_law_draw d_law_draw) {a_law_pick : Addr} {d_law_pick : FuncData} (C_law_pick : Cal P w K mg base "_law_pick" 2 ["tape", "row"] sp_law_pick a_law_pick d_law_pick) {a_law_scalar : Addr} {d_law_scalar : FuncData} (C_law_scalar : Cal P w K mg base "_law_scalar" 4 ["tape"] sp_law_scalar a_law_scalar d_law_scalar) {a_law_test_numbers : Addr} {d_law_test_numbers : FuncData} (C_law_test_numbers : Cal P w K mg base "_law_test_numbers" 1 ["tests"] sp_law_test_numbers a_law_test_numbers d_law_test_numbers) : FnOk P w K mg base CX0 5 f fd ["tape", "tests"] (sp_law_scalar_near K) := by
  have sc := sc_law_scalar_near
  refine F.ok sc (fun vs H Q E h => ?_) (fun cdv A outer s H vs Q E hr h => ?_)
  · obtain ⟨t, p, xs, ts, rfl, _⟩ := h
    rfl
  obtain ⟨t, p, xs, ts, rfl, hT, np, hS, hts, lt, hn, q⟩ := h
  refine ⟨_, (pss_cons (ps_set (i := 2) sc.nd rfl (Or.inl rfl) (pe_call C_law_pick.ok (hr.mono (by omega)) (by rfl) C_law_pick.m C_law_pick.kp C_law_pick.b .nil pass0 (pa_cons (pv 0) (pa_cons (pe_call C_law_test_numbers.ok (hr.mono (by omega)) (by rfl) C_law_test_numbers.m C_law_test_numbers.kp C_law_test_numbers.b .nil pass0 (pa_cons (pv 1) pa_nil)) pa_nil))))
    (pss_cons (ps_set (i := 3) sc.nd rfl (Or.inl rfl) (pe_call C_law_draw.ok (hr.mono (by omega)) (by rfl) C_law_draw.m C_law_draw.kp C_law_draw.b .nil pass0 (pa_cons (pv 0) (pa_cons pe_int pa_nil))))
    (pss_cons (ps_if (pt_cmpR op_lt (pv 3) pe_int (nomark _))
      (pss_one (ps_ret (pe_tup (pa_cons pe_str (pa_cons (pe_op op_sub (pe_op op_add (pv 2) (pe_call C_law_draw.ok (hr.mono (by omega)) (by rfl) C_law_draw.m C_law_draw.kp C_law_draw.b .nil pass0 (pa_cons (pv 0) (pa_cons pe_int pa_nil)))) pe_int) pa_nil)))))
      pss_nil)
    (pss_cons (ps_if (pt_cmpR op_eq (pv 3) pe_int (nomark _))
      (pss_one (ps_ret (pe_tup (pa_cons pe_str (pa_cons (pe_callTy call_str_int (by rfl) T.z_str (by decide +kernel) (pa_cons (pv 2) pa_nil)) pa_nil)))))
      pss_nil)
    (pss_cons (ps_setLc (i := 4) (own := [("test", 5)]) (g := gName 5) rfl sc.nd rfl rfl (sw_true rfl rfl rfl (by decide +kernel)) (kpi_list (K := K) rfl (pv 1)) (blkOk_by (N := ["tape", "tests", "number", "choice", "equal", "test"]) (sc := defScope s_law_scalar_near) (by decide +kernel)) (fun _ _ _ _ _ => pg_name (i := 5) sc.nd rfl (Or.inl rfl)) (fun _ _ _ _ _ => pts_one (pt_cmpR op_eq (pe_ix (kx_tup (K := K) rfl) (pv 5) pe_int (fun _ _ => rfl)) pe_str (nomark _))) (fun _ _ _ _ _ => (pe_ix (kx_tup (K := K) rfl) (pv 5) pe_int (fun _ _ => rfl))))
    (C8.pss_cut (ps_if (PW.pt (pw_and (pt_cmpR op_lt (pv 3) pe_int (nomark _)) (pw_and1 (pt_cmpR (kop_neD (K := K) rfl hr.units) (pv 4) (pe_lst pa_nil) (nomark _)))))
      (pss_one (ps_ret (pe_call C_law_pick.ok (hr.mono (by omega)) (by rfl) C_law_pick.m C_law_pick.kp C_law_pick.b .nil pass0 (pa_cons (pv 0) (pa_cons (pv 4) pa_nil)))))
      pss_nil)
    (pss_one (ps_ret (pe_call C_law_scalar.ok (hr.mono (by omega)) (by rfl) C_law_scalar.m C_law_scalar.kp C_law_scalar.b .nil pass0 (pa_cons (pv 0) pa_nil)))))))))), ?_⟩

  have num : ∀ (n : Int) (H' : Hp) (p : Addr), Go t H H' → H' p = none → -1000000000 ≤ n → n ≤ 1000000000 → Q (.ref p) (upd H' p (.tup [.str (Str.ofString "number"), .int n])) := fun n H' p g hp b1 b2 =>
    q _ (.num n) _ (g.new hp) (.tup (SqT.of upd_same) (.cons (.str _) (.cons (.int _) .nil))) ⟨b1, b2⟩ (by intro z; cases z)
  refine ⟨_, rfl, _, rfl, p, xs, ts, rfl, hS, hts, lt, hn, fun r ns H1 s1 hr e1 l1 l2 hb => ?_⟩
  have g1 := Go.same hT s1
  have nr : r ≠ t := hT.ne hr
  refine ⟨t, _, rfl, g1.tp, .inr ⟨r, _, rfl, nr, .inl (SqL.of e1), by rw [List.length_map]; exact l1, by rw [List.length_map]; omega, fun v H2 hv g2 => ?_⟩⟩
  obtain ⟨n, hm, rfl⟩ := List.mem_map.mp hv
  have nb := hb n hm
  have nb1 := nb.1
  have nb2 := nb.2
  have g2 := g1.trans g2
  refine ⟨_, rfl, t, 8, rfl, g2.tp, by decide, by decide, fun ch H3 c0 c1 g3 => ?_⟩
  have g3 := g2.trans g3
  refine ⟨_, rfl, _, _, rfl, rfl, _, rfl, ite2 (fun _ => ?_) (fun _ => ?_)⟩
  · refine ⟨_, rfl, _, rfl, t, 5, rfl, g3.tp, by decide, by decide, fun r H4 r0 r1 g4 => ⟨_, _, rfl, rfl, _, _, rfl, rfl, (by show 2 ≤ sizeLine; decide), fun p hp => ?_⟩⟩
    exact num _ _ p (g3.trans g4) hp (by show -1000000000 ≤ n + r - 2; omega) (by show n + r - 2 ≤ 1000000000; omega)
  refine ⟨_, rfl, rfl, _, rfl, ite2 (fun _ => ?_) (fun _ => ?_)⟩
  · have lg : n.natAbs.log2 < 1920 := by
      have h1 : n.natAbs < 2 ^ 64 := by omega
      have h2 : n.natAbs.log2 < 64 ∨ n.natAbs = 0 := by
        by_cases z : n.natAbs = 0
        · exact .inr z
        · exact .inl ((Nat.log2_lt z).mpr h1)
      rcases h2 with h2 | h2
      · omega
      · rw [h2]; decide
    have ln := num_len (n := n) (by omega)
    refine ⟨_, rfl, _, rfl, lg, (by show 2 ≤ sizeLine; decide), fun p hp => ?_⟩
    exact q _ (.text (Str.ofString (toString n))) _ (g3.new hp) (.tup (SqT.of upd_same) (.cons (.str _) (.cons (.str _) .nil))) ⟨by omega, num_sg n⟩ (by intro z; cases z)
  have hS3 := g3.sm.seqL np hS
  have hts3 := hts.go hT g3.sm
  have hl : xs.length = ts.length := by rw [hts.length, List.length_map]
  refine ⟨_, rfl, p, rfl, ⟨_, hS3⟩, fun D hD => ?_⟩
  refine lc_it (walk_list (K := K) (a := p) (xs := xs)) (fun i H' => ∃ (acc : List V) (cs : List Sc), H' = upd H3 D (.lst acc) ∧ DTs K H3 acc (cs.map fun c => .tup (scD c)) ∧ cs.length ≤ i ∧ ∀ c ∈ cs, scN c) ⟨[], [], rfl, .nil, Nat.zero_le _, fun _ h => by cases h⟩ (fun i H' _ e => by obtain ⟨acc, cs, rfl, _⟩ := e; exact (same_new hD _).seq hS3) ?_ ?_
  · rintro i x H4 H5 hi ⟨acc, cs, rfl, ha, lc, hc⟩ ⟨rfl, hx⟩
    obtain ⟨u, ed, hd⟩ := hts3.get' hx
    rw [List.getElem?_map] at ed
    obtain ⟨tt, et, rfl⟩ := Option.map_eq_some_iff.mp ed
    have tn := hn tt (List.mem_of_getElem? et)
    obtain ⟨a, u, rfl, hA, he, hlt, hgt⟩ := ts_tup hd
    have hA' := (same_new hD (.lst acc)).seqT hA
    refine ⟨wipe_back, ?_⟩
    refine ⟨_, rfl, a, _, 0, _, rfl, rfl, hA', rfl, rfl, _, rfl, ?_⟩
    have stay : ∃ (acc' : List V) (cs : List Sc), upd H3 D (.lst acc) = upd H3 D (.lst acc') ∧ DTs K H3 acc' (cs.map fun c => .tup (scD c)) ∧ cs.length ≤ i + 1 ∧ ∀ c ∈ cs, scN c := ⟨acc, cs, rfl, ha, by omega, hc⟩
    cases tt with
    | lt n => exact iteF stay
    | gt n => exact iteF stay
    | eq c =>
      refine iteT ⟨_, rfl, a, _, 1, _, rfl, rfl, hA', rfl, acc, upd_same, ?_, acc ++ [u], cs ++ [c], by rw [upd_upd], ?_, by rw [List.length_append]; show cs.length + 1 ≤ _; omega, fun d hd => ?_⟩
      · have := ha.length
        rw [List.length_map] at this
        exact lt_line (by omega)
      · rw [List.map_append]
        exact ha.append (.cons (he c rfl) .nil)
      · rcases List.mem_append.mp hd with h | h
        · exact hc d h
        · rw [List.mem_singleton.mp h]; exact tn
  · rintro H4 ⟨acc, cs, rfl, ha, lc, hc⟩
    have nD : D ≠ t := g3.tp.ne hD
    have g4 := g3.new (o := .lst acc) hD
    have eD : upd H3 D (.lst acc) D = some (.lst acc) := upd_same
    have ha4 := ha.same (same_new hD (.lst acc))
    generalize upd H3 D (.lst acc) = H4 at *
    have la := ha.length
    rw [List.length_map] at la
    have lays : Dt.lays (cs.map fun c => .tup (scD c)) = true := lays_of fun d hd => by
      obtain ⟨c, hm, rfl⟩ := List.mem_map.mp hd
      exact lay_sc (hc c hm).ok
    have deeps : Dt.deeps (cs.map fun c => .tup (scD c)) ≤ 60 := deeps_le fun d hd => by
      obtain ⟨c, hm, rfl⟩ := List.mem_map.mp hd
      have := deep_scD c
      omega
    refine ⟨fun σ H' => Go t H4 H' ∧ ∃ v5, σ = [some (.ref t), some (.ref p), some (.int n), some (.int ch), some (.ref D), v5], ?_, ?_⟩
    · refine ⟨_, rfl, _, _, rfl, rfl, _, rfl, ite2 (fun _ => ?_) (fun _ => ?_)⟩
      · refine ⟨_, rfl, (by show 0 ≤ sizeLine; decide), fun o ho => ?_⟩
        have s5 := same_new ho (.lst [])
        refine ne_nil (SqL.of (s5 _ _ eD)) (ha4.same s5) lays deeps (SqL.of upd_same) ⟨_, rfl, ?_⟩
        have g5 : Go t H4 (upd H4 o (.lst [])) := Go.same g4.tp s5
        have eD5 := s5 _ _ eD
        have ha5 := ha4.same s5
        generalize upd H4 o (.lst []) = H5 at *
        cases cs with
        | nil => exact iteF ⟨g5, _, rfl⟩
        | cons c0 cs =>
          refine iteT ⟨_, rfl, _, rfl, t, _, rfl, g5.tp, .inr ⟨D, acc, rfl, nD, .inl (SqL.of eD5), by rw [la]; show 1 ≤ cs.length + 1; omega, by omega, fun v H6 hv g6 => ?_⟩⟩
          obtain ⟨iv, ei⟩ := List.getElem?_of_mem hv
          obtain ⟨d, ed, dv⟩ := (ha5.go g5.tp g6.sm).get' ei
          obtain ⟨c, hm, rfl⟩ := List.mem_map.mp (List.mem_of_getElem? ed)
          exact q v c H6 (g4.trans (g5.trans g6)) dv (hc c hm).ok (fun z => by subst z; exact hc .recd hm)
      · exact iteF ⟨Go.refl g4.tp, _, rfl⟩
    · rintro σ H5 ⟨g5, v5, rfl⟩
      exact ⟨_, rfl, t, rfl, g5.tp, fun v c H6 g6 dv ok nc => q v c H6 (g4.trans (g5.trans g6)) dv ok nc⟩
/-! ### law -/
theorem sc_law : FnScope ["script", "tape", "tests", "scalars", "other", "first", "test", "second", "k", "due"] ["script"] (defScope s_law) := ⟨rfl, rfl, rfl, by decide +kernel, rfl, by decide +kernel, by decide +kernel⟩

def scT (c : Sc) : Dt := .tup (scD c)


def sp_law (K : PySem.W.Frag) : Sp := fun vs H Q _ => ∃ (a : Addr) (ns : List Int), vs = [.ref a] ∧ SqL K H a (ns.map V.int) ∧ ns.length ≤ 63 ∧ ∀ H', Q (.bl true) H'

theorem ok_law {f : Addr} {fd : FuncData} (F : Fun K "law" "law" s_law f fd) (T : Top K w mg) {a_passes : Addr} {d_passes : FuncData} (C_passes : Cal P w K mg base "passes" 1 ["test", "scalar"] sp_passes a_passes d_passes) {a_alike : Addr} {d_alike : FuncData} (C_alike : Cal P w K mg base "alike" 2 ["tests", "first", "second"] sp_alike a_alike d_alike) {a_law_tape : Addr} {d_law_tape : FuncData} (C_law_tape : Cal P w K mg base "_law_tape" 1 ["script"] sp_law_tape a_law_tape d_law_tape) {a_law_pick : Addr} {d_law_pick : FuncData} (C_law_pick : Cal P w K mg base "_law_pick" 2 ["tape", "row"] sp_law_pick a_law_pick d_law_pick) {a_law_shuffled : Addr} {d_law_shuffled : FuncData} (C_law_shuffled : Cal P w K mg base "_law_shuffled" 2 ["tape", "row"] sp_law_shuffled a_law_shuffled d_law_shuffled) {a_law_same : Addr} {d_law_same : FuncData} (C_law_same : Cal P w K mg base "_law_same" 40 ["actual", "expected"] sp_law_same a_law_same d_law_same) {a_law_pass : Addr} {d_law_pass : FuncData} (C_law_pass : Cal P w K mg base "_law_pass" 1 ["test", "scalar"] sp_law_pass a_law_pass d_law_pass) {a_law_passes : Addr} {d_law_passes : FuncData} (C_law_passes : Cal P w K mg base "_law_passes" 2 ["tests", "scalar"] sp_law_passes a_law_passes d_law_passes) {a_law_test : Addr} {d_law_test : FuncData} (C_law_test : Cal P w K mg base "_law_test" 5 ["tape"] sp_law_test a_law_test d_law_test) {a_law_scalar_near : Addr} {d_law_scalar_near : FuncData} (C_law_scalar_near : Cal P w K mg base "_law_scalar_near" 5 ["tape", "tests"] sp_law_scalar_near a_law_scalar_near d_law_scalar_near) : FnOk P w K mg base CX0 41 f fd ["script"] (sp_law K) := by
  have sc := sc_law
  refine F.ok sc (fun vs H Q E h => ?_) (fun cdv A outer s H vs Q E hr h => ?_)
  · obtain ⟨a, ns, rfl, _⟩ := h
    rfl
  obtain ⟨a, ns, rfl, hS, hn, q⟩ := h
  refine ⟨_, (pss_cons (ps_set (i := 1) sc.nd rfl (Or.inr rfl) (pe_call C_law_tape.ok (hr.mono (by omega)) (by rfl) C_law_tape.m C_law_tape.kp C_law_tape.b .nil pass0 (pa_cons (pv 0) pa_nil)))
    (pss_cons (ps_set (i := 2) sc.nd rfl (Or.inr rfl) (pe_lc (own := [("k", 8)]) (g := gName 8) (tt := tYes) rfl sc.nd (pi_range1 (by rfl) T.z_range (pa_cons (pe_call C_law_pick.ok (hr.mono (by omega)) (by rfl) C_law_pick.m C_law_pick.kp C_law_pick.b .nil pass0 (pa_cons (pv 1) (pa_cons (pe_lst (pa_cons pe_int (pa_cons pe_int (pa_cons pe_int (pa_cons pe_int (pa_cons pe_int (pa_cons pe_int pa_nil))))))) pa_nil))) pa_nil)) (blkOk_by (N := ["script", "tape", "tests", "scalars", "other", "first", "test", "second", "k", "due"]) (sc := defScope s_law) (by decide +kernel)) (fun _ _ _ _ _ => pg_name (i := 8) sc.nd rfl (Or.inl rfl)) (fun _ _ _ _ _ => pts_nil) (fun _ _ _ _ _ => (pe_call C_law_test.ok (hr.mono (by omega)) (by rfl) C_law_test.m C_law_test.kp C_law_test.b .nil pass0 (pa_cons (pv 1) pa_nil)))))
    (C8.pss_cut (ps_if (pt_cmpR (kop_neD (K := K) rfl hr.units) (pv 2) (pe_lst pa_nil) (nomark _))
      (pss_one (ps_expr (pe_bm PySem.F.plainAttrs_list PySem.F.slot_list_append PySem.F.type_list_append mt_append (pv 2) (pa_cons (pe_call C_law_pick.ok (hr.mono (by omega)) (by rfl) C_law_pick.m C_law_pick.kp C_law_pick.b .nil pass0 (pa_cons (pv 1) (pa_cons (pv 2) pa_nil))) pa_nil))))
      pss_nil)
    (pss_cons (ps_setLc (i := 3) (own := [("k", 8)]) (g := gName 8) (tt := tYes) rfl sc.nd rfl rfl (sw_true rfl rfl rfl (by decide +kernel)) (pi_range1 (by rfl) T.z_range (pa_cons pe_int pa_nil)) (blkOk_by (N := ["script", "tape", "tests", "scalars", "other", "first", "test", "second", "k", "due"]) (sc := defScope s_law) (by decide +kernel)) (fun _ _ _ _ _ => pg_name (i := 8) sc.nd rfl (Or.inl rfl)) (fun _ _ _ _ _ => pts_nil) (fun _ _ _ _ _ => (pe_call C_law_scalar_near.ok (hr.mono (by omega)) (by rfl) C_law_scalar_near.m C_law_scalar_near.kp C_law_scalar_near.b .nil pass0 (pa_cons (pv 1) (pa_cons (pv 2) pa_nil)))))
    (pss_cons (ps_set (i := 4) sc.nd rfl (Or.inl rfl) (pe_callTy (kc_tuple (K := K) rfl) (by rfl) T.z_tuple (by decide +kernel) (pa_cons (pe_call C_law_shuffled.ok (hr.mono (by omega)) (by rfl) C_law_shuffled.m C_law_shuffled.kp C_law_shuffled.b .nil pass0 (pa_cons (pv 1) (pa_cons (pv 2) pa_nil))) pa_nil)))
    (pss_cons (ps_for PassesOwn.never rfl (kpi_list (K := K) rfl (pv 3)) (pg_name (i := 5) sc.nd rfl (Or.inl rfl))
      (pss_cons (ps_for PassesOwn.never rfl (kpi_list (K := K) rfl (pv 2)) (pg_name (i := 6) sc.nd rfl (Or.inl rfl))
        (pss_one (ps_if (pt_not (pt_val (pe_call C_law_same.ok (hr.mono (by omega)) (by rfl) C_law_same.m C_law_same.kp C_law_same.b .nil pass0 (pa_cons (pe_call C_passes.ok (hr.mono (by omega)) (by rfl) C_passes.m C_passes.kp C_passes.b .nil pass0 (pa_cons (pv 6) (pa_cons (pv 5) pa_nil))) (pa_cons (pe_call C_law_pass.ok (hr.mono (by omega)) (by rfl) C_law_pass.m C_law_pass.kp C_law_pass.b .nil pass0 (pa_cons (pv 6) (pa_cons (pv 5) pa_nil))) pa_nil)))))
          (pss_one (ps_ret pe_bl))
          pss_nil)))
      (pss_one (ps_for PassesOwn.never rfl (kpi_list (K := K) rfl (pv 3)) (pg_name (i := 7) sc.nd rfl (Or.inl rfl))
        (pss_cons (ps_set (i := 9) sc.nd rfl (Or.inl rfl) (pe_cmpR (kop_eqD (K := K) rfl hr.units) (pe_call C_law_passes.ok (hr.mono (by omega)) (by rfl) C_law_passes.m C_law_passes.kp C_law_passes.b .nil pass0 (pa_cons (pv 2) (pa_cons (pv 5) pa_nil))) (pe_call C_law_passes.ok (hr.mono (by omega)) (by rfl) C_law_passes.m C_law_passes.kp C_law_passes.b .nil pass0 (pa_cons (pv 2) (pa_cons (pv 7) pa_nil))) (nomark _)))
        (pss_cons (ps_if (pt_not (pt_val (pe_call C_law_same.ok (hr.mono (by omega)) (by rfl) C_law_same.m C_law_same.kp C_law_same.b .nil pass0 (pa_cons (pe_call C_alike.ok (hr.mono (by omega)) (by rfl) C_alike.m C_alike.kp C_alike.b .nil pass0 (pa_cons (pe_callTy (kc_tuple (K := K) rfl) (by rfl) T.z_tuple (by decide +kernel) (pa_cons (pv 2) pa_nil)) (pa_cons (pv 5) (pa_cons (pv 7) pa_nil)))) (pa_cons (pv 9) pa_nil)))))
          (pss_one (ps_ret pe_bl))
          pss_nil)
        (pss_one (ps_if (pt_not (pt_val (pe_call C_law_same.ok (hr.mono (by omega)) (by rfl) C_law_same.m C_law_same.kp C_law_same.b .nil pass0 (pa_cons (pe_call C_alike.ok (hr.mono (by omega)) (by rfl) C_alike.m C_alike.kp C_alike.b .nil pass0 (pa_cons (pv 4) (pa_cons (pv 7) (pa_cons (pv 5) pa_nil)))) (pa_cons (pv 9) pa_nil)))))
          (pss_one (ps_ret pe_bl))
          pss_nil))))))))
    (pss_one (ps_ret (pe_call C_law_same.ok (hr.mono (by omega)) (by rfl) C_law_same.m C_law_same.kp C_law_same.b .nil pass0 (pa_cons (pe_call C_alike.ok (hr.mono (by omega)) (by rfl) C_alike.m C_alike.kp C_alike.b .nil pass0 (pa_cons (pe_tup pa_nil) (pa_cons (pe_ix (kx_list (K := K) rfl) (pv 3) pe_int (fun _ _ => rfl)) (pa_cons (pe_ix (kx_list (K := K) rfl) (pv 3) pe_int (fun _ _ => rfl)) pa_nil)))) (pa_cons pe_bl pa_nil))))))))))), ?_⟩

  refine ⟨_, rfl, a, ns, rfl, hS, hn, fun t H1 hT ht s1 => ?_⟩
  -- the tests
  refine ⟨_, rfl, (by show 6 ≤ sizeLine; decide), fun p1 hp1 => ?_⟩
  refine ⟨t, _, rfl, hT.new hp1, .inr ⟨p1, _, rfl, hT.ne hp1, .inl (SqL.of upd_same), (by show 1 ≤ 6; decide), (by show 6 ≤ 1000000; decide), fun v H2 hv g2 => ?_⟩⟩
  obtain ⟨m, hm, rfl⟩ := pickN [0, 1, 2, 3, 5, 11] hv (b := 11) (by decide)
  refine ⟨m, rfl, by omega, by omega, fun D hD => ?_⟩
  have nD : D ≠ t := g2.tp.ne hD
  refine lc_acc (walk_range (lo := 0) (n := (m : Int).toNat)) (fun i acc H' => Go t H2 H' ∧ ∃ ts : List Ts, DTs K H' acc (ts.map tsT) ∧ ∀ t ∈ ts, tsN t) ⟨(Go.refl g2.tp).new hD, [], .nil, fun _ h => by cases h⟩ (fun _ _ _ _ _ _ => trivial) ?_ ?_
  · rintro i acc x H3 H4 hi eD el ⟨g3, ts, ha, hn⟩ ⟨rfl, rfl⟩
    refine ⟨rfl, _, rfl, t, rfl, g3.tp, fun v c H5 g5 dv hc => ?_⟩
    have eD5 := g5.sm _ _ nD eD
    refine acc_step eD5 el (by omega) ⟨Go.late g2.tp (g3.trans g5) hD, ts ++ [c], ?_, fun d hd => ?_⟩
    · rw [List.map_append]
      exact ((ha.go g3.tp g5.sm).append (.cons dv .nil)).lput eD5
    · rcases List.mem_append.mp hd with h | h
      · exact hn d h
      · rw [List.mem_singleton.mp h]; exact hc
  rintro acc H3 eD el ⟨g3, ts, ha, hn⟩
  have lts : ts.length = m := by
    have := ha.length
    rw [List.length_map] at this
    omega
  -- one of them once more
  have lays : Dt.lays (ts.map tsT) = true := lays_of fun d hd => by
    obtain ⟨c, hm, rfl⟩ := List.mem_map.mp hd
    exact lay_ts (hn c hm)
  have deeps : Dt.deeps (ts.map tsT) ≤ 60 := deeps_le fun d hd => by
    obtain ⟨c, hm, rfl⟩ := List.mem_map.mp hd
    have := deep_ts c
    omega
  refine ⟨fun σ H' => Go t H2 H' ∧ ∃ (xs : List V) (us : List Ts), H' D = some (.lst xs) ∧ DTs K H' xs (us.map tsT) ∧ us.length ≤ 12 ∧ (∀ t ∈ us, tsN t) ∧ σ = [some (.ref a), some (.ref t), some (.ref D), none, none, none, none, none, none, none], ?_, ?_⟩
  · refine ⟨_, rfl, (by show 0 ≤ sizeLine; decide), fun o ho => ?_⟩
    have s4 := same_new ho (.lst [])
    refine ne_nil (SqL.of (s4 _ _ eD)) (ha.same s4) lays deeps (SqL.of upd_same) ⟨_, rfl, ?_⟩
    have g4 : Go t H2 (upd H3 o (.lst [])) := g3.trans (Go.same g3.tp s4)
    have eD4 := s4 _ _ eD
    have ha4 := ha.same s4
    generalize upd H3 o (.lst []) = H4 at *
    have la := ha4.length
    rw [List.length_map] at la
    cases ts with
    | nil => exact iteF ⟨g4, acc, [], eD4, ha4, Nat.zero_le _, (fun _ h => by cases h), rfl⟩
    | cons t0 ts =>
      have lc : (t0 :: ts).length = ts.length + 1 := rfl
      refine iteT ⟨_, rfl, .inl ⟨rfl, _, SqL.of eD4⟩, _, rfl, _, rfl, t, _, rfl, g4.tp, .inr ⟨D, acc, rfl, nD, .inl (SqL.of eD4), by omega, by omega, fun v H5 hv g5 => ?_⟩⟩
      have ha5 := ha4.go g4.tp g5.sm
      have eD5 := g5.sm _ _ nD eD4
      obtain ⟨c, hc, dv⟩ := ha5.mem hv
      refine ⟨D, acc, v, rfl, rfl, eD5, lt_line (by omega), Go.late g2.tp (g4.trans g5) hD, acc ++ [v], (t0 :: ts) ++ [c], upd_same, ?_, by rw [List.length_append]; show _ + 1 ≤ 12; omega, fun d hd => ?_, rfl⟩
      · rw [List.map_append]
        exact (ha5.append (.cons dv .nil)).lput eD5
      · rcases List.mem_append.mp hd with h | h
        · exact hn d h
        · rw [List.mem_singleton.mp h]; exact hn c hc
  rintro σ H4 ⟨g4, xs, us, eD4, hxs, lu, hus, rfl⟩
  have lx := hxs.length
  rw [List.length_map] at lx
  -- the scalars
  refine ⟨6, rfl, by decide, by decide, fun S hS' => ?_⟩
  have nS : S ≠ t := g4.tp.ne hS'
  refine lc_acc (walk_range (lo := 0) (n := (6 : Int).toNat)) (fun i acc H' => Go t H4 H' ∧ ∃ cs : List Sc, DTs K H' acc (cs.map scT)) ⟨(Go.refl g4.tp).new hS', [], .nil⟩ (fun _ _ _ _ _ _ => trivial) ?_ ?_
  · rintro i acc x H5 H6 hi eS el ⟨g5, cs, hb⟩ ⟨rfl, rfl⟩
    have hi6 : i < 6 := hi
    refine ⟨rfl, _, rfl, _, rfl, t, D, xs, us, rfl, g5.tp, nD, SqL.of (g5.sm _ _ nD eD4), hxs.go g4.tp g5.sm, by omega, hus, fun v c H7 g7 dv _ _ => ?_⟩
    have eS7 := g7.sm _ _ nS eS
    refine acc_step eS7 el (by omega) ⟨Go.late g4.tp (g5.trans g7) hS', cs ++ [c], ?_⟩
    rw [List.map_append]
    exact ((hb.go g5.tp g7.sm).append (.cons dv .nil)).lput eS7
  rintro sacc H5 eS el ⟨g5, cs, hb⟩
  have el : sacc.length = 6 := el
  have eD5 := g5.sm _ _ nD eD4
  have hxs5 := hxs.go g4.tp g5.sm
  -- the tests in another order
  refine ⟨_, rfl, _, rfl, t, D, xs, rfl, g5.tp, nD, SqL.of eD5, by omega, fun r ys H6 g6 hr er pm => ?_⟩
  refine ⟨r, ys, rfl, .inl ⟨SqL.of er, fun o ho => ?_⟩⟩
  have s7 := same_new ho (.tup ys)
  have eo7 : (upd H6 o (.tup ys)) o = some (.tup ys) := upd_same
  have eD7 := s7 _ _ (g6.sm _ _ nD eD5)
  have eS7 := s7 _ _ (g6.sm _ _ nS eS)
  have hx7 := (hxs5.go g5.tp g6.sm).same s7
  have hb7 := (hb.go g5.tp g6.sm).same s7
  generalize upd H6 o (.tup ys) = H7 at *
  obtain ⟨vs, pv, hy7⟩ := hx7.perm pm
  have dO : DT K H7 (.ref o) (.tup (vs.map tsT)) := .tup (SqT.of eo7) hy7
  have lv : vs.length = us.length := pv.length_eq
  have bEq : ∀ (c d : Sc), PyData.eqv (.list (Dt.pys (us.map fun t => .bl (passB t c)))) (.list (Dt.pys (us.map fun t => .bl (passB t d)))) = likeB us c d := fun c d => by
    rw [pys_map, pys_map, List.map_map, List.map_map]
    exact bools_eq (fun t => passB t c) (fun t => passB t d) us
  have bLay : ∀ c : Sc, Dt.lays (us.map fun t => .bl (passB t c)) = true := fun c => lays_of fun d hd => by
    obtain ⟨x, _, rfl⟩ := List.mem_map.mp hd
    rfl
  have bDeep : ∀ c : Sc, Dt.deeps (us.map fun t => .bl (passB t c)) ≤ 60 := fun c => deeps_le fun d hd => by
    obtain ⟨x, _, rfl⟩ := List.mem_map.mp hd
    show 1 ≤ 60
    decide
  refine ⟨_, rfl, S, rfl, ⟨_, SqL.of eS7⟩, ?_⟩
  refine for_it (walk_list (K := K) (a := S) (xs := sacc)) (fun i σ H' => Same H7 H' ∧ ∃ v5 v6 v7 v9, σ = [some (.ref a), some (.ref t), some (.ref D), some (.ref S), some (.ref o), v5, v6, v7, none, v9]) ⟨Same.refl _, _, _, _, _, rfl⟩ (fun _ _ _ _ h => SqL.of (h.1 _ _ eS7)) ?_ ?_
  · rintro i x σ H8 H9 hi ⟨s8, v5, v6, v7, v9, rfl⟩ ⟨rfl, hx⟩
    obtain ⟨c, _, dc⟩ := hb7.mem (List.mem_of_getElem? hx)
    have eD8 := s8 _ _ eD7
    -- each test alone
    refine ⟨_, rfl, D, rfl, ⟨_, SqL.of eD8⟩, ?_⟩
    refine for_it (walk_list (K := K) (a := D) (xs := xs)) (fun i σ H' => Same H9 H' ∧ ∃ v6, σ = [some (.ref a), some (.ref t), some (.ref D), some (.ref S), some (.ref o), some x, v6, v7, none, v9]) ⟨Same.refl _, _, rfl⟩ (fun _ _ _ _ h => SqL.of (h.1 _ _ eD8)) ?_ ?_
    · rintro j y σ H10 H11 hj ⟨s10, v6, rfl⟩ ⟨rfl, hy⟩
      have s810 := s8.trans s10
      obtain ⟨u, hu, du⟩ := hx7.mem (List.mem_of_getElem? hy)
      refine ⟨_, rfl, _, rfl, y, x, u, c, rfl, du.same s810, dc.same s810, ?_⟩
      refine ⟨_, rfl, _, rfl, y, x, u, c, rfl, du.same s810, dc.same s810, ?_⟩
      exact ⟨_, _, .bl _, rfl, .bl _, .bl _, (by show 1 ≤ 40; decide), rfl, fun H12 s12 => ⟨_, rfl, iteF ⟨s10.trans s12, _, rfl⟩⟩⟩
    rintro σ H10 ⟨s10, v6, rfl⟩
    have s810 := s8.trans s10
    have eS10 := s810 _ _ eS7
    refine ⟨_, rfl, S, rfl, ⟨_, SqL.of eS10⟩, ?_⟩
    refine for_it (walk_list (K := K) (a := S) (xs := sacc)) (fun i σ H' => Same H10 H' ∧ ∃ v7 v9, σ = [some (.ref a), some (.ref t), some (.ref D), some (.ref S), some (.ref o), some x, v6, v7, none, v9]) ⟨Same.refl _, _, _, rfl⟩ (fun _ _ _ _ h => SqL.of (h.1 _ _ eS10)) ?_ ?_
    · rintro j y σ H11 H12 hj ⟨s11, v7, v9, rfl⟩ ⟨rfl, hy⟩
      have s12 := s810.trans s11
      obtain ⟨d, _, dd⟩ := hb7.mem (List.mem_of_getElem? hy)
      refine ⟨_, rfl, _, rfl, D, xs, x, us, c, rfl, SqL.of (s12 _ _ eD7), hx7.same s12, by omega, dc.same s12, fun r1 H13 s13 e13 => ?_⟩
      have s13' := s12.trans s13
      refine ⟨_, rfl, _, rfl, D, xs, y, us, d, rfl, SqL.of (s13' _ _ eD7), hx7.same s13', by omega, dd.same s13', fun r2 H14 s14 e14 => ?_⟩
      have s14' := s13'.trans s14
      have b1 := DTs.dps _ _ (DTs.bools (K := K) (H := H14) (fun t => passB t c) us)
      have b2 := DTs.dps _ _ (DTs.bools (K := K) (H := H14) (fun t => passB t d) us)
      have bl1 := s14 _ _ e13
      refine ⟨_, _, .lst (SqL.of bl1) b1, .lst (SqL.of e14) b2, shaped_dts (bLay c) (bDeep c), shaped_dts (bLay d) (bDeep d), ?_⟩
      rw [bEq c d]
      refine ⟨_, rfl, D, xs, rfl, .inl ⟨SqL.of (s14' _ _ eD7), fun o2 ho2 => ?_⟩⟩
      have s15 := same_new ho2 (.tup xs)
      have eo2 : (upd H14 o2 (.tup xs)) o2 = some (.tup xs) := upd_same
      have s15' := s14'.trans s15
      have sb := s11.trans ((s13.trans s14).trans s15)
      generalize upd H14 o2 (.tup xs) = H15 at *
      refine ⟨_, rfl, _, rfl, .ref o2, x, y, us, c, d, rfl, .tup (SqT.of eo2) (hx7.same s15'), by omega, dc.same s15', dd.same s15', fun H16 s16 => ?_⟩
      refine ⟨_, rfl, _, _, .bl _, rfl, .bl _, .bl _, (by show 1 ≤ 40; decide), rfl, fun H17 s17 => ⟨_, rfl, iteF ?_⟩⟩
      have s17' := s15'.trans (s16.trans s17)
      refine ⟨_, rfl, _, rfl, _, rfl, .ref o, y, x, vs, d, c, rfl, dO.same s17', by omega, dd.same s17', dc.same s17', fun H18 s18 => ?_⟩
      rw [likeB_perm pv d c, likeB_comm us d c]
      exact ⟨_, rfl, _, _, .bl _, rfl, .bl _, .bl _, (by show 1 ≤ 40; decide), rfl, fun H19 s19 => ⟨_, rfl, iteF ⟨sb.trans ((s16.trans s17).trans (s18.trans s19)), _, _, rfl⟩⟩⟩
    · rintro σ H11 ⟨s11, v7, v9, rfl⟩
      exact ⟨s810.trans s11, _, _, _, _, rfl⟩
  · rintro σ H8 ⟨s8, v5, v6, v7, v9, rfl⟩
    have eS8 := s8 _ _ eS7
    have hb8 := hb7.same s8
    have l6 := hb8.length
    rw [List.length_map] at l6
    obtain ⟨x0, ex0⟩ : ∃ x, sacc[0]? = some x := ⟨_, List.getElem?_eq_getElem (by omega)⟩
    obtain ⟨x1, ex1⟩ : ∃ x, sacc[1]? = some x := ⟨_, List.getElem?_eq_getElem (by omega)⟩
    obtain ⟨c0, _, d0⟩ := hb8.mem (List.mem_of_getElem? ex0)
    obtain ⟨c1, _, d1⟩ := hb8.mem (List.mem_of_getElem? ex1)
    refine ⟨(by show 0 ≤ sizeLine; decide), fun o2 ho2 => ?_⟩
    have s9 := same_new ho2 (.tup [])
    refine ⟨_, rfl, S, _, 0, _, rfl, rfl, SqL.of (s9 _ _ eS8), atI_nat ex0, ?_⟩
    refine ⟨_, rfl, S, _, 1, _, rfl, rfl, SqL.of (s9 _ _ eS8), atI_nat ex1, ?_⟩
    refine ⟨.ref o2, x0, x1, [], c0, c1, rfl, .tup (SqT.of upd_same) .nil, Nat.zero_le _, d0.same s9, d1.same s9, fun H10 s10 => ?_⟩
    exact ⟨_, _, .bl true, rfl, .bl _, .bl _, (by show 1 ≤ 40; decide), rfl, fun H11 s11 => q _⟩
end
theorem all_mk {l : PySem.W.OpenLaw} {w : World} {K : PySem.W.Frag} {h : Heap} {mg : Str → Option Value} {fa : Addr} (X : K.In h) (G : h.Ns mainGlobals mg) (hfa : mg "law" = some (.ref fa))
    {f0 : Addr} {od0 an0 : Option Addr} {sl0 : Array (Option Value)} {oc0 kV0 dc0 pm0 cd0 ct0 : Value}
    {f1 : Addr} {od1 an1 : Option Addr} {sl1 : Array (Option Value)} {oc1 kV1 dc1 pm1 cd1 ct1 : Value}
    {f2 : Addr} {od2 an2 : Option Addr} {sl2 : Array (Option Value)} {oc2 kV2 dc2 pm2 cd2 ct2 : Value}
    {f3 : Addr} {od3 an3 : Option Addr} {sl3 : Array (Option Value)} {oc3 kV3 dc3 pm3 cd3 ct3 : Value}
    {f4 : Addr} {od4 an4 : Option Addr} {sl4 : Array (Option Value)} {oc4 kV4 dc4 pm4 cd4 ct4 : Value}
    {f5 : Addr} {od5 an5 : Option Addr} {sl5 : Array (Option Value)} {oc5 kV5 dc5 pm5 cd5 ct5 : Value}
    {f6 : Addr} {od6 an6 : Option Addr} {sl6 : Array (Option Value)} {oc6 kV6 dc6 pm6 cd6 ct6 : Value}
    {f7 : Addr} {od7 an7 : Option Addr} {sl7 : Array (Option Value)} {oc7 kV7 dc7 pm7 cd7 ct7 : Value}
    {f8 : Addr} {od8 an8 : Option Addr} {sl8 : Array (Option Value)} {oc8 kV8 dc8 pm8 cd8 ct8 : Value}
    {f9 : Addr} {od9 an9 : Option Addr} {sl9 : Array (Option Value)} {oc9 kV9 dc9 pm9 cd9 ct9 : Value}
    {f10 : Addr} {od10 an10 : Option Addr} {sl10 : Array (Option Value)} {oc10 kV10 dc10 pm10 cd10 ct10 : Value}
    {f11 : Addr} {od11 an11 : Option Addr} {sl11 : Array (Option Value)} {oc11 kV11 dc11 pm11 cd11 ct11 : Value}
    {f12 : Addr} {od12 an12 : Option Addr} {sl12 : Array (Option Value)} {oc12 kV12 dc12 pm12 cd12 ct12 : Value}
    {f13 : Addr} {od13 an13 : Option Addr} {sl13 : Array (Option Value)} {oc13 kV13 dc13 pm13 cd13 ct13 : Value}
    {f14 : Addr} {od14 an14 : Option Addr} {sl14 : Array (Option Value)} {oc14 kV14 dc14 pm14 cd14 ct14 : Value}
    {f15 : Addr} {od15 an15 : Option Addr} {sl15 : Array (Option Value)} {oc15 kV15 dc15 pm15 cd15 ct15 : Value}
    (a0 : PySem.W.nsIn K mainGlobals "passes" = some (some (.ref f0))) (l0 : K.lookup f0 = some ⟨oc0, od0, .func (PySem.W.fnOf "passes" "passes" (defArgs s_passes) (defBody s_passes) (defScope s_passes) .none kV0 dc0 pm0 an0 cd0 ct0), sl0⟩) (c0 : PySem.W.codeIn K cd0 "passes" = true) (k0 : PySem.W.keepIn K (.ref f0) = true)
    (a1 : PySem.W.nsIn K mainGlobals "alike" = some (some (.ref f1))) (l1 : K.lookup f1 = some ⟨oc1, od1, .func (PySem.W.fnOf "alike" "alike" (defArgs s_alike) (defBody s_alike) (defScope s_alike) .none kV1 dc1 pm1 an1 cd1 ct1), sl1⟩) (c1 : PySem.W.codeIn K cd1 "alike" = true) (k1 : PySem.W.keepIn K (.ref f1) = true)
    (a2 : PySem.W.nsIn K mainGlobals "_law_tape" = some (some (.ref f2))) (l2 : K.lookup f2 = some ⟨oc2, od2, .func (PySem.W.fnOf "_law_tape" "_law_tape" (defArgs s_law_tape) (defBody s_law_tape) (defScope s_law_tape) .none kV2 dc2 pm2 an2 cd2 ct2), sl2⟩) (c2 : PySem.W.codeIn K cd2 "_law_tape" = true) (k2 : PySem.W.keepIn K (.ref f2) = true)
    (a3 : PySem.W.nsIn K mainGlobals "_law_draw" = some (some (.ref f3))) (l3 : K.lookup f3 = some ⟨oc3, od3, .func (PySem.W.fnOf "_law_draw" "_law_draw" (defArgs s_law_draw) (defBody s_law_draw) (defScope s_law_draw) .none kV3 dc3 pm3 an3 cd3 ct3), sl3⟩) (c3 : PySem.W.codeIn K cd3 "_law_draw" = true) (k3 : PySem.W.keepIn K (.ref f3) = true)
    (a4 : PySem.W.nsIn K mainGlobals "_law_pick" = some (some (.ref f4))) (l4 : K.lookup f4 = some ⟨oc4, od4, .func (PySem.W.fnOf "_law_pick" "_law_pick" (defArgs s_law_pick) (defBody s_law_pick) (defScope s_law_pick) .none kV4 dc4 pm4 an4 cd4 ct4), sl4⟩) (c4 : PySem.W.codeIn K cd4 "_law_pick" = true) (k4 : PySem.W.keepIn K (.ref f4) = true)
    (a5 : PySem.W.nsIn K mainGlobals "_law_shuffled" = some (some (.ref f5))) (l5 : K.lookup f5 = some ⟨oc5, od5, .func (PySem.W.fnOf "_law_shuffled" "_law_shuffled" (defArgs s_law_shuffled) (defBody s_law_shuffled) (defScope s_law_shuffled) .none kV5 dc5 pm5 an5 cd5 ct5), sl5⟩) (c5 : PySem.W.codeIn K cd5 "_law_shuffled" = true) (k5 : PySem.W.keepIn K (.ref f5) = true)
    (a6 : PySem.W.nsIn K mainGlobals "_law_same" = some (some (.ref f6))) (l6 : K.lookup f6 = some ⟨oc6, od6, .func (PySem.W.fnOf "_law_same" "_law_same" (defArgs s_law_same) (defBody s_law_same) (defScope s_law_same) .none kV6 dc6 pm6 an6 cd6 ct6), sl6⟩) (c6 : PySem.W.codeIn K cd6 "_law_same" = true) (k6 : PySem.W.keepIn K (.ref f6) = true)
    (a7 : PySem.W.nsIn K mainGlobals "_law_tight_text" = some (some (.ref f7))) (l7 : K.lookup f7 = some ⟨oc7, od7, .func (PySem.W.fnOf "_law_tight_text" "_law_tight_text" (defArgs s_law_tight_text) (defBody s_law_tight_text) (defScope s_law_tight_text) .none kV7 dc7 pm7 an7 cd7 ct7), sl7⟩) (c7 : PySem.W.codeIn K cd7 "_law_tight_text" = true) (k7 : PySem.W.keepIn K (.ref f7) = true)
    (a8 : PySem.W.nsIn K mainGlobals "_law_scalar" = some (some (.ref f8))) (l8 : K.lookup f8 = some ⟨oc8, od8, .func (PySem.W.fnOf "_law_scalar" "_law_scalar" (defArgs s_law_scalar) (defBody s_law_scalar) (defScope s_law_scalar) .none kV8 dc8 pm8 an8 cd8 ct8), sl8⟩) (c8 : PySem.W.codeIn K cd8 "_law_scalar" = true) (k8 : PySem.W.keepIn K (.ref f8) = true)
    (a9 : PySem.W.nsIn K mainGlobals "_law_literal" = some (some (.ref f9))) (l9 : K.lookup f9 = some ⟨oc9, od9, .func (PySem.W.fnOf "_law_literal" "_law_literal" (defArgs s_law_literal) (defBody s_law_literal) (defScope s_law_literal) .none kV9 dc9 pm9 an9 cd9 ct9), sl9⟩) (c9 : PySem.W.codeIn K cd9 "_law_literal" = true) (k9 : PySem.W.keepIn K (.ref f9) = true)
    (a10 : PySem.W.nsIn K mainGlobals "_law_pass" = some (some (.ref f10))) (l10 : K.lookup f10 = some ⟨oc10, od10, .func (PySem.W.fnOf "_law_pass" "_law_pass" (defArgs s_law_pass) (defBody s_law_pass) (defScope s_law_pass) .none kV10 dc10 pm10 an10 cd10 ct10), sl10⟩) (c10 : PySem.W.codeIn K cd10 "_law_pass" = true) (k10 : PySem.W.keepIn K (.ref f10) = true)
    (a11 : PySem.W.nsIn K mainGlobals "_law_passes" = some (some (.ref f11))) (l11 : K.lookup f11 = some ⟨oc11, od11, .func (PySem.W.fnOf "_law_passes" "_law_passes" (defArgs s_law_passes) (defBody s_law_passes) (defScope s_law_passes) .none kV11 dc11 pm11 an11 cd11 ct11), sl11⟩) (c11 : PySem.W.codeIn K cd11 "_law_passes" = true) (k11 : PySem.W.keepIn K (.ref f11) = true)
    (a12 : PySem.W.nsIn K mainGlobals "_law_test_numbers" = some (some (.ref f12))) (l12 : K.lookup f12 = some ⟨oc12, od12, .func (PySem.W.fnOf "_law_test_numbers" "_law_test_numbers" (defArgs s_law_test_numbers) (defBody s_law_test_numbers) (defScope s_law_test_numbers) .none kV12 dc12 pm12 an12 cd12 ct12), sl12⟩) (c12 : PySem.W.codeIn K cd12 "_law_test_numbers" = true) (k12 : PySem.W.keepIn K (.ref f12) = true)
    (a13 : PySem.W.nsIn K mainGlobals "_law_test" = some (some (.ref f13))) (l13 : K.lookup f13 = some ⟨oc13, od13, .func (PySem.W.fnOf "_law_test" "_law_test" (defArgs s_law_test) (defBody s_law_test) (defScope s_law_test) .none kV13 dc13 pm13 an13 cd13 ct13), sl13⟩) (c13 : PySem.W.codeIn K cd13 "_law_test" = true) (k13 : PySem.W.keepIn K (.ref f13) = true)
    (a14 : PySem.W.nsIn K mainGlobals "_law_scalar_near" = some (some (.ref f14))) (l14 : K.lookup f14 = some ⟨oc14, od14, .func (PySem.W.fnOf "_law_scalar_near" "_law_scalar_near" (defArgs s_law_scalar_near) (defBody s_law_scalar_near) (defScope s_law_scalar_near) .none kV14 dc14 pm14 an14 cd14 ct14), sl14⟩) (c14 : PySem.W.codeIn K cd14 "_law_scalar_near" = true) (k14 : PySem.W.keepIn K (.ref f14) = true)
    (a15 : PySem.W.nsIn K mainGlobals "law" = some (some (.ref f15))) (l15 : K.lookup f15 = some ⟨oc15, od15, .func (PySem.W.fnOf "law" "law" (defArgs s_law) (defBody s_law) (defScope s_law) .none kV15 dc15 pm15 an15 cd15 ct15), sl15⟩) (c15 : PySem.W.codeIn K cd15 "law" = true) (k15 : PySem.W.keepIn K (.ref f15) = true)
    (z_abs : PySem.W.nsIn K mainGlobals "abs" = some none)
    (z_all : PySem.W.nsIn K mainGlobals "all" = some none)
    (z_bool : PySem.W.nsIn K mainGlobals "bool" = some none)
    (z_int : PySem.W.nsIn K mainGlobals "int" = some none)
    (z_isinstance : PySem.W.nsIn K mainGlobals "isinstance" = some none)
    (z_len : PySem.W.nsIn K mainGlobals "len" = some none)
    (z_list : PySem.W.nsIn K mainGlobals "list" = some none)
    (z_max : PySem.W.nsIn K mainGlobals "max" = some none)
    (z_range : PySem.W.nsIn K mainGlobals "range" = some none)
    (z_str : PySem.W.nsIn K mainGlobals "str" = some none)
    (z_tuple : PySem.W.nsIn K mainGlobals "tuple" = some none) :
    ∃ fd : FuncData, (∀ (s : Shared) (v : Value), BindsTo s fd ⟨[v], []⟩ [("script", v)]) ∧ ∀ base : Heap, K.In base → base.Ns mainGlobals mg → FnOk l.prog w K mg base CX0 41 fa fd ["script"] (sp_law K) := by
  have e := hfa.symm.trans (PySem.W.mg_of X G a15)
  cases e
  have T : Top K w mg := ⟨PySem.W.mg_none_of X G z_abs, PySem.W.mg_none_of X G z_all, PySem.W.mg_none_of X G z_bool, PySem.W.mg_none_of X G z_int, PySem.W.mg_none_of X G z_isinstance, PySem.W.mg_none_of X G z_len, PySem.W.mg_none_of X G z_list, PySem.W.mg_none_of X G z_max, PySem.W.mg_none_of X G z_range, PySem.W.mg_none_of X G z_str, PySem.W.mg_none_of X G z_tuple⟩
  refine ⟨PySem.W.fnOf "law" "law" (defArgs s_law) (defBody s_law) (defScope s_law) .none kV15 dc15 pm15 an15 cd15 ct15, fun s v => .of_eq rfl, fun base _ _ => ?_⟩
  have F0 := fun_mk (st := s_passes) l0 c0 k0
  have C_passes : Cal l.prog w K mg base "passes" 1 ["test", "scalar"] sp_passes _ _ := ⟨ok_passes F0 T , F0.binds (ps := ["test", "scalar"]) fun _ _ _ _ _ _ us hl => match us, hl with | [_, _], _ => rfl, k0, PySem.W.mg_of X G a0⟩
  have F1 := fun_mk (st := s_alike) l1 c1 k1
  have C_alike : Cal l.prog w K mg base "alike" 2 ["tests", "first", "second"] sp_alike _ _ := ⟨ok_alike F1 T C_passes, F1.binds (ps := ["tests", "first", "second"]) fun _ _ _ _ _ _ us hl => match us, hl with | [_, _, _], _ => rfl, k1, PySem.W.mg_of X G a1⟩
  have F2 := fun_mk (st := s_law_tape) l2 c2 k2
  have C_law_tape : Cal l.prog w K mg base "_law_tape" 1 ["script"] sp_law_tape _ _ := ⟨ok_law_tape F2 T , F2.binds (ps := ["script"]) fun _ _ _ _ _ _ us hl => match us, hl with | [_], _ => rfl, k2, PySem.W.mg_of X G a2⟩
  have F3 := fun_mk (st := s_law_draw) l3 c3 k3
  have C_law_draw : Cal l.prog w K mg base "_law_draw" 1 ["tape", "many"] sp_law_draw _ _ := ⟨ok_law_draw F3 T , F3.binds (ps := ["tape", "many"]) fun _ _ _ _ _ _ us hl => match us, hl with | [_, _], _ => rfl, k3, PySem.W.mg_of X G a3⟩
  have F4 := fun_mk (st := s_law_pick) l4 c4 k4
  have C_law_pick : Cal l.prog w K mg base "_law_pick" 2 ["tape", "row"] sp_law_pick _ _ := ⟨ok_law_pick F4 T C_law_draw, F4.binds (ps := ["tape", "row"]) fun _ _ _ _ _ _ us hl => match us, hl with | [_, _], _ => rfl, k4, PySem.W.mg_of X G a4⟩
  have F5 := fun_mk (st := s_law_shuffled) l5 c5 k5
  have C_law_shuffled : Cal l.prog w K mg base "_law_shuffled" 2 ["tape", "row"] sp_law_shuffled _ _ := ⟨ok_law_shuffled F5 T C_law_draw, F5.binds (ps := ["tape", "row"]) fun _ _ _ _ _ _ us hl => match us, hl with | [_, _], _ => rfl, k5, PySem.W.mg_of X G a5⟩
  have F6 := fun_mk (st := s_law_same) l6 c6 k6
  have C_law_same : Cal l.prog w K mg base "_law_same" 40 ["actual", "expected"] sp_law_same _ _ := ⟨ok_law_same F6 T (PySem.W.mg_of X G a6) , F6.binds (ps := ["actual", "expected"]) fun _ _ _ _ _ _ us hl => match us, hl with | [_, _], _ => rfl, k6, PySem.W.mg_of X G a6⟩
  have F7 := fun_mk (st := s_law_tight_text) l7 c7 k7
  have C_law_tight_text : Cal l.prog w K mg base "_law_tight_text" 3 ["tape", "many"] sp_law_tight_text _ _ := ⟨ok_law_tight_text F7 T C_law_pick, F7.binds (ps := ["tape", "many"]) fun _ _ _ _ _ _ us hl => match us, hl with | [_, _], _ => rfl, k7, PySem.W.mg_of X G a7⟩
  have F8 := fun_mk (st := s_law_scalar) l8 c8 k8
  have C_law_scalar : Cal l.prog w K mg base "_law_scalar" 4 ["tape"] sp_law_scalar _ _ := ⟨ok_law_scalar F8 T C_law_draw C_law_pick C_law_tight_text, F8.binds (ps := ["tape"]) fun _ _ _ _ _ _ us hl => match us, hl with | [_], _ => rfl, k8, PySem.W.mg_of X G a8⟩
  have F9 := fun_mk (st := s_law_literal) l9 c9 k9
  have C_law_literal : Cal l.prog w K mg base "_law_literal" 4 ["tape"] sp_law_literal _ _ := ⟨ok_law_literal F9 T C_law_draw C_law_pick C_law_tight_text, F9.binds (ps := ["tape"]) fun _ _ _ _ _ _ us hl => match us, hl with | [_], _ => rfl, k9, PySem.W.mg_of X G a9⟩
  have F10 := fun_mk (st := s_law_pass) l10 c10 k10
  have C_law_pass : Cal l.prog w K mg base "_law_pass" 1 ["test", "scalar"] sp_law_pass _ _ := ⟨ok_law_pass F10 T , F10.binds (ps := ["test", "scalar"]) fun _ _ _ _ _ _ us hl => match us, hl with | [_, _], _ => rfl, k10, PySem.W.mg_of X G a10⟩
  have F11 := fun_mk (st := s_law_passes) l11 c11 k11
  have C_law_passes : Cal l.prog w K mg base "_law_passes" 2 ["tests", "scalar"] sp_law_passes _ _ := ⟨ok_law_passes F11 T C_law_pass, F11.binds (ps := ["tests", "scalar"]) fun _ _ _ _ _ _ us hl => match us, hl with | [_, _], _ => rfl, k11, PySem.W.mg_of X G a11⟩
  have F12 := fun_mk (st := s_law_test_numbers) l12 c12 k12
  have C_law_test_numbers : Cal l.prog w K mg base "_law_test_numbers" 1 ["tests"] sp_law_test_numbers _ _ := ⟨ok_law_test_numbers F12 T , F12.binds (ps := ["tests"]) fun _ _ _ _ _ _ us hl => match us, hl with | [_], _ => rfl, k12, PySem.W.mg_of X G a12⟩
  have F13 := fun_mk (st := s_law_test) l13 c13 k13
  have C_law_test : Cal l.prog w K mg base "_law_test" 5 ["tape"] sp_law_test _ _ := ⟨ok_law_test F13 T C_law_draw C_law_pick C_law_literal, F13.binds (ps := ["tape"]) fun _ _ _ _ _ _ us hl => match us, hl with | [_], _ => rfl, k13, PySem.W.mg_of X G a13⟩
  have F14 := fun_mk (st := s_law_scalar_near) l14 c14 k14
  have C_law_scalar_near : Cal l.prog w K mg base "_law_scalar_near" 5 ["tape", "tests"] sp_law_scalar_near _ _ := ⟨ok_law_scalar_near F14 T C_law_draw C_law_pick C_law_scalar C_law_test_numbers, F14.binds (ps := ["tape", "tests"]) fun _ _ _ _ _ _ us hl => match us, hl with | [_, _], _ => rfl, k14, PySem.W.mg_of X G a14⟩
  have F15 := fun_mk (st := s_law) l15 c15 k15
  exact ok_law F15 T C_passes C_alike C_law_tape C_law_pick C_law_shuffled C_law_same C_law_pass C_law_passes C_law_test C_law_scalar_near
theorem walk {l : PySem.W.OpenLaw} {q : Program} {loose : List Str} {XP : (Str → Option Value) → Heap → Prop} {YP : World → Heap → Prop} {d : DefRec} {K : Params → PySem.W.Frag} (hn : l.most = some 63) (hdf : d.params.defaults = [])
    (hY : ∀ (w : World) (h : Heap), YP w h → (K w.params).In h)
    (F : ∀ (w : World) (mg : Str → Option Value) (fa : Addr) (h : Heap), (K w.params).In h → h.Ns mainGlobals mg → mg d.name = some (.ref fa) →
      ∃ fd : FuncData, (∀ (s : Shared) (u : Value), BindsTo s fd ⟨[u], []⟩ [("script", u)]) ∧ ∀ base : Heap, (K w.params).In base → base.Ns mainGlobals mg → FnOk l.prog w (K w.params) mg base CX0 41 fa fd ["script"] (sp_law (K w.params))) :
    PySem.W.WalkO q loose XP YP l.row.toRowW d [] (fun f vs => PySem.call f vs) :=
  L2.walk_of (n := 63) (k := 41) (x := "script") (CX := fun _ => CX0) (sp := fun w => sp_law (K w.params)) hn (by decide) hdf ⟨rfl, by decide, by decide⟩ hY F (fun _ _ a ns hl _ hS => ⟨a, ns, rfl, hS, hl, fun _ => rfl⟩) fun _ _ _ _ _ z => z
end My
open PySem PySem.W PyProof.Rows in
set_option maxRecDepth 100000 in
set_option maxHeartbeats 0 in
theorem PySem.Challenge.cw_hookcheck_k38_tests_holds : PySem.Challenge.rw_hookcheck_k38_tests.Holds := by
  w_on; o_law; k_head; (case hw => w_witness2)
  k_fill
  refine My.walk (l := PySem.Challenge.rw_hookcheck_k38_tests) rfl rfl (fun w h Y => PySem.W.kIn_of Y) ?F
  case F =>
    intro w mg fa h KX G hmg
    refine' My.all_mk KX G hmg ?a0 ?l0 ?c0 ?k0 ?a1 ?l1 ?c1 ?k1 ?a2 ?l2 ?c2 ?k2 ?a3 ?l3 ?c3 ?k3 ?a4 ?l4 ?c4 ?k4 ?a5 ?l5 ?c5 ?k5 ?a6 ?l6 ?c6 ?k6 ?a7 ?l7 ?c7 ?k7 ?a8 ?l8 ?c8 ?k8 ?a9 ?l9 ?c9 ?k9 ?a10 ?l10 ?c10 ?k10 ?a11 ?l11 ?c11 ?k11 ?a12 ?l12 ?c12 ?k12 ?a13 ?l13 ?c13 ?k13 ?a14 ?l14 ?c14 ?k14 ?a15 ?l15 ?c15 ?k15 ?z_abs ?z_all ?z_bool ?z_int ?z_isinstance ?z_len ?z_list ?z_max ?z_range ?z_str ?z_tuple
    (case a0 => k_is)
    (case l0 => k_is)
    (case c0 => k_is)
    (case k0 => k_is)
    (case a1 => k_is)
    (case l1 => k_is)
    (case c1 => k_is)
    (case k1 => k_is)
    (case a2 => k_is)
    (case l2 => k_is)
    (case c2 => k_is)
    (case k2 => k_is)
    (case a3 => k_is)
    (case l3 => k_is)
    (case c3 => k_is)
    (case k3 => k_is)
    (case a4 => k_is)
    (case l4 => k_is)
    (case c4 => k_is)
    (case k4 => k_is)
    (case a5 => k_is)
    (case l5 => k_is)
    (case c5 => k_is)
    (case k5 => k_is)
    (case a6 => k_is)
    (case l6 => k_is)
    (case c6 => k_is)
    (case k6 => k_is)
    (case a7 => k_is)
    (case l7 => k_is)
    (case c7 => k_is)
    (case k7 => k_is)
    (case a8 => k_is)
    (case l8 => k_is)
    (case c8 => k_is)
    (case k8 => k_is)
    (case a9 => k_is)
    (case l9 => k_is)
    (case c9 => k_is)
    (case k9 => k_is)
    (case a10 => k_is)
    (case l10 => k_is)
    (case c10 => k_is)
    (case k10 => k_is)
    (case a11 => k_is)
    (case l11 => k_is)
    (case c11 => k_is)
    (case k11 => k_is)
    (case a12 => k_is)
    (case l12 => k_is)
    (case c12 => k_is)
    (case k12 => k_is)
    (case a13 => k_is)
    (case l13 => k_is)
    (case c13 => k_is)
    (case k13 => k_is)
    (case a14 => k_is)
    (case l14 => k_is)
    (case c14 => k_is)
    (case k14 => k_is)
    (case a15 => k_is)
    (case l15 => k_is)
    (case c15 => k_is)
    (case k15 => k_is)
    (case z_abs => k_is)
    (case z_all => k_is)
    (case z_bool => k_is)
    (case z_int => k_is)
    (case z_isinstance => k_is)
    (case z_len => k_is)
    (case z_list => k_is)
    (case z_max => k_is)
    (case z_range => k_is)
    (case z_str => k_is)
    (case z_tuple => k_is)
#print axioms PySem.Challenge.cw_hookcheck_k38_tests_holds
