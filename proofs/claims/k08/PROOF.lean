import PyProof.Rows.All
import Wide.All
import OpenK.AllK
import Wide.FinOn
import HandS.ForMost
import HandS.IsInst
import HandS.TupLe
import HandS.Walk
import HandS.Codes
import HandS.Wide
import HandS.TupAny
import PyProof.EqAt
import PyProof.EqKinds
import KE.DataCmp
import KE.SortData
import HandS.More
import PySem.Challenge.RW_hookcheck_k08_order_of_scalars
set_option Elab.async false
set_option linter.all false
set_option maxRecDepth 100000
namespace My
open PySem L2

/-! ### a def that is called -/
structure Cal (P : Program) (w : World) (K : PySem.W.Frag) (mg : Str → Option Value) (base : Heap) (x : Str) (k : Nat) (ps : List Str) (sp : PySem.W.Frag → Sp) (f : Addr) (fd : FuncData) : Prop where
  ok : FnOk P w K mg base CX0 k f fd ps (sp K)
  b : Binds K fd ps []
  kp : PySem.W.keepIn K (.ref f) = true
  m : mg x = some (.ref f)

/-! ### heaps: all that was tracked but t is as it was -/
def Sm (t : Addr) (H H' : Hp) : Prop := ∀ b o, b ≠ t → H b = some o → H' b = some o
theorem Sm.refl (t : Addr) (H : Hp) : Sm t H H := fun _ _ _ h => h
theorem Sm.trans {t : Addr} {H H1 H2 : Hp} (a : Sm t H H1) (b : Sm t H1 H2) : Sm t H H2 := fun c o n h => b c o n (a c o n h)
theorem Sm.same {t : Addr} {H H1 : Hp} (a : Same H H1) : Sm t H H1 := fun c o _ h => a c o h
theorem Sm.new {t p : Addr} {H : Hp} {o : HO} (h : H p = none) : Sm t H (upd H p o) := fun c u _ e => by
  rw [upd_ne (ne_of_none e h)]; exact e
theorem Sm.put {t : Addr} {H : Hp} {o : HO} : Sm t H (upd H t o) := fun c u n e => by rw [upd_ne n]; exact e
/-- a change at an address that was not tracked before -/
theorem Sm.late {t p : Addr} {H H1 : Hp} {o : HO} (a : Sm t H H1) (h : H p = none) : Sm t H (upd H1 p o) := fun c u n e => by
  rw [upd_ne (ne_of_none e h)]; exact a c u n e
theorem same_new {H : Hp} {p : Addr} (h : H p = none) (o : HO) : Same H (upd H p o) := fun b u q => by rw [upd_ne (ne_of_none q h)]; exact q
theorem _root_.L2.Same.late {p : Addr} {H H1 : Hp} {o : HO} (a : Same H H1) (h : H p = none) : Same H (upd H1 p o) := fun c u e => by
  rw [upd_ne (ne_of_none e h)]; exact a c u e
theorem Sm.seqL {K : PySem.W.Frag} {t a : Addr} {H H' : Hp} {xs : List V} (e : Sm t H H') (n : a ≠ t) (h : SqL K H a xs) : SqL K H' a xs := by
  rcases h with (h | ⟨o, h⟩) | h
  · exact .inl (.inl (e _ _ n h))
  · exact .inl (.inr ⟨o, e _ _ n h⟩)
  · exact .inr h
theorem Sm.seqT {K : PySem.W.Frag} {t a : Addr} {H H' : Hp} {xs : List V} (e : Sm t H H') (n : a ≠ t) (h : SqT K H a xs) : SqT K H' a xs := by
  rcases h with (h | ⟨o, h⟩) | h
  · exact .inl (.inl (e _ _ n h))
  · exact .inl (.inr ⟨o, e _ _ n h⟩)
  · exact .inr h
theorem _root_.L2.Same.seqT {K : PySem.W.Frag} {a : Addr} {H H' : Hp} {xs : List V} (e : Same H H') (h : SqT K H a xs) : SqT K H' a xs := by
  rcases h with (h | ⟨o, h⟩) | h
  · exact .inl (.inl (e _ _ h))
  · exact .inl (.inr ⟨o, e _ _ h⟩)
  · exact .inr h

/-! ### the tape -/
structure Tape (H : Hp) (t : Addr) : Prop where
  ex : ∃ (l : Addr) (ns : List Int) (a b c : Int), H t = some (.lst [.ref l, .int a, .int b, .int c]) ∧ H l = some (.lst (ns.map V.int)) ∧ l ≠ t ∧ 0 ≤ a ∧ ns.length ≤ 63
theorem Tape.same {H H' : Hp} {t : Addr} (h : Tape H t) (e : Same H H') : Tape H' t := by
  obtain ⟨l, ns, a, b, c, h1, h2, h3⟩ := h.ex
  exact ⟨l, ns, a, b, c, e _ _ h1, e _ _ h2, h3⟩
theorem Tape.new {H : Hp} {t p : Addr} {o : HO} (h : Tape H t) (e : H p = none) : Tape (upd H p o) t := h.same (same_new e o)
theorem Tape.tracked {H : Hp} {t : Addr} (h : Tape H t) : ∃ o, H t = some o := by
  obtain ⟨l, ns, a, b, c, h1, _⟩ := h.ex
  exact ⟨_, h1⟩
/-- a fresh address is not the tape -/
theorem Tape.ne {H : Hp} {t p : Addr} (h : Tape H t) (e : H p = none) : p ≠ t := by
  obtain ⟨o, h⟩ := h.tracked
  exact (ne_of_none h e).symm
/-- the script's copy that the tape holds -/
def tL (H : Hp) (t : Addr) : Option Addr := match H t with
  | some (.lst (.ref l :: _)) => some l
  | _ => none
theorem tL_of {H : Hp} {t l : Addr} {xs : List V} (h : H t = some (.lst (.ref l :: xs))) : tL H t = some l := by
  unfold tL
  rw [h]
/-- the tape goes on, what else was tracked stands -/
structure Go (t : Addr) (H H' : Hp) : Prop where
  tp : Tape H' t
  sm : Sm t H H'
  fx : tL H' t = tL H t
theorem Go.trans {t : Addr} {H H1 H2 : Hp} (a : Go t H H1) (b : Go t H1 H2) : Go t H H2 := ⟨b.tp, a.sm.trans b.sm, b.fx.trans a.fx⟩
theorem Go.refl {t : Addr} {H : Hp} (h : Tape H t) : Go t H H := ⟨h, Sm.refl _ _, rfl⟩
theorem Go.same {t : Addr} {H H1 : Hp} (h : Tape H t) (a : Same H H1) : Go t H H1 := by
  obtain ⟨l, ns, x, b, c, h1, h2, h3⟩ := h.ex
  exact ⟨h.same a, Sm.same a, by rw [tL_of h1, tL_of (a _ _ h1)]⟩
theorem Go.new {t p : Addr} {H H1 : Hp} {o : HO} (a : Go t H H1) (h : H1 p = none) : Go t H (upd H1 p o) := a.trans (Go.same a.tp (same_new h o))
theorem Go.put {t l : Addr} {H H1 : Hp} {xs : List V} {ns : List Int} {a b c : Int} (h1 : H t = some (.lst (.ref l :: xs))) (s : Sm t H H1) (h2 : H1 l = some (.lst (ns.map V.int))) (h3 : l ≠ t) (h4 : 0 ≤ a) (h5 : ns.length ≤ 63) :
    Go t H (upd H1 t (.lst [.ref l, .int a, .int b, .int c])) :=
  ⟨⟨l, ns, a, b, c, upd_same, by rw [upd_ne h3]; exact h2, h3, h4, h5⟩, s.trans Sm.put, by rw [tL_of h1, tL_of upd_same]⟩
/-- a change at an address that was not tracked at first -/
theorem Go.late {t p : Addr} {H H1 : Hp} {o : HO} (h : Tape H t) (a : Go t H H1) (n : H p = none) : Go t H (upd H1 p o) := by
  obtain ⟨l, ns, x, b, c, h1, h2, h3⟩ := h.ex
  obtain ⟨l', ns', x', b', c', k1, k2, k3⟩ := a.tp.ex
  have e := a.fx
  rw [tL_of h1, tL_of k1] at e
  cases e
  have n1 : t ≠ p := ne_of_none h1 n
  have n2 : l ≠ p := ne_of_none h2 n
  exact ⟨⟨l, ns', x', b', c', by rw [upd_ne n1]; exact k1, by rw [upd_ne n2]; exact k2, k3⟩, a.sm.late n, by rw [tL_of h1]; exact tL_of (by rw [upd_ne n1]; exact k1)⟩

/-! ### texts -/
section
variable {X : Cx}
/-- s * n -/
theorem op_mulS : OpR X (binaryOp .Mult) (fun x y H Q => ∃ (z : Str) (n : Int), x = .str z ∧ y = .int n ∧ n ≤ 1000000 ∧ -1000000 ≤ n ∧ z.length * n.toNat ≤ sizeLine ∧ Q (.str (Txt.mul z n)) H) := by
  intro pins s σ H x y u v Q I rx ry h
  obtain ⟨z, n, rfl, rfl, h1, h2, h3, q⟩ := h
  obtain ⟨t, rfl⟩ := rx
  obtain ⟨t', rfl⟩ := ry
  refine PySem.SB.mul ⟨?_, ?_, ?_⟩ fun t' k => ⟨.str _, H, ?_, ⟨_, rfl⟩, q⟩
  · simp only [Bool.or_eq_false_iff, decide_eq_false_iff_not]
    exact ⟨by omega, by omega⟩
  · intro p _ q
    have e : (1000000 : Int) ≤ (2 ^ 63 - 1) / n := by
      rw [Int.le_ediv_iff_mul_le (by omega)]
      omega
    by_cases hz : z.length ≤ 1000000
    · omega
    · have h4 : z.length * 1 ≤ z.length * n.toNat := Nat.mul_le_mul_left _ (by omega)
      have e2 : (sizeLine : Int) ≤ (2 ^ 63 - 1) / n := by
        rw [Int.le_ediv_iff_mul_le (by omega)]
        show (16777216 : Int) * n ≤ _
        omega
      have h5 : (z.length : Int) ≤ (sizeLine : Int) := by
        have := Nat.le_trans h4 h3
        omega
      omega
  · intro _ _
    unfold PySem.Builtin.Str.tooLong
    simp only [decide_eq_false_iff_not]
    show ¬ z.length * n.toNat > 16777216
    have : z.length * n.toNat ≤ 16777216 := h3
    omega
  · exact I.tok k
end

/-! ### rules over a written part that is named -/
section
variable {X : Cx} {K : PySem.W.Frag}
theorem kx_list (h : X.K = K) : IxR X (rIxL K) := h ▸ ix_list
theorem kx_tup (h : X.K = K) : IxR X (rIxT K) := h ▸ ix_tup
theorem kx_seq (h : X.K = K) : IxR X (rIx K) := h ▸ ix_seq
theorem ksl_list (h : X.K = K) : SlR X (rSlL K) := h ▸ sl_list
theorem kop_eqD (h : X.K = K) (hu : X.A.units + 64 < cLine) : OpR X (compareOp .Eq) (rEqD K) := h ▸ op_eqD hu
theorem kop_neD (h : X.K = K) (hu : X.A.units + 64 < cLine) : OpR X (compareOp .NotEq) (rNeD K) := h ▸ op_neD hu
theorem kop_in (h : X.K = K) : OpR X (compareOp .In) (rIn K false) := h ▸ op_in_seq
theorem kop_notIn (h : X.K = K) : OpR X (compareOp .NotIn) (rIn K true) := h ▸ op_notIn_seq
theorem kop_catT (h : X.K = K) : OpR X (binaryOp .Add) (rCatA K) := h ▸ op_catA
theorem ksl_tup (h : X.K = K) : SlR X (rSlA K) := h ▸ sl_tupA
def rLen (K : PySem.W.Frag) : List V → Hp → VK → Prop := fun xs H Q => ∃ x n, xs = [x] ∧ LenV K x H n ∧ Q (.int n) H
theorem kc_len (h : X.K = K) : CallR X (.builtin "len") (rLen K) := h ▸ call_len
def rLenS (K : PySem.W.Frag) : List V → Hp → VK → Prop := fun xs H Q => ∃ p ys, xs = [.ref p] ∧ (SqL K H p ys ∨ SqT K H p ys) ∧ Q (.int ys.length) H
theorem kc_lenS (h : X.K = K) : CallR X (.builtin "len") (rLenS K) := h ▸ call_len_seq
def rListOf (K : PySem.W.Frag) : List V → Hp → VK → Prop := fun xs H Q => ∃ p ys, xs = [.ref p] ∧ (SqL K H p ys ∨ SqT K H p ys) ∧ ∀ l, H l = none → Q (.ref l) (upd H l (.lst ys))
theorem kc_list (h : X.K = K) : CallR X (.type "list") (rListOf K) := h ▸ call_list_of
def rTupOf (K : PySem.W.Frag) : List V → Hp → VK → Prop := fun xs H Q => ∃ p ys, xs = [.ref p] ∧ ((SqL K H p ys ∧ ∀ l, H l = none → Q (.ref l) (upd H l (.tup ys))) ∨ (SqT K H p ys ∧ Q (.ref p) H))
theorem kc_tuple (h : X.K = K) : CallR X (.type "tuple") (rTupOf K) := h ▸ call_tuple_of
theorem kc_all (h : X.K = K) (hc : X.calm = true) : CallR X (.builtin "all") (rAll K) := h ▸ cr_all hc
theorem kc_any (h : X.K = K) (hc : X.calm = true) : CallR X (.builtin "any") (rAny K) := h ▸ cr_any hc
theorem kc_isi (h : X.K = K) : CallR X (.builtin "isinstance") (rIsi K) := h ▸ call_isi
theorem kpi_list {tg l : Expr} {tl : TE} (h : X.K = K) (hl : PE X l tl) : PI X tg l (iList K tl) := h ▸ pi_list hl
theorem kpi_tup {tg l : Expr} {tl : TE} (h : X.K = K) (hl : PE X l tl) : PI X tg l (iTup K tl) := h ▸ pi_tup hl
def rJoin (K : PySem.W.Frag) : V → List V → Hp → VK → Prop := fun x xs H Q => ∃ a p, ∃ ys : List Str, x = .str a ∧ xs = [.ref p] ∧ (SqL K H p (ys.map V.str) ∨ SqT K H p (ys.map V.str)) ∧ (ys.map (·.length)).sum + ys.length * a.length ≤ 16777216 ∧ Q (.str (Txt.join a ys)) H
end
/-! ### loops -/
section
variable {J : It} {n : Nat} {G : Hp → Prop} {Y : Nat → Hp → V → Hp → Prop}
/-- what is made so far stands at D -/
def AccI (I : Nat → List V → Hp → Prop) (D : Addr) (i : Nat) (H : Hp) : Prop := ∃ acc, H D = some (.lst acc) ∧ acc.length = i ∧ I i acc H
theorem acc_step {I : Nat → List V → Hp → Prop} {D : Addr} {i : Nat} {acc : List V} {y : V} {H4 : Hp} (e : H4 D = some (.lst acc)) (el : acc.length = i) (hi : i ≤ 1000000) (k : I (i + 1) (acc ++ [y]) (upd H4 D (.lst (acc ++ [y])))) :
    ∃ acc, H4 D = some (.lst acc) ∧ acc.length < sizeLine ∧ AccI I D (i + 1) (upd H4 D (.lst (acc ++ [y]))) := by
  refine ⟨acc, e, ?_, acc ++ [y], upd_same, by rw [List.length_append, el]; rfl, k⟩
  show acc.length < 16777216
  omega
/-- a comprehension without a test -/
theorem lc_acc (w : Walk J n G Y) {g : TG} {te : TE} {vs : List Nat} {σ : St} {H1 : Hp} {D : Addr} {Qd : Hp → Prop} (I : Nat → List V → Hp → Prop) (h0 : I 0 [] (upd H1 D (.lst [])))
    (hG : ∀ i acc H, i ≤ n → H D = some (.lst acc) → I i acc H → G H)
    (hs : ∀ i acc x H H', i < n → H D = some (.lst acc) → acc.length = i → I i acc H → Y i H x H' → g x (wipe σ vs) H' fun σ2 H2 => wipe σ2 vs = wipe σ vs ∧ te σ2 H2 fun y H4 => ∃ acc, H4 D = some (.lst acc) ∧ acc.length < sizeLine ∧ AccI I D (i + 1) (upd H4 D (.lst (acc ++ [y]))))
    (hd : ∀ acc H, H D = some (.lst acc) → acc.length = n → I n acc H → Qd H) :
    ∃ W : Nat → Nat → Hp → Prop, (∃ m, W 0 m (upd H1 D (.lst []))) ∧ ∀ i m H, W i m H →
      (J.stop i H ∧ Qd H) ∨ (J.go i H ∧ ∃ Nx : Hp → Prop, (∀ H', Nx H' → ∃ m', m' < m ∧ W (i + 1) m' H') ∧ ∀ x H', J.yld i H x H' → g x (wipe σ vs) H' fun σ2 H2 => wipe σ2 vs = wipe σ vs ∧ tYes σ2 H2 fun b H3 =>
        if b = true then te σ2 H3 fun y H4 => ∃ acc, H4 D = some (.lst acc) ∧ acc.length < sizeLine ∧ Nx (upd H4 D (.lst (acc ++ [y]))) else Nx H3) := by
  refine lc_it w (AccI I D) ⟨[], upd_same, rfl, h0⟩ (fun i H hi ⟨acc, e, _, k⟩ => hG i acc H hi e k) (fun i x H H' hi ⟨acc, e, el, k⟩ hy => ?_) (fun H ⟨acc, e, el, k⟩ => hd acc H e el k)
  exact hs i acc x H H' hi e el k hy
end

theorem take_succ_code {z : Str} {i c : Nat} (h : z.cps[i]? = some c) : z.cps.toList.take (i + 1) = z.cps.toList.take i ++ [c] := by
  have h' : z.cps.toList[i]? = some c := by rw [Array.getElem?_toList]; exact h
  obtain ⟨hl, e⟩ := List.getElem?_eq_some_iff.mp h'
  rw [List.take_succ_eq_append_getElem hl, e]
theorem str_of_list {z : Str} (h : z.cps.toList = []) : z = Str.ofString "" := by
  obtain ⟨⟨l⟩⟩ := z
  have e : l = [] := h
  subst e
  rfl
theorem int_get {ns : List Int} {i : Nat} {y : V} (h : (ns.map V.int)[i]? = some y) : ∃ u, y = V.int u ∧ ns[i]? = some u := by
  rw [List.getElem?_map] at h
  cases e : ns[i]? with
  | none => rw [e] at h; cases h
  | some u => rw [e] at h; exact ⟨u, (Option.some.inj h).symm, rfl⟩
theorem fmod_in {a m : Int} (h : 0 < m) : 0 ≤ a.fmod m ∧ a.fmod m < m := by
  rw [Int.fmod_eq_emod_of_nonneg a (by omega)]
  exact ⟨Int.emod_nonneg _ (by omega), Int.emod_lt_of_pos _ h⟩

/-! ### texts by their codes -/
theorem str_ext {a b : Str} (h : a.cps.toList = b.cps.toList) : a = b := by
  obtain ⟨⟨x⟩⟩ := a
  obtain ⟨⟨y⟩⟩ := b
  have e : x = y := h
  rw [e]
theorem app_codes (a b : Str) : (a ++ b).cps.toList = a.cps.toList ++ b.cps.toList := by
  show (a.cps ++ b.cps).toList = _
  rw [Array.toList_append]
theorem app_len (a b : Str) : (a ++ b).length = a.length + b.length := by
  show (a.cps ++ b.cps).size = _
  rw [Array.size_append]; rfl
theorem len_codes (a : Str) : a.cps.toList.length = a.length := by simp [Str.length]
theorem join_codes : ∀ ys : List Str, (Txt.join (Str.ofString "") ys).cps.toList = (ys.map (·.cps.toList)).flatten := by
  have h : ∀ ys : List Str, (Str.join (Str.ofString "") ys).cps.toList = (ys.map (·.cps.toList)).flatten := by
    intro ys
    induction ys with
    | nil => rfl
    | cons x r ih =>
      cases r with
      | nil =>
        show x.cps.toList = _
        simp
      | cons y r =>
        show (x ++ Str.ofString "" ++ Str.join (Str.ofString "") (y :: r)).cps.toList = _
        rw [app_codes, app_codes, ih]
        show x.cps.toList ++ [] ++ _ = _
        rw [List.append_nil, List.map_cons (l := y :: r), List.flatten_cons]
  intro ys
  have e : Txt.join (Str.ofString "") ys = Str.join (Str.ofString "") ys := StrLaws.glued_eq_join _ ys
  rw [e, h]
/-- a text of drawn signs -/
def Sg (c : Nat) : Prop := 32 ≤ c ∧ c ≤ 126 ∧ c ≠ 37
instance (c : Nat) : Decidable (Sg c) := by unfold Sg; exact inferInstance
def SgT (z : Str) : Prop := ∀ c ∈ z.cps.toList, Sg c
theorem SgT.app {a b : Str} (h : SgT a) (k : SgT b) : SgT (a ++ b) := fun c hc => by
  rw [app_codes] at hc
  rcases List.mem_append.mp hc with q | q
  · exact h c q
  · exact k c q
theorem SgT.one {c : Nat} (h : Sg c) : SgT ⟨#[c]⟩ := fun d hd => by
  have e : d = c := by simpa using hd
  rw [e]; exact h

/-! ### plain data: what is passed and returned -/
inductive Dt where
  | non | bl (b : Bool) | int (i : Int) | str (s : Str) | tup (xs : List Dt)
mutual
inductive DT (K : PySem.W.Frag) (H : Hp) : V → Dt → Prop
  | non : DT K H .non .non
  | bl (b : Bool) : DT K H (.bl b) (.bl b)
  | int (i : Int) : DT K H (.int i) (.int i)
  | str (z : Str) : DT K H (.str z) (.str z)
  | tup {a : Addr} {xs : List V} {ds : List Dt} : SqT K H a xs → DTs K H xs ds → DT K H (.ref a) (.tup ds)
inductive DTs (K : PySem.W.Frag) (H : Hp) : List V → List Dt → Prop
  | nil : DTs K H [] []
  | cons {v : V} {vs : List V} {d : Dt} {ds : List Dt} : DT K H v d → DTs K H vs ds → DTs K H (v :: vs) (d :: ds)
end
mutual
theorem DT.mono {K : PySem.W.Frag} {H H' : Hp} (k : ∀ a xs, SqT K H a xs → SqT K H' a xs) : ∀ (d : Dt) (v : V), DT K H v d → DT K H' v d
  | .non, _, h => by cases h; exact .non
  | .bl b, _, h => by cases h; exact .bl _
  | .int b, _, h => by cases h; exact .int _
  | .str b, _, h => by cases h; exact .str _
  | .tup ds, _, h => by
    cases h with
    | tup h1 h2 => exact .tup (k _ _ h1) (DTs.mono k ds _ h2)
theorem DTs.mono {K : PySem.W.Frag} {H H' : Hp} (k : ∀ a xs, SqT K H a xs → SqT K H' a xs) : ∀ (ds : List Dt) (vs : List V), DTs K H vs ds → DTs K H' vs ds
  | [], _, h => by cases h; exact .nil
  | d :: ds, _, h => by
    cases h with
    | cons h1 h2 => exact .cons (DT.mono k d _ h1) (DTs.mono k ds _ h2)
end
section
variable {K : PySem.W.Frag} {H H' : Hp}
theorem DT.same {v : V} {d : Dt} (h : DT K H v d) (e : Same H H') : DT K H' v d := DT.mono (fun _ _ q => e.seqT q) d v h
theorem DTs.same {v : List V} {d : List Dt} (h : DTs K H v d) (e : Same H H') : DTs K H' v d := DTs.mono (fun _ _ q => e.seqT q) d v h
theorem seqT_go {t a : Addr} {xs : List V} (hT : Tape H t) (e : Sm t H H') (h : SqT K H a xs) : SqT K H' a xs := by
  obtain ⟨l, ns, x, b, c, h1, _⟩ := hT.ex
  rcases h with (h | ⟨o, h⟩) | h
  · exact .inl (.inl (e _ _ (ne_of h h1 (fun z => by cases z)) h))
  · exact .inl (.inr ⟨o, e _ _ (ne_of h h1 (fun z => by cases z)) h⟩)
  · exact .inr h
theorem DT.go {t : Addr} {v : V} {d : Dt} (h : DT K H v d) (hT : Tape H t) (e : Sm t H H') : DT K H' v d := DT.mono (fun _ _ q => seqT_go hT e q) d v h
theorem DTs.go {t : Addr} {v : List V} {d : List Dt} (h : DTs K H v d) (hT : Tape H t) (e : Sm t H H') : DTs K H' v d := DTs.mono (fun _ _ q => seqT_go hT e q) d v h
theorem DTs.length {vs : List V} {ds : List Dt} (h : DTs K H vs ds) : vs.length = ds.length := by
  induction ds generalizing vs with
  | nil => cases h; rfl
  | cons d ds ih =>
    cases h with
    | cons _ h2 => rw [List.length_cons, List.length_cons, ih h2]
theorem DTs.get {vs : List V} {ds : List Dt} (h : DTs K H vs ds) {i : Nat} {d : Dt} (e : ds[i]? = some d) : ∃ v, vs[i]? = some v ∧ DT K H v d := by
  induction ds generalizing vs i with
  | nil => simp at e
  | cons x ds ih =>
    cases h with
    | cons h1 h2 =>
      cases i with
      | zero =>
        have e' : x = d := by simpa using e
        subst e'
        exact ⟨_, rfl, h1⟩
      | succ i => exact ih h2 (by simpa using e)
theorem DTs.get' {vs : List V} {ds : List Dt} (h : DTs K H vs ds) {i : Nat} {v : V} (e : vs[i]? = some v) : ∃ d, ds[i]? = some d ∧ DT K H v d := by
  have hl := h.length
  have hi : i < ds.length := by rw [← hl]; exact (List.getElem?_eq_some_iff.mp e).1
  obtain ⟨w, e2, k⟩ := h.get (List.getElem?_eq_getElem hi)
  rw [e] at e2
  cases e2
  exact ⟨_, List.getElem?_eq_getElem hi, k⟩
theorem DTs.append {vs ws : List V} {ds es : List Dt} (h : DTs K H vs ds) (k : DTs K H ws es) : DTs K H (vs ++ ws) (ds ++ es) := by
  induction ds generalizing vs with
  | nil => cases h; exact k
  | cons x ds ih =>
    cases h with
    | cons h1 h2 => exact .cons h1 (ih h2)
end
/-! ### how deep, how wide -/
mutual
def Dt.deep : Dt → Nat
  | .tup xs => Dt.deeps xs + 1
  | _ => 1
def Dt.deeps : List Dt → Nat
  | [] => 0
  | d :: ds => max d.deep (Dt.deeps ds)
end
mutual
def Dt.fits : Dt → Bool
  | .tup xs => decide (xs.length ≤ 1000000) && Dt.fitss xs
  | _ => true
def Dt.fitss : List Dt → Bool
  | [] => true
  | d :: ds => d.fits && Dt.fitss ds
end
theorem Dt.deeps_mem {d : Dt} : ∀ {ds : List Dt}, d ∈ ds → d.deep ≤ Dt.deeps ds
  | x :: ds, h => by
    unfold Dt.deeps
    rcases List.mem_cons.mp h with rfl | h
    · omega
    · have := Dt.deeps_mem h
      omega
theorem Dt.fitss_mem {d : Dt} : ∀ {ds : List Dt}, d ∈ ds → Dt.fitss ds = true → d.fits = true
  | x :: ds, h, k => by
    unfold Dt.fitss at k
    rw [Bool.and_eq_true] at k
    rcases List.mem_cons.mp h with rfl | h
    · exact k.1
    · exact Dt.fitss_mem h k.2
def Dt.name : Dt → String
  | .non => "NoneType" | .bl _ => "bool" | .int _ => "int" | .str _ => "str" | .tup _ => "tuple"
theorem seqT_ty {K : PySem.W.Frag} {H : Hp} {a : Addr} {xs : List V} (h : SqT K H a xs) : TyX K H (.ref a) (.type "tuple") := by
  rcases h with (h | ⟨o, h⟩) | ⟨o, its, n, h1, h2, _⟩
  · exact .base (.tup h)
  · exact .fTuple h
  · exact .kTuple h1 h2
theorem DT.ty {K : PySem.W.Frag} {H : Hp} {v : V} {d : Dt} (h : DT K H v d) : TyX K H v (.type d.name) := by
  cases h with
  | non => exact .base .non
  | bl b => exact .base (.bl b)
  | int i => exact .base (.int i)
  | str z => exact .base (.str z)
  | tup h1 _ => exact seqT_ty h1

theorem at_any {α : Type} {xs : List α} {z : Int} {j : Nat} {v : α} (e : z = (j : Int)) (h : xs[j]? = some v) : atI xs z = some v := by
  rw [e]
  exact atI_nat h
theorem none_left {P : Program} {w : World} {K : PySem.W.Frag} {mg : Str → Option Value} {base : Heap} {f : Addr} {fd : FuncData} {ps : List Str} {sp : Sp} (no : ∀ vs H Q E, ¬ sp vs H Q E) : FnOk P w K mg base CX0 0 f fd ps sp :=
  ⟨fun vs H Q E h => absurd h (no vs H Q E), fun A outer s H args us vs Q E _ _ _ _ h => absurd h (no vs H Q E)⟩
theorem mul_codes (z : Str) (n : Int) : (Txt.mul z n).cps.toList = (List.replicate n.toNat z.cps.toList).flatten := by
  unfold Txt.mul
  by_cases h1 : n < 1
  · rw [if_pos h1, show n.toNat = 0 by omega]
    rfl
  · rw [if_neg h1]
    have fl : ∀ (k : Nat) (a : Array Nat), ((List.replicate k z.cps).foldl (· ++ ·) a).toList = a.toList ++ (List.replicate k z.cps.toList).flatten := by
      intro k
      induction k with
      | zero => intro a; simp
      | succ k ih =>
        intro a
        rw [List.replicate_succ, List.foldl_cons, ih, List.replicate_succ, List.flatten_cons, Array.toList_append, List.append_assoc]
    by_cases h2 : (n == 1 || z.length == 0) = true
    · rw [if_pos h2]
      rw [Bool.or_eq_true] at h2
      rcases h2 with h2 | h2
      · have e : n = 1 := by simpa using h2
        subst e
        simp
      · have e : z.cps.toList = [] := by
          have : z.cps.toList.length = 0 := by rw [len_codes]; simpa using h2
          exact List.length_eq_zero_iff.mp this
        rw [e]
        simp
    · rw [if_neg h2]
      have e := fl n.toNat #[]
      simpa using e
theorem mul_len (z : Str) (n : Int) : (Txt.mul z n).length = n.toNat * z.length := by
  rw [← len_codes, mul_codes, List.length_flatten, List.map_replicate, List.sum_replicate_nat, len_codes]
/-- a list of texts as data of the model -/
theorem dpa_strs {K : PySem.W.Frag} {H : Hp} : ∀ ws : List Str, DpAll K H (ws.map V.str) (ws.map PyData.str)
  | [] => .nil
  | z :: ws => .cons (.str z) (dpa_strs ws)
theorem shaped_strs {ws : List Str} (h : ∀ z ∈ ws, SgT z) : SeqAt.shaped (.list (ws.map PyData.str)) = true := by
  have l : ∀ ws : List Str, (∀ z ∈ ws, SgT z) → PyData.canLayAll0 (ws.map PyData.str) = true ∧ PyData.depthAll (ws.map PyData.str) = 0 := by
    intro ws
    induction ws with
    | nil => intro _; exact ⟨rfl, rfl⟩
    | cons z ws ih =>
      intro h
      obtain ⟨a, b⟩ := ih fun y hy => h y (List.mem_cons_of_mem _ hy)
      have hz : PyData.strOk z = true := by
        unfold PyData.strOk
        rw [Array.all_eq_true_iff_forall_mem]
        intro c hc
        have := h z List.mem_cons_self c (by simpa using hc)
        have k := this.2.1
        simp
        omega
      refine ⟨?_, ?_⟩
      · rw [List.map_cons, PyData.canLayAll0, PyData.canLay0, hz, a]
        rfl
      · rw [List.map_cons, PyData.depthAll, b, PyData.depth]
        rfl
  obtain ⟨a, b⟩ := l ws h
  unfold SeqAt.shaped
  rw [PyData.canLay0, PyData.depth, a, b]
  rfl
theorem eqv_strs_nil (ws : List Str) : PyData.eqv (.list (ws.map PyData.str)) (.list []) = ws.isEmpty := by
  cases ws <;> simp [PyData.eqv, PyData.eqvAll]
theorem SgT.cut {z : Str} (h : SgT z) (a b : Option Int) : SgT (cutS z a b) := fun c hc => by
  refine h c ?_
  unfold cutS at hc
  exact List.mem_of_mem_drop (List.mem_of_mem_take (by simpa using hc))
theorem SgT.mul {z : Str} (h : SgT z) (n : Int) : SgT (Txt.mul z n) := fun c hc => by
  rw [mul_codes] at hc
  obtain ⟨l, h1, h2⟩ := List.mem_flatten.mp hc
  rw [List.eq_of_mem_replicate h1] at h2
  exact h c h2
/-! ### slices, by take and drop -/
theorem sIx_pos {n d : Nat} {a : Int} (h : 0 ≤ a) : HT.sIx n d (some a) = min a.toNat n := by
  show (if a < 0 then _ else _) = _
  rw [if_neg (by omega)]
theorem cut_pre (z : Str) {a : Int} (h : 0 ≤ a) : (cutS z none (some a)).cps.toList = z.cps.toList.take a.toNat := by
  show ((z.cps.toList.drop 0).take (HT.sIx z.length z.length (some a) - 0)) = _
  rw [sIx_pos h, List.drop_zero, Nat.sub_zero, ← len_codes]
  by_cases c : a.toNat ≤ z.cps.toList.length
  · rw [Nat.min_eq_left c]
  · rw [Nat.min_eq_right (by omega), List.take_of_length_le (Nat.le_refl _), List.take_of_length_le (by omega)]
theorem cut_suf (z : Str) {a : Int} (h : 0 ≤ a) : (cutS z (some a) none).cps.toList = z.cps.toList.drop a.toNat := by
  show ((z.cps.toList.drop (HT.sIx z.length 0 (some a))).take (z.length - HT.sIx z.length 0 (some a))) = _
  rw [sIx_pos h, ← len_codes]
  by_cases c : a.toNat ≤ z.cps.toList.length
  · rw [Nat.min_eq_left c, List.take_of_length_le (by rw [List.length_drop]; exact Nat.le_refl _)]
  · rw [Nat.min_eq_right (by omega), List.drop_of_length_le (Nat.le_refl _), List.drop_of_length_le (by omega), List.take_nil]
theorem cut_pre_len (z : Str) {a : Int} (h : 0 ≤ a) : (cutS z none (some a)).length = min a.toNat z.length := by
  rw [← len_codes, cut_pre z h, List.length_take, len_codes]
theorem cut_suf_len (z : Str) {a : Int} (h : 0 ≤ a) : (cutS z (some a) none).length = z.length - a.toNat := by
  rw [← len_codes, cut_suf z h, List.length_drop, len_codes]
theorem cutV_pre {xs : List V} {a : Int} (h : 0 ≤ a) : cutV xs none (some a) = xs.take a.toNat := by
  show (xs.drop 0).take (HT.sIx xs.length xs.length (some a) - 0) = _
  rw [sIx_pos h, List.drop_zero, Nat.sub_zero]
  by_cases c : a.toNat ≤ xs.length
  · rw [Nat.min_eq_left c]
  · rw [Nat.min_eq_right (by omega), List.take_of_length_le (Nat.le_refl _), List.take_of_length_le (by omega)]
theorem cutV_suf {xs : List V} {a : Int} (h : 0 ≤ a) : cutV xs (some a) none = xs.drop a.toNat := by
  show (xs.drop (HT.sIx xs.length 0 (some a))).take (xs.length - HT.sIx xs.length 0 (some a)) = _
  rw [sIx_pos h]
  by_cases c : a.toNat ≤ xs.length
  · rw [Nat.min_eq_left c, List.take_of_length_le (by rw [List.length_drop]; exact Nat.le_refl _)]
  · rw [Nat.min_eq_right (by omega), List.drop_of_length_le (Nat.le_refl _), List.drop_of_length_le (by omega), List.take_nil]
theorem pickN (l : List Nat) {v : V} (h : v ∈ l.map fun n : Nat => V.int (n : Int)) {b : Nat} (hb : (l.all fun n => decide (n ≤ b)) = true) : ∃ n : Nat, n ≤ b ∧ v = V.int (n : Int) := by
  obtain ⟨n, h1, h2⟩ := List.mem_map.mp h
  exact ⟨n, of_decide_eq_true (List.all_eq_true.mp hb n h1), h2.symm⟩
theorem pickS (l : List Str) {v : V} (h : v ∈ l.map V.str) : ∃ z : Str, z ∈ l ∧ v = V.str z := by
  obtain ⟨n, h1, h2⟩ := List.mem_map.mp h
  exact ⟨n, h1, h2.symm⟩
theorem le_line {n : Nat} (h : n ≤ 1000000) : n ≤ sizeLine := Nat.le_trans h (by decide)
theorem lt_line {n : Nat} (h : n ≤ 1000000) : n < sizeLine := Nat.lt_of_le_of_lt h (by decide)
theorem DTs.strs {K : PySem.W.Frag} {H : Hp} : ∀ ws : List Str, DTs K H (ws.map V.str) (ws.map Dt.str)
  | [] => .nil
  | z :: ws => .cons (.str z) (DTs.strs ws)
theorem deeps_strs : ∀ ws : List Str, Dt.deeps (ws.map Dt.str) ≤ 1
  | [] => by simp [Dt.deeps]
  | z :: ws => by
    have := deeps_strs ws
    have e : Dt.deep (.str z) = 1 := rfl
    rw [List.map_cons, Dt.deeps, e]
    omega
theorem fitss_strs : ∀ ws : List Str, Dt.fitss (ws.map Dt.str) = true
  | [] => rfl
  | z :: ws => by
    have e : Dt.fits (.str z) = true := rfl
    rw [List.map_cons, Dt.fitss, e, fitss_strs ws]
    rfl
theorem fits_strs {ws : List Str} (h : ws.length ≤ 1000000) : Dt.fits (.tup (ws.map Dt.str)) = true := by
  rw [Dt.fits, fitss_strs, List.length_map, decide_eq_true h]
  rfl
theorem flat_ones : ∀ cs : List Nat, ((cs.map fun c => (⟨#[c]⟩ : Str)).map (·.cps.toList)).flatten = cs
  | [] => rfl
  | c :: cs => by
    rw [List.map_cons, List.map_cons, List.flatten_cons, flat_ones cs]
    rfl
theorem sum_ones : ∀ cs : List Nat, ((cs.map fun c => (⟨#[c]⟩ : Str)).map (·.length)).sum = cs.length
  | [] => rfl
  | c :: cs => by
    rw [List.map_cons, List.map_cons, List.sum_cons, sum_ones cs, List.length_cons]
    show 1 + cs.length = _
    omega
theorem sum_lens {b : Nat} : ∀ {ws : List Str}, (∀ w ∈ ws, w.length ≤ b) → (ws.map (·.length)).sum ≤ ws.length * b
  | [], _ => by simp
  | w :: ws, h => by
    have h1 := h w List.mem_cons_self
    have h2 := sum_lens fun x hx => h x (List.mem_cons_of_mem _ hx)
    rw [List.map_cons, List.sum_cons, List.length_cons, Nat.succ_mul]
    omega
theorem join_len_le (sep : Str) (ws : List Str) : (Txt.join sep ws).length ≤ (ws.map (·.length)).sum + ws.length * sep.length := by
  have e : Txt.join sep ws = Str.join sep ws := StrLaws.glued_eq_join _ ws
  rw [e]
  exact StrLaws.join_length_le sep ws
/-! ### comprehensions that change nothing else -/
theorem wipe_back {σ : St} {k : Nat} {v : Option V} : wipe ((wipe σ [k]).set k v) [k] = wipe σ [k] := by
  show ((σ.set k none).set k v).set k none = σ.set k none
  rw [List.set_set, List.set_set]
/-- [f x for x in ..] without a test -/
theorem lc_pure {J : It} {n : Nat} {G : Hp → Prop} {Y : Nat → Hp → V → Hp → Prop} (w : Walk J n G Y) (hn : n ≤ 1000000) {k : Nat} {te : TE} {σ : St} {H1 : Hp} {D : Addr} {Qd : Hp → Prop} (it : Nat → V → Prop) (f : Nat → V)
    (hY : ∀ i H x H', i < n → Y i H x H' → H' = H ∧ it i x) (hG : ∀ acc, G (upd H1 D (.lst acc)))
    (he : ∀ i x acc (R : VK), i < n → it i x → R (f i) (upd H1 D (.lst acc)) → te ((wipe σ [k]).set k (some x)) (upd H1 D (.lst acc)) R)
    (hd : Qd (upd H1 D (.lst ((List.range n).map f)))) :
    ∃ W : Nat → Nat → Hp → Prop, (∃ m, W 0 m (upd H1 D (.lst []))) ∧ ∀ i m H, W i m H →
      (J.stop i H ∧ Qd H) ∨ (J.go i H ∧ ∃ Nx : Hp → Prop, (∀ H', Nx H' → ∃ m', m' < m ∧ W (i + 1) m' H') ∧ ∀ x H', J.yld i H x H' → gName k x (wipe σ [k]) H' fun σ2 H2 => wipe σ2 [k] = wipe σ [k] ∧ tYes σ2 H2 fun b H3 =>
        if b = true then te σ2 H3 fun y H4 => ∃ acc, H4 D = some (.lst acc) ∧ acc.length < sizeLine ∧ Nx (upd H4 D (.lst (acc ++ [y]))) else Nx H3) := by
  refine lc_it w (fun i H => H = upd H1 D (.lst ((List.range i).map f))) rfl (fun i H _ e => e ▸ hG _) (fun i x H H' hi e hy => ?_) (fun H e => e ▸ hd)
  obtain ⟨rfl, hit⟩ := hY i H x H' hi hy
  subst e
  refine ⟨wipe_back, ?_⟩
  refine he i x _ _ hi hit ⟨_, upd_same, ?_, ?_⟩
  · rw [List.length_map, List.length_range]
    exact lt_line (by omega)
  · rw [upd_upd, List.range_succ, List.map_append]
    rfl
/-- [x for x in texts if ..] -/
theorem lc_filterS {K : PySem.W.Frag} {a : Addr} {ws : List Str} {k : Nat} {tt : TT} {σ : St} {H1 : Hp} {D : Addr} {Qd : Hp → Prop} (f : Str → Bool) (hk : k < σ.length) (hS : SqL K H1 a (ws.map V.str)) (hD : H1 D = none) (hn : ws.length ≤ 1000000)
    (ht : ∀ (i : Nat) (w : Str) (acc : List V) (R : Bool → Hp → Prop), ws[i]? = some w → R (f w) (upd H1 D (.lst acc)) → tt ((wipe σ [k]).set k (some (.str w))) (upd H1 D (.lst acc)) R)
    (hd : Qd (upd H1 D (.lst ((ws.filter f).map V.str)))) :
    ∃ W : Nat → Nat → Hp → Prop, (∃ m, W 0 m (upd H1 D (.lst []))) ∧ ∀ i m H, W i m H →
      ((Itl K a).stop i H ∧ Qd H) ∨ ((Itl K a).go i H ∧ ∃ Nx : Hp → Prop, (∀ H', Nx H' → ∃ m', m' < m ∧ W (i + 1) m' H') ∧ ∀ x H', (Itl K a).yld i H x H' → gName k x (wipe σ [k]) H' fun σ2 H2 => wipe σ2 [k] = wipe σ [k] ∧ tt σ2 H2 fun b H3 =>
        if b = true then tVar k σ2 H3 fun y H4 => ∃ acc, H4 D = some (.lst acc) ∧ acc.length < sizeLine ∧ Nx (upd H4 D (.lst (acc ++ [y]))) else Nx H3) := by
  refine lc_it (walk_list (K := K) (a := a) (xs := ws.map V.str)) (fun i H => H = upd H1 D (.lst (((ws.take i).filter f).map V.str))) rfl (fun i H _ e => by rw [e]; exact (same_new hD _).seq hS) (fun i x H H' hi e hy => ?_) (fun H e => ?_)
  · obtain ⟨rfl, hx⟩ := hy
    subst e
    rw [List.getElem?_map] at hx
    obtain ⟨u, hu, rfl⟩ := Option.map_eq_some_iff.mp hx
    obtain ⟨hl2, ew⟩ := List.getElem?_eq_some_iff.mp hu
    refine ⟨wipe_back, ?_⟩
    refine ht i u _ _ hu ?_
    by_cases c : f u = true
    · rw [if_pos c]
      refine ⟨.str u, ?_, _, upd_same, ?_, ?_⟩
      · show ((σ.set k none).set k (some (.str u)))[k]? = _
        rw [List.getElem?_set_self (by rw [List.length_set]; exact hk)]
      · rw [List.length_map]
        exact lt_line (Nat.le_trans (List.length_filter_le _ _) (by rw [List.length_take]; omega))
      · rw [upd_upd, List.take_succ_eq_append_getElem hl2, ew, List.filter_append, List.map_append, List.filter_cons_of_pos c]
        rfl
    · rw [if_neg c, List.take_succ_eq_append_getElem hl2, ew, List.filter_append, List.filter_cons_of_neg c, List.filter_nil, List.append_nil]
  · rw [List.length_map, List.take_length] at e
    rw [e]
    exact hd
theorem inV_strs (z : Str) : ∀ ws : List Str, inV (.str z) (ws.map V.str) = decide (z ∈ ws)
  | [] => rfl
  | w :: ws => by
    have ih := inV_strs z ws
    unfold inV at ih ⊢
    rw [List.map_cons, List.any_cons, ih]
    show ((w == z) || _) = _
    by_cases c : w = z
    · subst c
      simp
    · have e : (w == z) = false := by rw [beq_eq_false_iff_ne]; exact c
      rw [e, Bool.false_or]
      exact decide_eq_decide.mpr ⟨fun h => List.mem_cons_of_mem _ h, fun h => (List.mem_cons.mp h).elim (fun q => absurd q.symm c) id⟩
theorem flat_strs (ws : List Str) : (ws.map V.str).all flatV = true := by
  rw [List.all_map, List.all_eq_true]
  intro x _
  rfl
theorem yint {i : Nat} {H : Hp} {x : V} {H' : Hp} (h : YFn (fun i => V.int (0 + (i : Nat))) i H x H') : H' = H ∧ x = .int (i : Int) := by
  obtain ⟨h1, h2⟩ := h
  refine ⟨h1, h2.trans ?_⟩
  show V.int (0 + (i : Int)) = V.int (i : Int)
  rw [Int.zero_add]
theorem log_small {i : Int} (h : i.natAbs ≤ 1900) : i.natAbs.log2 < 1920 := Nat.lt_of_le_of_lt (Nat.log2_le_self _) (by omega)
theorem Sm.free {t p : Addr} {H H' : Hp} (s : Sm t H H') (n : p ≠ t) (h : H' p = none) : H p = none := by
  cases e : H p with
  | none => rfl
  | some o => rw [s p o n e] at h; cases h
end My

namespace My
open PySem L2
/-! ### == and < of plain data -/
mutual
def Dt.eqb : Dt → Dt → Bool
  | .non, e => match e with | .non => true | _ => false
  | .bl a, e => match e with | .bl b => a == b | .int j => (if a then 1 else 0) == j | _ => false
  | .int i, e => match e with | .bl b => i == (if b then 1 else 0) | .int j => i == j | _ => false
  | .str x, e => match e with | .str y => x == y | _ => false
  | .tup xs, e => match e with | .tup ys => Dt.eqbs xs ys | _ => false
def Dt.eqbs : List Dt → List Dt → Bool
  | [], ys => ys.isEmpty
  | x :: xs, ys => match ys with | [] => false | y :: r => Dt.eqb x y && Dt.eqbs xs r
end
abbrev pairD (xs ys : List Dt) (j : Nat) : Bool := Dt.eqb (xs.getD j .non) (ys.getD j .non)
theorem eqbs_all : ∀ xs ys : List Dt, ((List.range (min xs.length ys.length)).all (pairD xs ys) && xs.length == ys.length) = Dt.eqbs xs ys
  | [], [] => rfl
  | [], _ :: _ => by simp [Dt.eqbs]
  | _ :: _, [] => by simp [Dt.eqbs]
  | x :: xs, y :: ys => by
    have ih := eqbs_all xs ys
    have q1 : min (x :: xs).length (y :: ys).length = min xs.length ys.length + 1 := by rw [List.length_cons, List.length_cons]; omega
    have q2 : ((x :: xs).length == (y :: ys).length) = (xs.length == ys.length) := by simp
    rw [q1, q2, List.range_succ_eq_map, List.all_cons, List.all_map, Dt.eqbs, ← ih, Bool.and_assoc]
    rfl
mutual
theorem eqb_refl : ∀ d : Dt, Dt.eqb d d = true
  | .non => by rw [Dt.eqb]
  | .bl _ => by simp [Dt.eqb]
  | .int _ => by simp [Dt.eqb]
  | .str _ => by simp [Dt.eqb]
  | .tup xs => by
    rw [Dt.eqb]
    exact eqbs_refl xs
theorem eqbs_refl : ∀ ds : List Dt, Dt.eqbs ds ds = true
  | [] => rfl
  | d :: ds => by
    rw [Dt.eqbs, eqb_refl d, eqbs_refl ds]
    rfl
end
section
variable {X : Cx} {pins : List (Addr × Obj)} {σ : St} {H : Hp} {s : Shared}
mutual
theorem DT.inj (I : Inv X pins σ H s) : ∀ (d e : Dt) (v : V), DT X.K H v d → DT X.K H v e → d = e
  | .non, e, v, h, k => by cases h; cases k; rfl
  | .bl b, e, v, h, k => by cases h; cases k; rfl
  | .int b, e, v, h, k => by cases h; cases k; rfl
  | .str b, e, v, h, k => by cases h; cases k; rfl
  | .tup ds, e, v, h, k => by
    cases h with
    | tup h1 h2 =>
      cases k with
      | tup k1 k2 =>
        cases I.tuple_inj h1 k1
        rw [DTs.inj I ds _ _ h2 k2]
theorem DTs.inj (I : Inv X pins σ H s) : ∀ (ds es : List Dt) (vs : List V), DTs X.K H vs ds → DTs X.K H vs es → ds = es
  | [], es, vs, h, k => by cases h; cases k; rfl
  | d :: ds, es, vs, h, k => by
    cases h with
    | cons h1 h2 =>
      cases k with
      | cons k1 k2 => rw [DT.inj I d _ _ h1 k1, DTs.inj I ds _ _ h2 k2]
end
theorem in1_units (A : Around) : A.in1.units = A.units + 1 := rfl
mutual
theorem eqAtD (I : Inv X pins σ H s) : ∀ (d e : Dt) (A : Around) (v u : V) (a b : Value), DT X.K H v d → DT X.K H u e → RelV v a → RelV u b → A.units + d.deep < cLine → SeqAt.EqAt A s a b (Dt.eqb d e)
  | .non, e, A, v, u, a, b, hd, he, ra, rb, hu => by
    cases hd
    cases (show a = Value.none from ra)
    cases he with
    | non => cases (show b = Value.none from rb); exact SeqAt.EqAt.same _
    | bl y => cases (show b = Value.bool y from rb); exact SeqAt.EqAt.none_bool y
    | int y => obtain ⟨t, q⟩ := (show ∃ t, b = Value.int y t from rb); cases q; exact SeqAt.EqAt.none_int y t
    | str y => obtain ⟨t, q⟩ := (show ∃ t, b = Value.str y t from rb); cases q; exact SeqAt.EqAt.none_str y t
    | tup k1 k2 =>
      cases (show b = Value.ref _ from rb)
      obtain ⟨its, _, p, _⟩ := I.tuple k1
      exact SeqAt.EqAt.none_tuple p (by omega)
  | .bl x, e, A, v, u, a, b, hd, he, ra, rb, hu => by
    cases hd
    cases (show a = Value.bool x from ra)
    cases he with
    | non => cases (show b = Value.none from rb); exact SeqAt.EqAt.bool_none x
    | bl y => cases (show b = Value.bool y from rb); exact SeqAt.EqAt.bool_bool x y
    | int y => obtain ⟨t, q⟩ := (show ∃ t, b = Value.int y t from rb); cases q; exact SeqAt.EqAt.bool_int x y t
    | str y => obtain ⟨t, q⟩ := (show ∃ t, b = Value.str y t from rb); cases q; exact SeqAt.EqAt.bool_str x y t
    | tup k1 k2 =>
      cases (show b = Value.ref _ from rb)
      obtain ⟨its, _, p, _⟩ := I.tuple k1
      exact SeqAt.EqAt.bool_tuple x p (by omega)
  | .int x, e, A, v, u, a, b, hd, he, ra, rb, hu => by
    cases hd
    obtain ⟨t0, q0⟩ := (show ∃ t, a = Value.int x t from ra)
    cases q0
    cases he with
    | non => cases (show b = Value.none from rb); exact SeqAt.EqAt.int_none x t0
    | bl y => cases (show b = Value.bool y from rb); exact SeqAt.EqAt.int_bool x t0 y
    | int y => obtain ⟨t, q⟩ := (show ∃ t, b = Value.int y t from rb); cases q; exact SeqAt.EqAt.int_int x t0 y t
    | str y => obtain ⟨t, q⟩ := (show ∃ t, b = Value.str y t from rb); cases q; exact SeqAt.EqAt.int_str x t0 y t
    | tup k1 k2 =>
      cases (show b = Value.ref _ from rb)
      obtain ⟨its, _, p, _⟩ := I.tuple k1
      exact SeqAt.EqAt.int_tuple x t0 p (by omega)
  | .str x, e, A, v, u, a, b, hd, he, ra, rb, hu => by
    cases hd
    obtain ⟨t0, q0⟩ := (show ∃ t, a = Value.str x t from ra)
    cases q0
    cases he with
    | non => cases (show b = Value.none from rb); exact SeqAt.EqAt.str_none x t0
    | bl y => cases (show b = Value.bool y from rb); exact SeqAt.EqAt.str_bool x t0 y
    | int y => obtain ⟨t, q⟩ := (show ∃ t, b = Value.int y t from rb); cases q; exact SeqAt.EqAt.str_int x t0 y t
    | str y => obtain ⟨t, q⟩ := (show ∃ t, b = Value.str y t from rb); cases q; exact SeqAt.EqAt.str_str x t0 y t
    | tup k1 k2 =>
      cases (show b = Value.ref _ from rb)
      obtain ⟨its, _, p, _⟩ := I.tuple k1
      exact SeqAt.EqAt.str_tuple x t0 p (by omega)
  | .tup ds, e, A, v, u, a, b, hd, he, ra, rb, hu => by
    cases hd with
    | @tup l vs _ h1 h2 =>
    cases (show a = Value.ref l from ra)
    obtain ⟨its, r1, p1, _⟩ := I.tuple h1
    cases he with
    | non => cases (show b = Value.none from rb); exact SeqAt.EqAt.tuple_none p1 (by omega)
    | bl y => cases (show b = Value.bool y from rb); exact SeqAt.EqAt.tuple_bool y p1 (by omega)
    | int y => obtain ⟨t, q⟩ := (show ∃ t, b = Value.int y t from rb); cases q; exact SeqAt.EqAt.tuple_int y t p1 (by omega)
    | str y => obtain ⟨t, q⟩ := (show ∃ t, b = Value.str y t from rb); cases q; exact SeqAt.EqAt.tuple_str y t p1 (by omega)
    | @tup l2 us es k1 k2 =>
      cases (show b = Value.ref l2 from rb)
      obtain ⟨its2, r2, p2, _⟩ := I.tuple k1
      by_cases hll : l = l2
      · subst hll
        cases I.tuple_inj h1 k1
        cases DTs.inj I ds es _ h2 k2
        rw [eqb_refl]
        exact SeqAt.EqAt.same _
      · have n1 : its.toArray.size = ds.length := by rw [List.size_toArray, ← r1.length, h2.length]
        have n2 : its2.toArray.size = es.length := by rw [List.size_toArray, ← r2.length, k2.length]
        show SeqAt.EqAt A s (.ref l) (.ref l2) (Dt.eqbs ds es)
        rw [← eqbs_all ds es, ← n1, ← n2]
        have hu' : A.in1.units + Dt.deeps ds < cLine := by
          rw [in1_units]
          unfold Dt.deep at hu
          omega
        refine SeqAt.EqAt.of_refs hll (SeqAt.RcAt.tuples p1 p2 (by unfold Dt.deep at hu; omega) fun j j1 j2 => ?_)
        have q := eqAtDs I ds es A.in1 vs us its its2 h2 k2 r1 r2 hu' j (by simpa using j1) (by simpa using j2)
        simpa using q
theorem eqAtDs (I : Inv X pins σ H s) : ∀ (ds es : List Dt) (A : Around) (vs us : List V) (as bs : List Value), DTs X.K H vs ds → DTs X.K H us es → Vals vs as → Vals us bs → A.units + Dt.deeps ds < cLine →
    ∀ j (h1 : j < as.length) (h2 : j < bs.length), SeqAt.EqAt A s as[j] bs[j] (pairD ds es j)
  | [], es, A, vs, us, as, bs, hd, he, ra, rb, hu, j, h1, h2 => by
    cases hd
    cases ra
    exact absurd h1 (Nat.not_lt_zero _)
  | d :: ds, es, A, vs, us, as, bs, hd, he, ra, rb, hu, j, h1, h2 => by
    cases hd with
    | cons x1 x2 =>
    cases ra with
    | cons r1 r2 =>
    unfold Dt.deeps at hu
    cases he with
    | nil =>
      cases rb
      exact absurd h2 (Nat.not_lt_zero _)
    | cons y1 y2 =>
      cases rb with
      | cons q1 q2 =>
        cases j with
        | zero => exact eqAtD I d _ A _ _ _ _ x1 y1 r1 q1 (by omega)
        | succ j => exact eqAtDs I ds _ A _ _ _ _ x2 y2 r2 q2 (by omega) j (Nat.lt_of_succ_lt_succ h1) (Nat.lt_of_succ_lt_succ h2)
end
end
/-- == of two tuples -/
def rEqT (K : PySem.W.Frag) : R2 := fun x y H Q => ∃ ds es, DT K H x (.tup ds) ∧ DT K H y (.tup es) ∧ Dt.deeps ds ≤ 60 ∧ Q (.bl (Dt.eqbs ds es)) H
theorem op_eqT {X : Cx} {K : PySem.W.Frag} (hK : X.K = K) (hu : X.A.units + 64 < cLine) : OpR X (compareOp .Eq) (rEqT K) := by
  subst hK
  intro pins s σ H x y v u Q I rx ry h
  obtain ⟨ds, es, hd, he, hz, q⟩ := h
  cases hd with
  | @tup l vs _ h1 h2 =>
  cases (show v = Value.ref l from rx)
  obtain ⟨its, r1, p1, _⟩ := I.tuple h1
  cases he with
  | @tup l2 us _ k1 k2 =>
  cases (show u = Value.ref l2 from ry)
  obtain ⟨its2, r2, p2, _⟩ := I.tuple k1
  have n1 : its.toArray.size = ds.length := by rw [List.size_toArray, ← r1.length, h2.length]
  have n2 : its2.toArray.size = es.length := by rw [List.size_toArray, ← r2.length, k2.length]
  have z : SeqAt.RcAt X.A s (.ref l) (.ref l2) (Dt.eqbs ds es) := by
    rw [← eqbs_all ds es, ← n1, ← n2]
    refine SeqAt.RcAt.tuples p1 p2 (by omega) fun j j1 j2 => ?_
    have q := eqAtDs I ds es X.A.in1 vs us its its2 h2 k2 r1 r2 (by rw [in1_units]; omega) j (by simpa using j1) (by simpa using j2)
    simpa using q
  exact z X.prog X.w X.xe _ ⟨.bl _, H, I, rfl, q⟩
end My

namespace My
open PySem L2 PySem.SeqAt
open PySem.AutoSeq1 (wpAny_loadPart')
open PySem.MeetsSeq PySem.MeetsSeq2 PySem.MeetsSeq3
/-- a < b of two tuples, where only the first unequal pair is asked for its order -/
theorem ltFirst (l b : Addr) (xs ys : Array Value) (n n2 : Nat) (dd dd2 : Option Addr) (sl sl2 : Array (Option Value)) (e r : Nat → Bool) :
    Meets (Builtin.«tuple.__lt__» ⟨[.ref l, .ref b], []⟩)
      (fun A R s => s.heap.get? l = some { cls := .type "tuple", dict := dd, data := .seq xs n, slots := sl } ∧ s.heap.get? b = some { cls := .type "tuple", dict := dd2, data := .seq ys n2, slots := sl2 } ∧
        (∀ j (k1 : j < xs.size) (k2 : j < ys.size), EqAt A.in1 s xs[j] ys[j] (e j)) ∧
        (∀ j (k1 : j < xs.size) (k2 : j < ys.size), (∀ i, i < j → e i = true) → e j = false → Ob.RcOp .Lt A.in1 s xs[j] ys[j] (r j)) ∧
        R (.ok (.ret (.bool (Ob.lexAt e r (decide (xs.size < ys.size)) 0 (min xs.size ys.size))))) s) :=
  .of_wp fun prog w A R s h => by
    obtain ⟨hp, g, d, tk, os⟩ := s
    obtain ⟨hl, hb, he, hr, h⟩ := h
    have f2 := AutoSeq1.sub_tuple_tuple
    have hZ : (xs.toList.zip ys.toList).length = min xs.size ys.size := by simp
    wp_walk using wpAny_loadPart' hl, wpAny_loadPart' hb, wpAny_forIn_list _ (fun rest acc s' => acc.1 = none ∧ s' = ⟨hp, g, d, tk, os⟩ ∧ ∃ i, rest = (xs.toList.zip ys.toList).drop i ∧ (∀ i', i' < i → e i' = true) ∧
      R (.ok (.ret (.bool (Ob.lexAt e r (decide (xs.size < ys.size)) i (min xs.size ys.size - i))))) ⟨hp, g, d, tk, os⟩) _
    case turn =>
      rintro ⟨y, x⟩ rest acc s' ⟨hacc, rfl, i, hz, hpre, hR⟩
      have hlt : i < (xs.toList.zip ys.toList).length := by
        apply Nat.lt_of_not_le
        intro hge
        rw [List.drop_of_length_le hge] at hz
        cases hz
      have hmin : i < min xs.size ys.size := by omega
      have k1 : i < xs.size := by omega
      have k2 : i < ys.size := by omega
      rw [List.drop_eq_getElem_cons hlt] at hz
      injection hz with hyx hrest
      have ey : y = xs[i] := by simpa using congrArg Prod.fst hyx
      have ex : x = ys[i] := by simpa using congrArg Prod.snd hyx
      subst ey ex
      rw [show min xs.size ys.size - i = (min xs.size ys.size - (i + 1)) + 1 by omega, Ob.lexAt_succ] at hR
      refine wpAny_bind (he i k1 k2 prog w _ _ ?_)
      cases hei : e i with
      | true =>
        rw [hei, if_pos rfl] at hR
        wp_walk
        refine ⟨rfl, rfl, i + 1, hrest, fun i' hi' => ?_, hR⟩
        by_cases q : i' = i
        · rw [q]; exact hei
        · exact hpre i' (by omega)
      | false =>
        rw [hei, if_neg Bool.false_ne_true] at hR
        have hri := hr i k1 k2 hpre hei prog w
        wp_walk using hri
        exact ⟨_, rfl, by simpa using hR⟩
    case fin =>
      rintro ⟨b1, b2⟩ s' ⟨hacc, rfl, i, hz, hpre, hR⟩
      simp only at hacc
      subst hacc
      have hge : min xs.size ys.size ≤ i := by
        apply Nat.le_of_not_lt
        intro hlt
        rw [List.drop_eq_getElem_cons (by omega)] at hz
        cases hz
      rw [Nat.sub_eq_zero_of_le hge, Ob.lexAt_zero] at hR
      wp_walk
      exact ⟨_, rfl, by simpa [Builtin.Tuple.tupleCompareSizes] using hR⟩
    case h =>
      exact ⟨rfl, rfl, 0, rfl, fun i' hi' => absurd hi' (Nat.not_lt_zero _), by simpa using h⟩
theorem rcFirst {A : Around} {s : Shared} {l b : Addr} {xs ys : Array Value} {e r : Nat → Bool} (hl : s.heap.IsTuple l xs) (hb : s.heap.IsTuple b ys) (hu : A.units < cLine)
    (he : ∀ j (k1 : j < xs.size) (k2 : j < ys.size), EqAt A.in1 s xs[j] ys[j] (e j))
    (hr : ∀ j (k1 : j < xs.size) (k2 : j < ys.size), (∀ i, i < j → e i = true) → e j = false → Ob.RcOp .Lt A.in1 s xs[j] ys[j] (r j)) :
    Ob.RcOp .Lt A s (.ref l) (.ref b) (Ob.lexAt e r (decide (xs.size < ys.size)) 0 (min xs.size ys.size)) := fun prog w E Q h => by
  obtain ⟨⟨c1, d1, t1, s1⟩, o1, z1, n, y1⟩ := id hl
  obtain ⟨⟨c2, d2, t2, s2⟩, o2, z2, n2, y2⟩ := id hb
  simp only at z1 y1 z2 y2
  subst z1 y1 z2 y2
  refine richCompare_meets_room (op := .Lt) ⟨_, o1, rfl⟩ ⟨_, o2, rfl⟩ F.slot_tuple_lt F.entry_tuple_lt (F.args_tuple_lt_2 _ _) (ltFirst l b xs ys n n2 d1 d2 s1 s2 e r) ?_ hu
  exact ⟨o1, o2, he, hr, ⟨(fun x => nomatch x), h⟩⟩

/-! ### the order of plain data -/
mutual
def Dt.lt? : Dt → Dt → Option Bool
  | .int a, e => match e with | .int b => some (decide (a < b)) | _ => none
  | .str a, e => match e with | .str b => some (decide (a.cps.toList < b.cps.toList)) | _ => none
  | .tup xs, e => match e with | .tup ys => Dt.lts? xs ys | _ => none
  | .non, _ => none
  | .bl _, _ => none
def Dt.lts? : List Dt → List Dt → Option Bool
  | [], ys => some (!ys.isEmpty)
  | x :: xs, ys => match ys with | [] => some false | y :: r => if Dt.eqb x y = true then Dt.lts? xs r else Dt.lt? x y
end
abbrev ordD (xs ys : List Dt) (j : Nat) : Bool := (Dt.lt? (xs.getD j .non) (ys.getD j .non)).getD false
theorem lexAt_shift {e r : Nat → Bool} {z : Bool} : ∀ (k i : Nat), Ob.lexAt (fun j => e (j + 1)) (fun j => r (j + 1)) z i k = Ob.lexAt e r z (i + 1) k
  | 0, i => rfl
  | k + 1, i => by
    rw [Ob.lexAt_succ, Ob.lexAt_succ, lexAt_shift k (i + 1)]
theorem lts_lex : ∀ (xs ys : List Dt) (b : Bool), Dt.lts? xs ys = some b → Ob.lexAt (pairD xs ys) (ordD xs ys) (decide (xs.length < ys.length)) 0 (min xs.length ys.length) = b
  | [], [], b, h => by simpa [Dt.lts?, Ob.lexAt_zero] using h
  | [], y :: ys, b, h => by simpa [Dt.lts?, Ob.lexAt_zero] using h
  | x :: xs, [], b, h => by simpa [Dt.lts?, Ob.lexAt_zero] using h
  | x :: xs, y :: ys, b, h => by
    rw [Dt.lts?] at h
    have q1 : min (x :: xs).length (y :: ys).length = min xs.length ys.length + 1 := by rw [List.length_cons, List.length_cons]; omega
    have q2 : decide ((x :: xs).length < (y :: ys).length) = decide (xs.length < ys.length) := by simp
    rw [q1, q2, Ob.lexAt_succ]
    by_cases c : Dt.eqb x y = true
    · rw [if_pos c] at h
      have c' : pairD (x :: xs) (y :: ys) 0 = true := c
      rw [if_pos c', ← lexAt_shift]
      exact lts_lex xs ys b h
    · rw [if_neg c] at h
      have c' : ¬ pairD (x :: xs) (y :: ys) 0 = true := c
      rw [if_neg c']
      show (Dt.lt? x y).getD false = b
      rw [h]
      rfl
section
variable {X : Cx} {pins : List (Addr × Obj)} {σ : St} {H : Hp} {s : Shared}
mutual
theorem ltAtD (I : Inv X pins σ H s) : ∀ (d e : Dt) (A : Around) (v u : V) (a b : Value) (k : Bool), DT X.K H v d → DT X.K H u e → RelV v a → RelV u b → A.units + d.deep < cLine → Dt.lt? d e = some k → Ob.RcOp .Lt A s a b k
  | .non, e, A, v, u, a, b, k, hd, he, ra, rb, hu, hk => by cases hk
  | .bl x, e, A, v, u, a, b, k, hd, he, ra, rb, hu, hk => by cases hk
  | .int x, e, A, v, u, a, b, k, hd, he, ra, rb, hu, hk => by
    cases hd
    obtain ⟨t0, q0⟩ := (show ∃ t, a = Value.int x t from ra)
    cases q0
    cases he with
    | int y =>
      obtain ⟨t, q⟩ := (show ∃ t, b = Value.int y t from rb)
      cases q
      cases (show some (decide (x < y)) = some k from hk)
      exact Ob.RcOp.lt_int x y t0 t
    | _ => cases hk
  | .str x, e, A, v, u, a, b, k, hd, he, ra, rb, hu, hk => by
    cases hd
    obtain ⟨t0, q0⟩ := (show ∃ t, a = Value.str x t from ra)
    cases q0
    cases he with
    | str y =>
      obtain ⟨t, q⟩ := (show ∃ t, b = Value.str y t from rb)
      cases q
      cases (show some (decide (x.cps.toList < y.cps.toList)) = some k from hk)
      exact fun prog w E Q h => PyProof.Rows.lt_str h
    | _ => cases hk
  | .tup ds, e, A, v, u, a, b, k, hd, he, ra, rb, hu, hk => by
    cases hd with
    | @tup l vs _ h1 h2 =>
    cases (show a = Value.ref l from ra)
    obtain ⟨its, r1, p1, _⟩ := I.tuple h1
    cases he with
    | @tup l2 us es k1 k2 =>
      cases (show b = Value.ref l2 from rb)
      obtain ⟨its2, r2, p2, _⟩ := I.tuple k1
      have n1 : its.toArray.size = ds.length := by rw [List.size_toArray, ← r1.length, h2.length]
      have n2 : its2.toArray.size = es.length := by rw [List.size_toArray, ← r2.length, k2.length]
      have hk' : Dt.lts? ds es = some k := hk
      rw [← lts_lex ds es k hk', ← n1, ← n2]
      have hu' : A.in1.units + Dt.deeps ds < cLine := by
        rw [in1_units]
        unfold Dt.deep at hu
        omega
      refine rcFirst p1 p2 (by unfold Dt.deep at hu; omega) (fun j j1 j2 => ?_) (fun j j1 j2 jp jf => ?_)
      · have q := eqAtDs I ds es A.in1 vs us its its2 h2 k2 r1 r2 hu' j (by simpa using j1) (by simpa using j2)
        simpa using q
      · have q := ltAtDs I ds es A.in1 vs us its its2 k h2 k2 r1 r2 hu' hk' j (by simpa using j1) (by simpa using j2) jp jf
        simpa using q
    | _ => cases hk
theorem ltAtDs (I : Inv X pins σ H s) : ∀ (ds es : List Dt) (A : Around) (vs us : List V) (as bs : List Value) (k : Bool), DTs X.K H vs ds → DTs X.K H us es → Vals vs as → Vals us bs → A.units + Dt.deeps ds < cLine → Dt.lts? ds es = some k →
    ∀ j (h1 : j < as.length) (h2 : j < bs.length), (∀ i, i < j → pairD ds es i = true) → pairD ds es j = false → Ob.RcOp .Lt A s as[j] bs[j] (ordD ds es j)
  | [], es, A, vs, us, as, bs, k, hd, he, ra, rb, hu, hk, j, h1, h2, jp, jf => by
    cases hd
    cases ra
    exact absurd h1 (Nat.not_lt_zero _)
  | d :: ds, es, A, vs, us, as, bs, k, hd, he, ra, rb, hu, hk, j, h1, h2, jp, jf => by
    cases hd with
    | cons x1 x2 =>
    cases ra with
    | cons r1 r2 =>
    unfold Dt.deeps at hu
    cases he with
    | nil =>
      cases rb
      exact absurd h2 (Nat.not_lt_zero _)
    | @cons _ _ e es' y1 y2 =>
      cases rb with
      | cons q1 q2 =>
        rw [Dt.lts?] at hk
        cases j with
        | zero =>
          have c : ¬ Dt.eqb d e = true := by
            have : Dt.eqb d e = false := jf
            rw [this]; exact Bool.false_ne_true
          rw [if_neg c] at hk
          have z := ltAtD I d e A _ _ _ _ k x1 y1 r1 q1 (by omega) hk
          have ek : ordD (d :: ds) (e :: es') 0 = k := by
            show (Dt.lt? d e).getD false = k
            rw [hk]; rfl
          rw [ek]
          exact z
        | succ j =>
          have c : Dt.eqb d e = true := jp 0 (Nat.succ_pos _)
          rw [if_pos c] at hk
          exact ltAtDs I ds es' A _ _ _ _ k x2 y2 r2 q2 (by omega) hk j (Nat.lt_of_succ_lt_succ h1) (Nat.lt_of_succ_lt_succ h2) (fun i hi => jp (i + 1) (Nat.succ_lt_succ hi)) jf
end
end
/-- < of two tuples -/
def rLtTD (K : PySem.W.Frag) : R2 := fun x y H Q => ∃ ds es k, DT K H x (.tup ds) ∧ DT K H y (.tup es) ∧ Dt.deeps ds ≤ 60 ∧ Dt.lts? ds es = some k ∧ Q (.bl k) H
theorem op_ltTD {X : Cx} {K : PySem.W.Frag} (hK : X.K = K) (hu : X.A.units + 64 < cLine) : OpR X (compareOp .Lt) (rLtTD K) := by
  subst hK
  intro pins s σ H x y v u Q I rx ry h
  obtain ⟨ds, es, k, hd, he, hz, hk, q⟩ := h
  exact ltAtD I (.tup ds) (.tup es) X.A x y v u k hd he rx ry (by unfold Dt.deep; omega) hk X.prog X.w X.xe _ ⟨.bl _, H, I, rfl, q⟩
end My

namespace My
open PySem L2
/-! ### keys -/
def allIn (cs gs : List Nat) : Bool := cs.all fun c => decide (c ∈ gs)
def firstC : List Nat := (Str.ofString "abcdefghijklmnopqrstuvwxyz").cps.toList
def keyC : List Nat := (Str.ofString "abcdefghijklmnopqrstuvwxyzABCDEFGHIJKLMNOPQRSTUVWXYZ0123456789-").cps.toList
/-- what a key is, by its signs -/
def isKeyC (cs : List Nat) : Bool := decide (cs ≠ []) && decide (cs.length ≤ 16) && decide (cs.headD 0 ∈ firstC) && allIn cs keyC
theorem isKeyC_no {cs : List Nat} (h : cs = [] ∨ 16 < cs.length) : isKeyC cs = false := by
  unfold isKeyC
  rcases h with rfl | h
  · rfl
  · rw [decide_eq_false (p := cs.length ≤ 16) (by omega)]
    simp
theorem isKeyC_yes {cs : List Nat} {c : Nat} (h0 : cs[0]? = some c) (h : cs.length ≤ 16) : isKeyC cs = (decide (c ∈ firstC) && allIn cs keyC) := by
  cases cs with
  | nil => simp at h0
  | cons a r =>
    have e : a = c := by simpa using h0
    subst e
    unfold isKeyC
    rw [decide_eq_true h, decide_eq_true (by simp)]
    simp
theorem isKeyC_iff {cs : List Nat} : isKeyC cs = true ↔ ∃ c r, cs = c :: r ∧ c ∈ firstC ∧ cs.length ≤ 16 ∧ ∀ d ∈ cs, d ∈ keyC := by
  constructor
  · intro h
    unfold isKeyC at h
    simp only [Bool.and_eq_true, decide_eq_true_eq] at h
    obtain ⟨⟨⟨h1, h2⟩, h3⟩, h4⟩ := h
    obtain ⟨c, r, rfl⟩ := List.exists_cons_of_ne_nil h1
    refine ⟨c, r, rfl, h3, h2, fun d hd => ?_⟩
    unfold allIn at h4
    exact of_decide_eq_true (List.all_eq_true.mp h4 d hd)
  · rintro ⟨c, r, rfl, h1, h2, h3⟩
    unfold isKeyC
    simp only [Bool.and_eq_true, decide_eq_true_eq]
    refine ⟨⟨⟨by simp, h2⟩, h1⟩, ?_⟩
    unfold allIn
    rw [List.all_eq_true]
    exact fun d hd => decide_eq_true (h3 d hd)
/-- the key of a text -/
def KeyT (z : Str) : Prop := isKeyC z.cps.toList = true
theorem KeyT.len {z : Str} (h : KeyT z) : z.length ≤ 16 := by
  obtain ⟨c, r, e, _, h2, _⟩ := isKeyC_iff.mp h
  rw [len_codes] at h2
  exact h2
theorem keyC_sg : ∀ c ∈ keyC, Sg c ∧ c ≠ 32 ∧ c ≠ 34 ∧ c ≠ 46 := by decide +kernel
theorem KeyT.sg {z : Str} (h : KeyT z) : SgT z := fun c hc => by
  obtain ⟨_, r, e, _, _, h3⟩ := isKeyC_iff.mp h
  exact (keyC_sg c (h3 c hc)).1
/-- more signs behind a key -/
theorem KeyT.app {z u : Str} (h : KeyT z) (hu : ∀ c ∈ u.cps.toList, c ∈ keyC) (hl : z.length + u.length ≤ 16) : KeyT (z ++ u) := by
  obtain ⟨c, r, e, h1, h2, h3⟩ := isKeyC_iff.mp h
  refine isKeyC_iff.mpr ⟨c, r ++ u.cps.toList, ?_, h1, ?_, fun d hd => ?_⟩
  · rw [app_codes, e]; rfl
  · rw [len_codes, app_len]; exact hl
  · rw [app_codes] at hd
    exact (List.mem_append.mp hd).elim (h3 d) (hu d)
theorem KeyT.cut {z : Str} (h : KeyT z) {n : Int} (h1 : 1 ≤ n) : KeyT (cutS z none (some n)) := by
  obtain ⟨c, r, e, h1', h2, h3⟩ := isKeyC_iff.mp h
  have ec := cut_pre z (a := n) (by omega)
  obtain ⟨m, hm⟩ : ∃ m, n.toNat = m + 1 := ⟨n.toNat - 1, by omega⟩
  refine isKeyC_iff.mpr ⟨c, r.take m, ?_, h1', ?_, fun d hd => h3 d ?_⟩
  · rw [ec, e, hm]; rfl
  · rw [ec, List.length_take]
    omega
  · rw [ec] at hd
    exact List.mem_of_mem_take hd
theorem KeyT.one {c : Nat} (h : c ∈ firstC) : KeyT ⟨#[c]⟩ := isKeyC_iff.mpr ⟨c, [], rfl, h, (by show 1 ≤ 16; decide), fun d hd => by
  have e : d = c := by simpa using hd
  subst e
  have z : ∀ c ∈ firstC, c ∈ keyC := by decide +kernel
  exact z d h⟩
def resL : List Str := [Str.ofString "hook", Str.ofString "each", Str.ofString "when", Str.ofString "then", Str.ofString "and", Str.ofString "or", Str.ofString "not", Str.ofString "has", Str.ofString "set", Str.ofString "default", Str.ofString "from", Str.ofString "remove", Str.ofString "reject", Str.ofString "true", Str.ofString "false"]
end My

namespace My
open PySem L2
/-! ### slices and sums of tuples, one way -/
section
variable {K : PySem.W.Frag} {H : Hp}
theorem slA_of {a : Addr} {xs : List V} {lo hi : Option Int} {Q : VK} (h : SqT K H a xs) (q : ∀ p H', Same H H' → SqT K H' p (cutV xs lo hi) → Q (.ref p) H') : rSlA K (.ref a) lo hi H Q := by
  refine ⟨a, xs, rfl, h, fun e => q a H (Same.refl H) ?_, fun _ p hp => q p _ (same_new hp _) (SqT.of upd_same)⟩
  have ec : cutV xs lo hi = xs := by
    unfold cutV
    rw [e.1, e.2, List.drop_zero, Nat.sub_zero, List.take_length]
  rw [ec]
  exact h
theorem catA_of {a b : Addr} {xs ys : List V} {Q : VK} (h : SqT K H a xs) (k : SqT K H b ys) (hl : xs.length + ys.length ≤ sizeLine) (q : ∀ p H', Same H H' → SqT K H' p (xs ++ ys) → Q (.ref p) H') : rCatA K (.ref a) (.ref b) H Q := by
  refine ⟨a, b, xs, ys, rfl, rfl, h, k, hl, fun e => ?_, fun _ e => ?_, fun _ _ p hp => q p _ (same_new hp _) (SqT.of upd_same)⟩
  · subst e
    exact q b H (Same.refl H) k
  · subst e
    refine q a H (Same.refl H) ?_
    rw [List.append_nil]
    exact h
end
/-! ### data of the model stand as long as nothing changes -/
mutual
theorem Dp.mono {K : PySem.W.Frag} {H H' : Hp} (k : ∀ a xs, SqT K H a xs → SqT K H' a xs) (k2 : ∀ a xs, SqL K H a xs → SqL K H' a xs) : ∀ (d : PyData) (v : V), Dp K H v d → Dp K H' v d
  | .none, _, h => by cases h; exact .non
  | .bool b, _, h => by cases h; exact .bl _
  | .int b, _, h => by cases h; exact .int _
  | .str b, _, h => by cases h; exact .str _
  | .list ds, _, h => by
    cases h with
    | lst h1 h2 => exact .lst (k2 _ _ h1) (DpAll.mono k k2 ds _ h2)
  | .tuple ds, _, h => by
    cases h with
    | tup h1 h2 => exact .tup (k _ _ h1) (DpAll.mono k k2 ds _ h2)
  | .dict _, _, h => by cases h
theorem DpAll.mono {K : PySem.W.Frag} {H H' : Hp} (k : ∀ a xs, SqT K H a xs → SqT K H' a xs) (k2 : ∀ a xs, SqL K H a xs → SqL K H' a xs) : ∀ (ds : List PyData) (vs : List V), DpAll K H vs ds → DpAll K H' vs ds
  | [], _, h => by cases h; exact .nil
  | d :: ds, _, h => by
    cases h with
    | cons h1 h2 => exact .cons (Dp.mono k k2 d _ h1) (DpAll.mono k k2 ds _ h2)
end
theorem _root_.L2.Dp.same {K : PySem.W.Frag} {H H' : Hp} {d : PyData} {v : V} (h : Dp K H v d) (e : Same H H') : Dp K H' v d := Dp.mono (fun _ _ q => e.seqT q) (fun _ _ q => e.seq q) d v h
theorem _root_.L2.DpAll.same {K : PySem.W.Frag} {H H' : Hp} {d : List PyData} {v : List V} (h : DpAll K H v d) (e : Same H H') : DpAll K H' v d := DpAll.mono (fun _ _ q => e.seqT q) (fun _ _ q => e.seq q) d v h
theorem _root_.L2.DpAll.append {K : PySem.W.Frag} {H : Hp} {vs us : List V} {ds es : List PyData} (h : DpAll K H vs ds) (k : DpAll K H us es) : DpAll K H (vs ++ us) (ds ++ es) := by
  induction ds generalizing vs with
  | nil => cases h; exact k
  | cons d ds ih =>
    cases h with
    | cons h1 h2 => exact .cons h1 (ih h2)
/-- the order of alike data -/
def rLtP (K : PySem.W.Frag) : R2 := fun x y H Q => ∃ d e, Dp K H x d ∧ Dp K H y e ∧ PySem.W.alike d e = true ∧ d ≠ .none ∧ d.depth ≤ 60 ∧ Q (.bl (PySem.W.dataLt d e)) H
def rGtP (K : PySem.W.Frag) : R2 := fun x y H Q => ∃ d e, Dp K H x d ∧ Dp K H y e ∧ PySem.W.alike d e = true ∧ d ≠ .none ∧ d.depth ≤ 60 ∧ Q (.bl (PySem.W.dataLt e d)) H
section
variable {X : Cx} {K : PySem.W.Frag}
theorem op_ltP (hK : X.K = K) (hu : X.A.units + 64 < cLine) : OpR X (compareOp .Lt) (rLtP K) := by
  subst hK
  intro pins s σ H x y v u Q I rx ry h
  obtain ⟨d, e, hd, he, ha, hn, hz, q⟩ := h
  obtain ⟨as, r1⟩ := L2.Dp.reads I d x v hd rx
  obtain ⟨bs, r2⟩ := L2.Dp.reads I e y u he ry
  exact PySem.W.lt_data r1 r2 ha hn (by have := Nat.min_le_left d.depth e.depth; omega) ⟨.bl _, H, I, rfl, q⟩
theorem op_gtP (hK : X.K = K) (hu : X.A.units + 64 < cLine) : OpR X (compareOp .Gt) (rGtP K) := by
  subst hK
  intro pins s σ H x y v u Q I rx ry h
  obtain ⟨d, e, hd, he, ha, hn, hz, q⟩ := h
  obtain ⟨as, r1⟩ := L2.Dp.reads I d x v hd rx
  obtain ⟨bs, r2⟩ := L2.Dp.reads I e y u he ry
  exact PySem.W.gt_data r1 r2 ha hn (by have := Nat.min_le_left d.depth e.depth; omega) ⟨.bl _, H, I, rfl, q⟩
end
/-! ### the order of texts -/
def rkT (z : Str) : List Dt := [.int z.length, .str z]
/-- -1, 0, 1 -/
def cmpD (ds es : List Dt) : Int := if Dt.eqbs ds es = true then 0 else if Dt.lts? ds es = some true then -1 else 1
def ltC (a b : List Nat) : Prop := a.length < b.length ∨ (a.length = b.length ∧ a < b)
instance (a b : List Nat) : Decidable (ltC a b) := by unfold ltC; exact inferInstance
def cmpC (a b : List Nat) : Int := if a = b then 0 else if ltC a b then -1 else 1
theorem ltC_irrefl (a : List Nat) : ¬ ltC a a := fun h => h.elim (fun q => Nat.lt_irrefl _ q) (fun q => List.lt_irrefl _ q.2)
theorem ltC_asymm {a b : List Nat} (h : ltC a b) : ¬ ltC b a := fun k => by
  rcases h with h | ⟨h, h'⟩ <;> rcases k with k | ⟨k, k'⟩
  · omega
  · omega
  · omega
  · exact List.lt_asymm h' k'
theorem ltC_total {a b : List Nat} (h : a ≠ b) : ltC a b ∨ ltC b a := by
  rcases Nat.lt_trichotomy a.length b.length with k | k | k
  · exact .inl (.inl k)
  · by_cases c : a < b
    · exact .inl (.inr ⟨k, c⟩)
    · have c' : b ≤ a := List.not_lt.mp c
      rcases List.le_iff_lt_or_eq.mp c' with d | d
      · exact .inr (.inr ⟨k.symm, d⟩)
      · exact absurd d.symm h
  · exact .inr (.inl k)
theorem eqbs_rkT (a b : Str) : Dt.eqbs (rkT a) (rkT b) = decide (a.cps.toList = b.cps.toList) := by
  by_cases c : a.cps.toList = b.cps.toList
  · have e := str_ext c
    subst e
    rw [eqbs_refl, decide_eq_true rfl]
  · rw [decide_eq_false c]
    show (((a.length : Int) == (b.length : Int)) && ((a == b) && true)) = false
    have e : (a == b) = false := by
      rw [beq_eq_false_iff_ne]
      intro q
      exact c (by rw [q])
    rw [e]
    simp
theorem lts_rkT (a b : Str) (h : a.cps.toList ≠ b.cps.toList) : Dt.lts? (rkT a) (rkT b) = some (decide (ltC a.cps.toList b.cps.toList)) := by
  have la := len_codes a
  have lb := len_codes b
  show (if Dt.eqb (.int a.length) (.int b.length) = true then (if Dt.eqb (.str a) (.str b) = true then Dt.lts? [] [] else some (decide (a.cps.toList < b.cps.toList))) else some (decide ((a.length : Int) < (b.length : Int)))) = _
  have e1 : Dt.eqb (.int a.length) (.int b.length) = decide (a.length = b.length) := by
    show ((a.length : Int) == (b.length : Int)) = _
    rw [Bool.beq_eq_decide_eq]
    exact decide_eq_decide.mpr ⟨by omega, by omega⟩
  have e2 : Dt.eqb (.str a) (.str b) = false := by
    show (a == b) = false
    rw [beq_eq_false_iff_ne]
    intro q
    exact h (by rw [q])
  rw [e1, e2]
  by_cases c : a.length = b.length
  · rw [decide_eq_true c, if_pos rfl, if_neg Bool.false_ne_true]
    congr 1
    exact decide_eq_decide.mpr ⟨fun q => .inr ⟨by rw [la, lb]; exact c, q⟩, fun q => Or.elim q (fun z => absurd z (by omega)) (·.2)⟩
  · rw [decide_eq_false c, if_neg Bool.false_ne_true]
    congr 1
    exact decide_eq_decide.mpr ⟨fun q => .inl (by omega), fun q => Or.elim q (fun z => by omega) (fun z => absurd z.1 (by omega))⟩
theorem lts_same (ds : List Dt) : Dt.lts? ds ds = some false := by
  induction ds with
  | nil => rfl
  | cons d ds ih => rw [Dt.lts?, if_pos (eqb_refl d), ih]
theorem lts_rkT_any (a b : Str) : ∃ k, Dt.lts? (rkT a) (rkT b) = some k := by
  by_cases c : a.cps.toList = b.cps.toList
  · rw [str_ext c]
    exact ⟨_, lts_same _⟩
  · exact ⟨_, lts_rkT a b c⟩
theorem cmpD_rkT (a b : Str) : cmpD (rkT a) (rkT b) = cmpC a.cps.toList b.cps.toList := by
  unfold cmpD cmpC
  rw [eqbs_rkT]
  by_cases c : a.cps.toList = b.cps.toList
  · rw [decide_eq_true c, if_pos rfl, if_pos c]
  · rw [decide_eq_false c, if_neg Bool.false_ne_true, if_neg c, lts_rkT a b c]
    by_cases d : ltC a.cps.toList b.cps.toList
    · rw [decide_eq_true d, if_pos rfl, if_pos d]
    · rw [decide_eq_false d, if_neg (by intro z; cases z), if_neg d]
/-! ### the order of paths -/
/-- the path as comes first -/
def ltP : List Str → List Str → Bool
  | [], bs => !bs.isEmpty
  | a :: as, bs => match bs with
    | [] => false
    | b :: bs => if a = b then ltP as bs else decide (ltC a.cps.toList b.cps.toList)
def cmpP (as bs : List Str) : Int := if as = bs then 0 else if ltP as bs = true then -1 else 1
theorem codes_ne {a b : Str} (h : a ≠ b) : a.cps.toList ≠ b.cps.toList := fun q => h (str_ext q)
theorem ltP_irrefl : ∀ as, ltP as as = false
  | [] => rfl
  | a :: as => by rw [ltP, if_pos rfl, ltP_irrefl as]
theorem ltP_asymm : ∀ as bs, ltP as bs = true → ltP bs as = false
  | [], [], h => rfl
  | [], b :: bs, h => rfl
  | a :: as, [], h => by cases h
  | a :: as, b :: bs, h => by
    rw [ltP] at h ⊢
    by_cases c : a = b
    · subst c
      rw [if_pos rfl] at h ⊢
      exact ltP_asymm as bs h
    · rw [if_neg c] at h
      rw [if_neg (fun q => c q.symm)]
      exact decide_eq_false (ltC_asymm (of_decide_eq_true h))
theorem ltP_total : ∀ as bs, as ≠ bs → ltP as bs = true ∨ ltP bs as = true
  | [], [], h => absurd rfl h
  | [], b :: bs, h => .inl rfl
  | a :: as, [], h => .inr rfl
  | a :: as, b :: bs, h => by
    rw [ltP, ltP]
    by_cases c : a = b
    · subst c
      rw [if_pos rfl, if_pos rfl]
      exact ltP_total as bs fun q => h (by rw [q])
    · rw [if_neg c, if_neg (fun q => c q.symm)]
      exact (ltC_total (codes_ne c)).imp decide_eq_true decide_eq_true
theorem cmpP_sign (as bs : List Str) : cmpP as bs = (if ltP bs as = true then (1 : Int) else 0) - (if ltP as bs = true then 1 else 0) := by
  unfold cmpP
  by_cases c : as = bs
  · subst c
    rw [if_pos rfl, ltP_irrefl]
    rfl
  · rw [if_neg c]
    by_cases d : ltP as bs = true
    · rw [if_pos d, if_pos d, ltP_asymm _ _ d]
      rfl
    · have e := (ltP_total as bs c).resolve_left d
      rw [if_neg d, if_neg d, if_pos e]
      rfl
/-- what orders paths -/
def rkP (ks : List Str) : List Dt := ks.map fun k => .tup (rkT k)
theorem eqbs_rkP : ∀ as bs, Dt.eqbs (rkP as) (rkP bs) = decide (as = bs)
  | [], [] => rfl
  | [], b :: bs => rfl
  | a :: as, [] => rfl
  | a :: as, b :: bs => by
    have ih := eqbs_rkP as bs
    show (Dt.eqbs (rkT a) (rkT b) && Dt.eqbs (rkP as) (rkP bs)) = _
    rw [ih, eqbs_rkT, ← Bool.decide_and]
    exact decide_eq_decide.mpr ⟨fun q => by rw [str_ext q.1, q.2], fun q => by cases q; exact ⟨rfl, rfl⟩⟩
theorem lts_rkP : ∀ as bs, Dt.lts? (rkP as) (rkP bs) = some (ltP as bs)
  | [], [] => rfl
  | [], b :: bs => rfl
  | a :: as, [] => rfl
  | a :: as, b :: bs => by
    have ih := lts_rkP as bs
    show (if Dt.eqbs (rkT a) (rkT b) = true then Dt.lts? (rkP as) (rkP bs) else Dt.lts? (rkT a) (rkT b)) = _
    rw [eqbs_rkT, ih, ltP]
    by_cases c : a = b
    · subst c
      rw [decide_eq_true rfl, if_pos rfl, if_pos rfl]
    · rw [decide_eq_false (codes_ne c), if_neg Bool.false_ne_true, if_neg c, lts_rkT a b (codes_ne c)]
theorem cmpD_rkP (as bs : List Str) : cmpD (rkP as) (rkP bs) = cmpP as bs := by
  unfold cmpD cmpP
  rw [eqbs_rkP, lts_rkP]
  by_cases c : as = bs
  · rw [decide_eq_true c, if_pos rfl, if_pos c]
  · rw [decide_eq_false c, if_neg Bool.false_ne_true, if_neg c]
    by_cases d : ltP as bs = true
    · rw [d, if_pos rfl, if_pos rfl]
    · rw [if_neg d, if_neg]
      intro z
      exact d (Option.some.inj z)
theorem deeps_rkP : ∀ ks : List Str, Dt.deeps (rkP ks) ≤ 2
  | [] => by decide
  | k :: ks => by
    have := deeps_rkP ks
    have e : Dt.deep (.tup (rkT k)) = 2 := rfl
    show max (Dt.deep (.tup (rkT k))) (Dt.deeps (rkP ks)) ≤ 2
    omega
/-! ### the same as data of the model -/
def dK (k : Str) : PyData := .tuple [.int k.length, .str k]
theorem alike_dK (a b : Str) : PySem.W.alike (dK a) (dK b) = true := rfl
theorem eqv_dK (a b : Str) : PyData.eqv (dK a) (dK b) = decide (a = b) := by
  show (((a.length : Int) == (b.length : Int)) && ((a == b) && true)) = _
  by_cases c : a = b
  · subst c; simp
  · have e : (a == b) = false := by rw [beq_eq_false_iff_ne]; exact c
    rw [e, decide_eq_false c]
    simp
theorem dataLt_dK (a b : Str) (h : a ≠ b) : PySem.W.dataLt (dK a) (dK b) = decide (ltC a.cps.toList b.cps.toList) := by
  have la := len_codes a
  have lb := len_codes b
  show PySem.W.dataLt (.tuple [.int a.length, .str a]) (.tuple [.int b.length, .str b]) = _
  rw [PySem.W.dataLt_pair rfl rfl, PySem.W.dataLt_int, PySem.W.dataLt_str]
  have e1 : PyData.eqv (.int a.length) (.int b.length) = decide (a.length = b.length) := by
    show ((a.length : Int) == (b.length : Int)) = _
    rw [Bool.beq_eq_decide_eq]
    exact decide_eq_decide.mpr ⟨by omega, by omega⟩
  have e2 : PyData.eqv (.str a) (.str b) = false := by
    show (a == b) = false
    rw [beq_eq_false_iff_ne]
    exact h
  rw [e1, e2, if_neg Bool.false_ne_true]
  by_cases c : a.length = b.length
  · rw [decide_eq_true c, if_pos rfl]
    exact decide_eq_decide.mpr ⟨fun q => .inr ⟨by rw [la, lb]; exact c, q⟩, fun q => Or.elim q (fun z => absurd z (by omega)) (·.2)⟩
  · rw [decide_eq_false c, if_neg Bool.false_ne_true]
    exact decide_eq_decide.mpr ⟨fun q => .inl (by omega), fun q => Or.elim q (fun z => by omega) (fun z => absurd z.1 (by omega))⟩
theorem alike_rows : ∀ as bs : List Str, PySem.W.alikeAll (as.map dK) (bs.map dK) = true
  | [], bs => by cases bs <;> rfl
  | a :: as, [] => rfl
  | a :: as, b :: bs => by
    rw [List.map_cons, List.map_cons, PySem.W.alikeAll, alike_dK, alike_rows as bs]
    rfl
theorem rowLt_rows : ∀ as bs : List Str, PySem.W.dataLt (.list (as.map dK)) (.list (bs.map dK)) = ltP as bs
  | [], [] => rfl
  | [], b :: bs => rfl
  | a :: as, [] => rfl
  | a :: as, b :: bs => by
    have ih := rowLt_rows as bs
    rw [PySem.W.dataLt_list] at ih ⊢
    rw [List.map_cons, List.map_cons, PySem.W.dataLt_cons (alike_dK a b), eqv_dK, ih, ltP]
    by_cases c : a = b
    · rw [decide_eq_true c, if_pos rfl, if_pos c]
    · rw [decide_eq_false c, if_neg Bool.false_ne_true, if_neg c, dataLt_dK a b c]
theorem depth_rows : ∀ as : List Str, PyData.depthAll (as.map dK) ≤ 1
  | [] => by decide
  | a :: as => by
    have := depth_rows as
    rw [List.map_cons, PyData.depthAll]
    have e : PyData.depth (dK a) = 1 := rfl
    omega
theorem depth_list (as : List Str) : PyData.depth (.list (as.map dK)) ≤ 60 := by
  have := depth_rows as
  rw [PyData.depth]
  omega
/-- paths as data -/
def ptD (ks : List Str) : Dt := .tup (ks.map .str)
theorem eqbs_strs : ∀ as bs : List Str, Dt.eqbs (as.map .str) (bs.map .str) = decide (as = bs)
  | [], [] => rfl
  | [], b :: bs => rfl
  | a :: as, [] => rfl
  | a :: as, b :: bs => by
    have ih := eqbs_strs as bs
    show ((a == b) && Dt.eqbs (as.map .str) (bs.map .str)) = _
    rw [ih]
    by_cases c : a = b
    · subst c
      simp
    · have e : (a == b) = false := by rw [beq_eq_false_iff_ne]; exact c
      rw [e, Bool.false_and, decide_eq_false]
      intro q
      cases q
      exact c rfl
theorem DTs.strs_inv {K : PySem.W.Frag} {H : Hp} {vs : List V} {ws : List Str} (h : DTs K H vs (ws.map Dt.str)) : vs = ws.map V.str := by
  induction ws generalizing vs with
  | nil => cases h; rfl
  | cons w ws ih =>
    cases h with
    | cons h1 h2 => cases h1; rw [ih h2]; rfl
/-- rows of a rank hold no list -/
theorem DpAll.rows {K : PySem.W.Frag} {H H' : Hp} (k : ∀ a xs, SqT K H a xs → SqT K H' a xs) : ∀ (ks : List Str) (vs : List V), DpAll K H vs (ks.map dK) → DpAll K H' vs (ks.map dK)
  | [], vs, h => by cases h; exact .nil
  | a :: ks, vs, h => by
    cases h with
    | cons h1 h2 =>
      refine .cons ?_ (DpAll.rows k ks _ h2)
      cases h1 with
      | tup q1 q2 =>
        refine .tup (k _ _ q1) ?_
        cases q2 with
        | cons r1 r2 =>
          cases r1
          cases r2 with
          | cons r3 r4 =>
            cases r3
            cases r4
            exact .cons (.int _) (.cons (.str _) .nil)
end My

namespace My
open PySem L2
theorem kx_dict {X : Cx} {K : PySem.W.Frag} {w : World} (h : X.K = K) (hw : X.w = w) : IxR X (rIxD K w) := by
  subst h
  subst hw
  exact ix_kdict
/-! ### contents -/
inductive Sc where
  | null | fals | tru | num (n : Int) | text (s : Str) | recd
def scD : Sc → List Dt
  | .null => [.str (Str.ofString "null")]
  | .fals => [.str (Str.ofString "false")]
  | .tru => [.str (Str.ofString "true")]
  | .num n => [.str (Str.ofString "number"), .int n]
  | .text s => [.str (Str.ofString "text"), .str s]
  | .recd => [.str (Str.ofString "record")]
/-- what orders contents -/
def scR : Sc → List Dt
  | .null => [.int 0]
  | .fals => [.int 1]
  | .tru => [.int 2]
  | .num n => [.int 3, .int (if n < 0 then -n else n), .int (if n < 0 then 1 else 0)]
  | .text s => [.int 4, .tup (rkT s)]
  | .recd => [.int 5]
/-- within the bounds -/
def scOk : Sc → Prop
  | .num n => -1000000000 ≤ n ∧ n ≤ 1000000000
  | .text s => s.length ≤ 60 ∧ SgT s
  | _ => True
/-- the law's own worth: a number, a number, a text -/
def wA : Sc → Int
  | .null => 0 | .fals => 1 | .tru => 2 | .num _ => 3 | .text _ => 4 | .recd => 5
def wB : Sc → Int
  | .num n => 2 * (if n < 0 then -n else n) - (if n > 0 then 1 else 0)
  | .text s => s.length
  | _ => 0
def wC : Sc → Str
  | .text s => s
  | _ => Str.ofString ""
def wP (c : Sc) : PyData := .tuple [.int (wA c), .int (wB c), .str (wC c)]
def ltS (a b : Sc) : Bool := decide (wA a < wA b) || (decide (wA a = wA b) && (decide (wB a < wB b) || (decide (wB a = wB b) && decide ((wC a).cps.toList < (wC b).cps.toList))))
theorem eqv_int (a b : Int) : PyData.eqv (.int a) (.int b) = decide (a = b) := by
  show (a == b) = _
  rw [Bool.beq_eq_decide_eq]
theorem eqv_str (a b : Str) : PyData.eqv (.str a) (.str b) = decide (a = b) := by
  show (a == b) = _
  rw [Bool.beq_eq_decide_eq]
theorem dataLt_wP (a b : Sc) : PySem.W.dataLt (wP a) (wP b) = ltS a b := by
  unfold wP ltS
  rw [PySem.W.dataLt_tuple, PySem.W.dataLt_cons rfl, PySem.W.dataLt_cons rfl, PySem.W.dataLt_cons rfl, eqv_int, eqv_int, eqv_str, PySem.W.dataLt_int, PySem.W.dataLt_int, PySem.W.dataLt_str]
  by_cases h1 : wA a = wA b
  · rw [decide_eq_true h1, if_pos rfl, decide_eq_false (p := wA a < wA b) (by omega)]
    by_cases h2 : wB a = wB b
    · rw [decide_eq_true h2, if_pos rfl, decide_eq_false (p := wB a < wB b) (by omega)]
      by_cases h3 : wC a = wC b
      · rw [decide_eq_true h3, if_pos rfl, h3, decide_eq_false (List.lt_irrefl _)]
        rfl
      · rw [decide_eq_false h3, if_neg Bool.false_ne_true]
        simp
    · rw [decide_eq_false h2, if_neg Bool.false_ne_true]
      simp
  · rw [decide_eq_false h1, if_neg Bool.false_ne_true]
    simp
theorem alike_wP (a b : Sc) : PySem.W.alike (wP a) (wP b) = true := rfl
/-- the ranks are equal for the same content alone -/
theorem eqbs_scR (a b : Sc) : Dt.eqbs (scR a) (scR b) = true ↔ (wA a = wA b ∧ wB a = wB b ∧ wC a = wC b) := by
  cases a <;> cases b <;> simp [scR, Dt.eqbs, Dt.eqb, wA, wB, wC]
  · rename_i x y
    by_cases h1 : x < 0 <;> by_cases h2 : y < 0 <;> by_cases h3 : 0 < x <;> by_cases h4 : 0 < y <;> simp [h1, h2, h3, h4] <;> omega
  · rename_i x y
    have e := eqbs_rkT x y
    unfold rkT at e ⊢
    rw [e, decide_eq_true_iff]
    exact ⟨fun q => by rw [str_ext q]; exact ⟨rfl, rfl⟩, fun q => by rw [q.2]⟩
theorem lts_scR (a b : Sc) : Dt.lts? (scR a) (scR b) = some (ltS a b) := by
  cases a <;> cases b <;> simp [scR, Dt.lts?, Dt.lt?, Dt.eqbs, Dt.eqb, ltS, wA, wB, wC]
  · rename_i x y
    by_cases h1 : x < 0 <;> by_cases h2 : y < 0 <;> by_cases h3 : 0 < x <;> by_cases h4 : 0 < y <;> simp [h1, h2, h3, h4] <;> (try split) <;> (try simp) <;> (try omega)
    all_goals
      rw [Bool.eq_iff_iff]
      simp
      omega
  · rename_i x y
    have la := len_codes x
    have lb := len_codes y
    rw [eqbs_rkT]
    by_cases c : x.cps.toList = y.cps.toList
    · have e := str_ext c
      subst e
      rw [decide_eq_true rfl, if_pos rfl, decide_eq_false (Nat.lt_irrefl _), decide_eq_false (Array.lt_irrefl _)]
      simp
    · rw [decide_eq_false c, if_neg Bool.false_ne_true, lts_rkT x y c]
      congr 1
      rw [Bool.eq_iff_iff]
      simp only [decide_eq_true_eq, Bool.or_eq_true, Bool.and_eq_true]
      unfold ltC
      rw [la, lb]
      constructor
      · rintro (h | h)
        · exact .inl h
        · exact .inr ⟨decide_eq_true (congrArg Int.ofNat h.1), h.2⟩
      · rintro (h | h)
        · exact .inl h
        · exact .inr ⟨Int.ofNat.inj (of_decide_eq_true h.1), h.2⟩
/-! ### the order of contents -/
theorem ltS_irrefl (a b : Sc) (h : wA a = wA b ∧ wB a = wB b ∧ wC a = wC b) : ltS a b = false := by
  unfold ltS
  rw [h.1, h.2.1, h.2.2]
  simp
theorem ltS_asymm {a b : Sc} (h : ltS a b = true) : ltS b a = false := by
  unfold ltS at h ⊢
  simp only [Bool.or_eq_true, Bool.and_eq_true, decide_eq_true_eq] at h
  rw [Bool.eq_false_iff]
  intro k
  simp only [Bool.or_eq_true, Bool.and_eq_true, decide_eq_true_eq] at k
  rcases h with h | ⟨h, h | ⟨h', h''⟩⟩ <;> rcases k with k | ⟨k, k | ⟨k', k''⟩⟩ <;> first | omega | exact List.lt_asymm h'' k''
theorem ltS_iff (a b : Sc) : ltS a b = true ↔ (wA a < wA b ∨ (wA a = wA b ∧ (wB a < wB b ∨ (wB a = wB b ∧ (wC a).cps.toList < (wC b).cps.toList)))) := by
  unfold ltS
  rw [Bool.or_eq_true, Bool.and_eq_true, Bool.or_eq_true, Bool.and_eq_true, decide_eq_true_iff, decide_eq_true_iff, decide_eq_true_iff, decide_eq_true_iff, decide_eq_true_iff]
theorem ltS_total {a b : Sc} (h : ¬ (wA a = wA b ∧ wB a = wB b ∧ wC a = wC b)) (k : ltS a b = false) : ltS b a = true := by
  have k2 : ¬ (wA a < wA b ∨ (wA a = wA b ∧ (wB a < wB b ∨ (wB a = wB b ∧ (wC a).cps.toList < (wC b).cps.toList)))) := fun q => by
    rw [(ltS_iff a b).mpr q] at k
    cases k
  refine (ltS_iff b a).mpr ?_
  by_cases h1 : wA a = wA b
  · by_cases h2 : wB a = wB b
    · have h3 : wC a ≠ wC b := fun q => h ⟨h1, h2, q⟩
      refine .inr ⟨h1.symm, .inr ⟨h2.symm, ?_⟩⟩
      have n : ¬ (wC a).cps.toList < (wC b).cps.toList := fun q => k2 (.inr ⟨h1, .inr ⟨h2, q⟩⟩)
      rcases List.le_iff_lt_or_eq.mp (List.not_lt.mp n) with d | d
      · exact d
      · exact absurd (str_ext d).symm h3
    · refine .inr ⟨h1.symm, .inl ?_⟩
      have : ¬ wB a < wB b := fun q => k2 (.inr ⟨h1, .inl q⟩)
      omega
  · refine .inl ?_
    have : ¬ wA a < wA b := fun q => k2 (.inl q)
    omega
def cmpSc (a b : Sc) : Int := (if ltS b a = true then (1 : Int) else 0) - (if ltS a b = true then 1 else 0)
theorem cmpD_scR (a b : Sc) : cmpD (scR a) (scR b) = cmpSc a b := by
  unfold cmpD cmpSc
  rw [lts_scR]
  by_cases c : Dt.eqbs (scR a) (scR b) = true
  · have h := (eqbs_scR a b).mp c
    rw [if_pos c, ltS_irrefl a b h, ltS_irrefl b a ⟨h.1.symm, h.2.1.symm, h.2.2.symm⟩]
    rfl
  · have h : ¬ (wA a = wA b ∧ wB a = wB b ∧ wC a = wC b) := fun q => c ((eqbs_scR a b).mpr q)
    rw [if_neg c]
    cases d : ltS a b with
    | true =>
      rw [if_pos rfl, ltS_asymm d]
      rfl
    | false =>
      rw [if_neg (by intro z; cases z), ltS_total h d]
      rfl
theorem deeps_scR (a : Sc) : Dt.deeps (scR a) ≤ 2 := by
  cases a with
  | num n => show 1 ≤ 2; decide
  | text s => show 2 ≤ 2; decide
  | _ => decide
theorem scD_same (a : Sc) : (Dt.tup (scD a)).deep ≤ 40 ∧ (Dt.tup (scD a)).fits = true := by
  cases a with
  | num n => exact ⟨by show 2 ≤ 40; decide, rfl⟩
  | text s => exact ⟨by show 2 ≤ 40; decide, rfl⟩
  | _ => exact ⟨by decide, by decide⟩
/-- the word of a content -/
def scW : Sc → Str
  | .null => Str.ofString "null"
  | .fals => Str.ofString "false"
  | .tru => Str.ofString "true"
  | .num _ => Str.ofString "number"
  | .text _ => Str.ofString "text"
  | .recd => Str.ofString "record"
/-- a content stands as a tuple whose first item is its word -/
theorem sc_tup {K : PySem.W.Frag} {H : Hp} {v : V} {c : Sc} (h : DT K H v (.tup (scD c))) : ∃ a xs, v = .ref a ∧ SqT K H a xs ∧ xs[0]? = some (.str (scW c)) ∧ (∀ n, c = .num n → xs[1]? = some (.int n)) ∧ (∀ s, c = .text s → xs[1]? = some (.str s)) := by
  cases h with
  | @tup a xs _ h1 h2 =>
  refine ⟨a, xs, rfl, h1, ?_⟩
  cases c with
  | null => cases h2 with | cons q r => cases q; exact ⟨rfl, (fun n e => by cases e), (fun n e => by cases e)⟩
  | fals => cases h2 with | cons q r => cases q; exact ⟨rfl, (fun n e => by cases e), (fun n e => by cases e)⟩
  | tru => cases h2 with | cons q r => cases q; exact ⟨rfl, (fun n e => by cases e), (fun n e => by cases e)⟩
  | num m => cases h2 with | cons q r => cases q; cases r with | cons q2 r2 => cases q2; exact ⟨rfl, (fun n e => by cases e; rfl), (fun n e => by cases e)⟩
  | text s => cases h2 with | cons q r => cases q; cases r with | cons q2 r2 => cases q2; exact ⟨rfl, (fun n e => by cases e), (fun n e => by cases e; rfl)⟩
  | recd => cases h2 with | cons q r => cases q; exact ⟨rfl, (fun n e => by cases e), (fun n e => by cases e)⟩
end My

namespace My
open PySem L2
/-! ### numbers as texts -/
theorem ofString_app (a b : String) : Str.ofString (a ++ b) = Str.ofString a ++ Str.ofString b := by
  apply str_ext
  rw [app_codes, Str.ofString_eq_toList, Str.ofString_eq_toList, Str.ofString_eq_toList]
  simp
theorem num_nat_len : ∀ (k n : Nat), n < 10 ^ (k + 1) → (Str.ofString (toString (n : Int))).length ≤ k + 1
  | 0, n, h => by
    have e : (Str.ofString (toString (n : Int))).cps.toList = [48 + n] := by
      have z : TL.tl (Str.ofString (toString (n : Int))) = [48 + n] := by rw [TL.tl_num, TL.numL_lt (by omega)]
      exact z
    rw [← len_codes, e]
    exact Nat.le_refl _
  | k + 1, n, h => by
    by_cases c : n < 10
    · have e : (Str.ofString (toString (n : Int))).cps.toList = [48 + n] := by
        have z : TL.tl (Str.ofString (toString (n : Int))) = [48 + n] := by rw [TL.tl_num, TL.numL_lt c]
        exact z
      rw [← len_codes, e]
      exact Nat.succ_le_succ (Nat.zero_le _)
    · have ih := num_nat_len k (n / 10) (by rw [Nat.div_lt_iff_lt_mul (by decide)]; rw [Nat.pow_succ] at h; exact h)
      have e1 : (Str.ofString (toString (n : Int))).cps.toList = TL.numL n := TL.tl_num n
      have e2 : (Str.ofString (toString ((n / 10 : Nat) : Int))).cps.toList = TL.numL (n / 10) := TL.tl_num (n / 10)
      rw [← len_codes, e2] at ih
      rw [← len_codes, e1, TL.numL_step (by omega), List.length_append, List.length_singleton]
      omega
theorem num_len {n : Int} (h : n.natAbs ≤ 9999999999) : (Str.ofString (toString n)).length ≤ 11 := by
  rcases n with m | m
  · have := num_nat_len 9 m (by show m < 10 ^ 10; have : (Int.ofNat m).natAbs = m := rfl; omega)
    exact Nat.le_trans this (by decide)
  · have e : toString (Int.negSucc m) = "-" ++ toString (m + 1) := rfl
    have k := num_nat_len 9 (m + 1) (by show m + 1 < 10 ^ 10; have : (Int.negSucc m).natAbs = m + 1 := rfl; omega)
    have e3 : toString ((m + 1 : Nat) : Int) = toString (m + 1) := rfl
    rw [e3] at k
    rw [e, ofString_app, app_len]
    have : (Str.ofString "-").length = 1 := by decide +kernel
    omega
end My

namespace My
open PySem L2
def topS (i : Nat) : Stmt := PySem.Challenge.pw_hookcheck_k08_order_of_scalars.main.body.getD i (.Pass ⟨0, 0, 0, 0⟩)
abbrev s_text_rank : Stmt := topS 1
abbrev s_compare_ranks : Stmt := topS 2
abbrev s_content_rank : Stmt := topS 5
abbrev s_compare_scalars : Stmt := topS 6
abbrev s_law_tape : Stmt := topS 8
abbrev s_law_draw : Stmt := topS 9
abbrev s_law_pick : Stmt := topS 10
abbrev s_law_same : Stmt := topS 11
abbrev s_law_any_sign : Stmt := topS 12
abbrev s_law_tight_text : Stmt := topS 13
abbrev s_law_scalar : Stmt := topS 14
abbrev s_law_worth : Stmt := topS 15
abbrev s_law_sign : Stmt := topS 16
abbrev s_law_scalar_near : Stmt := topS 17
abbrev s_law : Stmt := topS 18
structure Top (K : PySem.W.Frag) (w : World) (mg : Str → Option Value) : Prop where
  z_abs : mg "abs" = none
  z_bool : mg "bool" = none
  z_int : mg "int" = none
  z_isinstance : mg "isinstance" = none
  z_len : mg "len" = none
  z_list : mg "list" = none
  z_max : mg "max" = none
  z_min : mg "min" = none
  z_range : mg "range" = none
  z_str : mg "str" = none
  z_tuple : mg "tuple" = none
  c_KIND_RANKS : ∃ a, mg "KIND_RANKS" = some (.ref a) ∧ KDct K w a (Str.ofString "null") (.int 0) ∧ KDct K w a (Str.ofString "false") (.int 1) ∧ KDct K w a (Str.ofString "true") (.int 2) ∧ KDct K w a (Str.ofString "number") (.int 3) ∧ KDct K w a (Str.ofString "text") (.int 4) ∧ KDct K w a (Str.ofString "record") (.int 5)
section
variable {P : Program} {w : World} {K : PySem.W.Frag} {mg : Str → Option Value} {base : Heap}
/-! ### text_rank -/
theorem sc_text_rank : FnScope ["text"] ["text"] (defScope s_text_rank) := ⟨rfl, rfl, rfl, by decide +kernel, rfl, by decide +kernel, by decide +kernel⟩

def sp_text_rank (K : PySem.W.Frag) : Sp := fun vs H Q _ => ∃ (z : Str), vs = [.str z] ∧ z.length ≤ 100000 ∧ ∀ v H', Same H H' → DT K H' v (.tup (rkT z)) → Q v H'

theorem ok_text_rank {f : Addr} {fd : FuncData} (F : Fun K "text_rank" "text_rank" s_text_rank f fd) (T : Top K w mg) : FnOk P w K mg base CX0 1 f fd ["text"] (sp_text_rank K) := by
  have sc := sc_text_rank
  refine F.ok sc (fun vs H Q E h => ?_) (fun cdv A outer s H vs Q E hr h => ?_)
  · obtain ⟨z, rfl, _⟩ := h
    rfl
  obtain ⟨z, rfl, hz, q⟩ := h
  refine ⟨_, (pss_one (ps_ret (pe_tup (pa_cons (pe_callB call_len_str (by rfl) T.z_len (by decide +kernel) (pa_cons (pv 0) pa_nil)) (pa_cons (pv 0) pa_nil))))), ?_⟩

  refine ⟨_, rfl, z, rfl, Nat.le_trans hz (by decide), _, rfl, (by show 2 ≤ sizeLine; decide), fun p hp => ?_⟩
  exact q _ _ (same_new hp _) (.tup (SqT.of upd_same) (.cons (.int _) (.cons (.str _) .nil)))
/-! ### compare_ranks -/
theorem sc_compare_ranks : FnScope ["first", "second"] ["first", "second"] (defScope s_compare_ranks) := ⟨rfl, rfl, rfl, by decide +kernel, rfl, by decide +kernel, by decide +kernel⟩

def sp_compare_ranks (K : PySem.W.Frag) : Sp := fun vs H Q _ => ∃ (x y : V) (ds es : List Dt) (k : Bool), vs = [x, y] ∧ DT K H x (.tup ds) ∧ DT K H y (.tup es) ∧ Dt.deeps ds ≤ 60 ∧ Dt.lts? ds es = some k ∧ Q (.int (cmpD ds es)) H

theorem ok_compare_ranks {f : Addr} {fd : FuncData} (F : Fun K "compare_ranks" "compare_ranks" s_compare_ranks f fd) (T : Top K w mg) : FnOk P w K mg base CX0 1 f fd ["first", "second"] (sp_compare_ranks K) := by
  have sc := sc_compare_ranks
  refine F.ok sc (fun vs H Q E h => ?_) (fun cdv A outer s H vs Q E hr h => ?_)
  · obtain ⟨x, y, ds, es, k, rfl, _⟩ := h
    rfl
  obtain ⟨x, y, ds, es, k, rfl, hx, hy, hd, hk, q⟩ := h
  refine ⟨_, (pss_cons (ps_if (pt_cmpR (op_eqT (K := K) rfl hr.units) (pv 0) (pv 1) (nomark _))
      (pss_one (ps_ret pe_int))
      pss_nil)
    (pss_one (ps_ret (pe_ifExp (pt_cmpR (op_ltTD (K := K) rfl hr.units) (pv 0) (pv 1) (nomark _)) (pe_un un_neg pe_int) pe_int)))), ?_⟩

  refine ⟨_, rfl, _, rfl, ds, es, hx, hy, hd, _, rfl, ite2 (fun c => ?_) (fun c => ?_)⟩
  · have e : cmpD ds es = 0 := by unfold cmpD; rw [if_pos c]
    rw [e] at q
    exact q
  · refine ⟨_, rfl, _, rfl, ds, es, k, hx, hy, hd, hk, _, rfl, ite2 (fun c2 => ?_) (fun c2 => ?_)⟩
    · have e : cmpD ds es = -1 := by unfold cmpD; rw [if_neg c, hk, c2, if_pos rfl]
      rw [e] at q
      exact ⟨_, rfl, q⟩
    · have e : cmpD ds es = 1 := by
        unfold cmpD
        rw [if_neg c, hk, if_neg]
        intro z
        cases z
        exact c2 rfl
      rw [e] at q
      exact q
/-! ### content_rank -/
theorem sc_content_rank : FnScope ["content", "place"] ["content"] (defScope s_content_rank) := ⟨rfl, rfl, rfl, by decide +kernel, rfl, by decide +kernel, by decide +kernel⟩

def sp_content_rank (K : PySem.W.Frag) : Sp := fun vs H Q _ => ∃ (v : V) (c : Sc), vs = [v] ∧ DT K H v (.tup (scD c)) ∧ (∀ s, c = .text s → s.length ≤ 100000) ∧ ∀ u H', Same H H' → DT K H' u (.tup (scR c)) → Q u H'

theorem ok_content_rank {f : Addr} {fd : FuncData} (F : Fun K "content_rank" "content_rank" s_content_rank f fd) (T : Top K w mg) {a_text_rank : Addr} {d_text_rank : FuncData} (C_text_rank : Cal P w K mg base "text_rank" 1 ["text"] sp_text_rank a_text_rank d_text_rank) : FnOk P w K mg base CX0 2 f fd ["content"] (sp_content_rank K) := by
  have sc := sc_content_rank
  obtain ⟨ad_KIND_RANKS, c_KIND_RANKS, k_KIND_RANKS⟩ := T.c_KIND_RANKS
  refine F.ok sc (fun vs H Q E h => ?_) (fun cdv A outer s H vs Q E hr h => ?_)
  · obtain ⟨v, c, rfl, _⟩ := h
    rfl
  obtain ⟨v, c, rfl, hv, hl, q⟩ := h
  refine ⟨_, (pss_cons (ps_set (i := 1) sc.nd rfl (Or.inl rfl) (pe_ix (kx_dict (K := K) (w := w) rfl rfl) (pe_glob (v := .ref ad_KIND_RANKS) (by rfl) c_KIND_RANKS rfl) (pe_ix (kx_tup (K := K) rfl) (pv 0) pe_int (fun _ _ => rfl)) (fun _ _ => rfl)))
    (pss_cons (ps_if (pt_cmpR op_eq (pe_ix (kx_tup (K := K) rfl) (pv 0) pe_int (fun _ _ => rfl)) pe_str (nomark _))
      (pss_one (ps_ret (pe_tup (pa_cons (pv 1) (pa_cons (pe_callB call_abs (by rfl) T.z_abs (by decide +kernel) (pa_cons (pe_ix (kx_tup (K := K) rfl) (pv 0) pe_int (fun _ _ => rfl)) pa_nil)) (pa_cons (pe_ifExp (pt_cmpR op_lt (pe_ix (kx_tup (K := K) rfl) (pv 0) pe_int (fun _ _ => rfl)) pe_int (nomark _)) pe_int pe_int) pa_nil))))))
      pss_nil)
    (pss_cons (ps_if (pt_cmpR op_eq (pe_ix (kx_tup (K := K) rfl) (pv 0) pe_int (fun _ _ => rfl)) pe_str (nomark _))
      (pss_one (ps_ret (pe_tup (pa_cons (pv 1) (pa_cons (pe_call C_text_rank.ok (hr.mono (by omega)) (by rfl) C_text_rank.m C_text_rank.kp C_text_rank.b .nil pass0 (pa_cons (pe_ix (kx_tup (K := K) rfl) (pv 0) pe_int (fun _ _ => rfl)) pa_nil)) pa_nil)))))
      pss_nil)
    (pss_one (ps_ret (pe_tup (pa_cons (pv 1) pa_nil))))))), ?_⟩

  obtain ⟨a, xs, rfl, hS, h0, hn, ht⟩ := sc_tup hv
  obtain ⟨k0, k1, k2, k3, k4, k5⟩ := k_KIND_RANKS
  have one : ∀ (i : Int), scR c = [.int i] → ∀ p, H p = none → Q (.ref p) (upd H p (.tup [.int i])) := fun i e p hp => by
    refine q _ _ (same_new hp _) ?_
    rw [e]
    exact .tup (SqT.of upd_same) (.cons (.int _) .nil)
  cases c with
  | null =>
    refine ⟨_, rfl, a, _, 0, _, rfl, rfl, hS, atI_nat h0, ad_KIND_RANKS, _, _, rfl, rfl, k0, ?_⟩
    refine ⟨_, rfl, a, _, 0, _, rfl, rfl, hS, atI_nat h0, rfl, _, rfl, iteF ?_⟩
    refine ⟨_, rfl, a, _, 0, _, rfl, rfl, hS, atI_nat h0, rfl, _, rfl, iteF ?_⟩
    exact ⟨_, rfl, (by show 1 ≤ sizeLine; decide), fun p hp => one 0 rfl p hp⟩
  | fals =>
    refine ⟨_, rfl, a, _, 0, _, rfl, rfl, hS, atI_nat h0, ad_KIND_RANKS, _, _, rfl, rfl, k1, ?_⟩
    refine ⟨_, rfl, a, _, 0, _, rfl, rfl, hS, atI_nat h0, rfl, _, rfl, iteF ?_⟩
    refine ⟨_, rfl, a, _, 0, _, rfl, rfl, hS, atI_nat h0, rfl, _, rfl, iteF ?_⟩
    exact ⟨_, rfl, (by show 1 ≤ sizeLine; decide), fun p hp => one 1 rfl p hp⟩
  | tru =>
    refine ⟨_, rfl, a, _, 0, _, rfl, rfl, hS, atI_nat h0, ad_KIND_RANKS, _, _, rfl, rfl, k2, ?_⟩
    refine ⟨_, rfl, a, _, 0, _, rfl, rfl, hS, atI_nat h0, rfl, _, rfl, iteF ?_⟩
    refine ⟨_, rfl, a, _, 0, _, rfl, rfl, hS, atI_nat h0, rfl, _, rfl, iteF ?_⟩
    exact ⟨_, rfl, (by show 1 ≤ sizeLine; decide), fun p hp => one 2 rfl p hp⟩
  | recd =>
    refine ⟨_, rfl, a, _, 0, _, rfl, rfl, hS, atI_nat h0, ad_KIND_RANKS, _, _, rfl, rfl, k5, ?_⟩
    refine ⟨_, rfl, a, _, 0, _, rfl, rfl, hS, atI_nat h0, rfl, _, rfl, iteF ?_⟩
    refine ⟨_, rfl, a, _, 0, _, rfl, rfl, hS, atI_nat h0, rfl, _, rfl, iteF ?_⟩
    exact ⟨_, rfl, (by show 1 ≤ sizeLine; decide), fun p hp => one 5 rfl p hp⟩
  | num n =>
    have h1 := hn n rfl
    refine ⟨_, rfl, a, _, 0, _, rfl, rfl, hS, atI_nat h0, ad_KIND_RANKS, _, _, rfl, rfl, k3, ?_⟩
    refine ⟨_, rfl, a, _, 0, _, rfl, rfl, hS, atI_nat h0, rfl, _, rfl, iteT ?_⟩
    refine ⟨_, rfl, _, rfl, a, _, 1, _, rfl, rfl, hS, atI_nat h1, _, rfl, _, rfl, a, _, 1, _, rfl, rfl, hS, atI_nat h1, _, _, rfl, rfl, _, rfl, ite2 (fun c => ?_) (fun c => ?_)⟩
    · have c' : n < 0 := of_decide_eq_true c
      refine ⟨(by show 3 ≤ sizeLine; decide), fun p hp => q _ _ (same_new hp _) (.tup (SqT.of upd_same) ?_)⟩
      show DTs K _ _ [.int 3, .int (if n < 0 then -n else n), .int (if n < 0 then 1 else 0)]
      rw [if_pos c', if_pos c']
      exact .cons (.int _) (.cons (.int _) (.cons (.int _) .nil))
    · have c' : ¬ n < 0 := fun h => c (decide_eq_true h)
      refine ⟨(by show 3 ≤ sizeLine; decide), fun p hp => q _ _ (same_new hp _) (.tup (SqT.of upd_same) ?_)⟩
      show DTs K _ _ [.int 3, .int (if n < 0 then -n else n), .int (if n < 0 then 1 else 0)]
      rw [if_neg c', if_neg c']
      exact .cons (.int _) (.cons (.int _) (.cons (.int _) .nil))
  | text s =>
    have h1 := ht s rfl
    refine ⟨_, rfl, a, _, 0, _, rfl, rfl, hS, atI_nat h0, ad_KIND_RANKS, _, _, rfl, rfl, k4, ?_⟩
    refine ⟨_, rfl, a, _, 0, _, rfl, rfl, hS, atI_nat h0, rfl, _, rfl, iteF ?_⟩
    refine ⟨_, rfl, a, _, 0, _, rfl, rfl, hS, atI_nat h0, rfl, _, rfl, iteT ?_⟩
    refine ⟨_, rfl, _, rfl, a, _, 1, _, rfl, rfl, hS, atI_nat h1, s, rfl, hl s rfl, fun v H1 s1 d1 => ?_⟩
    refine ⟨(by show 2 ≤ sizeLine; decide), fun p hp => q _ _ (s1.trans (same_new hp _)) (.tup (SqT.of upd_same) ?_)⟩
    exact .cons (.int _) (.cons (d1.same (same_new hp _)) .nil)
/-! ### compare_scalars -/
theorem sc_compare_scalars : FnScope ["first", "second"] ["first", "second"] (defScope s_compare_scalars) := ⟨rfl, rfl, rfl, by decide +kernel, rfl, by decide +kernel, by decide +kernel⟩

def sp_compare_scalars (K : PySem.W.Frag) : Sp := fun vs H Q _ => ∃ (x y : V) (a b : Sc), vs = [x, y] ∧ DT K H x (.tup (scD a)) ∧ DT K H y (.tup (scD b)) ∧ (∀ s, a = .text s → s.length ≤ 100000) ∧ (∀ s, b = .text s → s.length ≤ 100000) ∧ ∀ H', Same H H' → Q (.int (cmpSc a b)) H'

theorem ok_compare_scalars {f : Addr} {fd : FuncData} (F : Fun K "compare_scalars" "compare_scalars" s_compare_scalars f fd) (T : Top K w mg) {a_compare_ranks : Addr} {d_compare_ranks : FuncData} (C_compare_ranks : Cal P w K mg base "compare_ranks" 1 ["first", "second"] sp_compare_ranks a_compare_ranks d_compare_ranks) {a_content_rank : Addr} {d_content_rank : FuncData} (C_content_rank : Cal P w K mg base "content_rank" 2 ["content"] sp_content_rank a_content_rank d_content_rank) : FnOk P w K mg base CX0 3 f fd ["first", "second"] (sp_compare_scalars K) := by
  have sc := sc_compare_scalars
  refine F.ok sc (fun vs H Q E h => ?_) (fun cdv A outer s H vs Q E hr h => ?_)
  · obtain ⟨x, y, a, b, rfl, _⟩ := h
    rfl
  obtain ⟨x, y, a, b, rfl, hx, hy, l1, l2, q⟩ := h
  refine ⟨_, (pss_one (ps_ret (pe_call C_compare_ranks.ok (hr.mono (by omega)) (by rfl) C_compare_ranks.m C_compare_ranks.kp C_compare_ranks.b .nil pass0 (pa_cons (pe_call C_content_rank.ok (hr.mono (by omega)) (by rfl) C_content_rank.m C_content_rank.kp C_content_rank.b .nil pass0 (pa_cons (pv 0) pa_nil)) (pa_cons (pe_call C_content_rank.ok (hr.mono (by omega)) (by rfl) C_content_rank.m C_content_rank.kp C_content_rank.b .nil pass0 (pa_cons (pv 1) pa_nil)) pa_nil))))), ?_⟩

  refine ⟨_, rfl, x, a, rfl, hx, l1, fun v H1 s1 d1 => ⟨_, rfl, y, b, rfl, hy.same s1, l2, fun u H2 s2 d2 => ?_⟩⟩
  have hd := deeps_scR a
  refine ⟨v, u, scR a, scR b, _, rfl, d1.same s2, d2, by omega, lts_scR a b, ?_⟩
  rw [cmpD_scR]
  exact q _ (s1.trans s2)
/-! ### _law_tape -/
theorem sc_law_tape : FnScope ["script", "total", "cell"] ["script"] (defScope s_law_tape) := ⟨rfl, rfl, rfl, by decide +kernel, rfl, by decide +kernel, by decide +kernel⟩



def sp_law_tape (K : PySem.W.Frag) : Sp := fun vs H Q _ => ∃ (a : Addr) (ns : List Int), vs = [.ref a] ∧ SqL K H a (ns.map V.int) ∧ ns.length ≤ 63 ∧ ∀ t H', Tape H' t → H t = none → Same H H' → Q (.ref t) H'

theorem ok_law_tape {f : Addr} {fd : FuncData} (F : Fun K "_law_tape" "_law_tape" s_law_tape f fd) (T : Top K w mg) : FnOk P w K mg base CX0 1 f fd ["script"] (sp_law_tape K) := by
  have sc := sc_law_tape
  refine F.ok sc (fun vs H Q E h => ?_) (fun cdv A outer s H vs Q E hr h => ?_)
  · obtain ⟨a, ns, rfl, _⟩ := h
    rfl
  obtain ⟨a, ns, rfl, hS, hn, q⟩ := h
  refine ⟨_, (pss_cons (ps_set (i := 1) sc.nd rfl (Or.inl rfl) pe_int)
    (pss_cons (ps_for PassesOwn.never rfl (kpi_list (K := K) rfl (pv 0)) (pg_name (i := 2) sc.nd rfl (Or.inl rfl))
      (pss_one (ps_set (i := 1) sc.nd rfl (Or.inl rfl) (pe_op op_modN (pe_callTy call_int1 (by rfl) T.z_int (by decide +kernel) (pa_cons (pe_op op_add (pe_op op_mul (pv 1) pe_int) (pe_callB call_abs (by rfl) T.z_abs (by decide +kernel) (pa_cons (pe_callTy call_int1 (by rfl) T.z_int (by decide +kernel) (pa_cons (pv 2) pa_nil)) pa_nil))) pa_nil)) pe_int))))
    (pss_one (ps_ret (pe_lst (pa_cons (pe_callTy (kc_list (K := K) rfl) (by rfl) T.z_list (by decide +kernel) (pa_cons (pv 0) pa_nil)) (pa_cons pe_int (pa_cons pe_int (pa_cons (pv 1) pa_nil))))))))), ?_⟩

  have hlen : (ns.map V.int).length = ns.length := List.length_map _
  refine ⟨_, rfl, a, rfl, ⟨_, hS⟩, for_list (K := K) (a := a) (xs := ns.map V.int) (fun i σ H' => H' = H ∧ ∃ (z : Int) (v : Option V), σ = [some (.ref a), some (.int z), v]) ⟨rfl, 7, none, rfl⟩ (fun i σ H' _ ⟨e, _⟩ => e ▸ hS) ?_ ?_⟩
  · rintro i y σ H' hi ⟨rfl, z, v, rfl⟩
    obtain ⟨u, rfl, _⟩ := int_get hi
    refine ⟨_, rfl, _, _, rfl, rfl, .inr ⟨by decide, by decide⟩, ?_⟩
    refine ⟨_, rfl, .inl ⟨_, rfl, _, rfl, ?_⟩⟩
    refine ⟨_, _, rfl, rfl, .inl ⟨_, rfl, _, _, rfl, rfl, (by show (2147483647 : Int) ≠ 0; decide), rfl, _, _, rfl⟩⟩
  · rintro σ H' ⟨rfl, z, v, rfl⟩
    refine ⟨_, rfl, a, _, rfl, .inl hS, fun l hl => ⟨_, rfl, ?_⟩⟩
    refine ⟨(by show 4 ≤ sizeLine; decide), fun t ht => ?_⟩
    have e1 : l ≠ t := ne_of_none upd_same ht
    refine q t _ ⟨l, ns, 0, 0, z, upd_same, by rw [upd_ne e1]; exact upd_same, e1, by omega, hn⟩ ?_ (Same.late (same_new hl _) (by rw [upd_ne e1.symm] at ht; exact ht))
    rw [upd_ne e1.symm] at ht
    exact ht
/-! ### _law_draw -/
theorem sc_law_draw : FnScope ["tape", "many", "number", "place"] ["tape", "many"] (defScope s_law_draw) := ⟨rfl, rfl, rfl, by decide +kernel, rfl, by decide +kernel, by decide +kernel⟩

def sp_law_draw (K : PySem.W.Frag) : Sp := fun vs H Q _ => ∃ (t : Addr) (m : Int), vs = [.ref t, .int m] ∧ Tape H t ∧ -(2 ^ 62) < m ∧ m < 2 ^ 62 ∧ ∀ r H', 0 ≤ r → (r < m ∨ r = 0) → Go t H H' → Q (.int r) H'

theorem ok_law_draw {f : Addr} {fd : FuncData} (F : Fun K "_law_draw" "_law_draw" s_law_draw f fd) (T : Top K w mg) : FnOk P w K mg base CX0 1 f fd ["tape", "many"] (sp_law_draw K) := by
  have sc := sc_law_draw
  refine F.ok sc (fun vs H Q E h => ?_) (fun cdv A outer s H vs Q E hr h => ?_)
  · obtain ⟨t, m, rfl, _⟩ := h
    rfl
  obtain ⟨t, m, rfl, hT, hm0, hm, q⟩ := h
  refine ⟨_, (C8.pss_cut (ps_if (pt_cmpR op_eq (pe_ix (kx_list (K := K) rfl) (pv 0) pe_int (fun _ _ => rfl)) pe_int (nomark _))
      (pss_cons (ps_set (i := 3) sc.nd rfl (Or.inl rfl) (pe_ix (kx_list (K := K) rfl) (pv 0) pe_int (fun _ _ => rfl)))
      (pss_cons (ps_set (i := 2) sc.nd rfl (Or.inl rfl) pe_int)
      (C8.pss_cut (ps_if (pt_cmpR op_lt (pv 3) (pe_callB (kc_lenS (K := K) rfl) (by rfl) T.z_len (by decide +kernel) (pa_cons (pe_ix (kx_list (K := K) rfl) (pv 0) pe_int (fun _ _ => rfl)) pa_nil)) (nomark _))
        (pss_one (ps_set (i := 2) sc.nd rfl (Or.inl rfl) (pe_callB call_abs (by rfl) T.z_abs (by decide +kernel) (pa_cons (pe_callTy call_int1 (by rfl) T.z_int (by decide +kernel) (pa_cons (pe_ix (kx_list (K := K) rfl) (pe_ix (kx_list (K := K) rfl) (pv 0) pe_int (fun _ _ => rfl)) (pv 3) (fun _ _ => rfl)) pa_nil)) pa_nil))))
        (pss_cons (ps_asg (pe_op op_modN (pe_callTy call_int1 (by rfl) T.z_int (by decide +kernel) (pa_cons (pe_op op_add (pe_op op_add (pe_op op_mul (pe_ix (kx_list (K := K) rfl) (pv 0) pe_int (fun _ _ => rfl)) pe_int) (pv 3)) pe_int) pa_nil)) pe_int) (pg_sub (pv 0) pe_int set_list))
        (pss_one (ps_set (i := 2) sc.nd rfl (Or.inl rfl) (pe_ix (kx_list (K := K) rfl) (pv 0) pe_int (fun _ _ => rfl))))))
      (pss_cons (ps_asg (pe_op op_add (pv 3) pe_int) (pg_sub (pv 0) pe_int set_list))
      (pss_cons (ps_if (pt_cmpR op_lt (pv 2) (pe_op op_pow pe_int pe_int) (nomark _))
        (pss_cons (ps_set (i := 2) sc.nd rfl (Or.inl rfl) (pe_op op_modN (pe_callTy call_int1 (by rfl) T.z_int (by decide +kernel) (pa_cons (pe_op op_add (pe_op op_add (pe_op op_mul (pv 2) pe_int) (pe_op op_mul (pv 3) pe_int)) pe_int) pa_nil)) pe_int))
        (pss_cons (ps_set (i := 2) sc.nd rfl (Or.inl rfl) (pe_op op_modN (pe_callTy call_int1 (by rfl) T.z_int (by decide +kernel) (pa_cons (pe_op op_mul (pv 2) pe_int) pa_nil)) pe_int))
        (pss_one (ps_ret (pe_op op_modN (pe_callTy call_int1 (by rfl) T.z_int (by decide +kernel) (pa_cons (pv 2) pa_nil)) (pe_callB (call_max2 rfl) (by rfl) T.z_max (by decide +kernel) (pa_cons (pv 1) (pa_cons pe_int pa_nil))))))))
        pss_nil)
      (pss_one (ps_asg (pv 2) (pg_sub (pv 0) pe_int set_list))))))))
      pss_nil)
    (pss_cons (ps_set (i := 2) sc.nd rfl (Or.inl rfl) (pe_ix (kx_list (K := K) rfl) (pv 0) pe_int (fun _ _ => rfl)))
    (pss_cons (ps_asg (pe_op op_fdivW (pv 2) (pe_callB (call_max2 rfl) (by rfl) T.z_max (by decide +kernel) (pa_cons (pv 1) (pa_cons pe_int pa_nil)))) (pg_sub (pv 0) pe_int set_list))
    (pss_one (ps_ret (pe_op op_modN (pe_callTy call_int1 (by rfl) T.z_int (by decide +kernel) (pa_cons (pv 2) pa_nil)) (pe_callB (call_max2 rfl) (by rfl) T.z_max (by decide +kernel) (pa_cons (pv 1) (pa_cons pe_int pa_nil))))))))), ?_⟩

  obtain ⟨l, ns, a, b, c, h1, h2, h3, h4, h5⟩ := hT.ex
  have hlen : (ns.map V.int).length = ns.length := List.length_map _
  have hmax : (if (1 : Int) > m then 1 else m) ≠ 0 := by split <;> omega
  have last : ∀ (n : Int) (H' : Hp), Go t H H' → Q (.int (n.fmod (if (1 : Int) > m then 1 else m))) H' := fun n H' g => by
    have e := fmod_in (a := n) (m := if (1 : Int) > m then 1 else m) (by split <;> omega)
    refine q _ _ e.1 ?_ g
    have e2 := e.2
    split at e2 <;> omega
  refine ⟨fun σ H' => Go t H H' ∧ ∃ v1 v2, σ = [some (.ref t), some (.int m), v1, v2], ?_, ?_⟩
  · refine ⟨_, rfl, t, _, 2, _, rfl, rfl, SqL.of h1, rfl, rfl, _, rfl, ite2 (fun c1 => ?_) (fun c1 => ⟨Go.refl hT, _, _, rfl⟩)⟩
    refine ⟨_, rfl, t, _, 1, _, rfl, rfl, SqL.of h1, rfl, ?_⟩
    refine ⟨fun σ H' => (∃ c', H' t = some (.lst [.ref l, .int a, .int b, .int c']) ∧ Sm t H H') ∧ ∃ n : Int, σ = [some (.ref t), some (.int m), some (.int n), some (.int a)], ?_, ?_⟩
    · refine ⟨_, rfl, _, rfl, t, _, 0, _, rfl, rfl, SqL.of h1, rfl, l, _, rfl, .inl (SqL.of h2), _, _, rfl, rfl, _, rfl, ite2 (fun c2 => ?_) (fun c2 => ?_)⟩
      · have c2' : a < ((ns.map V.int).length : Int) := of_decide_eq_true c2
        rw [hlen] at c2'
        have hx : (ns.map V.int)[a.toNat]? = some (.int ns[a.toNat]) := by
          rw [List.getElem?_map, List.getElem?_eq_getElem (by omega)]; rfl
        refine ⟨_, rfl, t, _, 0, _, rfl, rfl, SqL.of h1, rfl, _, rfl, l, _, a, _, rfl, rfl, SqL.of h2, at_of (by omega) hx, ?_⟩
        exact .inl ⟨_, rfl, _, rfl, ⟨c, h1, Sm.refl _ _⟩, _, rfl⟩
      · refine ⟨_, rfl, t, _, 3, _, rfl, rfl, SqL.of h1, rfl, ?_⟩
        refine ⟨_, _, rfl, rfl, .inr ⟨by decide, by decide⟩, _, rfl, _, _, rfl, rfl, _, _, rfl, rfl, .inl ⟨_, rfl, ?_⟩⟩
        refine ⟨_, _, rfl, rfl, (by show (2147483647 : Int) ≠ 0; decide), _, rfl, t, _, 3, 3, rfl, rfl, h1, rfl, ?_⟩
        refine ⟨_, rfl, t, _, 3, _, rfl, rfl, SqL.of upd_same, rfl, ⟨_, upd_same, Sm.put⟩, _, rfl⟩
    · rintro σ H1 ⟨⟨c', e1, s1⟩, n, rfl⟩
      refine ⟨_, rfl, _, _, rfl, rfl, _, rfl, t, _, 1, 1, rfl, rfl, e1, rfl, ?_⟩
      have g1 : Go t H (upd H1 t (.lst [.ref l, .int (a + 1), .int b, .int c'])) := Go.put h1 s1 (s1 _ _ h3 h2) h3 (by omega) h5
      refine ⟨_, rfl, _, _, rfl, rfl, ⟨by decide, by decide, by decide⟩, _, _, rfl, rfl, _, rfl, ite2 (fun c2 => ?_) (fun c2 => ?_)⟩
      · refine ⟨_, rfl, _, _, rfl, rfl, .inr ⟨by decide, by decide⟩, _, rfl, _, _, rfl, rfl, .inr ⟨by decide, by decide⟩, _, _, rfl, rfl, _, _, rfl, rfl, .inl ⟨_, rfl, ?_⟩⟩
        refine ⟨_, _, rfl, rfl, (by show (2147483647 : Int) ≠ 0; decide), _, rfl, _, _, rfl, rfl, .inr ⟨by decide, by decide⟩, .inl ⟨_, rfl, ?_⟩⟩
        refine ⟨_, _, rfl, rfl, (by show (2147483629 : Int) ≠ 0; decide), _, rfl, .inl ⟨_, rfl, _, rfl, _, _, rfl, _, _, rfl, rfl, hmax, ?_⟩⟩
        exact last _ _ g1
      · refine ⟨_, rfl, _, rfl, t, _, 2, 2, rfl, rfl, upd_same, rfl, ?_⟩
        rw [upd_upd]
        exact ⟨Go.put h1 s1 (s1 _ _ h3 h2) h3 (by omega) h5, _, _, rfl⟩
  · rintro σ H1 ⟨g0, v1, v2, rfl⟩
    obtain ⟨l', ns', a', b', c', k1, k2, k3, k4, k5⟩ := g0.tp.ex
    refine ⟨_, rfl, t, _, 2, _, rfl, rfl, SqL.of k1, rfl, _, rfl, _, rfl, _, _, rfl, _, _, rfl, rfl, ?_, ?_⟩
    · exact wide_div (b := 63) (by split <;> omega) (by split <;> omega) (by decide) (by decide)
    refine ⟨_, rfl, t, _, 2, 2, rfl, rfl, k1, rfl, ?_⟩
    refine ⟨_, rfl, .inl ⟨_, rfl, _, rfl, _, _, rfl, _, _, rfl, rfl, hmax, ?_⟩⟩
    exact last _ _ (g0.trans (Go.put k1 (Sm.refl _ _) k2 k3 k4 k5))
/-! ### _law_pick -/
theorem sc_law_pick : FnScope ["tape", "row"] ["tape", "row"] (defScope s_law_pick) := ⟨rfl, rfl, rfl, by decide +kernel, rfl, by decide +kernel, by decide +kernel⟩



def sp_law_pick (K : PySem.W.Frag) : Sp := fun vs H Q _ => ∃ (t : Addr) (row : V), vs = [.ref t, row] ∧ Tape H t ∧
  ((∃ z, row = .str z ∧ 1 ≤ z.length ∧ z.length ≤ 1000000 ∧ ∀ c H', c ∈ z.cps.toList → Go t H H' → Q (.str ⟨#[c]⟩) H') ∨
   (∃ p xs, row = .ref p ∧ p ≠ t ∧ (SqL K H p xs ∨ SqT K H p xs) ∧ 1 ≤ xs.length ∧ xs.length ≤ 1000000 ∧ ∀ v H', v ∈ xs → Go t H H' → Q v H'))

theorem ok_law_pick {f : Addr} {fd : FuncData} (F : Fun K "_law_pick" "_law_pick" s_law_pick f fd) (T : Top K w mg) {a_law_draw : Addr} {d_law_draw : FuncData} (C_law_draw : Cal P w K mg base "_law_draw" 1 ["tape", "many"] sp_law_draw a_law_draw d_law_draw) : FnOk P w K mg base CX0 2 f fd ["tape", "row"] (sp_law_pick K) := by
  have sc := sc_law_pick
  refine F.ok sc (fun vs H Q E h => ?_) (fun cdv A outer s H vs Q E hr h => ?_)
  · obtain ⟨t, row, rfl, _⟩ := h
    rfl
  obtain ⟨t, row, rfl, hT, q⟩ := h
  refine ⟨_, (pss_one (ps_ret (pe_ix (kx_seq (K := K) rfl) (pv 1) (pe_call C_law_draw.ok (hr.mono (by omega)) (by rfl) C_law_draw.m C_law_draw.kp C_law_draw.b .nil pass0 (pa_cons (pv 0) (pa_cons (pe_callB (kc_len (K := K) rfl) (by rfl) T.z_len (by decide +kernel) (pa_cons (pv 1) pa_nil)) pa_nil))) (fun _ _ => rfl)))), ?_⟩

  rcases q with ⟨z, rfl, z1, z2, q⟩ | ⟨p, xs, rfl, np, hS, z1, z2, q⟩
  · refine ⟨_, rfl, _, rfl, _, rfl, _, z.length, rfl, ⟨Nat.le_trans z2 (by decide), rfl⟩, t, z.length, rfl, hT, by omega, by omega, fun r H1 r0 r1 g => ?_⟩
    have hr2 : r.toNat < z.cps.toList.length := by rw [len_codes]; omega
    refine .inr (.inr ⟨z, r, z.cps.toList[r.toNat], rfl, rfl, Nat.le_trans z2 (by decide), at_any (z := r) (j := r.toNat) (by omega) (List.getElem?_eq_getElem hr2), ?_⟩)
    exact q _ _ (List.getElem_mem _) g
  · refine ⟨_, rfl, _, rfl, _, rfl, _, xs.length, rfl, hS.elim (fun h => .inl ⟨xs, h, rfl⟩) (fun h => .inr ⟨xs, h, rfl⟩), t, xs.length, rfl, hT, by omega, by omega, fun r H1 r0 r1 g => ?_⟩
    have hr2 : r.toNat < xs.length := by omega
    have q' := q xs[r.toNat] H1 (List.getElem_mem _) g
    rcases hS with hS | hS
    · exact .inl ⟨p, xs, r, _, rfl, rfl, g.sm.seqL np hS, at_of (by omega) (List.getElem?_eq_getElem hr2), q'⟩
    · exact .inr (.inl ⟨p, xs, r, _, rfl, rfl, g.sm.seqT np hS, at_of (by omega) (List.getElem?_eq_getElem hr2), q'⟩)
/-! ### _law_same -/
theorem sc_law_same : FnScope ["actual", "expected", "k"] ["actual", "expected"] (defScope s_law_same) := ⟨rfl, rfl, rfl, by decide +kernel, rfl, by decide +kernel, by decide +kernel⟩

theorem kit_tuple {K : PySem.W.Frag} {d : Dt} : PySem.W.kitOne K (.type d.name) (.type "tuple") = some (match d with | .tup _ => true | _ => false) := by
  cases d with
  | non => exact kit_ty (a := "NoneType") (b := "tuple") (r := false) (by decide +kernel)
  | bl b => exact kit_ty (a := "bool") (b := "tuple") (r := false) (by decide +kernel)
  | int i => exact kit_ty (a := "int") (b := "tuple") (r := false) (by decide +kernel)
  | str s => exact kit_ty (a := "str") (b := "tuple") (r := false) (by decide +kernel)
  | tup xs => exact kit_ty (a := "tuple") (b := "tuple") (r := true) (by decide +kernel)
theorem kit_bool {K : PySem.W.Frag} {d : Dt} : PySem.W.kitOne K (.type d.name) (.type "bool") = some (match d with | .bl _ => true | _ => false) := by
  cases d with
  | non => exact kit_ty (a := "NoneType") (b := "bool") (r := false) (by decide +kernel)
  | bl b => exact kit_ty (a := "bool") (b := "bool") (r := true) (by decide +kernel)
  | int i => exact kit_ty (a := "int") (b := "bool") (r := false) (by decide +kernel)
  | str s => exact kit_ty (a := "str") (b := "bool") (r := false) (by decide +kernel)
  | tup xs => exact kit_ty (a := "tuple") (b := "bool") (r := false) (by decide +kernel)
theorem kit_str {K : PySem.W.Frag} {d : Dt} : PySem.W.kitOne K (.type d.name) (.type "str") = some (match d with | .str _ => true | _ => false) := by
  cases d with
  | non => exact kit_ty (a := "NoneType") (b := "str") (r := false) (by decide +kernel)
  | bl b => exact kit_ty (a := "bool") (b := "str") (r := false) (by decide +kernel)
  | int i => exact kit_ty (a := "int") (b := "str") (r := false) (by decide +kernel)
  | str s => exact kit_ty (a := "str") (b := "str") (r := true) (by decide +kernel)
  | tup xs => exact kit_ty (a := "tuple") (b := "str") (r := false) (by decide +kernel)
theorem kit_int {K : PySem.W.Frag} {d : Dt} : PySem.W.kitOne K (.type d.name) (.type "int") = some (match d with | .int _ => true | .bl _ => true | _ => false) := by
  cases d with
  | non => exact kit_ty (a := "NoneType") (b := "int") (r := false) (by decide +kernel)
  | bl b => exact kit_ty (a := "bool") (b := "int") (r := true) (by decide +kernel)
  | int i => exact kit_ty (a := "int") (b := "int") (r := true) (by decide +kernel)
  | str s => exact kit_ty (a := "str") (b := "int") (r := false) (by decide +kernel)
  | tup xs => exact kit_ty (a := "tuple") (b := "int") (r := false) (by decide +kernel)


def spSame (n : Nat) (K : PySem.W.Frag) : Sp := fun vs H Q _ => ∃ (x y : V) (d : Dt), vs = [x, y] ∧ DT K H x d ∧ DT K H y d ∧ d.deep ≤ n ∧ d.fits = true ∧ ∀ H', Same H H' → Q (.bl true) H'
abbrev sp_law_same : PySem.W.Frag → Sp := spSame 40


theorem ok_law_same_n {n : Nat} {f : Addr} {fd : FuncData} (F : Fun K "_law_same" "_law_same" s_law_same f fd) (T : Top K w mg) (C_law_same : Cal P w K mg base "_law_same" n ["actual", "expected"] (spSame n) f fd) : FnOk P w K mg base CX0 (n + 1) f fd ["actual", "expected"] (spSame (n + 1) K) := by
  have sc := sc_law_same
  refine F.ok sc (fun vs H Q E h => ?_) (fun cdv A outer s H vs Q E hr h => ?_)
  · obtain ⟨x, y, d, rfl, _⟩ := h
    rfl
  obtain ⟨x, y, d, rfl, hx, hy, hd, hf, q⟩ := h
  refine ⟨_, (pss_cons (ps_if (pt_cmpR op_isN (pv 1) pe_non (nomark _))
      (pss_one (ps_ret (pe_cmpR op_isN (pv 0) pe_non (nomark _))))
      pss_nil)
    (pss_cons (ps_if (pt_val (pe_callB (kc_isi (K := K) rfl) (by rfl) T.z_isinstance (by decide +kernel) (pa_cons (pv 1) (pa_cons (pe_bltn (v := .ty "tuple") (by rfl) T.z_tuple (by decide +kernel) rfl) pa_nil))))
      (pss_cons (ps_if (PW.pt (pw_or (pt_not (pt_val (pe_callB (kc_isi (K := K) rfl) (by rfl) T.z_isinstance (by decide +kernel) (pa_cons (pv 0) (pa_cons (pe_bltn (v := .ty "tuple") (by rfl) T.z_tuple (by decide +kernel) rfl) pa_nil))))) (pw_or1 (pt_cmpR op_ne (pe_callB (kc_len (K := K) rfl) (by rfl) T.z_len (by decide +kernel) (pa_cons (pv 0) pa_nil)) (pe_callB (kc_len (K := K) rfl) (by rfl) T.z_len (by decide +kernel) (pa_cons (pv 1) pa_nil)) (nomark _)))))
        (pss_one (ps_ret pe_bl))
        pss_nil)
      (pss_one (ps_ret (pe_cmpR (kop_eqD (K := K) rfl hr.units) (pe_lc (own := [("k", 2)]) (g := gName 2) rfl sc.nd (pi_range1 (by rfl) T.z_range (pa_cons (pe_callB (kc_len (K := K) rfl) (by rfl) T.z_len (by decide +kernel) (pa_cons (pv 1) pa_nil)) pa_nil)) (blkOk_by (N := ["actual", "expected", "k"]) (sc := defScope s_law_same) (by decide +kernel)) (fun _ _ _ _ _ => pg_name (i := 2) sc.nd rfl (Or.inl rfl)) (fun _ _ _ _ _ => pts_one (pt_not (pt_val (pe_call C_law_same.ok hr (by rfl) C_law_same.m C_law_same.kp C_law_same.b .nil pass0 (pa_cons (pe_ix (kx_seq (K := K) rfl) (pv 0) (pv 2) (fun _ _ => rfl)) (pa_cons (pe_ix (kx_seq (K := K) rfl) (pv 1) (pv 2) (fun _ _ => rfl)) pa_nil)))))) (fun _ _ _ _ _ => (pv 2))) (pe_lst pa_nil) (nomark _)))))
      pss_nil)
    (pss_cons (ps_if (PW.pt (pw_or (pt_val (pe_callB (kc_isi (K := K) rfl) (by rfl) T.z_isinstance (by decide +kernel) (pa_cons (pv 1) (pa_cons (pe_bltn (v := .ty "bool") (by rfl) T.z_bool (by decide +kernel) rfl) pa_nil)))) (pw_or1 (pt_val (pe_callB (kc_isi (K := K) rfl) (by rfl) T.z_isinstance (by decide +kernel) (pa_cons (pv 0) (pa_cons (pe_bltn (v := .ty "bool") (by rfl) T.z_bool (by decide +kernel) rfl) pa_nil)))))))
      (pss_one (ps_ret (pe_and (pe_callB (kc_isi (K := K) rfl) (by rfl) T.z_isinstance (by decide +kernel) (pa_cons (pv 1) (pa_cons (pe_bltn (v := .ty "bool") (by rfl) T.z_bool (by decide +kernel) rfl) pa_nil))) (pe_and (pe_callB (kc_isi (K := K) rfl) (by rfl) T.z_isinstance (by decide +kernel) (pa_cons (pv 0) (pa_cons (pe_bltn (v := .ty "bool") (by rfl) T.z_bool (by decide +kernel) rfl) pa_nil))) (pe_one (pe_cmpR op_eq (pv 0) (pv 1) (nomark _)))))))
      pss_nil)
    (pss_cons (ps_if (pt_val (pe_callB (kc_isi (K := K) rfl) (by rfl) T.z_isinstance (by decide +kernel) (pa_cons (pv 1) (pa_cons (pe_bltn (v := .ty "str") (by rfl) T.z_str (by decide +kernel) rfl) pa_nil))))
      (pss_one (ps_ret (pe_and (pe_callB (kc_isi (K := K) rfl) (by rfl) T.z_isinstance (by decide +kernel) (pa_cons (pv 0) (pa_cons (pe_bltn (v := .ty "str") (by rfl) T.z_str (by decide +kernel) rfl) pa_nil))) (pe_one (pe_cmpR op_eq (pv 0) (pv 1) (nomark _))))))
      pss_nil)
    (pss_one (ps_ret (pe_and (pe_callB (kc_isi (K := K) rfl) (by rfl) T.z_isinstance (by decide +kernel) (pa_cons (pv 0) (pa_cons (pe_bltn (v := .ty "int") (by rfl) T.z_int (by decide +kernel) rfl) pa_nil))) (pe_one (pe_cmpR op_eq (pv 0) (pv 1) (nomark _)))))))))), ?_⟩
  have tx := hx.ty
  have ty := hy.ty
  cases d with
  | non =>
    cases hx; cases hy
    exact ⟨_, rfl, rfl, _, rfl, iteT ⟨_, rfl, rfl, q H (Same.refl H)⟩⟩
  | bl b =>
    cases hx; cases hy
    refine ⟨_, rfl, rfl, _, rfl, iteF ⟨_, rfl, _, _, _, _, _, rfl, .ty _, ty, kit_tuple, _, rfl, iteF ⟨_, rfl, _, _, _, _, _, rfl, .ty _, ty, kit_bool, _, rfl, iteT (iteT ?_)⟩⟩⟩
    refine ⟨_, rfl, _, _, _, _, _, rfl, .ty _, ty, kit_bool, _, rfl, iteT ⟨_, rfl, _, _, _, _, _, rfl, .ty _, tx, kit_bool, _, rfl, iteT ⟨_, rfl, _, rfl, rfl, ?_⟩⟩⟩
    rw [decide_eq_true rfl]
    exact q H (Same.refl H)
  | int i =>
    cases hx; cases hy
    refine ⟨_, rfl, rfl, _, rfl, iteF ⟨_, rfl, _, _, _, _, _, rfl, .ty _, ty, kit_tuple, _, rfl, iteF ⟨_, rfl, _, _, _, _, _, rfl, .ty _, ty, kit_bool, _, rfl, iteF ⟨_, rfl, _, _, _, _, _, rfl, .ty _, tx, kit_bool, _, rfl, iteF ?_⟩⟩⟩⟩
    refine ⟨_, rfl, _, _, _, _, _, rfl, .ty _, ty, kit_str, _, rfl, iteF ⟨_, rfl, _, _, _, _, _, rfl, .ty _, tx, kit_int, _, rfl, iteT ⟨_, rfl, _, rfl, rfl, ?_⟩⟩⟩
    rw [decide_eq_true rfl]
    exact q H (Same.refl H)
  | str i =>
    cases hx; cases hy
    refine ⟨_, rfl, rfl, _, rfl, iteF ⟨_, rfl, _, _, _, _, _, rfl, .ty _, ty, kit_tuple, _, rfl, iteF ⟨_, rfl, _, _, _, _, _, rfl, .ty _, ty, kit_bool, _, rfl, iteF ⟨_, rfl, _, _, _, _, _, rfl, .ty _, tx, kit_bool, _, rfl, iteF ?_⟩⟩⟩⟩
    refine ⟨_, rfl, _, _, _, _, _, rfl, .ty _, ty, kit_str, _, rfl, iteT ⟨_, rfl, _, _, _, _, _, rfl, .ty _, tx, kit_str, _, rfl, iteT ⟨_, rfl, _, rfl, rfl, ?_⟩⟩⟩
    rw [decide_eq_true rfl]
    exact q H (Same.refl H)
  | tup ds =>
    have hx' := hx
    have hy' := hy
    cases hx with
    | @tup a xs _ ha ax =>
    cases hy with
    | @tup b ys _ hb by' =>
    have l1 := ax.length
    have l2 := by'.length
    have hfit : ds.length ≤ 1000000 ∧ Dt.fitss ds = true := by
      unfold Dt.fits at hf
      rw [Bool.and_eq_true] at hf
      exact ⟨of_decide_eq_true hf.1, hf.2⟩
    refine ⟨_, rfl, rfl, _, rfl, iteF ⟨_, rfl, _, _, _, _, _, rfl, .ty _, ty, kit_tuple, _, rfl, iteT ⟨_, rfl, _, _, _, _, _, rfl, .ty _, tx, kit_tuple, _, rfl, iteF ?_⟩⟩⟩
    refine ⟨_, rfl, _, _, rfl, .inr ⟨xs, ha, rfl⟩, _, rfl, _, _, rfl, .inr ⟨ys, hb, rfl⟩, rfl, _, rfl, ?_⟩
    rw [decide_eq_true (show V.int (xs.length : Int) = V.int (ys.length : Int) by rw [l1, l2])]
    refine iteF ?_
    refine ⟨_, rfl, _, _, rfl, .inr ⟨ys, hb, rfl⟩, _, rfl, by omega, by omega, fun D hD => ?_⟩
    refine lc_it (walk_range (lo := 0) (n := (ys.length : Int).toNat)) (fun i H' => Same H H' ∧ H' D = some (.lst [])) ⟨same_new hD _, upd_same⟩ (fun _ _ _ _ => trivial) ?_ ?_
    · rintro i x H1 H2 hi ⟨s1, e1⟩ ⟨rfl, rfl⟩
      have hi2 : i < ds.length := by omega
      obtain ⟨u, eu, du⟩ := ax.get (List.getElem?_eq_getElem hi2)
      obtain ⟨v, ev, dv⟩ := by'.get (List.getElem?_eq_getElem hi2)
      have hm : ds[i] ∈ ds := List.getElem_mem _
      refine ⟨rfl, _, rfl, _, rfl, .inr (.inl ⟨a, xs, _, u, rfl, rfl, s1.seqT ha, at_any (j := i) (by omega) eu, ?_⟩)⟩
      refine ⟨_, rfl, _, rfl, .inr (.inl ⟨b, ys, _, v, rfl, rfl, s1.seqT hb, at_any (j := i) (by omega) ev, ?_⟩)⟩
      refine ⟨u, v, ds[i], rfl, du.same s1, dv.same s1, ?_, Dt.fitss_mem hm hfit.2, fun H3 s3 => ⟨_, rfl, iteF ⟨s1.trans s3, s3 _ _ e1⟩⟩⟩
      have h1 := Dt.deeps_mem hm
      unfold Dt.deep at hd
      omega
    · rintro H1 ⟨s1, e1⟩
      refine ⟨by decide, fun p hp => ?_⟩
      refine ⟨.list [], .list [], .lst (SqL.of (by rw [upd_ne (ne_of_none e1 hp)]; exact e1)) .nil, .lst (SqL.of upd_same) .nil, by decide +kernel, by decide +kernel, ?_⟩
      exact q _ (s1.trans (same_new hp _))
theorem ok_law_same {f : Addr} {fd : FuncData} (F : Fun K "_law_same" "_law_same" s_law_same f fd) (T : Top K w mg) (M : mg "_law_same" = some (.ref f)) : FnOk P w K mg base CX0 40 f fd ["actual", "expected"] (sp_law_same K) := by
  have b := F.binds (ps := ["actual", "expected"]) fun _ _ _ _ _ _ us hl => match us, hl with | [_, _], _ => rfl
  have h : ∀ n, FnOk P w K mg base CX0 n f fd ["actual", "expected"] (spSame n K) := fun n => by
    induction n with
    | zero =>
      refine none_left fun vs H Q E h => ?_
      obtain ⟨x, y, d, _, _, _, hd, _⟩ := h
      cases d <;> simp [Dt.deep] at hd
    | succ n ih => exact ok_law_same_n F T ⟨ih, b, F.kp, M⟩
  exact h 40

/-! ### _law_any_sign -/
theorem sc_law_any_sign : FnScope ["tape", "signs"] ["tape"] (defScope s_law_any_sign) := ⟨rfl, rfl, rfl, by decide +kernel, rfl, by decide +kernel, by decide +kernel⟩

def anyA : Str := Str.ofString " !\"#$&'()*+,-./0123456789:;<=>?@ABCDEFGHIJKLMNOPQRSTUVWXYZ[\\]^_`"
def anyB : Str := Str.ofString "abcdefghijklmnopqrstuvwxyz{|}~"
theorem any_ok : ∀ c ∈ (anyA ++ anyB).cps.toList, Sg c := by decide +kernel
theorem any_len : (anyA ++ anyB).length = 94 := by decide +kernel


def sp_law_any_sign (K : PySem.W.Frag) : Sp := fun vs H Q _ => ∃ (t : Addr), vs = [.ref t] ∧ Tape H t ∧ ∀ c H', Sg c → Go t H H' → Q (.str ⟨#[c]⟩) H'

theorem ok_law_any_sign {f : Addr} {fd : FuncData} (F : Fun K "_law_any_sign" "_law_any_sign" s_law_any_sign f fd) (T : Top K w mg) {a_law_pick : Addr} {d_law_pick : FuncData} (C_law_pick : Cal P w K mg base "_law_pick" 2 ["tape", "row"] sp_law_pick a_law_pick d_law_pick) : FnOk P w K mg base CX0 3 f fd ["tape"] (sp_law_any_sign K) := by
  have sc := sc_law_any_sign
  refine F.ok sc (fun vs H Q E h => ?_) (fun cdv A outer s H vs Q E hr h => ?_)
  · obtain ⟨t, rfl, _⟩ := h
    rfl
  obtain ⟨t, rfl, hT, q⟩ := h
  refine ⟨_, (pss_cons (ps_set (i := 1) sc.nd rfl (Or.inl rfl) pe_str)
    (pss_one (ps_ret (pe_call C_law_pick.ok (hr.mono (by omega)) (by rfl) C_law_pick.m C_law_pick.kp C_law_pick.b .nil pass0 (pa_cons (pv 0) (pa_cons (pe_op op_add_str (pv 1) pe_str) pa_nil)))))), ?_⟩

  refine ⟨_, rfl, _, rfl, anyA, anyB, rfl, rfl, by decide +kernel, t, _, rfl, hT, .inl ⟨anyA ++ anyB, rfl, by rw [any_len]; decide, by rw [any_len]; decide, fun c H1 hc g => ?_⟩⟩
  exact q c H1 (any_ok c hc) g
/-! ### _law_tight_text -/
theorem sc_law_tight_text : FnScope ["tape", "many", "signs", "k"] ["tape", "many"] (defScope s_law_tight_text) := ⟨rfl, rfl, rfl, by decide +kernel, rfl, by decide +kernel, by decide +kernel⟩

def tightA : Str := Str.ofString "!#$&'()*+,-./0123456789:;<=>?@ABCDEFGHIJKLMNOPQRSTUVWXYZ[\\]^_`"
def tightB : Str := Str.ofString "abcdefghijklmnopqrstuvwxyz{|}~"
def Tg (c : Nat) : Prop := Sg c ∧ c ≠ 32 ∧ c ≠ 34
instance (c : Nat) : Decidable (Tg c) := by unfold Tg; exact inferInstance
theorem tight_ok : ∀ c ∈ (tightA ++ tightB).cps.toList, Tg c := by decide +kernel
theorem tight_len : (tightA ++ tightB).length = 92 := by decide +kernel
def TgT (z : Str) : Prop := ∀ c ∈ z.cps.toList, Tg c
theorem TgT.sg {z : Str} (h : TgT z) : SgT z := fun c hc => (h c hc).1


def sp_law_tight_text (K : PySem.W.Frag) : Sp := fun vs H Q _ => ∃ (t : Addr) (m : Nat), vs = [.ref t, .int m] ∧ Tape H t ∧ m ≤ 100000 ∧ ∀ z H', TgT z → z.length = m → Go t H H' → Q (.str z) H'

theorem ok_law_tight_text {f : Addr} {fd : FuncData} (F : Fun K "_law_tight_text" "_law_tight_text" s_law_tight_text f fd) (T : Top K w mg) {a_law_pick : Addr} {d_law_pick : FuncData} (C_law_pick : Cal P w K mg base "_law_pick" 2 ["tape", "row"] sp_law_pick a_law_pick d_law_pick) : FnOk P w K mg base CX0 3 f fd ["tape", "many"] (sp_law_tight_text K) := by
  have sc := sc_law_tight_text
  refine F.ok sc (fun vs H Q E h => ?_) (fun cdv A outer s H vs Q E hr h => ?_)
  · obtain ⟨t, m, rfl, _⟩ := h
    rfl
  obtain ⟨t, m, rfl, hT, hm, q⟩ := h
  refine ⟨_, (pss_cons (ps_set (i := 2) sc.nd rfl (Or.inr rfl) pe_str)
    (pss_cons (ps_set (i := 2) sc.nd rfl (Or.inr rfl) (pe_op op_add_str (pv 2) pe_str))
    (pss_one (ps_ret (pe_join pe_str (pe_lc (own := [("k", 3)]) (g := gName 3) (tt := tYes) rfl sc.nd (pi_range1 (by rfl) T.z_range (pa_cons (pv 1) pa_nil)) (blkOk_by (N := ["tape", "many", "signs", "k"]) (sc := defScope s_law_tight_text) (by decide +kernel)) (fun _ _ _ _ _ => pg_name (i := 3) sc.nd rfl (Or.inl rfl)) (fun _ _ _ _ _ => pts_nil) (fun _ _ _ _ _ => (pe_call C_law_pick.ok (hr.mono (by omega)) (by rfl) C_law_pick.m C_law_pick.kp C_law_pick.b .nil pass0 (pa_cons (pv 0) (pa_cons (pv 2) pa_nil)))))))))), ?_⟩

  refine ⟨_, rfl, _, _, rfl, rfl, by decide +kernel, ⟨_, rfl⟩, _, rfl, m, rfl, by omega, by omega, fun D hD => ?_⟩
  refine lc_acc (walk_range (lo := 0) (n := (m : Int).toNat)) (fun i acc H' => Go t H H' ∧ ∃ cs : List Nat, acc = (cs.map fun c => (⟨#[c]⟩ : Str)).map V.str ∧ ∀ c ∈ cs, Tg c) ⟨(Go.refl hT).new hD, [], rfl, fun _ h => by cases h⟩ (fun _ _ _ _ _ _ => trivial) ?_ ?_
  · rintro i acc x H1 H2 hi e el ⟨g, cs, ea, hcs⟩ ⟨rfl, rfl⟩
    refine ⟨rfl, _, rfl, _, rfl, t, _, rfl, g.tp, .inl ⟨tightA ++ tightB, rfl, by rw [tight_len]; decide, by rw [tight_len]; decide, fun c H3 hc g3 => ?_⟩⟩
    refine acc_step (g3.sm _ _ (hT.ne hD) e) el (by omega) ⟨Go.late hT (g.trans g3) hD, cs ++ [c], ?_, fun d hd => ?_⟩
    · rw [ea, List.map_append, List.map_append]; rfl
    · rcases List.mem_append.mp hd with h | h
      · exact hcs d h
      · rw [List.mem_singleton.mp h]; exact tight_ok c hc
  · rintro acc H1 e el ⟨g, cs, ea, hcs⟩
    have hl : cs.length = m := by
      rw [ea, List.length_map, List.length_map] at el
      omega
    refine ⟨_, D, cs.map fun c => (⟨#[c]⟩ : Str), rfl, rfl, .inl (SqL.of (by rw [e, ea])), ?_, ?_⟩
    · rw [sum_ones, List.length_map]
      show cs.length + cs.length * 0 ≤ _
      omega
    have ec := join_codes (cs.map fun c => (⟨#[c]⟩ : Str))
    rw [flat_ones] at ec
    refine q _ _ (fun c hc => hcs c (by rw [ec] at hc; exact hc)) ?_ g
    rw [← len_codes, ec]
    exact hl
/-! ### _law_scalar -/
theorem sc_law_scalar : FnScope ["tape", "choice"] ["tape"] (defScope s_law_scalar) := ⟨rfl, rfl, rfl, by decide +kernel, rfl, by decide +kernel, by decide +kernel⟩

def sp_law_scalar (K : PySem.W.Frag) : Sp := fun vs H Q _ => ∃ (t : Addr), vs = [.ref t] ∧ Tape H t ∧ ∀ v c H', Go t H H' → DT K H' v (.tup (scD c)) → scOk c → c ≠ .recd → Q v H'

theorem ok_law_scalar {f : Addr} {fd : FuncData} (F : Fun K "_law_scalar" "_law_scalar" s_law_scalar f fd) (T : Top K w mg) {a_law_draw : Addr} {d_law_draw : FuncData} (C_law_draw : Cal P w K mg base "_law_draw" 1 ["tape", "many"] sp_law_draw a_law_draw d_law_draw) {a_law_pick : Addr} {d_law_pick : FuncData} (C_law_pick : Cal P w K mg base "_law_pick" 2 ["tape", "row"] sp_law_pick a_law_pick d_law_pick) {a_law_tight_text : Addr} {d_law_tight_text : FuncData} (C_law_tight_text : Cal P w K mg base "_law_tight_text" 3 ["tape", "many"] sp_law_tight_text a_law_tight_text d_law_tight_text) : FnOk P w K mg base CX0 4 f fd ["tape"] (sp_law_scalar K) := by
  have sc := sc_law_scalar
  refine F.ok sc (fun vs H Q E h => ?_) (fun cdv A outer s H vs Q E hr h => ?_)
  · obtain ⟨t, rfl, _⟩ := h
    rfl
  obtain ⟨t, rfl, hT, q⟩ := h
  refine ⟨_, (pss_cons (ps_set (i := 1) sc.nd rfl (Or.inl rfl) (pe_call C_law_draw.ok (hr.mono (by omega)) (by rfl) C_law_draw.m C_law_draw.kp C_law_draw.b .nil pass0 (pa_cons (pv 0) (pa_cons pe_int pa_nil))))
    (pss_cons (ps_if (pt_cmpR op_lt (pv 1) pe_int (nomark _))
      (pss_one (ps_ret (pe_ix (kx_list (K := K) rfl) (pe_lst (pa_cons (pe_tup (pa_cons pe_str pa_nil)) (pa_cons (pe_tup (pa_cons pe_str pa_nil)) (pa_cons (pe_tup (pa_cons pe_str pa_nil)) pa_nil)))) (pv 1) (fun _ _ => rfl))))
      pss_nil)
    (pss_cons (ps_if (pt_cmpR op_eq (pv 1) pe_int (nomark _))
      (pss_one (ps_ret (pe_tup (pa_cons pe_str (pa_cons (pe_call C_law_pick.ok (hr.mono (by omega)) (by rfl) C_law_pick.m C_law_pick.kp C_law_pick.b .nil pass0 (pa_cons (pv 0) (pa_cons (pe_lst (pa_cons pe_int (pa_cons (pe_op op_pow pe_int pe_int) (pa_cons (pe_un un_neg pe_int) (pa_cons pe_int pa_nil))))) pa_nil))) pa_nil)))))
      pss_nil)
    (pss_cons (ps_if (pt_cmpR op_lt (pv 1) pe_int (nomark _))
      (pss_one (ps_ret (pe_tup (pa_cons pe_str (pa_cons (pe_op op_sub (pe_call C_law_draw.ok (hr.mono (by omega)) (by rfl) C_law_draw.m C_law_draw.kp C_law_draw.b .nil pass0 (pa_cons (pv 0) (pa_cons pe_int pa_nil))) pe_int) pa_nil)))))
      pss_nil)
    (pss_cons (ps_if (pt_cmpR op_eq (pv 1) pe_int (nomark _))
      (pss_one (ps_ret (pe_tup (pa_cons pe_str (pa_cons (pe_op op_sub (pe_call C_law_draw.ok (hr.mono (by omega)) (by rfl) C_law_draw.m C_law_draw.kp C_law_draw.b .nil pass0 (pa_cons (pv 0) (pa_cons pe_int pa_nil))) pe_int) pa_nil)))))
      pss_nil)
    (pss_cons (ps_if (pt_cmpR op_eq (pv 1) pe_int (nomark _))
      (pss_one (ps_ret (pe_tup (pa_cons pe_str (pa_cons (pe_call C_law_pick.ok (hr.mono (by omega)) (by rfl) C_law_pick.m C_law_pick.kp C_law_pick.b .nil pass0 (pa_cons (pv 0) (pa_cons (pe_lst (pa_cons pe_str (pa_cons pe_str (pa_cons pe_str (pa_cons pe_str (pa_cons pe_str (pa_cons pe_str (pa_cons pe_str (pa_cons pe_str pa_nil))))))))) pa_nil))) pa_nil)))))
      pss_nil)
    (pss_one (ps_ret (pe_tup (pa_cons pe_str (pa_cons (pe_call C_law_tight_text.ok (hr.mono (by omega)) (by rfl) C_law_tight_text.m C_law_tight_text.kp C_law_tight_text.b .nil pass0 (pa_cons (pv 0) (pa_cons (pe_call C_law_pick.ok (hr.mono (by omega)) (by rfl) C_law_pick.m C_law_pick.kp C_law_pick.b .nil pass0 (pa_cons (pv 0) (pa_cons (pe_lst (pa_cons pe_int (pa_cons pe_int (pa_cons pe_int (pa_cons pe_int pa_nil))))) pa_nil))) pa_nil))) pa_nil))))))))))), ?_⟩

  have sgs : ∀ z ∈ [Str.ofString "", Str.ofString " ", Str.ofString "1", Str.ofString "true", Str.ofString "null", Str.ofString "b", Str.ofString "a b", Str.ofString "record"], z.length ≤ 60 ∧ ∀ c ∈ z.cps.toList, Sg c := by decide +kernel
  refine ⟨_, rfl, t, 10, rfl, hT, by decide, by decide, fun ch H1 c0 c1 g1 => ?_⟩
  refine ⟨_, rfl, _, _, rfl, rfl, _, rfl, ite2 (fun d => ?_) (fun d => ?_)⟩
  · have d' : ch < 3 := of_decide_eq_true d
    refine ⟨(by show 1 ≤ sizeLine; decide), fun p1 h1 => ⟨(by show 1 ≤ sizeLine; decide), fun p2 h2 => ⟨(by show 1 ≤ sizeLine; decide), fun p3 h3 => ⟨(by show 3 ≤ sizeLine; decide), fun p4 h4 => ?_⟩⟩⟩⟩
    have g2 := (((g1.new (o := .tup [.str (Str.ofString "null")]) h1).new (o := .tup [.str (Str.ofString "false")]) h2).new (o := .tup [.str (Str.ofString "true")]) h3).new (o := .lst [.ref p1, .ref p2, .ref p3]) h4
    have e3 : (upd (upd (upd (upd H1 p1 (.tup [.str (Str.ofString "null")])) p2 (.tup [.str (Str.ofString "false")])) p3 (.tup [.str (Str.ofString "true")])) p4 (.lst [.ref p1, .ref p2, .ref p3])) p3 = some (.tup [.str (Str.ofString "true")]) := (same_new h4 _) _ _ upd_same
    have e2 : (upd (upd (upd (upd H1 p1 (.tup [.str (Str.ofString "null")])) p2 (.tup [.str (Str.ofString "false")])) p3 (.tup [.str (Str.ofString "true")])) p4 (.lst [.ref p1, .ref p2, .ref p3])) p2 = some (.tup [.str (Str.ofString "false")]) := (same_new h4 _) _ _ ((same_new h3 _) _ _ upd_same)
    have e1 : (upd (upd (upd (upd H1 p1 (.tup [.str (Str.ofString "null")])) p2 (.tup [.str (Str.ofString "false")])) p3 (.tup [.str (Str.ofString "true")])) p4 (.lst [.ref p1, .ref p2, .ref p3])) p1 = some (.tup [.str (Str.ofString "null")]) := (same_new h4 _) _ _ ((same_new h3 _) _ _ ((same_new h2 _) _ _ upd_same))
    have : ch = 0 ∨ ch = 1 ∨ ch = 2 := by omega
    rcases this with rfl | rfl | rfl
    · exact ⟨_, rfl, p4, _, _, _, rfl, rfl, SqL.of upd_same, rfl, q _ .null _ g2 (.tup (SqT.of e1) (.cons (.str _) .nil)) trivial (by intro z; cases z)⟩
    · exact ⟨_, rfl, p4, _, _, _, rfl, rfl, SqL.of upd_same, rfl, q _ .fals _ g2 (.tup (SqT.of e2) (.cons (.str _) .nil)) trivial (by intro z; cases z)⟩
    · exact ⟨_, rfl, p4, _, _, _, rfl, rfl, SqL.of upd_same, rfl, q _ .tru _ g2 (.tup (SqT.of e3) (.cons (.str _) .nil)) trivial (by intro z; cases z)⟩
  have num : ∀ (n : Int) (H' : Hp) (p : Addr), Go t H H' → H' p = none → -1000000000 ≤ n → n ≤ 1000000000 → Q (.ref p) (upd H' p (.tup [.str (Str.ofString "number"), .int n])) := fun n H' p g hp b1 b2 =>
    q _ (.num n) _ (g.new hp) (.tup (SqT.of upd_same) (.cons (.str _) (.cons (.int _) .nil))) ⟨b1, b2⟩ (by intro z; cases z)
  have txt : ∀ (s : Str) (H' : Hp) (p : Addr), Go t H H' → H' p = none → s.length ≤ 60 → SgT s → Q (.ref p) (upd H' p (.tup [.str (Str.ofString "text"), .str s])) := fun s H' p g hp b1 b2 =>
    q _ (.text s) _ (g.new hp) (.tup (SqT.of upd_same) (.cons (.str _) (.cons (.str _) .nil))) ⟨b1, b2⟩ (by intro z; cases z)
  refine ⟨_, rfl, rfl, _, rfl, ite2 (fun _ => ?_) (fun _ => ?_)⟩
  · refine ⟨_, rfl, _, _, rfl, rfl, ⟨by decide, by decide, by decide⟩, _, rfl, (by show 4 ≤ sizeLine; decide), fun p1 hp1 => ?_⟩
    refine ⟨t, _, rfl, g1.tp.new hp1, .inr ⟨p1, _, rfl, g1.tp.ne hp1, .inl (SqL.of upd_same), (by show 1 ≤ 4; decide), (by show 4 ≤ 1000000; decide), fun v H2 hv g2 => ?_⟩⟩
    obtain ⟨n, b1, b2, rfl⟩ : ∃ n : Int, -1000000000 ≤ n ∧ n ≤ 1000000000 ∧ v = V.int n := by
      simp only [List.mem_cons, List.not_mem_nil, or_false] at hv
      rcases hv with rfl | rfl | rfl | rfl
      · exact ⟨_, by decide, by decide, rfl⟩
      · exact ⟨_, by decide, by decide, rfl⟩
      · exact ⟨_, by decide, by decide, rfl⟩
      · exact ⟨_, by decide, by decide, rfl⟩
    exact ⟨(by show 2 ≤ sizeLine; decide), fun p hp => num n _ p ((g1.new hp1).trans g2) hp b1 b2⟩
  refine ⟨_, rfl, _, _, rfl, rfl, _, rfl, ite2 (fun _ => ?_) (fun _ => ?_)⟩
  · refine ⟨_, rfl, t, 25, rfl, g1.tp, by decide, by decide, fun r H2 r0 r1 g2 => ⟨_, _, rfl, rfl, (by show 2 ≤ sizeLine; decide), fun p hp => ?_⟩⟩
    exact num _ _ p (g1.trans g2) hp (by show -1000000000 ≤ r - 12; omega) (by show r - 12 ≤ 1000000000; omega)
  refine ⟨_, rfl, rfl, _, rfl, ite2 (fun _ => ?_) (fun _ => ?_)⟩
  · refine ⟨_, rfl, t, 2000000001, rfl, g1.tp, by decide, by decide, fun r H2 r0 r1 g2 => ⟨_, _, rfl, rfl, (by show 2 ≤ sizeLine; decide), fun p hp => ?_⟩⟩
    exact num _ _ p (g1.trans g2) hp (by show -1000000000 ≤ r - 1000000000; omega) (by show r - 1000000000 ≤ 1000000000; omega)
  refine ⟨_, rfl, rfl, _, rfl, ite2 (fun _ => ?_) (fun _ => ?_)⟩
  · refine ⟨_, rfl, (by show 8 ≤ sizeLine; decide), fun p1 hp1 => ?_⟩
    refine ⟨t, _, rfl, g1.tp.new hp1, .inr ⟨p1, _, rfl, g1.tp.ne hp1, .inl (SqL.of upd_same), (by show 1 ≤ 8; decide), (by show 8 ≤ 1000000; decide), fun v H2 hv g2 => ?_⟩⟩
    obtain ⟨z, hz, rfl⟩ := pickS [Str.ofString "", Str.ofString " ", Str.ofString "1", Str.ofString "true", Str.ofString "null", Str.ofString "b", Str.ofString "a b", Str.ofString "record"] hv
    exact ⟨(by show 2 ≤ sizeLine; decide), fun p hp => txt z _ p ((g1.new hp1).trans g2) hp (sgs z hz).1 (sgs z hz).2⟩
  · refine ⟨_, rfl, _, rfl, (by show 4 ≤ sizeLine; decide), fun p1 hp1 => ?_⟩
    refine ⟨t, _, rfl, g1.tp.new hp1, .inr ⟨p1, _, rfl, g1.tp.ne hp1, .inl (SqL.of upd_same), (by show 1 ≤ 4; decide), (by show 4 ≤ 1000000; decide), fun v H2 hv g2 => ?_⟩⟩
    obtain ⟨m, hm, rfl⟩ := pickN [1, 2, 3, 60] hv (b := 60) rfl
    refine ⟨t, m, rfl, g2.tp, by omega, fun z H3 hz lz g3 => ⟨(by show 2 ≤ sizeLine; decide), fun p hp => ?_⟩⟩
    exact txt z _ p ((g1.new hp1).trans (g2.trans g3)) hp (by omega) hz.sg
/-! ### _law_worth -/
theorem sc_law_worth : FnScope ["content"] ["content"] (defScope s_law_worth) := ⟨rfl, rfl, rfl, by decide +kernel, rfl, by decide +kernel, by decide +kernel⟩

def kindL : List Str := [Str.ofString "null", Str.ofString "false", Str.ofString "true", Str.ofString "number", Str.ofString "text", Str.ofString "record"]


def sp_law_worth (K : PySem.W.Frag) : Sp := fun vs H Q _ => ∃ (v : V) (c : Sc), vs = [v] ∧ DT K H v (.tup (scD c)) ∧ (∀ s, c = .text s → s.length ≤ 100000) ∧ ∀ u H', Same H H' → Dp K H' u (wP c) → Q u H'

theorem ok_law_worth {f : Addr} {fd : FuncData} (F : Fun K "_law_worth" "_law_worth" s_law_worth f fd) (T : Top K w mg) : FnOk P w K mg base CX0 1 f fd ["content"] (sp_law_worth K) := by
  have sc := sc_law_worth
  refine F.ok sc (fun vs H Q E h => ?_) (fun cdv A outer s H vs Q E hr h => ?_)
  · obtain ⟨v, c, rfl, _⟩ := h
    rfl
  obtain ⟨v, c, rfl, hv, hl, q⟩ := h
  refine ⟨_, (pss_cons (ps_if (pt_cmpR op_eq (pe_ix (kx_tup (K := K) rfl) (pv 0) pe_int (fun _ _ => rfl)) pe_str (nomark _))
      (pss_one (ps_ret (pe_tup (pa_cons pe_int (pa_cons (pe_op op_sub (pe_op op_mul pe_int (pe_callB call_abs (by rfl) T.z_abs (by decide +kernel) (pa_cons (pe_ix (kx_tup (K := K) rfl) (pv 0) pe_int (fun _ _ => rfl)) pa_nil))) (pe_callTy call_int1 (by rfl) T.z_int (by decide +kernel) (pa_cons (pe_cmpR op_gt (pe_ix (kx_tup (K := K) rfl) (pv 0) pe_int (fun _ _ => rfl)) pe_int (nomark _)) pa_nil))) (pa_cons pe_str pa_nil))))))
      pss_nil)
    (pss_cons (ps_if (pt_cmpR op_eq (pe_ix (kx_tup (K := K) rfl) (pv 0) pe_int (fun _ _ => rfl)) pe_str (nomark _))
      (pss_one (ps_ret (pe_tup (pa_cons pe_int (pa_cons (pe_callB (kc_len (K := K) rfl) (by rfl) T.z_len (by decide +kernel) (pa_cons (pe_ix (kx_tup (K := K) rfl) (pv 0) pe_int (fun _ _ => rfl)) pa_nil)) (pa_cons (pe_ix (kx_tup (K := K) rfl) (pv 0) pe_int (fun _ _ => rfl)) pa_nil))))))
      pss_nil)
    (pss_one (ps_ret (pe_tup (pa_cons (pe_bm PySem.F.plainAttrs_list PySem.F.slot_list_index PySem.F.type_list_index mt_index (pe_lst (pa_cons pe_str (pa_cons pe_str (pa_cons pe_str (pa_cons pe_str (pa_cons pe_str (pa_cons pe_str pa_nil))))))) (pa_cons (pe_ix (kx_tup (K := K) rfl) (pv 0) pe_int (fun _ _ => rfl)) pa_nil)) (pa_cons pe_int (pa_cons pe_str pa_nil)))))))), ?_⟩

  obtain ⟨a, xs, rfl, hS, h0, hn, ht⟩ := sc_tup hv
  have fin : ∀ (H1 : Hp) (p : Addr), Same H H1 → H1 p = none → Q (.ref p) (upd H1 p (.tup [.int (wA c), .int (wB c), .str (wC c)])) := fun H1 p s hp =>
    q _ _ (s.trans (same_new hp _)) (.tup (SqT.of upd_same) (.cons (.int _) (.cons (.int _) (.cons (.str _) .nil))))
  cases c with
  | num n =>
    have h1 := hn n rfl
    refine ⟨_, rfl, a, _, 0, _, rfl, rfl, hS, atI_nat h0, rfl, _, rfl, iteT ?_⟩
    refine ⟨_, rfl, a, _, 1, _, rfl, rfl, hS, atI_nat h1, _, rfl, ?_⟩
    refine ⟨_, _, rfl, rfl, .inl ⟨by decide, by decide⟩, _, rfl, a, _, 1, _, rfl, rfl, hS, atI_nat h1, _, _, rfl, rfl, .inr ⟨_, rfl, ?_⟩⟩
    refine ⟨_, _, rfl, rfl, (by show 3 ≤ sizeLine; decide), fun p hp => ?_⟩
    have e : (2 * (if n < 0 then -n else n) - if decide (0 < n) = true then (1 : Int) else 0) = wB (.num n) := by
      unfold wB
      simp
    have z := fin H p (Same.refl H) hp
    rw [← e] at z
    exact z
  | text s =>
    have h1 := ht s rfl
    refine ⟨_, rfl, a, _, 0, _, rfl, rfl, hS, atI_nat h0, rfl, _, rfl, iteF ?_⟩
    refine ⟨_, rfl, a, _, 0, _, rfl, rfl, hS, atI_nat h0, rfl, _, rfl, iteT ?_⟩
    refine ⟨_, rfl, a, _, 1, _, rfl, rfl, hS, atI_nat h1, _, _, rfl, ⟨le_line (by have := hl s rfl; omega), rfl⟩, ?_⟩
    refine ⟨_, rfl, a, _, 1, _, rfl, rfl, hS, atI_nat h1, (by show 3 ≤ sizeLine; decide), fun p hp => ?_⟩
    exact fin H p (Same.refl H) hp
  | null =>
    refine ⟨_, rfl, a, _, 0, _, rfl, rfl, hS, atI_nat h0, rfl, _, rfl, iteF ?_⟩
    refine ⟨_, rfl, a, _, 0, _, rfl, rfl, hS, atI_nat h0, rfl, _, rfl, iteF ?_⟩
    refine ⟨(by show 6 ≤ sizeLine; decide), fun l hl => ⟨.inl ⟨rfl, _, SqL.of upd_same⟩, _, rfl, a, _, 0, _, rfl, rfl, (same_new hl _).seqT hS, atI_nat h0, ?_⟩⟩
    refine ⟨l, kindL.map V.str, _, 0, _, rfl, rfl, SqL.of upd_same, rfl, flat_strs _, rfl, by decide +kernel, (fun m z hm => by omega), (by show 3 ≤ sizeLine; decide), fun p hp => ?_⟩
    exact fin _ p (same_new hl _) hp
  | fals =>
    refine ⟨_, rfl, a, _, 0, _, rfl, rfl, hS, atI_nat h0, rfl, _, rfl, iteF ?_⟩
    refine ⟨_, rfl, a, _, 0, _, rfl, rfl, hS, atI_nat h0, rfl, _, rfl, iteF ?_⟩
    refine ⟨(by show 6 ≤ sizeLine; decide), fun l hl => ⟨.inl ⟨rfl, _, SqL.of upd_same⟩, _, rfl, a, _, 0, _, rfl, rfl, (same_new hl _).seqT hS, atI_nat h0, ?_⟩⟩
    refine ⟨l, kindL.map V.str, _, 1, _, rfl, rfl, SqL.of upd_same, rfl, flat_strs _, rfl, by decide +kernel, (fun m z hm e => ?_), (by show 3 ≤ sizeLine; decide), fun p hp => ?_⟩
    · match m, hm, e with
      | 0, _, e => cases e; decide +kernel
    · exact fin _ p (same_new hl _) hp
  | tru =>
    refine ⟨_, rfl, a, _, 0, _, rfl, rfl, hS, atI_nat h0, rfl, _, rfl, iteF ?_⟩
    refine ⟨_, rfl, a, _, 0, _, rfl, rfl, hS, atI_nat h0, rfl, _, rfl, iteF ?_⟩
    refine ⟨(by show 6 ≤ sizeLine; decide), fun l hl => ⟨.inl ⟨rfl, _, SqL.of upd_same⟩, _, rfl, a, _, 0, _, rfl, rfl, (same_new hl _).seqT hS, atI_nat h0, ?_⟩⟩
    refine ⟨l, kindL.map V.str, _, 2, _, rfl, rfl, SqL.of upd_same, rfl, flat_strs _, rfl, by decide +kernel, (fun m z hm e => ?_), (by show 3 ≤ sizeLine; decide), fun p hp => ?_⟩
    · match m, hm, e with
      | 0, _, e => cases e; decide +kernel
      | 1, _, e => cases e; decide +kernel
    · exact fin _ p (same_new hl _) hp
  | recd =>
    refine ⟨_, rfl, a, _, 0, _, rfl, rfl, hS, atI_nat h0, rfl, _, rfl, iteF ?_⟩
    refine ⟨_, rfl, a, _, 0, _, rfl, rfl, hS, atI_nat h0, rfl, _, rfl, iteF ?_⟩
    refine ⟨(by show 6 ≤ sizeLine; decide), fun l hl => ⟨.inl ⟨rfl, _, SqL.of upd_same⟩, _, rfl, a, _, 0, _, rfl, rfl, (same_new hl _).seqT hS, atI_nat h0, ?_⟩⟩
    refine ⟨l, kindL.map V.str, _, 5, _, rfl, rfl, SqL.of upd_same, rfl, flat_strs _, rfl, by decide +kernel, (fun m z hm e => ?_), (by show 3 ≤ sizeLine; decide), fun p hp => ?_⟩
    · match m, hm, e with
      | 0, _, e => cases e; decide +kernel
      | 1, _, e => cases e; decide +kernel
      | 2, _, e => cases e; decide +kernel
      | 3, _, e => cases e; decide +kernel
      | 4, _, e => cases e; decide +kernel
    · exact fin _ p (same_new hl _) hp
/-! ### _law_sign -/
theorem sc_law_sign : FnScope ["first", "second"] ["first", "second"] (defScope s_law_sign) := ⟨rfl, rfl, rfl, by decide +kernel, rfl, by decide +kernel, by decide +kernel⟩

def sp_law_sign (K : PySem.W.Frag) : Sp := fun vs H Q _ => ∃ (x y : V) (a b : Sc), vs = [x, y] ∧ Dp K H x (wP a) ∧ Dp K H y (wP b) ∧ Q (.int (cmpSc a b)) H

theorem ok_law_sign {f : Addr} {fd : FuncData} (F : Fun K "_law_sign" "_law_sign" s_law_sign f fd) (T : Top K w mg) : FnOk P w K mg base CX0 1 f fd ["first", "second"] (sp_law_sign K) := by
  have sc := sc_law_sign
  refine F.ok sc (fun vs H Q E h => ?_) (fun cdv A outer s H vs Q E hr h => ?_)
  · obtain ⟨x, y, a, b, rfl, _⟩ := h
    rfl
  obtain ⟨x, y, a, b, rfl, hx, hy, q⟩ := h
  refine ⟨_, (pss_one (ps_ret (pe_op op_sub (pe_callTy call_int1 (by rfl) T.z_int (by decide +kernel) (pa_cons (pe_cmpR (op_gtP (K := K) rfl hr.units) (pv 0) (pv 1) (nomark _)) pa_nil)) (pe_callTy call_int1 (by rfl) T.z_int (by decide +kernel) (pa_cons (pe_cmpR (op_ltP (K := K) rfl hr.units) (pv 0) (pv 1) (nomark _)) pa_nil))))), ?_⟩

  refine ⟨_, rfl, _, rfl, _, _, hx, hy, rfl, (fun z => nomatch z), (by show 1 ≤ 60; decide), .inr ⟨_, rfl, ?_⟩⟩
  refine ⟨_, rfl, _, rfl, _, _, hx, hy, rfl, (fun z => nomatch z), (by show 1 ≤ 60; decide), .inr ⟨_, rfl, _, _, rfl, rfl, ?_⟩⟩
  rw [dataLt_wP, dataLt_wP]
  exact q
/-! ### _law_scalar_near -/
theorem sc_law_scalar_near : FnScope ["tape", "scalar", "choice", "at"] ["tape", "scalar"] (defScope s_law_scalar_near) := ⟨rfl, rfl, rfl, by decide +kernel, rfl, by decide +kernel, by decide +kernel⟩

def sp_law_scalar_near (K : PySem.W.Frag) : Sp := fun vs H Q _ => ∃ (t : Addr) (x : V) (c : Sc), vs = [.ref t, x] ∧ Tape H t ∧ DT K H x (.tup (scD c)) ∧ (∀ s, c = .text s → s.length ≤ 100) ∧ (∀ n, c = .num n → -1000000000 ≤ n ∧ n ≤ 1000000000) ∧ ∀ v d H', Go t H H' → DT K H' v (.tup (scD d)) → (∀ s, d = .text s → s.length ≤ 100) → (∀ n, d = .num n → -1000000000 ≤ n ∧ n ≤ 1000000000) → Q v H'

theorem ok_law_scalar_near {f : Addr} {fd : FuncData} (F : Fun K "_law_scalar_near" "_law_scalar_near" s_law_scalar_near f fd) (T : Top K w mg) {a_law_draw : Addr} {d_law_draw : FuncData} (C_law_draw : Cal P w K mg base "_law_draw" 1 ["tape", "many"] sp_law_draw a_law_draw d_law_draw) {a_law_pick : Addr} {d_law_pick : FuncData} (C_law_pick : Cal P w K mg base "_law_pick" 2 ["tape", "row"] sp_law_pick a_law_pick d_law_pick) {a_law_any_sign : Addr} {d_law_any_sign : FuncData} (C_law_any_sign : Cal P w K mg base "_law_any_sign" 3 ["tape"] sp_law_any_sign a_law_any_sign d_law_any_sign) {a_law_scalar : Addr} {d_law_scalar : FuncData} (C_law_scalar : Cal P w K mg base "_law_scalar" 4 ["tape"] sp_law_scalar a_law_scalar d_law_scalar) : FnOk P w K mg base CX0 5 f fd ["tape", "scalar"] (sp_law_scalar_near K) := by
  have sc := sc_law_scalar_near
  refine F.ok sc (fun vs H Q E h => ?_) (fun cdv A outer s H vs Q E hr h => ?_)
  · obtain ⟨t, x, c, rfl, _⟩ := h
    rfl
  obtain ⟨t, x, c, rfl, hT, hx, hl, hb, q⟩ := h
  refine ⟨_, (pss_cons (ps_set (i := 2) sc.nd rfl (Or.inl rfl) (pe_call C_law_draw.ok (hr.mono (by omega)) (by rfl) C_law_draw.m C_law_draw.kp C_law_draw.b .nil pass0 (pa_cons (pv 0) (pa_cons pe_int pa_nil))))
    (C8.pss_cut (ps_if (PW.pt (pw_and (pt_cmpR op_eq (pe_ix (kx_tup (K := K) rfl) (pv 1) pe_int (fun _ _ => rfl)) pe_str (nomark _)) (pw_and1 (pt_cmpR op_eq (pv 2) pe_int (nomark _)))))
      (pss_one (ps_ret (pe_tup (pa_cons pe_str (pa_cons (pe_un un_neg (pe_ix (kx_tup (K := K) rfl) (pv 1) pe_int (fun _ _ => rfl))) pa_nil)))))
      pss_nil)
    (C8.pss_cut (ps_if (PW.pt (pw_and (pt_cmpR op_eq (pe_ix (kx_tup (K := K) rfl) (pv 1) pe_int (fun _ _ => rfl)) pe_str (nomark _)) (pw_and1 (pt_cmpR op_eq (pv 2) pe_int (nomark _)))))
      (pss_one (ps_ret (pe_tup (pa_cons pe_str (pa_cons (pe_callB (call_max2 rfl) (by rfl) T.z_max (by decide +kernel) (pa_cons (pe_un un_neg pe_int) (pa_cons (pe_callB (call_min2 rfl) (by rfl) T.z_min (by decide +kernel) (pa_cons pe_int (pa_cons (pe_op op_add (pe_ix (kx_tup (K := K) rfl) (pv 1) pe_int (fun _ _ => rfl)) (pe_call C_law_pick.ok (hr.mono (by omega)) (by rfl) C_law_pick.m C_law_pick.kp C_law_pick.b .nil pass0 (pa_cons (pv 0) (pa_cons (pe_lst (pa_cons (pe_un un_neg pe_int) (pa_cons pe_int pa_nil))) pa_nil)))) pa_nil))) pa_nil))) pa_nil)))))
      pss_nil)
    (C8.pss_cut (ps_if (PW.pt (pw_and (pt_cmpR op_eq (pe_ix (kx_tup (K := K) rfl) (pv 1) pe_int (fun _ _ => rfl)) pe_str (nomark _)) (pw_and1 (pt_cmpR op_eq (pv 2) pe_int (nomark _)))))
      (pss_one (ps_ret (pe_tup (pa_cons pe_str (pa_cons (pe_callTy call_str_int (by rfl) T.z_str (by decide +kernel) (pa_cons (pe_ix (kx_tup (K := K) rfl) (pv 1) pe_int (fun _ _ => rfl)) pa_nil)) pa_nil)))))
      pss_nil)
    (C8.pss_cut (ps_if (PW.pt (pw_and (pt_cmpR op_eq (pe_ix (kx_tup (K := K) rfl) (pv 1) pe_int (fun _ _ => rfl)) pe_str (nomark _)) (pw_and1 (pt_cmpR op_lt (pv 2) pe_int (nomark _)))))
      (pss_cons (ps_set (i := 3) sc.nd rfl (Or.inl rfl) (pe_call C_law_draw.ok (hr.mono (by omega)) (by rfl) C_law_draw.m C_law_draw.kp C_law_draw.b .nil pass0 (pa_cons (pv 0) (pa_cons (pe_op op_add (pe_callB call_len_str (by rfl) T.z_len (by decide +kernel) (pa_cons (pe_ix (kx_tup (K := K) rfl) (pv 1) pe_int (fun _ _ => rfl)) pa_nil)) pe_int) pa_nil))))
      (pss_one (ps_ret (pe_tup (pa_cons pe_str (pa_cons (pe_slice sl_str (pe_op op_add_str (pe_op op_add_str (pe_slice sl_str (pe_ix (kx_tup (K := K) rfl) (pv 1) pe_int (fun _ _ => rfl)) po_none (po_some (pv 3))) (pe_call C_law_any_sign.ok (hr.mono (by omega)) (by rfl) C_law_any_sign.m C_law_any_sign.kp C_law_any_sign.b .nil pass0 (pa_cons (pv 0) pa_nil))) (pe_slice sl_str (pe_ix (kx_tup (K := K) rfl) (pv 1) pe_int (fun _ _ => rfl)) (po_some (pe_op op_add (pv 3) (pv 2))) po_none)) po_none (po_some pe_int)) pa_nil))))))
      pss_nil)
    (C8.pss_cut (ps_if (PW.pt (pw_and (pt_cmpR op_eq (pe_ix (kx_tup (K := K) rfl) (pv 1) pe_int (fun _ _ => rfl)) pe_str (nomark _)) (pw_and1 (pt_cmpR op_eq (pv 2) pe_int (nomark _)))))
      (pss_one (ps_ret (pe_tup (pa_cons pe_str (pa_cons (pe_slice sl_str (pe_ix (kx_tup (K := K) rfl) (pv 1) pe_int (fun _ _ => rfl)) po_none (po_some (pe_un un_neg pe_int))) pa_nil)))))
      pss_nil)
    (pss_cons (ps_if (pt_cmpR op_eq (pv 2) pe_int (nomark _))
      (pss_one (ps_ret (pe_call C_law_scalar.ok (hr.mono (by omega)) (by rfl) C_law_scalar.m C_law_scalar.kp C_law_scalar.b .nil pass0 (pa_cons (pv 0) pa_nil))))
      pss_nil)
    (pss_one (ps_ret (pe_call C_law_pick.ok (hr.mono (by omega)) (by rfl) C_law_pick.m C_law_pick.kp C_law_pick.b .nil pass0 (pa_cons (pv 0) (pa_cons (pe_lst (pa_cons (pe_tup (pa_cons pe_str pa_nil)) (pa_cons (pe_tup (pa_cons pe_str pa_nil)) (pa_cons (pe_tup (pa_cons pe_str pa_nil)) (pa_cons (pe_tup (pa_cons pe_str (pa_cons (pe_ix (kx_tup (K := K) rfl) (pv 1) pe_int (fun _ _ => rfl)) pa_nil))) (pa_cons (pe_tup (pa_cons pe_str (pa_cons pe_int pa_nil))) (pa_cons (pe_tup (pa_cons pe_str (pa_cons pe_str pa_nil))) pa_nil))))))) pa_nil)))))))))))), ?_⟩

  obtain ⟨a, xs, rfl, hS, h0, hn, ht⟩ := sc_tup hx
  have num : ∀ (n : Int) (H' : Hp) (p : Addr), Go t H H' → H' p = none → -1000000000 ≤ n → n ≤ 1000000000 → Q (.ref p) (upd H' p (.tup [.str (Str.ofString "number"), .int n])) := fun n H' p g hp b1 b2 =>
    q _ (.num n) _ (g.new hp) (.tup (SqT.of upd_same) (.cons (.str _) (.cons (.int _) .nil))) (fun s e => by cases e) (fun m e => by cases e; exact ⟨b1, b2⟩)
  have txt : ∀ (s : Str) (H' : Hp) (p : Addr), Go t H H' → H' p = none → s.length ≤ 100 → Q (.ref p) (upd H' p (.tup [.str (Str.ofString "text"), .str s])) := fun s H' p g hp b1 =>
    q _ (.text s) _ (g.new hp) (.tup (SqT.of upd_same) (.cons (.str _) (.cons (.str _) .nil))) (fun s e => by cases e; exact b1) (fun m e => by cases e)
  refine ⟨_, rfl, t, 4, rfl, hT, by decide, by decide, fun ch H1 c0 c1 g1 => ?_⟩
  have hS1 := seqT_go hT g1.sm hS
  have isNum : scW c = Str.ofString "number" → ∃ n, c = .num n := fun e => by
    cases c with
    | num n => exact ⟨n, rfl⟩
    | text s => exact absurd e (by show Str.ofString "text" ≠ Str.ofString "number"; decide +kernel)
    | null => exact absurd e (by decide +kernel)
    | fals => exact absurd e (by decide +kernel)
    | tru => exact absurd e (by decide +kernel)
    | recd => exact absurd e (by decide +kernel)
  have isTxt : scW c = Str.ofString "text" → ∃ s, c = .text s := fun e => by
    cases c with
    | text s => exact ⟨s, rfl⟩
    | num n => exact absurd e (by show Str.ofString "number" ≠ Str.ofString "text"; decide +kernel)
    | null => exact absurd e (by decide +kernel)
    | fals => exact absurd e (by decide +kernel)
    | tru => exact absurd e (by decide +kernel)
    | recd => exact absurd e (by decide +kernel)
  have w0 : (scW c).length ≤ 100 := by
    cases c with
    | null => decide +kernel
    | fals => decide +kernel
    | tru => decide +kernel
    | num n => show (Str.ofString "number").length ≤ 100; decide +kernel
    | text n => show (Str.ofString "text").length ≤ 100; decide +kernel
    | recd => decide +kernel
  have str_of : ∀ {z : Str}, decide (V.str (scW c) = V.str z) = true → scW c = z := fun h => V.str.inj (of_decide_eq_true h)
  -- one way on: nothing has changed
  refine ⟨fun σ H' => H' = H1 ∧ σ = [some (.ref t), some (.ref a), some (.int ch), none], ?_, ?_⟩
  · refine ⟨_, rfl, a, _, 0, _, rfl, rfl, hS1, atI_nat h0, rfl, _, rfl, ite2 (fun e => ?_) (fun _ => iteF ⟨rfl, rfl⟩)⟩
    obtain ⟨n, rfl⟩ := isNum (str_of e)
    have hb1 := hb n rfl
    refine ⟨_, rfl, rfl, _, rfl, ite2 (fun _ => ?_) (fun _ => ⟨rfl, rfl⟩)⟩
    exact ⟨_, rfl, a, _, 1, _, rfl, rfl, hS1, atI_nat (hn n rfl), _, rfl, (by show 2 ≤ sizeLine; decide), fun p hp => num (-n) _ p g1 hp (by omega) (by omega)⟩
  rintro σ H2 ⟨rfl, rfl⟩
  refine ⟨fun σ H' => H' = H2 ∧ σ = [some (.ref t), some (.ref a), some (.int ch), none], ?_, ?_⟩
  · refine ⟨_, rfl, a, _, 0, _, rfl, rfl, hS1, atI_nat h0, rfl, _, rfl, ite2 (fun e => ?_) (fun _ => iteF ⟨rfl, rfl⟩)⟩
    obtain ⟨n, rfl⟩ := isNum (str_of e)
    have hb1 := hb n rfl
    refine ⟨_, rfl, rfl, _, rfl, ite2 (fun _ => ?_) (fun _ => ⟨rfl, rfl⟩)⟩
    refine ⟨_, rfl, _, rfl, a, _, 1, _, rfl, rfl, hS1, atI_nat (hn n rfl), _, rfl, _, rfl, (by show 2 ≤ sizeLine; decide), fun p1 hp1 => ?_⟩
    refine ⟨t, _, rfl, g1.tp.new hp1, .inr ⟨p1, _, rfl, g1.tp.ne hp1, .inl (SqL.of upd_same), (by show 1 ≤ 2; decide), (by show 2 ≤ 1000000; decide), fun v H3 hv g3 => ?_⟩⟩
    obtain ⟨m, rfl⟩ : ∃ m : Int, v = V.int m := by
      simp only [List.mem_cons, List.not_mem_nil, or_false] at hv
      rcases hv with rfl | rfl <;> exact ⟨_, rfl⟩
    refine ⟨_, _, rfl, rfl, _, _, rfl, _, _, rfl, (by show 2 ≤ sizeLine; decide), fun p hp => ?_⟩
    refine num _ _ p ((g1.new hp1).trans g3) hp ?_ ?_
    · show -1000000000 ≤ (if (if n + m < 1000000000 then n + m else 1000000000) > -1000000000 then (if n + m < 1000000000 then n + m else 1000000000) else -1000000000)
      split <;> omega
    · show (if (if n + m < 1000000000 then n + m else 1000000000) > -1000000000 then (if n + m < 1000000000 then n + m else 1000000000) else -1000000000) ≤ 1000000000
      split <;> (try split) <;> omega
  rintro σ H3 ⟨rfl, rfl⟩
  refine ⟨fun σ H' => H' = H3 ∧ σ = [some (.ref t), some (.ref a), some (.int ch), none], ?_, ?_⟩
  · refine ⟨_, rfl, a, _, 0, _, rfl, rfl, hS1, atI_nat h0, rfl, _, rfl, ite2 (fun e => ?_) (fun _ => iteF ⟨rfl, rfl⟩)⟩
    obtain ⟨n, rfl⟩ := isNum (str_of e)
    have hb1 := hb n rfl
    refine ⟨_, rfl, rfl, _, rfl, ite2 (fun _ => ?_) (fun _ => ⟨rfl, rfl⟩)⟩
    have lg : n.natAbs.log2 < 1920 := by
      have h1 : n.natAbs < 2 ^ 64 := by omega
      have h2 : n.natAbs.log2 < 64 ∨ n.natAbs = 0 := by
        by_cases z : n.natAbs = 0
        · exact .inr z
        · exact .inl ((Nat.log2_lt z).mpr h1)
      rcases h2 with h2 | h2
      · omega
      · rw [h2]; decide
    have ln := num_len (n := n) (by omega)
    exact ⟨_, rfl, a, _, 1, _, rfl, rfl, hS1, atI_nat (hn n rfl), _, rfl, lg, (by show 2 ≤ sizeLine; decide), fun p hp => txt _ _ p g1 hp (by omega)⟩
  rintro σ H4 ⟨rfl, rfl⟩
  refine ⟨fun σ H' => H' = H4 ∧ σ = [some (.ref t), some (.ref a), some (.int ch), none], ?_, ?_⟩
  · refine ⟨_, rfl, a, _, 0, _, rfl, rfl, hS1, atI_nat h0, rfl, _, rfl, ite2 (fun e => ?_) (fun _ => iteF ⟨rfl, rfl⟩)⟩
    obtain ⟨s, rfl⟩ := isTxt (str_of e)
    have ls := hl s rfl
    have h1 := ht s rfl
    refine ⟨_, rfl, _, _, rfl, rfl, _, rfl, ite2 (fun _ => ?_) (fun _ => ⟨rfl, rfl⟩)⟩
    refine ⟨_, rfl, _, rfl, a, _, 1, _, rfl, rfl, hS1, atI_nat h1, s, rfl, le_line (by omega), _, _, rfl, rfl, t, _, rfl, g1.tp, by omega, by omega, fun at' H5 a0 _ g5 => ?_⟩
    have hS5 := seqT_go g1.tp g5.sm hS1
    refine ⟨_, rfl, a, _, 1, _, rfl, rfl, hS5, atI_nat h1, _, rfl, _, rfl, s, rfl, le_line (by omega), _, rfl, t, rfl, g5.tp, fun cc H6 hc g6 => ?_⟩
    have hS6 := seqT_go g5.tp g6.sm hS5
    have k1 := cutS_length s none (some at')
    have k2 := cutS_length s (some (at' + ch)) none
    have k3 : (⟨#[cc]⟩ : Str).length = 1 := rfl
    refine ⟨_, _, rfl, rfl, le_line (by omega), _, rfl, a, _, 1, _, rfl, rfl, hS6, atI_nat h1, _, rfl, _, rfl, _, _, rfl, rfl, _, rfl, s, rfl, le_line (by omega), _, _, rfl, rfl, le_line (by rw [app_len]; omega), _, rfl, _, rfl, le_line (by rw [app_len, app_len]; omega), (by show 2 ≤ sizeLine; decide), fun p hp => ?_⟩
    have l60 := cut_pre_len (cutS s none (some at') ++ ⟨#[cc]⟩ ++ cutS s (some (at' + ch)) none) (a := 60) (by decide)
    refine txt _ _ p (g1.trans (g5.trans g6)) hp ?_
    rw [l60]
    have : (60 : Int).toNat = 60 := rfl
    omega
  rintro σ H5 ⟨rfl, rfl⟩
  refine ⟨fun σ H' => H' = H5 ∧ σ = [some (.ref t), some (.ref a), some (.int ch), none], ?_, ?_⟩
  · refine ⟨_, rfl, a, _, 0, _, rfl, rfl, hS1, atI_nat h0, rfl, _, rfl, ite2 (fun e => ?_) (fun _ => iteF ⟨rfl, rfl⟩)⟩
    obtain ⟨s, rfl⟩ := isTxt (str_of e)
    have ls := hl s rfl
    have h1 := ht s rfl
    refine ⟨_, rfl, rfl, _, rfl, ite2 (fun _ => ?_) (fun _ => ⟨rfl, rfl⟩)⟩
    have k1 := cutS_length s none (some (-1))
    exact ⟨_, rfl, a, _, 1, _, rfl, rfl, hS1, atI_nat h1, _, rfl, _, rfl, s, rfl, le_line (by omega), (by show 2 ≤ sizeLine; decide), fun p hp => txt _ _ p g1 hp (by omega)⟩
  rintro σ H6 ⟨rfl, rfl⟩
  refine ⟨_, rfl, rfl, _, rfl, ite2 (fun _ => ?_) (fun _ => ?_)⟩
  · refine ⟨_, rfl, t, rfl, g1.tp, fun v d H7 g7 dd ok nr => q v d H7 (g1.trans g7) dd (fun s e => ?_) (fun n e => ?_)⟩
    · subst e; have := ok.1; omega
    · subst e; exact ok
  · refine ⟨_, rfl, (by show 1 ≤ sizeLine; decide), fun p1 h1 => ⟨(by show 1 ≤ sizeLine; decide), fun p2 h2 => ⟨(by show 1 ≤ sizeLine; decide), fun p3 h3 => ?_⟩⟩⟩
    have d1 : DT K _ (.ref p1) (.tup (scD .null)) := .tup (SqT.of (upd_same (H := H6) (a := p1) (o := .tup [.str (Str.ofString "null")]))) (.cons (.str _) .nil)
    have s1 := same_new h1 (.tup [.str (Str.ofString "null")])
    generalize upd H6 p1 (.tup [.str (Str.ofString "null")]) = G1 at h2 h3 d1 s1 ⊢
    have d2 : DT K _ (.ref p2) (.tup (scD .fals)) := .tup (SqT.of (upd_same (H := G1) (a := p2) (o := .tup [.str (Str.ofString "false")]))) (.cons (.str _) .nil)
    have s2 := same_new h2 (.tup [.str (Str.ofString "false")])
    generalize upd G1 p2 (.tup [.str (Str.ofString "false")]) = G2 at h3 d2 s2 ⊢
    have d3 : DT K _ (.ref p3) (.tup (scD .tru)) := .tup (SqT.of (upd_same (H := G2) (a := p3) (o := .tup [.str (Str.ofString "true")]))) (.cons (.str _) .nil)
    have s3 := same_new h3 (.tup [.str (Str.ofString "true")])
    generalize upd G2 p3 (.tup [.str (Str.ofString "true")]) = G3 at d3 s3 ⊢
    refine ⟨_, rfl, a, _, 0, _, rfl, rfl, ((s1.trans s2).trans s3).seqT hS1, atI_nat h0, (by show 2 ≤ sizeLine; decide), fun p4 h4 => ⟨(by show 2 ≤ sizeLine; decide), fun p5 h5 => ⟨(by show 2 ≤ sizeLine; decide), fun p6 h6 => ⟨(by show 6 ≤ sizeLine; decide), fun p7 h7 => ?_⟩⟩⟩⟩
    have d4 : DT K _ (.ref p4) (.tup (scD (.text (scW c)))) := .tup (SqT.of (upd_same (H := G3) (a := p4) (o := .tup [.str (Str.ofString "text"), .str (scW c)]))) (.cons (.str _) (.cons (.str _) .nil))
    have s4 := same_new h4 (.tup [.str (Str.ofString "text"), .str (scW c)])
    generalize upd G3 p4 (.tup [.str (Str.ofString "text"), .str (scW c)]) = G4 at h5 h6 h7 d4 s4 ⊢
    have d5 : DT K _ (.ref p5) (.tup (scD (.num 0))) := .tup (SqT.of (upd_same (H := G4) (a := p5) (o := .tup [.str (Str.ofString "number"), .int 0]))) (.cons (.str _) (.cons (.int _) .nil))
    have s5 := same_new h5 (.tup [.str (Str.ofString "number"), .int 0])
    generalize upd G4 p5 (.tup [.str (Str.ofString "number"), .int 0]) = G5 at h6 h7 d5 s5 ⊢
    have d6 : DT K _ (.ref p6) (.tup (scD (.text (Str.ofString "")))) := .tup (SqT.of (upd_same (H := G5) (a := p6) (o := .tup [.str (Str.ofString "text"), .str (Str.ofString "")]))) (.cons (.str _) (.cons (.str _) .nil))
    have s6 := same_new h6 (.tup [.str (Str.ofString "text"), .str (Str.ofString "")])
    generalize upd G5 p6 (.tup [.str (Str.ofString "text"), .str (Str.ofString "")]) = G6 at h7 d6 s6 ⊢
    have g6 := Go.same g1.tp (s1.trans (s2.trans (s3.trans (s4.trans (s5.trans s6)))))
    refine ⟨t, _, rfl, g6.tp.new h7, .inr ⟨p7, _, rfl, g6.tp.ne h7, .inl (SqL.of upd_same), (by show 1 ≤ 6; decide), (by show 6 ≤ 1000000; decide), fun v G8 hv g8 => ?_⟩⟩
    have g68 := (Go.refl g6.tp).new (o := .lst [.ref p1, .ref p2, .ref p3, .ref p4, .ref p5, .ref p6]) h7
    have gg := g68.trans g8
    have gq := (g1.trans g6).trans gg
    have t6 := g6.tp
    simp only [List.mem_cons, List.not_mem_nil, or_false] at hv
    rcases hv with rfl | rfl | rfl | rfl | rfl | rfl
    · exact q _ .null _ gq ((d1.same (s2.trans (s3.trans (s4.trans (s5.trans s6))))).go t6 gg.sm) (fun s e => by cases e) (fun s e => by cases e)
    · exact q _ .fals _ gq ((d2.same (s3.trans (s4.trans (s5.trans s6)))).go t6 gg.sm) (fun s e => by cases e) (fun s e => by cases e)
    · exact q _ .tru _ gq ((d3.same (s4.trans (s5.trans s6))).go t6 gg.sm) (fun s e => by cases e) (fun s e => by cases e)
    · exact q _ (.text (scW c)) _ gq ((d4.same (s5.trans s6)).go t6 gg.sm) (fun s e => by cases e; exact w0) (fun s e => by cases e)
    · exact q _ (.num 0) _ gq ((d5.same s6).go t6 gg.sm) (fun s e => by cases e) (fun s e => by cases e; exact ⟨by decide, by decide⟩)
    · exact q _ (.text (Str.ofString "")) _ gq (d6.go t6 gg.sm) (fun s e => by cases e; exact Nat.zero_le _) (fun s e => by cases e)
/-! ### law -/
theorem sc_law : FnScope ["script", "tape", "scalars", "k", "first", "second", "due"] ["script"] (defScope s_law) := ⟨rfl, rfl, rfl, by decide +kernel, rfl, by decide +kernel, by decide +kernel⟩

def ScOk (K : PySem.W.Frag) (H : Hp) (p : V × Sc) : Prop := DT K H p.1 (.tup (scD p.2)) ∧ (∀ s, p.2 = .text s → s.length ≤ 100) ∧ ∀ n, p.2 = .num n → -1000000000 ≤ n ∧ n ≤ 1000000000
theorem ScOk.same {K : PySem.W.Frag} {H H' : Hp} {p : V × Sc} (h : ScOk K H p) (s : Same H H') : ScOk K H' p := ⟨h.1.same s, h.2⟩
theorem ScOk.go {K : PySem.W.Frag} {H H' : Hp} {t : Addr} {p : V × Sc} (h : ScOk K H p) (hT : Tape H t) (s : Sm t H H') : ScOk K H' p := ⟨h.1.go hT s, h.2⟩
theorem DT.lstchg {K : PySem.W.Frag} {H : Hp} {D : Addr} {acc acc' : List V} {v : V} {d : Dt} (nb : H D = some (.lst acc)) (h : DT K H v d) : DT K (upd H D (.lst acc')) v d := DT.mono (fun b xs h => by
  rcases h with (h | ⟨o, h⟩) | h
  · exact .inl (.inl (by rw [upd_ne (ne_of h nb (by intro z; cases z))]; exact h))
  · exact .inl (.inr ⟨o, by rw [upd_ne (ne_of h nb (by intro z; cases z))]; exact h⟩)
  · exact .inr h) d v h
def sp_law (K : PySem.W.Frag) : Sp := fun vs H Q _ => ∃ (a : Addr) (ns : List Int), vs = [.ref a] ∧ SqL K H a (ns.map V.int) ∧ ns.length ≤ 63 ∧ ∀ H', Q (.bl true) H'

theorem ok_law {f : Addr} {fd : FuncData} (F : Fun K "law" "law" s_law f fd) (T : Top K w mg) {a_compare_scalars : Addr} {d_compare_scalars : FuncData} (C_compare_scalars : Cal P w K mg base "compare_scalars" 3 ["first", "second"] sp_compare_scalars a_compare_scalars d_compare_scalars) {a_law_tape : Addr} {d_law_tape : FuncData} (C_law_tape : Cal P w K mg base "_law_tape" 1 ["script"] sp_law_tape a_law_tape d_law_tape) {a_law_pick : Addr} {d_law_pick : FuncData} (C_law_pick : Cal P w K mg base "_law_pick" 2 ["tape", "row"] sp_law_pick a_law_pick d_law_pick) {a_law_same : Addr} {d_law_same : FuncData} (C_law_same : Cal P w K mg base "_law_same" 40 ["actual", "expected"] sp_law_same a_law_same d_law_same) {a_law_scalar : Addr} {d_law_scalar : FuncData} (C_law_scalar : Cal P w K mg base "_law_scalar" 4 ["tape"] sp_law_scalar a_law_scalar d_law_scalar) {a_law_worth : Addr} {d_law_worth : FuncData} (C_law_worth : Cal P w K mg base "_law_worth" 1 ["content"] sp_law_worth a_law_worth d_law_worth) {a_law_sign : Addr} {d_law_sign : FuncData} (C_law_sign : Cal P w K mg base "_law_sign" 1 ["first", "second"] sp_law_sign a_law_sign d_law_sign) {a_law_scalar_near : Addr} {d_law_scalar_near : FuncData} (C_law_scalar_near : Cal P w K mg base "_law_scalar_near" 5 ["tape", "scalar"] sp_law_scalar_near a_law_scalar_near d_law_scalar_near) : FnOk P w K mg base CX0 41 f fd ["script"] (sp_law K) := by
  have sc := sc_law
  refine F.ok sc (fun vs H Q E h => ?_) (fun cdv A outer s H vs Q E hr h => ?_)
  · obtain ⟨a, ns, rfl, _⟩ := h
    rfl
  obtain ⟨a, ns, rfl, hS, hn, q⟩ := h
  refine ⟨_, (pss_cons (ps_set (i := 1) sc.nd rfl (Or.inl rfl) (pe_call C_law_tape.ok (hr.mono (by omega)) (by rfl) C_law_tape.m C_law_tape.kp C_law_tape.b .nil pass0 (pa_cons (pv 0) pa_nil)))
    (pss_cons (ps_set (i := 2) sc.nd rfl (Or.inl rfl) (pe_lst (pa_cons (pe_call C_law_scalar.ok (hr.mono (by omega)) (by rfl) C_law_scalar.m C_law_scalar.kp C_law_scalar.b .nil pass0 (pa_cons (pv 1) pa_nil)) (pa_cons (pe_call C_law_scalar.ok (hr.mono (by omega)) (by rfl) C_law_scalar.m C_law_scalar.kp C_law_scalar.b .nil pass0 (pa_cons (pv 1) pa_nil)) pa_nil))))
    (pss_cons (ps_for PassesOwn.never rfl (pi_range1 (by rfl) T.z_range (pa_cons pe_int pa_nil)) (pg_name (i := 3) sc.nd rfl (Or.inl rfl))
      (pss_one (ps_expr (pe_bm PySem.F.plainAttrs_list PySem.F.slot_list_append PySem.F.type_list_append mt_append (pv 2) (pa_cons (pe_call C_law_scalar_near.ok (hr.mono (by omega)) (by rfl) C_law_scalar_near.m C_law_scalar_near.kp C_law_scalar_near.b .nil pass0 (pa_cons (pv 1) (pa_cons (pe_call C_law_pick.ok (hr.mono (by omega)) (by rfl) C_law_pick.m C_law_pick.kp C_law_pick.b .nil pass0 (pa_cons (pv 1) (pa_cons (pv 2) pa_nil))) pa_nil))) pa_nil)))))
    (pss_cons (ps_for PassesOwn.never rfl (kpi_list (K := K) rfl (pv 2)) (pg_name (i := 4) sc.nd rfl (Or.inl rfl))
      (pss_one (ps_for PassesOwn.never rfl (kpi_list (K := K) rfl (pv 2)) (pg_name (i := 5) sc.nd rfl (Or.inl rfl))
        (pss_cons (ps_set (i := 6) sc.nd rfl (Or.inl rfl) (pe_call C_law_sign.ok (hr.mono (by omega)) (by rfl) C_law_sign.m C_law_sign.kp C_law_sign.b .nil pass0 (pa_cons (pe_call C_law_worth.ok (hr.mono (by omega)) (by rfl) C_law_worth.m C_law_worth.kp C_law_worth.b .nil pass0 (pa_cons (pv 4) pa_nil)) (pa_cons (pe_call C_law_worth.ok (hr.mono (by omega)) (by rfl) C_law_worth.m C_law_worth.kp C_law_worth.b .nil pass0 (pa_cons (pv 5) pa_nil)) pa_nil))))
        (pss_one (ps_if (pt_not (pt_val (pe_call C_law_same.ok (hr.mono (by omega)) (by rfl) C_law_same.m C_law_same.kp C_law_same.b .nil pass0 (pa_cons (pe_call C_compare_scalars.ok (hr.mono (by omega)) (by rfl) C_compare_scalars.m C_compare_scalars.kp C_compare_scalars.b .nil pass0 (pa_cons (pv 4) (pa_cons (pv 5) pa_nil))) (pa_cons (pv 6) pa_nil)))))
          (pss_one (ps_ret pe_bl))
          pss_nil))))))
    (pss_one (ps_ret pe_bl)))))), ?_⟩

  refine ⟨_, rfl, a, ns, rfl, hS, hn, fun t H1 hT ht s1 => ?_⟩
  refine ⟨_, rfl, t, rfl, hT, fun v1 c1 H2 g2 d1 o1 n1 => ⟨_, rfl, t, rfl, g2.tp, fun v2 c2 H3 g3 d2 o2 n2 => ⟨(by show 2 ≤ sizeLine; decide), fun W hW => ?_⟩⟩⟩
  have ok : ∀ {c : Sc}, scOk c → (∀ s, c = .text s → s.length ≤ 100) ∧ ∀ n, c = .num n → -1000000000 ≤ n ∧ n ≤ 1000000000 := fun o => ⟨fun s e => by subst e; have := o.1; omega, fun n e => by subst e; exact o⟩
  have nW : W ≠ t := g3.tp.ne hW
  refine ⟨4, rfl, by decide, by decide, ?_⟩
  refine for_it (walk_range (lo := 0) (n := (4 : Int).toNat)) (fun i σ H' => Go t H3 H' ∧ ∃ (ps : List (V × Sc)), H' W = some (.lst (ps.map (·.1))) ∧ ps.length = 2 + i ∧ (∀ x ∈ ps, ScOk K H' x) ∧ ∃ v4 v5 v6 v7, σ = [some (.ref a), some (.ref t), some (.ref W), v4, v5, v6, v7])
    ⟨(Go.refl g3.tp).new hW, [(v1, c1), (v2, c2)], upd_same, rfl, (fun x hx => ?_), _, _, _, _, rfl⟩ (fun _ _ _ _ _ => trivial) ?_ ?_
  · rcases List.mem_cons.mp hx with rfl | hx
    · exact ScOk.same ⟨d1.go g2.tp g3.sm, ok o1⟩ (same_new hW _)
    · rw [List.mem_singleton.mp hx]
      exact ScOk.same ⟨d2, ok o2⟩ (same_new hW _)
  · rintro i x σ H6 H7 hi ⟨g6, ps, eW, lp, hps, v4, v5, v6, v7, rfl⟩ ⟨rfl, rfl⟩
    refine ⟨_, rfl, .inl ⟨rfl, _, SqL.of eW⟩, _, rfl, _, rfl, _, rfl, t, _, rfl, g6.tp, .inr ⟨W, _, rfl, nW, .inl (SqL.of eW), by rw [List.length_map]; omega, by rw [List.length_map]; have : (4 : Int).toNat = 4 := rfl; omega, fun v H8 hv g8 => ?_⟩⟩
    obtain ⟨⟨v, c⟩, hm, rfl⟩ := List.mem_map.mp hv
    have hc := (hps _ hm).go g6.tp g8.sm
    refine ⟨t, v, c, rfl, g8.tp, hc.1, hc.2.1, hc.2.2, fun u d H9 g9 du lu nu => ?_⟩
    have g89 := g8.trans g9
    have eW9 := g89.sm _ _ nW eW
    refine ⟨W, _, _, rfl, rfl, eW9, lt_line (by rw [List.length_map]; have : (4 : Int).toNat = 4 := rfl; omega), ?_⟩
    refine ⟨Go.late g3.tp (g6.trans g89) hW, ps ++ [(u, d)], by rw [upd_same, List.map_append]; rfl, by rw [List.length_append, lp]; rfl, fun x hx => ?_, _, _, _, _, rfl⟩
    have hx' : ScOk K H9 x := by
      rcases List.mem_append.mp hx with h | h
      · exact (hps x h).go g6.tp g89.sm
      · rw [List.mem_singleton.mp h]; exact ⟨du, lu, nu⟩
    exact ⟨hx'.1.lstchg eW9, hx'.2⟩
  · rintro σ H6 ⟨g6, ps, eW, lp, hps, v4, v5, v6, v7, rfl⟩
    have pick : ∀ {i : Nat} {x : V}, (ps.map (·.1))[i]? = some x → ∃ c, (x, c) ∈ ps := fun h => by
      obtain ⟨⟨v, c⟩, h1, rfl⟩ := List.mem_map.mp (List.mem_of_getElem? h)
      exact ⟨c, h1⟩
    refine ⟨_, rfl, W, rfl, ⟨_, SqL.of eW⟩, ?_⟩
    refine for_it (walk_list (K := K) (a := W) (xs := ps.map (·.1))) (fun i σ H' => Same H6 H' ∧ ∃ v4 v5 v6 v7, σ = [some (.ref a), some (.ref t), some (.ref W), v4, v5, v6, v7]) ⟨Same.refl _, _, _, _, _, rfl⟩ (fun _ _ _ _ h => SqL.of (h.1 _ _ eW)) ?_ ?_
    · rintro i x σ H7 H8 hi ⟨s7, v4, v5, v6, v7, rfl⟩ ⟨rfl, hx⟩
      obtain ⟨c, hm⟩ := pick hx
      have hc := (hps _ hm).same s7
      have l100 : ∀ {x : V} {c : Sc} {H' : Hp}, ScOk K H' (x, c) → ∀ s, c = .text s → s.length ≤ 100000 := fun h s e => by have := h.2.1 s e; omega
      have eW8 := s7 _ _ eW
      refine ⟨_, rfl, W, rfl, ⟨_, SqL.of eW8⟩, ?_⟩
      refine for_it (walk_list (K := K) (a := W) (xs := ps.map (·.1))) (fun i σ H' => Same H8 H' ∧ ∃ v6 v7, σ = [some (.ref a), some (.ref t), some (.ref W), v4, some x, v6, v7]) ⟨Same.refl _, _, _, rfl⟩ (fun _ _ _ _ h => SqL.of (h.1 _ _ eW8)) ?_ ?_
      · rintro j y σ H9 H10 hj ⟨s9, v6, v7, rfl⟩ ⟨rfl, hy⟩
        obtain ⟨d, hm2⟩ := pick hy
        have hd := ((hps _ hm2).same s7).same s9
        have hc := hc.same s9
        refine ⟨_, rfl, x, c, rfl, hc.1, l100 hc, fun u1 H11 s11 e1 => ⟨_, rfl, y, d, rfl, (hd.same s11).1, l100 hd, fun u2 H12 s12 e2 => ?_⟩⟩
        refine ⟨u1, u2, c, d, rfl, e1.same s12, e2, ?_⟩
        have s12 := s11.trans s12
        refine ⟨_, rfl, _, rfl, x, y, c, d, rfl, (hc.same s12).1, (hd.same s12).1, l100 hc, l100 hd, fun H13 s13 => ?_⟩
        exact ⟨_, rfl, _, _, .int _, rfl, .int _, .int _, (by show 1 ≤ 40; decide), rfl, fun H14 s14 => ⟨_, rfl, iteF ⟨s9.trans (s12.trans (s13.trans s14)), _, _, rfl⟩⟩⟩
      · rintro σ H9 ⟨s9, v6, v7, rfl⟩
        exact ⟨s7.trans s9, _, _, _, _, rfl⟩
    · rintro σ H7 ⟨s7, v4, v5, v6, v7, rfl⟩
      exact q _
end
theorem all_mk {l : PySem.W.OpenLaw} {w : World} {K : PySem.W.Frag} {h : Heap} {mg : Str → Option Value} {fa : Addr} (X : K.In h) (G : h.Ns mainGlobals mg) (hfa : mg "law" = some (.ref fa))
    {f0 : Addr} {od0 an0 : Option Addr} {sl0 : Array (Option Value)} {oc0 kV0 dc0 pm0 cd0 ct0 : Value}
    {f1 : Addr} {od1 an1 : Option Addr} {sl1 : Array (Option Value)} {oc1 kV1 dc1 pm1 cd1 ct1 : Value}
    {f2 : Addr} {od2 an2 : Option Addr} {sl2 : Array (Option Value)} {oc2 kV2 dc2 pm2 cd2 ct2 : Value}
    {f3 : Addr} {od3 an3 : Option Addr} {sl3 : Array (Option Value)} {oc3 kV3 dc3 pm3 cd3 ct3 : Value}
    {f4 : Addr} {od4 an4 : Option Addr} {sl4 : Array (Option Value)} {oc4 kV4 dc4 pm4 cd4 ct4 : Value}
    {f5 : Addr} {od5 an5 : Option Addr} {sl5 : Array (Option Value)} {oc5 kV5 dc5 pm5 cd5 ct5 : Value}
    {f6 : Addr} {od6 an6 : Option Addr} {sl6 : Array (Option Value)} {oc6 kV6 dc6 pm6 cd6 ct6 : Value}
    {f7 : Addr} {od7 an7 : Option Addr} {sl7 : Array (Option Value)} {oc7 kV7 dc7 pm7 cd7 ct7 : Value}
    {f8 : Addr} {od8 an8 : Option Addr} {sl8 : Array (Option Value)} {oc8 kV8 dc8 pm8 cd8 ct8 : Value}
    {f9 : Addr} {od9 an9 : Option Addr} {sl9 : Array (Option Value)} {oc9 kV9 dc9 pm9 cd9 ct9 : Value}
    {f10 : Addr} {od10 an10 : Option Addr} {sl10 : Array (Option Value)} {oc10 kV10 dc10 pm10 cd10 ct10 : Value}
    {f11 : Addr} {od11 an11 : Option Addr} {sl11 : Array (Option Value)} {oc11 kV11 dc11 pm11 cd11 ct11 : Value}
    {f12 : Addr} {od12 an12 : Option Addr} {sl12 : Array (Option Value)} {oc12 kV12 dc12 pm12 cd12 ct12 : Value}
    {f13 : Addr} {od13 an13 : Option Addr} {sl13 : Array (Option Value)} {oc13 kV13 dc13 pm13 cd13 ct13 : Value}
    {f14 : Addr} {od14 an14 : Option Addr} {sl14 : Array (Option Value)} {oc14 kV14 dc14 pm14 cd14 ct14 : Value}
    {ad_KIND_RANKS : Addr} {es_KIND_RANKS : Array DictEntry} {n_KIND_RANKS : Nat} {t_KIND_RANKS_0 : Tok} {t_KIND_RANKS_1 : Tok} {t_KIND_RANKS_2 : Tok} {t_KIND_RANKS_3 : Tok} {t_KIND_RANKS_4 : Tok} {t_KIND_RANKS_5 : Tok}
    (a0 : PySem.W.nsIn K mainGlobals "text_rank" = some (some (.ref f0))) (l0 : K.lookup f0 = some ⟨oc0, od0, .func (PySem.W.fnOf "text_rank" "text_rank" (defArgs s_text_rank) (defBody s_text_rank) (defScope s_text_rank) .none kV0 dc0 pm0 an0 cd0 ct0), sl0⟩) (c0 : PySem.W.codeIn K cd0 "text_rank" = true) (k0 : PySem.W.keepIn K (.ref f0) = true)
    (a1 : PySem.W.nsIn K mainGlobals "compare_ranks" = some (some (.ref f1))) (l1 : K.lookup f1 = some ⟨oc1, od1, .func (PySem.W.fnOf "compare_ranks" "compare_ranks" (defArgs s_compare_ranks) (defBody s_compare_ranks) (defScope s_compare_ranks) .none kV1 dc1 pm1 an1 cd1 ct1), sl1⟩) (c1 : PySem.W.codeIn K cd1 "compare_ranks" = true) (k1 : PySem.W.keepIn K (.ref f1) = true)
    (a2 : PySem.W.nsIn K mainGlobals "content_rank" = some (some (.ref f2))) (l2 : K.lookup f2 = some ⟨oc2, od2, .func (PySem.W.fnOf "content_rank" "content_rank" (defArgs s_content_rank) (defBody s_content_rank) (defScope s_content_rank) .none kV2 dc2 pm2 an2 cd2 ct2), sl2⟩) (c2 : PySem.W.codeIn K cd2 "content_rank" = true) (k2 : PySem.W.keepIn K (.ref f2) = true)
    (a3 : PySem.W.nsIn K mainGlobals "compare_scalars" = some (some (.ref f3))) (l3 : K.lookup f3 = some ⟨oc3, od3, .func (PySem.W.fnOf "compare_scalars" "compare_scalars" (defArgs s_compare_scalars) (defBody s_compare_scalars) (defScope s_compare_scalars) .none kV3 dc3 pm3 an3 cd3 ct3), sl3⟩) (c3 : PySem.W.codeIn K cd3 "compare_scalars" = true) (k3 : PySem.W.keepIn K (.ref f3) = true)
    (a4 : PySem.W.nsIn K mainGlobals "_law_tape" = some (some (.ref f4))) (l4 : K.lookup f4 = some ⟨oc4, od4, .func (PySem.W.fnOf "_law_tape" "_law_tape" (defArgs s_law_tape) (defBody s_law_tape) (defScope s_law_tape) .none kV4 dc4 pm4 an4 cd4 ct4), sl4⟩) (c4 : PySem.W.codeIn K cd4 "_law_tape" = true) (k4 : PySem.W.keepIn K (.ref f4) = true)
    (a5 : PySem.W.nsIn K mainGlobals "_law_draw" = some (some (.ref f5))) (l5 : K.lookup f5 = some ⟨oc5, od5, .func (PySem.W.fnOf "_law_draw" "_law_draw" (defArgs s_law_draw) (defBody s_law_draw) (defScope s_law_draw) .none kV5 dc5 pm5 an5 cd5 ct5), sl5⟩) (c5 : PySem.W.codeIn K cd5 "_law_draw" = true) (k5 : PySem.W.keepIn K (.ref f5) = true)
    (a6 : PySem.W.nsIn K mainGlobals "_law_pick" = some (some (.ref f6))) (l6 : K.lookup f6 = some ⟨oc6, od6, .func (PySem.W.fnOf "_law_pick" "_law_pick" (defArgs s_law_pick) (defBody s_law_pick) (defScope s_law_pick) .none kV6 dc6 pm6 an6 cd6 ct6), sl6⟩) (c6 : PySem.W.codeIn K cd6 "_law_pick" = true) (k6 : PySem.W.keepIn K (.ref f6) = true)
    (a7 : PySem.W.nsIn K mainGlobals "_law_same" = some (some (.ref f7))) (l7 : K.lookup f7 = some ⟨oc7, od7, .func (PySem.W.fnOf "_law_same" "_law_same" (defArgs s_law_same) (defBody s_law_same) (defScope s_law_same) .none kV7 dc7 pm7 an7 cd7 ct7), sl7⟩) (c7 : PySem.W.codeIn K cd7 "_law_same" = true) (k7 : PySem.W.keepIn K (.ref f7) = true)
    (a8 : PySem.W.nsIn K mainGlobals "_law_any_sign" = some (some (.ref f8))) (l8 : K.lookup f8 = some ⟨oc8, od8, .func (PySem.W.fnOf "_law_any_sign" "_law_any_sign" (defArgs s_law_any_sign) (defBody s_law_any_sign) (defScope s_law_any_sign) .none kV8 dc8 pm8 an8 cd8 ct8), sl8⟩) (c8 : PySem.W.codeIn K cd8 "_law_any_sign" = true) (k8 : PySem.W.keepIn K (.ref f8) = true)
    (a9 : PySem.W.nsIn K mainGlobals "_law_tight_text" = some (some (.ref f9))) (l9 : K.lookup f9 = some ⟨oc9, od9, .func (PySem.W.fnOf "_law_tight_text" "_law_tight_text" (defArgs s_law_tight_text) (defBody s_law_tight_text) (defScope s_law_tight_text) .none kV9 dc9 pm9 an9 cd9 ct9), sl9⟩) (c9 : PySem.W.codeIn K cd9 "_law_tight_text" = true) (k9 : PySem.W.keepIn K (.ref f9) = true)
    (a10 : PySem.W.nsIn K mainGlobals "_law_scalar" = some (some (.ref f10))) (l10 : K.lookup f10 = some ⟨oc10, od10, .func (PySem.W.fnOf "_law_scalar" "_law_scalar" (defArgs s_law_scalar) (defBody s_law_scalar) (defScope s_law_scalar) .none kV10 dc10 pm10 an10 cd10 ct10), sl10⟩) (c10 : PySem.W.codeIn K cd10 "_law_scalar" = true) (k10 : PySem.W.keepIn K (.ref f10) = true)
    (a11 : PySem.W.nsIn K mainGlobals "_law_worth" = some (some (.ref f11))) (l11 : K.lookup f11 = some ⟨oc11, od11, .func (PySem.W.fnOf "_law_worth" "_law_worth" (defArgs s_law_worth) (defBody s_law_worth) (defScope s_law_worth) .none kV11 dc11 pm11 an11 cd11 ct11), sl11⟩) (c11 : PySem.W.codeIn K cd11 "_law_worth" = true) (k11 : PySem.W.keepIn K (.ref f11) = true)
    (a12 : PySem.W.nsIn K mainGlobals "_law_sign" = some (some (.ref f12))) (l12 : K.lookup f12 = some ⟨oc12, od12, .func (PySem.W.fnOf "_law_sign" "_law_sign" (defArgs s_law_sign) (defBody s_law_sign) (defScope s_law_sign) .none kV12 dc12 pm12 an12 cd12 ct12), sl12⟩) (c12 : PySem.W.codeIn K cd12 "_law_sign" = true) (k12 : PySem.W.keepIn K (.ref f12) = true)
    (a13 : PySem.W.nsIn K mainGlobals "_law_scalar_near" = some (some (.ref f13))) (l13 : K.lookup f13 = some ⟨oc13, od13, .func (PySem.W.fnOf "_law_scalar_near" "_law_scalar_near" (defArgs s_law_scalar_near) (defBody s_law_scalar_near) (defScope s_law_scalar_near) .none kV13 dc13 pm13 an13 cd13 ct13), sl13⟩) (c13 : PySem.W.codeIn K cd13 "_law_scalar_near" = true) (k13 : PySem.W.keepIn K (.ref f13) = true)
    (a14 : PySem.W.nsIn K mainGlobals "law" = some (some (.ref f14))) (l14 : K.lookup f14 = some ⟨oc14, od14, .func (PySem.W.fnOf "law" "law" (defArgs s_law) (defBody s_law) (defScope s_law) .none kV14 dc14 pm14 an14 cd14 ct14), sl14⟩) (c14 : PySem.W.codeIn K cd14 "law" = true) (k14 : PySem.W.keepIn K (.ref f14) = true)
    (z_abs : PySem.W.nsIn K mainGlobals "abs" = some none)
    (z_bool : PySem.W.nsIn K mainGlobals "bool" = some none)
    (z_int : PySem.W.nsIn K mainGlobals "int" = some none)
    (z_isinstance : PySem.W.nsIn K mainGlobals "isinstance" = some none)
    (z_len : PySem.W.nsIn K mainGlobals "len" = some none)
    (z_list : PySem.W.nsIn K mainGlobals "list" = some none)
    (z_max : PySem.W.nsIn K mainGlobals "max" = some none)
    (z_min : PySem.W.nsIn K mainGlobals "min" = some none)
    (z_range : PySem.W.nsIn K mainGlobals "range" = some none)
    (z_str : PySem.W.nsIn K mainGlobals "str" = some none)
    (z_tuple : PySem.W.nsIn K mainGlobals "tuple" = some none)
    (g_KIND_RANKS : PySem.W.nsIn K mainGlobals "KIND_RANKS" = some (some (.ref ad_KIND_RANKS))) (l_KIND_RANKS : K.lookup ad_KIND_RANKS = some ⟨.type "dict", none, .dict es_KIND_RANKS n_KIND_RANKS, #[]⟩) (q_KIND_RANKS : PySem.W.KeysLit w.params es_KIND_RANKS.toList) (e_KIND_RANKS_0 : PySem.W.nsIn K ad_KIND_RANKS (Str.ofString "null") = some (some (.int 0 t_KIND_RANKS_0))) (e_KIND_RANKS_1 : PySem.W.nsIn K ad_KIND_RANKS (Str.ofString "false") = some (some (.int 1 t_KIND_RANKS_1))) (e_KIND_RANKS_2 : PySem.W.nsIn K ad_KIND_RANKS (Str.ofString "true") = some (some (.int 2 t_KIND_RANKS_2))) (e_KIND_RANKS_3 : PySem.W.nsIn K ad_KIND_RANKS (Str.ofString "number") = some (some (.int 3 t_KIND_RANKS_3))) (e_KIND_RANKS_4 : PySem.W.nsIn K ad_KIND_RANKS (Str.ofString "text") = some (some (.int 4 t_KIND_RANKS_4))) (e_KIND_RANKS_5 : PySem.W.nsIn K ad_KIND_RANKS (Str.ofString "record") = some (some (.int 5 t_KIND_RANKS_5))) :
    ∃ fd : FuncData, (∀ (s : Shared) (v : Value), BindsTo s fd ⟨[v], []⟩ [("script", v)]) ∧ ∀ base : Heap, K.In base → base.Ns mainGlobals mg → FnOk l.prog w K mg base CX0 41 fa fd ["script"] (sp_law K) := by
  have e := hfa.symm.trans (PySem.W.mg_of X G a14)
  cases e
  have T : Top K w mg := ⟨PySem.W.mg_none_of X G z_abs, PySem.W.mg_none_of X G z_bool, PySem.W.mg_none_of X G z_int, PySem.W.mg_none_of X G z_isinstance, PySem.W.mg_none_of X G z_len, PySem.W.mg_none_of X G z_list, PySem.W.mg_none_of X G z_max, PySem.W.mg_none_of X G z_min, PySem.W.mg_none_of X G z_range, PySem.W.mg_none_of X G z_str, PySem.W.mg_none_of X G z_tuple, ⟨_, PySem.W.mg_of X G g_KIND_RANKS, ⟨_, _, _, l_KIND_RANKS, q_KIND_RANKS, e_KIND_RANKS_0, ⟨_, rfl⟩⟩, ⟨_, _, _, l_KIND_RANKS, q_KIND_RANKS, e_KIND_RANKS_1, ⟨_, rfl⟩⟩, ⟨_, _, _, l_KIND_RANKS, q_KIND_RANKS, e_KIND_RANKS_2, ⟨_, rfl⟩⟩, ⟨_, _, _, l_KIND_RANKS, q_KIND_RANKS, e_KIND_RANKS_3, ⟨_, rfl⟩⟩, ⟨_, _, _, l_KIND_RANKS, q_KIND_RANKS, e_KIND_RANKS_4, ⟨_, rfl⟩⟩, ⟨_, _, _, l_KIND_RANKS, q_KIND_RANKS, e_KIND_RANKS_5, ⟨_, rfl⟩⟩⟩⟩
  refine ⟨PySem.W.fnOf "law" "law" (defArgs s_law) (defBody s_law) (defScope s_law) .none kV14 dc14 pm14 an14 cd14 ct14, fun s v => .of_eq rfl, fun base _ _ => ?_⟩
  have F0 := fun_mk (st := s_text_rank) l0 c0 k0
  have C_text_rank : Cal l.prog w K mg base "text_rank" 1 ["text"] sp_text_rank _ _ := ⟨ok_text_rank F0 T , F0.binds (ps := ["text"]) fun _ _ _ _ _ _ us hl => match us, hl with | [_], _ => rfl, k0, PySem.W.mg_of X G a0⟩
  have F1 := fun_mk (st := s_compare_ranks) l1 c1 k1
  have C_compare_ranks : Cal l.prog w K mg base "compare_ranks" 1 ["first", "second"] sp_compare_ranks _ _ := ⟨ok_compare_ranks F1 T , F1.binds (ps := ["first", "second"]) fun _ _ _ _ _ _ us hl => match us, hl with | [_, _], _ => rfl, k1, PySem.W.mg_of X G a1⟩
  have F2 := fun_mk (st := s_content_rank) l2 c2 k2
  have C_content_rank : Cal l.prog w K mg base "content_rank" 2 ["content"] sp_content_rank _ _ := ⟨ok_content_rank F2 T C_text_rank, F2.binds (ps := ["content"]) fun _ _ _ _ _ _ us hl => match us, hl with | [_], _ => rfl, k2, PySem.W.mg_of X G a2⟩
  have F3 := fun_mk (st := s_compare_scalars) l3 c3 k3
  have C_compare_scalars : Cal l.prog w K mg base "compare_scalars" 3 ["first", "second"] sp_compare_scalars _ _ := ⟨ok_compare_scalars F3 T C_compare_ranks C_content_rank, F3.binds (ps := ["first", "second"]) fun _ _ _ _ _ _ us hl => match us, hl with | [_, _], _ => rfl, k3, PySem.W.mg_of X G a3⟩
  have F4 := fun_mk (st := s_law_tape) l4 c4 k4
  have C_law_tape : Cal l.prog w K mg base "_law_tape" 1 ["script"] sp_law_tape _ _ := ⟨ok_law_tape F4 T , F4.binds (ps := ["script"]) fun _ _ _ _ _ _ us hl => match us, hl with | [_], _ => rfl, k4, PySem.W.mg_of X G a4⟩
  have F5 := fun_mk (st := s_law_draw) l5 c5 k5
  have C_law_draw : Cal l.prog w K mg base "_law_draw" 1 ["tape", "many"] sp_law_draw _ _ := ⟨ok_law_draw F5 T , F5.binds (ps := ["tape", "many"]) fun _ _ _ _ _ _ us hl => match us, hl with | [_, _], _ => rfl, k5, PySem.W.mg_of X G a5⟩
  have F6 := fun_mk (st := s_law_pick) l6 c6 k6
  have C_law_pick : Cal l.prog w K mg base "_law_pick" 2 ["tape", "row"] sp_law_pick _ _ := ⟨ok_law_pick F6 T C_law_draw, F6.binds (ps := ["tape", "row"]) fun _ _ _ _ _ _ us hl => match us, hl with | [_, _], _ => rfl, k6, PySem.W.mg_of X G a6⟩
  have F7 := fun_mk (st := s_law_same) l7 c7 k7
  have C_law_same : Cal l.prog w K mg base "_law_same" 40 ["actual", "expected"] sp_law_same _ _ := ⟨ok_law_same F7 T (PySem.W.mg_of X G a7) , F7.binds (ps := ["actual", "expected"]) fun _ _ _ _ _ _ us hl => match us, hl with | [_, _], _ => rfl, k7, PySem.W.mg_of X G a7⟩
  have F8 := fun_mk (st := s_law_any_sign) l8 c8 k8
  have C_law_any_sign : Cal l.prog w K mg base "_law_any_sign" 3 ["tape"] sp_law_any_sign _ _ := ⟨ok_law_any_sign F8 T C_law_pick, F8.binds (ps := ["tape"]) fun _ _ _ _ _ _ us hl => match us, hl with | [_], _ => rfl, k8, PySem.W.mg_of X G a8⟩
  have F9 := fun_mk (st := s_law_tight_text) l9 c9 k9
  have C_law_tight_text : Cal l.prog w K mg base "_law_tight_text" 3 ["tape", "many"] sp_law_tight_text _ _ := ⟨ok_law_tight_text F9 T C_law_pick, F9.binds (ps := ["tape", "many"]) fun _ _ _ _ _ _ us hl => match us, hl with | [_, _], _ => rfl, k9, PySem.W.mg_of X G a9⟩
  have F10 := fun_mk (st := s_law_scalar) l10 c10 k10
  have C_law_scalar : Cal l.prog w K mg base "_law_scalar" 4 ["tape"] sp_law_scalar _ _ := ⟨ok_law_scalar F10 T C_law_draw C_law_pick C_law_tight_text, F10.binds (ps := ["tape"]) fun _ _ _ _ _ _ us hl => match us, hl with | [_], _ => rfl, k10, PySem.W.mg_of X G a10⟩
  have F11 := fun_mk (st := s_law_worth) l11 c11 k11
  have C_law_worth : Cal l.prog w K mg base "_law_worth" 1 ["content"] sp_law_worth _ _ := ⟨ok_law_worth F11 T , F11.binds (ps := ["content"]) fun _ _ _ _ _ _ us hl => match us, hl with | [_], _ => rfl, k11, PySem.W.mg_of X G a11⟩
  have F12 := fun_mk (st := s_law_sign) l12 c12 k12
  have C_law_sign : Cal l.prog w K mg base "_law_sign" 1 ["first", "second"] sp_law_sign _ _ := ⟨ok_law_sign F12 T , F12.binds (ps := ["first", "second"]) fun _ _ _ _ _ _ us hl => match us, hl with | [_, _], _ => rfl, k12, PySem.W.mg_of X G a12⟩
  have F13 := fun_mk (st := s_law_scalar_near) l13 c13 k13
  have C_law_scalar_near : Cal l.prog w K mg base "_law_scalar_near" 5 ["tape", "scalar"] sp_law_scalar_near _ _ := ⟨ok_law_scalar_near F13 T C_law_draw C_law_pick C_law_any_sign C_law_scalar, F13.binds (ps := ["tape", "scalar"]) fun _ _ _ _ _ _ us hl => match us, hl with | [_, _], _ => rfl, k13, PySem.W.mg_of X G a13⟩
  have F14 := fun_mk (st := s_law) l14 c14 k14
  exact ok_law F14 T C_compare_scalars C_law_tape C_law_pick C_law_same C_law_scalar C_law_worth C_law_sign C_law_scalar_near
theorem walk {l : PySem.W.OpenLaw} {q : Program} {loose : List Str} {XP : (Str → Option Value) → Heap → Prop} {YP : World → Heap → Prop} {d : DefRec} {K : Params → PySem.W.Frag} (hn : l.most = some 63) (hdf : d.params.defaults = [])
    (hY : ∀ (w : World) (h : Heap), YP w h → (K w.params).In h)
    (F : ∀ (w : World) (mg : Str → Option Value) (fa : Addr) (h : Heap), (K w.params).In h → h.Ns mainGlobals mg → mg d.name = some (.ref fa) →
      ∃ fd : FuncData, (∀ (s : Shared) (u : Value), BindsTo s fd ⟨[u], []⟩ [("script", u)]) ∧ ∀ base : Heap, (K w.params).In base → base.Ns mainGlobals mg → FnOk l.prog w (K w.params) mg base CX0 41 fa fd ["script"] (sp_law (K w.params))) :
    PySem.W.WalkO q loose XP YP l.row.toRowW d [] (fun f vs => PySem.call f vs) :=
  L2.walk_of (n := 63) (k := 41) (x := "script") (CX := fun _ => CX0) (sp := fun w => sp_law (K w.params)) hn (by decide) hdf ⟨rfl, by decide, by decide⟩ hY F (fun _ _ a ns hl _ hS => ⟨a, ns, rfl, hS, hl, fun _ => rfl⟩) fun _ _ _ _ _ z => z
end My
open PySem PySem.W PyProof.Rows in
set_option maxRecDepth 100000 in
set_option maxHeartbeats 0 in
theorem PySem.Challenge.cw_hookcheck_k08_order_of_scalars_holds : PySem.Challenge.rw_hookcheck_k08_order_of_scalars.Holds := by
  w_on; o_law; k_head; (case hw => w_witness2)
  k_fill
  refine My.walk (l := PySem.Challenge.rw_hookcheck_k08_order_of_scalars) rfl rfl (fun w h Y => PySem.W.kIn_of Y) ?F
  case F =>
    intro w mg fa h KX G hmg
    refine' My.all_mk KX G hmg ?a0 ?l0 ?c0 ?k0 ?a1 ?l1 ?c1 ?k1 ?a2 ?l2 ?c2 ?k2 ?a3 ?l3 ?c3 ?k3 ?a4 ?l4 ?c4 ?k4 ?a5 ?l5 ?c5 ?k5 ?a6 ?l6 ?c6 ?k6 ?a7 ?l7 ?c7 ?k7 ?a8 ?l8 ?c8 ?k8 ?a9 ?l9 ?c9 ?k9 ?a10 ?l10 ?c10 ?k10 ?a11 ?l11 ?c11 ?k11 ?a12 ?l12 ?c12 ?k12 ?a13 ?l13 ?c13 ?k13 ?a14 ?l14 ?c14 ?k14 ?z_abs ?z_bool ?z_int ?z_isinstance ?z_len ?z_list ?z_max ?z_min ?z_range ?z_str ?z_tuple ?g_KIND_RANKS ?l_KIND_RANKS ?q_KIND_RANKS ?e_KIND_RANKS_0 ?e_KIND_RANKS_1 ?e_KIND_RANKS_2 ?e_KIND_RANKS_3 ?e_KIND_RANKS_4 ?e_KIND_RANKS_5
    (case a0 => k_is)
    (case l0 => k_is)
    (case c0 => k_is)
    (case k0 => k_is)
    (case a1 => k_is)
    (case l1 => k_is)
    (case c1 => k_is)
    (case k1 => k_is)
    (case a2 => k_is)
    (case l2 => k_is)
    (case c2 => k_is)
    (case k2 => k_is)
    (case a3 => k_is)
    (case l3 => k_is)
    (case c3 => k_is)
    (case k3 => k_is)
    (case a4 => k_is)
    (case l4 => k_is)
    (case c4 => k_is)
    (case k4 => k_is)
    (case a5 => k_is)
    (case l5 => k_is)
    (case c5 => k_is)
    (case k5 => k_is)
    (case a6 => k_is)
    (case l6 => k_is)
    (case c6 => k_is)
    (case k6 => k_is)
    (case a7 => k_is)
    (case l7 => k_is)
    (case c7 => k_is)
    (case k7 => k_is)
    (case a8 => k_is)
    (case l8 => k_is)
    (case c8 => k_is)
    (case k8 => k_is)
    (case a9 => k_is)
    (case l9 => k_is)
    (case c9 => k_is)
    (case k9 => k_is)
    (case a10 => k_is)
    (case l10 => k_is)
    (case c10 => k_is)
    (case k10 => k_is)
    (case a11 => k_is)
    (case l11 => k_is)
    (case c11 => k_is)
    (case k11 => k_is)
    (case a12 => k_is)
    (case l12 => k_is)
    (case c12 => k_is)
    (case k12 => k_is)
    (case a13 => k_is)
    (case l13 => k_is)
    (case c13 => k_is)
    (case k13 => k_is)
    (case a14 => k_is)
    (case l14 => k_is)
    (case c14 => k_is)
    (case k14 => k_is)
    (case z_abs => k_is)
    (case z_bool => k_is)
    (case z_int => k_is)
    (case z_isinstance => k_is)
    (case z_len => k_is)
    (case z_list => k_is)
    (case z_max => k_is)
    (case z_min => k_is)
    (case z_range => k_is)
    (case z_str => k_is)
    (case z_tuple => k_is)
    (case g_KIND_RANKS => k_is)
    (case l_KIND_RANKS => k_is)
    (case q_KIND_RANKS => k_keys)
    (case e_KIND_RANKS_0 => k_is)
    (case e_KIND_RANKS_1 => k_is)
    (case e_KIND_RANKS_2 => k_is)
    (case e_KIND_RANKS_3 => k_is)
    (case e_KIND_RANKS_4 => k_is)
    (case e_KIND_RANKS_5 => k_is)
#print axioms PySem.Challenge.cw_hookcheck_k08_order_of_scalars_holds
