import PyProof.Rows.All
import Wide.All
import OpenK.AllK
import Wide.FinOn
import HandS.ForMost
import HandS.IsInst
import HandS.TupLe
import HandS.Walk
import HandS.Codes
import HandS.Wide
import HandS.TupAny
import PyProof.EqAt
import PyProof.EqKinds
import KE.DataCmp
import KE.SortData
import HandS.ReplaceLit
import PySem.Challenge.RW_hookcheck_k03_paths_are_read
set_option Elab.async false
set_option linter.all false
set_option maxRecDepth 100000
namespace My
open PySem L2

/-! ### a def that is called -/
structure Cal (P : Program) (w : World) (K : PySem.W.Frag) (mg : Str → Option Value) (base : Heap) (x : Str) (k : Nat) (ps : List Str) (sp : PySem.W.Frag → Sp) (f : Addr) (fd : FuncData) : Prop where
  ok : FnOk P w K mg base CX0 k f fd ps (sp K)
  b : Binds K fd ps []
  kp : PySem.W.keepIn K (.ref f) = true
  m : mg x = some (.ref f)

/-! ### heaps: all that was tracked but t is as it was -/
def Sm (t : Addr) (H H' : Hp) : Prop := ∀ b o, b ≠ t → H b = some o → H' b = some o
theorem Sm.refl (t : Addr) (H : Hp) : Sm t H H := fun _ _ _ h => h
theorem Sm.trans {t : Addr} {H H1 H2 : Hp} (a : Sm t H H1) (b : Sm t H1 H2) : Sm t H H2 := fun c o n h => b c o n (a c o n h)
theorem Sm.same {t : Addr} {H H1 : Hp} (a : Same H H1) : Sm t H H1 := fun c o _ h => a c o h
theorem Sm.new {t p : Addr} {H : Hp} {o : HO} (h : H p = none) : Sm t H (upd H p o) := fun c u _ e => by
  rw [upd_ne (ne_of_none e h)]; exact e
theorem Sm.put {t : Addr} {H : Hp} {o : HO} : Sm t H (upd H t o) := fun c u n e => by rw [upd_ne n]; exact e
/-- a change at an address that was not tracked before -/
theorem Sm.late {t p : Addr} {H H1 : Hp} {o : HO} (a : Sm t H H1) (h : H p = none) : Sm t H (upd H1 p o) := fun c u n e => by
  rw [upd_ne (ne_of_none e h)]; exact a c u n e
theorem same_new {H : Hp} {p : Addr} (h : H p = none) (o : HO) : Same H (upd H p o) := fun b u q => by rw [upd_ne (ne_of_none q h)]; exact q
theorem _root_.L2.Same.late {p : Addr} {H H1 : Hp} {o : HO} (a : Same H H1) (h : H p = none) : Same H (upd H1 p o) := fun c u e => by
  rw [upd_ne (ne_of_none e h)]; exact a c u e
theorem Sm.seqL {K : PySem.W.Frag} {t a : Addr} {H H' : Hp} {xs : List V} (e : Sm t H H') (n : a ≠ t) (h : SqL K H a xs) : SqL K H' a xs := by
  rcases h with (h | ⟨o, h⟩) | h
  · exact .inl (.inl (e _ _ n h))
  · exact .inl (.inr ⟨o, e _ _ n h⟩)
  · exact .inr h
theorem Sm.seqT {K : PySem.W.Frag} {t a : Addr} {H H' : Hp} {xs : List V} (e : Sm t H H') (n : a ≠ t) (h : SqT K H a xs) : SqT K H' a xs := by
  rcases h with (h | ⟨o, h⟩) | h
  · exact .inl (.inl (e _ _ n h))
  · exact .inl (.inr ⟨o, e _ _ n h⟩)
  · exact .inr h
theorem _root_.L2.Same.seqT {K : PySem.W.Frag} {a : Addr} {H H' : Hp} {xs : List V} (e : Same H H') (h : SqT K H a xs) : SqT K H' a xs := by
  rcases h with (h | ⟨o, h⟩) | h
  · exact .inl (.inl (e _ _ h))
  · exact .inl (.inr ⟨o, e _ _ h⟩)
  · exact .inr h

/-! ### the tape -/
structure Tape (H : Hp) (t : Addr) : Prop where
  ex : ∃ (l : Addr) (ns : List Int) (a b c : Int), H t = some (.lst [.ref l, .int a, .int b, .int c]) ∧ H l = some (.lst (ns.map V.int)) ∧ l ≠ t ∧ 0 ≤ a ∧ ns.length ≤ 63
theorem Tape.same {H H' : Hp} {t : Addr} (h : Tape H t) (e : Same H H') : Tape H' t := by
  obtain ⟨l, ns, a, b, c, h1, h2, h3⟩ := h.ex
  exact ⟨l, ns, a, b, c, e _ _ h1, e _ _ h2, h3⟩
theorem Tape.new {H : Hp} {t p : Addr} {o : HO} (h : Tape H t) (e : H p = none) : Tape (upd H p o) t := h.same (same_new e o)
theorem Tape.tracked {H : Hp} {t : Addr} (h : Tape H t) : ∃ o, H t = some o := by
  obtain ⟨l, ns, a, b, c, h1, _⟩ := h.ex
  exact ⟨_, h1⟩
/-- a fresh address is not the tape -/
theorem Tape.ne {H : Hp} {t p : Addr} (h : Tape H t) (e : H p = none) : p ≠ t := by
  obtain ⟨o, h⟩ := h.tracked
  exact (ne_of_none h e).symm
/-- the script's copy that the tape holds -/
def tL (H : Hp) (t : Addr) : Option Addr := match H t with
  | some (.lst (.ref l :: _)) => some l
  | _ => none
theorem tL_of {H : Hp} {t l : Addr} {xs : List V} (h : H t = some (.lst (.ref l :: xs))) : tL H t = some l := by
  unfold tL
  rw [h]
/-- the tape goes on, what else was tracked stands -/
structure Go (t : Addr) (H H' : Hp) : Prop where
  tp : Tape H' t
  sm : Sm t H H'
  fx : tL H' t = tL H t
theorem Go.trans {t : Addr} {H H1 H2 : Hp} (a : Go t H H1) (b : Go t H1 H2) : Go t H H2 := ⟨b.tp, a.sm.trans b.sm, b.fx.trans a.fx⟩
theorem Go.refl {t : Addr} {H : Hp} (h : Tape H t) : Go t H H := ⟨h, Sm.refl _ _, rfl⟩
theorem Go.same {t : Addr} {H H1 : Hp} (h : Tape H t) (a : Same H H1) : Go t H H1 := by
  obtain ⟨l, ns, x, b, c, h1, h2, h3⟩ := h.ex
  exact ⟨h.same a, Sm.same a, by rw [tL_of h1, tL_of (a _ _ h1)]⟩
theorem Go.new {t p : Addr} {H H1 : Hp} {o : HO} (a : Go t H H1) (h : H1 p = none) : Go t H (upd H1 p o) := a.trans (Go.same a.tp (same_new h o))
theorem Go.put {t l : Addr} {H H1 : Hp} {xs : List V} {ns : List Int} {a b c : Int} (h1 : H t = some (.lst (.ref l :: xs))) (s : Sm t H H1) (h2 : H1 l = some (.lst (ns.map V.int))) (h3 : l ≠ t) (h4 : 0 ≤ a) (h5 : ns.length ≤ 63) :
    Go t H (upd H1 t (.lst [.ref l, .int a, .int b, .int c])) :=
  ⟨⟨l, ns, a, b, c, upd_same, by rw [upd_ne h3]; exact h2, h3, h4, h5⟩, s.trans Sm.put, by rw [tL_of h1, tL_of upd_same]⟩
/-- a change at an address that was not tracked at first -/
theorem Go.late {t p : Addr} {H H1 : Hp} {o : HO} (h : Tape H t) (a : Go t H H1) (n : H p = none) : Go t H (upd H1 p o) := by
  obtain ⟨l, ns, x, b, c, h1, h2, h3⟩ := h.ex
  obtain ⟨l', ns', x', b', c', k1, k2, k3⟩ := a.tp.ex
  have e := a.fx
  rw [tL_of h1, tL_of k1] at e
  cases e
  have n1 : t ≠ p := ne_of_none h1 n
  have n2 : l ≠ p := ne_of_none h2 n
  exact ⟨⟨l, ns', x', b', c', by rw [upd_ne n1]; exact k1, by rw [upd_ne n2]; exact k2, k3⟩, a.sm.late n, by rw [tL_of h1]; exact tL_of (by rw [upd_ne n1]; exact k1)⟩

/-! ### texts -/
section
variable {X : Cx}
/-- s * n -/
theorem op_mulS : OpR X (binaryOp .Mult) (fun x y H Q => ∃ (z : Str) (n : Int), x = .str z ∧ y = .int n ∧ n ≤ 1000000 ∧ -1000000 ≤ n ∧ z.length * n.toNat ≤ sizeLine ∧ Q (.str (Txt.mul z n)) H) := by
  intro pins s σ H x y u v Q I rx ry h
  obtain ⟨z, n, rfl, rfl, h1, h2, h3, q⟩ := h
  obtain ⟨t, rfl⟩ := rx
  obtain ⟨t', rfl⟩ := ry
  refine PySem.SB.mul ⟨?_, ?_, ?_⟩ fun t' k => ⟨.str _, H, ?_, ⟨_, rfl⟩, q⟩
  · simp only [Bool.or_eq_false_iff, decide_eq_false_iff_not]
    exact ⟨by omega, by omega⟩
  · intro p _ q
    have e : (1000000 : Int) ≤ (2 ^ 63 - 1) / n := by
      rw [Int.le_ediv_iff_mul_le (by omega)]
      omega
    by_cases hz : z.length ≤ 1000000
    · omega
    · have h4 : z.length * 1 ≤ z.length * n.toNat := Nat.mul_le_mul_left _ (by omega)
      have e2 : (sizeLine : Int) ≤ (2 ^ 63 - 1) / n := by
        rw [Int.le_ediv_iff_mul_le (by omega)]
        show (16777216 : Int) * n ≤ _
        omega
      have h5 : (z.length : Int) ≤ (sizeLine : Int) := by
        have := Nat.le_trans h4 h3
        omega
      omega
  · intro _ _
    unfold PySem.Builtin.Str.tooLong
    simp only [decide_eq_false_iff_not]
    show ¬ z.length * n.toNat > 16777216
    have : z.length * n.toNat ≤ 16777216 := h3
    omega
  · exact I.tok k
end

/-! ### rules over a written part that is named -/
section
variable {X : Cx} {K : PySem.W.Frag}
theorem kx_list (h : X.K = K) : IxR X (rIxL K) := h ▸ ix_list
theorem kx_tup (h : X.K = K) : IxR X (rIxT K) := h ▸ ix_tup
theorem kx_seq (h : X.K = K) : IxR X (rIx K) := h ▸ ix_seq
theorem ksl_list (h : X.K = K) : SlR X (rSlL K) := h ▸ sl_list
theorem kop_eqD (h : X.K = K) (hu : X.A.units + 64 < cLine) : OpR X (compareOp .Eq) (rEqD K) := h ▸ op_eqD hu
theorem kop_neD (h : X.K = K) (hu : X.A.units + 64 < cLine) : OpR X (compareOp .NotEq) (rNeD K) := h ▸ op_neD hu
theorem kop_in (h : X.K = K) : OpR X (compareOp .In) (rIn K false) := h ▸ op_in_seq
theorem kop_notIn (h : X.K = K) : OpR X (compareOp .NotIn) (rIn K true) := h ▸ op_notIn_seq
theorem kop_catT (h : X.K = K) : OpR X (binaryOp .Add) (rCatA K) := h ▸ op_catA
theorem ksl_tup (h : X.K = K) : SlR X (rSlA K) := h ▸ sl_tupA
def rLen (K : PySem.W.Frag) : List V → Hp → VK → Prop := fun xs H Q => ∃ x n, xs = [x] ∧ LenV K x H n ∧ Q (.int n) H
theorem kc_len (h : X.K = K) : CallR X (.builtin "len") (rLen K) := h ▸ call_len
def rLenS (K : PySem.W.Frag) : List V → Hp → VK → Prop := fun xs H Q => ∃ p ys, xs = [.ref p] ∧ (SqL K H p ys ∨ SqT K H p ys) ∧ Q (.int ys.length) H
theorem kc_lenS (h : X.K = K) : CallR X (.builtin "len") (rLenS K) := h ▸ call_len_seq
def rListOf (K : PySem.W.Frag) : List V → Hp → VK → Prop := fun xs H Q => ∃ p ys, xs = [.ref p] ∧ (SqL K H p ys ∨ SqT K H p ys) ∧ ∀ l, H l = none → Q (.ref l) (upd H l (.lst ys))
theorem kc_list (h : X.K = K) : CallR X (.type "list") (rListOf K) := h ▸ call_list_of
def rTupOf (K : PySem.W.Frag) : List V → Hp → VK → Prop := fun xs H Q => ∃ p ys, xs = [.ref p] ∧ ((SqL K H p ys ∧ ∀ l, H l = none → Q (.ref l) (upd H l (.tup ys))) ∨ (SqT K H p ys ∧ Q (.ref p) H))
theorem kc_tuple (h : X.K = K) : CallR X (.type "tuple") (rTupOf K) := h ▸ call_tuple_of
theorem kc_all (h : X.K = K) (hc : X.calm = true) : CallR X (.builtin "all") (rAll K) := h ▸ cr_all hc
theorem kc_any (h : X.K = K) (hc : X.calm = true) : CallR X (.builtin "any") (rAny K) := h ▸ cr_any hc
theorem kc_isi (h : X.K = K) : CallR X (.builtin "isinstance") (rIsi K) := h ▸ call_isi
theorem kpi_list {tg l : Expr} {tl : TE} (h : X.K = K) (hl : PE X l tl) : PI X tg l (iList K tl) := h ▸ pi_list hl
theorem kpi_tup {tg l : Expr} {tl : TE} (h : X.K = K) (hl : PE X l tl) : PI X tg l (iTup K tl) := h ▸ pi_tup hl
def rJoin (K : PySem.W.Frag) : V → List V → Hp → VK → Prop := fun x xs H Q => ∃ a p, ∃ ys : List Str, x = .str a ∧ xs = [.ref p] ∧ (SqL K H p (ys.map V.str) ∨ SqT K H p (ys.map V.str)) ∧ (ys.map (·.length)).sum + ys.length * a.length ≤ 16777216 ∧ Q (.str (Txt.join a ys)) H
end
/-! ### loops -/
section
variable {J : It} {n : Nat} {G : Hp → Prop} {Y : Nat → Hp → V → Hp → Prop}
/-- what is made so far stands at D -/
def AccI (I : Nat → List V → Hp → Prop) (D : Addr) (i : Nat) (H : Hp) : Prop := ∃ acc, H D = some (.lst acc) ∧ acc.length = i ∧ I i acc H
theorem acc_step {I : Nat → List V → Hp → Prop} {D : Addr} {i : Nat} {acc : List V} {y : V} {H4 : Hp} (e : H4 D = some (.lst acc)) (el : acc.length = i) (hi : i ≤ 1000000) (k : I (i + 1) (acc ++ [y]) (upd H4 D (.lst (acc ++ [y])))) :
    ∃ acc, H4 D = some (.lst acc) ∧ acc.length < sizeLine ∧ AccI I D (i + 1) (upd H4 D (.lst (acc ++ [y]))) := by
  refine ⟨acc, e, ?_, acc ++ [y], upd_same, by rw [List.length_append, el]; rfl, k⟩
  show acc.length < 16777216
  omega
/-- a comprehension without a test -/
theorem lc_acc (w : Walk J n G Y) {g : TG} {te : TE} {vs : List Nat} {σ : St} {H1 : Hp} {D : Addr} {Qd : Hp → Prop} (I : Nat → List V → Hp → Prop) (h0 : I 0 [] (upd H1 D (.lst [])))
    (hG : ∀ i acc H, i ≤ n → H D = some (.lst acc) → I i acc H → G H)
    (hs : ∀ i acc x H H', i < n → H D = some (.lst acc) → acc.length = i → I i acc H → Y i H x H' → g x (wipe σ vs) H' fun σ2 H2 => wipe σ2 vs = wipe σ vs ∧ te σ2 H2 fun y H4 => ∃ acc, H4 D = some (.lst acc) ∧ acc.length < sizeLine ∧ AccI I D (i + 1) (upd H4 D (.lst (acc ++ [y]))))
    (hd : ∀ acc H, H D = some (.lst acc) → acc.length = n → I n acc H → Qd H) :
    ∃ W : Nat → Nat → Hp → Prop, (∃ m, W 0 m (upd H1 D (.lst []))) ∧ ∀ i m H, W i m H →
      (J.stop i H ∧ Qd H) ∨ (J.go i H ∧ ∃ Nx : Hp → Prop, (∀ H', Nx H' → ∃ m', m' < m ∧ W (i + 1) m' H') ∧ ∀ x H', J.yld i H x H' → g x (wipe σ vs) H' fun σ2 H2 => wipe σ2 vs = wipe σ vs ∧ tYes σ2 H2 fun b H3 =>
        if b = true then te σ2 H3 fun y H4 => ∃ acc, H4 D = some (.lst acc) ∧ acc.length < sizeLine ∧ Nx (upd H4 D (.lst (acc ++ [y]))) else Nx H3) := by
  refine lc_it w (AccI I D) ⟨[], upd_same, rfl, h0⟩ (fun i H hi ⟨acc, e, _, k⟩ => hG i acc H hi e k) (fun i x H H' hi ⟨acc, e, el, k⟩ hy => ?_) (fun H ⟨acc, e, el, k⟩ => hd acc H e el k)
  exact hs i acc x H H' hi e el k hy
end

theorem take_succ_code {z : Str} {i c : Nat} (h : z.cps[i]? = some c) : z.cps.toList.take (i + 1) = z.cps.toList.take i ++ [c] := by
  have h' : z.cps.toList[i]? = some c := by rw [Array.getElem?_toList]; exact h
  obtain ⟨hl, e⟩ := List.getElem?_eq_some_iff.mp h'
  rw [List.take_succ_eq_append_getElem hl, e]
theorem str_of_list {z : Str} (h : z.cps.toList = []) : z = Str.ofString "" := by
  obtain ⟨⟨l⟩⟩ := z
  have e : l = [] := h
  subst e
  rfl
theorem int_get {ns : List Int} {i : Nat} {y : V} (h : (ns.map V.int)[i]? = some y) : ∃ u, y = V.int u ∧ ns[i]? = some u := by
  rw [List.getElem?_map] at h
  cases e : ns[i]? with
  | none => rw [e] at h; cases h
  | some u => rw [e] at h; exact ⟨u, (Option.some.inj h).symm, rfl⟩
theorem fmod_in {a m : Int} (h : 0 < m) : 0 ≤ a.fmod m ∧ a.fmod m < m := by
  rw [Int.fmod_eq_emod_of_nonneg a (by omega)]
  exact ⟨Int.emod_nonneg _ (by omega), Int.emod_lt_of_pos _ h⟩

/-! ### texts by their codes -/
theorem str_ext {a b : Str} (h : a.cps.toList = b.cps.toList) : a = b := by
  obtain ⟨⟨x⟩⟩ := a
  obtain ⟨⟨y⟩⟩ := b
  have e : x = y := h
  rw [e]
theorem app_codes (a b : Str) : (a ++ b).cps.toList = a.cps.toList ++ b.cps.toList := by
  show (a.cps ++ b.cps).toList = _
  rw [Array.toList_append]
theorem app_len (a b : Str) : (a ++ b).length = a.length + b.length := by
  show (a.cps ++ b.cps).size = _
  rw [Array.size_append]; rfl
theorem len_codes (a : Str) : a.cps.toList.length = a.length := by simp [Str.length]
theorem join_codes : ∀ ys : List Str, (Txt.join (Str.ofString "") ys).cps.toList = (ys.map (·.cps.toList)).flatten := by
  have h : ∀ ys : List Str, (Str.join (Str.ofString "") ys).cps.toList = (ys.map (·.cps.toList)).flatten := by
    intro ys
    induction ys with
    | nil => rfl
    | cons x r ih =>
      cases r with
      | nil =>
        show x.cps.toList = _
        simp
      | cons y r =>
        show (x ++ Str.ofString "" ++ Str.join (Str.ofString "") (y :: r)).cps.toList = _
        rw [app_codes, app_codes, ih]
        show x.cps.toList ++ [] ++ _ = _
        rw [List.append_nil, List.map_cons (l := y :: r), List.flatten_cons]
  intro ys
  have e : Txt.join (Str.ofString "") ys = Str.join (Str.ofString "") ys := StrLaws.glued_eq_join _ ys
  rw [e, h]
/-- a text of drawn signs -/
def Sg (c : Nat) : Prop := 32 ≤ c ∧ c ≤ 126 ∧ c ≠ 37
instance (c : Nat) : Decidable (Sg c) := by unfold Sg; exact inferInstance
def SgT (z : Str) : Prop := ∀ c ∈ z.cps.toList, Sg c
theorem SgT.app {a b : Str} (h : SgT a) (k : SgT b) : SgT (a ++ b) := fun c hc => by
  rw [app_codes] at hc
  rcases List.mem_append.mp hc with q | q
  · exact h c q
  · exact k c q
theorem SgT.one {c : Nat} (h : Sg c) : SgT ⟨#[c]⟩ := fun d hd => by
  have e : d = c := by simpa using hd
  rw [e]; exact h

/-! ### plain data: what is passed and returned -/
inductive Dt where
  | non | bl (b : Bool) | int (i : Int) | str (s : Str) | tup (xs : List Dt)
mutual
inductive DT (K : PySem.W.Frag) (H : Hp) : V → Dt → Prop
  | non : DT K H .non .non
  | bl (b : Bool) : DT K H (.bl b) (.bl b)
  | int (i : Int) : DT K H (.int i) (.int i)
  | str (z : Str) : DT K H (.str z) (.str z)
  | tup {a : Addr} {xs : List V} {ds : List Dt} : SqT K H a xs → DTs K H xs ds → DT K H (.ref a) (.tup ds)
inductive DTs (K : PySem.W.Frag) (H : Hp) : List V → List Dt → Prop
  | nil : DTs K H [] []
  | cons {v : V} {vs : List V} {d : Dt} {ds : List Dt} : DT K H v d → DTs K H vs ds → DTs K H (v :: vs) (d :: ds)
end
mutual
theorem DT.mono {K : PySem.W.Frag} {H H' : Hp} (k : ∀ a xs, SqT K H a xs → SqT K H' a xs) : ∀ (d : Dt) (v : V), DT K H v d → DT K H' v d
  | .non, _, h => by cases h; exact .non
  | .bl b, _, h => by cases h; exact .bl _
  | .int b, _, h => by cases h; exact .int _
  | .str b, _, h => by cases h; exact .str _
  | .tup ds, _, h => by
    cases h with
    | tup h1 h2 => exact .tup (k _ _ h1) (DTs.mono k ds _ h2)
theorem DTs.mono {K : PySem.W.Frag} {H H' : Hp} (k : ∀ a xs, SqT K H a xs → SqT K H' a xs) : ∀ (ds : List Dt) (vs : List V), DTs K H vs ds → DTs K H' vs ds
  | [], _, h => by cases h; exact .nil
  | d :: ds, _, h => by
    cases h with
    | cons h1 h2 => exact .cons (DT.mono k d _ h1) (DTs.mono k ds _ h2)
end
section
variable {K : PySem.W.Frag} {H H' : Hp}
theorem DT.same {v : V} {d : Dt} (h : DT K H v d) (e : Same H H') : DT K H' v d := DT.mono (fun _ _ q => e.seqT q) d v h
theorem DTs.same {v : List V} {d : List Dt} (h : DTs K H v d) (e : Same H H') : DTs K H' v d := DTs.mono (fun _ _ q => e.seqT q) d v h
theorem seqT_go {t a : Addr} {xs : List V} (hT : Tape H t) (e : Sm t H H') (h : SqT K H a xs) : SqT K H' a xs := by
  obtain ⟨l, ns, x, b, c, h1, _⟩ := hT.ex
  rcases h with (h | ⟨o, h⟩) | h
  · exact .inl (.inl (e _ _ (ne_of h h1 (fun z => by cases z)) h))
  · exact .inl (.inr ⟨o, e _ _ (ne_of h h1 (fun z => by cases z)) h⟩)
  · exact .inr h
theorem DT.go {t : Addr} {v : V} {d : Dt} (h : DT K H v d) (hT : Tape H t) (e : Sm t H H') : DT K H' v d := DT.mono (fun _ _ q => seqT_go hT e q) d v h
theorem DTs.go {t : Addr} {v : List V} {d : List Dt} (h : DTs K H v d) (hT : Tape H t) (e : Sm t H H') : DTs K H' v d := DTs.mono (fun _ _ q => seqT_go hT e q) d v h
theorem DTs.length {vs : List V} {ds : List Dt} (h : DTs K H vs ds) : vs.length = ds.length := by
  induction ds generalizing vs with
  | nil => cases h; rfl
  | cons d ds ih =>
    cases h with
    | cons _ h2 => rw [List.length_cons, List.length_cons, ih h2]
theorem DTs.get {vs : List V} {ds : List Dt} (h : DTs K H vs ds) {i : Nat} {d : Dt} (e : ds[i]? = some d) : ∃ v, vs[i]? = some v ∧ DT K H v d := by
  induction ds generalizing vs i with
  | nil => simp at e
  | cons x ds ih =>
    cases h with
    | cons h1 h2 =>
      cases i with
      | zero =>
        have e' : x = d := by simpa using e
        subst e'
        exact ⟨_, rfl, h1⟩
      | succ i => exact ih h2 (by simpa using e)
theorem DTs.get' {vs : List V} {ds : List Dt} (h : DTs K H vs ds) {i : Nat} {v : V} (e : vs[i]? = some v) : ∃ d, ds[i]? = some d ∧ DT K H v d := by
  have hl := h.length
  have hi : i < ds.length := by rw [← hl]; exact (List.getElem?_eq_some_iff.mp e).1
  obtain ⟨w, e2, k⟩ := h.get (List.getElem?_eq_getElem hi)
  rw [e] at e2
  cases e2
  exact ⟨_, List.getElem?_eq_getElem hi, k⟩
theorem DTs.append {vs ws : List V} {ds es : List Dt} (h : DTs K H vs ds) (k : DTs K H ws es) : DTs K H (vs ++ ws) (ds ++ es) := by
  induction ds generalizing vs with
  | nil => cases h; exact k
  | cons x ds ih =>
    cases h with
    | cons h1 h2 => exact .cons h1 (ih h2)
end
/-! ### how deep, how wide -/
mutual
def Dt.deep : Dt → Nat
  | .tup xs => Dt.deeps xs + 1
  | _ => 1
def Dt.deeps : List Dt → Nat
  | [] => 0
  | d :: ds => max d.deep (Dt.deeps ds)
end
mutual
def Dt.fits : Dt → Bool
  | .tup xs => decide (xs.length ≤ 1000000) && Dt.fitss xs
  | _ => true
def Dt.fitss : List Dt → Bool
  | [] => true
  | d :: ds => d.fits && Dt.fitss ds
end
theorem Dt.deeps_mem {d : Dt} : ∀ {ds : List Dt}, d ∈ ds → d.deep ≤ Dt.deeps ds
  | x :: ds, h => by
    unfold Dt.deeps
    rcases List.mem_cons.mp h with rfl | h
    · omega
    · have := Dt.deeps_mem h
      omega
theorem Dt.fitss_mem {d : Dt} : ∀ {ds : List Dt}, d ∈ ds → Dt.fitss ds = true → d.fits = true
  | x :: ds, h, k => by
    unfold Dt.fitss at k
    rw [Bool.and_eq_true] at k
    rcases List.mem_cons.mp h with rfl | h
    · exact k.1
    · exact Dt.fitss_mem h k.2
def Dt.name : Dt → String
  | .non => "NoneType" | .bl _ => "bool" | .int _ => "int" | .str _ => "str" | .tup _ => "tuple"
theorem seqT_ty {K : PySem.W.Frag} {H : Hp} {a : Addr} {xs : List V} (h : SqT K H a xs) : TyX K H (.ref a) (.type "tuple") := by
  rcases h with (h | ⟨o, h⟩) | ⟨o, its, n, h1, h2, _⟩
  · exact .base (.tup h)
  · exact .fTuple h
  · exact .kTuple h1 h2
theorem DT.ty {K : PySem.W.Frag} {H : Hp} {v : V} {d : Dt} (h : DT K H v d) : TyX K H v (.type d.name) := by
  cases h with
  | non => exact .base .non
  | bl b => exact .base (.bl b)
  | int i => exact .base (.int i)
  | str z => exact .base (.str z)
  | tup h1 _ => exact seqT_ty h1

theorem at_any {α : Type} {xs : List α} {z : Int} {j : Nat} {v : α} (e : z = (j : Int)) (h : xs[j]? = some v) : atI xs z = some v := by
  rw [e]
  exact atI_nat h
theorem none_left {P : Program} {w : World} {K : PySem.W.Frag} {mg : Str → Option Value} {base : Heap} {f : Addr} {fd : FuncData} {ps : List Str} {sp : Sp} (no : ∀ vs H Q E, ¬ sp vs H Q E) : FnOk P w K mg base CX0 0 f fd ps sp :=
  ⟨fun vs H Q E h => absurd h (no vs H Q E), fun A outer s H args us vs Q E _ _ _ _ h => absurd h (no vs H Q E)⟩
theorem mul_codes (z : Str) (n : Int) : (Txt.mul z n).cps.toList = (List.replicate n.toNat z.cps.toList).flatten := by
  unfold Txt.mul
  by_cases h1 : n < 1
  · rw [if_pos h1, show n.toNat = 0 by omega]
    rfl
  · rw [if_neg h1]
    have fl : ∀ (k : Nat) (a : Array Nat), ((List.replicate k z.cps).foldl (· ++ ·) a).toList = a.toList ++ (List.replicate k z.cps.toList).flatten := by
      intro k
      induction k with
      | zero => intro a; simp
      | succ k ih =>
        intro a
        rw [List.replicate_succ, List.foldl_cons, ih, List.replicate_succ, List.flatten_cons, Array.toList_append, List.append_assoc]
    by_cases h2 : (n == 1 || z.length == 0) = true
    · rw [if_pos h2]
      rw [Bool.or_eq_true] at h2
      rcases h2 with h2 | h2
      · have e : n = 1 := by simpa using h2
        subst e
        simp
      · have e : z.cps.toList = [] := by
          have : z.cps.toList.length = 0 := by rw [len_codes]; simpa using h2
          exact List.length_eq_zero_iff.mp this
        rw [e]
        simp
    · rw [if_neg h2]
      have e := fl n.toNat #[]
      simpa using e
theorem mul_len (z : Str) (n : Int) : (Txt.mul z n).length = n.toNat * z.length := by
  rw [← len_codes, mul_codes, List.length_flatten, List.map_replicate, List.sum_replicate_nat, len_codes]
/-- a list of texts as data of the model -/
theorem dpa_strs {K : PySem.W.Frag} {H : Hp} : ∀ ws : List Str, DpAll K H (ws.map V.str) (ws.map PyData.str)
  | [] => .nil
  | z :: ws => .cons (.str z) (dpa_strs ws)
theorem shaped_strs {ws : List Str} (h : ∀ z ∈ ws, SgT z) : SeqAt.shaped (.list (ws.map PyData.str)) = true := by
  have l : ∀ ws : List Str, (∀ z ∈ ws, SgT z) → PyData.canLayAll0 (ws.map PyData.str) = true ∧ PyData.depthAll (ws.map PyData.str) = 0 := by
    intro ws
    induction ws with
    | nil => intro _; exact ⟨rfl, rfl⟩
    | cons z ws ih =>
      intro h
      obtain ⟨a, b⟩ := ih fun y hy => h y (List.mem_cons_of_mem _ hy)
      have hz : PyData.strOk z = true := by
        unfold PyData.strOk
        rw [Array.all_eq_true_iff_forall_mem]
        intro c hc
        have := h z List.mem_cons_self c (by simpa using hc)
        have k := this.2.1
        simp
        omega
      refine ⟨?_, ?_⟩
      · rw [List.map_cons, PyData.canLayAll0, PyData.canLay0, hz, a]
        rfl
      · rw [List.map_cons, PyData.depthAll, b, PyData.depth]
        rfl
  obtain ⟨a, b⟩ := l ws h
  unfold SeqAt.shaped
  rw [PyData.canLay0, PyData.depth, a, b]
  rfl
theorem eqv_strs_nil (ws : List Str) : PyData.eqv (.list (ws.map PyData.str)) (.list []) = ws.isEmpty := by
  cases ws <;> simp [PyData.eqv, PyData.eqvAll]
theorem SgT.cut {z : Str} (h : SgT z) (a b : Option Int) : SgT (cutS z a b) := fun c hc => by
  refine h c ?_
  unfold cutS at hc
  exact List.mem_of_mem_drop (List.mem_of_mem_take (by simpa using hc))
theorem SgT.mul {z : Str} (h : SgT z) (n : Int) : SgT (Txt.mul z n) := fun c hc => by
  rw [mul_codes] at hc
  obtain ⟨l, h1, h2⟩ := List.mem_flatten.mp hc
  rw [List.eq_of_mem_replicate h1] at h2
  exact h c h2
/-! ### slices, by take and drop -/
theorem sIx_pos {n d : Nat} {a : Int} (h : 0 ≤ a) : HT.sIx n d (some a) = min a.toNat n := by
  show (if a < 0 then _ else _) = _
  rw [if_neg (by omega)]
theorem cut_pre (z : Str) {a : Int} (h : 0 ≤ a) : (cutS z none (some a)).cps.toList = z.cps.toList.take a.toNat := by
  show ((z.cps.toList.drop 0).take (HT.sIx z.length z.length (some a) - 0)) = _
  rw [sIx_pos h, List.drop_zero, Nat.sub_zero, ← len_codes]
  by_cases c : a.toNat ≤ z.cps.toList.length
  · rw [Nat.min_eq_left c]
  · rw [Nat.min_eq_right (by omega), List.take_of_length_le (Nat.le_refl _), List.take_of_length_le (by omega)]
theorem cut_suf (z : Str) {a : Int} (h : 0 ≤ a) : (cutS z (some a) none).cps.toList = z.cps.toList.drop a.toNat := by
  show ((z.cps.toList.drop (HT.sIx z.length 0 (some a))).take (z.length - HT.sIx z.length 0 (some a))) = _
  rw [sIx_pos h, ← len_codes]
  by_cases c : a.toNat ≤ z.cps.toList.length
  · rw [Nat.min_eq_left c, List.take_of_length_le (by rw [List.length_drop]; exact Nat.le_refl _)]
  · rw [Nat.min_eq_right (by omega), List.drop_of_length_le (Nat.le_refl _), List.drop_of_length_le (by omega), List.take_nil]
theorem cut_pre_len (z : Str) {a : Int} (h : 0 ≤ a) : (cutS z none (some a)).length = min a.toNat z.length := by
  rw [← len_codes, cut_pre z h, List.length_take, len_codes]
theorem cut_suf_len (z : Str) {a : Int} (h : 0 ≤ a) : (cutS z (some a) none).length = z.length - a.toNat := by
  rw [← len_codes, cut_suf z h, List.length_drop, len_codes]
theorem cutV_pre {xs : List V} {a : Int} (h : 0 ≤ a) : cutV xs none (some a) = xs.take a.toNat := by
  show (xs.drop 0).take (HT.sIx xs.length xs.length (some a) - 0) = _
  rw [sIx_pos h, List.drop_zero, Nat.sub_zero]
  by_cases c : a.toNat ≤ xs.length
  · rw [Nat.min_eq_left c]
  · rw [Nat.min_eq_right (by omega), List.take_of_length_le (Nat.le_refl _), List.take_of_length_le (by omega)]
theorem cutV_suf {xs : List V} {a : Int} (h : 0 ≤ a) : cutV xs (some a) none = xs.drop a.toNat := by
  show (xs.drop (HT.sIx xs.length 0 (some a))).take (xs.length - HT.sIx xs.length 0 (some a)) = _
  rw [sIx_pos h]
  by_cases c : a.toNat ≤ xs.length
  · rw [Nat.min_eq_left c, List.take_of_length_le (by rw [List.length_drop]; exact Nat.le_refl _)]
  · rw [Nat.min_eq_right (by omega), List.drop_of_length_le (Nat.le_refl _), List.drop_of_length_le (by omega), List.take_nil]
theorem pickN (l : List Nat) {v : V} (h : v ∈ l.map fun n : Nat => V.int (n : Int)) {b : Nat} (hb : (l.all fun n => decide (n ≤ b)) = true) : ∃ n : Nat, n ≤ b ∧ v = V.int (n : Int) := by
  obtain ⟨n, h1, h2⟩ := List.mem_map.mp h
  exact ⟨n, of_decide_eq_true (List.all_eq_true.mp hb n h1), h2.symm⟩
theorem pickS (l : List Str) {v : V} (h : v ∈ l.map V.str) : ∃ z : Str, z ∈ l ∧ v = V.str z := by
  obtain ⟨n, h1, h2⟩ := List.mem_map.mp h
  exact ⟨n, h1, h2.symm⟩
theorem le_line {n : Nat} (h : n ≤ 1000000) : n ≤ sizeLine := Nat.le_trans h (by decide)
theorem lt_line {n : Nat} (h : n ≤ 1000000) : n < sizeLine := Nat.lt_of_le_of_lt h (by decide)
theorem DTs.strs {K : PySem.W.Frag} {H : Hp} : ∀ ws : List Str, DTs K H (ws.map V.str) (ws.map Dt.str)
  | [] => .nil
  | z :: ws => .cons (.str z) (DTs.strs ws)
theorem deeps_strs : ∀ ws : List Str, Dt.deeps (ws.map Dt.str) ≤ 1
  | [] => by simp [Dt.deeps]
  | z :: ws => by
    have := deeps_strs ws
    have e : Dt.deep (.str z) = 1 := rfl
    rw [List.map_cons, Dt.deeps, e]
    omega
theorem fitss_strs : ∀ ws : List Str, Dt.fitss (ws.map Dt.str) = true
  | [] => rfl
  | z :: ws => by
    have e : Dt.fits (.str z) = true := rfl
    rw [List.map_cons, Dt.fitss, e, fitss_strs ws]
    rfl
theorem fits_strs {ws : List Str} (h : ws.length ≤ 1000000) : Dt.fits (.tup (ws.map Dt.str)) = true := by
  rw [Dt.fits, fitss_strs, List.length_map, decide_eq_true h]
  rfl
theorem flat_ones : ∀ cs : List Nat, ((cs.map fun c => (⟨#[c]⟩ : Str)).map (·.cps.toList)).flatten = cs
  | [] => rfl
  | c :: cs => by
    rw [List.map_cons, List.map_cons, List.flatten_cons, flat_ones cs]
    rfl
theorem sum_ones : ∀ cs : List Nat, ((cs.map fun c => (⟨#[c]⟩ : Str)).map (·.length)).sum = cs.length
  | [] => rfl
  | c :: cs => by
    rw [List.map_cons, List.map_cons, List.sum_cons, sum_ones cs, List.length_cons]
    show 1 + cs.length = _
    omega
theorem sum_lens {b : Nat} : ∀ {ws : List Str}, (∀ w ∈ ws, w.length ≤ b) → (ws.map (·.length)).sum ≤ ws.length * b
  | [], _ => by simp
  | w :: ws, h => by
    have h1 := h w List.mem_cons_self
    have h2 := sum_lens fun x hx => h x (List.mem_cons_of_mem _ hx)
    rw [List.map_cons, List.sum_cons, List.length_cons, Nat.succ_mul]
    omega
theorem join_len_le (sep : Str) (ws : List Str) : (Txt.join sep ws).length ≤ (ws.map (·.length)).sum + ws.length * sep.length := by
  have e : Txt.join sep ws = Str.join sep ws := StrLaws.glued_eq_join _ ws
  rw [e]
  exact StrLaws.join_length_le sep ws
/-! ### comprehensions that change nothing else -/
theorem wipe_back {σ : St} {k : Nat} {v : Option V} : wipe ((wipe σ [k]).set k v) [k] = wipe σ [k] := by
  show ((σ.set k none).set k v).set k none = σ.set k none
  rw [List.set_set, List.set_set]
/-- [f x for x in ..] without a test -/
theorem lc_pure {J : It} {n : Nat} {G : Hp → Prop} {Y : Nat → Hp → V → Hp → Prop} (w : Walk J n G Y) (hn : n ≤ 1000000) {k : Nat} {te : TE} {σ : St} {H1 : Hp} {D : Addr} {Qd : Hp → Prop} (it : Nat → V → Prop) (f : Nat → V)
    (hY : ∀ i H x H', i < n → Y i H x H' → H' = H ∧ it i x) (hG : ∀ acc, G (upd H1 D (.lst acc)))
    (he : ∀ i x acc (R : VK), i < n → it i x → R (f i) (upd H1 D (.lst acc)) → te ((wipe σ [k]).set k (some x)) (upd H1 D (.lst acc)) R)
    (hd : Qd (upd H1 D (.lst ((List.range n).map f)))) :
    ∃ W : Nat → Nat → Hp → Prop, (∃ m, W 0 m (upd H1 D (.lst []))) ∧ ∀ i m H, W i m H →
      (J.stop i H ∧ Qd H) ∨ (J.go i H ∧ ∃ Nx : Hp → Prop, (∀ H', Nx H' → ∃ m', m' < m ∧ W (i + 1) m' H') ∧ ∀ x H', J.yld i H x H' → gName k x (wipe σ [k]) H' fun σ2 H2 => wipe σ2 [k] = wipe σ [k] ∧ tYes σ2 H2 fun b H3 =>
        if b = true then te σ2 H3 fun y H4 => ∃ acc, H4 D = some (.lst acc) ∧ acc.length < sizeLine ∧ Nx (upd H4 D (.lst (acc ++ [y]))) else Nx H3) := by
  refine lc_it w (fun i H => H = upd H1 D (.lst ((List.range i).map f))) rfl (fun i H _ e => e ▸ hG _) (fun i x H H' hi e hy => ?_) (fun H e => e ▸ hd)
  obtain ⟨rfl, hit⟩ := hY i H x H' hi hy
  subst e
  refine ⟨wipe_back, ?_⟩
  refine he i x _ _ hi hit ⟨_, upd_same, ?_, ?_⟩
  · rw [List.length_map, List.length_range]
    exact lt_line (by omega)
  · rw [upd_upd, List.range_succ, List.map_append]
    rfl
/-- [x for x in texts if ..] -/
theorem lc_filterS {K : PySem.W.Frag} {a : Addr} {ws : List Str} {k : Nat} {tt : TT} {σ : St} {H1 : Hp} {D : Addr} {Qd : Hp → Prop} (f : Str → Bool) (hk : k < σ.length) (hS : SqL K H1 a (ws.map V.str)) (hD : H1 D = none) (hn : ws.length ≤ 1000000)
    (ht : ∀ (i : Nat) (w : Str) (acc : List V) (R : Bool → Hp → Prop), ws[i]? = some w → R (f w) (upd H1 D (.lst acc)) → tt ((wipe σ [k]).set k (some (.str w))) (upd H1 D (.lst acc)) R)
    (hd : Qd (upd H1 D (.lst ((ws.filter f).map V.str)))) :
    ∃ W : Nat → Nat → Hp → Prop, (∃ m, W 0 m (upd H1 D (.lst []))) ∧ ∀ i m H, W i m H →
      ((Itl K a).stop i H ∧ Qd H) ∨ ((Itl K a).go i H ∧ ∃ Nx : Hp → Prop, (∀ H', Nx H' → ∃ m', m' < m ∧ W (i + 1) m' H') ∧ ∀ x H', (Itl K a).yld i H x H' → gName k x (wipe σ [k]) H' fun σ2 H2 => wipe σ2 [k] = wipe σ [k] ∧ tt σ2 H2 fun b H3 =>
        if b = true then tVar k σ2 H3 fun y H4 => ∃ acc, H4 D = some (.lst acc) ∧ acc.length < sizeLine ∧ Nx (upd H4 D (.lst (acc ++ [y]))) else Nx H3) := by
  refine lc_it (walk_list (K := K) (a := a) (xs := ws.map V.str)) (fun i H => H = upd H1 D (.lst (((ws.take i).filter f).map V.str))) rfl (fun i H _ e => by rw [e]; exact (same_new hD _).seq hS) (fun i x H H' hi e hy => ?_) (fun H e => ?_)
  · obtain ⟨rfl, hx⟩ := hy
    subst e
    rw [List.getElem?_map] at hx
    obtain ⟨u, hu, rfl⟩ := Option.map_eq_some_iff.mp hx
    obtain ⟨hl2, ew⟩ := List.getElem?_eq_some_iff.mp hu
    refine ⟨wipe_back, ?_⟩
    refine ht i u _ _ hu ?_
    by_cases c : f u = true
    · rw [if_pos c]
      refine ⟨.str u, ?_, _, upd_same, ?_, ?_⟩
      · show ((σ.set k none).set k (some (.str u)))[k]? = _
        rw [List.getElem?_set_self (by rw [List.length_set]; exact hk)]
      · rw [List.length_map]
        exact lt_line (Nat.le_trans (List.length_filter_le _ _) (by rw [List.length_take]; omega))
      · rw [upd_upd, List.take_succ_eq_append_getElem hl2, ew, List.filter_append, List.map_append, List.filter_cons_of_pos c]
        rfl
    · rw [if_neg c, List.take_succ_eq_append_getElem hl2, ew, List.filter_append, List.filter_cons_of_neg c, List.filter_nil, List.append_nil]
  · rw [List.length_map, List.take_length] at e
    rw [e]
    exact hd
theorem inV_strs (z : Str) : ∀ ws : List Str, inV (.str z) (ws.map V.str) = decide (z ∈ ws)
  | [] => rfl
  | w :: ws => by
    have ih := inV_strs z ws
    unfold inV at ih ⊢
    rw [List.map_cons, List.any_cons, ih]
    show ((w == z) || _) = _
    by_cases c : w = z
    · subst c
      simp
    · have e : (w == z) = false := by rw [beq_eq_false_iff_ne]; exact c
      rw [e, Bool.false_or]
      exact decide_eq_decide.mpr ⟨fun h => List.mem_cons_of_mem _ h, fun h => (List.mem_cons.mp h).elim (fun q => absurd q.symm c) id⟩
theorem flat_strs (ws : List Str) : (ws.map V.str).all flatV = true := by
  rw [List.all_map, List.all_eq_true]
  intro x _
  rfl
theorem yint {i : Nat} {H : Hp} {x : V} {H' : Hp} (h : YFn (fun i => V.int (0 + (i : Nat))) i H x H') : H' = H ∧ x = .int (i : Int) := by
  obtain ⟨h1, h2⟩ := h
  refine ⟨h1, h2.trans ?_⟩
  show V.int (0 + (i : Int)) = V.int (i : Int)
  rw [Int.zero_add]
theorem log_small {i : Int} (h : i.natAbs ≤ 1900) : i.natAbs.log2 < 1920 := Nat.lt_of_le_of_lt (Nat.log2_le_self _) (by omega)
theorem Sm.free {t p : Addr} {H H' : Hp} (s : Sm t H H') (n : p ≠ t) (h : H' p = none) : H p = none := by
  cases e : H p with
  | none => rfl
  | some o => rw [s p o n e] at h; cases h
end My

namespace My
open PySem L2
/-! ### keys -/
def allIn (cs gs : List Nat) : Bool := cs.all fun c => decide (c ∈ gs)
def firstC : List Nat := (Str.ofString "abcdefghijklmnopqrstuvwxyz").cps.toList
def keyC : List Nat := (Str.ofString "abcdefghijklmnopqrstuvwxyzABCDEFGHIJKLMNOPQRSTUVWXYZ0123456789-").cps.toList
/-- what a key is, by its signs -/
def isKeyC (cs : List Nat) : Bool := decide (cs ≠ []) && decide (cs.length ≤ 16) && decide (cs.headD 0 ∈ firstC) && allIn cs keyC
theorem isKeyC_no {cs : List Nat} (h : cs = [] ∨ 16 < cs.length) : isKeyC cs = false := by
  unfold isKeyC
  rcases h with rfl | h
  · rfl
  · rw [decide_eq_false (p := cs.length ≤ 16) (by omega)]
    simp
theorem isKeyC_yes {cs : List Nat} {c : Nat} (h0 : cs[0]? = some c) (h : cs.length ≤ 16) : isKeyC cs = (decide (c ∈ firstC) && allIn cs keyC) := by
  cases cs with
  | nil => simp at h0
  | cons a r =>
    have e : a = c := by simpa using h0
    subst e
    unfold isKeyC
    rw [decide_eq_true h, decide_eq_true (by simp)]
    simp
theorem isKeyC_iff {cs : List Nat} : isKeyC cs = true ↔ ∃ c r, cs = c :: r ∧ c ∈ firstC ∧ cs.length ≤ 16 ∧ ∀ d ∈ cs, d ∈ keyC := by
  constructor
  · intro h
    unfold isKeyC at h
    simp only [Bool.and_eq_true, decide_eq_true_eq] at h
    obtain ⟨⟨⟨h1, h2⟩, h3⟩, h4⟩ := h
    obtain ⟨c, r, rfl⟩ := List.exists_cons_of_ne_nil h1
    refine ⟨c, r, rfl, h3, h2, fun d hd => ?_⟩
    unfold allIn at h4
    exact of_decide_eq_true (List.all_eq_true.mp h4 d hd)
  · rintro ⟨c, r, rfl, h1, h2, h3⟩
    unfold isKeyC
    simp only [Bool.and_eq_true, decide_eq_true_eq]
    refine ⟨⟨⟨by simp, h2⟩, h1⟩, ?_⟩
    unfold allIn
    rw [List.all_eq_true]
    exact fun d hd => decide_eq_true (h3 d hd)
/-- the key of a text -/
def KeyT (z : Str) : Prop := isKeyC z.cps.toList = true
theorem KeyT.len {z : Str} (h : KeyT z) : z.length ≤ 16 := by
  obtain ⟨c, r, e, _, h2, _⟩ := isKeyC_iff.mp h
  rw [len_codes] at h2
  exact h2
theorem keyC_sg : ∀ c ∈ keyC, Sg c ∧ c ≠ 32 ∧ c ≠ 34 ∧ c ≠ 46 := by decide +kernel
theorem KeyT.sg {z : Str} (h : KeyT z) : SgT z := fun c hc => by
  obtain ⟨_, r, e, _, _, h3⟩ := isKeyC_iff.mp h
  exact (keyC_sg c (h3 c hc)).1
/-- more signs behind a key -/
theorem KeyT.app {z u : Str} (h : KeyT z) (hu : ∀ c ∈ u.cps.toList, c ∈ keyC) (hl : z.length + u.length ≤ 16) : KeyT (z ++ u) := by
  obtain ⟨c, r, e, h1, h2, h3⟩ := isKeyC_iff.mp h
  refine isKeyC_iff.mpr ⟨c, r ++ u.cps.toList, ?_, h1, ?_, fun d hd => ?_⟩
  · rw [app_codes, e]; rfl
  · rw [len_codes, app_len]; exact hl
  · rw [app_codes] at hd
    exact (List.mem_append.mp hd).elim (h3 d) (hu d)
theorem KeyT.cut {z : Str} (h : KeyT z) {n : Int} (h1 : 1 ≤ n) : KeyT (cutS z none (some n)) := by
  obtain ⟨c, r, e, h1', h2, h3⟩ := isKeyC_iff.mp h
  have ec := cut_pre z (a := n) (by omega)
  obtain ⟨m, hm⟩ : ∃ m, n.toNat = m + 1 := ⟨n.toNat - 1, by omega⟩
  refine isKeyC_iff.mpr ⟨c, r.take m, ?_, h1', ?_, fun d hd => h3 d ?_⟩
  · rw [ec, e, hm]; rfl
  · rw [ec, List.length_take]
    omega
  · rw [ec] at hd
    exact List.mem_of_mem_take hd
theorem KeyT.one {c : Nat} (h : c ∈ firstC) : KeyT ⟨#[c]⟩ := isKeyC_iff.mpr ⟨c, [], rfl, h, (by show 1 ≤ 16; decide), fun d hd => by
  have e : d = c := by simpa using hd
  subst e
  have z : ∀ c ∈ firstC, c ∈ keyC := by decide +kernel
  exact z d h⟩
def resL : List Str := [Str.ofString "hook", Str.ofString "each", Str.ofString "when", Str.ofString "then", Str.ofString "and", Str.ofString "or", Str.ofString "not", Str.ofString "has", Str.ofString "set", Str.ofString "default", Str.ofString "from", Str.ofString "remove", Str.ofString "reject", Str.ofString "true", Str.ofString "false"]
end My

namespace My
open PySem L2
/-! ### == and < of plain data -/
mutual
def Dt.eqb : Dt → Dt → Bool
  | .non, e => match e with | .non => true | _ => false
  | .bl a, e => match e with | .bl b => a == b | .int j => (if a then 1 else 0) == j | _ => false
  | .int i, e => match e with | .bl b => i == (if b then 1 else 0) | .int j => i == j | _ => false
  | .str x, e => match e with | .str y => x == y | _ => false
  | .tup xs, e => match e with | .tup ys => Dt.eqbs xs ys | _ => false
def Dt.eqbs : List Dt → List Dt → Bool
  | [], ys => ys.isEmpty
  | x :: xs, ys => match ys with | [] => false | y :: r => Dt.eqb x y && Dt.eqbs xs r
end
abbrev pairD (xs ys : List Dt) (j : Nat) : Bool := Dt.eqb (xs.getD j .non) (ys.getD j .non)
theorem eqbs_all : ∀ xs ys : List Dt, ((List.range (min xs.length ys.length)).all (pairD xs ys) && xs.length == ys.length) = Dt.eqbs xs ys
  | [], [] => rfl
  | [], _ :: _ => by simp [Dt.eqbs]
  | _ :: _, [] => by simp [Dt.eqbs]
  | x :: xs, y :: ys => by
    have ih := eqbs_all xs ys
    have q1 : min (x :: xs).length (y :: ys).length = min xs.length ys.length + 1 := by rw [List.length_cons, List.length_cons]; omega
    have q2 : ((x :: xs).length == (y :: ys).length) = (xs.length == ys.length) := by simp
    rw [q1, q2, List.range_succ_eq_map, List.all_cons, List.all_map, Dt.eqbs, ← ih, Bool.and_assoc]
    rfl
mutual
theorem eqb_refl : ∀ d : Dt, Dt.eqb d d = true
  | .non => by rw [Dt.eqb]
  | .bl _ => by simp [Dt.eqb]
  | .int _ => by simp [Dt.eqb]
  | .str _ => by simp [Dt.eqb]
  | .tup xs => by
    rw [Dt.eqb]
    exact eqbs_refl xs
theorem eqbs_refl : ∀ ds : List Dt, Dt.eqbs ds ds = true
  | [] => rfl
  | d :: ds => by
    rw [Dt.eqbs, eqb_refl d, eqbs_refl ds]
    rfl
end
section
variable {X : Cx} {pins : List (Addr × Obj)} {σ : St} {H : Hp} {s : Shared}
mutual
theorem DT.inj (I : Inv X pins σ H s) : ∀ (d e : Dt) (v : V), DT X.K H v d → DT X.K H v e → d = e
  | .non, e, v, h, k => by cases h; cases k; rfl
  | .bl b, e, v, h, k => by cases h; cases k; rfl
  | .int b, e, v, h, k => by cases h; cases k; rfl
  | .str b, e, v, h, k => by cases h; cases k; rfl
  | .tup ds, e, v, h, k => by
    cases h with
    | tup h1 h2 =>
      cases k with
      | tup k1 k2 =>
        cases I.tuple_inj h1 k1
        rw [DTs.inj I ds _ _ h2 k2]
theorem DTs.inj (I : Inv X pins σ H s) : ∀ (ds es : List Dt) (vs : List V), DTs X.K H vs ds → DTs X.K H vs es → ds = es
  | [], es, vs, h, k => by cases h; cases k; rfl
  | d :: ds, es, vs, h, k => by
    cases h with
    | cons h1 h2 =>
      cases k with
      | cons k1 k2 => rw [DT.inj I d _ _ h1 k1, DTs.inj I ds _ _ h2 k2]
end
theorem in1_units (A : Around) : A.in1.units = A.units + 1 := rfl
mutual
theorem eqAtD (I : Inv X pins σ H s) : ∀ (d e : Dt) (A : Around) (v u : V) (a b : Value), DT X.K H v d → DT X.K H u e → RelV v a → RelV u b → A.units + d.deep < cLine → SeqAt.EqAt A s a b (Dt.eqb d e)
  | .non, e, A, v, u, a, b, hd, he, ra, rb, hu => by
    cases hd
    cases (show a = Value.none from ra)
    cases he with
    | non => cases (show b = Value.none from rb); exact SeqAt.EqAt.same _
    | bl y => cases (show b = Value.bool y from rb); exact SeqAt.EqAt.none_bool y
    | int y => obtain ⟨t, q⟩ := (show ∃ t, b = Value.int y t from rb); cases q; exact SeqAt.EqAt.none_int y t
    | str y => obtain ⟨t, q⟩ := (show ∃ t, b = Value.str y t from rb); cases q; exact SeqAt.EqAt.none_str y t
    | tup k1 k2 =>
      cases (show b = Value.ref _ from rb)
      obtain ⟨its, _, p, _⟩ := I.tuple k1
      exact SeqAt.EqAt.none_tuple p (by omega)
  | .bl x, e, A, v, u, a, b, hd, he, ra, rb, hu => by
    cases hd
    cases (show a = Value.bool x from ra)
    cases he with
    | non => cases (show b = Value.none from rb); exact SeqAt.EqAt.bool_none x
    | bl y => cases (show b = Value.bool y from rb); exact SeqAt.EqAt.bool_bool x y
    | int y => obtain ⟨t, q⟩ := (show ∃ t, b = Value.int y t from rb); cases q; exact SeqAt.EqAt.bool_int x y t
    | str y => obtain ⟨t, q⟩ := (show ∃ t, b = Value.str y t from rb); cases q; exact SeqAt.EqAt.bool_str x y t
    | tup k1 k2 =>
      cases (show b = Value.ref _ from rb)
      obtain ⟨its, _, p, _⟩ := I.tuple k1
      exact SeqAt.EqAt.bool_tuple x p (by omega)
  | .int x, e, A, v, u, a, b, hd, he, ra, rb, hu => by
    cases hd
    obtain ⟨t0, q0⟩ := (show ∃ t, a = Value.int x t from ra)
    cases q0
    cases he with
    | non => cases (show b = Value.none from rb); exact SeqAt.EqAt.int_none x t0
    | bl y => cases (show b = Value.bool y from rb); exact SeqAt.EqAt.int_bool x t0 y
    | int y => obtain ⟨t, q⟩ := (show ∃ t, b = Value.int y t from rb); cases q; exact SeqAt.EqAt.int_int x t0 y t
    | str y => obtain ⟨t, q⟩ := (show ∃ t, b = Value.str y t from rb); cases q; exact SeqAt.EqAt.int_str x t0 y t
    | tup k1 k2 =>
      cases (show b = Value.ref _ from rb)
      obtain ⟨its, _, p, _⟩ := I.tuple k1
      exact SeqAt.EqAt.int_tuple x t0 p (by omega)
  | .str x, e, A, v, u, a, b, hd, he, ra, rb, hu => by
    cases hd
    obtain ⟨t0, q0⟩ := (show ∃ t, a = Value.str x t from ra)
    cases q0
    cases he with
    | non => cases (show b = Value.none from rb); exact SeqAt.EqAt.str_none x t0
    | bl y => cases (show b = Value.bool y from rb); exact SeqAt.EqAt.str_bool x t0 y
    | int y => obtain ⟨t, q⟩ := (show ∃ t, b = Value.int y t from rb); cases q; exact SeqAt.EqAt.str_int x t0 y t
    | str y => obtain ⟨t, q⟩ := (show ∃ t, b = Value.str y t from rb); cases q; exact SeqAt.EqAt.str_str x t0 y t
    | tup k1 k2 =>
      cases (show b = Value.ref _ from rb)
      obtain ⟨its, _, p, _⟩ := I.tuple k1
      exact SeqAt.EqAt.str_tuple x t0 p (by omega)
  | .tup ds, e, A, v, u, a, b, hd, he, ra, rb, hu => by
    cases hd with
    | @tup l vs _ h1 h2 =>
    cases (show a = Value.ref l from ra)
    obtain ⟨its, r1, p1, _⟩ := I.tuple h1
    cases he with
    | non => cases (show b = Value.none from rb); exact SeqAt.EqAt.tuple_none p1 (by omega)
    | bl y => cases (show b = Value.bool y from rb); exact SeqAt.EqAt.tuple_bool y p1 (by omega)
    | int y => obtain ⟨t, q⟩ := (show ∃ t, b = Value.int y t from rb); cases q; exact SeqAt.EqAt.tuple_int y t p1 (by omega)
    | str y => obtain ⟨t, q⟩ := (show ∃ t, b = Value.str y t from rb); cases q; exact SeqAt.EqAt.tuple_str y t p1 (by omega)
    | @tup l2 us es k1 k2 =>
      cases (show b = Value.ref l2 from rb)
      obtain ⟨its2, r2, p2, _⟩ := I.tuple k1
      by_cases hll : l = l2
      · subst hll
        cases I.tuple_inj h1 k1
        cases DTs.inj I ds es _ h2 k2
        rw [eqb_refl]
        exact SeqAt.EqAt.same _
      · have n1 : its.toArray.size = ds.length := by rw [List.size_toArray, ← r1.length, h2.length]
        have n2 : its2.toArray.size = es.length := by rw [List.size_toArray, ← r2.length, k2.length]
        show SeqAt.EqAt A s (.ref l) (.ref l2) (Dt.eqbs ds es)
        rw [← eqbs_all ds es, ← n1, ← n2]
        have hu' : A.in1.units + Dt.deeps ds < cLine := by
          rw [in1_units]
          unfold Dt.deep at hu
          omega
        refine SeqAt.EqAt.of_refs hll (SeqAt.RcAt.tuples p1 p2 (by unfold Dt.deep at hu; omega) fun j j1 j2 => ?_)
        have q := eqAtDs I ds es A.in1 vs us its its2 h2 k2 r1 r2 hu' j (by simpa using j1) (by simpa using j2)
        simpa using q
theorem eqAtDs (I : Inv X pins σ H s) : ∀ (ds es : List Dt) (A : Around) (vs us : List V) (as bs : List Value), DTs X.K H vs ds → DTs X.K H us es → Vals vs as → Vals us bs → A.units + Dt.deeps ds < cLine →
    ∀ j (h1 : j < as.length) (h2 : j < bs.length), SeqAt.EqAt A s as[j] bs[j] (pairD ds es j)
  | [], es, A, vs, us, as, bs, hd, he, ra, rb, hu, j, h1, h2 => by
    cases hd
    cases ra
    exact absurd h1 (Nat.not_lt_zero _)
  | d :: ds, es, A, vs, us, as, bs, hd, he, ra, rb, hu, j, h1, h2 => by
    cases hd with
    | cons x1 x2 =>
    cases ra with
    | cons r1 r2 =>
    unfold Dt.deeps at hu
    cases he with
    | nil =>
      cases rb
      exact absurd h2 (Nat.not_lt_zero _)
    | cons y1 y2 =>
      cases rb with
      | cons q1 q2 =>
        cases j with
        | zero => exact eqAtD I d _ A _ _ _ _ x1 y1 r1 q1 (by omega)
        | succ j => exact eqAtDs I ds _ A _ _ _ _ x2 y2 r2 q2 (by omega) j (Nat.lt_of_succ_lt_succ h1) (Nat.lt_of_succ_lt_succ h2)
end
end
/-- == of two tuples -/
def rEqT (K : PySem.W.Frag) : R2 := fun x y H Q => ∃ ds es, DT K H x (.tup ds) ∧ DT K H y (.tup es) ∧ Dt.deeps ds ≤ 60 ∧ Q (.bl (Dt.eqbs ds es)) H
theorem op_eqT {X : Cx} {K : PySem.W.Frag} (hK : X.K = K) (hu : X.A.units + 64 < cLine) : OpR X (compareOp .Eq) (rEqT K) := by
  subst hK
  intro pins s σ H x y v u Q I rx ry h
  obtain ⟨ds, es, hd, he, hz, q⟩ := h
  cases hd with
  | @tup l vs _ h1 h2 =>
  cases (show v = Value.ref l from rx)
  obtain ⟨its, r1, p1, _⟩ := I.tuple h1
  cases he with
  | @tup l2 us _ k1 k2 =>
  cases (show u = Value.ref l2 from ry)
  obtain ⟨its2, r2, p2, _⟩ := I.tuple k1
  have n1 : its.toArray.size = ds.length := by rw [List.size_toArray, ← r1.length, h2.length]
  have n2 : its2.toArray.size = es.length := by rw [List.size_toArray, ← r2.length, k2.length]
  have z : SeqAt.RcAt X.A s (.ref l) (.ref l2) (Dt.eqbs ds es) := by
    rw [← eqbs_all ds es, ← n1, ← n2]
    refine SeqAt.RcAt.tuples p1 p2 (by omega) fun j j1 j2 => ?_
    have q := eqAtDs I ds es X.A.in1 vs us its its2 h2 k2 r1 r2 (by rw [in1_units]; omega) j (by simpa using j1) (by simpa using j2)
    simpa using q
  exact z X.prog X.w X.xe _ ⟨.bl _, H, I, rfl, q⟩
end My

namespace My
open PySem L2 PySem.SeqAt
open PySem.AutoSeq1 (wpAny_loadPart')
open PySem.MeetsSeq PySem.MeetsSeq2 PySem.MeetsSeq3
/-- a < b of two tuples, where only the first unequal pair is asked for its order -/
theorem ltFirst (l b : Addr) (xs ys : Array Value) (n n2 : Nat) (dd dd2 : Option Addr) (sl sl2 : Array (Option Value)) (e r : Nat → Bool) :
    Meets (Builtin.«tuple.__lt__» ⟨[.ref l, .ref b], []⟩)
      (fun A R s => s.heap.get? l = some { cls := .type "tuple", dict := dd, data := .seq xs n, slots := sl } ∧ s.heap.get? b = some { cls := .type "tuple", dict := dd2, data := .seq ys n2, slots := sl2 } ∧
        (∀ j (k1 : j < xs.size) (k2 : j < ys.size), EqAt A.in1 s xs[j] ys[j] (e j)) ∧
        (∀ j (k1 : j < xs.size) (k2 : j < ys.size), (∀ i, i < j → e i = true) → e j = false → Ob.RcOp .Lt A.in1 s xs[j] ys[j] (r j)) ∧
        R (.ok (.ret (.bool (Ob.lexAt e r (decide (xs.size < ys.size)) 0 (min xs.size ys.size))))) s) :=
  .of_wp fun prog w A R s h => by
    obtain ⟨hp, g, d, tk, os⟩ := s
    obtain ⟨hl, hb, he, hr, h⟩ := h
    have f2 := AutoSeq1.sub_tuple_tuple
    have hZ : (xs.toList.zip ys.toList).length = min xs.size ys.size := by simp
    wp_walk using wpAny_loadPart' hl, wpAny_loadPart' hb, wpAny_forIn_list _ (fun rest acc s' => acc.1 = none ∧ s' = ⟨hp, g, d, tk, os⟩ ∧ ∃ i, rest = (xs.toList.zip ys.toList).drop i ∧ (∀ i', i' < i → e i' = true) ∧
      R (.ok (.ret (.bool (Ob.lexAt e r (decide (xs.size < ys.size)) i (min xs.size ys.size - i))))) ⟨hp, g, d, tk, os⟩) _
    case turn =>
      rintro ⟨y, x⟩ rest acc s' ⟨hacc, rfl, i, hz, hpre, hR⟩
      have hlt : i < (xs.toList.zip ys.toList).length := by
        apply Nat.lt_of_not_le
        intro hge
        rw [List.drop_of_length_le hge] at hz
        cases hz
      have hmin : i < min xs.size ys.size := by omega
      have k1 : i < xs.size := by omega
      have k2 : i < ys.size := by omega
      rw [List.drop_eq_getElem_cons hlt] at hz
      injection hz with hyx hrest
      have ey : y = xs[i] := by simpa using congrArg Prod.fst hyx
      have ex : x = ys[i] := by simpa using congrArg Prod.snd hyx
      subst ey ex
      rw [show min xs.size ys.size - i = (min xs.size ys.size - (i + 1)) + 1 by omega, Ob.lexAt_succ] at hR
      refine wpAny_bind (he i k1 k2 prog w _ _ ?_)
      cases hei : e i with
      | true =>
        rw [hei, if_pos rfl] at hR
        wp_walk
        refine ⟨rfl, rfl, i + 1, hrest, fun i' hi' => ?_, hR⟩
        by_cases q : i' = i
        · rw [q]; exact hei
        · exact hpre i' (by omega)
      | false =>
        rw [hei, if_neg Bool.false_ne_true] at hR
        have hri := hr i k1 k2 hpre hei prog w
        wp_walk using hri
        exact ⟨_, rfl, by simpa using hR⟩
    case fin =>
      rintro ⟨b1, b2⟩ s' ⟨hacc, rfl, i, hz, hpre, hR⟩
      simp only at hacc
      subst hacc
      have hge : min xs.size ys.size ≤ i := by
        apply Nat.le_of_not_lt
        intro hlt
        rw [List.drop_eq_getElem_cons (by omega)] at hz
        cases hz
      rw [Nat.sub_eq_zero_of_le hge, Ob.lexAt_zero] at hR
      wp_walk
      exact ⟨_, rfl, by simpa [Builtin.Tuple.tupleCompareSizes] using hR⟩
    case h =>
      exact ⟨rfl, rfl, 0, rfl, fun i' hi' => absurd hi' (Nat.not_lt_zero _), by simpa using h⟩
theorem rcFirst {A : Around} {s : Shared} {l b : Addr} {xs ys : Array Value} {e r : Nat → Bool} (hl : s.heap.IsTuple l xs) (hb : s.heap.IsTuple b ys) (hu : A.units < cLine)
    (he : ∀ j (k1 : j < xs.size) (k2 : j < ys.size), EqAt A.in1 s xs[j] ys[j] (e j))
    (hr : ∀ j (k1 : j < xs.size) (k2 : j < ys.size), (∀ i, i < j → e i = true) → e j = false → Ob.RcOp .Lt A.in1 s xs[j] ys[j] (r j)) :
    Ob.RcOp .Lt A s (.ref l) (.ref b) (Ob.lexAt e r (decide (xs.size < ys.size)) 0 (min xs.size ys.size)) := fun prog w E Q h => by
  obtain ⟨⟨c1, d1, t1, s1⟩, o1, z1, n, y1⟩ := id hl
  obtain ⟨⟨c2, d2, t2, s2⟩, o2, z2, n2, y2⟩ := id hb
  simp only at z1 y1 z2 y2
  subst z1 y1 z2 y2
  refine richCompare_meets_room (op := .Lt) ⟨_, o1, rfl⟩ ⟨_, o2, rfl⟩ F.slot_tuple_lt F.entry_tuple_lt (F.args_tuple_lt_2 _ _) (ltFirst l b xs ys n n2 d1 d2 s1 s2 e r) ?_ hu
  exact ⟨o1, o2, he, hr, ⟨(fun x => nomatch x), h⟩⟩

/-! ### the order of plain data -/
mutual
def Dt.lt? : Dt → Dt → Option Bool
  | .int a, e => match e with | .int b => some (decide (a < b)) | _ => none
  | .str a, e => match e with | .str b => some (decide (a.cps.toList < b.cps.toList)) | _ => none
  | .tup xs, e => match e with | .tup ys => Dt.lts? xs ys | _ => none
  | .non, _ => none
  | .bl _, _ => none
def Dt.lts? : List Dt → List Dt → Option Bool
  | [], ys => some (!ys.isEmpty)
  | x :: xs, ys => match ys with | [] => some false | y :: r => if Dt.eqb x y = true then Dt.lts? xs r else Dt.lt? x y
end
abbrev ordD (xs ys : List Dt) (j : Nat) : Bool := (Dt.lt? (xs.getD j .non) (ys.getD j .non)).getD false
theorem lexAt_shift {e r : Nat → Bool} {z : Bool} : ∀ (k i : Nat), Ob.lexAt (fun j => e (j + 1)) (fun j => r (j + 1)) z i k = Ob.lexAt e r z (i + 1) k
  | 0, i => rfl
  | k + 1, i => by
    rw [Ob.lexAt_succ, Ob.lexAt_succ, lexAt_shift k (i + 1)]
theorem lts_lex : ∀ (xs ys : List Dt) (b : Bool), Dt.lts? xs ys = some b → Ob.lexAt (pairD xs ys) (ordD xs ys) (decide (xs.length < ys.length)) 0 (min xs.length ys.length) = b
  | [], [], b, h => by simpa [Dt.lts?, Ob.lexAt_zero] using h
  | [], y :: ys, b, h => by simpa [Dt.lts?, Ob.lexAt_zero] using h
  | x :: xs, [], b, h => by simpa [Dt.lts?, Ob.lexAt_zero] using h
  | x :: xs, y :: ys, b, h => by
    rw [Dt.lts?] at h
    have q1 : min (x :: xs).length (y :: ys).length = min xs.length ys.length + 1 := by rw [List.length_cons, List.length_cons]; omega
    have q2 : decide ((x :: xs).length < (y :: ys).length) = decide (xs.length < ys.length) := by simp
    rw [q1, q2, Ob.lexAt_succ]
    by_cases c : Dt.eqb x y = true
    · rw [if_pos c] at h
      have c' : pairD (x :: xs) (y :: ys) 0 = true := c
      rw [if_pos c', ← lexAt_shift]
      exact lts_lex xs ys b h
    · rw [if_neg c] at h
      have c' : ¬ pairD (x :: xs) (y :: ys) 0 = true := c
      rw [if_neg c']
      show (Dt.lt? x y).getD false = b
      rw [h]
      rfl
section
variable {X : Cx} {pins : List (Addr × Obj)} {σ : St} {H : Hp} {s : Shared}
mutual
theorem ltAtD (I : Inv X pins σ H s) : ∀ (d e : Dt) (A : Around) (v u : V) (a b : Value) (k : Bool), DT X.K H v d → DT X.K H u e → RelV v a → RelV u b → A.units + d.deep < cLine → Dt.lt? d e = some k → Ob.RcOp .Lt A s a b k
  | .non, e, A, v, u, a, b, k, hd, he, ra, rb, hu, hk => by cases hk
  | .bl x, e, A, v, u, a, b, k, hd, he, ra, rb, hu, hk => by cases hk
  | .int x, e, A, v, u, a, b, k, hd, he, ra, rb, hu, hk => by
    cases hd
    obtain ⟨t0, q0⟩ := (show ∃ t, a = Value.int x t from ra)
    cases q0
    cases he with
    | int y =>
      obtain ⟨t, q⟩ := (show ∃ t, b = Value.int y t from rb)
      cases q
      cases (show some (decide (x < y)) = some k from hk)
      exact Ob.RcOp.lt_int x y t0 t
    | _ => cases hk
  | .str x, e, A, v, u, a, b, k, hd, he, ra, rb, hu, hk => by
    cases hd
    obtain ⟨t0, q0⟩ := (show ∃ t, a = Value.str x t from ra)
    cases q0
    cases he with
    | str y =>
      obtain ⟨t, q⟩ := (show ∃ t, b = Value.str y t from rb)
      cases q
      cases (show some (decide (x.cps.toList < y.cps.toList)) = some k from hk)
      exact fun prog w E Q h => PyProof.Rows.lt_str h
    | _ => cases hk
  | .tup ds, e, A, v, u, a, b, k, hd, he, ra, rb, hu, hk => by
    cases hd with
    | @tup l vs _ h1 h2 =>
    cases (show a = Value.ref l from ra)
    obtain ⟨its, r1, p1, _⟩ := I.tuple h1
    cases he with
    | @tup l2 us es k1 k2 =>
      cases (show b = Value.ref l2 from rb)
      obtain ⟨its2, r2, p2, _⟩ := I.tuple k1
      have n1 : its.toArray.size = ds.length := by rw [List.size_toArray, ← r1.length, h2.length]
      have n2 : its2.toArray.size = es.length := by rw [List.size_toArray, ← r2.length, k2.length]
      have hk' : Dt.lts? ds es = some k := hk
      rw [← lts_lex ds es k hk', ← n1, ← n2]
      have hu' : A.in1.units + Dt.deeps ds < cLine := by
        rw [in1_units]
        unfold Dt.deep at hu
        omega
      refine rcFirst p1 p2 (by unfold Dt.deep at hu; omega) (fun j j1 j2 => ?_) (fun j j1 j2 jp jf => ?_)
      · have q := eqAtDs I ds es A.in1 vs us its its2 h2 k2 r1 r2 hu' j (by simpa using j1) (by simpa using j2)
        simpa using q
      · have q := ltAtDs I ds es A.in1 vs us its its2 k h2 k2 r1 r2 hu' hk' j (by simpa using j1) (by simpa using j2) jp jf
        simpa using q
    | _ => cases hk
theorem ltAtDs (I : Inv X pins σ H s) : ∀ (ds es : List Dt) (A : Around) (vs us : List V) (as bs : List Value) (k : Bool), DTs X.K H vs ds → DTs X.K H us es → Vals vs as → Vals us bs → A.units + Dt.deeps ds < cLine → Dt.lts? ds es = some k →
    ∀ j (h1 : j < as.length) (h2 : j < bs.length), (∀ i, i < j → pairD ds es i = true) → pairD ds es j = false → Ob.RcOp .Lt A s as[j] bs[j] (ordD ds es j)
  | [], es, A, vs, us, as, bs, k, hd, he, ra, rb, hu, hk, j, h1, h2, jp, jf => by
    cases hd
    cases ra
    exact absurd h1 (Nat.not_lt_zero _)
  | d :: ds, es, A, vs, us, as, bs, k, hd, he, ra, rb, hu, hk, j, h1, h2, jp, jf => by
    cases hd with
    | cons x1 x2 =>
    cases ra with
    | cons r1 r2 =>
    unfold Dt.deeps at hu
    cases he with
    | nil =>
      cases rb
      exact absurd h2 (Nat.not_lt_zero _)
    | @cons _ _ e es' y1 y2 =>
      cases rb with
      | cons q1 q2 =>
        rw [Dt.lts?] at hk
        cases j with
        | zero =>
          have c : ¬ Dt.eqb d e = true := by
            have : Dt.eqb d e = false := jf
            rw [this]; exact Bool.false_ne_true
          rw [if_neg c] at hk
          have z := ltAtD I d e A _ _ _ _ k x1 y1 r1 q1 (by omega) hk
          have ek : ordD (d :: ds) (e :: es') 0 = k := by
            show (Dt.lt? d e).getD false = k
            rw [hk]; rfl
          rw [ek]
          exact z
        | succ j =>
          have c : Dt.eqb d e = true := jp 0 (Nat.succ_pos _)
          rw [if_pos c] at hk
          exact ltAtDs I ds es' A _ _ _ _ k x2 y2 r2 q2 (by omega) hk j (Nat.lt_of_succ_lt_succ h1) (Nat.lt_of_succ_lt_succ h2) (fun i hi => jp (i + 1) (Nat.succ_lt_succ hi)) jf
end
end
/-- < of two tuples -/
def rLtTD (K : PySem.W.Frag) : R2 := fun x y H Q => ∃ ds es k, DT K H x (.tup ds) ∧ DT K H y (.tup es) ∧ Dt.deeps ds ≤ 60 ∧ Dt.lts? ds es = some k ∧ Q (.bl k) H
theorem op_ltTD {X : Cx} {K : PySem.W.Frag} (hK : X.K = K) (hu : X.A.units + 64 < cLine) : OpR X (compareOp .Lt) (rLtTD K) := by
  subst hK
  intro pins s σ H x y v u Q I rx ry h
  obtain ⟨ds, es, k, hd, he, hz, hk, q⟩ := h
  exact ltAtD I (.tup ds) (.tup es) X.A x y v u k hd he rx ry (by unfold Dt.deep; omega) hk X.prog X.w X.xe _ ⟨.bl _, H, I, rfl, q⟩
end My

namespace My
open PySem L2
/-! ### slices and sums of tuples, one way -/
section
variable {K : PySem.W.Frag} {H : Hp}
theorem slA_of {a : Addr} {xs : List V} {lo hi : Option Int} {Q : VK} (h : SqT K H a xs) (q : ∀ p H', Same H H' → SqT K H' p (cutV xs lo hi) → Q (.ref p) H') : rSlA K (.ref a) lo hi H Q := by
  refine ⟨a, xs, rfl, h, fun e => q a H (Same.refl H) ?_, fun _ p hp => q p _ (same_new hp _) (SqT.of upd_same)⟩
  have ec : cutV xs lo hi = xs := by
    unfold cutV
    rw [e.1, e.2, List.drop_zero, Nat.sub_zero, List.take_length]
  rw [ec]
  exact h
theorem catA_of {a b : Addr} {xs ys : List V} {Q : VK} (h : SqT K H a xs) (k : SqT K H b ys) (hl : xs.length + ys.length ≤ sizeLine) (q : ∀ p H', Same H H' → SqT K H' p (xs ++ ys) → Q (.ref p) H') : rCatA K (.ref a) (.ref b) H Q := by
  refine ⟨a, b, xs, ys, rfl, rfl, h, k, hl, fun e => ?_, fun _ e => ?_, fun _ _ p hp => q p _ (same_new hp _) (SqT.of upd_same)⟩
  · subst e
    exact q b H (Same.refl H) k
  · subst e
    refine q a H (Same.refl H) ?_
    rw [List.append_nil]
    exact h
end
/-! ### data of the model stand as long as nothing changes -/
mutual
theorem Dp.mono {K : PySem.W.Frag} {H H' : Hp} (k : ∀ a xs, SqT K H a xs → SqT K H' a xs) (k2 : ∀ a xs, SqL K H a xs → SqL K H' a xs) : ∀ (d : PyData) (v : V), Dp K H v d → Dp K H' v d
  | .none, _, h => by cases h; exact .non
  | .bool b, _, h => by cases h; exact .bl _
  | .int b, _, h => by cases h; exact .int _
  | .str b, _, h => by cases h; exact .str _
  | .list ds, _, h => by
    cases h with
    | lst h1 h2 => exact .lst (k2 _ _ h1) (DpAll.mono k k2 ds _ h2)
  | .tuple ds, _, h => by
    cases h with
    | tup h1 h2 => exact .tup (k _ _ h1) (DpAll.mono k k2 ds _ h2)
  | .dict _, _, h => by cases h
theorem DpAll.mono {K : PySem.W.Frag} {H H' : Hp} (k : ∀ a xs, SqT K H a xs → SqT K H' a xs) (k2 : ∀ a xs, SqL K H a xs → SqL K H' a xs) : ∀ (ds : List PyData) (vs : List V), DpAll K H vs ds → DpAll K H' vs ds
  | [], _, h => by cases h; exact .nil
  | d :: ds, _, h => by
    cases h with
    | cons h1 h2 => exact .cons (Dp.mono k k2 d _ h1) (DpAll.mono k k2 ds _ h2)
end
theorem _root_.L2.Dp.same {K : PySem.W.Frag} {H H' : Hp} {d : PyData} {v : V} (h : Dp K H v d) (e : Same H H') : Dp K H' v d := Dp.mono (fun _ _ q => e.seqT q) (fun _ _ q => e.seq q) d v h
theorem _root_.L2.DpAll.same {K : PySem.W.Frag} {H H' : Hp} {d : List PyData} {v : List V} (h : DpAll K H v d) (e : Same H H') : DpAll K H' v d := DpAll.mono (fun _ _ q => e.seqT q) (fun _ _ q => e.seq q) d v h
theorem _root_.L2.DpAll.append {K : PySem.W.Frag} {H : Hp} {vs us : List V} {ds es : List PyData} (h : DpAll K H vs ds) (k : DpAll K H us es) : DpAll K H (vs ++ us) (ds ++ es) := by
  induction ds generalizing vs with
  | nil => cases h; exact k
  | cons d ds ih =>
    cases h with
    | cons h1 h2 => exact .cons h1 (ih h2)
/-- the order of alike data -/
def rLtP (K : PySem.W.Frag) : R2 := fun x y H Q => ∃ d e, Dp K H x d ∧ Dp K H y e ∧ PySem.W.alike d e = true ∧ d ≠ .none ∧ d.depth ≤ 60 ∧ Q (.bl (PySem.W.dataLt d e)) H
def rGtP (K : PySem.W.Frag) : R2 := fun x y H Q => ∃ d e, Dp K H x d ∧ Dp K H y e ∧ PySem.W.alike d e = true ∧ d ≠ .none ∧ d.depth ≤ 60 ∧ Q (.bl (PySem.W.dataLt e d)) H
section
variable {X : Cx} {K : PySem.W.Frag}
theorem op_ltP (hK : X.K = K) (hu : X.A.units + 64 < cLine) : OpR X (compareOp .Lt) (rLtP K) := by
  subst hK
  intro pins s σ H x y v u Q I rx ry h
  obtain ⟨d, e, hd, he, ha, hn, hz, q⟩ := h
  obtain ⟨as, r1⟩ := L2.Dp.reads I d x v hd rx
  obtain ⟨bs, r2⟩ := L2.Dp.reads I e y u he ry
  exact PySem.W.lt_data r1 r2 ha hn (by have := Nat.min_le_left d.depth e.depth; omega) ⟨.bl _, H, I, rfl, q⟩
theorem op_gtP (hK : X.K = K) (hu : X.A.units + 64 < cLine) : OpR X (compareOp .Gt) (rGtP K) := by
  subst hK
  intro pins s σ H x y v u Q I rx ry h
  obtain ⟨d, e, hd, he, ha, hn, hz, q⟩ := h
  obtain ⟨as, r1⟩ := L2.Dp.reads I d x v hd rx
  obtain ⟨bs, r2⟩ := L2.Dp.reads I e y u he ry
  exact PySem.W.gt_data r1 r2 ha hn (by have := Nat.min_le_left d.depth e.depth; omega) ⟨.bl _, H, I, rfl, q⟩
end
/-! ### the order of texts -/
def rkT (z : Str) : List Dt := [.int z.length, .str z]
/-- -1, 0, 1 -/
def cmpD (ds es : List Dt) : Int := if Dt.eqbs ds es = true then 0 else if Dt.lts? ds es = some true then -1 else 1
def ltC (a b : List Nat) : Prop := a.length < b.length ∨ (a.length = b.length ∧ a < b)
instance (a b : List Nat) : Decidable (ltC a b) := by unfold ltC; exact inferInstance
def cmpC (a b : List Nat) : Int := if a = b then 0 else if ltC a b then -1 else 1
theorem ltC_irrefl (a : List Nat) : ¬ ltC a a := fun h => h.elim (fun q => Nat.lt_irrefl _ q) (fun q => List.lt_irrefl _ q.2)
theorem ltC_asymm {a b : List Nat} (h : ltC a b) : ¬ ltC b a := fun k => by
  rcases h with h | ⟨h, h'⟩ <;> rcases k with k | ⟨k, k'⟩
  · omega
  · omega
  · omega
  · exact List.lt_asymm h' k'
theorem ltC_total {a b : List Nat} (h : a ≠ b) : ltC a b ∨ ltC b a := by
  rcases Nat.lt_trichotomy a.length b.length with k | k | k
  · exact .inl (.inl k)
  · by_cases c : a < b
    · exact .inl (.inr ⟨k, c⟩)
    · have c' : b ≤ a := List.not_lt.mp c
      rcases List.le_iff_lt_or_eq.mp c' with d | d
      · exact .inr (.inr ⟨k.symm, d⟩)
      · exact absurd d.symm h
  · exact .inr (.inl k)
theorem eqbs_rkT (a b : Str) : Dt.eqbs (rkT a) (rkT b) = decide (a.cps.toList = b.cps.toList) := by
  by_cases c : a.cps.toList = b.cps.toList
  · have e := str_ext c
    subst e
    rw [eqbs_refl, decide_eq_true rfl]
  · rw [decide_eq_false c]
    show (((a.length : Int) == (b.length : Int)) && ((a == b) && true)) = false
    have e : (a == b) = false := by
      rw [beq_eq_false_iff_ne]
      intro q
      exact c (by rw [q])
    rw [e]
    simp
theorem lts_rkT (a b : Str) (h : a.cps.toList ≠ b.cps.toList) : Dt.lts? (rkT a) (rkT b) = some (decide (ltC a.cps.toList b.cps.toList)) := by
  have la := len_codes a
  have lb := len_codes b
  show (if Dt.eqb (.int a.length) (.int b.length) = true then (if Dt.eqb (.str a) (.str b) = true then Dt.lts? [] [] else some (decide (a.cps.toList < b.cps.toList))) else some (decide ((a.length : Int) < (b.length : Int)))) = _
  have e1 : Dt.eqb (.int a.length) (.int b.length) = decide (a.length = b.length) := by
    show ((a.length : Int) == (b.length : Int)) = _
    rw [Bool.beq_eq_decide_eq]
    exact decide_eq_decide.mpr ⟨by omega, by omega⟩
  have e2 : Dt.eqb (.str a) (.str b) = false := by
    show (a == b) = false
    rw [beq_eq_false_iff_ne]
    intro q
    exact h (by rw [q])
  rw [e1, e2]
  by_cases c : a.length = b.length
  · rw [decide_eq_true c, if_pos rfl, if_neg Bool.false_ne_true]
    congr 1
    exact decide_eq_decide.mpr ⟨fun q => .inr ⟨by rw [la, lb]; exact c, q⟩, fun q => Or.elim q (fun z => absurd z (by omega)) (·.2)⟩
  · rw [decide_eq_false c, if_neg Bool.false_ne_true]
    congr 1
    exact decide_eq_decide.mpr ⟨fun q => .inl (by omega), fun q => Or.elim q (fun z => by omega) (fun z => absurd z.1 (by omega))⟩
theorem lts_same (ds : List Dt) : Dt.lts? ds ds = some false := by
  induction ds with
  | nil => rfl
  | cons d ds ih => rw [Dt.lts?, if_pos (eqb_refl d), ih]
theorem lts_rkT_any (a b : Str) : ∃ k, Dt.lts? (rkT a) (rkT b) = some k := by
  by_cases c : a.cps.toList = b.cps.toList
  · rw [str_ext c]
    exact ⟨_, lts_same _⟩
  · exact ⟨_, lts_rkT a b c⟩
theorem cmpD_rkT (a b : Str) : cmpD (rkT a) (rkT b) = cmpC a.cps.toList b.cps.toList := by
  unfold cmpD cmpC
  rw [eqbs_rkT]
  by_cases c : a.cps.toList = b.cps.toList
  · rw [decide_eq_true c, if_pos rfl, if_pos c]
  · rw [decide_eq_false c, if_neg Bool.false_ne_true, if_neg c, lts_rkT a b c]
    by_cases d : ltC a.cps.toList b.cps.toList
    · rw [decide_eq_true d, if_pos rfl, if_pos d]
    · rw [decide_eq_false d, if_neg (by intro z; cases z), if_neg d]
/-! ### the order of paths -/
/-- the path as comes first -/
def ltP : List Str → List Str → Bool
  | [], bs => !bs.isEmpty
  | a :: as, bs => match bs with
    | [] => false
    | b :: bs => if a = b then ltP as bs else decide (ltC a.cps.toList b.cps.toList)
def cmpP (as bs : List Str) : Int := if as = bs then 0 else if ltP as bs = true then -1 else 1
theorem codes_ne {a b : Str} (h : a ≠ b) : a.cps.toList ≠ b.cps.toList := fun q => h (str_ext q)
theorem ltP_irrefl : ∀ as, ltP as as = false
  | [] => rfl
  | a :: as => by rw [ltP, if_pos rfl, ltP_irrefl as]
theorem ltP_asymm : ∀ as bs, ltP as bs = true → ltP bs as = false
  | [], [], h => rfl
  | [], b :: bs, h => rfl
  | a :: as, [], h => by cases h
  | a :: as, b :: bs, h => by
    rw [ltP] at h ⊢
    by_cases c : a = b
    · subst c
      rw [if_pos rfl] at h ⊢
      exact ltP_asymm as bs h
    · rw [if_neg c] at h
      rw [if_neg (fun q => c q.symm)]
      exact decide_eq_false (ltC_asymm (of_decide_eq_true h))
theorem ltP_total : ∀ as bs, as ≠ bs → ltP as bs = true ∨ ltP bs as = true
  | [], [], h => absurd rfl h
  | [], b :: bs, h => .inl rfl
  | a :: as, [], h => .inr rfl
  | a :: as, b :: bs, h => by
    rw [ltP, ltP]
    by_cases c : a = b
    · subst c
      rw [if_pos rfl, if_pos rfl]
      exact ltP_total as bs fun q => h (by rw [q])
    · rw [if_neg c, if_neg (fun q => c q.symm)]
      exact (ltC_total (codes_ne c)).imp decide_eq_true decide_eq_true
theorem cmpP_sign (as bs : List Str) : cmpP as bs = (if ltP bs as = true then (1 : Int) else 0) - (if ltP as bs = true then 1 else 0) := by
  unfold cmpP
  by_cases c : as = bs
  · subst c
    rw [if_pos rfl, ltP_irrefl]
    rfl
  · rw [if_neg c]
    by_cases d : ltP as bs = true
    · rw [if_pos d, if_pos d, ltP_asymm _ _ d]
      rfl
    · have e := (ltP_total as bs c).resolve_left d
      rw [if_neg d, if_neg d, if_pos e]
      rfl
/-- what orders paths -/
def rkP (ks : List Str) : List Dt := ks.map fun k => .tup (rkT k)
theorem eqbs_rkP : ∀ as bs, Dt.eqbs (rkP as) (rkP bs) = decide (as = bs)
  | [], [] => rfl
  | [], b :: bs => rfl
  | a :: as, [] => rfl
  | a :: as, b :: bs => by
    have ih := eqbs_rkP as bs
    show (Dt.eqbs (rkT a) (rkT b) && Dt.eqbs (rkP as) (rkP bs)) = _
    rw [ih, eqbs_rkT, ← Bool.decide_and]
    exact decide_eq_decide.mpr ⟨fun q => by rw [str_ext q.1, q.2], fun q => by cases q; exact ⟨rfl, rfl⟩⟩
theorem lts_rkP : ∀ as bs, Dt.lts? (rkP as) (rkP bs) = some (ltP as bs)
  | [], [] => rfl
  | [], b :: bs => rfl
  | a :: as, [] => rfl
  | a :: as, b :: bs => by
    have ih := lts_rkP as bs
    show (if Dt.eqbs (rkT a) (rkT b) = true then Dt.lts? (rkP as) (rkP bs) else Dt.lts? (rkT a) (rkT b)) = _
    rw [eqbs_rkT, ih, ltP]
    by_cases c : a = b
    · subst c
      rw [decide_eq_true rfl, if_pos rfl, if_pos rfl]
    · rw [decide_eq_false (codes_ne c), if_neg Bool.false_ne_true, if_neg c, lts_rkT a b (codes_ne c)]
theorem cmpD_rkP (as bs : List Str) : cmpD (rkP as) (rkP bs) = cmpP as bs := by
  unfold cmpD cmpP
  rw [eqbs_rkP, lts_rkP]
  by_cases c : as = bs
  · rw [decide_eq_true c, if_pos rfl, if_pos c]
  · rw [decide_eq_false c, if_neg Bool.false_ne_true, if_neg c]
    by_cases d : ltP as bs = true
    · rw [d, if_pos rfl, if_pos rfl]
    · rw [if_neg d, if_neg]
      intro z
      exact d (Option.some.inj z)
theorem deeps_rkP : ∀ ks : List Str, Dt.deeps (rkP ks) ≤ 2
  | [] => by decide
  | k :: ks => by
    have := deeps_rkP ks
    have e : Dt.deep (.tup (rkT k)) = 2 := rfl
    show max (Dt.deep (.tup (rkT k))) (Dt.deeps (rkP ks)) ≤ 2
    omega
/-! ### the same as data of the model -/
def dK (k : Str) : PyData := .tuple [.int k.length, .str k]
theorem alike_dK (a b : Str) : PySem.W.alike (dK a) (dK b) = true := rfl
theorem eqv_dK (a b : Str) : PyData.eqv (dK a) (dK b) = decide (a = b) := by
  show (((a.length : Int) == (b.length : Int)) && ((a == b) && true)) = _
  by_cases c : a = b
  · subst c; simp
  · have e : (a == b) = false := by rw [beq_eq_false_iff_ne]; exact c
    rw [e, decide_eq_false c]
    simp
theorem dataLt_dK (a b : Str) (h : a ≠ b) : PySem.W.dataLt (dK a) (dK b) = decide (ltC a.cps.toList b.cps.toList) := by
  have la := len_codes a
  have lb := len_codes b
  show PySem.W.dataLt (.tuple [.int a.length, .str a]) (.tuple [.int b.length, .str b]) = _
  rw [PySem.W.dataLt_pair rfl rfl, PySem.W.dataLt_int, PySem.W.dataLt_str]
  have e1 : PyData.eqv (.int a.length) (.int b.length) = decide (a.length = b.length) := by
    show ((a.length : Int) == (b.length : Int)) = _
    rw [Bool.beq_eq_decide_eq]
    exact decide_eq_decide.mpr ⟨by omega, by omega⟩
  have e2 : PyData.eqv (.str a) (.str b) = false := by
    show (a == b) = false
    rw [beq_eq_false_iff_ne]
    exact h
  rw [e1, e2, if_neg Bool.false_ne_true]
  by_cases c : a.length = b.length
  · rw [decide_eq_true c, if_pos rfl]
    exact decide_eq_decide.mpr ⟨fun q => .inr ⟨by rw [la, lb]; exact c, q⟩, fun q => Or.elim q (fun z => absurd z (by omega)) (·.2)⟩
  · rw [decide_eq_false c, if_neg Bool.false_ne_true]
    exact decide_eq_decide.mpr ⟨fun q => .inl (by omega), fun q => Or.elim q (fun z => by omega) (fun z => absurd z.1 (by omega))⟩
theorem alike_rows : ∀ as bs : List Str, PySem.W.alikeAll (as.map dK) (bs.map dK) = true
  | [], bs => by cases bs <;> rfl
  | a :: as, [] => rfl
  | a :: as, b :: bs => by
    rw [List.map_cons, List.map_cons, PySem.W.alikeAll, alike_dK, alike_rows as bs]
    rfl
theorem rowLt_rows : ∀ as bs : List Str, PySem.W.dataLt (.list (as.map dK)) (.list (bs.map dK)) = ltP as bs
  | [], [] => rfl
  | [], b :: bs => rfl
  | a :: as, [] => rfl
  | a :: as, b :: bs => by
    have ih := rowLt_rows as bs
    rw [PySem.W.dataLt_list] at ih ⊢
    rw [List.map_cons, List.map_cons, PySem.W.dataLt_cons (alike_dK a b), eqv_dK, ih, ltP]
    by_cases c : a = b
    · rw [decide_eq_true c, if_pos rfl, if_pos c]
    · rw [decide_eq_false c, if_neg Bool.false_ne_true, if_neg c, dataLt_dK a b c]
theorem depth_rows : ∀ as : List Str, PyData.depthAll (as.map dK) ≤ 1
  | [] => by decide
  | a :: as => by
    have := depth_rows as
    rw [List.map_cons, PyData.depthAll]
    have e : PyData.depth (dK a) = 1 := rfl
    omega
theorem depth_list (as : List Str) : PyData.depth (.list (as.map dK)) ≤ 60 := by
  have := depth_rows as
  rw [PyData.depth]
  omega
/-- paths as data -/
def ptD (ks : List Str) : Dt := .tup (ks.map .str)
theorem eqbs_strs : ∀ as bs : List Str, Dt.eqbs (as.map .str) (bs.map .str) = decide (as = bs)
  | [], [] => rfl
  | [], b :: bs => rfl
  | a :: as, [] => rfl
  | a :: as, b :: bs => by
    have ih := eqbs_strs as bs
    show ((a == b) && Dt.eqbs (as.map .str) (bs.map .str)) = _
    rw [ih]
    by_cases c : a = b
    · subst c
      simp
    · have e : (a == b) = false := by rw [beq_eq_false_iff_ne]; exact c
      rw [e, Bool.false_and, decide_eq_false]
      intro q
      cases q
      exact c rfl
theorem DTs.strs_inv {K : PySem.W.Frag} {H : Hp} {vs : List V} {ws : List Str} (h : DTs K H vs (ws.map Dt.str)) : vs = ws.map V.str := by
  induction ws generalizing vs with
  | nil => cases h; rfl
  | cons w ws ih =>
    cases h with
    | cons h1 h2 => cases h1; rw [ih h2]; rfl
/-- rows of a rank hold no list -/
theorem DpAll.rows {K : PySem.W.Frag} {H H' : Hp} (k : ∀ a xs, SqT K H a xs → SqT K H' a xs) : ∀ (ks : List Str) (vs : List V), DpAll K H vs (ks.map dK) → DpAll K H' vs (ks.map dK)
  | [], vs, h => by cases h; exact .nil
  | a :: ks, vs, h => by
    cases h with
    | cons h1 h2 =>
      refine .cons ?_ (DpAll.rows k ks _ h2)
      cases h1 with
      | tup q1 q2 =>
        refine .tup (k _ _ q1) ?_
        cases q2 with
        | cons r1 r2 =>
          cases r1
          cases r2 with
          | cons r3 r4 =>
            cases r3
            cases r4
            exact .cons (.int _) (.cons (.str _) .nil)
end My

namespace My
open PySem L2
/-! ### behind a written text a token is out -/
open PySem.Spec PyProof.Rows in
theorem pa_first {X : Cx} {a : Expr} {es : List Expr} {ta : TE} {tr : TA} {c : Str} {j : Nat} {cp pos : Pos} (ha : PE X a ta) (hr : PAT X es tr)
    (hs : starEach (.BinOp a .Add (.Constant (.str c) j cp) pos :: es) X.env = (false, eval (.BinOp a .Add (.Constant (.str c) j cp) pos) X.env) :: starEach es X.env := by rfl) :
    PA X (.BinOp a .Add (.Constant (.str c) j cp) pos :: es) (tCons (tOp (fun x y H Q => ∃ i j, x = .str i ∧ y = .str j ∧ i.length + j.length ≤ sizeLine ∧ Q (.str (i ++ j)) H) ta (tC (.str c))) tr) := by
  refine ⟨fun pos' pins s σ H Q I h => ?_⟩
  rw [hs]
  show wpAny _ _ (spliced ((false, eval (.BinOp a .Add (.Constant (.str c) j cp) pos) X.env) :: backTo pos' (starEach es X.env))) _ _ s
  refine Calls.spliced_cons (wpAny_BinOp (thn (ha.run pins s σ H _ I h) fun v s1 q => Calls.Constant_str ?_))
  obtain ⟨x, H1, I1, r1, q1⟩ := q
  have q1' : ∃ i j, x = V.str i ∧ V.str c = V.str j ∧ i.length + j.length ≤ sizeLine ∧ (fun x H1 => tr σ H1 fun xs H2 => Q (x :: xs) H2) (.str (i ++ j)) H1 := q1
  refine wpAny_mono (PySem.wpAny_toks (op_add_str pins _ σ H1 x (.str c) v _ (fun x H1 => tr σ H1 fun xs H2 => Q (x :: xs) H2) (I1.tok (s1.toks + 1)) r1 ⟨_, rfl⟩ q1')) (fun u s2 q => ?_) fun _ _ z => z.2
  obtain ⟨hk, y, H2, I2, r2, q2⟩ := q
  have hk' : s1.toks + 1 ≤ s2.toks := hk
  exact thn (hr pos' pins s2 σ H2 _ (by omega) I2 q2) fun us s3 ⟨xs, H3, I3, r3, q3⟩ => ⟨y :: xs, H3, I3, .cons r2 r3, q3⟩
/-! ### texts with full stops -/
def dotS : Str := Str.ofString "."
theorem dot_codes : dotS = ⟨#[46]⟩ := by decide +kernel
def partsD (z : Str) : List Str := Txt.split z dotS
/-- the path that a text denotes -/
def readP (z : Str) (m : Int) : Option (List Str) := if ((partsD z).length : Int) ≤ m ∧ ((partsD z).all fun k => isKeyC k.cps.toList) = true then some (partsD z) else none
def rpD : Option (List Str) → Dt
  | none => .non
  | some ks => ptD ks
theorem parts_short {z k : Str} (h : k ∈ partsD z) : k.length ≤ z.length := PyProof.Rows.part_short h
theorem parts_len {z : Str} (h : z.length ≤ 100000) : (partsD z).length ≤ 100002 := Nat.le_trans (PyProof.Rows.split_le z dotS) (by omega)
/-- what is joined of keys has these parts -/
theorem parts_join {ks : List Str} (h0 : ks ≠ []) (h : ∀ k ∈ ks, KeyT k) : partsD (Txt.join dotS ks) = ks := by
  unfold partsD
  refine TL.split_join (y := dotS) (s := 46) (S := []) (by decide +kernel) (by decide +kernel) h0 fun p hp q => ?_
  obtain ⟨c, r, _, _, _, h3⟩ := isKeyC_iff.mp (h p hp)
  exact (keyC_sg 46 (h3 46 q)).2.2.2 rfl
theorem readP_join {ks : List Str} {m : Int} (h0 : ks ≠ []) (h : ∀ k ∈ ks, KeyT k) (hm : (ks.length : Int) ≤ m) : readP (Txt.join dotS ks) m = some ks := by
  unfold readP
  rw [parts_join h0 h, if_pos ⟨hm, List.all_eq_true.mpr h⟩]
theorem rpD_same (z : Str) (m : Int) (h : z.length ≤ 100000) : (rpD (readP z m)).deep ≤ 40 ∧ (rpD (readP z m)).fits = true := by
  unfold readP
  split
  · refine ⟨?_, fits_strs (by have := parts_len h; omega)⟩
    have := deeps_strs (partsD z)
    show Dt.deeps ((partsD z).map .str) + 1 ≤ 40
    omega
  · exact ⟨by decide, rfl⟩
end My

namespace My
open PySem L2
def topS (i : Nat) : Stmt := PySem.Challenge.pw_hookcheck_k03_paths_are_read.main.body.getD i (.Pass ⟨0, 0, 0, 0⟩)
abbrev s_consists_of : Stmt := topS 5
abbrev s_is_key : Stmt := topS 4
abbrev s_read_path : Stmt := topS 6
abbrev s_show_path : Stmt := topS 7
abbrev s_law_tape : Stmt := topS 9
abbrev s_law_draw : Stmt := topS 10
abbrev s_law_pick : Stmt := topS 11
abbrev s_law_same : Stmt := topS 12
abbrev s_law_any_sign : Stmt := topS 13
abbrev s_law_text : Stmt := topS 14
abbrev s_law_reserved : Stmt := topS 15
abbrev s_law_fresh : Stmt := topS 16
abbrev s_law_key : Stmt := topS 17
abbrev s_law_keys : Stmt := topS 18
abbrev s_law_path : Stmt := topS 19
abbrev s_law_is_key : Stmt := topS 20
abbrev s_law_path_of : Stmt := topS 21
abbrev s_law_spoilt : Stmt := topS 22
abbrev s_law : Stmt := topS 23
structure Top (K : PySem.W.Frag) (w : World) (mg : Str → Option Value) : Prop where
  z_abs : mg "abs" = none
  z_all : mg "all" = none
  z_bool : mg "bool" = none
  z_int : mg "int" = none
  z_isinstance : mg "isinstance" = none
  z_len : mg "len" = none
  z_list : mg "list" = none
  z_max : mg "max" = none
  z_range : mg "range" = none
  z_str : mg "str" = none
  z_tuple : mg "tuple" = none
  c_FIRST_SIGNS : ∃ t, mg "FIRST_SIGNS" = some (.str (Str.ofString "abcdefghijklmnopqrstuvwxyz") t)
  c_KEY_SIGNS : ∃ t, mg "KEY_SIGNS" = some (.str (Str.ofString "abcdefghijklmnopqrstuvwxyzABCDEFGHIJKLMNOPQRSTUVWXYZ0123456789-") t)
  c_LONGEST_KEY : ∃ t, mg "LONGEST_KEY" = some (.int 16 t)
section
variable {P : Program} {w : World} {K : PySem.W.Frag} {mg : Str → Option Value} {base : Heap}
/-! ### consists_of -/
theorem sc_consists_of : FnScope ["text", "signs", "sign"] ["text", "signs"] (defScope s_consists_of) := ⟨rfl, rfl, rfl, by decide +kernel, rfl, by decide +kernel, by decide +kernel⟩



def sp_consists_of (K : PySem.W.Frag) : Sp := fun vs H Q _ => ∃ (z g : Str), vs = [.str z, .str g] ∧ z.length ≤ 100000 ∧ ∀ H', Same H H' → Q (.bl (allIn z.cps.toList g.cps.toList)) H'

theorem ok_consists_of {f : Addr} {fd : FuncData} (F : Fun K "consists_of" "consists_of" s_consists_of f fd) (T : Top K w mg) : FnOk P w K mg base CX0 1 f fd ["text", "signs"] (sp_consists_of K) := by
  have sc := sc_consists_of
  refine F.ok sc (fun vs H Q E h => ?_) (fun cdv A outer s H vs Q E hr h => ?_)
  · obtain ⟨z, g, rfl, _⟩ := h
    rfl
  obtain ⟨z, g, rfl, hz, q⟩ := h
  refine ⟨_, (pss_one (ps_ret (pe_callB (kc_all (K := K) rfl rfl) (by rfl) T.z_all (by decide +kernel) (pa_cons (pe_lc (own := [("sign", 2)]) (g := gName 2) (tt := tYes) rfl sc.nd (pi_str (pv 0)) (blkOk_by (N := ["text", "signs", "sign"]) (sc := defScope s_consists_of) (by decide +kernel)) (fun _ _ _ _ _ => pg_name (i := 2) sc.nd rfl (Or.inl rfl)) (fun _ _ _ _ _ => pts_nil) (fun _ _ _ _ _ => (pe_cmpR op_in_sign (pv 2) (pv 1) rfl))) pa_nil)))), ?_⟩

  refine ⟨_, rfl, z, rfl, fun D hD => ?_⟩
  refine lc_acc (walk_str (z := z)) (fun i acc H' => H' = upd H D (.lst acc) ∧ acc = ((z.cps.toList.take i).map fun c => decide (c ∈ g.cps.toList)).map V.bl) ⟨rfl, rfl⟩ (fun _ _ _ _ _ _ => trivial) ?_ ?_
  · rintro i acc x H1 H2 hi e el ⟨rfl, ea⟩ ⟨rfl, c, hc, rfl⟩
    refine ⟨rfl, _, rfl, _, rfl, c, g, rfl, rfl, acc_step e el (Nat.le_trans (Nat.le_of_lt hi) (Nat.le_trans hz (by decide))) ⟨upd_upd, ?_⟩⟩
    rw [ea, take_succ_code hc, List.map_append, List.map_append]
    rfl
  · rintro acc H1 e el ⟨rfl, ea⟩
    refine ⟨D, _, rfl, SqL.of (by rw [upd_same, ea]), ?_⟩
    have e2 : List.all (List.map (fun c => decide (c ∈ g.cps.toList)) (List.take z.cps.size z.cps.toList)) id = allIn z.cps.toList g.cps.toList := by
      rw [List.take_of_length_le (by simp), List.all_map]
      rfl
    rw [e2]
    exact q _ (same_new hD _)
/-! ### is_key -/
theorem sc_is_key : FnScope ["text"] ["text"] (defScope s_is_key) := ⟨rfl, rfl, rfl, by decide +kernel, rfl, by decide +kernel, by decide +kernel⟩

def sp_is_key (K : PySem.W.Frag) : Sp := fun vs H Q _ => ∃ (z : Str), vs = [.str z] ∧ z.length ≤ 100000 ∧ ∀ H', Same H H' → Q (.bl (isKeyC z.cps.toList)) H'

theorem ok_is_key {f : Addr} {fd : FuncData} (F : Fun K "is_key" "is_key" s_is_key f fd) (T : Top K w mg) {a_consists_of : Addr} {d_consists_of : FuncData} (C_consists_of : Cal P w K mg base "consists_of" 1 ["text", "signs"] sp_consists_of a_consists_of d_consists_of) : FnOk P w K mg base CX0 2 f fd ["text"] (sp_is_key K) := by
  have sc := sc_is_key
  obtain ⟨tk_FIRST_SIGNS, c_FIRST_SIGNS⟩ := T.c_FIRST_SIGNS
  obtain ⟨tk_KEY_SIGNS, c_KEY_SIGNS⟩ := T.c_KEY_SIGNS
  obtain ⟨tk_LONGEST_KEY, c_LONGEST_KEY⟩ := T.c_LONGEST_KEY
  refine F.ok sc (fun vs H Q E h => ?_) (fun cdv A outer s H vs Q E hr h => ?_)
  · obtain ⟨z, rfl, _⟩ := h
    rfl
  obtain ⟨z, rfl, hz, q⟩ := h
  refine ⟨_, (pss_cons (ps_if (PW.pt (pw_or (pt_cmpR op_eq (pv 0) pe_str (nomark _)) (pw_or1 (pt_cmpR op_gt (pe_callB call_len_str (by rfl) T.z_len (by decide +kernel) (pa_cons (pv 0) pa_nil)) (pe_glob (v := .int 16) (by rfl) c_LONGEST_KEY ⟨_, rfl⟩) (nomark _)))))
      (pss_one (ps_ret pe_bl))
      pss_nil)
    (pss_one (ps_ret (pe_and (pe_cmpR op_in_sign (pe_ix ix_str (pv 0) pe_int (fun _ _ => rfl)) (pe_glob (v := .str (Str.ofString "abcdefghijklmnopqrstuvwxyz")) (by rfl) c_FIRST_SIGNS ⟨_, rfl⟩) rfl) (pe_one (pe_call C_consists_of.ok (hr.mono (by omega)) (by rfl) C_consists_of.m C_consists_of.kp C_consists_of.b .nil pass0 (pa_cons (pv 0) (pa_cons (pe_glob (v := .str (Str.ofString "abcdefghijklmnopqrstuvwxyzABCDEFGHIJKLMNOPQRSTUVWXYZ0123456789-")) (by rfl) c_KEY_SIGNS ⟨_, rfl⟩) pa_nil)))))))), ?_⟩

  have hl : z.cps.toList.length = z.length := by simp [Str.length]
  refine ⟨_, rfl, rfl, _, rfl, ite2 (fun c => ?_) (fun c => ?_)⟩
  · have e : z = Str.ofString "" := V.str.inj (of_decide_eq_true c)
    have q' := q H (Same.refl H)
    rw [isKeyC_no (.inl (by rw [e]; rfl))] at q'
    exact q'
  refine ⟨_, rfl, z, rfl, Nat.le_trans hz (by decide), _, _, rfl, rfl, _, rfl, ite2 (fun c2 => ?_) (fun c2 => ?_)⟩
  · have e : (16 : Int) < (z.length : Int) := of_decide_eq_true c2
    have q' := q H (Same.refl H)
    rw [isKeyC_no (.inr (by omega))] at q'
    exact q'
  have h16 : ¬ (16 : Int) < (z.length : Int) := fun h => c2 (decide_eq_true h)
  have hne : z.cps.toList ≠ [] := fun h => c (decide_eq_true (congrArg V.str (str_of_list h)))
  obtain ⟨a, r, ea⟩ := List.exists_cons_of_ne_nil hne
  have h0 : z.cps.toList[0]? = some a := by rw [ea]; rfl
  refine ⟨_, rfl, z, 0, a, rfl, rfl, Nat.le_trans hz (by decide), atI_nat h0, a, _, rfl, rfl, _, rfl, ite2 (fun c3 => ?_) (fun c3 => ?_)⟩
  · refine ⟨_, rfl, z, _, rfl, hz, fun H1 s1 => ?_⟩
    have q' := q H1 s1
    rw [isKeyC_yes h0 (by omega)] at q'
    have c3' : decide (a ∈ firstC) = true := c3
    rw [c3', Bool.true_and] at q'
    exact q'
  · have q' := q H (Same.refl H)
    rw [isKeyC_yes h0 (by omega)] at q'
    have c3' : decide (a ∈ firstC) = false := Bool.eq_false_iff.mpr c3
    rw [c3', Bool.false_and] at q'
    exact q'
/-! ### read_path -/
theorem sc_read_path : FnScope ["text", "most", "keys", "key"] ["text", "most"] (defScope s_read_path) := ⟨rfl, rfl, rfl, by decide +kernel, rfl, by decide +kernel, by decide +kernel⟩

def sp_read_path (K : PySem.W.Frag) : Sp := fun vs H Q _ => ∃ (z : Str) (m : Int), vs = [.str z, .int m] ∧ z.length ≤ 100000 ∧ ∀ v H', Same H H' → DT K H' v (rpD (readP z m)) → Q v H'

theorem ok_read_path {f : Addr} {fd : FuncData} (F : Fun K "read_path" "read_path" s_read_path f fd) (T : Top K w mg) {a_is_key : Addr} {d_is_key : FuncData} (C_is_key : Cal P w K mg base "is_key" 2 ["text"] sp_is_key a_is_key d_is_key) : FnOk P w K mg base CX0 3 f fd ["text", "most"] (sp_read_path K) := by
  have sc := sc_read_path
  refine F.ok sc (fun vs H Q E h => ?_) (fun cdv A outer s H vs Q E hr h => ?_)
  · obtain ⟨z, m, rfl, _⟩ := h
    rfl
  obtain ⟨z, m, rfl, hz, q⟩ := h
  refine ⟨_, (pss_cons (ps_set (i := 2) sc.nd rfl (Or.inl rfl) (pe_split (pv 0) pe_str))
    (pss_cons (ps_if (PW.pt (pw_or (pt_cmpR op_gt (pe_callB (kc_lenS (K := K) rfl) (by rfl) T.z_len (by decide +kernel) (pa_cons (pv 2) pa_nil)) (pv 1) (nomark _)) (pw_or1 (pt_not (pt_val (pe_callB (kc_all (K := K) rfl rfl) (by rfl) T.z_all (by decide +kernel) (pa_cons (pe_lc (own := [("key", 3)]) (g := gName 3) (tt := tYes) rfl sc.nd (kpi_list (K := K) rfl (pv 2)) (blkOk_by (N := ["text", "most", "keys", "key"]) (sc := defScope s_read_path) (by decide +kernel)) (fun _ _ _ _ _ => pg_name (i := 3) sc.nd rfl (Or.inl rfl)) (fun _ _ _ _ _ => pts_nil) (fun _ _ _ _ _ => (pe_call C_is_key.ok (hr.mono (by omega)) (by rfl) C_is_key.m C_is_key.kp C_is_key.b .nil pass0 (pa_cons (pv 3) pa_nil)))) pa_nil)))))))
      (pss_one (ps_ret pe_non))
      pss_nil)
    (pss_one (ps_ret (pe_callTy (kc_tuple (K := K) rfl) (by rfl) T.z_tuple (by decide +kernel) (pa_cons (pv 2) pa_nil)))))), ?_⟩

  have hl := parts_len hz
  refine ⟨_, rfl, ⟨_, rfl⟩, z, dotS, rfl, rfl, by decide +kernel, le_line (by omega), fun p hp => ?_⟩
  have l2 : ((partsD z).map V.str).length = (partsD z).length := List.length_map _
  have s1 := same_new hp (.lst ((partsD z).map V.str))
  have e1 : (upd H p (.lst ((partsD z).map V.str))) p = some (.lst ((partsD z).map V.str)) := upd_same
  show tSeq _ _ _ _ (upd H p (.lst ((partsD z).map V.str)))
  generalize upd H p (.lst ((partsD z).map V.str)) = H1 at s1 e1
  refine ⟨_, rfl, p, _, rfl, .inl (SqL.of e1), _, rfl, _, _, rfl, rfl, _, rfl, ite2 (fun c => ?_) (fun c => ?_)⟩
  · have c' : m < ((partsD z).length : Int) := by rw [← l2]; exact of_decide_eq_true c
    have e : readP z m = none := by unfold readP; rw [if_neg (fun q => by omega)]
    rw [e] at q
    exact q _ _ s1 .non
  have c' : ((partsD z).length : Int) ≤ m := by rw [← l2]; exact Int.not_lt.mp fun h => c (decide_eq_true h)
  refine ⟨_, rfl, p, rfl, ⟨_, SqL.of e1⟩, fun D hD => ?_⟩
  refine lc_acc (walk_list (K := K) (a := p) (xs := (partsD z).map V.str)) (fun i acc H' => Same H1 H' ∧ acc = (((partsD z).take i).map fun k => isKeyC k.cps.toList).map V.bl) ⟨same_new hD _, rfl⟩ (fun i acc H' _ _ h => SqL.of (h.1 _ _ e1)) ?_ ?_
  · rintro i acc x H2 H3 hi e el ⟨s2, ea⟩ ⟨rfl, hx⟩
    rw [List.getElem?_map] at hx
    obtain ⟨k, hk, rfl⟩ := Option.map_eq_some_iff.mp hx
    obtain ⟨hi2, ek⟩ := List.getElem?_eq_some_iff.mp hk
    refine ⟨rfl, _, rfl, k, rfl, Nat.le_trans (parts_short (List.mem_of_getElem? hk)) hz, fun H4 s4 => ?_⟩
    refine acc_step (s4 _ _ e) el (by omega) ⟨(s2.trans s4).late hD, ?_⟩
    rw [ea, List.take_succ_eq_append_getElem hi2, ek, List.map_append, List.map_append]
    rfl
  · rintro acc H2 e el ⟨s2, ea⟩
    rw [l2, List.take_length] at ea
    refine ⟨D, _, rfl, SqL.of (by rw [e, ea]), _, rfl, ?_⟩
    rw [List.all_map]
    by_cases k : ((partsD z).all fun k => isKeyC k.cps.toList) = true
    · have k' : (partsD z).all (id ∘ fun k => isKeyC k.cps.toList) = true := k
      rw [k']
      refine iteF ⟨_, rfl, p, _, rfl, .inl ⟨SqL.of (s2 _ _ e1), fun l hl => ?_⟩⟩
      have e : readP z m = some (partsD z) := by unfold readP; rw [if_pos ⟨c', k⟩]
      rw [e] at q
      exact q _ _ (s1.trans (s2.trans (same_new hl _))) (.tup (SqT.of upd_same) (DTs.strs _))
    · have k' : (partsD z).all (id ∘ fun k => isKeyC k.cps.toList) = false := Bool.eq_false_iff.mpr k
      rw [k']
      have e : readP z m = none := by unfold readP; rw [if_neg (fun q => k q.2)]
      rw [e] at q
      exact iteT (q _ _ (s1.trans s2) .non)
/-! ### show_path -/
theorem sc_show_path : FnScope ["path"] ["path"] (defScope s_show_path) := ⟨rfl, rfl, rfl, by decide +kernel, rfl, by decide +kernel, by decide +kernel⟩

def sp_show_path (K : PySem.W.Frag) : Sp := fun vs H Q _ => ∃ (a : Addr) (ks : List Str), vs = [.ref a] ∧ SqT K H a (ks.map V.str) ∧ ks.length ≤ 1000 ∧ (∀ k ∈ ks, k.length ≤ 1000) ∧ Q (.str (Txt.join dotS ks)) H

theorem ok_show_path {f : Addr} {fd : FuncData} (F : Fun K "show_path" "show_path" s_show_path f fd) (T : Top K w mg) : FnOk P w K mg base CX0 1 f fd ["path"] (sp_show_path K) := by
  have sc := sc_show_path
  refine F.ok sc (fun vs H Q E h => ?_) (fun cdv A outer s H vs Q E hr h => ?_)
  · obtain ⟨a, ks, rfl, _⟩ := h
    rfl
  obtain ⟨a, ks, rfl, ha, hl, hk, q⟩ := h
  refine ⟨_, (pss_one (ps_ret (pe_join pe_str (pv 0)))), ?_⟩

  have hs := sum_lens hk
  have e1 : dotS.length = 1 := by decide +kernel
  refine ⟨⟨_, rfl⟩, _, rfl, dotS, a, ks, rfl, rfl, .inr ha, by rw [e1]; omega, q⟩
/-! ### _law_tape -/
theorem sc_law_tape : FnScope ["script", "total", "cell"] ["script"] (defScope s_law_tape) := ⟨rfl, rfl, rfl, by decide +kernel, rfl, by decide +kernel, by decide +kernel⟩



def sp_law_tape (K : PySem.W.Frag) : Sp := fun vs H Q _ => ∃ (a : Addr) (ns : List Int), vs = [.ref a] ∧ SqL K H a (ns.map V.int) ∧ ns.length ≤ 63 ∧ ∀ t H', Tape H' t → H t = none → Same H H' → Q (.ref t) H'

theorem ok_law_tape {f : Addr} {fd : FuncData} (F : Fun K "_law_tape" "_law_tape" s_law_tape f fd) (T : Top K w mg) : FnOk P w K mg base CX0 1 f fd ["script"] (sp_law_tape K) := by
  have sc := sc_law_tape
  refine F.ok sc (fun vs H Q E h => ?_) (fun cdv A outer s H vs Q E hr h => ?_)
  · obtain ⟨a, ns, rfl, _⟩ := h
    rfl
  obtain ⟨a, ns, rfl, hS, hn, q⟩ := h
  refine ⟨_, (pss_cons (ps_set (i := 1) sc.nd rfl (Or.inl rfl) pe_int)
    (pss_cons (ps_for PassesOwn.never rfl (kpi_list (K := K) rfl (pv 0)) (pg_name (i := 2) sc.nd rfl (Or.inl rfl))
      (pss_one (ps_set (i := 1) sc.nd rfl (Or.inl rfl) (pe_op op_modN (pe_callTy call_int1 (by rfl) T.z_int (by decide +kernel) (pa_cons (pe_op op_add (pe_op op_mul (pv 1) pe_int) (pe_callB call_abs (by rfl) T.z_abs (by decide +kernel) (pa_cons (pe_callTy call_int1 (by rfl) T.z_int (by decide +kernel) (pa_cons (pv 2) pa_nil)) pa_nil))) pa_nil)) pe_int))))
    (pss_one (ps_ret (pe_lst (pa_cons (pe_callTy (kc_list (K := K) rfl) (by rfl) T.z_list (by decide +kernel) (pa_cons (pv 0) pa_nil)) (pa_cons pe_int (pa_cons pe_int (pa_cons (pv 1) pa_nil))))))))), ?_⟩

  have hlen : (ns.map V.int).length = ns.length := List.length_map _
  refine ⟨_, rfl, a, rfl, ⟨_, hS⟩, for_list (K := K) (a := a) (xs := ns.map V.int) (fun i σ H' => H' = H ∧ ∃ (z : Int) (v : Option V), σ = [some (.ref a), some (.int z), v]) ⟨rfl, 7, none, rfl⟩ (fun i σ H' _ ⟨e, _⟩ => e ▸ hS) ?_ ?_⟩
  · rintro i y σ H' hi ⟨rfl, z, v, rfl⟩
    obtain ⟨u, rfl, _⟩ := int_get hi
    refine ⟨_, rfl, _, _, rfl, rfl, .inr ⟨by decide, by decide⟩, ?_⟩
    refine ⟨_, rfl, .inl ⟨_, rfl, _, rfl, ?_⟩⟩
    refine ⟨_, _, rfl, rfl, .inl ⟨_, rfl, _, _, rfl, rfl, (by show (2147483647 : Int) ≠ 0; decide), rfl, _, _, rfl⟩⟩
  · rintro σ H' ⟨rfl, z, v, rfl⟩
    refine ⟨_, rfl, a, _, rfl, .inl hS, fun l hl => ⟨_, rfl, ?_⟩⟩
    refine ⟨(by show 4 ≤ sizeLine; decide), fun t ht => ?_⟩
    have e1 : l ≠ t := ne_of_none upd_same ht
    refine q t _ ⟨l, ns, 0, 0, z, upd_same, by rw [upd_ne e1]; exact upd_same, e1, by omega, hn⟩ ?_ (Same.late (same_new hl _) (by rw [upd_ne e1.symm] at ht; exact ht))
    rw [upd_ne e1.symm] at ht
    exact ht
/-! ### _law_draw -/
theorem sc_law_draw : FnScope ["tape", "many", "number", "place"] ["tape", "many"] (defScope s_law_draw) := ⟨rfl, rfl, rfl, by decide +kernel, rfl, by decide +kernel, by decide +kernel⟩

def sp_law_draw (K : PySem.W.Frag) : Sp := fun vs H Q _ => ∃ (t : Addr) (m : Int), vs = [.ref t, .int m] ∧ Tape H t ∧ -(2 ^ 62) < m ∧ m < 2 ^ 62 ∧ ∀ r H', 0 ≤ r → (r < m ∨ r = 0) → Go t H H' → Q (.int r) H'

theorem ok_law_draw {f : Addr} {fd : FuncData} (F : Fun K "_law_draw" "_law_draw" s_law_draw f fd) (T : Top K w mg) : FnOk P w K mg base CX0 1 f fd ["tape", "many"] (sp_law_draw K) := by
  have sc := sc_law_draw
  refine F.ok sc (fun vs H Q E h => ?_) (fun cdv A outer s H vs Q E hr h => ?_)
  · obtain ⟨t, m, rfl, _⟩ := h
    rfl
  obtain ⟨t, m, rfl, hT, hm0, hm, q⟩ := h
  refine ⟨_, (C8.pss_cut (ps_if (pt_cmpR op_eq (pe_ix (kx_list (K := K) rfl) (pv 0) pe_int (fun _ _ => rfl)) pe_int (nomark _))
      (pss_cons (ps_set (i := 3) sc.nd rfl (Or.inl rfl) (pe_ix (kx_list (K := K) rfl) (pv 0) pe_int (fun _ _ => rfl)))
      (pss_cons (ps_set (i := 2) sc.nd rfl (Or.inl rfl) pe_int)
      (C8.pss_cut (ps_if (pt_cmpR op_lt (pv 3) (pe_callB (kc_lenS (K := K) rfl) (by rfl) T.z_len (by decide +kernel) (pa_cons (pe_ix (kx_list (K := K) rfl) (pv 0) pe_int (fun _ _ => rfl)) pa_nil)) (nomark _))
        (pss_one (ps_set (i := 2) sc.nd rfl (Or.inl rfl) (pe_callB call_abs (by rfl) T.z_abs (by decide +kernel) (pa_cons (pe_callTy call_int1 (by rfl) T.z_int (by decide +kernel) (pa_cons (pe_ix (kx_list (K := K) rfl) (pe_ix (kx_list (K := K) rfl) (pv 0) pe_int (fun _ _ => rfl)) (pv 3) (fun _ _ => rfl)) pa_nil)) pa_nil))))
        (pss_cons (ps_asg (pe_op op_modN (pe_callTy call_int1 (by rfl) T.z_int (by decide +kernel) (pa_cons (pe_op op_add (pe_op op_add (pe_op op_mul (pe_ix (kx_list (K := K) rfl) (pv 0) pe_int (fun _ _ => rfl)) pe_int) (pv 3)) pe_int) pa_nil)) pe_int) (pg_sub (pv 0) pe_int set_list))
        (pss_one (ps_set (i := 2) sc.nd rfl (Or.inl rfl) (pe_ix (kx_list (K := K) rfl) (pv 0) pe_int (fun _ _ => rfl))))))
      (pss_cons (ps_asg (pe_op op_add (pv 3) pe_int) (pg_sub (pv 0) pe_int set_list))
      (pss_cons (ps_if (pt_cmpR op_lt (pv 2) (pe_op op_pow pe_int pe_int) (nomark _))
        (pss_cons (ps_set (i := 2) sc.nd rfl (Or.inl rfl) (pe_op op_modN (pe_callTy call_int1 (by rfl) T.z_int (by decide +kernel) (pa_cons (pe_op op_add (pe_op op_add (pe_op op_mul (pv 2) pe_int) (pe_op op_mul (pv 3) pe_int)) pe_int) pa_nil)) pe_int))
        (pss_cons (ps_set (i := 2) sc.nd rfl (Or.inl rfl) (pe_op op_modN (pe_callTy call_int1 (by rfl) T.z_int (by decide +kernel) (pa_cons (pe_op op_mul (pv 2) pe_int) pa_nil)) pe_int))
        (pss_one (ps_ret (pe_op op_modN (pe_callTy call_int1 (by rfl) T.z_int (by decide +kernel) (pa_cons (pv 2) pa_nil)) (pe_callB (call_max2 rfl) (by rfl) T.z_max (by decide +kernel) (pa_cons (pv 1) (pa_cons pe_int pa_nil))))))))
        pss_nil)
      (pss_one (ps_asg (pv 2) (pg_sub (pv 0) pe_int set_list))))))))
      pss_nil)
    (pss_cons (ps_set (i := 2) sc.nd rfl (Or.inl rfl) (pe_ix (kx_list (K := K) rfl) (pv 0) pe_int (fun _ _ => rfl)))
    (pss_cons (ps_asg (pe_op op_fdivW (pv 2) (pe_callB (call_max2 rfl) (by rfl) T.z_max (by decide +kernel) (pa_cons (pv 1) (pa_cons pe_int pa_nil)))) (pg_sub (pv 0) pe_int set_list))
    (pss_one (ps_ret (pe_op op_modN (pe_callTy call_int1 (by rfl) T.z_int (by decide +kernel) (pa_cons (pv 2) pa_nil)) (pe_callB (call_max2 rfl) (by rfl) T.z_max (by decide +kernel) (pa_cons (pv 1) (pa_cons pe_int pa_nil))))))))), ?_⟩

  obtain ⟨l, ns, a, b, c, h1, h2, h3, h4, h5⟩ := hT.ex
  have hlen : (ns.map V.int).length = ns.length := List.length_map _
  have hmax : (if (1 : Int) > m then 1 else m) ≠ 0 := by split <;> omega
  have last : ∀ (n : Int) (H' : Hp), Go t H H' → Q (.int (n.fmod (if (1 : Int) > m then 1 else m))) H' := fun n H' g => by
    have e := fmod_in (a := n) (m := if (1 : Int) > m then 1 else m) (by split <;> omega)
    refine q _ _ e.1 ?_ g
    have e2 := e.2
    split at e2 <;> omega
  refine ⟨fun σ H' => Go t H H' ∧ ∃ v1 v2, σ = [some (.ref t), some (.int m), v1, v2], ?_, ?_⟩
  · refine ⟨_, rfl, t, _, 2, _, rfl, rfl, SqL.of h1, rfl, rfl, _, rfl, ite2 (fun c1 => ?_) (fun c1 => ⟨Go.refl hT, _, _, rfl⟩)⟩
    refine ⟨_, rfl, t, _, 1, _, rfl, rfl, SqL.of h1, rfl, ?_⟩
    refine ⟨fun σ H' => (∃ c', H' t = some (.lst [.ref l, .int a, .int b, .int c']) ∧ Sm t H H') ∧ ∃ n : Int, σ = [some (.ref t), some (.int m), some (.int n), some (.int a)], ?_, ?_⟩
    · refine ⟨_, rfl, _, rfl, t, _, 0, _, rfl, rfl, SqL.of h1, rfl, l, _, rfl, .inl (SqL.of h2), _, _, rfl, rfl, _, rfl, ite2 (fun c2 => ?_) (fun c2 => ?_)⟩
      · have c2' : a < ((ns.map V.int).length : Int) := of_decide_eq_true c2
        rw [hlen] at c2'
        have hx : (ns.map V.int)[a.toNat]? = some (.int ns[a.toNat]) := by
          rw [List.getElem?_map, List.getElem?_eq_getElem (by omega)]; rfl
        refine ⟨_, rfl, t, _, 0, _, rfl, rfl, SqL.of h1, rfl, _, rfl, l, _, a, _, rfl, rfl, SqL.of h2, at_of (by omega) hx, ?_⟩
        exact .inl ⟨_, rfl, _, rfl, ⟨c, h1, Sm.refl _ _⟩, _, rfl⟩
      · refine ⟨_, rfl, t, _, 3, _, rfl, rfl, SqL.of h1, rfl, ?_⟩
        refine ⟨_, _, rfl, rfl, .inr ⟨by decide, by decide⟩, _, rfl, _, _, rfl, rfl, _, _, rfl, rfl, .inl ⟨_, rfl, ?_⟩⟩
        refine ⟨_, _, rfl, rfl, (by show (2147483647 : Int) ≠ 0; decide), _, rfl, t, _, 3, 3, rfl, rfl, h1, rfl, ?_⟩
        refine ⟨_, rfl, t, _, 3, _, rfl, rfl, SqL.of upd_same, rfl, ⟨_, upd_same, Sm.put⟩, _, rfl⟩
    · rintro σ H1 ⟨⟨c', e1, s1⟩, n, rfl⟩
      refine ⟨_, rfl, _, _, rfl, rfl, _, rfl, t, _, 1, 1, rfl, rfl, e1, rfl, ?_⟩
      have g1 : Go t H (upd H1 t (.lst [.ref l, .int (a + 1), .int b, .int c'])) := Go.put h1 s1 (s1 _ _ h3 h2) h3 (by omega) h5
      refine ⟨_, rfl, _, _, rfl, rfl, ⟨by decide, by decide, by decide⟩, _, _, rfl, rfl, _, rfl, ite2 (fun c2 => ?_) (fun c2 => ?_)⟩
      · refine ⟨_, rfl, _, _, rfl, rfl, .inr ⟨by decide, by decide⟩, _, rfl, _, _, rfl, rfl, .inr ⟨by decide, by decide⟩, _, _, rfl, rfl, _, _, rfl, rfl, .inl ⟨_, rfl, ?_⟩⟩
        refine ⟨_, _, rfl, rfl, (by show (2147483647 : Int) ≠ 0; decide), _, rfl, _, _, rfl, rfl, .inr ⟨by decide, by decide⟩, .inl ⟨_, rfl, ?_⟩⟩
        refine ⟨_, _, rfl, rfl, (by show (2147483629 : Int) ≠ 0; decide), _, rfl, .inl ⟨_, rfl, _, rfl, _, _, rfl, _, _, rfl, rfl, hmax, ?_⟩⟩
        exact last _ _ g1
      · refine ⟨_, rfl, _, rfl, t, _, 2, 2, rfl, rfl, upd_same, rfl, ?_⟩
        rw [upd_upd]
        exact ⟨Go.put h1 s1 (s1 _ _ h3 h2) h3 (by omega) h5, _, _, rfl⟩
  · rintro σ H1 ⟨g0, v1, v2, rfl⟩
    obtain ⟨l', ns', a', b', c', k1, k2, k3, k4, k5⟩ := g0.tp.ex
    refine ⟨_, rfl, t, _, 2, _, rfl, rfl, SqL.of k1, rfl, _, rfl, _, rfl, _, _, rfl, _, _, rfl, rfl, ?_, ?_⟩
    · exact wide_div (b := 63) (by split <;> omega) (by split <;> omega) (by decide) (by decide)
    refine ⟨_, rfl, t, _, 2, 2, rfl, rfl, k1, rfl, ?_⟩
    refine ⟨_, rfl, .inl ⟨_, rfl, _, rfl, _, _, rfl, _, _, rfl, rfl, hmax, ?_⟩⟩
    exact last _ _ (g0.trans (Go.put k1 (Sm.refl _ _) k2 k3 k4 k5))
/-! ### _law_pick -/
theorem sc_law_pick : FnScope ["tape", "row"] ["tape", "row"] (defScope s_law_pick) := ⟨rfl, rfl, rfl, by decide +kernel, rfl, by decide +kernel, by decide +kernel⟩



def sp_law_pick (K : PySem.W.Frag) : Sp := fun vs H Q _ => ∃ (t : Addr) (row : V), vs = [.ref t, row] ∧ Tape H t ∧
  ((∃ z, row = .str z ∧ 1 ≤ z.length ∧ z.length ≤ 1000000 ∧ ∀ c H', c ∈ z.cps.toList → Go t H H' → Q (.str ⟨#[c]⟩) H') ∨
   (∃ p xs, row = .ref p ∧ p ≠ t ∧ (SqL K H p xs ∨ SqT K H p xs) ∧ 1 ≤ xs.length ∧ xs.length ≤ 1000000 ∧ ∀ v H', v ∈ xs → Go t H H' → Q v H'))

theorem ok_law_pick {f : Addr} {fd : FuncData} (F : Fun K "_law_pick" "_law_pick" s_law_pick f fd) (T : Top K w mg) {a_law_draw : Addr} {d_law_draw : FuncData} (C_law_draw : Cal P w K mg base "_law_draw" 1 ["tape", "many"] sp_law_draw a_law_draw d_law_draw) : FnOk P w K mg base CX0 2 f fd ["tape", "row"] (sp_law_pick K) := by
  have sc := sc_law_pick
  refine F.ok sc (fun vs H Q E h => ?_) (fun cdv A outer s H vs Q E hr h => ?_)
  · obtain ⟨t, row, rfl, _⟩ := h
    rfl
  obtain ⟨t, row, rfl, hT, q⟩ := h
  refine ⟨_, (pss_one (ps_ret (pe_ix (kx_seq (K := K) rfl) (pv 1) (pe_call C_law_draw.ok (hr.mono (by omega)) (by rfl) C_law_draw.m C_law_draw.kp C_law_draw.b .nil pass0 (pa_cons (pv 0) (pa_cons (pe_callB (kc_len (K := K) rfl) (by rfl) T.z_len (by decide +kernel) (pa_cons (pv 1) pa_nil)) pa_nil))) (fun _ _ => rfl)))), ?_⟩

  rcases q with ⟨z, rfl, z1, z2, q⟩ | ⟨p, xs, rfl, np, hS, z1, z2, q⟩
  · refine ⟨_, rfl, _, rfl, _, rfl, _, z.length, rfl, ⟨Nat.le_trans z2 (by decide), rfl⟩, t, z.length, rfl, hT, by omega, by omega, fun r H1 r0 r1 g => ?_⟩
    have hr2 : r.toNat < z.cps.toList.length := by rw [len_codes]; omega
    refine .inr (.inr ⟨z, r, z.cps.toList[r.toNat], rfl, rfl, Nat.le_trans z2 (by decide), at_any (z := r) (j := r.toNat) (by omega) (List.getElem?_eq_getElem hr2), ?_⟩)
    exact q _ _ (List.getElem_mem _) g
  · refine ⟨_, rfl, _, rfl, _, rfl, _, xs.length, rfl, hS.elim (fun h => .inl ⟨xs, h, rfl⟩) (fun h => .inr ⟨xs, h, rfl⟩), t, xs.length, rfl, hT, by omega, by omega, fun r H1 r0 r1 g => ?_⟩
    have hr2 : r.toNat < xs.length := by omega
    have q' := q xs[r.toNat] H1 (List.getElem_mem _) g
    rcases hS with hS | hS
    · exact .inl ⟨p, xs, r, _, rfl, rfl, g.sm.seqL np hS, at_of (by omega) (List.getElem?_eq_getElem hr2), q'⟩
    · exact .inr (.inl ⟨p, xs, r, _, rfl, rfl, g.sm.seqT np hS, at_of (by omega) (List.getElem?_eq_getElem hr2), q'⟩)
/-! ### _law_same -/
theorem sc_law_same : FnScope ["actual", "expected", "k"] ["actual", "expected"] (defScope s_law_same) := ⟨rfl, rfl, rfl, by decide +kernel, rfl, by decide +kernel, by decide +kernel⟩

theorem kit_tuple {K : PySem.W.Frag} {d : Dt} : PySem.W.kitOne K (.type d.name) (.type "tuple") = some (match d with | .tup _ => true | _ => false) := by
  cases d with
  | non => exact kit_ty (a := "NoneType") (b := "tuple") (r := false) (by decide +kernel)
  | bl b => exact kit_ty (a := "bool") (b := "tuple") (r := false) (by decide +kernel)
  | int i => exact kit_ty (a := "int") (b := "tuple") (r := false) (by decide +kernel)
  | str s => exact kit_ty (a := "str") (b := "tuple") (r := false) (by decide +kernel)
  | tup xs => exact kit_ty (a := "tuple") (b := "tuple") (r := true) (by decide +kernel)
theorem kit_bool {K : PySem.W.Frag} {d : Dt} : PySem.W.kitOne K (.type d.name) (.type "bool") = some (match d with | .bl _ => true | _ => false) := by
  cases d with
  | non => exact kit_ty (a := "NoneType") (b := "bool") (r := false) (by decide +kernel)
  | bl b => exact kit_ty (a := "bool") (b := "bool") (r := true) (by decide +kernel)
  | int i => exact kit_ty (a := "int") (b := "bool") (r := false) (by decide +kernel)
  | str s => exact kit_ty (a := "str") (b := "bool") (r := false) (by decide +kernel)
  | tup xs => exact kit_ty (a := "tuple") (b := "bool") (r := false) (by decide +kernel)
theorem kit_str {K : PySem.W.Frag} {d : Dt} : PySem.W.kitOne K (.type d.name) (.type "str") = some (match d with | .str _ => true | _ => false) := by
  cases d with
  | non => exact kit_ty (a := "NoneType") (b := "str") (r := false) (by decide +kernel)
  | bl b => exact kit_ty (a := "bool") (b := "str") (r := false) (by decide +kernel)
  | int i => exact kit_ty (a := "int") (b := "str") (r := false) (by decide +kernel)
  | str s => exact kit_ty (a := "str") (b := "str") (r := true) (by decide +kernel)
  | tup xs => exact kit_ty (a := "tuple") (b := "str") (r := false) (by decide +kernel)
theorem kit_int {K : PySem.W.Frag} {d : Dt} : PySem.W.kitOne K (.type d.name) (.type "int") = some (match d with | .int _ => true | .bl _ => true | _ => false) := by
  cases d with
  | non => exact kit_ty (a := "NoneType") (b := "int") (r := false) (by decide +kernel)
  | bl b => exact kit_ty (a := "bool") (b := "int") (r := true) (by decide +kernel)
  | int i => exact kit_ty (a := "int") (b := "int") (r := true) (by decide +kernel)
  | str s => exact kit_ty (a := "str") (b := "int") (r := false) (by decide +kernel)
  | tup xs => exact kit_ty (a := "tuple") (b := "int") (r := false) (by decide +kernel)


def spSame (n : Nat) (K : PySem.W.Frag) : Sp := fun vs H Q _ => ∃ (x y : V) (d : Dt), vs = [x, y] ∧ DT K H x d ∧ DT K H y d ∧ d.deep ≤ n ∧ d.fits = true ∧ ∀ H', Same H H' → Q (.bl true) H'
abbrev sp_law_same : PySem.W.Frag → Sp := spSame 40


theorem ok_law_same_n {n : Nat} {f : Addr} {fd : FuncData} (F : Fun K "_law_same" "_law_same" s_law_same f fd) (T : Top K w mg) (C_law_same : Cal P w K mg base "_law_same" n ["actual", "expected"] (spSame n) f fd) : FnOk P w K mg base CX0 (n + 1) f fd ["actual", "expected"] (spSame (n + 1) K) := by
  have sc := sc_law_same
  refine F.ok sc (fun vs H Q E h => ?_) (fun cdv A outer s H vs Q E hr h => ?_)
  · obtain ⟨x, y, d, rfl, _⟩ := h
    rfl
  obtain ⟨x, y, d, rfl, hx, hy, hd, hf, q⟩ := h
  refine ⟨_, (pss_cons (ps_if (pt_cmpR op_isN (pv 1) pe_non (nomark _))
      (pss_one (ps_ret (pe_cmpR op_isN (pv 0) pe_non (nomark _))))
      pss_nil)
    (pss_cons (ps_if (pt_val (pe_callB (kc_isi (K := K) rfl) (by rfl) T.z_isinstance (by decide +kernel) (pa_cons (pv 1) (pa_cons (pe_bltn (v := .ty "tuple") (by rfl) T.z_tuple (by decide +kernel) rfl) pa_nil))))
      (pss_cons (ps_if (PW.pt (pw_or (pt_not (pt_val (pe_callB (kc_isi (K := K) rfl) (by rfl) T.z_isinstance (by decide +kernel) (pa_cons (pv 0) (pa_cons (pe_bltn (v := .ty "tuple") (by rfl) T.z_tuple (by decide +kernel) rfl) pa_nil))))) (pw_or1 (pt_cmpR op_ne (pe_callB (kc_len (K := K) rfl) (by rfl) T.z_len (by decide +kernel) (pa_cons (pv 0) pa_nil)) (pe_callB (kc_len (K := K) rfl) (by rfl) T.z_len (by decide +kernel) (pa_cons (pv 1) pa_nil)) (nomark _)))))
        (pss_one (ps_ret pe_bl))
        pss_nil)
      (pss_one (ps_ret (pe_cmpR (kop_eqD (K := K) rfl hr.units) (pe_lc (own := [("k", 2)]) (g := gName 2) rfl sc.nd (pi_range1 (by rfl) T.z_range (pa_cons (pe_callB (kc_len (K := K) rfl) (by rfl) T.z_len (by decide +kernel) (pa_cons (pv 1) pa_nil)) pa_nil)) (blkOk_by (N := ["actual", "expected", "k"]) (sc := defScope s_law_same) (by decide +kernel)) (fun _ _ _ _ _ => pg_name (i := 2) sc.nd rfl (Or.inl rfl)) (fun _ _ _ _ _ => pts_one (pt_not (pt_val (pe_call C_law_same.ok hr (by rfl) C_law_same.m C_law_same.kp C_law_same.b .nil pass0 (pa_cons (pe_ix (kx_seq (K := K) rfl) (pv 0) (pv 2) (fun _ _ => rfl)) (pa_cons (pe_ix (kx_seq (K := K) rfl) (pv 1) (pv 2) (fun _ _ => rfl)) pa_nil)))))) (fun _ _ _ _ _ => (pv 2))) (pe_lst pa_nil) (nomark _)))))
      pss_nil)
    (pss_cons (ps_if (PW.pt (pw_or (pt_val (pe_callB (kc_isi (K := K) rfl) (by rfl) T.z_isinstance (by decide +kernel) (pa_cons (pv 1) (pa_cons (pe_bltn (v := .ty "bool") (by rfl) T.z_bool (by decide +kernel) rfl) pa_nil)))) (pw_or1 (pt_val (pe_callB (kc_isi (K := K) rfl) (by rfl) T.z_isinstance (by decide +kernel) (pa_cons (pv 0) (pa_cons (pe_bltn (v := .ty "bool") (by rfl) T.z_bool (by decide +kernel) rfl) pa_nil)))))))
      (pss_one (ps_ret (pe_and (pe_callB (kc_isi (K := K) rfl) (by rfl) T.z_isinstance (by decide +kernel) (pa_cons (pv 1) (pa_cons (pe_bltn (v := .ty "bool") (by rfl) T.z_bool (by decide +kernel) rfl) pa_nil))) (pe_and (pe_callB (kc_isi (K := K) rfl) (by rfl) T.z_isinstance (by decide +kernel) (pa_cons (pv 0) (pa_cons (pe_bltn (v := .ty "bool") (by rfl) T.z_bool (by decide +kernel) rfl) pa_nil))) (pe_one (pe_cmpR op_eq (pv 0) (pv 1) (nomark _)))))))
      pss_nil)
    (pss_cons (ps_if (pt_val (pe_callB (kc_isi (K := K) rfl) (by rfl) T.z_isinstance (by decide +kernel) (pa_cons (pv 1) (pa_cons (pe_bltn (v := .ty "str") (by rfl) T.z_str (by decide +kernel) rfl) pa_nil))))
      (pss_one (ps_ret (pe_and (pe_callB (kc_isi (K := K) rfl) (by rfl) T.z_isinstance (by decide +kernel) (pa_cons (pv 0) (pa_cons (pe_bltn (v := .ty "str") (by rfl) T.z_str (by decide +kernel) rfl) pa_nil))) (pe_one (pe_cmpR op_eq (pv 0) (pv 1) (nomark _))))))
      pss_nil)
    (pss_one (ps_ret (pe_and (pe_callB (kc_isi (K := K) rfl) (by rfl) T.z_isinstance (by decide +kernel) (pa_cons (pv 0) (pa_cons (pe_bltn (v := .ty "int") (by rfl) T.z_int (by decide +kernel) rfl) pa_nil))) (pe_one (pe_cmpR op_eq (pv 0) (pv 1) (nomark _)))))))))), ?_⟩
  have tx := hx.ty
  have ty := hy.ty
  cases d with
  | non =>
    cases hx; cases hy
    exact ⟨_, rfl, rfl, _, rfl, iteT ⟨_, rfl, rfl, q H (Same.refl H)⟩⟩
  | bl b =>
    cases hx; cases hy
    refine ⟨_, rfl, rfl, _, rfl, iteF ⟨_, rfl, _, _, _, _, _, rfl, .ty _, ty, kit_tuple, _, rfl, iteF ⟨_, rfl, _, _, _, _, _, rfl, .ty _, ty, kit_bool, _, rfl, iteT (iteT ?_)⟩⟩⟩
    refine ⟨_, rfl, _, _, _, _, _, rfl, .ty _, ty, kit_bool, _, rfl, iteT ⟨_, rfl, _, _, _, _, _, rfl, .ty _, tx, kit_bool, _, rfl, iteT ⟨_, rfl, _, rfl, rfl, ?_⟩⟩⟩
    rw [decide_eq_true rfl]
    exact q H (Same.refl H)
  | int i =>
    cases hx; cases hy
    refine ⟨_, rfl, rfl, _, rfl, iteF ⟨_, rfl, _, _, _, _, _, rfl, .ty _, ty, kit_tuple, _, rfl, iteF ⟨_, rfl, _, _, _, _, _, rfl, .ty _, ty, kit_bool, _, rfl, iteF ⟨_, rfl, _, _, _, _, _, rfl, .ty _, tx, kit_bool, _, rfl, iteF ?_⟩⟩⟩⟩
    refine ⟨_, rfl, _, _, _, _, _, rfl, .ty _, ty, kit_str, _, rfl, iteF ⟨_, rfl, _, _, _, _, _, rfl, .ty _, tx, kit_int, _, rfl, iteT ⟨_, rfl, _, rfl, rfl, ?_⟩⟩⟩
    rw [decide_eq_true rfl]
    exact q H (Same.refl H)
  | str i =>
    cases hx; cases hy
    refine ⟨_, rfl, rfl, _, rfl, iteF ⟨_, rfl, _, _, _, _, _, rfl, .ty _, ty, kit_tuple, _, rfl, iteF ⟨_, rfl, _, _, _, _, _, rfl, .ty _, ty, kit_bool, _, rfl, iteF ⟨_, rfl, _, _, _, _, _, rfl, .ty _, tx, kit_bool, _, rfl, iteF ?_⟩⟩⟩⟩
    refine ⟨_, rfl, _, _, _, _, _, rfl, .ty _, ty, kit_str, _, rfl, iteT ⟨_, rfl, _, _, _, _, _, rfl, .ty _, tx, kit_str, _, rfl, iteT ⟨_, rfl, _, rfl, rfl, ?_⟩⟩⟩
    rw [decide_eq_true rfl]
    exact q H (Same.refl H)
  | tup ds =>
    have hx' := hx
    have hy' := hy
    cases hx with
    | @tup a xs _ ha ax =>
    cases hy with
    | @tup b ys _ hb by' =>
    have l1 := ax.length
    have l2 := by'.length
    have hfit : ds.length ≤ 1000000 ∧ Dt.fitss ds = true := by
      unfold Dt.fits at hf
      rw [Bool.and_eq_true] at hf
      exact ⟨of_decide_eq_true hf.1, hf.2⟩
    refine ⟨_, rfl, rfl, _, rfl, iteF ⟨_, rfl, _, _, _, _, _, rfl, .ty _, ty, kit_tuple, _, rfl, iteT ⟨_, rfl, _, _, _, _, _, rfl, .ty _, tx, kit_tuple, _, rfl, iteF ?_⟩⟩⟩
    refine ⟨_, rfl, _, _, rfl, .inr ⟨xs, ha, rfl⟩, _, rfl, _, _, rfl, .inr ⟨ys, hb, rfl⟩, rfl, _, rfl, ?_⟩
    rw [decide_eq_true (show V.int (xs.length : Int) = V.int (ys.length : Int) by rw [l1, l2])]
    refine iteF ?_
    refine ⟨_, rfl, _, _, rfl, .inr ⟨ys, hb, rfl⟩, _, rfl, by omega, by omega, fun D hD => ?_⟩
    refine lc_it (walk_range (lo := 0) (n := (ys.length : Int).toNat)) (fun i H' => Same H H' ∧ H' D = some (.lst [])) ⟨same_new hD _, upd_same⟩ (fun _ _ _ _ => trivial) ?_ ?_
    · rintro i x H1 H2 hi ⟨s1, e1⟩ ⟨rfl, rfl⟩
      have hi2 : i < ds.length := by omega
      obtain ⟨u, eu, du⟩ := ax.get (List.getElem?_eq_getElem hi2)
      obtain ⟨v, ev, dv⟩ := by'.get (List.getElem?_eq_getElem hi2)
      have hm : ds[i] ∈ ds := List.getElem_mem _
      refine ⟨rfl, _, rfl, _, rfl, .inr (.inl ⟨a, xs, _, u, rfl, rfl, s1.seqT ha, at_any (j := i) (by omega) eu, ?_⟩)⟩
      refine ⟨_, rfl, _, rfl, .inr (.inl ⟨b, ys, _, v, rfl, rfl, s1.seqT hb, at_any (j := i) (by omega) ev, ?_⟩)⟩
      refine ⟨u, v, ds[i], rfl, du.same s1, dv.same s1, ?_, Dt.fitss_mem hm hfit.2, fun H3 s3 => ⟨_, rfl, iteF ⟨s1.trans s3, s3 _ _ e1⟩⟩⟩
      have h1 := Dt.deeps_mem hm
      unfold Dt.deep at hd
      omega
    · rintro H1 ⟨s1, e1⟩
      refine ⟨by decide, fun p hp => ?_⟩
      refine ⟨.list [], .list [], .lst (SqL.of (by rw [upd_ne (ne_of_none e1 hp)]; exact e1)) .nil, .lst (SqL.of upd_same) .nil, by decide +kernel, by decide +kernel, ?_⟩
      exact q _ (s1.trans (same_new hp _))
theorem ok_law_same {f : Addr} {fd : FuncData} (F : Fun K "_law_same" "_law_same" s_law_same f fd) (T : Top K w mg) (M : mg "_law_same" = some (.ref f)) : FnOk P w K mg base CX0 40 f fd ["actual", "expected"] (sp_law_same K) := by
  have b := F.binds (ps := ["actual", "expected"]) fun _ _ _ _ _ _ us hl => match us, hl with | [_, _], _ => rfl
  have h : ∀ n, FnOk P w K mg base CX0 n f fd ["actual", "expected"] (spSame n K) := fun n => by
    induction n with
    | zero =>
      refine none_left fun vs H Q E h => ?_
      obtain ⟨x, y, d, _, _, _, hd, _⟩ := h
      cases d <;> simp [Dt.deep] at hd
    | succ n ih => exact ok_law_same_n F T ⟨ih, b, F.kp, M⟩
  exact h 40

/-! ### _law_any_sign -/
theorem sc_law_any_sign : FnScope ["tape", "signs"] ["tape"] (defScope s_law_any_sign) := ⟨rfl, rfl, rfl, by decide +kernel, rfl, by decide +kernel, by decide +kernel⟩

def anyA : Str := Str.ofString " !\"#$&'()*+,-./0123456789:;<=>?@ABCDEFGHIJKLMNOPQRSTUVWXYZ[\\]^_`"
def anyB : Str := Str.ofString "abcdefghijklmnopqrstuvwxyz{|}~"
theorem any_ok : ∀ c ∈ (anyA ++ anyB).cps.toList, Sg c := by decide +kernel
theorem any_len : (anyA ++ anyB).length = 94 := by decide +kernel


def sp_law_any_sign (K : PySem.W.Frag) : Sp := fun vs H Q _ => ∃ (t : Addr), vs = [.ref t] ∧ Tape H t ∧ ∀ c H', Sg c → Go t H H' → Q (.str ⟨#[c]⟩) H'

theorem ok_law_any_sign {f : Addr} {fd : FuncData} (F : Fun K "_law_any_sign" "_law_any_sign" s_law_any_sign f fd) (T : Top K w mg) {a_law_pick : Addr} {d_law_pick : FuncData} (C_law_pick : Cal P w K mg base "_law_pick" 2 ["tape", "row"] sp_law_pick a_law_pick d_law_pick) : FnOk P w K mg base CX0 3 f fd ["tape"] (sp_law_any_sign K) := by
  have sc := sc_law_any_sign
  refine F.ok sc (fun vs H Q E h => ?_) (fun cdv A outer s H vs Q E hr h => ?_)
  · obtain ⟨t, rfl, _⟩ := h
    rfl
  obtain ⟨t, rfl, hT, q⟩ := h
  refine ⟨_, (pss_cons (ps_set (i := 1) sc.nd rfl (Or.inl rfl) pe_str)
    (pss_one (ps_ret (pe_call C_law_pick.ok (hr.mono (by omega)) (by rfl) C_law_pick.m C_law_pick.kp C_law_pick.b .nil pass0 (pa_cons (pv 0) (pa_cons (pe_op op_add_str (pv 1) pe_str) pa_nil)))))), ?_⟩

  refine ⟨_, rfl, _, rfl, anyA, anyB, rfl, rfl, by decide +kernel, t, _, rfl, hT, .inl ⟨anyA ++ anyB, rfl, by rw [any_len]; decide, by rw [any_len]; decide, fun c H1 hc g => ?_⟩⟩
  exact q c H1 (any_ok c hc) g
/-! ### _law_text -/
theorem sc_law_text : FnScope ["tape", "many", "k"] ["tape", "many"] (defScope s_law_text) := ⟨rfl, rfl, rfl, by decide +kernel, rfl, by decide +kernel, by decide +kernel⟩

def sp_law_text (K : PySem.W.Frag) : Sp := fun vs H Q _ => ∃ (t : Addr) (m : Nat), vs = [.ref t, .int m] ∧ Tape H t ∧ m ≤ 100000 ∧ ∀ z H', SgT z → z.length = m → Go t H H' → Q (.str z) H'

theorem ok_law_text {f : Addr} {fd : FuncData} (F : Fun K "_law_text" "_law_text" s_law_text f fd) (T : Top K w mg) {a_law_any_sign : Addr} {d_law_any_sign : FuncData} (C_law_any_sign : Cal P w K mg base "_law_any_sign" 3 ["tape"] sp_law_any_sign a_law_any_sign d_law_any_sign) : FnOk P w K mg base CX0 4 f fd ["tape", "many"] (sp_law_text K) := by
  have sc := sc_law_text
  refine F.ok sc (fun vs H Q E h => ?_) (fun cdv A outer s H vs Q E hr h => ?_)
  · obtain ⟨t, m, rfl, _⟩ := h
    rfl
  obtain ⟨t, m, rfl, hT, hm, q⟩ := h
  refine ⟨_, (pss_one (ps_ret (pe_join pe_str (pe_lc (own := [("k", 2)]) (g := gName 2) (tt := tYes) rfl sc.nd (pi_range1 (by rfl) T.z_range (pa_cons (pv 1) pa_nil)) (blkOk_by (N := ["tape", "many", "k"]) (sc := defScope s_law_text) (by decide +kernel)) (fun _ _ _ _ _ => pg_name (i := 2) sc.nd rfl (Or.inl rfl)) (fun _ _ _ _ _ => pts_nil) (fun _ _ _ _ _ => (pe_call C_law_any_sign.ok (hr.mono (by omega)) (by rfl) C_law_any_sign.m C_law_any_sign.kp C_law_any_sign.b .nil pass0 (pa_cons (pv 0) pa_nil))))))), ?_⟩

  refine ⟨⟨_, rfl⟩, _, rfl, m, rfl, by omega, by omega, fun D hD => ?_⟩
  refine lc_acc (walk_range (lo := 0) (n := (m : Int).toNat)) (fun i acc H' => Go t H H' ∧ ∃ cs : List Nat, acc = (cs.map fun c => (⟨#[c]⟩ : Str)).map V.str ∧ ∀ c ∈ cs, Sg c) ⟨(Go.refl hT).new hD, [], rfl, fun _ h => by cases h⟩ (fun _ _ _ _ _ _ => trivial) ?_ ?_
  · rintro i acc x H1 H2 hi e el ⟨g, cs, ea, hcs⟩ ⟨rfl, rfl⟩
    refine ⟨rfl, _, rfl, t, rfl, g.tp, fun c H3 hc g3 => ?_⟩
    have nD : D ≠ t := hT.ne hD
    refine acc_step (g3.sm _ _ nD e) el (by omega) ⟨Go.late hT (g.trans g3) hD, cs ++ [c], ?_, fun d hd => ?_⟩
    · rw [ea, List.map_append, List.map_append]; rfl
    · rcases List.mem_append.mp hd with h | h
      · exact hcs d h
      · rw [List.mem_singleton.mp h]; exact hc
  · rintro acc H1 e el ⟨g, cs, ea, hcs⟩
    have hl : cs.length = m := by
      rw [ea, List.length_map, List.length_map] at el
      omega
    refine ⟨_, D, cs.map fun c => (⟨#[c]⟩ : Str), rfl, rfl, .inl (SqL.of (by rw [e, ea])), ?_, ?_⟩
    · rw [sum_ones, List.length_map]
      show cs.length + cs.length * 0 ≤ _
      omega
    have ec := join_codes (cs.map fun c => (⟨#[c]⟩ : Str))
    rw [flat_ones] at ec
    refine q _ _ (fun c hc => hcs c (by rw [ec] at hc; exact hc)) ?_ g
    rw [← len_codes, ec]
    exact hl
/-! ### _law_reserved -/
theorem sc_law_reserved : FnScope ["words"] [] (defScope s_law_reserved) := ⟨rfl, rfl, rfl, by decide +kernel, rfl, by decide +kernel, by decide +kernel⟩

def sp_law_reserved (K : PySem.W.Frag) : Sp := fun vs H Q _ => vs = [] ∧ ∀ p H', Same H H' → H p = none → H' p = some (.lst (resL.map V.str)) → Q (.ref p) H'

theorem ok_law_reserved {f : Addr} {fd : FuncData} (F : Fun K "_law_reserved" "_law_reserved" s_law_reserved f fd) (T : Top K w mg) : FnOk P w K mg base CX0 1 f fd [] (sp_law_reserved K) := by
  have sc := sc_law_reserved
  refine F.ok sc (fun vs H Q E h => ?_) (fun cdv A outer s H vs Q E hr h => ?_)
  · obtain ⟨rfl, q⟩ := h
    rfl
  obtain ⟨rfl, q⟩ := h
  refine ⟨_, (pss_cons (ps_set (i := 0) sc.nd rfl (Or.inl rfl) (pe_lst (pa_cons pe_str (pa_cons pe_str (pa_cons pe_str (pa_cons pe_str (pa_cons pe_str (pa_cons pe_str (pa_cons pe_str (pa_cons pe_str (pa_cons pe_str (pa_cons pe_str (pa_cons pe_str (pa_cons pe_str pa_nil))))))))))))))
    (pss_one (ps_ret (pe_op op_cat (pv 0) (pe_lst (pa_cons pe_str (pa_cons pe_str (pa_cons pe_str pa_nil)))))))), ?_⟩

  refine ⟨(by show 12 ≤ sizeLine; decide), fun p hp => ⟨_, rfl, (by show 3 ≤ sizeLine; decide), fun p2 hp2 => ?_⟩⟩
  refine ⟨p, p2, _, _, rfl, rfl, (same_new hp2 _) _ _ upd_same, upd_same, (by show 15 ≤ sizeLine; decide), fun p3 hp3 => ?_⟩
  have s2 := (same_new hp (.lst (([Str.ofString "hook", Str.ofString "each", Str.ofString "when", Str.ofString "then", Str.ofString "and", Str.ofString "or", Str.ofString "not", Str.ofString "has", Str.ofString "set", Str.ofString "default", Str.ofString "from", Str.ofString "remove"] : List Str).map V.str))).trans (same_new hp2 (.lst (([Str.ofString "reject", Str.ofString "true", Str.ofString "false"] : List Str).map V.str)))
  exact q p3 _ (s2.trans (same_new hp3 _)) (s2.free hp3) upd_same
/-! ### _law_fresh -/
theorem sc_law_fresh : FnScope ["key", "keys", "taken", "others", "k", "each"] ["key", "keys"] (defScope s_law_fresh) := ⟨rfl, rfl, rfl, by decide +kernel, rfl, by decide +kernel, by decide +kernel⟩

theorem res_nodash : ∀ z ∈ resL, 45 ∉ z.cps.toList := by decide +kernel
/-- the k-th other name -/
def othK (z : Str) (k : Nat) : Str := cutS z none (some 12) ++ Str.ofString "-" ++ Str.ofString (toString (k : Int))
theorem oth_codes (z : Str) {k : Nat} (h : k < 10) : (othK z k).cps.toList = z.cps.toList.take 12 ++ [45, 48 + k] := by
  unfold othK
  have e : TL.tl (Str.ofString (toString ((k : Nat) : Int))) = [48 + k] := by rw [TL.tl_num, TL.numL_lt h]
  have e' : (Str.ofString (toString (k : Int))).cps.toList = [48 + k] := e
  rw [app_codes, app_codes, cut_pre z (by decide), e']
  show z.cps.toList.take 12 ++ [45] ++ [48 + k] = _
  rw [List.append_assoc]
  rfl
theorem oth_key {z : Str} (h : KeyT z) {k : Nat} (hk : k < 10) : KeyT (othK z k) := by
  obtain ⟨c, r, e, h1, h2, h3⟩ := isKeyC_iff.mp h
  have dig : ∀ k, k < 10 → 48 + k ∈ keyC := by decide +kernel
  refine isKeyC_iff.mpr ⟨c, r.take 11 ++ [45, 48 + k], ?_, h1, ?_, fun d hd => ?_⟩
  · rw [oth_codes z hk, e]; rfl
  · rw [oth_codes z hk, List.length_append, List.length_take]
    show min 12 _ + 2 ≤ 16
    omega
  · rw [oth_codes z hk] at hd
    rcases List.mem_append.mp hd with q | q
    · exact h3 d (List.mem_of_mem_take q)
    · rcases List.mem_cons.mp q with rfl | q
      · decide +kernel
      · rw [List.mem_singleton.mp q]; exact dig k hk
theorem oth_inj {z : Str} {j k : Nat} (hj : j < 10) (hk : k < 10) (e : othK z j = othK z k) : j = k := by
  have e2 : (othK z j).cps.toList = (othK z k).cps.toList := by rw [e]
  rw [oth_codes z hj, oth_codes z hk] at e2
  have e3 := List.append_cancel_left e2
  have e4 : 48 + j = 48 + k := by simpa using e3
  omega
theorem oth_res {z : Str} {k : Nat} (hk : k < 10) : othK z k ∉ resL := fun h => by
  refine res_nodash _ h ?_
  rw [oth_codes z hk]
  simp
/-- of n + 1 different names one is not among n -/
theorem free_one {z : Str} {ws : List Str} (hn : ws.length < 10) : ∃ k, k < ws.length + 1 ∧ othK z k ∉ ws := by
  apply Classical.byContradiction
  intro no
  have all : ∀ k, k < ws.length + 1 → othK z k ∈ ws := fun k hk => Classical.byContradiction fun q => no ⟨k, hk, q⟩
  have nd : ((List.range (ws.length + 1)).map (othK z)).Nodup := by
    rw [List.nodup_iff_pairwise_ne, List.pairwise_map]
    refine List.Pairwise.imp_of_mem (fun {a b} ha hb hab q => hab (oth_inj (by have := List.mem_range.mp ha; omega) (by have := List.mem_range.mp hb; omega) q)) List.nodup_range
  have sub : (List.range (ws.length + 1)).map (othK z) ⊆ ws := fun x hx => by
    obtain ⟨k, h1, rfl⟩ := List.mem_map.mp hx
    exact all k (List.mem_range.mp h1)
  have := List.Nodup.length_le_of_subset nd sub
  rw [List.length_map, List.length_range] at this
  omega


def sp_law_fresh (K : PySem.W.Frag) : Sp := fun vs H Q _ => ∃ (z : Str) (p : Addr) (ws : List Str), vs = [.str z, .ref p] ∧ H p = some (.lst (ws.map V.str)) ∧ KeyT z ∧ ws.length ≤ 8 ∧ ∀ u H', KeyT u → u ∉ ws → u ∉ resL → Same H H' → Q (.str u) H'

theorem ok_law_fresh {f : Addr} {fd : FuncData} (F : Fun K "_law_fresh" "_law_fresh" s_law_fresh f fd) (T : Top K w mg) {a_law_reserved : Addr} {d_law_reserved : FuncData} (C_law_reserved : Cal P w K mg base "_law_reserved" 1 [] sp_law_reserved a_law_reserved d_law_reserved) : FnOk P w K mg base CX0 2 f fd ["key", "keys"] (sp_law_fresh K) := by
  have sc := sc_law_fresh
  refine F.ok sc (fun vs H Q E h => ?_) (fun cdv A outer s H vs Q E hr h => ?_)
  · obtain ⟨z, p, ws, rfl, _⟩ := h
    rfl
  obtain ⟨z, p, ws, rfl, hp, hz, hw, q⟩ := h
  refine ⟨_, (pss_cons (ps_set (i := 2) sc.nd rfl (Or.inr rfl) (pe_op op_cat (pv 1) (pe_call0 C_law_reserved.ok (hr.mono (by omega)) (by rfl) C_law_reserved.m C_law_reserved.kp C_law_reserved.b .nil pass0)))
    (pss_cons (ps_set (i := 3) sc.nd rfl (Or.inl rfl) (pe_op op_cat (pe_lst (pa_cons (pv 0) pa_nil)) (pe_lc (own := [("k", 4)]) (g := gName 4) (tt := tYes) rfl sc.nd (pi_range1 (by rfl) T.z_range (pa_cons (pe_op op_add (pe_callB (kc_lenS (K := K) rfl) (by rfl) T.z_len (by decide +kernel) (pa_cons (pv 1) pa_nil)) pe_int) pa_nil)) (blkOk_by (N := ["key", "keys", "taken", "others", "k", "each"]) (sc := defScope s_law_fresh) (by decide +kernel)) (fun _ _ _ _ _ => pg_name (i := 4) sc.nd rfl (Or.inl rfl)) (fun _ _ _ _ _ => pts_nil) (fun _ _ _ _ _ => (pe_op op_add_str (pe_op op_add_str (pe_slice sl_str (pv 0) po_none (po_some pe_int)) pe_str) (pe_callTy call_str_int (by rfl) T.z_str (by decide +kernel) (pa_cons (pv 4) pa_nil)))))))
    (pss_one (ps_ret (pe_ix (kx_list (K := K) rfl) (pe_lc (own := [("each", 5)]) (g := gName 5) rfl sc.nd (kpi_list (K := K) rfl (pv 3)) (blkOk_by (N := ["key", "keys", "taken", "others", "k", "each"]) (sc := defScope s_law_fresh) (by decide +kernel)) (fun _ _ _ _ _ => pg_name (i := 5) sc.nd rfl (Or.inl rfl)) (fun _ _ _ _ _ => pts_one (pt_cmpR (kop_notIn (K := K) rfl) (pv 5) (pv 2) rfl)) (fun _ _ _ _ _ => (pv 5))) pe_int (fun _ _ => rfl)))))), ?_⟩

  have l2 : (ws.map V.str).length = ws.length := List.length_map _
  refine ⟨_, rfl, rfl, fun r H1 s1 nr er => ?_⟩
  refine ⟨p, r, _, _, rfl, rfl, s1 _ _ hp, er, le_line (by rw [List.length_map, List.length_map]; show ws.length + 15 ≤ _; omega), fun tk htk => ?_⟩
  have s2 := s1.trans (same_new htk (.lst (ws.map V.str ++ resL.map V.str)))
  have et : (upd H1 tk (.lst (ws.map V.str ++ resL.map V.str))) tk = some (.lst ((ws ++ resL).map V.str)) := by rw [upd_same, List.map_append]
  generalize upd H1 tk (.lst (ws.map V.str ++ resL.map V.str)) = H2 at s2 et
  refine ⟨_, rfl, (by show 1 ≤ sizeLine; decide), fun o1 ho1 => ?_⟩
  have s3 := s2.trans (same_new ho1 (.lst [V.str z]))
  have et3 := (same_new ho1 (.lst [V.str z])) _ _ et
  have eo3 : (upd H2 o1 (.lst [V.str z])) o1 = some (.lst [V.str z]) := upd_same
  generalize upd H2 o1 (.lst [V.str z]) = H3 at s3 et3 eo3
  refine ⟨_, rfl, p, _, rfl, .inl (SqL.of (s3 _ _ hp)), _, _, rfl, rfl, _, rfl, by omega, by omega, fun D hD => ?_⟩
  refine lc_pure (walk_range (lo := 0) (n := (((ws.map V.str).length : Int) + 1).toNat)) (by omega) (k := 4) (fun i x => x = .int (i : Int)) (fun i => .str (othK z i)) (fun i H x H' _ h => yint h) (fun _ => trivial) ?_ ?_
  · rintro i x acc R hi rfl r
    have l12 := cutS_length z none (some 12)
    have lz := hz.len
    have lk : (Str.ofString (toString (i : Int))).length = 1 := by
      have e : TL.tl (Str.ofString (toString ((i : Nat) : Int))) = [48 + i] := by rw [TL.tl_num, TL.numL_lt (by omega)]
      have e' : (Str.ofString (toString (i : Int))).cps.toList = [48 + i] := e
      rw [← len_codes, e']
      rfl
    have l1 : (Str.ofString "-").length = 1 := by decide +kernel
    exact ⟨_, rfl, _, rfl, z, rfl, le_line (by omega), _, _, rfl, rfl, le_line (by omega), _, rfl, _, rfl, log_small (by omega), _, _, rfl, rfl, le_line (by rw [app_len]; omega), r⟩
  · have nl : ((((ws.map V.str).length : Int) + 1).toNat) = ws.length + 1 := by omega
    rw [nl]
    have s4 := s3.trans (same_new hD (.lst ((List.range (ws.length + 1)).map fun i => V.str (othK z i))))
    have et4 := (same_new hD (.lst ((List.range (ws.length + 1)).map fun i => V.str (othK z i)))) _ _ et3
    have eo4 := (same_new hD (.lst ((List.range (ws.length + 1)).map fun i => V.str (othK z i)))) _ _ eo3
    have eD4 : (upd H3 D (.lst ((List.range (ws.length + 1)).map fun i => V.str (othK z i)))) D = some (.lst ((List.range (ws.length + 1)).map fun i => V.str (othK z i))) := upd_same
    generalize upd H3 D (.lst ((List.range (ws.length + 1)).map fun i => V.str (othK z i))) = H4 at s4 et4 eo4 eD4
    refine ⟨o1, D, _, _, rfl, rfl, eo4, eD4, le_line (by rw [List.length_map, List.length_range]; show 1 + _ ≤ _; omega), fun o2 ho2 => ?_⟩
    have eo : [V.str z] ++ (List.range (ws.length + 1)).map (fun i => V.str (othK z i)) = (z :: (List.range (ws.length + 1)).map (othK z)).map V.str := by
      rw [List.map_cons, List.map_map]; rfl
    rw [eo]
    have s5 := s4.trans (same_new ho2 (.lst ((z :: (List.range (ws.length + 1)).map (othK z)).map V.str)))
    have et5 := (same_new ho2 (.lst ((z :: (List.range (ws.length + 1)).map (othK z)).map V.str))) _ _ et4
    have eo5 : (upd H4 o2 (.lst ((z :: (List.range (ws.length + 1)).map (othK z)).map V.str))) o2 = some (.lst ((z :: (List.range (ws.length + 1)).map (othK z)).map V.str)) := upd_same
    generalize upd H4 o2 (.lst ((z :: (List.range (ws.length + 1)).map (othK z)).map V.str)) = H5 at s5 et5 eo5
    refine ⟨_, rfl, o2, rfl, ⟨_, SqL.of eo5⟩, fun D2 hD2 => ?_⟩
    refine lc_filterS (K := K) (k := 5) (ws := z :: (List.range (ws.length + 1)).map (othK z)) (fun u => !decide (u ∈ ws ++ resL)) (by show 5 < 6; decide) (SqL.of eo5) hD2 (by rw [List.length_cons, List.length_map, List.length_range]; omega) ?_ ?_
    · intro i u acc R hu r
      refine ⟨_, rfl, _, rfl, tk, _, rfl, .inl (SqL.of ((same_new hD2 _) _ _ et5)), rfl, flat_strs _, _, rfl, ?_⟩
      rw [inV_strs]
      exact r
    · obtain ⟨k, hk, nk⟩ := free_one (z := z) (ws := ws) (by omega)
      have mem : othK z k ∈ (z :: (List.range (ws.length + 1)).map (othK z)).filter (fun u => !decide (u ∈ ws ++ resL)) := by
        refine List.mem_filter.mpr ⟨List.mem_cons_of_mem _ (List.mem_map.mpr ⟨k, List.mem_range.mpr hk, rfl⟩), ?_⟩
        have n2 : othK z k ∉ ws ++ resL := fun h => (List.mem_append.mp h).elim nk (oth_res (by omega))
        simp only [n2, decide_false, Bool.not_false]
      obtain ⟨u, r, eu⟩ := List.exists_cons_of_ne_nil (List.ne_nil_of_mem mem)
      have hu : u ∈ (z :: (List.range (ws.length + 1)).map (othK z)).filter (fun u => !decide (u ∈ ws ++ resL)) := by rw [eu]; exact List.mem_cons_self
      obtain ⟨h1, h2⟩ := List.mem_filter.mp hu
      have h3 : u ∉ ws ++ resL := by simpa using h2
      rw [eu]
      refine ⟨D2, _, 0, _, rfl, rfl, SqL.of upd_same, atI_nat (j := 0) rfl, ?_⟩
      refine q u _ ?_ (fun h => h3 (List.mem_append_left _ h)) (fun h => h3 (List.mem_append_right _ h)) (s5.trans (same_new hD2 _))
      rcases List.mem_cons.mp h1 with rfl | h1
      · exact hz
      · obtain ⟨j, hj, rfl⟩ := List.mem_map.mp h1
        exact oth_key hz (by have := List.mem_range.mp hj; omega)
/-! ### _law_key -/
theorem sc_law_key : FnScope ["tape", "stem", "letters", "signs", "key", "k"] ["tape", "stem"] (defScope s_law_key) := ⟨rfl, rfl, rfl, by decide +kernel, rfl, by decide +kernel, by decide +kernel⟩

def sp_law_key (K : PySem.W.Frag) : Sp := fun vs H Q _ => ∃ (t : Addr) (st : Str), vs = [.ref t, .str st] ∧ Tape H t ∧ (st = Str.ofString "" ∨ (KeyT st ∧ st.length ≤ 14)) ∧ ∀ z H', KeyT z → Go t H H' → Q (.str z) H'

theorem ok_law_key {f : Addr} {fd : FuncData} (F : Fun K "_law_key" "_law_key" s_law_key f fd) (T : Top K w mg) {a_law_draw : Addr} {d_law_draw : FuncData} (C_law_draw : Cal P w K mg base "_law_draw" 1 ["tape", "many"] sp_law_draw a_law_draw d_law_draw) {a_law_pick : Addr} {d_law_pick : FuncData} (C_law_pick : Cal P w K mg base "_law_pick" 2 ["tape", "row"] sp_law_pick a_law_pick d_law_pick) : FnOk P w K mg base CX0 3 f fd ["tape", "stem"] (sp_law_key K) := by
  have sc := sc_law_key
  refine F.ok sc (fun vs H Q E h => ?_) (fun cdv A outer s H vs Q E hr h => ?_)
  · obtain ⟨t, st, rfl, _⟩ := h
    rfl
  obtain ⟨t, st, rfl, hT, hst, q⟩ := h
  refine ⟨_, (pss_cons (ps_set (i := 2) sc.nd rfl (Or.inl rfl) pe_str)
    (pss_cons (ps_set (i := 3) sc.nd rfl (Or.inl rfl) (pe_op op_add_str (pv 2) pe_str))
    (pss_cons (ps_set (i := 4) sc.nd rfl (Or.inl rfl) (pv 1))
    (C8.pss_cut (ps_if (pt_cmpR op_eq (pv 1) pe_str (nomark _))
      (pss_one (ps_set (i := 4) sc.nd rfl (Or.inl rfl) (pe_call C_law_pick.ok (hr.mono (by omega)) (by rfl) C_law_pick.m C_law_pick.kp C_law_pick.b .nil pass0 (pa_cons (pv 0) (pa_cons (pe_ix (kx_list (K := K) rfl) (pe_lst (pa_cons (pv 2) (pa_cons pe_str pa_nil))) (pe_call C_law_draw.ok (hr.mono (by omega)) (by rfl) C_law_draw.m C_law_draw.kp C_law_draw.b .nil pass0 (pa_cons (pv 0) (pa_cons pe_int pa_nil))) (fun _ _ => rfl)) pa_nil)))))
      pss_nil)
    (pss_cons (ps_for PassesOwn.never rfl (pi_range1 (by rfl) T.z_range (pa_cons (pe_call C_law_pick.ok (hr.mono (by omega)) (by rfl) C_law_pick.m C_law_pick.kp C_law_pick.b .nil pass0 (pa_cons (pv 0) (pa_cons (pe_lst (pa_cons pe_int (pa_cons pe_int (pa_cons pe_int (pa_cons pe_int (pa_cons pe_int pa_nil)))))) pa_nil))) pa_nil)) (pg_name (i := 5) sc.nd rfl (Or.inl rfl))
      (pss_one (ps_set (i := 4) sc.nd rfl (Or.inl rfl) (pe_op op_add_str (pv 4) (pe_call C_law_pick.ok (hr.mono (by omega)) (by rfl) C_law_pick.m C_law_pick.kp C_law_pick.b .nil pass0 (pa_cons (pv 0) (pa_cons (pv 3) pa_nil)))))))
    (pss_one (ps_ret (pv 4)))))))), ?_⟩

  have lf : (Str.ofString "abcdefghijklmnopqrstuvwxyz").length = 26 := by decide +kernel
  have ls : (Str.ofString "abcdefghijklmnopqrstuvwxyz" ++ Str.ofString "ABCDEFGHIJKLMNOPQRSTUVWXYZ0123456789-").length = 63 := by decide +kernel
  have ks : ∀ c ∈ (Str.ofString "abcdefghijklmnopqrstuvwxyz" ++ Str.ofString "ABCDEFGHIJKLMNOPQRSTUVWXYZ0123456789-").cps.toList, c ∈ keyC := by decide +kernel
  refine ⟨_, rfl, _, _, rfl, rfl, by decide +kernel, _, rfl, ?_⟩
  refine ⟨fun σ H' => Go t H H' ∧ ∃ (z : Str) (v5 : Option V), KeyT z ∧ z.length ≤ 14 ∧ σ = [some (.ref t), some (.str st), some (.str (Str.ofString "abcdefghijklmnopqrstuvwxyz")), some (.str (Str.ofString "abcdefghijklmnopqrstuvwxyz" ++ Str.ofString "ABCDEFGHIJKLMNOPQRSTUVWXYZ0123456789-")), some (.str z), v5], ?_, ?_⟩
  · refine ⟨_, rfl, rfl, _, rfl, ite2 (fun c => ?_) (fun c => ?_)⟩
    · refine ⟨_, rfl, _, rfl, (by show 2 ≤ sizeLine; decide), fun p hp => ?_⟩
      have g0 := (Go.refl hT).new (o := .lst [.str (Str.ofString "abcdefghijklmnopqrstuvwxyz"), .str (Str.ofString "abcd")]) hp
      have np := hT.ne hp
      refine ⟨_, rfl, t, 2, rfl, g0.tp, by decide, by decide, fun r H1 r0 r1 g1 => ?_⟩
      have g1' := g0.trans g1
      obtain ⟨row, e1, e2, e3⟩ : ∃ row : Str, atI [V.str (Str.ofString "abcdefghijklmnopqrstuvwxyz"), V.str (Str.ofString "abcd")] r = some (.str row) ∧ (1 ≤ row.length ∧ row.length ≤ 30) ∧ ∀ c ∈ row.cps.toList, c ∈ firstC := by
        have : r = 0 ∨ r = 1 := by omega
        rcases this with rfl | rfl
        · exact ⟨_, rfl, by decide +kernel, by decide +kernel⟩
        · exact ⟨_, rfl, by decide +kernel, by decide +kernel⟩
      refine ⟨p, _, _, _, rfl, rfl, g1.sm.seqL np (SqL.of upd_same), e1, ?_⟩
      refine ⟨t, _, rfl, g1.tp, .inl ⟨row, rfl, e2.1, by omega, fun c H2 hc g2 => ?_⟩⟩
      exact ⟨g1'.trans g2, _, _, KeyT.one (e3 c hc), by show 1 ≤ 14; decide, rfl⟩
    · have k : KeyT st ∧ st.length ≤ 14 := hst.elim (fun h => by rw [h] at c; simp at c) id
      exact ⟨Go.refl hT, _, _, k.1, k.2, rfl⟩
  · rintro σ H1 ⟨g1, z0, v5, hz0, lz0, rfl⟩
    refine ⟨_, rfl, (by show 5 ≤ sizeLine; decide), fun p1 hp1 => ?_⟩
    refine ⟨t, _, rfl, g1.tp.new hp1, .inr ⟨p1, _, rfl, g1.tp.ne hp1, .inl (SqL.of upd_same), (by show 1 ≤ 5; decide), (by show 5 ≤ 1000000; decide), fun v H2 hv g2 => ?_⟩⟩
    obtain ⟨m, hm, rfl⟩ := pickN [0, 0, 0, 1, 2] hv (b := 2) rfl
    have g2 := (g1.new hp1).trans g2
    refine ⟨m, rfl, by omega, by omega, ?_⟩
    refine for_it (walk_range (lo := 0) (n := (m : Int).toNat)) (fun i σ H' => Go t H H' ∧ ∃ (z : Str) (v5 : Option V), KeyT z ∧ z.length ≤ 14 + i ∧ σ = [some (.ref t), some (.str st), some (.str (Str.ofString "abcdefghijklmnopqrstuvwxyz")), some (.str (Str.ofString "abcdefghijklmnopqrstuvwxyz" ++ Str.ofString "ABCDEFGHIJKLMNOPQRSTUVWXYZ0123456789-")), some (.str z), v5]) ⟨g2, _, _, hz0, by omega, rfl⟩ (fun _ _ _ _ _ => trivial) ?_ ?_
    · rintro i x σ H3 H4 hi ⟨g3, z, v5, hz, lz, rfl⟩ ⟨rfl, rfl⟩
      refine ⟨_, rfl, _, rfl, _, rfl, t, _, rfl, g3.tp, .inl ⟨_, rfl, by rw [ls]; decide, by rw [ls]; decide, fun c H5 hc g5 => ?_⟩⟩
      have l1 : (⟨#[c]⟩ : Str).length = 1 := rfl
      refine ⟨_, _, rfl, rfl, le_line (by omega), g3.trans g5, _, _, hz.app (fun d hd => ?_) (by omega), by rw [app_len]; omega, rfl⟩
      have e : d = c := by simpa using hd
      rw [e]; exact ks c hc
    · rintro σ H3 ⟨g3, z, v5, hz, lz, rfl⟩
      exact ⟨_, rfl, q z _ hz g3⟩
/-! ### _law_keys -/
theorem sc_law_keys : FnScope ["tape", "many", "stem", "keys", "k"] ["tape", "many"] (defScope s_law_keys) := ⟨rfl, rfl, rfl, by decide +kernel, rfl, by decide +kernel, by decide +kernel⟩

def sp_law_keys (K : PySem.W.Frag) : Sp := fun vs H Q _ => ∃ (t : Addr) (m : Nat), vs = [.ref t, .int m] ∧ Tape H t ∧ m ≤ 6 ∧ ∀ (p : Addr) (ws : List Str) H', Go t H H' → H p = none → H' p = some (.lst (ws.map V.str)) → ws.length = m → (∀ z ∈ ws, KeyT z ∧ z ∉ resL) → ws.Nodup → Q (.ref p) H'

theorem ok_law_keys {f : Addr} {fd : FuncData} (F : Fun K "_law_keys" "_law_keys" s_law_keys f fd) (T : Top K w mg) {a_law_pick : Addr} {d_law_pick : FuncData} (C_law_pick : Cal P w K mg base "_law_pick" 2 ["tape", "row"] sp_law_pick a_law_pick d_law_pick) {a_law_fresh : Addr} {d_law_fresh : FuncData} (C_law_fresh : Cal P w K mg base "_law_fresh" 2 ["key", "keys"] sp_law_fresh a_law_fresh d_law_fresh) {a_law_key : Addr} {d_law_key : FuncData} (C_law_key : Cal P w K mg base "_law_key" 3 ["tape", "stem"] sp_law_key a_law_key d_law_key) : FnOk P w K mg base CX0 4 f fd ["tape", "many"] (sp_law_keys K) := by
  have sc := sc_law_keys
  refine F.ok sc (fun vs H Q E h => ?_) (fun cdv A outer s H vs Q E hr h => ?_)
  · obtain ⟨t, m, rfl, _⟩ := h
    rfl
  obtain ⟨t, m, rfl, hT, hm, q⟩ := h
  refine ⟨_, (pss_cons (ps_set (i := 2) sc.nd rfl (Or.inl rfl) (pe_call C_law_pick.ok (hr.mono (by omega)) (by rfl) C_law_pick.m C_law_pick.kp C_law_pick.b .nil pass0 (pa_cons (pv 0) (pa_cons (pe_lst (pa_cons pe_str (pa_cons pe_str (pa_cons pe_str (pa_cons pe_str (pa_cons pe_str (pa_cons pe_str pa_nil))))))) pa_nil))))
    (pss_cons (ps_set (i := 3) sc.nd rfl (Or.inl rfl) (pe_lst pa_nil))
    (pss_cons (ps_for PassesOwn.never rfl (pi_range1 (by rfl) T.z_range (pa_cons (pv 1) pa_nil)) (pg_name (i := 4) sc.nd rfl (Or.inl rfl))
      (pss_one (ps_expr (pe_bm PySem.F.plainAttrs_list PySem.F.slot_list_append PySem.F.type_list_append mt_append (pv 3) (pa_cons (pe_call C_law_fresh.ok (hr.mono (by omega)) (by rfl) C_law_fresh.m C_law_fresh.kp C_law_fresh.b .nil pass0 (pa_cons (pe_call C_law_key.ok (hr.mono (by omega)) (by rfl) C_law_key.m C_law_key.kp C_law_key.b .nil pass0 (pa_cons (pv 0) (pa_cons (pv 2) pa_nil))) (pa_cons (pv 3) pa_nil))) pa_nil)))))
    (pss_one (ps_ret (pv 3)))))), ?_⟩

  refine ⟨_, rfl, (by show 6 ≤ sizeLine; decide), fun p1 hp1 => ?_⟩
  refine ⟨t, _, rfl, hT.new hp1, .inr ⟨p1, _, rfl, hT.ne hp1, .inl (SqL.of upd_same), (by show 1 ≤ 6; decide), (by show 6 ≤ 1000000; decide), fun v H2 hv g2 => ?_⟩⟩
  obtain ⟨st, hst, rfl⟩ := pickS [Str.ofString "", Str.ofString "", Str.ofString "", Str.ofString "", Str.ofString "x", Str.ofString "longBeginning-"] hv
  have all : ∀ z ∈ [Str.ofString "", Str.ofString "", Str.ofString "", Str.ofString "", Str.ofString "x", Str.ofString "longBeginning-"], z = Str.ofString "" ∨ (isKeyC z.cps.toList = true ∧ z.length ≤ 14) := by decide +kernel
  have hst := all st hst
  have s0 : Same H (upd H p1 (.lst ([Str.ofString "", Str.ofString "", Str.ofString "", Str.ofString "", Str.ofString "x", Str.ofString "longBeginning-"].map V.str))) := same_new hp1 _
  have g2 := ((Go.refl hT).new hp1).trans g2
  refine ⟨by decide, fun W hW => ?_⟩
  have nW : W ≠ t := g2.tp.ne hW
  refine ⟨_, rfl, m, rfl, by omega, by omega, ?_⟩
  refine for_it (walk_range (lo := 0) (n := (m : Int).toNat)) (fun i σ H' => Go t H2 H' ∧ ∃ (ws : List Str) (v4 : Option V), H' W = some (.lst (ws.map V.str)) ∧ ws.length = i ∧ (∀ z ∈ ws, KeyT z ∧ z ∉ resL) ∧ ws.Nodup ∧ σ = [some (.ref t), some (.int m), some (.str st), some (.ref W), v4]) ⟨(Go.refl g2.tp).new hW, [], _, upd_same, rfl, (fun _ h => by cases h), List.nodup_nil, rfl⟩ (fun _ _ _ _ _ => trivial) ?_ ?_
  · rintro i x σ H3 H4 hi ⟨g3, ws, v4, eW, lw, hws, nd, rfl⟩ ⟨rfl, rfl⟩
    refine ⟨_, rfl, .inl ⟨rfl, _, SqL.of eW⟩, _, rfl, _, rfl, t, st, rfl, g3.tp, hst, fun z H5 hz g5 => ?_⟩
    have eW5 := g5.sm _ _ nW eW
    refine ⟨_, rfl, z, W, ws, rfl, eW5, hz, by omega, fun u H6 hu n1 n2 s6 => ?_⟩
    have eW6 := s6 _ _ eW5
    refine ⟨W, _, _, rfl, rfl, eW6, lt_line (by rw [List.length_map]; omega), ?_⟩
    refine ⟨Go.late g2.tp (g3.trans (g5.trans (Go.same g5.tp s6))) hW, ws ++ [u], _, by rw [upd_same, List.map_append]; rfl, by rw [List.length_append, lw]; rfl, fun y hy => ?_, ?_, rfl⟩
    · rcases List.mem_append.mp hy with h | h
      · exact hws y h
      · rw [List.mem_singleton.mp h]; exact ⟨hu, n2⟩
    · rw [List.nodup_append]
      refine ⟨nd, by simp, fun a ha b hb => ?_⟩
      rw [List.mem_singleton.mp hb]
      intro e
      exact n1 (e ▸ ha)
  · rintro σ H3 ⟨g3, ws, v4, eW, lw, hws, nd, rfl⟩
    refine ⟨_, rfl, q W ws H3 (g2.trans g3) (g2.sm.free nW hW) eW (by omega) hws nd⟩
/-! ### _law_path -/
theorem sc_law_path : FnScope ["tape", "keys", "most", "k"] ["tape", "keys", "most"] (defScope s_law_path) := ⟨rfl, rfl, rfl, by decide +kernel, rfl, by decide +kernel, by decide +kernel⟩

def sp_law_path (K : PySem.W.Frag) : Sp := fun vs H Q _ => ∃ (t p : Addr) (ws : List Str) (m : Nat), vs = [.ref t, .ref p, .int m] ∧ Tape H t ∧ p ≠ t ∧ SqL K H p (ws.map V.str) ∧ 1 ≤ ws.length ∧ ws.length ≤ 1000 ∧ 1 ≤ m ∧ m ≤ 100 ∧ ∀ (r : Addr) (ks : List Str) H', Go t H H' → H' r = some (.tup (ks.map V.str)) → 1 ≤ ks.length → ks.length ≤ m → (∀ k ∈ ks, k ∈ ws) → Q (.ref r) H'

theorem ok_law_path {f : Addr} {fd : FuncData} (F : Fun K "_law_path" "_law_path" s_law_path f fd) (T : Top K w mg) {a_law_draw : Addr} {d_law_draw : FuncData} (C_law_draw : Cal P w K mg base "_law_draw" 1 ["tape", "many"] sp_law_draw a_law_draw d_law_draw) {a_law_pick : Addr} {d_law_pick : FuncData} (C_law_pick : Cal P w K mg base "_law_pick" 2 ["tape", "row"] sp_law_pick a_law_pick d_law_pick) : FnOk P w K mg base CX0 3 f fd ["tape", "keys", "most"] (sp_law_path K) := by
  have sc := sc_law_path
  refine F.ok sc (fun vs H Q E h => ?_) (fun cdv A outer s H vs Q E hr h => ?_)
  · obtain ⟨t, p, ws, m, rfl, _⟩ := h
    rfl
  obtain ⟨t, p, ws, m, rfl, hT, np, hS, hw1, hw, hm1, hm, q⟩ := h
  refine ⟨_, (pss_one (ps_ret (pe_callTy (kc_tuple (K := K) rfl) (by rfl) T.z_tuple (by decide +kernel) (pa_cons (pe_lc (own := [("k", 3)]) (g := gName 3) (tt := tYes) rfl sc.nd (pi_range1 (by rfl) T.z_range (pa_cons (pe_op op_add pe_int (pe_call C_law_draw.ok (hr.mono (by omega)) (by rfl) C_law_draw.m C_law_draw.kp C_law_draw.b .nil pass0 (pa_cons (pv 0) (pa_cons (pv 2) pa_nil)))) pa_nil)) (blkOk_by (N := ["tape", "keys", "most", "k"]) (sc := defScope s_law_path) (by decide +kernel)) (fun _ _ _ _ _ => pg_name (i := 3) sc.nd rfl (Or.inl rfl)) (fun _ _ _ _ _ => pts_nil) (fun _ _ _ _ _ => (pe_call C_law_pick.ok (hr.mono (by omega)) (by rfl) C_law_pick.m C_law_pick.kp C_law_pick.b .nil pass0 (pa_cons (pv 0) (pa_cons (pv 1) pa_nil))))) pa_nil)))), ?_⟩

  refine ⟨_, rfl, _, rfl, t, m, rfl, hT, by omega, by omega, fun r H1 r0 r1 g1 => ?_⟩
  refine ⟨_, _, rfl, rfl, _, rfl, by omega, by omega, fun D hD => ?_⟩
  refine lc_acc (walk_range (lo := 0) (n := (1 + r).toNat)) (fun i acc H' => Go t H1 H' ∧ ∃ ks : List Str, acc = ks.map V.str ∧ ∀ z ∈ ks, z ∈ ws) ⟨(Go.refl g1.tp).new hD, [], rfl, fun _ h => by cases h⟩ (fun _ _ _ _ _ _ => trivial) ?_ ?_
  · rintro i acc x H4 H5 hi e el ⟨g4, ks, ea, hk⟩ ⟨rfl, rfl⟩
    refine ⟨rfl, _, rfl, _, rfl, t, _, rfl, g4.tp, .inr ⟨p, _, rfl, np, .inl ((g1.trans g4).sm.seqL np hS), by rw [List.length_map]; exact hw1, by rw [List.length_map]; omega, fun v H6 hv g6 => ?_⟩⟩
    obtain ⟨z, hz, rfl⟩ := pickS _ hv
    refine acc_step (g6.sm _ _ (g1.tp.ne hD) e) el (by omega) ⟨Go.late g1.tp (g4.trans g6) hD, ks ++ [z], ?_, fun y hy => ?_⟩
    · rw [ea, List.map_append]; rfl
    · rcases List.mem_append.mp hy with h | h
      · exact hk y h
      · rw [List.mem_singleton.mp h]; exact hz
  · rintro acc H4 e el ⟨g4, ks, ea, hk⟩
    have lk : ks.length = (1 + r).toNat := by rw [ea, List.length_map] at el; exact el
    refine ⟨D, acc, rfl, .inl ⟨SqL.of e, fun l hl => ?_⟩⟩
    refine q l ks _ ((g1.trans g4).new hl) (by rw [upd_same, ea]) (by omega) (by omega) hk
/-! ### _law_is_key -/
theorem sc_law_is_key : FnScope ["text", "letters", "sign"] ["text"] (defScope s_law_is_key) := ⟨rfl, rfl, rfl, by decide +kernel, rfl, by decide +kernel, by decide +kernel⟩

theorem allIn_take {cs gs : List Nat} {i c : Nat} (h : allIn (cs.take i) gs = true) (hc : cs[i]? = some c) (k : c ∈ gs) : allIn (cs.take (i + 1)) gs = true := by
  obtain ⟨hl, e⟩ := List.getElem?_eq_some_iff.mp hc
  unfold allIn at h ⊢
  rw [List.take_succ_eq_append_getElem hl, List.all_append, h, e]
  simp [k]
theorem allIn_no {cs gs : List Nat} {i c : Nat} (hc : cs[i]? = some c) (k : c ∉ gs) : allIn cs gs = false := by
  unfold allIn
  rw [Bool.eq_false_iff]
  intro h
  have := List.all_eq_true.mp h c (List.mem_of_getElem? hc)
  exact k (of_decide_eq_true this)


def sp_law_is_key (K : PySem.W.Frag) : Sp := fun vs H Q _ => ∃ (z : Str), vs = [.str z] ∧ z.length ≤ 100000 ∧ ∀ H', Same H H' → Q (.bl (isKeyC z.cps.toList)) H'

theorem ok_law_is_key {f : Addr} {fd : FuncData} (F : Fun K "_law_is_key" "_law_is_key" s_law_is_key f fd) (T : Top K w mg) : FnOk P w K mg base CX0 1 f fd ["text"] (sp_law_is_key K) := by
  have sc := sc_law_is_key
  refine F.ok sc (fun vs H Q E h => ?_) (fun cdv A outer s H vs Q E hr h => ?_)
  · obtain ⟨z, rfl, _⟩ := h
    rfl
  obtain ⟨z, rfl, hz, q⟩ := h
  refine ⟨_, (pss_cons (ps_set (i := 1) sc.nd rfl (Or.inl rfl) pe_str)
    (pss_cons (ps_if (PW.pt (pw_or (pt_cmpR op_eq (pv 0) pe_str (nomark _)) (pw_or (pt_cmpR op_gt (pe_callB call_len_str (by rfl) T.z_len (by decide +kernel) (pa_cons (pv 0) pa_nil)) pe_int (nomark _)) (pw_or1 (pt_cmpR op_notIn_sign (pe_ix ix_str (pv 0) pe_int (fun _ _ => rfl)) (pv 1) rfl)))))
      (pss_one (ps_ret pe_bl))
      pss_nil)
    (pss_cons (ps_for PassesOwn.never rfl (pi_str (pv 0)) (pg_name (i := 2) sc.nd rfl (Or.inl rfl))
      (pss_one (ps_if (pt_cmpR op_notIn_sign (pv 2) (pe_op op_add_str (pv 1) pe_str) rfl)
        (pss_one (ps_ret pe_bl))
        pss_nil)))
    (pss_one (ps_ret pe_bl))))), ?_⟩

  have hl : z.cps.toList.length = z.length := by simp [Str.length]
  have hq := q H (Same.refl H)
  refine ⟨_, rfl, rfl, _, rfl, ite2 (fun c => ?_) (fun c => ?_)⟩
  · have e : z = Str.ofString "" := V.str.inj (of_decide_eq_true c)
    rw [isKeyC_no (.inl (by rw [e]; rfl))] at hq
    exact hq
  refine ⟨_, rfl, z, rfl, Nat.le_trans hz (by decide), _, _, rfl, rfl, _, rfl, ite2 (fun c2 => ?_) (fun c2 => ?_)⟩
  · have e : (16 : Int) < (z.length : Int) := of_decide_eq_true c2
    rw [isKeyC_no (.inr (by omega))] at hq
    exact hq
  have h16 : ¬ (16 : Int) < (z.length : Int) := fun h => c2 (decide_eq_true h)
  have hne : z.cps.toList ≠ [] := fun h => c (decide_eq_true (congrArg V.str (str_of_list h)))
  obtain ⟨a, r, ea⟩ := List.exists_cons_of_ne_nil hne
  have h0 : z.cps.toList[0]? = some a := by rw [ea]; rfl
  rw [isKeyC_yes h0 (by omega)] at hq
  refine ⟨_, rfl, z, 0, a, rfl, rfl, Nat.le_trans hz (by decide), atI_nat h0, _, rfl, a, _, rfl, rfl, _, rfl, ite2 (fun c3 => ?_) (fun c3 => ?_)⟩
  · have c3' : decide (a ∈ firstC) = false := by
      have : (!decide (a ∈ firstC)) = true := c3
      simpa using this
    rw [c3', Bool.false_and] at hq
    exact hq
  · have c3' : decide (a ∈ firstC) = true := by
      have : ¬ (!decide (a ∈ firstC)) = true := c3
      simpa using this
    rw [c3', Bool.true_and] at hq
    refine ⟨_, rfl, z, rfl, for_it (walk_str (z := z)) (fun i σ H' => H' = H ∧ allIn (z.cps.toList.take i) keyC = true ∧ ∃ v, σ = [some (.str z), some (.str (Str.ofString "abcdefghijklmnopqrstuvwxyz")), v]) ⟨rfl, rfl, none, rfl⟩ (fun _ _ _ _ _ => trivial) ?_ ?_⟩
    · rintro i x σ H1 H2 hi ⟨rfl, k1, v, rfl⟩ ⟨rfl, c, hc, rfl⟩
      have hc' : z.cps.toList[i]? = some c := by rw [Array.getElem?_toList]; exact hc
      refine ⟨_, rfl, _, rfl, _, _, rfl, rfl, by decide +kernel, c, _, rfl, rfl, _, rfl, ite2 (fun c4 => ?_) (fun c4 => ?_)⟩
      · have c4' : c ∉ keyC := by
          intro k
          have : (!decide (c ∈ keyC)) = true := c4
          simp [k] at this
        rw [allIn_no hc' c4'] at hq
        exact hq
      · have c4' : c ∈ keyC := by
          have : ¬ (!decide (c ∈ keyC)) = true := c4
          simpa using this
        exact ⟨rfl, allIn_take k1 hc' c4', _, rfl⟩
    · rintro σ H1 ⟨rfl, k1, v, rfl⟩
      rw [List.take_of_length_le (by simp)] at k1
      rw [k1] at hq
      exact hq
/-! ### _law_path_of -/
theorem sc_law_path_of : FnScope ["text", "most", "parts", "part"] ["text", "most"] (defScope s_law_path_of) := ⟨rfl, rfl, rfl, by decide +kernel, rfl, by decide +kernel, by decide +kernel⟩

def sp_law_path_of (K : PySem.W.Frag) : Sp := fun vs H Q _ => ∃ (z : Str) (m : Int), vs = [.str z, .int m] ∧ z.length ≤ 100000 ∧ ∀ v H', Same H H' → DT K H' v (rpD (readP z m)) → Q v H'

theorem ok_law_path_of {f : Addr} {fd : FuncData} (F : Fun K "_law_path_of" "_law_path_of" s_law_path_of f fd) (T : Top K w mg) {a_law_is_key : Addr} {d_law_is_key : FuncData} (C_law_is_key : Cal P w K mg base "_law_is_key" 1 ["text"] sp_law_is_key a_law_is_key d_law_is_key) : FnOk P w K mg base CX0 2 f fd ["text", "most"] (sp_law_path_of K) := by
  have sc := sc_law_path_of
  refine F.ok sc (fun vs H Q E h => ?_) (fun cdv A outer s H vs Q E hr h => ?_)
  · obtain ⟨z, m, rfl, _⟩ := h
    rfl
  obtain ⟨z, m, rfl, hz, q⟩ := h
  refine ⟨_, (pss_cons (ps_set (i := 2) sc.nd rfl (Or.inl rfl) (pe_split (pv 0) pe_str))
    (pss_cons (ps_if (pt_cmpR op_gt (pe_callB (kc_lenS (K := K) rfl) (by rfl) T.z_len (by decide +kernel) (pa_cons (pv 2) pa_nil)) (pv 1) (nomark _))
      (pss_one (ps_ret pe_non))
      pss_nil)
    (pss_cons (ps_for PassesOwn.never rfl (kpi_list (K := K) rfl (pv 2)) (pg_name (i := 3) sc.nd rfl (Or.inl rfl))
      (pss_one (ps_if (pt_not (pt_val (pe_call C_law_is_key.ok (hr.mono (by omega)) (by rfl) C_law_is_key.m C_law_is_key.kp C_law_is_key.b .nil pass0 (pa_cons (pv 3) pa_nil))))
        (pss_one (ps_ret pe_non))
        pss_nil)))
    (pss_one (ps_ret (pe_callTy (kc_tuple (K := K) rfl) (by rfl) T.z_tuple (by decide +kernel) (pa_cons (pv 2) pa_nil))))))), ?_⟩

  have hl := parts_len hz
  refine ⟨_, rfl, ⟨_, rfl⟩, z, dotS, rfl, rfl, by decide +kernel, le_line (by omega), fun p hp => ?_⟩
  have l2 : ((partsD z).map V.str).length = (partsD z).length := List.length_map _
  have s1 := same_new hp (.lst ((partsD z).map V.str))
  have e1 : (upd H p (.lst ((partsD z).map V.str))) p = some (.lst ((partsD z).map V.str)) := upd_same
  show tSeq _ _ _ _ (upd H p (.lst ((partsD z).map V.str)))
  generalize upd H p (.lst ((partsD z).map V.str)) = H1 at s1 e1
  refine ⟨_, rfl, p, _, rfl, .inl (SqL.of e1), _, rfl, _, _, rfl, rfl, _, rfl, ite2 (fun c => ?_) (fun c => ?_)⟩
  · have c' : m < ((partsD z).length : Int) := by rw [← l2]; exact of_decide_eq_true c
    have e : readP z m = none := by unfold readP; rw [if_neg (fun q => by omega)]
    rw [e] at q
    exact q _ _ s1 .non
  have c' : ((partsD z).length : Int) ≤ m := by rw [← l2]; exact Int.not_lt.mp fun h => c (decide_eq_true h)
  refine ⟨_, rfl, p, rfl, ⟨_, SqL.of e1⟩, ?_⟩
  refine for_it (walk_list (K := K) (a := p) (xs := (partsD z).map V.str)) (fun i σ H' => Same H1 H' ∧ (((partsD z).take i).all fun k => isKeyC k.cps.toList) = true ∧ ∃ v, σ = [some (.str z), some (.int m), some (.ref p), v]) ⟨Same.refl _, rfl, _, rfl⟩ (fun _ _ _ _ h => SqL.of (h.1 _ _ e1)) ?_ ?_
  · rintro i x σ H2 H3 hi ⟨s2, ok, v, rfl⟩ ⟨rfl, hx⟩
    rw [List.getElem?_map] at hx
    obtain ⟨k, hk, rfl⟩ := Option.map_eq_some_iff.mp hx
    obtain ⟨hi2, ek⟩ := List.getElem?_eq_some_iff.mp hk
    refine ⟨_, rfl, k, rfl, Nat.le_trans (parts_short (List.mem_of_getElem? hk)) hz, fun H4 s4 => ⟨_, rfl, ?_⟩⟩
    cases c2 : isKeyC k.cps.toList with
    | false =>
      refine iteT ?_
      have e : readP z m = none := by
        unfold readP
        rw [if_neg]
        intro q
        have := List.all_eq_true.mp q.2 k (List.mem_of_getElem? hk)
        rw [c2] at this
        cases this
      rw [e] at q
      exact q _ _ (s1.trans (s2.trans s4)) .non
    | true =>
      refine iteF ⟨s2.trans s4, ?_, _, rfl⟩
      rw [List.take_succ_eq_append_getElem hi2, ek, List.all_append, ok]
      simp [c2]
  · rintro σ H2 ⟨s2, ok, v, rfl⟩
    rw [l2, List.take_length] at ok
    refine ⟨_, rfl, p, _, rfl, .inl ⟨SqL.of (s2 _ _ e1), fun l hl => ?_⟩⟩
    have e : readP z m = some (partsD z) := by unfold readP; rw [if_pos ⟨c', ok⟩]
    rw [e] at q
    exact q _ _ (s1.trans (s2.trans (same_new hl _))) (.tup (SqT.of upd_same) (DTs.strs _))
/-! ### _law_spoilt -/
theorem sc_law_spoilt : FnScope ["tape", "text", "choice", "at"] ["tape", "text"] (defScope s_law_spoilt) := ⟨rfl, rfl, rfl, by decide +kernel, rfl, by decide +kernel, by decide +kernel⟩

def sp_law_spoilt (K : PySem.W.Frag) : Sp := fun vs H Q _ => ∃ (t : Addr) (z : Str), vs = [.ref t, .str z] ∧ Tape H t ∧ z.length ≤ 1000 ∧ ∀ u H', u.length ≤ 100000 → Go t H H' → Q (.str u) H'

theorem ok_law_spoilt {f : Addr} {fd : FuncData} (F : Fun K "_law_spoilt" "_law_spoilt" s_law_spoilt f fd) (T : Top K w mg) {a_law_draw : Addr} {d_law_draw : FuncData} (C_law_draw : Cal P w K mg base "_law_draw" 1 ["tape", "many"] sp_law_draw a_law_draw d_law_draw) {a_law_pick : Addr} {d_law_pick : FuncData} (C_law_pick : Cal P w K mg base "_law_pick" 2 ["tape", "row"] sp_law_pick a_law_pick d_law_pick) {a_law_any_sign : Addr} {d_law_any_sign : FuncData} (C_law_any_sign : Cal P w K mg base "_law_any_sign" 3 ["tape"] sp_law_any_sign a_law_any_sign d_law_any_sign) {a_law_text : Addr} {d_law_text : FuncData} (C_law_text : Cal P w K mg base "_law_text" 4 ["tape", "many"] sp_law_text a_law_text d_law_text) : FnOk P w K mg base CX0 5 f fd ["tape", "text"] (sp_law_spoilt K) := by
  have sc := sc_law_spoilt
  refine F.ok sc (fun vs H Q E h => ?_) (fun cdv A outer s H vs Q E hr h => ?_)
  · obtain ⟨t, z, rfl, _⟩ := h
    rfl
  obtain ⟨t, z, rfl, hT, hz, q⟩ := h
  refine ⟨_, (pss_cons (ps_set (i := 2) sc.nd rfl (Or.inl rfl) (pe_call C_law_draw.ok (hr.mono (by omega)) (by rfl) C_law_draw.m C_law_draw.kp C_law_draw.b .nil pass0 (pa_cons (pv 0) (pa_cons pe_int pa_nil))))
    (pss_cons (ps_set (i := 3) sc.nd rfl (Or.inl rfl) (pe_call C_law_draw.ok (hr.mono (by omega)) (by rfl) C_law_draw.m C_law_draw.kp C_law_draw.b .nil pass0 (pa_cons (pv 0) (pa_cons (pe_op op_add (pe_callB call_len_str (by rfl) T.z_len (by decide +kernel) (pa_cons (pv 1) pa_nil)) pe_int) pa_nil))))
    (pss_cons (ps_if (pt_cmpR op_eq (pv 2) pe_int (nomark _))
      (pss_one (ps_ret (pe_op op_add_str (pe_op op_add_str (pe_slice sl_str (pv 1) po_none (po_some (pv 3))) (pe_call C_law_any_sign.ok (hr.mono (by omega)) (by rfl) C_law_any_sign.m C_law_any_sign.kp C_law_any_sign.b .nil pass0 (pa_cons (pv 0) pa_nil))) (pe_slice sl_str (pv 1) (po_some (pe_op op_add (pv 3) pe_int)) po_none))))
      pss_nil)
    (pss_cons (ps_if (pt_cmpR op_eq (pv 2) pe_int (nomark _))
      (pss_one (ps_ret (pe_op op_add_str (pe_op op_add_str (pe_slice sl_str (pv 1) po_none (po_some (pv 3))) (pe_call C_law_pick.ok (hr.mono (by omega)) (by rfl) C_law_pick.m C_law_pick.kp C_law_pick.b .nil pass0 (pa_cons (pv 0) (pa_cons pe_str pa_nil)))) (pe_slice sl_str (pv 1) (po_some (pv 3)) po_none))))
      pss_nil)
    (pss_cons (ps_if (pt_cmpR op_eq (pv 2) pe_int (nomark _))
      (pss_one (ps_ret (pe_op op_add_str (pe_slice sl_str (pv 1) po_none (po_some (pv 3))) (pe_slice sl_str (pv 1) (po_some (pe_op op_add (pv 3) pe_int)) po_none))))
      pss_nil)
    (pss_cons (ps_if (pt_cmpR op_eq (pv 2) pe_int (nomark _))
      (pss_one (ps_ret (pe_call C_law_pick.ok (hr.mono (by omega)) (by rfl) C_law_pick.m C_law_pick.kp C_law_pick.b .nil pass0 (pa_cons (pv 0) (pa_cons (pe_lst (pa_first (pv 1) (pat_cons (CwR.PET.of (pe_op op_add_str pe_str (pv 1))) (pat_cons (CwR.pet_replC (pv 1) (by decide +kernel)) (pat_cons (CwR.pet_replC (pv 1) (by decide +kernel)) (pat_cons (CwR.PET.of pe_str) (pat_cons (CwR.PET.of pe_str) pat_nil))))))) pa_nil)))))
      pss_nil)
    (pss_cons (ps_if (pt_cmpR op_eq (pv 2) pe_int (nomark _))
      (pss_one (ps_ret (pe_call C_law_text.ok (hr.mono (by omega)) (by rfl) C_law_text.m C_law_text.kp C_law_text.b .nil pass0 (pa_cons (pv 0) (pa_cons (pe_op op_add pe_int (pe_call C_law_draw.ok (hr.mono (by omega)) (by rfl) C_law_draw.m C_law_draw.kp C_law_draw.b .nil pass0 (pa_cons (pv 0) (pa_cons pe_int pa_nil)))) pa_nil)))))
      pss_nil)
    (pss_cons (ps_if (pt_cmpR op_eq (pv 2) pe_int (nomark _))
      (pss_one (ps_ret (pe_call C_law_pick.ok (hr.mono (by omega)) (by rfl) C_law_pick.m C_law_pick.kp C_law_pick.b .nil pass0 (pa_cons (pv 0) (pa_cons (pe_lst (pa_cons (pe_op op_add_str (pv 1) pe_str) (pa_cons (pe_op op_add_str pe_str (pv 1)) (pa_cons (pe_op op_add_str (pv 1) pe_str) (pa_cons (pe_op op_add_str pe_str (pv 1)) pa_nil))))) pa_nil)))))
      pss_nil)
    (pss_one (ps_ret (pv 1))))))))))), ?_⟩

  refine ⟨_, rfl, t, 9, rfl, hT, by decide, by decide, fun ch H1 _ _ g1 => ?_⟩
  refine ⟨_, rfl, _, rfl, z, rfl, le_line (by omega), _, _, rfl, rfl, t, _, rfl, g1.tp, by omega, by omega, fun at' H2 a0 _ g2 => ?_⟩
  have g2 := g1.trans g2
  have lone : ∀ c, (⟨#[c]⟩ : Str).length = 1 := fun _ => rfl
  have k1 := cutS_length z none (some at')
  have k2 := cutS_length z (some (at' + 1)) none
  have k3 := cutS_length z (some at') none
  refine ⟨_, rfl, rfl, _, rfl, ite2 (fun _ => ?_) (fun _ => ?_)⟩
  · refine ⟨_, rfl, _, rfl, _, rfl, z, rfl, le_line (by omega), _, rfl, t, rfl, g2.tp, fun c H3 _ g3 => ?_⟩
    refine ⟨_, _, rfl, rfl, le_line (by rw [lone]; omega), _, rfl, _, rfl, _, _, rfl, rfl, _, rfl, z, rfl, le_line (by omega), _, _, rfl, rfl, le_line (by rw [app_len, lone]; omega), ?_⟩
    exact q _ _ (by rw [app_len, app_len, lone]; omega) (g2.trans g3)
  refine ⟨_, rfl, rfl, _, rfl, ite2 (fun _ => ?_) (fun _ => ?_)⟩
  · refine ⟨_, rfl, _, rfl, _, rfl, z, rfl, le_line (by omega), _, rfl, t, _, rfl, g2.tp, .inl ⟨_, rfl, by decide +kernel, by decide +kernel, fun c H3 hc g3 => ?_⟩⟩
    refine ⟨_, _, rfl, rfl, le_line (by rw [lone]; omega), _, rfl, _, rfl, _, rfl, z, rfl, le_line (by omega), _, _, rfl, rfl, le_line (by rw [app_len, lone]; omega), ?_⟩
    exact q _ _ (by rw [app_len, app_len, lone]; omega) (g2.trans g3)
  refine ⟨_, rfl, rfl, _, rfl, ite2 (fun _ => ?_) (fun _ => ?_)⟩
  · refine ⟨_, rfl, _, rfl, _, rfl, z, rfl, le_line (by omega), _, rfl, _, rfl, _, _, rfl, rfl, _, rfl, z, rfl, le_line (by omega), _, _, rfl, rfl, le_line (by omega), ?_⟩
    exact q _ _ (by rw [app_len]; omega) g2
  refine ⟨_, rfl, rfl, _, rfl, ite2 (fun _ => ?_) (fun _ => ?_)⟩
  · have l1 : (Str.ofString ".").length = 1 := by decide +kernel
    have l2 : (Str.ofString "..").length = 2 := by decide +kernel
    have l3 : (Str.ofString " ").length = 1 := by decide +kernel
    have r1 := TK.replace_len z (Str.ofString ".") (Str.ofString "..")
    have r2 := TK.replace_len z (Str.ofString ".") (Str.ofString " ")
    rw [l2] at r1
    rw [l3] at r2
    refine ⟨_, rfl, _, rfl, _, _, rfl, rfl, le_line (by omega), _, rfl, _, _, rfl, rfl, le_line (by omega), _, rfl, z, rfl, by rw [l2]; omega, _, rfl, z, rfl, by rw [l3]; omega, (by show 6 ≤ sizeLine; decide), fun p hp => ?_⟩
    refine ⟨t, _, rfl, g2.tp.new hp, .inr ⟨p, _, rfl, g2.tp.ne hp, .inl (SqL.of upd_same), (by show 1 ≤ 6; decide), (by show 6 ≤ 1000000; decide), fun v H3 hv g3 => ?_⟩⟩
    have gg := (g2.new hp).trans g3
    simp only [List.mem_cons, List.not_mem_nil, or_false] at hv
    rcases hv with rfl | rfl | rfl | rfl | rfl | rfl
    · exact q _ _ (by rw [app_len]; omega) gg
    · exact q _ _ (by rw [app_len]; omega) gg
    · exact q _ _ (by omega) gg
    · exact q _ _ (by omega) gg
    · exact q _ _ (Nat.zero_le _) gg
    · exact q _ _ (by omega) gg
  refine ⟨_, rfl, rfl, _, rfl, ite2 (fun _ => ?_) (fun _ => ?_)⟩
  · refine ⟨_, rfl, _, rfl, t, 20, rfl, g2.tp, by decide, by decide, fun r H3 r0 r1 g3 => ⟨_, _, rfl, rfl, ?_⟩⟩
    refine ⟨t, (1 + r).toNat, by show [V.ref t, V.int (1 + r)] = [V.ref t, V.int ((1 + r).toNat : Int)]; rw [Int.toNat_of_nonneg (by omega)], g3.tp, by omega, fun u H4 _ lu g4 => ?_⟩
    exact q u H4 (by omega) (g2.trans (g3.trans g4))
  refine ⟨_, rfl, rfl, _, rfl, ite2 (fun _ => ?_) (fun _ => ?_)⟩
  · have l3 : (Str.ofString " ").length = 1 := by decide +kernel
    have l4 : (Str.ofString ".abcdefghijklmnopq").length = 18 := by decide +kernel
    have l5 : (Str.ofString "abcdefghijklmnop.").length = 17 := by decide +kernel
    refine ⟨_, rfl, _, rfl, _, _, rfl, rfl, le_line (by omega), _, rfl, _, _, rfl, rfl, le_line (by omega), _, rfl, _, _, rfl, rfl, le_line (by omega), _, rfl, _, _, rfl, rfl, le_line (by omega), (by show 4 ≤ sizeLine; decide), fun p hp => ?_⟩
    refine ⟨t, _, rfl, g2.tp.new hp, .inr ⟨p, _, rfl, g2.tp.ne hp, .inl (SqL.of upd_same), (by show 1 ≤ 4; decide), (by show 4 ≤ 1000000; decide), fun v H3 hv g3 => ?_⟩⟩
    have gg := (g2.new hp).trans g3
    simp only [List.mem_cons, List.not_mem_nil, or_false] at hv
    rcases hv with rfl | rfl | rfl | rfl <;> exact q _ _ (by rw [app_len]; omega) gg
  · exact ⟨_, rfl, q z _ (by omega) g2⟩
/-! ### law -/
theorem sc_law : FnScope ["script", "tape", "keys", "path", "text", "k", "spoilt", "most", "each"] ["script"] (defScope s_law) := ⟨rfl, rfl, rfl, by decide +kernel, rfl, by decide +kernel, by decide +kernel⟩

def sp_law (K : PySem.W.Frag) : Sp := fun vs H Q _ => ∃ (a : Addr) (ns : List Int), vs = [.ref a] ∧ SqL K H a (ns.map V.int) ∧ ns.length ≤ 63 ∧ ∀ H', Q (.bl true) H'

theorem ok_law {f : Addr} {fd : FuncData} (F : Fun K "law" "law" s_law f fd) (T : Top K w mg) {a_read_path : Addr} {d_read_path : FuncData} (C_read_path : Cal P w K mg base "read_path" 3 ["text", "most"] sp_read_path a_read_path d_read_path) {a_show_path : Addr} {d_show_path : FuncData} (C_show_path : Cal P w K mg base "show_path" 1 ["path"] sp_show_path a_show_path d_show_path) {a_law_tape : Addr} {d_law_tape : FuncData} (C_law_tape : Cal P w K mg base "_law_tape" 1 ["script"] sp_law_tape a_law_tape d_law_tape) {a_law_draw : Addr} {d_law_draw : FuncData} (C_law_draw : Cal P w K mg base "_law_draw" 1 ["tape", "many"] sp_law_draw a_law_draw d_law_draw) {a_law_same : Addr} {d_law_same : FuncData} (C_law_same : Cal P w K mg base "_law_same" 40 ["actual", "expected"] sp_law_same a_law_same d_law_same) {a_law_keys : Addr} {d_law_keys : FuncData} (C_law_keys : Cal P w K mg base "_law_keys" 4 ["tape", "many"] sp_law_keys a_law_keys d_law_keys) {a_law_path : Addr} {d_law_path : FuncData} (C_law_path : Cal P w K mg base "_law_path" 3 ["tape", "keys", "most"] sp_law_path a_law_path d_law_path) {a_law_path_of : Addr} {d_law_path_of : FuncData} (C_law_path_of : Cal P w K mg base "_law_path_of" 2 ["text", "most"] sp_law_path_of a_law_path_of d_law_path_of) {a_law_spoilt : Addr} {d_law_spoilt : FuncData} (C_law_spoilt : Cal P w K mg base "_law_spoilt" 5 ["tape", "text"] sp_law_spoilt a_law_spoilt d_law_spoilt) : FnOk P w K mg base CX0 41 f fd ["script"] (sp_law K) := by
  have sc := sc_law
  refine F.ok sc (fun vs H Q E h => ?_) (fun cdv A outer s H vs Q E hr h => ?_)
  · obtain ⟨a, ns, rfl, _⟩ := h
    rfl
  obtain ⟨a, ns, rfl, hS, hn, q⟩ := h
  refine ⟨_, (pss_cons (ps_set (i := 1) sc.nd rfl (Or.inl rfl) (pe_call C_law_tape.ok (hr.mono (by omega)) (by rfl) C_law_tape.m C_law_tape.kp C_law_tape.b .nil pass0 (pa_cons (pv 0) pa_nil)))
    (pss_cons (ps_set (i := 2) sc.nd rfl (Or.inl rfl) (pe_call C_law_keys.ok (hr.mono (by omega)) (by rfl) C_law_keys.m C_law_keys.kp C_law_keys.b .nil pass0 (pa_cons (pv 1) (pa_cons (pe_op op_add pe_int (pe_call C_law_draw.ok (hr.mono (by omega)) (by rfl) C_law_draw.m C_law_draw.kp C_law_draw.b .nil pass0 (pa_cons (pv 1) (pa_cons pe_int pa_nil)))) pa_nil))))
    (pss_cons (ps_set (i := 3) sc.nd rfl (Or.inl rfl) (pe_call C_law_path.ok (hr.mono (by omega)) (by rfl) C_law_path.m C_law_path.kp C_law_path.b .nil pass0 (pa_cons (pv 1) (pa_cons (pv 2) (pa_cons pe_int pa_nil)))))
    (pss_cons (ps_set (i := 4) sc.nd rfl (Or.inl rfl) (pe_join pe_str (pe_callTy (kc_list (K := K) rfl) (by rfl) T.z_list (by decide +kernel) (pa_cons (pv 3) pa_nil))))
    (pss_cons (ps_if (PW.pt (pw_or (pt_not (pt_val (pe_call C_law_same.ok (hr.mono (by omega)) (by rfl) C_law_same.m C_law_same.kp C_law_same.b .nil pass0 (pa_cons (pe_call C_show_path.ok (hr.mono (by omega)) (by rfl) C_show_path.m C_show_path.kp C_show_path.b .nil pass0 (pa_cons (pv 3) pa_nil)) (pa_cons (pv 4) pa_nil))))) (pw_or1 (pt_not (pt_val (pe_call C_law_same.ok (hr.mono (by omega)) (by rfl) C_law_same.m C_law_same.kp C_law_same.b .nil pass0 (pa_cons (pe_call C_read_path.ok (hr.mono (by omega)) (by rfl) C_read_path.m C_read_path.kp C_read_path.b .nil pass0 (pa_cons (pe_call C_show_path.ok (hr.mono (by omega)) (by rfl) C_show_path.m C_show_path.kp C_show_path.b .nil pass0 (pa_cons (pv 3) pa_nil)) (pa_cons pe_int pa_nil))) (pa_cons (pv 3) pa_nil))))))))
      (pss_one (ps_ret pe_bl))
      pss_nil)
    (pss_cons (ps_for PassesOwn.never rfl (pi_range1 (by rfl) T.z_range (pa_cons pe_int pa_nil)) (pg_name (i := 5) sc.nd rfl (Or.inl rfl))
      (pss_cons (ps_set (i := 6) sc.nd rfl (Or.inl rfl) (pe_slice sl_str (pe_call C_law_spoilt.ok (hr.mono (by omega)) (by rfl) C_law_spoilt.m C_law_spoilt.kp C_law_spoilt.b .nil pass0 (pa_cons (pv 1) (pa_cons (pv 4) pa_nil))) po_none (po_some pe_int)))
      (pss_cons (ps_set (i := 7) sc.nd rfl (Or.inl rfl) (pe_op op_add pe_int (pe_call C_law_draw.ok (hr.mono (by omega)) (by rfl) C_law_draw.m C_law_draw.kp C_law_draw.b .nil pass0 (pa_cons (pv 1) (pa_cons pe_int pa_nil)))))
      (pss_one (ps_for PassesOwn.never rfl (kpi_list (K := K) rfl (pe_lst (pa_cons (pv 7) (pa_cons (pe_op op_add pe_int (pe_call C_law_draw.ok (hr.mono (by omega)) (by rfl) C_law_draw.m C_law_draw.kp C_law_draw.b .nil pass0 (pa_cons (pv 1) (pa_cons pe_int pa_nil)))) (pa_cons (pv 7) pa_nil))))) (pg_name (i := 8) sc.nd rfl (Or.inl rfl))
        (pss_one (ps_if (pt_not (pt_val (pe_call C_law_same.ok (hr.mono (by omega)) (by rfl) C_law_same.m C_law_same.kp C_law_same.b .nil pass0 (pa_cons (pe_call C_read_path.ok (hr.mono (by omega)) (by rfl) C_read_path.m C_read_path.kp C_read_path.b .nil pass0 (pa_cons (pv 6) (pa_cons (pv 8) pa_nil))) (pa_cons (pe_call C_law_path_of.ok (hr.mono (by omega)) (by rfl) C_law_path_of.m C_law_path_of.kp C_law_path_of.b .nil pass0 (pa_cons (pv 6) (pa_cons (pv 8) pa_nil))) pa_nil)))))
          (pss_one (ps_ret pe_bl))
          pss_nil)))))))
    (pss_one (ps_ret (pe_and (pe_call C_law_same.ok (hr.mono (by omega)) (by rfl) C_law_same.m C_law_same.kp C_law_same.b .nil pass0 (pa_cons (pe_call C_show_path.ok (hr.mono (by omega)) (by rfl) C_show_path.m C_show_path.kp C_show_path.b .nil pass0 (pa_cons (pe_slice (ksl_tup (K := K) rfl) (pv 3) po_none (po_some pe_int)) pa_nil)) (pa_cons (pe_ix (kx_tup (K := K) rfl) (pv 3) pe_int (fun _ _ => rfl)) pa_nil))) (pe_one (pe_call C_law_same.ok (hr.mono (by omega)) (by rfl) C_law_same.m C_law_same.kp C_law_same.b .nil pass0 (pa_cons (pe_call C_read_path.ok (hr.mono (by omega)) (by rfl) C_read_path.m C_read_path.kp C_read_path.b .nil pass0 (pa_cons (pv 4) (pa_cons (pe_callB (kc_lenS (K := K) rfl) (by rfl) T.z_len (by decide +kernel) (pa_cons (pv 3) pa_nil)) pa_nil))) (pa_cons (pv 3) pa_nil))))))))))))), ?_⟩

  refine ⟨_, rfl, a, ns, rfl, hS, hn, fun t H1 hT ht s1 => ?_⟩
  refine ⟨_, rfl, _, rfl, t, 4, rfl, hT, by decide, by decide, fun r H2 r0 r1 g2 => ⟨_, _, rfl, rfl, ?_⟩⟩
  refine ⟨t, (1 + r).toNat, by show [V.ref t, V.int (1 + r)] = [V.ref t, V.int ((1 + r).toNat : Int)]; rw [Int.toNat_of_nonneg (by omega)], g2.tp, by omega, fun p ws H3 g3 np3 eP lw hws nd => ?_⟩
  have np : p ≠ t := g2.tp.ne np3
  refine ⟨_, rfl, _, rfl, t, p, ws, 5, rfl, g3.tp, np, SqL.of eP, by omega, by omega, by decide, by decide, fun b ks H4 g4 eb l1 l2 hk => ?_⟩
  have key : ∀ k ∈ ks, KeyT k := fun k h => (hws k (hk k h)).1
  have kl : ∀ k ∈ ks, k.length ≤ 16 := fun k h => (key k h).len
  have kl2 : ∀ k ∈ ks, k.length ≤ 1000 := fun k h => by have := kl k h; omega
  have hb : SqT K H4 b (ks.map V.str) := SqT.of eb
  have hs := sum_lens kl
  have e1 : dotS.length = 1 := by decide +kernel
  have hj := join_len_le dotS ks
  rw [e1] at hj
  have hne : ks ≠ [] := fun z => by rw [z] at l1; simp at l1
  refine ⟨⟨_, rfl⟩, _, rfl, b, _, rfl, .inr hb, fun l hl => ⟨dotS, l, ks, rfl, rfl, .inl (SqL.of upd_same), by rw [e1]; omega, ?_⟩⟩
  have g5 := g4.new (o := .lst (ks.map V.str)) hl
  have hb5 := (same_new hl (.lst (ks.map V.str))).seqT hb
  generalize upd H4 l (.lst (ks.map V.str)) = H5 at g5 hb5
  have dsame : ∀ m, (rpD (readP (Txt.join dotS ks) m)).deep ≤ 40 ∧ (rpD (readP (Txt.join dotS ks) m)).fits = true := fun m => rpD_same _ m (by omega)
  refine ⟨_, rfl, b, ks, rfl, hb5, by omega, kl2, _, rfl, _, _, .str _, rfl, .str _, .str _, (by show 1 ≤ 40; decide), rfl, fun H6 s6 => ⟨_, rfl, iteF ?_⟩⟩
  refine ⟨_, rfl, b, ks, rfl, s6.seqT hb5, by omega, kl2, _, 5, rfl, by omega, fun v H7 s7 dv => ?_⟩
  have r5 := readP_join (m := 5) hne key (by omega)
  have ds5 := dsame 5
  rw [r5] at dv ds5
  have hb7 := s7.seqT (s6.seqT hb5)
  refine ⟨_, rfl, v, _, _, rfl, dv, .tup hb7 (DTs.strs _), ds5.1, ds5.2, fun H8 s8 => ⟨_, rfl, iteF ?_⟩⟩
  have g8 := g5.trans (Go.same g5.tp (s6.trans (s7.trans s8)))
  have hb8 := s8.seqT hb7
  refine ⟨5, rfl, by decide, by decide, ?_⟩
  refine for_it (walk_range (lo := 0) (n := (5 : Int).toNat)) (fun i σ H' => Go t H8 H' ∧ ∃ v5 v6 v7 v8, σ = [some (.ref a), some (.ref t), some (.ref p), some (.ref b), some (.str (Txt.join dotS ks)), v5, v6, v7, v8]) ⟨Go.refl g8.tp, _, _, _, _, rfl⟩ (fun _ _ _ _ _ => trivial) ?_ ?_
  · rintro i x σ H9 H10 hi ⟨g9, v5, v6, v7, v8, rfl⟩ ⟨rfl, rfl⟩
    refine ⟨_, rfl, _, rfl, t, _, rfl, g9.tp, by omega, fun u H11 lu g11 => ?_⟩
    have l80 := cut_pre_len u (a := 80) (by decide)
    refine ⟨_, rfl, u, rfl, le_line (by omega), ?_⟩
    have lc : (cutS u none (some 80)).length ≤ 100000 := by rw [l80]; have : (80 : Int).toNat = 80 := rfl; omega
    generalize cutS u none (some 80) = z at lc
    refine ⟨_, rfl, t, 5, rfl, g11.tp, by decide, by decide, fun r2 H12 _ _ g12 => ⟨_, _, rfl, rfl, ?_⟩⟩
    refine ⟨_, rfl, _, rfl, t, 5, rfl, g12.tp, by decide, by decide, fun r3 H13 _ _ g13 => ⟨_, _, rfl, rfl, _, rfl, (by show 3 ≤ sizeLine; decide), fun L hL => ?_⟩⟩
    have g14 := g9.trans (g11.trans (g12.trans (g13.new (o := .lst [.int (1 + r2), .int (1 + r3), .int (1 + r2)]) hL)))
    have eL : (upd H13 L (.lst [.int (1 + r2), .int (1 + r3), .int (1 + r2)])) L = some (.lst ([1 + r2, 1 + r3, 1 + r2].map V.int)) := upd_same
    refine ⟨L, rfl, ⟨_, SqL.of eL⟩, ?_⟩
    refine for_it (walk_list (K := K) (a := L) (xs := [1 + r2, 1 + r3, 1 + r2].map V.int)) (fun i σ H' => Same (upd H13 L (.lst [.int (1 + r2), .int (1 + r3), .int (1 + r2)])) H' ∧ ∃ v5 v7 v8, σ = [some (.ref a), some (.ref t), some (.ref p), some (.ref b), some (.str (Txt.join dotS ks)), v5, some (.str z), v7, v8]) ⟨Same.refl _, _, _, _, rfl⟩ (fun _ _ _ _ h => SqL.of (h.1 _ _ eL)) ?_ ?_
    · rintro j y σ H15 H16 hj ⟨s15, v5, v7, v8, rfl⟩ ⟨rfl, hy⟩
      obtain ⟨m, rfl, _⟩ := int_get hy
      have ds := rpD_same z m lc
      refine ⟨_, rfl, _, rfl, z, m, rfl, lc, fun w1 H17 s17 d17 => ⟨_, rfl, _, rfl, z, m, rfl, lc, fun w2 H18 s18 d18 => ?_⟩⟩
      exact ⟨w1, w2, _, rfl, d17.same s18, d18, ds.1, ds.2, fun H19 s19 => ⟨_, rfl, iteF ⟨s15.trans (s17.trans (s18.trans s19)), _, _, _, rfl⟩⟩⟩
    · rintro σ H15 ⟨s15, v5, v7, v8, rfl⟩
      exact ⟨g14.trans (Go.same g14.tp s15), _, _, _, _, rfl⟩
  · rintro σ H9 ⟨g9, v5, v6, v7, v8, rfl⟩
    have hb9 := seqT_go g8.tp g9.sm hb8
    obtain ⟨k0, kr, rfl⟩ := List.exists_cons_of_ne_nil hne
    refine ⟨_, rfl, _, rfl, slA_of hb9 fun c H10 s10 hc => ?_⟩
    rw [cutV_pre (by decide), ← List.map_take] at hc
    have hc' : SqT K H10 c ([k0].map V.str) := hc
    have hb10 := s10.seqT hb9
    refine ⟨c, [k0], rfl, hc', (by show 1 ≤ 1000; decide), (fun k h => kl2 k (by rw [List.mem_singleton.mp h]; exact List.mem_cons_self)), ?_⟩
    have j1 : Txt.join dotS [k0] = k0 := by
      have e : Txt.join dotS [k0] = Str.join dotS [k0] := StrLaws.glued_eq_join _ _
      rw [e]
      rfl
    refine ⟨_, rfl, b, _, 0, _, rfl, rfl, hb10, atI_nat (j := 0) rfl, ?_⟩
    rw [j1]
    refine ⟨_, _, .str _, rfl, .str _, .str _, (by show 1 ≤ 40; decide), rfl, fun H11 s11 => ⟨_, rfl, iteT ?_⟩⟩
    have hb11 := s11.seqT hb10
    refine ⟨_, rfl, _, rfl, b, _, rfl, .inr hb11, _, _, rfl, by omega, fun v H12 s12 dv => ?_⟩
    have e5 := readP_join (m := (((k0 :: kr).map V.str).length : Int)) hne key (by rw [List.length_map]; omega)
    have ds := dsame (((k0 :: kr).map V.str).length : Int)
    rw [e5] at dv ds
    exact ⟨_, rfl, v, _, _, rfl, dv, .tup (s12.seqT hb11) (DTs.strs _), ds.1, ds.2, fun H13 _ => q _⟩
end
theorem all_mk {l : PySem.W.OpenLaw} {w : World} {K : PySem.W.Frag} {h : Heap} {mg : Str → Option Value} {fa : Addr} (X : K.In h) (G : h.Ns mainGlobals mg) (hfa : mg "law" = some (.ref fa))
    {f0 : Addr} {od0 an0 : Option Addr} {sl0 : Array (Option Value)} {oc0 kV0 dc0 pm0 cd0 ct0 : Value}
    {f1 : Addr} {od1 an1 : Option Addr} {sl1 : Array (Option Value)} {oc1 kV1 dc1 pm1 cd1 ct1 : Value}
    {f2 : Addr} {od2 an2 : Option Addr} {sl2 : Array (Option Value)} {oc2 kV2 dc2 pm2 cd2 ct2 : Value}
    {f3 : Addr} {od3 an3 : Option Addr} {sl3 : Array (Option Value)} {oc3 kV3 dc3 pm3 cd3 ct3 : Value}
    {f4 : Addr} {od4 an4 : Option Addr} {sl4 : Array (Option Value)} {oc4 kV4 dc4 pm4 cd4 ct4 : Value}
    {f5 : Addr} {od5 an5 : Option Addr} {sl5 : Array (Option Value)} {oc5 kV5 dc5 pm5 cd5 ct5 : Value}
    {f6 : Addr} {od6 an6 : Option Addr} {sl6 : Array (Option Value)} {oc6 kV6 dc6 pm6 cd6 ct6 : Value}
    {f7 : Addr} {od7 an7 : Option Addr} {sl7 : Array (Option Value)} {oc7 kV7 dc7 pm7 cd7 ct7 : Value}
    {f8 : Addr} {od8 an8 : Option Addr} {sl8 : Array (Option Value)} {oc8 kV8 dc8 pm8 cd8 ct8 : Value}
    {f9 : Addr} {od9 an9 : Option Addr} {sl9 : Array (Option Value)} {oc9 kV9 dc9 pm9 cd9 ct9 : Value}
    {f10 : Addr} {od10 an10 : Option Addr} {sl10 : Array (Option Value)} {oc10 kV10 dc10 pm10 cd10 ct10 : Value}
    {f11 : Addr} {od11 an11 : Option Addr} {sl11 : Array (Option Value)} {oc11 kV11 dc11 pm11 cd11 ct11 : Value}
    {f12 : Addr} {od12 an12 : Option Addr} {sl12 : Array (Option Value)} {oc12 kV12 dc12 pm12 cd12 ct12 : Value}
    {f13 : Addr} {od13 an13 : Option Addr} {sl13 : Array (Option Value)} {oc13 kV13 dc13 pm13 cd13 ct13 : Value}
    {f14 : Addr} {od14 an14 : Option Addr} {sl14 : Array (Option Value)} {oc14 kV14 dc14 pm14 cd14 ct14 : Value}
    {f15 : Addr} {od15 an15 : Option Addr} {sl15 : Array (Option Value)} {oc15 kV15 dc15 pm15 cd15 ct15 : Value}
    {f16 : Addr} {od16 an16 : Option Addr} {sl16 : Array (Option Value)} {oc16 kV16 dc16 pm16 cd16 ct16 : Value}
    {f17 : Addr} {od17 an17 : Option Addr} {sl17 : Array (Option Value)} {oc17 kV17 dc17 pm17 cd17 ct17 : Value}
    {f18 : Addr} {od18 an18 : Option Addr} {sl18 : Array (Option Value)} {oc18 kV18 dc18 pm18 cd18 ct18 : Value}
    {t_FIRST_SIGNS : Tok}
    {t_KEY_SIGNS : Tok}
    {t_LONGEST_KEY : Tok}
    (a0 : PySem.W.nsIn K mainGlobals "consists_of" = some (some (.ref f0))) (l0 : K.lookup f0 = some ⟨oc0, od0, .func (PySem.W.fnOf "consists_of" "consists_of" (defArgs s_consists_of) (defBody s_consists_of) (defScope s_consists_of) .none kV0 dc0 pm0 an0 cd0 ct0), sl0⟩) (c0 : PySem.W.codeIn K cd0 "consists_of" = true) (k0 : PySem.W.keepIn K (.ref f0) = true)
    (a1 : PySem.W.nsIn K mainGlobals "is_key" = some (some (.ref f1))) (l1 : K.lookup f1 = some ⟨oc1, od1, .func (PySem.W.fnOf "is_key" "is_key" (defArgs s_is_key) (defBody s_is_key) (defScope s_is_key) .none kV1 dc1 pm1 an1 cd1 ct1), sl1⟩) (c1 : PySem.W.codeIn K cd1 "is_key" = true) (k1 : PySem.W.keepIn K (.ref f1) = true)
    (a2 : PySem.W.nsIn K mainGlobals "read_path" = some (some (.ref f2))) (l2 : K.lookup f2 = some ⟨oc2, od2, .func (PySem.W.fnOf "read_path" "read_path" (defArgs s_read_path) (defBody s_read_path) (defScope s_read_path) .none kV2 dc2 pm2 an2 cd2 ct2), sl2⟩) (c2 : PySem.W.codeIn K cd2 "read_path" = true) (k2 : PySem.W.keepIn K (.ref f2) = true)
    (a3 : PySem.W.nsIn K mainGlobals "show_path" = some (some (.ref f3))) (l3 : K.lookup f3 = some ⟨oc3, od3, .func (PySem.W.fnOf "show_path" "show_path" (defArgs s_show_path) (defBody s_show_path) (defScope s_show_path) .none kV3 dc3 pm3 an3 cd3 ct3), sl3⟩) (c3 : PySem.W.codeIn K cd3 "show_path" = true) (k3 : PySem.W.keepIn K (.ref f3) = true)
    (a4 : PySem.W.nsIn K mainGlobals "_law_tape" = some (some (.ref f4))) (l4 : K.lookup f4 = some ⟨oc4, od4, .func (PySem.W.fnOf "_law_tape" "_law_tape" (defArgs s_law_tape) (defBody s_law_tape) (defScope s_law_tape) .none kV4 dc4 pm4 an4 cd4 ct4), sl4⟩) (c4 : PySem.W.codeIn K cd4 "_law_tape" = true) (k4 : PySem.W.keepIn K (.ref f4) = true)
    (a5 : PySem.W.nsIn K mainGlobals "_law_draw" = some (some (.ref f5))) (l5 : K.lookup f5 = some ⟨oc5, od5, .func (PySem.W.fnOf "_law_draw" "_law_draw" (defArgs s_law_draw) (defBody s_law_draw) (defScope s_law_draw) .none kV5 dc5 pm5 an5 cd5 ct5), sl5⟩) (c5 : PySem.W.codeIn K cd5 "_law_draw" = true) (k5 : PySem.W.keepIn K (.ref f5) = true)
    (a6 : PySem.W.nsIn K mainGlobals "_law_pick" = some (some (.ref f6))) (l6 : K.lookup f6 = some ⟨oc6, od6, .func (PySem.W.fnOf "_law_pick" "_law_pick" (defArgs s_law_pick) (defBody s_law_pick) (defScope s_law_pick) .none kV6 dc6 pm6 an6 cd6 ct6), sl6⟩) (c6 : PySem.W.codeIn K cd6 "_law_pick" = true) (k6 : PySem.W.keepIn K (.ref f6) = true)
    (a7 : PySem.W.nsIn K mainGlobals "_law_same" = some (some (.ref f7))) (l7 : K.lookup f7 = some ⟨oc7, od7, .func (PySem.W.fnOf "_law_same" "_law_same" (defArgs s_law_same) (defBody s_law_same) (defScope s_law_same) .none kV7 dc7 pm7 an7 cd7 ct7), sl7⟩) (c7 : PySem.W.codeIn K cd7 "_law_same" = true) (k7 : PySem.W.keepIn K (.ref f7) = true)
    (a8 : PySem.W.nsIn K mainGlobals "_law_any_sign" = some (some (.ref f8))) (l8 : K.lookup f8 = some ⟨oc8, od8, .func (PySem.W.fnOf "_law_any_sign" "_law_any_sign" (defArgs s_law_any_sign) (defBody s_law_any_sign) (defScope s_law_any_sign) .none kV8 dc8 pm8 an8 cd8 ct8), sl8⟩) (c8 : PySem.W.codeIn K cd8 "_law_any_sign" = true) (k8 : PySem.W.keepIn K (.ref f8) = true)
    (a9 : PySem.W.nsIn K mainGlobals "_law_text" = some (some (.ref f9))) (l9 : K.lookup f9 = some ⟨oc9, od9, .func (PySem.W.fnOf "_law_text" "_law_text" (defArgs s_law_text) (defBody s_law_text) (defScope s_law_text) .none kV9 dc9 pm9 an9 cd9 ct9), sl9⟩) (c9 : PySem.W.codeIn K cd9 "_law_text" = true) (k9 : PySem.W.keepIn K (.ref f9) = true)
    (a10 : PySem.W.nsIn K mainGlobals "_law_reserved" = some (some (.ref f10))) (l10 : K.lookup f10 = some ⟨oc10, od10, .func (PySem.W.fnOf "_law_reserved" "_law_reserved" (defArgs s_law_reserved) (defBody s_law_reserved) (defScope s_law_reserved) .none kV10 dc10 pm10 an10 cd10 ct10), sl10⟩) (c10 : PySem.W.codeIn K cd10 "_law_reserved" = true) (k10 : PySem.W.keepIn K (.ref f10) = true)
    (a11 : PySem.W.nsIn K mainGlobals "_law_fresh" = some (some (.ref f11))) (l11 : K.lookup f11 = some ⟨oc11, od11, .func (PySem.W.fnOf "_law_fresh" "_law_fresh" (defArgs s_law_fresh) (defBody s_law_fresh) (defScope s_law_fresh) .none kV11 dc11 pm11 an11 cd11 ct11), sl11⟩) (c11 : PySem.W.codeIn K cd11 "_law_fresh" = true) (k11 : PySem.W.keepIn K (.ref f11) = true)
    (a12 : PySem.W.nsIn K mainGlobals "_law_key" = some (some (.ref f12))) (l12 : K.lookup f12 = some ⟨oc12, od12, .func (PySem.W.fnOf "_law_key" "_law_key" (defArgs s_law_key) (defBody s_law_key) (defScope s_law_key) .none kV12 dc12 pm12 an12 cd12 ct12), sl12⟩) (c12 : PySem.W.codeIn K cd12 "_law_key" = true) (k12 : PySem.W.keepIn K (.ref f12) = true)
    (a13 : PySem.W.nsIn K mainGlobals "_law_keys" = some (some (.ref f13))) (l13 : K.lookup f13 = some ⟨oc13, od13, .func (PySem.W.fnOf "_law_keys" "_law_keys" (defArgs s_law_keys) (defBody s_law_keys) (defScope s_law_keys) .none kV13 dc13 pm13 an13 cd13 ct13), sl13⟩) (c13 : PySem.W.codeIn K cd13 "_law_keys" = true) (k13 : PySem.W.keepIn K (.ref f13) = true)
    (a14 : PySem.W.nsIn K mainGlobals "_law_path" = some (some (.ref f14))) (l14 : K.lookup f14 = some ⟨oc14, od14, .func (PySem.W.fnOf "_law_path" "_law_path" (defArgs s_law_path) (defBody s_law_path) (defScope s_law_path) .none kV14 dc14 pm14 an14 cd14 ct14), sl14⟩) (c14 : PySem.W.codeIn K cd14 "_law_path" = true) (k14 : PySem.W.keepIn K (.ref f14) = true)
    (a15 : PySem.W.nsIn K mainGlobals "_law_is_key" = some (some (.ref f15))) (l15 : K.lookup f15 = some ⟨oc15, od15, .func (PySem.W.fnOf "_law_is_key" "_law_is_key" (defArgs s_law_is_key) (defBody s_law_is_key) (defScope s_law_is_key) .none kV15 dc15 pm15 an15 cd15 ct15), sl15⟩) (c15 : PySem.W.codeIn K cd15 "_law_is_key" = true) (k15 : PySem.W.keepIn K (.ref f15) = true)
    (a16 : PySem.W.nsIn K mainGlobals "_law_path_of" = some (some (.ref f16))) (l16 : K.lookup f16 = some ⟨oc16, od16, .func (PySem.W.fnOf "_law_path_of" "_law_path_of" (defArgs s_law_path_of) (defBody s_law_path_of) (defScope s_law_path_of) .none kV16 dc16 pm16 an16 cd16 ct16), sl16⟩) (c16 : PySem.W.codeIn K cd16 "_law_path_of" = true) (k16 : PySem.W.keepIn K (.ref f16) = true)
    (a17 : PySem.W.nsIn K mainGlobals "_law_spoilt" = some (some (.ref f17))) (l17 : K.lookup f17 = some ⟨oc17, od17, .func (PySem.W.fnOf "_law_spoilt" "_law_spoilt" (defArgs s_law_spoilt) (defBody s_law_spoilt) (defScope s_law_spoilt) .none kV17 dc17 pm17 an17 cd17 ct17), sl17⟩) (c17 : PySem.W.codeIn K cd17 "_law_spoilt" = true) (k17 : PySem.W.keepIn K (.ref f17) = true)
    (a18 : PySem.W.nsIn K mainGlobals "law" = some (some (.ref f18))) (l18 : K.lookup f18 = some ⟨oc18, od18, .func (PySem.W.fnOf "law" "law" (defArgs s_law) (defBody s_law) (defScope s_law) .none kV18 dc18 pm18 an18 cd18 ct18), sl18⟩) (c18 : PySem.W.codeIn K cd18 "law" = true) (k18 : PySem.W.keepIn K (.ref f18) = true)
    (z_abs : PySem.W.nsIn K mainGlobals "abs" = some none)
    (z_all : PySem.W.nsIn K mainGlobals "all" = some none)
    (z_bool : PySem.W.nsIn K mainGlobals "bool" = some none)
    (z_int : PySem.W.nsIn K mainGlobals "int" = some none)
    (z_isinstance : PySem.W.nsIn K mainGlobals "isinstance" = some none)
    (z_len : PySem.W.nsIn K mainGlobals "len" = some none)
    (z_list : PySem.W.nsIn K mainGlobals "list" = some none)
    (z_max : PySem.W.nsIn K mainGlobals "max" = some none)
    (z_range : PySem.W.nsIn K mainGlobals "range" = some none)
    (z_str : PySem.W.nsIn K mainGlobals "str" = some none)
    (z_tuple : PySem.W.nsIn K mainGlobals "tuple" = some none)
    (g_FIRST_SIGNS : PySem.W.nsIn K mainGlobals "FIRST_SIGNS" = some (some (.str (Str.ofString "abcdefghijklmnopqrstuvwxyz") t_FIRST_SIGNS)))
    (g_KEY_SIGNS : PySem.W.nsIn K mainGlobals "KEY_SIGNS" = some (some (.str (Str.ofString "abcdefghijklmnopqrstuvwxyzABCDEFGHIJKLMNOPQRSTUVWXYZ0123456789-") t_KEY_SIGNS)))
    (g_LONGEST_KEY : PySem.W.nsIn K mainGlobals "LONGEST_KEY" = some (some (.int 16 t_LONGEST_KEY))) :
    ∃ fd : FuncData, (∀ (s : Shared) (v : Value), BindsTo s fd ⟨[v], []⟩ [("script", v)]) ∧ ∀ base : Heap, K.In base → base.Ns mainGlobals mg → FnOk l.prog w K mg base CX0 41 fa fd ["script"] (sp_law K) := by
  have e := hfa.symm.trans (PySem.W.mg_of X G a18)
  cases e
  have T : Top K w mg := ⟨PySem.W.mg_none_of X G z_abs, PySem.W.mg_none_of X G z_all, PySem.W.mg_none_of X G z_bool, PySem.W.mg_none_of X G z_int, PySem.W.mg_none_of X G z_isinstance, PySem.W.mg_none_of X G z_len, PySem.W.mg_none_of X G z_list, PySem.W.mg_none_of X G z_max, PySem.W.mg_none_of X G z_range, PySem.W.mg_none_of X G z_str, PySem.W.mg_none_of X G z_tuple, ⟨_, PySem.W.mg_of X G g_FIRST_SIGNS⟩, ⟨_, PySem.W.mg_of X G g_KEY_SIGNS⟩, ⟨_, PySem.W.mg_of X G g_LONGEST_KEY⟩⟩
  refine ⟨PySem.W.fnOf "law" "law" (defArgs s_law) (defBody s_law) (defScope s_law) .none kV18 dc18 pm18 an18 cd18 ct18, fun s v => .of_eq rfl, fun base _ _ => ?_⟩
  have F0 := fun_mk (st := s_consists_of) l0 c0 k0
  have C_consists_of : Cal l.prog w K mg base "consists_of" 1 ["text", "signs"] sp_consists_of _ _ := ⟨ok_consists_of F0 T , F0.binds (ps := ["text", "signs"]) fun _ _ _ _ _ _ us hl => match us, hl with | [_, _], _ => rfl, k0, PySem.W.mg_of X G a0⟩
  have F1 := fun_mk (st := s_is_key) l1 c1 k1
  have C_is_key : Cal l.prog w K mg base "is_key" 2 ["text"] sp_is_key _ _ := ⟨ok_is_key F1 T C_consists_of, F1.binds (ps := ["text"]) fun _ _ _ _ _ _ us hl => match us, hl with | [_], _ => rfl, k1, PySem.W.mg_of X G a1⟩
  have F2 := fun_mk (st := s_read_path) l2 c2 k2
  have C_read_path : Cal l.prog w K mg base "read_path" 3 ["text", "most"] sp_read_path _ _ := ⟨ok_read_path F2 T C_is_key, F2.binds (ps := ["text", "most"]) fun _ _ _ _ _ _ us hl => match us, hl with | [_, _], _ => rfl, k2, PySem.W.mg_of X G a2⟩
  have F3 := fun_mk (st := s_show_path) l3 c3 k3
  have C_show_path : Cal l.prog w K mg base "show_path" 1 ["path"] sp_show_path _ _ := ⟨ok_show_path F3 T , F3.binds (ps := ["path"]) fun _ _ _ _ _ _ us hl => match us, hl with | [_], _ => rfl, k3, PySem.W.mg_of X G a3⟩
  have F4 := fun_mk (st := s_law_tape) l4 c4 k4
  have C_law_tape : Cal l.prog w K mg base "_law_tape" 1 ["script"] sp_law_tape _ _ := ⟨ok_law_tape F4 T , F4.binds (ps := ["script"]) fun _ _ _ _ _ _ us hl => match us, hl with | [_], _ => rfl, k4, PySem.W.mg_of X G a4⟩
  have F5 := fun_mk (st := s_law_draw) l5 c5 k5
  have C_law_draw : Cal l.prog w K mg base "_law_draw" 1 ["tape", "many"] sp_law_draw _ _ := ⟨ok_law_draw F5 T , F5.binds (ps := ["tape", "many"]) fun _ _ _ _ _ _ us hl => match us, hl with | [_, _], _ => rfl, k5, PySem.W.mg_of X G a5⟩
  have F6 := fun_mk (st := s_law_pick) l6 c6 k6
  have C_law_pick : Cal l.prog w K mg base "_law_pick" 2 ["tape", "row"] sp_law_pick _ _ := ⟨ok_law_pick F6 T C_law_draw, F6.binds (ps := ["tape", "row"]) fun _ _ _ _ _ _ us hl => match us, hl with | [_, _], _ => rfl, k6, PySem.W.mg_of X G a6⟩
  have F7 := fun_mk (st := s_law_same) l7 c7 k7
  have C_law_same : Cal l.prog w K mg base "_law_same" 40 ["actual", "expected"] sp_law_same _ _ := ⟨ok_law_same F7 T (PySem.W.mg_of X G a7) , F7.binds (ps := ["actual", "expected"]) fun _ _ _ _ _ _ us hl => match us, hl with | [_, _], _ => rfl, k7, PySem.W.mg_of X G a7⟩
  have F8 := fun_mk (st := s_law_any_sign) l8 c8 k8
  have C_law_any_sign : Cal l.prog w K mg base "_law_any_sign" 3 ["tape"] sp_law_any_sign _ _ := ⟨ok_law_any_sign F8 T C_law_pick, F8.binds (ps := ["tape"]) fun _ _ _ _ _ _ us hl => match us, hl with | [_], _ => rfl, k8, PySem.W.mg_of X G a8⟩
  have F9 := fun_mk (st := s_law_text) l9 c9 k9
  have C_law_text : Cal l.prog w K mg base "_law_text" 4 ["tape", "many"] sp_law_text _ _ := ⟨ok_law_text F9 T C_law_any_sign, F9.binds (ps := ["tape", "many"]) fun _ _ _ _ _ _ us hl => match us, hl with | [_, _], _ => rfl, k9, PySem.W.mg_of X G a9⟩
  have F10 := fun_mk (st := s_law_reserved) l10 c10 k10
  have C_law_reserved : Cal l.prog w K mg base "_law_reserved" 1 [] sp_law_reserved _ _ := ⟨ok_law_reserved F10 T , F10.binds (ps := []) fun _ _ _ _ _ _ us hl => match us, hl with | [], _ => rfl, k10, PySem.W.mg_of X G a10⟩
  have F11 := fun_mk (st := s_law_fresh) l11 c11 k11
  have C_law_fresh : Cal l.prog w K mg base "_law_fresh" 2 ["key", "keys"] sp_law_fresh _ _ := ⟨ok_law_fresh F11 T C_law_reserved, F11.binds (ps := ["key", "keys"]) fun _ _ _ _ _ _ us hl => match us, hl with | [_, _], _ => rfl, k11, PySem.W.mg_of X G a11⟩
  have F12 := fun_mk (st := s_law_key) l12 c12 k12
  have C_law_key : Cal l.prog w K mg base "_law_key" 3 ["tape", "stem"] sp_law_key _ _ := ⟨ok_law_key F12 T C_law_draw C_law_pick, F12.binds (ps := ["tape", "stem"]) fun _ _ _ _ _ _ us hl => match us, hl with | [_, _], _ => rfl, k12, PySem.W.mg_of X G a12⟩
  have F13 := fun_mk (st := s_law_keys) l13 c13 k13
  have C_law_keys : Cal l.prog w K mg base "_law_keys" 4 ["tape", "many"] sp_law_keys _ _ := ⟨ok_law_keys F13 T C_law_pick C_law_fresh C_law_key, F13.binds (ps := ["tape", "many"]) fun _ _ _ _ _ _ us hl => match us, hl with | [_, _], _ => rfl, k13, PySem.W.mg_of X G a13⟩
  have F14 := fun_mk (st := s_law_path) l14 c14 k14
  have C_law_path : Cal l.prog w K mg base "_law_path" 3 ["tape", "keys", "most"] sp_law_path _ _ := ⟨ok_law_path F14 T C_law_draw C_law_pick, F14.binds (ps := ["tape", "keys", "most"]) fun _ _ _ _ _ _ us hl => match us, hl with | [_, _, _], _ => rfl, k14, PySem.W.mg_of X G a14⟩
  have F15 := fun_mk (st := s_law_is_key) l15 c15 k15
  have C_law_is_key : Cal l.prog w K mg base "_law_is_key" 1 ["text"] sp_law_is_key _ _ := ⟨ok_law_is_key F15 T , F15.binds (ps := ["text"]) fun _ _ _ _ _ _ us hl => match us, hl with | [_], _ => rfl, k15, PySem.W.mg_of X G a15⟩
  have F16 := fun_mk (st := s_law_path_of) l16 c16 k16
  have C_law_path_of : Cal l.prog w K mg base "_law_path_of" 2 ["text", "most"] sp_law_path_of _ _ := ⟨ok_law_path_of F16 T C_law_is_key, F16.binds (ps := ["text", "most"]) fun _ _ _ _ _ _ us hl => match us, hl with | [_, _], _ => rfl, k16, PySem.W.mg_of X G a16⟩
  have F17 := fun_mk (st := s_law_spoilt) l17 c17 k17
  have C_law_spoilt : Cal l.prog w K mg base "_law_spoilt" 5 ["tape", "text"] sp_law_spoilt _ _ := ⟨ok_law_spoilt F17 T C_law_draw C_law_pick C_law_any_sign C_law_text, F17.binds (ps := ["tape", "text"]) fun _ _ _ _ _ _ us hl => match us, hl with | [_, _], _ => rfl, k17, PySem.W.mg_of X G a17⟩
  have F18 := fun_mk (st := s_law) l18 c18 k18
  exact ok_law F18 T C_read_path C_show_path C_law_tape C_law_draw C_law_same C_law_keys C_law_path C_law_path_of C_law_spoilt
theorem walk {l : PySem.W.OpenLaw} {q : Program} {loose : List Str} {XP : (Str → Option Value) → Heap → Prop} {YP : World → Heap → Prop} {d : DefRec} {K : Params → PySem.W.Frag} (hn : l.most = some 63) (hdf : d.params.defaults = [])
    (hY : ∀ (w : World) (h : Heap), YP w h → (K w.params).In h)
    (F : ∀ (w : World) (mg : Str → Option Value) (fa : Addr) (h : Heap), (K w.params).In h → h.Ns mainGlobals mg → mg d.name = some (.ref fa) →
      ∃ fd : FuncData, (∀ (s : Shared) (u : Value), BindsTo s fd ⟨[u], []⟩ [("script", u)]) ∧ ∀ base : Heap, (K w.params).In base → base.Ns mainGlobals mg → FnOk l.prog w (K w.params) mg base CX0 41 fa fd ["script"] (sp_law (K w.params))) :
    PySem.W.WalkO q loose XP YP l.row.toRowW d [] (fun f vs => PySem.call f vs) :=
  L2.walk_of (n := 63) (k := 41) (x := "script") (CX := fun _ => CX0) (sp := fun w => sp_law (K w.params)) hn (by decide) hdf ⟨rfl, by decide, by decide⟩ hY F (fun _ _ a ns hl _ hS => ⟨a, ns, rfl, hS, hl, fun _ => rfl⟩) fun _ _ _ _ _ z => z
end My
open PySem PySem.W PyProof.Rows in
set_option maxRecDepth 100000 in
set_option maxHeartbeats 0 in
theorem PySem.Challenge.cw_hookcheck_k03_paths_are_read_holds : PySem.Challenge.rw_hookcheck_k03_paths_are_read.Holds := by
  w_on; o_law; k_head; (case hw => w_witness2)
  k_fill
  refine My.walk (l := PySem.Challenge.rw_hookcheck_k03_paths_are_read) rfl rfl (fun w h Y => PySem.W.kIn_of Y) ?F
  case F =>
    intro w mg fa h KX G hmg
    refine' My.all_mk KX G hmg ?a0 ?l0 ?c0 ?k0 ?a1 ?l1 ?c1 ?k1 ?a2 ?l2 ?c2 ?k2 ?a3 ?l3 ?c3 ?k3 ?a4 ?l4 ?c4 ?k4 ?a5 ?l5 ?c5 ?k5 ?a6 ?l6 ?c6 ?k6 ?a7 ?l7 ?c7 ?k7 ?a8 ?l8 ?c8 ?k8 ?a9 ?l9 ?c9 ?k9 ?a10 ?l10 ?c10 ?k10 ?a11 ?l11 ?c11 ?k11 ?a12 ?l12 ?c12 ?k12 ?a13 ?l13 ?c13 ?k13 ?a14 ?l14 ?c14 ?k14 ?a15 ?l15 ?c15 ?k15 ?a16 ?l16 ?c16 ?k16 ?a17 ?l17 ?c17 ?k17 ?a18 ?l18 ?c18 ?k18 ?z_abs ?z_all ?z_bool ?z_int ?z_isinstance ?z_len ?z_list ?z_max ?z_range ?z_str ?z_tuple ?g_FIRST_SIGNS ?g_KEY_SIGNS ?g_LONGEST_KEY
    (case a0 => k_is)
    (case l0 => k_is)
    (case c0 => k_is)
    (case k0 => k_is)
    (case a1 => k_is)
    (case l1 => k_is)
    (case c1 => k_is)
    (case k1 => k_is)
    (case a2 => k_is)
    (case l2 => k_is)
    (case c2 => k_is)
    (case k2 => k_is)
    (case a3 => k_is)
    (case l3 => k_is)
    (case c3 => k_is)
    (case k3 => k_is)
    (case a4 => k_is)
    (case l4 => k_is)
    (case c4 => k_is)
    (case k4 => k_is)
    (case a5 => k_is)
    (case l5 => k_is)
    (case c5 => k_is)
    (case k5 => k_is)
    (case a6 => k_is)
    (case l6 => k_is)
    (case c6 => k_is)
    (case k6 => k_is)
    (case a7 => k_is)
    (case l7 => k_is)
    (case c7 => k_is)
    (case k7 => k_is)
    (case a8 => k_is)
    (case l8 => k_is)
    (case c8 => k_is)
    (case k8 => k_is)
    (case a9 => k_is)
    (case l9 => k_is)
    (case c9 => k_is)
    (case k9 => k_is)
    (case a10 => k_is)
    (case l10 => k_is)
    (case c10 => k_is)
    (case k10 => k_is)
    (case a11 => k_is)
    (case l11 => k_is)
    (case c11 => k_is)
    (case k11 => k_is)
    (case a12 => k_is)
    (case l12 => k_is)
    (case c12 => k_is)
    (case k12 => k_is)
    (case a13 => k_is)
    (case l13 => k_is)
    (case c13 => k_is)
    (case k13 => k_is)
    (case a14 => k_is)
    (case l14 => k_is)
    (case c14 => k_is)
    (case k14 => k_is)
    (case a15 => k_is)
    (case l15 => k_is)
    (case c15 => k_is)
    (case k15 => k_is)
    (case a16 => k_is)
    (case l16 => k_is)
    (case c16 => k_is)
    (case k16 => k_is)
    (case a17 => k_is)
    (case l17 => k_is)
    (case c17 => k_is)
    (case k17 => k_is)
    (case a18 => k_is)
    (case l18 => k_is)
    (case c18 => k_is)
    (case k18 => k_is)
    (case z_abs => k_is)
    (case z_all => k_is)
    (case z_bool => k_is)
    (case z_int => k_is)
    (case z_isinstance => k_is)
    (case z_len => k_is)
    (case z_list => k_is)
    (case z_max => k_is)
    (case z_range => k_is)
    (case z_str => k_is)
    (case z_tuple => k_is)
    (case g_FIRST_SIGNS => k_is)
    (case g_KEY_SIGNS => k_is)
    (case g_LONGEST_KEY => k_is)
#print axioms PySem.Challenge.cw_hookcheck_k03_paths_are_read_holds
