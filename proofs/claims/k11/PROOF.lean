import PyProof.Rows.All
import Wide.All
import OpenK.AllK
import Wide.FinOn
import HandS.ForMost
import HandS.IsInst
import HandS.TupLe
import HandS.Walk
import HandS.Codes
import HandS.Wide
import HandS.TupAny
import PySem.Challenge.RW_hookcheck_k11_tokens
set_option Elab.async false
set_option linter.all false
set_option maxRecDepth 100000
namespace My
open PySem L2

/-! ### a def that is called -/
structure Cal (P : Program) (w : World) (K : PySem.W.Frag) (mg : Str → Option Value) (base : Heap) (x : Str) (k : Nat) (ps : List Str) (sp : PySem.W.Frag → Sp) (f : Addr) (fd : FuncData) : Prop where
  ok : FnOk P w K mg base CX0 k f fd ps (sp K)
  b : Binds K fd ps []
  kp : PySem.W.keepIn K (.ref f) = true
  m : mg x = some (.ref f)

/-! ### heaps: all that was tracked but t is as it was -/
def Sm (t : Addr) (H H' : Hp) : Prop := ∀ b o, b ≠ t → H b = some o → H' b = some o
theorem Sm.refl (t : Addr) (H : Hp) : Sm t H H := fun _ _ _ h => h
theorem Sm.trans {t : Addr} {H H1 H2 : Hp} (a : Sm t H H1) (b : Sm t H1 H2) : Sm t H H2 := fun c o n h => b c o n (a c o n h)
theorem Sm.same {t : Addr} {H H1 : Hp} (a : Same H H1) : Sm t H H1 := fun c o _ h => a c o h
theorem Sm.new {t p : Addr} {H : Hp} {o : HO} (h : H p = none) : Sm t H (upd H p o) := fun c u _ e => by
  rw [upd_ne (ne_of_none e h)]; exact e
theorem Sm.put {t : Addr} {H : Hp} {o : HO} : Sm t H (upd H t o) := fun c u n e => by rw [upd_ne n]; exact e
/-- a change at an address that was not tracked before -/
theorem Sm.late {t p : Addr} {H H1 : Hp} {o : HO} (a : Sm t H H1) (h : H p = none) : Sm t H (upd H1 p o) := fun c u n e => by
  rw [upd_ne (ne_of_none e h)]; exact a c u n e
theorem same_new {H : Hp} {p : Addr} (h : H p = none) (o : HO) : Same H (upd H p o) := fun b u q => by rw [upd_ne (ne_of_none q h)]; exact q
theorem _root_.L2.Same.late {p : Addr} {H H1 : Hp} {o : HO} (a : Same H H1) (h : H p = none) : Same H (upd H1 p o) := fun c u e => by
  rw [upd_ne (ne_of_none e h)]; exact a c u e
theorem Sm.seqL {K : PySem.W.Frag} {t a : Addr} {H H' : Hp} {xs : List V} (e : Sm t H H') (n : a ≠ t) (h : SqL K H a xs) : SqL K H' a xs := by
  rcases h with (h | ⟨o, h⟩) | h
  · exact .inl (.inl (e _ _ n h))
  · exact .inl (.inr ⟨o, e _ _ n h⟩)
  · exact .inr h
theorem Sm.seqT {K : PySem.W.Frag} {t a : Addr} {H H' : Hp} {xs : List V} (e : Sm t H H') (n : a ≠ t) (h : SqT K H a xs) : SqT K H' a xs := by
  rcases h with (h | ⟨o, h⟩) | h
  · exact .inl (.inl (e _ _ n h))
  · exact .inl (.inr ⟨o, e _ _ n h⟩)
  · exact .inr h
theorem _root_.L2.Same.seqT {K : PySem.W.Frag} {a : Addr} {H H' : Hp} {xs : List V} (e : Same H H') (h : SqT K H a xs) : SqT K H' a xs := by
  rcases h with (h | ⟨o, h⟩) | h
  · exact .inl (.inl (e _ _ h))
  · exact .inl (.inr ⟨o, e _ _ h⟩)
  · exact .inr h

/-! ### the tape -/
structure Tape (H : Hp) (t : Addr) : Prop where
  ex : ∃ (l : Addr) (ns : List Int) (a b c : Int), H t = some (.lst [.ref l, .int a, .int b, .int c]) ∧ H l = some (.lst (ns.map V.int)) ∧ l ≠ t ∧ 0 ≤ a ∧ ns.length ≤ 63
theorem Tape.same {H H' : Hp} {t : Addr} (h : Tape H t) (e : Same H H') : Tape H' t := by
  obtain ⟨l, ns, a, b, c, h1, h2, h3⟩ := h.ex
  exact ⟨l, ns, a, b, c, e _ _ h1, e _ _ h2, h3⟩
theorem Tape.new {H : Hp} {t p : Addr} {o : HO} (h : Tape H t) (e : H p = none) : Tape (upd H p o) t := h.same (same_new e o)
theorem Tape.tracked {H : Hp} {t : Addr} (h : Tape H t) : ∃ o, H t = some o := by
  obtain ⟨l, ns, a, b, c, h1, _⟩ := h.ex
  exact ⟨_, h1⟩
/-- a fresh address is not the tape -/
theorem Tape.ne {H : Hp} {t p : Addr} (h : Tape H t) (e : H p = none) : p ≠ t := by
  obtain ⟨o, h⟩ := h.tracked
  exact (ne_of_none h e).symm
/-- the script's copy that the tape holds -/
def tL (H : Hp) (t : Addr) : Option Addr := match H t with
  | some (.lst (.ref l :: _)) => some l
  | _ => none
theorem tL_of {H : Hp} {t l : Addr} {xs : List V} (h : H t = some (.lst (.ref l :: xs))) : tL H t = some l := by
  unfold tL
  rw [h]
/-- the tape goes on, what else was tracked stands -/
structure Go (t : Addr) (H H' : Hp) : Prop where
  tp : Tape H' t
  sm : Sm t H H'
  fx : tL H' t = tL H t
theorem Go.trans {t : Addr} {H H1 H2 : Hp} (a : Go t H H1) (b : Go t H1 H2) : Go t H H2 := ⟨b.tp, a.sm.trans b.sm, b.fx.trans a.fx⟩
theorem Go.refl {t : Addr} {H : Hp} (h : Tape H t) : Go t H H := ⟨h, Sm.refl _ _, rfl⟩
theorem Go.same {t : Addr} {H H1 : Hp} (h : Tape H t) (a : Same H H1) : Go t H H1 := by
  obtain ⟨l, ns, x, b, c, h1, h2, h3⟩ := h.ex
  exact ⟨h.same a, Sm.same a, by rw [tL_of h1, tL_of (a _ _ h1)]⟩
theorem Go.new {t p : Addr} {H H1 : Hp} {o : HO} (a : Go t H H1) (h : H1 p = none) : Go t H (upd H1 p o) := a.trans (Go.same a.tp (same_new h o))
theorem Go.put {t l : Addr} {H H1 : Hp} {xs : List V} {ns : List Int} {a b c : Int} (h1 : H t = some (.lst (.ref l :: xs))) (s : Sm t H H1) (h2 : H1 l = some (.lst (ns.map V.int))) (h3 : l ≠ t) (h4 : 0 ≤ a) (h5 : ns.length ≤ 63) :
    Go t H (upd H1 t (.lst [.ref l, .int a, .int b, .int c])) :=
  ⟨⟨l, ns, a, b, c, upd_same, by rw [upd_ne h3]; exact h2, h3, h4, h5⟩, s.trans Sm.put, by rw [tL_of h1, tL_of upd_same]⟩
/-- a change at an address that was not tracked at first -/
theorem Go.late {t p : Addr} {H H1 : Hp} {o : HO} (h : Tape H t) (a : Go t H H1) (n : H p = none) : Go t H (upd H1 p o) := by
  obtain ⟨l, ns, x, b, c, h1, h2, h3⟩ := h.ex
  obtain ⟨l', ns', x', b', c', k1, k2, k3⟩ := a.tp.ex
  have e := a.fx
  rw [tL_of h1, tL_of k1] at e
  cases e
  have n1 : t ≠ p := ne_of_none h1 n
  have n2 : l ≠ p := ne_of_none h2 n
  exact ⟨⟨l, ns', x', b', c', by rw [upd_ne n1]; exact k1, by rw [upd_ne n2]; exact k2, k3⟩, a.sm.late n, by rw [tL_of h1]; exact tL_of (by rw [upd_ne n1]; exact k1)⟩

/-! ### texts -/
section
variable {X : Cx}
/-- s * n -/
theorem op_mulS : OpR X (binaryOp .Mult) (fun x y H Q => ∃ (z : Str) (n : Int), x = .str z ∧ y = .int n ∧ n ≤ 1000000 ∧ -1000000 ≤ n ∧ z.length * n.toNat ≤ sizeLine ∧ Q (.str (Txt.mul z n)) H) := by
  intro pins s σ H x y u v Q I rx ry h
  obtain ⟨z, n, rfl, rfl, h1, h2, h3, q⟩ := h
  obtain ⟨t, rfl⟩ := rx
  obtain ⟨t', rfl⟩ := ry
  refine PySem.SB.mul ⟨?_, ?_, ?_⟩ fun t' k => ⟨.str _, H, ?_, ⟨_, rfl⟩, q⟩
  · simp only [Bool.or_eq_false_iff, decide_eq_false_iff_not]
    exact ⟨by omega, by omega⟩
  · intro p _ q
    have e : (1000000 : Int) ≤ (2 ^ 63 - 1) / n := by
      rw [Int.le_ediv_iff_mul_le (by omega)]
      omega
    by_cases hz : z.length ≤ 1000000
    · omega
    · have h4 : z.length * 1 ≤ z.length * n.toNat := Nat.mul_le_mul_left _ (by omega)
      have e2 : (sizeLine : Int) ≤ (2 ^ 63 - 1) / n := by
        rw [Int.le_ediv_iff_mul_le (by omega)]
        show (16777216 : Int) * n ≤ _
        omega
      have h5 : (z.length : Int) ≤ (sizeLine : Int) := by
        have := Nat.le_trans h4 h3
        omega
      omega
  · intro _ _
    unfold PySem.Builtin.Str.tooLong
    simp only [decide_eq_false_iff_not]
    show ¬ z.length * n.toNat > 16777216
    have : z.length * n.toNat ≤ 16777216 := h3
    omega
  · exact I.tok k
end

/-! ### rules over a written part that is named -/
section
variable {X : Cx} {K : PySem.W.Frag}
theorem kx_list (h : X.K = K) : IxR X (rIxL K) := h ▸ ix_list
theorem kx_tup (h : X.K = K) : IxR X (rIxT K) := h ▸ ix_tup
theorem kx_seq (h : X.K = K) : IxR X (rIx K) := h ▸ ix_seq
theorem ksl_list (h : X.K = K) : SlR X (rSlL K) := h ▸ sl_list
theorem kop_eqD (h : X.K = K) (hu : X.A.units + 64 < cLine) : OpR X (compareOp .Eq) (rEqD K) := h ▸ op_eqD hu
theorem kop_neD (h : X.K = K) (hu : X.A.units + 64 < cLine) : OpR X (compareOp .NotEq) (rNeD K) := h ▸ op_neD hu
theorem kop_in (h : X.K = K) : OpR X (compareOp .In) (rIn K false) := h ▸ op_in_seq
theorem kop_notIn (h : X.K = K) : OpR X (compareOp .NotIn) (rIn K true) := h ▸ op_notIn_seq
theorem kop_catT (h : X.K = K) : OpR X (binaryOp .Add) (rCatA K) := h ▸ op_catA
theorem ksl_tup (h : X.K = K) : SlR X (rSlA K) := h ▸ sl_tupA
def rLen (K : PySem.W.Frag) : List V → Hp → VK → Prop := fun xs H Q => ∃ x n, xs = [x] ∧ LenV K x H n ∧ Q (.int n) H
theorem kc_len (h : X.K = K) : CallR X (.builtin "len") (rLen K) := h ▸ call_len
def rLenS (K : PySem.W.Frag) : List V → Hp → VK → Prop := fun xs H Q => ∃ p ys, xs = [.ref p] ∧ (SqL K H p ys ∨ SqT K H p ys) ∧ Q (.int ys.length) H
theorem kc_lenS (h : X.K = K) : CallR X (.builtin "len") (rLenS K) := h ▸ call_len_seq
def rListOf (K : PySem.W.Frag) : List V → Hp → VK → Prop := fun xs H Q => ∃ p ys, xs = [.ref p] ∧ (SqL K H p ys ∨ SqT K H p ys) ∧ ∀ l, H l = none → Q (.ref l) (upd H l (.lst ys))
theorem kc_list (h : X.K = K) : CallR X (.type "list") (rListOf K) := h ▸ call_list_of
def rTupOf (K : PySem.W.Frag) : List V → Hp → VK → Prop := fun xs H Q => ∃ p ys, xs = [.ref p] ∧ ((SqL K H p ys ∧ ∀ l, H l = none → Q (.ref l) (upd H l (.tup ys))) ∨ (SqT K H p ys ∧ Q (.ref p) H))
theorem kc_tuple (h : X.K = K) : CallR X (.type "tuple") (rTupOf K) := h ▸ call_tuple_of
theorem kc_all (h : X.K = K) (hc : X.calm = true) : CallR X (.builtin "all") (rAll K) := h ▸ cr_all hc
theorem kc_any (h : X.K = K) (hc : X.calm = true) : CallR X (.builtin "any") (rAny K) := h ▸ cr_any hc
theorem kc_isi (h : X.K = K) : CallR X (.builtin "isinstance") (rIsi K) := h ▸ call_isi
theorem kpi_list {tg l : Expr} {tl : TE} (h : X.K = K) (hl : PE X l tl) : PI X tg l (iList K tl) := h ▸ pi_list hl
theorem kpi_tup {tg l : Expr} {tl : TE} (h : X.K = K) (hl : PE X l tl) : PI X tg l (iTup K tl) := h ▸ pi_tup hl
def rJoin (K : PySem.W.Frag) : V → List V → Hp → VK → Prop := fun x xs H Q => ∃ a p, ∃ ys : List Str, x = .str a ∧ xs = [.ref p] ∧ (SqL K H p (ys.map V.str) ∨ SqT K H p (ys.map V.str)) ∧ (ys.map (·.length)).sum + ys.length * a.length ≤ 16777216 ∧ Q (.str (Txt.join a ys)) H
end
/-! ### loops -/
section
variable {J : It} {n : Nat} {G : Hp → Prop} {Y : Nat → Hp → V → Hp → Prop}
/-- what is made so far stands at D -/
def AccI (I : Nat → List V → Hp → Prop) (D : Addr) (i : Nat) (H : Hp) : Prop := ∃ acc, H D = some (.lst acc) ∧ acc.length = i ∧ I i acc H
theorem acc_step {I : Nat → List V → Hp → Prop} {D : Addr} {i : Nat} {acc : List V} {y : V} {H4 : Hp} (e : H4 D = some (.lst acc)) (el : acc.length = i) (hi : i ≤ 1000000) (k : I (i + 1) (acc ++ [y]) (upd H4 D (.lst (acc ++ [y])))) :
    ∃ acc, H4 D = some (.lst acc) ∧ acc.length < sizeLine ∧ AccI I D (i + 1) (upd H4 D (.lst (acc ++ [y]))) := by
  refine ⟨acc, e, ?_, acc ++ [y], upd_same, by rw [List.length_append, el]; rfl, k⟩
  show acc.length < 16777216
  omega
/-- a comprehension without a test -/
theorem lc_acc (w : Walk J n G Y) {g : TG} {te : TE} {vs : List Nat} {σ : St} {H1 : Hp} {D : Addr} {Qd : Hp → Prop} (I : Nat → List V → Hp → Prop) (h0 : I 0 [] (upd H1 D (.lst [])))
    (hG : ∀ i acc H, i ≤ n → H D = some (.lst acc) → I i acc H → G H)
    (hs : ∀ i acc x H H', i < n → H D = some (.lst acc) → acc.length = i → I i acc H → Y i H x H' → g x (wipe σ vs) H' fun σ2 H2 => wipe σ2 vs = wipe σ vs ∧ te σ2 H2 fun y H4 => ∃ acc, H4 D = some (.lst acc) ∧ acc.length < sizeLine ∧ AccI I D (i + 1) (upd H4 D (.lst (acc ++ [y]))))
    (hd : ∀ acc H, H D = some (.lst acc) → acc.length = n → I n acc H → Qd H) :
    ∃ W : Nat → Nat → Hp → Prop, (∃ m, W 0 m (upd H1 D (.lst []))) ∧ ∀ i m H, W i m H →
      (J.stop i H ∧ Qd H) ∨ (J.go i H ∧ ∃ Nx : Hp → Prop, (∀ H', Nx H' → ∃ m', m' < m ∧ W (i + 1) m' H') ∧ ∀ x H', J.yld i H x H' → g x (wipe σ vs) H' fun σ2 H2 => wipe σ2 vs = wipe σ vs ∧ tYes σ2 H2 fun b H3 =>
        if b = true then te σ2 H3 fun y H4 => ∃ acc, H4 D = some (.lst acc) ∧ acc.length < sizeLine ∧ Nx (upd H4 D (.lst (acc ++ [y]))) else Nx H3) := by
  refine lc_it w (AccI I D) ⟨[], upd_same, rfl, h0⟩ (fun i H hi ⟨acc, e, _, k⟩ => hG i acc H hi e k) (fun i x H H' hi ⟨acc, e, el, k⟩ hy => ?_) (fun H ⟨acc, e, el, k⟩ => hd acc H e el k)
  exact hs i acc x H H' hi e el k hy
end

theorem take_succ_code {z : Str} {i c : Nat} (h : z.cps[i]? = some c) : z.cps.toList.take (i + 1) = z.cps.toList.take i ++ [c] := by
  have h' : z.cps.toList[i]? = some c := by rw [Array.getElem?_toList]; exact h
  obtain ⟨hl, e⟩ := List.getElem?_eq_some_iff.mp h'
  rw [List.take_succ_eq_append_getElem hl, e]
theorem str_of_list {z : Str} (h : z.cps.toList = []) : z = Str.ofString "" := by
  obtain ⟨⟨l⟩⟩ := z
  have e : l = [] := h
  subst e
  rfl
theorem int_get {ns : List Int} {i : Nat} {y : V} (h : (ns.map V.int)[i]? = some y) : ∃ u, y = V.int u ∧ ns[i]? = some u := by
  rw [List.getElem?_map] at h
  cases e : ns[i]? with
  | none => rw [e] at h; cases h
  | some u => rw [e] at h; exact ⟨u, (Option.some.inj h).symm, rfl⟩
theorem fmod_in {a m : Int} (h : 0 < m) : 0 ≤ a.fmod m ∧ a.fmod m < m := by
  rw [Int.fmod_eq_emod_of_nonneg a (by omega)]
  exact ⟨Int.emod_nonneg _ (by omega), Int.emod_lt_of_pos _ h⟩

/-! ### texts by their codes -/
theorem str_ext {a b : Str} (h : a.cps.toList = b.cps.toList) : a = b := by
  obtain ⟨⟨x⟩⟩ := a
  obtain ⟨⟨y⟩⟩ := b
  have e : x = y := h
  rw [e]
theorem app_codes (a b : Str) : (a ++ b).cps.toList = a.cps.toList ++ b.cps.toList := by
  show (a.cps ++ b.cps).toList = _
  rw [Array.toList_append]
theorem app_len (a b : Str) : (a ++ b).length = a.length + b.length := by
  show (a.cps ++ b.cps).size = _
  rw [Array.size_append]; rfl
theorem len_codes (a : Str) : a.cps.toList.length = a.length := by simp [Str.length]
theorem join_codes : ∀ ys : List Str, (Txt.join (Str.ofString "") ys).cps.toList = (ys.map (·.cps.toList)).flatten := by
  have h : ∀ ys : List Str, (Str.join (Str.ofString "") ys).cps.toList = (ys.map (·.cps.toList)).flatten := by
    intro ys
    induction ys with
    | nil => rfl
    | cons x r ih =>
      cases r with
      | nil =>
        show x.cps.toList = _
        simp
      | cons y r =>
        show (x ++ Str.ofString "" ++ Str.join (Str.ofString "") (y :: r)).cps.toList = _
        rw [app_codes, app_codes, ih]
        show x.cps.toList ++ [] ++ _ = _
        rw [List.append_nil, List.map_cons (l := y :: r), List.flatten_cons]
  intro ys
  have e : Txt.join (Str.ofString "") ys = Str.join (Str.ofString "") ys := StrLaws.glued_eq_join _ ys
  rw [e, h]
/-- a text of drawn signs -/
def Sg (c : Nat) : Prop := 32 ≤ c ∧ c ≤ 126 ∧ c ≠ 37
instance (c : Nat) : Decidable (Sg c) := by unfold Sg; exact inferInstance
def SgT (z : Str) : Prop := ∀ c ∈ z.cps.toList, Sg c
theorem SgT.app {a b : Str} (h : SgT a) (k : SgT b) : SgT (a ++ b) := fun c hc => by
  rw [app_codes] at hc
  rcases List.mem_append.mp hc with q | q
  · exact h c q
  · exact k c q
theorem SgT.one {c : Nat} (h : Sg c) : SgT ⟨#[c]⟩ := fun d hd => by
  have e : d = c := by simpa using hd
  rw [e]; exact h

/-! ### plain data: what is passed and returned -/
inductive Dt where
  | non | bl (b : Bool) | int (i : Int) | str (s : Str) | tup (xs : List Dt)
mutual
inductive DT (K : PySem.W.Frag) (H : Hp) : V → Dt → Prop
  | non : DT K H .non .non
  | bl (b : Bool) : DT K H (.bl b) (.bl b)
  | int (i : Int) : DT K H (.int i) (.int i)
  | str (z : Str) : DT K H (.str z) (.str z)
  | tup {a : Addr} {xs : List V} {ds : List Dt} : SqT K H a xs → DTs K H xs ds → DT K H (.ref a) (.tup ds)
inductive DTs (K : PySem.W.Frag) (H : Hp) : List V → List Dt → Prop
  | nil : DTs K H [] []
  | cons {v : V} {vs : List V} {d : Dt} {ds : List Dt} : DT K H v d → DTs K H vs ds → DTs K H (v :: vs) (d :: ds)
end
mutual
theorem DT.mono {K : PySem.W.Frag} {H H' : Hp} (k : ∀ a xs, SqT K H a xs → SqT K H' a xs) : ∀ (d : Dt) (v : V), DT K H v d → DT K H' v d
  | .non, _, h => by cases h; exact .non
  | .bl b, _, h => by cases h; exact .bl _
  | .int b, _, h => by cases h; exact .int _
  | .str b, _, h => by cases h; exact .str _
  | .tup ds, _, h => by
    cases h with
    | tup h1 h2 => exact .tup (k _ _ h1) (DTs.mono k ds _ h2)
theorem DTs.mono {K : PySem.W.Frag} {H H' : Hp} (k : ∀ a xs, SqT K H a xs → SqT K H' a xs) : ∀ (ds : List Dt) (vs : List V), DTs K H vs ds → DTs K H' vs ds
  | [], _, h => by cases h; exact .nil
  | d :: ds, _, h => by
    cases h with
    | cons h1 h2 => exact .cons (DT.mono k d _ h1) (DTs.mono k ds _ h2)
end
section
variable {K : PySem.W.Frag} {H H' : Hp}
theorem DT.same {v : V} {d : Dt} (h : DT K H v d) (e : Same H H') : DT K H' v d := DT.mono (fun _ _ q => e.seqT q) d v h
theorem DTs.same {v : List V} {d : List Dt} (h : DTs K H v d) (e : Same H H') : DTs K H' v d := DTs.mono (fun _ _ q => e.seqT q) d v h
theorem seqT_go {t a : Addr} {xs : List V} (hT : Tape H t) (e : Sm t H H') (h : SqT K H a xs) : SqT K H' a xs := by
  obtain ⟨l, ns, x, b, c, h1, _⟩ := hT.ex
  rcases h with (h | ⟨o, h⟩) | h
  · exact .inl (.inl (e _ _ (ne_of h h1 (fun z => by cases z)) h))
  · exact .inl (.inr ⟨o, e _ _ (ne_of h h1 (fun z => by cases z)) h⟩)
  · exact .inr h
theorem DT.go {t : Addr} {v : V} {d : Dt} (h : DT K H v d) (hT : Tape H t) (e : Sm t H H') : DT K H' v d := DT.mono (fun _ _ q => seqT_go hT e q) d v h
theorem DTs.go {t : Addr} {v : List V} {d : List Dt} (h : DTs K H v d) (hT : Tape H t) (e : Sm t H H') : DTs K H' v d := DTs.mono (fun _ _ q => seqT_go hT e q) d v h
theorem DTs.length {vs : List V} {ds : List Dt} (h : DTs K H vs ds) : vs.length = ds.length := by
  induction ds generalizing vs with
  | nil => cases h; rfl
  | cons d ds ih =>
    cases h with
    | cons _ h2 => rw [List.length_cons, List.length_cons, ih h2]
theorem DTs.get {vs : List V} {ds : List Dt} (h : DTs K H vs ds) {i : Nat} {d : Dt} (e : ds[i]? = some d) : ∃ v, vs[i]? = some v ∧ DT K H v d := by
  induction ds generalizing vs i with
  | nil => simp at e
  | cons x ds ih =>
    cases h with
    | cons h1 h2 =>
      cases i with
      | zero =>
        have e' : x = d := by simpa using e
        subst e'
        exact ⟨_, rfl, h1⟩
      | succ i => exact ih h2 (by simpa using e)
theorem DTs.get' {vs : List V} {ds : List Dt} (h : DTs K H vs ds) {i : Nat} {v : V} (e : vs[i]? = some v) : ∃ d, ds[i]? = some d ∧ DT K H v d := by
  have hl := h.length
  have hi : i < ds.length := by rw [← hl]; exact (List.getElem?_eq_some_iff.mp e).1
  obtain ⟨w, e2, k⟩ := h.get (List.getElem?_eq_getElem hi)
  rw [e] at e2
  cases e2
  exact ⟨_, List.getElem?_eq_getElem hi, k⟩
theorem DTs.append {vs ws : List V} {ds es : List Dt} (h : DTs K H vs ds) (k : DTs K H ws es) : DTs K H (vs ++ ws) (ds ++ es) := by
  induction ds generalizing vs with
  | nil => cases h; exact k
  | cons x ds ih =>
    cases h with
    | cons h1 h2 => exact .cons h1 (ih h2)
end
/-! ### how deep, how wide -/
mutual
def Dt.deep : Dt → Nat
  | .tup xs => Dt.deeps xs + 1
  | _ => 1
def Dt.deeps : List Dt → Nat
  | [] => 0
  | d :: ds => max d.deep (Dt.deeps ds)
end
mutual
def Dt.fits : Dt → Bool
  | .tup xs => decide (xs.length ≤ 1000000) && Dt.fitss xs
  | _ => true
def Dt.fitss : List Dt → Bool
  | [] => true
  | d :: ds => d.fits && Dt.fitss ds
end
theorem Dt.deeps_mem {d : Dt} : ∀ {ds : List Dt}, d ∈ ds → d.deep ≤ Dt.deeps ds
  | x :: ds, h => by
    unfold Dt.deeps
    rcases List.mem_cons.mp h with rfl | h
    · omega
    · have := Dt.deeps_mem h
      omega
theorem Dt.fitss_mem {d : Dt} : ∀ {ds : List Dt}, d ∈ ds → Dt.fitss ds = true → d.fits = true
  | x :: ds, h, k => by
    unfold Dt.fitss at k
    rw [Bool.and_eq_true] at k
    rcases List.mem_cons.mp h with rfl | h
    · exact k.1
    · exact Dt.fitss_mem h k.2
def Dt.name : Dt → String
  | .non => "NoneType" | .bl _ => "bool" | .int _ => "int" | .str _ => "str" | .tup _ => "tuple"
theorem seqT_ty {K : PySem.W.Frag} {H : Hp} {a : Addr} {xs : List V} (h : SqT K H a xs) : TyX K H (.ref a) (.type "tuple") := by
  rcases h with (h | ⟨o, h⟩) | ⟨o, its, n, h1, h2, _⟩
  · exact .base (.tup h)
  · exact .fTuple h
  · exact .kTuple h1 h2
theorem DT.ty {K : PySem.W.Frag} {H : Hp} {v : V} {d : Dt} (h : DT K H v d) : TyX K H v (.type d.name) := by
  cases h with
  | non => exact .base .non
  | bl b => exact .base (.bl b)
  | int i => exact .base (.int i)
  | str z => exact .base (.str z)
  | tup h1 _ => exact seqT_ty h1

theorem at_any {α : Type} {xs : List α} {z : Int} {j : Nat} {v : α} (e : z = (j : Int)) (h : xs[j]? = some v) : atI xs z = some v := by
  rw [e]
  exact atI_nat h
theorem none_left {P : Program} {w : World} {K : PySem.W.Frag} {mg : Str → Option Value} {base : Heap} {f : Addr} {fd : FuncData} {ps : List Str} {sp : Sp} (no : ∀ vs H Q E, ¬ sp vs H Q E) : FnOk P w K mg base CX0 0 f fd ps sp :=
  ⟨fun vs H Q E h => absurd h (no vs H Q E), fun A outer s H args us vs Q E _ _ _ _ h => absurd h (no vs H Q E)⟩
theorem mul_codes (z : Str) (n : Int) : (Txt.mul z n).cps.toList = (List.replicate n.toNat z.cps.toList).flatten := by
  unfold Txt.mul
  by_cases h1 : n < 1
  · rw [if_pos h1, show n.toNat = 0 by omega]
    rfl
  · rw [if_neg h1]
    have fl : ∀ (k : Nat) (a : Array Nat), ((List.replicate k z.cps).foldl (· ++ ·) a).toList = a.toList ++ (List.replicate k z.cps.toList).flatten := by
      intro k
      induction k with
      | zero => intro a; simp
      | succ k ih =>
        intro a
        rw [List.replicate_succ, List.foldl_cons, ih, List.replicate_succ, List.flatten_cons, Array.toList_append, List.append_assoc]
    by_cases h2 : (n == 1 || z.length == 0) = true
    · rw [if_pos h2]
      rw [Bool.or_eq_true] at h2
      rcases h2 with h2 | h2
      · have e : n = 1 := by simpa using h2
        subst e
        simp
      · have e : z.cps.toList = [] := by
          have : z.cps.toList.length = 0 := by rw [len_codes]; simpa using h2
          exact List.length_eq_zero_iff.mp this
        rw [e]
        simp
    · rw [if_neg h2]
      have e := fl n.toNat #[]
      simpa using e
theorem mul_len (z : Str) (n : Int) : (Txt.mul z n).length = n.toNat * z.length := by
  rw [← len_codes, mul_codes, List.length_flatten, List.map_replicate, List.sum_replicate_nat, len_codes]
/-- a list of texts as data of the model -/
theorem dpa_strs {K : PySem.W.Frag} {H : Hp} : ∀ ws : List Str, DpAll K H (ws.map V.str) (ws.map PyData.str)
  | [] => .nil
  | z :: ws => .cons (.str z) (dpa_strs ws)
theorem shaped_strs {ws : List Str} (h : ∀ z ∈ ws, SgT z) : SeqAt.shaped (.list (ws.map PyData.str)) = true := by
  have l : ∀ ws : List Str, (∀ z ∈ ws, SgT z) → PyData.canLayAll0 (ws.map PyData.str) = true ∧ PyData.depthAll (ws.map PyData.str) = 0 := by
    intro ws
    induction ws with
    | nil => intro _; exact ⟨rfl, rfl⟩
    | cons z ws ih =>
      intro h
      obtain ⟨a, b⟩ := ih fun y hy => h y (List.mem_cons_of_mem _ hy)
      have hz : PyData.strOk z = true := by
        unfold PyData.strOk
        rw [Array.all_eq_true_iff_forall_mem]
        intro c hc
        have := h z List.mem_cons_self c (by simpa using hc)
        have k := this.2.1
        simp
        omega
      refine ⟨?_, ?_⟩
      · rw [List.map_cons, PyData.canLayAll0, PyData.canLay0, hz, a]
        rfl
      · rw [List.map_cons, PyData.depthAll, b, PyData.depth]
        rfl
  obtain ⟨a, b⟩ := l ws h
  unfold SeqAt.shaped
  rw [PyData.canLay0, PyData.depth, a, b]
  rfl
theorem eqv_strs_nil (ws : List Str) : PyData.eqv (.list (ws.map PyData.str)) (.list []) = ws.isEmpty := by
  cases ws <;> simp [PyData.eqv, PyData.eqvAll]
theorem SgT.cut {z : Str} (h : SgT z) (a b : Option Int) : SgT (cutS z a b) := fun c hc => by
  refine h c ?_
  unfold cutS at hc
  exact List.mem_of_mem_drop (List.mem_of_mem_take (by simpa using hc))
theorem SgT.mul {z : Str} (h : SgT z) (n : Int) : SgT (Txt.mul z n) := fun c hc => by
  rw [mul_codes] at hc
  obtain ⟨l, h1, h2⟩ := List.mem_flatten.mp hc
  rw [List.eq_of_mem_replicate h1] at h2
  exact h c h2
/-! ### slices, by take and drop -/
theorem sIx_pos {n d : Nat} {a : Int} (h : 0 ≤ a) : HT.sIx n d (some a) = min a.toNat n := by
  show (if a < 0 then _ else _) = _
  rw [if_neg (by omega)]
theorem cut_pre (z : Str) {a : Int} (h : 0 ≤ a) : (cutS z none (some a)).cps.toList = z.cps.toList.take a.toNat := by
  show ((z.cps.toList.drop 0).take (HT.sIx z.length z.length (some a) - 0)) = _
  rw [sIx_pos h, List.drop_zero, Nat.sub_zero, ← len_codes]
  by_cases c : a.toNat ≤ z.cps.toList.length
  · rw [Nat.min_eq_left c]
  · rw [Nat.min_eq_right (by omega), List.take_of_length_le (Nat.le_refl _), List.take_of_length_le (by omega)]
theorem cut_suf (z : Str) {a : Int} (h : 0 ≤ a) : (cutS z (some a) none).cps.toList = z.cps.toList.drop a.toNat := by
  show ((z.cps.toList.drop (HT.sIx z.length 0 (some a))).take (z.length - HT.sIx z.length 0 (some a))) = _
  rw [sIx_pos h, ← len_codes]
  by_cases c : a.toNat ≤ z.cps.toList.length
  · rw [Nat.min_eq_left c, List.take_of_length_le (by rw [List.length_drop]; exact Nat.le_refl _)]
  · rw [Nat.min_eq_right (by omega), List.drop_of_length_le (Nat.le_refl _), List.drop_of_length_le (by omega), List.take_nil]
theorem cut_pre_len (z : Str) {a : Int} (h : 0 ≤ a) : (cutS z none (some a)).length = min a.toNat z.length := by
  rw [← len_codes, cut_pre z h, List.length_take, len_codes]
theorem cut_suf_len (z : Str) {a : Int} (h : 0 ≤ a) : (cutS z (some a) none).length = z.length - a.toNat := by
  rw [← len_codes, cut_suf z h, List.length_drop, len_codes]
theorem cutV_pre {xs : List V} {a : Int} (h : 0 ≤ a) : cutV xs none (some a) = xs.take a.toNat := by
  show (xs.drop 0).take (HT.sIx xs.length xs.length (some a) - 0) = _
  rw [sIx_pos h, List.drop_zero, Nat.sub_zero]
  by_cases c : a.toNat ≤ xs.length
  · rw [Nat.min_eq_left c]
  · rw [Nat.min_eq_right (by omega), List.take_of_length_le (Nat.le_refl _), List.take_of_length_le (by omega)]
theorem cutV_suf {xs : List V} {a : Int} (h : 0 ≤ a) : cutV xs (some a) none = xs.drop a.toNat := by
  show (xs.drop (HT.sIx xs.length 0 (some a))).take (xs.length - HT.sIx xs.length 0 (some a)) = _
  rw [sIx_pos h]
  by_cases c : a.toNat ≤ xs.length
  · rw [Nat.min_eq_left c, List.take_of_length_le (by rw [List.length_drop]; exact Nat.le_refl _)]
  · rw [Nat.min_eq_right (by omega), List.drop_of_length_le (Nat.le_refl _), List.drop_of_length_le (by omega), List.take_nil]
theorem pickN (l : List Nat) {v : V} (h : v ∈ l.map fun n : Nat => V.int (n : Int)) {b : Nat} (hb : (l.all fun n => decide (n ≤ b)) = true) : ∃ n : Nat, n ≤ b ∧ v = V.int (n : Int) := by
  obtain ⟨n, h1, h2⟩ := List.mem_map.mp h
  exact ⟨n, of_decide_eq_true (List.all_eq_true.mp hb n h1), h2.symm⟩
theorem pickS (l : List Str) {v : V} (h : v ∈ l.map V.str) : ∃ z : Str, z ∈ l ∧ v = V.str z := by
  obtain ⟨n, h1, h2⟩ := List.mem_map.mp h
  exact ⟨n, h1, h2.symm⟩
theorem le_line {n : Nat} (h : n ≤ 1000000) : n ≤ sizeLine := Nat.le_trans h (by decide)
theorem lt_line {n : Nat} (h : n ≤ 1000000) : n < sizeLine := Nat.lt_of_le_of_lt h (by decide)
theorem DTs.strs {K : PySem.W.Frag} {H : Hp} : ∀ ws : List Str, DTs K H (ws.map V.str) (ws.map Dt.str)
  | [] => .nil
  | z :: ws => .cons (.str z) (DTs.strs ws)
theorem deeps_strs : ∀ ws : List Str, Dt.deeps (ws.map Dt.str) ≤ 1
  | [] => by simp [Dt.deeps]
  | z :: ws => by
    have := deeps_strs ws
    have e : Dt.deep (.str z) = 1 := rfl
    rw [List.map_cons, Dt.deeps, e]
    omega
theorem fitss_strs : ∀ ws : List Str, Dt.fitss (ws.map Dt.str) = true
  | [] => rfl
  | z :: ws => by
    have e : Dt.fits (.str z) = true := rfl
    rw [List.map_cons, Dt.fitss, e, fitss_strs ws]
    rfl
theorem fits_strs {ws : List Str} (h : ws.length ≤ 1000000) : Dt.fits (.tup (ws.map Dt.str)) = true := by
  rw [Dt.fits, fitss_strs, List.length_map, decide_eq_true h]
  rfl
theorem flat_ones : ∀ cs : List Nat, ((cs.map fun c => (⟨#[c]⟩ : Str)).map (·.cps.toList)).flatten = cs
  | [] => rfl
  | c :: cs => by
    rw [List.map_cons, List.map_cons, List.flatten_cons, flat_ones cs]
    rfl
theorem sum_ones : ∀ cs : List Nat, ((cs.map fun c => (⟨#[c]⟩ : Str)).map (·.length)).sum = cs.length
  | [] => rfl
  | c :: cs => by
    rw [List.map_cons, List.map_cons, List.sum_cons, sum_ones cs, List.length_cons]
    show 1 + cs.length = _
    omega
theorem sum_lens {b : Nat} : ∀ {ws : List Str}, (∀ w ∈ ws, w.length ≤ b) → (ws.map (·.length)).sum ≤ ws.length * b
  | [], _ => by simp
  | w :: ws, h => by
    have h1 := h w List.mem_cons_self
    have h2 := sum_lens fun x hx => h x (List.mem_cons_of_mem _ hx)
    rw [List.map_cons, List.sum_cons, List.length_cons, Nat.succ_mul]
    omega
theorem join_len_le (sep : Str) (ws : List Str) : (Txt.join sep ws).length ≤ (ws.map (·.length)).sum + ws.length * sep.length := by
  have e : Txt.join sep ws = Str.join sep ws := StrLaws.glued_eq_join _ ws
  rw [e]
  exact StrLaws.join_length_le sep ws
end My

namespace My
open PySem L2
def topS (i : Nat) : Stmt := PySem.Challenge.pw_hookcheck_k11_tokens.main.body.getD i (.Pass ⟨0, 0, 0, 0⟩)
abbrev s_tokens_of : Stmt := topS 1
abbrev s_law_tape : Stmt := topS 3
abbrev s_law_draw : Stmt := topS 4
abbrev s_law_pick : Stmt := topS 5
abbrev s_law_same : Stmt := topS 6
abbrev s_law_any_sign : Stmt := topS 7
abbrev s_law_text : Stmt := topS 8
abbrev s_law_tight_text : Stmt := topS 9
abbrev s_law_spaced : Stmt := topS 10
abbrev s_law_word : Stmt := topS 11
abbrev s_law : Stmt := topS 12
structure Top (K : PySem.W.Frag) (mg : Str → Option Value) : Prop where
  z_abs : mg "abs" = none
  z_bool : mg "bool" = none
  z_int : mg "int" = none
  z_isinstance : mg "isinstance" = none
  z_len : mg "len" = none
  z_list : mg "list" = none
  z_max : mg "max" = none
  z_min : mg "min" = none
  z_range : mg "range" = none
  z_str : mg "str" = none
  z_tuple : mg "tuple" = none
section
variable {P : Program} {w : World} {K : PySem.W.Frag} {mg : Str → Option Value} {base : Heap}
/-! ### tokens_of -/
theorem sc_tokens_of : FnScope ["text", "part"] ["text"] (defScope s_tokens_of) := ⟨rfl, rfl, rfl, by decide +kernel, rfl, by decide +kernel, by decide +kernel⟩

def spS : Str := Str.ofString " "
def neE (p : Str) : Bool := decide (p ≠ Str.ofString "")
/-- the tokens of a text -/
def tokL (z : Str) : List Str := (Txt.split z spS).filter neE
theorem sp_codes : spS = ⟨#[32]⟩ := by decide +kernel
theorem tokL_free {z p : Str} (h : p ∈ tokL z) : p ≠ Str.ofString "" ∧ 32 ∉ p.cps.toList := by
  obtain ⟨h1, h2⟩ := List.mem_filter.mp h
  refine ⟨of_decide_eq_true h2, ?_⟩
  rw [sp_codes] at h1
  exact StrLaws.split_free z 32 p h1
/-- what is joined of tokens has these tokens -/
theorem tokL_join {ws : List Str} (h : ∀ p ∈ ws, p ≠ Str.ofString "" ∧ 32 ∉ p.cps.toList) : tokL (Txt.join spS ws) = ws := by
  cases ws with
  | nil => decide +kernel
  | cons a r =>
    unfold tokL
    rw [TL.split_join (y := spS) (s := 32) (S := []) (by decide +kernel) (by decide +kernel) (by simp) fun p hp => (h p hp).2]
    rw [List.filter_eq_self]
    intro p hp
    exact decide_eq_true (h p hp).1
theorem split_len_le {z : Str} (h : z.length ≤ 100000) : (Txt.split z spS).length ≤ 100002 := Nat.le_trans (PyProof.Rows.split_le z spS) (by omega)
theorem tokL_len {z : Str} (h : z.length ≤ 100000) : (tokL z).length ≤ 100002 := Nat.le_trans (List.length_filter_le _ _) (split_len_le h)
theorem filter_sum_le (f : Str → Bool) : ∀ ws : List Str, ((ws.filter f).map (·.length)).sum ≤ (ws.map (·.length)).sum
  | [] => Nat.le_refl _
  | w :: ws => by
    have ih := filter_sum_le f ws
    by_cases c : f w = true
    · rw [List.filter_cons_of_pos c, List.map_cons, List.sum_cons, List.map_cons, List.sum_cons]; omega
    · rw [List.filter_cons_of_neg c, List.map_cons, List.sum_cons]; omega
theorem tokL_sum (z : Str) : ((tokL z).map (·.length)).sum + (tokL z).length ≤ z.length + 1 := by
  have h1 := PyProof.Rows.split_weight z spS (by decide +kernel)
  have h2 := filter_sum_le neE (Txt.split z spS)
  have h3 := List.length_filter_le neE (Txt.split z spS)
  unfold tokL
  omega


def sp_tokens_of (K : PySem.W.Frag) : Sp := fun vs H Q _ => ∃ (z : Str), vs = [.str z] ∧ z.length ≤ 100000 ∧ ∀ p H', Same H H' → H' p = some (.tup ((tokL z).map V.str)) → Q (.ref p) H'

theorem ok_tokens_of {f : Addr} {fd : FuncData} (F : Fun K "tokens_of" "tokens_of" s_tokens_of f fd) (T : Top K mg) : FnOk P w K mg base CX0 1 f fd ["text"] (sp_tokens_of K) := by
  have sc := sc_tokens_of
  refine F.ok sc (fun vs H Q E h => ?_) (fun cdv A outer s H vs Q E hr h => ?_)
  · obtain ⟨z, rfl, _⟩ := h
    rfl
  obtain ⟨z, rfl, hz, q⟩ := h
  refine ⟨_, (pss_one (ps_ret (pe_callTy (kc_tuple (K := K) rfl) (by rfl) T.z_tuple (by decide +kernel) (pa_cons (pe_lc (own := [("part", 1)]) (g := gName 1) rfl sc.nd (kpi_list (K := K) rfl (pe_split (pv 0) pe_str)) (blkOk_by (N := ["text", "part"]) (sc := defScope s_tokens_of) (by decide +kernel)) (fun _ _ _ _ _ => pg_name (i := 1) sc.nd rfl (Or.inl rfl)) (fun _ _ _ _ _ => pts_one (pt_cmpR op_ne (pv 1) pe_str (nomark _))) (fun _ _ _ _ _ => (pv 1))) pa_nil)))), ?_⟩

  refine ⟨_, rfl, ⟨_, rfl⟩, z, spS, rfl, rfl, by decide +kernel, le_line (by omega), fun p hp => ⟨p, rfl, ⟨_, SqL.of upd_same⟩, fun D hD => ?_⟩⟩
  have nD : p ≠ D := ne_of_none upd_same hD
  have hl : ((Txt.split z spS).map V.str).length ≤ 100002 := by rw [List.length_map]; exact split_len_le hz
  refine lc_it (walk_list (K := K) (a := p) (xs := (Txt.split z spS).map V.str)) (fun i H' => H' = upd (upd H p (.lst ((Txt.split z spS).map V.str))) D (.lst ((((Txt.split z spS).take i).filter neE).map V.str))) rfl
    (fun i H' _ e => by rw [e]; exact SqL.of (by rw [upd_ne nD]; exact upd_same)) ?_ ?_
  · rintro i x H1 H2 hi rfl ⟨rfl, hx⟩
    rw [List.getElem?_map] at hx
    obtain ⟨w, hw, rfl⟩ := Option.map_eq_some_iff.mp hx
    obtain ⟨hl2, ew⟩ := List.getElem?_eq_some_iff.mp hw
    refine ⟨rfl, _, rfl, rfl, _, rfl, ite2 (fun c => ?_) (fun c => ?_)⟩
    · refine ⟨_, rfl, _, upd_same, ?_, ?_⟩
      · rw [List.length_map]
        exact lt_line (Nat.le_trans (List.length_filter_le _ _) (by rw [List.length_take, ← List.length_map (f := V.str)]; omega))
      · have k : neE w = true := by
          unfold neE
          rw [decide_eq_true_iff]
          intro z
          rw [z] at c
          simp at c
        rw [upd_upd, List.take_succ_eq_append_getElem hl2, ew, List.filter_append, List.map_append, List.filter_cons_of_pos k]
        rfl
    · have k : ¬ neE w = true := by
        unfold neE
        rw [decide_eq_true_iff]
        intro z
        apply c
        have : ¬ V.str w = V.str (Str.ofString "") := fun y => z (V.str.inj y)
        rw [decide_eq_false this]
        rfl
      rw [List.take_succ_eq_append_getElem hl2, ew, List.filter_append, List.filter_cons_of_neg k, List.filter_nil, List.append_nil]
  · rintro H1 rfl
    rw [List.length_map, List.take_length]
    refine ⟨D, _, rfl, .inl ⟨SqL.of upd_same, fun r hr => ?_⟩⟩
    exact q r _ (((same_new hp _).trans (same_new hD _)).trans (same_new hr _)) upd_same
/-! ### _law_tape -/
theorem sc_law_tape : FnScope ["script", "total", "cell"] ["script"] (defScope s_law_tape) := ⟨rfl, rfl, rfl, by decide +kernel, rfl, by decide +kernel, by decide +kernel⟩



def sp_law_tape (K : PySem.W.Frag) : Sp := fun vs H Q _ => ∃ (a : Addr) (ns : List Int), vs = [.ref a] ∧ SqL K H a (ns.map V.int) ∧ ns.length ≤ 63 ∧ ∀ t H', Tape H' t → H t = none → Same H H' → Q (.ref t) H'

theorem ok_law_tape {f : Addr} {fd : FuncData} (F : Fun K "_law_tape" "_law_tape" s_law_tape f fd) (T : Top K mg) : FnOk P w K mg base CX0 1 f fd ["script"] (sp_law_tape K) := by
  have sc := sc_law_tape
  refine F.ok sc (fun vs H Q E h => ?_) (fun cdv A outer s H vs Q E hr h => ?_)
  · obtain ⟨a, ns, rfl, _⟩ := h
    rfl
  obtain ⟨a, ns, rfl, hS, hn, q⟩ := h
  refine ⟨_, (pss_cons (ps_set (i := 1) sc.nd rfl (Or.inl rfl) pe_int)
    (pss_cons (ps_for PassesOwn.never rfl (kpi_list (K := K) rfl (pv 0)) (pg_name (i := 2) sc.nd rfl (Or.inl rfl))
      (pss_one (ps_set (i := 1) sc.nd rfl (Or.inl rfl) (pe_op op_modN (pe_callTy call_int1 (by rfl) T.z_int (by decide +kernel) (pa_cons (pe_op op_add (pe_op op_mul (pv 1) pe_int) (pe_callB call_abs (by rfl) T.z_abs (by decide +kernel) (pa_cons (pe_callTy call_int1 (by rfl) T.z_int (by decide +kernel) (pa_cons (pv 2) pa_nil)) pa_nil))) pa_nil)) pe_int))))
    (pss_one (ps_ret (pe_lst (pa_cons (pe_callTy (kc_list (K := K) rfl) (by rfl) T.z_list (by decide +kernel) (pa_cons (pv 0) pa_nil)) (pa_cons pe_int (pa_cons pe_int (pa_cons (pv 1) pa_nil))))))))), ?_⟩

  have hlen : (ns.map V.int).length = ns.length := List.length_map _
  refine ⟨_, rfl, a, rfl, ⟨_, hS⟩, for_list (K := K) (a := a) (xs := ns.map V.int) (fun i σ H' => H' = H ∧ ∃ (z : Int) (v : Option V), σ = [some (.ref a), some (.int z), v]) ⟨rfl, 7, none, rfl⟩ (fun i σ H' _ ⟨e, _⟩ => e ▸ hS) ?_ ?_⟩
  · rintro i y σ H' hi ⟨rfl, z, v, rfl⟩
    obtain ⟨u, rfl, _⟩ := int_get hi
    refine ⟨_, rfl, _, _, rfl, rfl, .inr ⟨by decide, by decide⟩, ?_⟩
    refine ⟨_, rfl, .inl ⟨_, rfl, _, rfl, ?_⟩⟩
    refine ⟨_, _, rfl, rfl, .inl ⟨_, rfl, _, _, rfl, rfl, (by show (2147483647 : Int) ≠ 0; decide), rfl, _, _, rfl⟩⟩
  · rintro σ H' ⟨rfl, z, v, rfl⟩
    refine ⟨_, rfl, a, _, rfl, .inl hS, fun l hl => ⟨_, rfl, ?_⟩⟩
    refine ⟨(by show 4 ≤ sizeLine; decide), fun t ht => ?_⟩
    have e1 : l ≠ t := ne_of_none upd_same ht
    refine q t _ ⟨l, ns, 0, 0, z, upd_same, by rw [upd_ne e1]; exact upd_same, e1, by omega, hn⟩ ?_ (Same.late (same_new hl _) (by rw [upd_ne e1.symm] at ht; exact ht))
    rw [upd_ne e1.symm] at ht
    exact ht
/-! ### _law_draw -/
theorem sc_law_draw : FnScope ["tape", "many", "number", "place"] ["tape", "many"] (defScope s_law_draw) := ⟨rfl, rfl, rfl, by decide +kernel, rfl, by decide +kernel, by decide +kernel⟩

def sp_law_draw (K : PySem.W.Frag) : Sp := fun vs H Q _ => ∃ (t : Addr) (m : Int), vs = [.ref t, .int m] ∧ Tape H t ∧ -(2 ^ 62) < m ∧ m < 2 ^ 62 ∧ ∀ r H', 0 ≤ r → (r < m ∨ r = 0) → Go t H H' → Q (.int r) H'

theorem ok_law_draw {f : Addr} {fd : FuncData} (F : Fun K "_law_draw" "_law_draw" s_law_draw f fd) (T : Top K mg) : FnOk P w K mg base CX0 1 f fd ["tape", "many"] (sp_law_draw K) := by
  have sc := sc_law_draw
  refine F.ok sc (fun vs H Q E h => ?_) (fun cdv A outer s H vs Q E hr h => ?_)
  · obtain ⟨t, m, rfl, _⟩ := h
    rfl
  obtain ⟨t, m, rfl, hT, hm0, hm, q⟩ := h
  refine ⟨_, (C8.pss_cut (ps_if (pt_cmpR op_eq (pe_ix (kx_list (K := K) rfl) (pv 0) pe_int (fun _ _ => rfl)) pe_int (nomark _))
      (pss_cons (ps_set (i := 3) sc.nd rfl (Or.inl rfl) (pe_ix (kx_list (K := K) rfl) (pv 0) pe_int (fun _ _ => rfl)))
      (pss_cons (ps_set (i := 2) sc.nd rfl (Or.inl rfl) pe_int)
      (C8.pss_cut (ps_if (pt_cmpR op_lt (pv 3) (pe_callB (kc_lenS (K := K) rfl) (by rfl) T.z_len (by decide +kernel) (pa_cons (pe_ix (kx_list (K := K) rfl) (pv 0) pe_int (fun _ _ => rfl)) pa_nil)) (nomark _))
        (pss_one (ps_set (i := 2) sc.nd rfl (Or.inl rfl) (pe_callB call_abs (by rfl) T.z_abs (by decide +kernel) (pa_cons (pe_callTy call_int1 (by rfl) T.z_int (by decide +kernel) (pa_cons (pe_ix (kx_list (K := K) rfl) (pe_ix (kx_list (K := K) rfl) (pv 0) pe_int (fun _ _ => rfl)) (pv 3) (fun _ _ => rfl)) pa_nil)) pa_nil))))
        (pss_cons (ps_asg (pe_op op_modN (pe_callTy call_int1 (by rfl) T.z_int (by decide +kernel) (pa_cons (pe_op op_add (pe_op op_add (pe_op op_mul (pe_ix (kx_list (K := K) rfl) (pv 0) pe_int (fun _ _ => rfl)) pe_int) (pv 3)) pe_int) pa_nil)) pe_int) (pg_sub (pv 0) pe_int set_list))
        (pss_one (ps_set (i := 2) sc.nd rfl (Or.inl rfl) (pe_ix (kx_list (K := K) rfl) (pv 0) pe_int (fun _ _ => rfl))))))
      (pss_cons (ps_asg (pe_op op_add (pv 3) pe_int) (pg_sub (pv 0) pe_int set_list))
      (pss_cons (ps_if (pt_cmpR op_lt (pv 2) (pe_op op_pow pe_int pe_int) (nomark _))
        (pss_cons (ps_set (i := 2) sc.nd rfl (Or.inl rfl) (pe_op op_modN (pe_callTy call_int1 (by rfl) T.z_int (by decide +kernel) (pa_cons (pe_op op_add (pe_op op_add (pe_op op_mul (pv 2) pe_int) (pe_op op_mul (pv 3) pe_int)) pe_int) pa_nil)) pe_int))
        (pss_cons (ps_set (i := 2) sc.nd rfl (Or.inl rfl) (pe_op op_modN (pe_callTy call_int1 (by rfl) T.z_int (by decide +kernel) (pa_cons (pe_op op_mul (pv 2) pe_int) pa_nil)) pe_int))
        (pss_one (ps_ret (pe_op op_modN (pe_callTy call_int1 (by rfl) T.z_int (by decide +kernel) (pa_cons (pv 2) pa_nil)) (pe_callB (call_max2 rfl) (by rfl) T.z_max (by decide +kernel) (pa_cons (pv 1) (pa_cons pe_int pa_nil))))))))
        pss_nil)
      (pss_one (ps_asg (pv 2) (pg_sub (pv 0) pe_int set_list))))))))
      pss_nil)
    (pss_cons (ps_set (i := 2) sc.nd rfl (Or.inl rfl) (pe_ix (kx_list (K := K) rfl) (pv 0) pe_int (fun _ _ => rfl)))
    (pss_cons (ps_asg (pe_op op_fdivW (pv 2) (pe_callB (call_max2 rfl) (by rfl) T.z_max (by decide +kernel) (pa_cons (pv 1) (pa_cons pe_int pa_nil)))) (pg_sub (pv 0) pe_int set_list))
    (pss_one (ps_ret (pe_op op_modN (pe_callTy call_int1 (by rfl) T.z_int (by decide +kernel) (pa_cons (pv 2) pa_nil)) (pe_callB (call_max2 rfl) (by rfl) T.z_max (by decide +kernel) (pa_cons (pv 1) (pa_cons pe_int pa_nil))))))))), ?_⟩

  obtain ⟨l, ns, a, b, c, h1, h2, h3, h4, h5⟩ := hT.ex
  have hlen : (ns.map V.int).length = ns.length := List.length_map _
  have hmax : (if (1 : Int) > m then 1 else m) ≠ 0 := by split <;> omega
  have last : ∀ (n : Int) (H' : Hp), Go t H H' → Q (.int (n.fmod (if (1 : Int) > m then 1 else m))) H' := fun n H' g => by
    have e := fmod_in (a := n) (m := if (1 : Int) > m then 1 else m) (by split <;> omega)
    refine q _ _ e.1 ?_ g
    have e2 := e.2
    split at e2 <;> omega
  refine ⟨fun σ H' => Go t H H' ∧ ∃ v1 v2, σ = [some (.ref t), some (.int m), v1, v2], ?_, ?_⟩
  · refine ⟨_, rfl, t, _, 2, _, rfl, rfl, SqL.of h1, rfl, rfl, _, rfl, ite2 (fun c1 => ?_) (fun c1 => ⟨Go.refl hT, _, _, rfl⟩)⟩
    refine ⟨_, rfl, t, _, 1, _, rfl, rfl, SqL.of h1, rfl, ?_⟩
    refine ⟨fun σ H' => (∃ c', H' t = some (.lst [.ref l, .int a, .int b, .int c']) ∧ Sm t H H') ∧ ∃ n : Int, σ = [some (.ref t), some (.int m), some (.int n), some (.int a)], ?_, ?_⟩
    · refine ⟨_, rfl, _, rfl, t, _, 0, _, rfl, rfl, SqL.of h1, rfl, l, _, rfl, .inl (SqL.of h2), _, _, rfl, rfl, _, rfl, ite2 (fun c2 => ?_) (fun c2 => ?_)⟩
      · have c2' : a < ((ns.map V.int).length : Int) := of_decide_eq_true c2
        rw [hlen] at c2'
        have hx : (ns.map V.int)[a.toNat]? = some (.int ns[a.toNat]) := by
          rw [List.getElem?_map, List.getElem?_eq_getElem (by omega)]; rfl
        refine ⟨_, rfl, t, _, 0, _, rfl, rfl, SqL.of h1, rfl, _, rfl, l, _, a, _, rfl, rfl, SqL.of h2, at_of (by omega) hx, ?_⟩
        exact .inl ⟨_, rfl, _, rfl, ⟨c, h1, Sm.refl _ _⟩, _, rfl⟩
      · refine ⟨_, rfl, t, _, 3, _, rfl, rfl, SqL.of h1, rfl, ?_⟩
        refine ⟨_, _, rfl, rfl, .inr ⟨by decide, by decide⟩, _, rfl, _, _, rfl, rfl, _, _, rfl, rfl, .inl ⟨_, rfl, ?_⟩⟩
        refine ⟨_, _, rfl, rfl, (by show (2147483647 : Int) ≠ 0; decide), _, rfl, t, _, 3, 3, rfl, rfl, h1, rfl, ?_⟩
        refine ⟨_, rfl, t, _, 3, _, rfl, rfl, SqL.of upd_same, rfl, ⟨_, upd_same, Sm.put⟩, _, rfl⟩
    · rintro σ H1 ⟨⟨c', e1, s1⟩, n, rfl⟩
      refine ⟨_, rfl, _, _, rfl, rfl, _, rfl, t, _, 1, 1, rfl, rfl, e1, rfl, ?_⟩
      have g1 : Go t H (upd H1 t (.lst [.ref l, .int (a + 1), .int b, .int c'])) := Go.put h1 s1 (s1 _ _ h3 h2) h3 (by omega) h5
      refine ⟨_, rfl, _, _, rfl, rfl, ⟨by decide, by decide, by decide⟩, _, _, rfl, rfl, _, rfl, ite2 (fun c2 => ?_) (fun c2 => ?_)⟩
      · refine ⟨_, rfl, _, _, rfl, rfl, .inr ⟨by decide, by decide⟩, _, rfl, _, _, rfl, rfl, .inr ⟨by decide, by decide⟩, _, _, rfl, rfl, _, _, rfl, rfl, .inl ⟨_, rfl, ?_⟩⟩
        refine ⟨_, _, rfl, rfl, (by show (2147483647 : Int) ≠ 0; decide), _, rfl, _, _, rfl, rfl, .inr ⟨by decide, by decide⟩, .inl ⟨_, rfl, ?_⟩⟩
        refine ⟨_, _, rfl, rfl, (by show (2147483629 : Int) ≠ 0; decide), _, rfl, .inl ⟨_, rfl, _, rfl, _, _, rfl, _, _, rfl, rfl, hmax, ?_⟩⟩
        exact last _ _ g1
      · refine ⟨_, rfl, _, rfl, t, _, 2, 2, rfl, rfl, upd_same, rfl, ?_⟩
        rw [upd_upd]
        exact ⟨Go.put h1 s1 (s1 _ _ h3 h2) h3 (by omega) h5, _, _, rfl⟩
  · rintro σ H1 ⟨g0, v1, v2, rfl⟩
    obtain ⟨l', ns', a', b', c', k1, k2, k3, k4, k5⟩ := g0.tp.ex
    refine ⟨_, rfl, t, _, 2, _, rfl, rfl, SqL.of k1, rfl, _, rfl, _, rfl, _, _, rfl, _, _, rfl, rfl, ?_, ?_⟩
    · exact wide_div (b := 63) (by split <;> omega) (by split <;> omega) (by decide) (by decide)
    refine ⟨_, rfl, t, _, 2, 2, rfl, rfl, k1, rfl, ?_⟩
    refine ⟨_, rfl, .inl ⟨_, rfl, _, rfl, _, _, rfl, _, _, rfl, rfl, hmax, ?_⟩⟩
    exact last _ _ (g0.trans (Go.put k1 (Sm.refl _ _) k2 k3 k4 k5))
/-! ### _law_pick -/
theorem sc_law_pick : FnScope ["tape", "row"] ["tape", "row"] (defScope s_law_pick) := ⟨rfl, rfl, rfl, by decide +kernel, rfl, by decide +kernel, by decide +kernel⟩



def sp_law_pick (K : PySem.W.Frag) : Sp := fun vs H Q _ => ∃ (t : Addr) (row : V), vs = [.ref t, row] ∧ Tape H t ∧
  ((∃ z, row = .str z ∧ 1 ≤ z.length ∧ z.length ≤ 1000000 ∧ ∀ c H', c ∈ z.cps.toList → Go t H H' → Q (.str ⟨#[c]⟩) H') ∨
   (∃ p xs, row = .ref p ∧ p ≠ t ∧ (SqL K H p xs ∨ SqT K H p xs) ∧ 1 ≤ xs.length ∧ xs.length ≤ 1000000 ∧ ∀ v H', v ∈ xs → Go t H H' → Q v H'))

theorem ok_law_pick {f : Addr} {fd : FuncData} (F : Fun K "_law_pick" "_law_pick" s_law_pick f fd) (T : Top K mg) {a_law_draw : Addr} {d_law_draw : FuncData} (C_law_draw : Cal P w K mg base "_law_draw" 1 ["tape", "many"] sp_law_draw a_law_draw d_law_draw) : FnOk P w K mg base CX0 2 f fd ["tape", "row"] (sp_law_pick K) := by
  have sc := sc_law_pick
  refine F.ok sc (fun vs H Q E h => ?_) (fun cdv A outer s H vs Q E hr h => ?_)
  · obtain ⟨t, row, rfl, _⟩ := h
    rfl
  obtain ⟨t, row, rfl, hT, q⟩ := h
  refine ⟨_, (pss_one (ps_ret (pe_ix (kx_seq (K := K) rfl) (pv 1) (pe_call C_law_draw.ok (hr.mono (by omega)) (by rfl) C_law_draw.m C_law_draw.kp C_law_draw.b .nil pass0 (pa_cons (pv 0) (pa_cons (pe_callB (kc_len (K := K) rfl) (by rfl) T.z_len (by decide +kernel) (pa_cons (pv 1) pa_nil)) pa_nil))) (fun _ _ => rfl)))), ?_⟩

  rcases q with ⟨z, rfl, z1, z2, q⟩ | ⟨p, xs, rfl, np, hS, z1, z2, q⟩
  · refine ⟨_, rfl, _, rfl, _, rfl, _, z.length, rfl, ⟨Nat.le_trans z2 (by decide), rfl⟩, t, z.length, rfl, hT, by omega, by omega, fun r H1 r0 r1 g => ?_⟩
    have hr2 : r.toNat < z.cps.toList.length := by rw [len_codes]; omega
    refine .inr (.inr ⟨z, r, z.cps.toList[r.toNat], rfl, rfl, Nat.le_trans z2 (by decide), at_any (z := r) (j := r.toNat) (by omega) (List.getElem?_eq_getElem hr2), ?_⟩)
    exact q _ _ (List.getElem_mem _) g
  · refine ⟨_, rfl, _, rfl, _, rfl, _, xs.length, rfl, hS.elim (fun h => .inl ⟨xs, h, rfl⟩) (fun h => .inr ⟨xs, h, rfl⟩), t, xs.length, rfl, hT, by omega, by omega, fun r H1 r0 r1 g => ?_⟩
    have hr2 : r.toNat < xs.length := by omega
    have q' := q xs[r.toNat] H1 (List.getElem_mem _) g
    rcases hS with hS | hS
    · exact .inl ⟨p, xs, r, _, rfl, rfl, g.sm.seqL np hS, at_of (by omega) (List.getElem?_eq_getElem hr2), q'⟩
    · exact .inr (.inl ⟨p, xs, r, _, rfl, rfl, g.sm.seqT np hS, at_of (by omega) (List.getElem?_eq_getElem hr2), q'⟩)
/-! ### _law_same -/
theorem sc_law_same : FnScope ["actual", "expected", "k"] ["actual", "expected"] (defScope s_law_same) := ⟨rfl, rfl, rfl, by decide +kernel, rfl, by decide +kernel, by decide +kernel⟩

theorem kit_tuple {K : PySem.W.Frag} {d : Dt} : PySem.W.kitOne K (.type d.name) (.type "tuple") = some (match d with | .tup _ => true | _ => false) := by
  cases d with
  | non => exact kit_ty (a := "NoneType") (b := "tuple") (r := false) (by decide +kernel)
  | bl b => exact kit_ty (a := "bool") (b := "tuple") (r := false) (by decide +kernel)
  | int i => exact kit_ty (a := "int") (b := "tuple") (r := false) (by decide +kernel)
  | str s => exact kit_ty (a := "str") (b := "tuple") (r := false) (by decide +kernel)
  | tup xs => exact kit_ty (a := "tuple") (b := "tuple") (r := true) (by decide +kernel)
theorem kit_bool {K : PySem.W.Frag} {d : Dt} : PySem.W.kitOne K (.type d.name) (.type "bool") = some (match d with | .bl _ => true | _ => false) := by
  cases d with
  | non => exact kit_ty (a := "NoneType") (b := "bool") (r := false) (by decide +kernel)
  | bl b => exact kit_ty (a := "bool") (b := "bool") (r := true) (by decide +kernel)
  | int i => exact kit_ty (a := "int") (b := "bool") (r := false) (by decide +kernel)
  | str s => exact kit_ty (a := "str") (b := "bool") (r := false) (by decide +kernel)
  | tup xs => exact kit_ty (a := "tuple") (b := "bool") (r := false) (by decide +kernel)
theorem kit_str {K : PySem.W.Frag} {d : Dt} : PySem.W.kitOne K (.type d.name) (.type "str") = some (match d with | .str _ => true | _ => false) := by
  cases d with
  | non => exact kit_ty (a := "NoneType") (b := "str") (r := false) (by decide +kernel)
  | bl b => exact kit_ty (a := "bool") (b := "str") (r := false) (by decide +kernel)
  | int i => exact kit_ty (a := "int") (b := "str") (r := false) (by decide +kernel)
  | str s => exact kit_ty (a := "str") (b := "str") (r := true) (by decide +kernel)
  | tup xs => exact kit_ty (a := "tuple") (b := "str") (r := false) (by decide +kernel)
theorem kit_int {K : PySem.W.Frag} {d : Dt} : PySem.W.kitOne K (.type d.name) (.type "int") = some (match d with | .int _ => true | .bl _ => true | _ => false) := by
  cases d with
  | non => exact kit_ty (a := "NoneType") (b := "int") (r := false) (by decide +kernel)
  | bl b => exact kit_ty (a := "bool") (b := "int") (r := true) (by decide +kernel)
  | int i => exact kit_ty (a := "int") (b := "int") (r := true) (by decide +kernel)
  | str s => exact kit_ty (a := "str") (b := "int") (r := false) (by decide +kernel)
  | tup xs => exact kit_ty (a := "tuple") (b := "int") (r := false) (by decide +kernel)


def spSame (n : Nat) (K : PySem.W.Frag) : Sp := fun vs H Q _ => ∃ (x y : V) (d : Dt), vs = [x, y] ∧ DT K H x d ∧ DT K H y d ∧ d.deep ≤ n ∧ d.fits = true ∧ ∀ H', Same H H' → Q (.bl true) H'
abbrev sp_law_same : PySem.W.Frag → Sp := spSame 40


theorem ok_law_same_n {n : Nat} {f : Addr} {fd : FuncData} (F : Fun K "_law_same" "_law_same" s_law_same f fd) (T : Top K mg) (C_law_same : Cal P w K mg base "_law_same" n ["actual", "expected"] (spSame n) f fd) : FnOk P w K mg base CX0 (n + 1) f fd ["actual", "expected"] (spSame (n + 1) K) := by
  have sc := sc_law_same
  refine F.ok sc (fun vs H Q E h => ?_) (fun cdv A outer s H vs Q E hr h => ?_)
  · obtain ⟨x, y, d, rfl, _⟩ := h
    rfl
  obtain ⟨x, y, d, rfl, hx, hy, hd, hf, q⟩ := h
  refine ⟨_, (pss_cons (ps_if (pt_cmpR op_isN (pv 1) pe_non (nomark _))
      (pss_one (ps_ret (pe_cmpR op_isN (pv 0) pe_non (nomark _))))
      pss_nil)
    (pss_cons (ps_if (pt_val (pe_callB (kc_isi (K := K) rfl) (by rfl) T.z_isinstance (by decide +kernel) (pa_cons (pv 1) (pa_cons (pe_bltn (v := .ty "tuple") (by rfl) T.z_tuple (by decide +kernel) rfl) pa_nil))))
      (pss_cons (ps_if (PW.pt (pw_or (pt_not (pt_val (pe_callB (kc_isi (K := K) rfl) (by rfl) T.z_isinstance (by decide +kernel) (pa_cons (pv 0) (pa_cons (pe_bltn (v := .ty "tuple") (by rfl) T.z_tuple (by decide +kernel) rfl) pa_nil))))) (pw_or1 (pt_cmpR op_ne (pe_callB (kc_len (K := K) rfl) (by rfl) T.z_len (by decide +kernel) (pa_cons (pv 0) pa_nil)) (pe_callB (kc_len (K := K) rfl) (by rfl) T.z_len (by decide +kernel) (pa_cons (pv 1) pa_nil)) (nomark _)))))
        (pss_one (ps_ret pe_bl))
        pss_nil)
      (pss_one (ps_ret (pe_cmpR (kop_eqD (K := K) rfl hr.units) (pe_lc (own := [("k", 2)]) (g := gName 2) rfl sc.nd (pi_range1 (by rfl) T.z_range (pa_cons (pe_callB (kc_len (K := K) rfl) (by rfl) T.z_len (by decide +kernel) (pa_cons (pv 1) pa_nil)) pa_nil)) (blkOk_by (N := ["actual", "expected", "k"]) (sc := defScope s_law_same) (by decide +kernel)) (fun _ _ _ _ _ => pg_name (i := 2) sc.nd rfl (Or.inl rfl)) (fun _ _ _ _ _ => pts_one (pt_not (pt_val (pe_call C_law_same.ok hr (by rfl) C_law_same.m C_law_same.kp C_law_same.b .nil pass0 (pa_cons (pe_ix (kx_seq (K := K) rfl) (pv 0) (pv 2) (fun _ _ => rfl)) (pa_cons (pe_ix (kx_seq (K := K) rfl) (pv 1) (pv 2) (fun _ _ => rfl)) pa_nil)))))) (fun _ _ _ _ _ => (pv 2))) (pe_lst pa_nil) (nomark _)))))
      pss_nil)
    (pss_cons (ps_if (PW.pt (pw_or (pt_val (pe_callB (kc_isi (K := K) rfl) (by rfl) T.z_isinstance (by decide +kernel) (pa_cons (pv 1) (pa_cons (pe_bltn (v := .ty "bool") (by rfl) T.z_bool (by decide +kernel) rfl) pa_nil)))) (pw_or1 (pt_val (pe_callB (kc_isi (K := K) rfl) (by rfl) T.z_isinstance (by decide +kernel) (pa_cons (pv 0) (pa_cons (pe_bltn (v := .ty "bool") (by rfl) T.z_bool (by decide +kernel) rfl) pa_nil)))))))
      (pss_one (ps_ret (pe_and (pe_callB (kc_isi (K := K) rfl) (by rfl) T.z_isinstance (by decide +kernel) (pa_cons (pv 1) (pa_cons (pe_bltn (v := .ty "bool") (by rfl) T.z_bool (by decide +kernel) rfl) pa_nil))) (pe_and (pe_callB (kc_isi (K := K) rfl) (by rfl) T.z_isinstance (by decide +kernel) (pa_cons (pv 0) (pa_cons (pe_bltn (v := .ty "bool") (by rfl) T.z_bool (by decide +kernel) rfl) pa_nil))) (pe_one (pe_cmpR op_eq (pv 0) (pv 1) (nomark _)))))))
      pss_nil)
    (pss_cons (ps_if (pt_val (pe_callB (kc_isi (K := K) rfl) (by rfl) T.z_isinstance (by decide +kernel) (pa_cons (pv 1) (pa_cons (pe_bltn (v := .ty "str") (by rfl) T.z_str (by decide +kernel) rfl) pa_nil))))
      (pss_one (ps_ret (pe_and (pe_callB (kc_isi (K := K) rfl) (by rfl) T.z_isinstance (by decide +kernel) (pa_cons (pv 0) (pa_cons (pe_bltn (v := .ty "str") (by rfl) T.z_str (by decide +kernel) rfl) pa_nil))) (pe_one (pe_cmpR op_eq (pv 0) (pv 1) (nomark _))))))
      pss_nil)
    (pss_one (ps_ret (pe_and (pe_callB (kc_isi (K := K) rfl) (by rfl) T.z_isinstance (by decide +kernel) (pa_cons (pv 0) (pa_cons (pe_bltn (v := .ty "int") (by rfl) T.z_int (by decide +kernel) rfl) pa_nil))) (pe_one (pe_cmpR op_eq (pv 0) (pv 1) (nomark _)))))))))), ?_⟩
  have tx := hx.ty
  have ty := hy.ty
  cases d with
  | non =>
    cases hx; cases hy
    exact ⟨_, rfl, rfl, _, rfl, iteT ⟨_, rfl, rfl, q H (Same.refl H)⟩⟩
  | bl b =>
    cases hx; cases hy
    refine ⟨_, rfl, rfl, _, rfl, iteF ⟨_, rfl, _, _, _, _, _, rfl, .ty _, ty, kit_tuple, _, rfl, iteF ⟨_, rfl, _, _, _, _, _, rfl, .ty _, ty, kit_bool, _, rfl, iteT (iteT ?_)⟩⟩⟩
    refine ⟨_, rfl, _, _, _, _, _, rfl, .ty _, ty, kit_bool, _, rfl, iteT ⟨_, rfl, _, _, _, _, _, rfl, .ty _, tx, kit_bool, _, rfl, iteT ⟨_, rfl, _, rfl, rfl, ?_⟩⟩⟩
    rw [decide_eq_true rfl]
    exact q H (Same.refl H)
  | int i =>
    cases hx; cases hy
    refine ⟨_, rfl, rfl, _, rfl, iteF ⟨_, rfl, _, _, _, _, _, rfl, .ty _, ty, kit_tuple, _, rfl, iteF ⟨_, rfl, _, _, _, _, _, rfl, .ty _, ty, kit_bool, _, rfl, iteF ⟨_, rfl, _, _, _, _, _, rfl, .ty _, tx, kit_bool, _, rfl, iteF ?_⟩⟩⟩⟩
    refine ⟨_, rfl, _, _, _, _, _, rfl, .ty _, ty, kit_str, _, rfl, iteF ⟨_, rfl, _, _, _, _, _, rfl, .ty _, tx, kit_int, _, rfl, iteT ⟨_, rfl, _, rfl, rfl, ?_⟩⟩⟩
    rw [decide_eq_true rfl]
    exact q H (Same.refl H)
  | str i =>
    cases hx; cases hy
    refine ⟨_, rfl, rfl, _, rfl, iteF ⟨_, rfl, _, _, _, _, _, rfl, .ty _, ty, kit_tuple, _, rfl, iteF ⟨_, rfl, _, _, _, _, _, rfl, .ty _, ty, kit_bool, _, rfl, iteF ⟨_, rfl, _, _, _, _, _, rfl, .ty _, tx, kit_bool, _, rfl, iteF ?_⟩⟩⟩⟩
    refine ⟨_, rfl, _, _, _, _, _, rfl, .ty _, ty, kit_str, _, rfl, iteT ⟨_, rfl, _, _, _, _, _, rfl, .ty _, tx, kit_str, _, rfl, iteT ⟨_, rfl, _, rfl, rfl, ?_⟩⟩⟩
    rw [decide_eq_true rfl]
    exact q H (Same.refl H)
  | tup ds =>
    have hx' := hx
    have hy' := hy
    cases hx with
    | @tup a xs _ ha ax =>
    cases hy with
    | @tup b ys _ hb by' =>
    have l1 := ax.length
    have l2 := by'.length
    have hfit : ds.length ≤ 1000000 ∧ Dt.fitss ds = true := by
      unfold Dt.fits at hf
      rw [Bool.and_eq_true] at hf
      exact ⟨of_decide_eq_true hf.1, hf.2⟩
    refine ⟨_, rfl, rfl, _, rfl, iteF ⟨_, rfl, _, _, _, _, _, rfl, .ty _, ty, kit_tuple, _, rfl, iteT ⟨_, rfl, _, _, _, _, _, rfl, .ty _, tx, kit_tuple, _, rfl, iteF ?_⟩⟩⟩
    refine ⟨_, rfl, _, _, rfl, .inr ⟨xs, ha, rfl⟩, _, rfl, _, _, rfl, .inr ⟨ys, hb, rfl⟩, rfl, _, rfl, ?_⟩
    rw [decide_eq_true (show V.int (xs.length : Int) = V.int (ys.length : Int) by rw [l1, l2])]
    refine iteF ?_
    refine ⟨_, rfl, _, _, rfl, .inr ⟨ys, hb, rfl⟩, _, rfl, by omega, by omega, fun D hD => ?_⟩
    refine lc_it (walk_range (lo := 0) (n := (ys.length : Int).toNat)) (fun i H' => Same H H' ∧ H' D = some (.lst [])) ⟨same_new hD _, upd_same⟩ (fun _ _ _ _ => trivial) ?_ ?_
    · rintro i x H1 H2 hi ⟨s1, e1⟩ ⟨rfl, rfl⟩
      have hi2 : i < ds.length := by omega
      obtain ⟨u, eu, du⟩ := ax.get (List.getElem?_eq_getElem hi2)
      obtain ⟨v, ev, dv⟩ := by'.get (List.getElem?_eq_getElem hi2)
      have hm : ds[i] ∈ ds := List.getElem_mem _
      refine ⟨rfl, _, rfl, _, rfl, .inr (.inl ⟨a, xs, _, u, rfl, rfl, s1.seqT ha, at_any (j := i) (by omega) eu, ?_⟩)⟩
      refine ⟨_, rfl, _, rfl, .inr (.inl ⟨b, ys, _, v, rfl, rfl, s1.seqT hb, at_any (j := i) (by omega) ev, ?_⟩)⟩
      refine ⟨u, v, ds[i], rfl, du.same s1, dv.same s1, ?_, Dt.fitss_mem hm hfit.2, fun H3 s3 => ⟨_, rfl, iteF ⟨s1.trans s3, s3 _ _ e1⟩⟩⟩
      have h1 := Dt.deeps_mem hm
      unfold Dt.deep at hd
      omega
    · rintro H1 ⟨s1, e1⟩
      refine ⟨by decide, fun p hp => ?_⟩
      refine ⟨.list [], .list [], .lst (SqL.of (by rw [upd_ne (ne_of_none e1 hp)]; exact e1)) .nil, .lst (SqL.of upd_same) .nil, by decide +kernel, by decide +kernel, ?_⟩
      exact q _ (s1.trans (same_new hp _))
theorem ok_law_same {f : Addr} {fd : FuncData} (F : Fun K "_law_same" "_law_same" s_law_same f fd) (T : Top K mg) (M : mg "_law_same" = some (.ref f)) : FnOk P w K mg base CX0 40 f fd ["actual", "expected"] (sp_law_same K) := by
  have b := F.binds (ps := ["actual", "expected"]) fun _ _ _ _ _ _ us hl => match us, hl with | [_, _], _ => rfl
  have h : ∀ n, FnOk P w K mg base CX0 n f fd ["actual", "expected"] (spSame n K) := fun n => by
    induction n with
    | zero =>
      refine none_left fun vs H Q E h => ?_
      obtain ⟨x, y, d, _, _, _, hd, _⟩ := h
      cases d <;> simp [Dt.deep] at hd
    | succ n ih => exact ok_law_same_n F T ⟨ih, b, F.kp, M⟩
  exact h 40

/-! ### _law_any_sign -/
theorem sc_law_any_sign : FnScope ["tape", "signs"] ["tape"] (defScope s_law_any_sign) := ⟨rfl, rfl, rfl, by decide +kernel, rfl, by decide +kernel, by decide +kernel⟩

def anyA : Str := Str.ofString " !\"#$&'()*+,-./0123456789:;<=>?@ABCDEFGHIJKLMNOPQRSTUVWXYZ[\\]^_`"
def anyB : Str := Str.ofString "abcdefghijklmnopqrstuvwxyz{|}~"
theorem any_ok : ∀ c ∈ (anyA ++ anyB).cps.toList, Sg c := by decide +kernel
theorem any_len : (anyA ++ anyB).length = 94 := by decide +kernel


def sp_law_any_sign (K : PySem.W.Frag) : Sp := fun vs H Q _ => ∃ (t : Addr), vs = [.ref t] ∧ Tape H t ∧ ∀ c H', Sg c → Go t H H' → Q (.str ⟨#[c]⟩) H'

theorem ok_law_any_sign {f : Addr} {fd : FuncData} (F : Fun K "_law_any_sign" "_law_any_sign" s_law_any_sign f fd) (T : Top K mg) {a_law_pick : Addr} {d_law_pick : FuncData} (C_law_pick : Cal P w K mg base "_law_pick" 2 ["tape", "row"] sp_law_pick a_law_pick d_law_pick) : FnOk P w K mg base CX0 3 f fd ["tape"] (sp_law_any_sign K) := by
  have sc := sc_law_any_sign
  refine F.ok sc (fun vs H Q E h => ?_) (fun cdv A outer s H vs Q E hr h => ?_)
  · obtain ⟨t, rfl, _⟩ := h
    rfl
  obtain ⟨t, rfl, hT, q⟩ := h
  refine ⟨_, (pss_cons (ps_set (i := 1) sc.nd rfl (Or.inl rfl) pe_str)
    (pss_one (ps_ret (pe_call C_law_pick.ok (hr.mono (by omega)) (by rfl) C_law_pick.m C_law_pick.kp C_law_pick.b .nil pass0 (pa_cons (pv 0) (pa_cons (pe_op op_add_str (pv 1) pe_str) pa_nil)))))), ?_⟩

  refine ⟨_, rfl, _, rfl, anyA, anyB, rfl, rfl, by decide +kernel, t, _, rfl, hT, .inl ⟨anyA ++ anyB, rfl, by rw [any_len]; decide, by rw [any_len]; decide, fun c H1 hc g => ?_⟩⟩
  exact q c H1 (any_ok c hc) g
/-! ### _law_text -/
theorem sc_law_text : FnScope ["tape", "many", "k"] ["tape", "many"] (defScope s_law_text) := ⟨rfl, rfl, rfl, by decide +kernel, rfl, by decide +kernel, by decide +kernel⟩

def sp_law_text (K : PySem.W.Frag) : Sp := fun vs H Q _ => ∃ (t : Addr) (m : Nat), vs = [.ref t, .int m] ∧ Tape H t ∧ m ≤ 100000 ∧ ∀ z H', SgT z → z.length = m → Go t H H' → Q (.str z) H'

theorem ok_law_text {f : Addr} {fd : FuncData} (F : Fun K "_law_text" "_law_text" s_law_text f fd) (T : Top K mg) {a_law_any_sign : Addr} {d_law_any_sign : FuncData} (C_law_any_sign : Cal P w K mg base "_law_any_sign" 3 ["tape"] sp_law_any_sign a_law_any_sign d_law_any_sign) : FnOk P w K mg base CX0 4 f fd ["tape", "many"] (sp_law_text K) := by
  have sc := sc_law_text
  refine F.ok sc (fun vs H Q E h => ?_) (fun cdv A outer s H vs Q E hr h => ?_)
  · obtain ⟨t, m, rfl, _⟩ := h
    rfl
  obtain ⟨t, m, rfl, hT, hm, q⟩ := h
  refine ⟨_, (pss_one (ps_ret (pe_join pe_str (pe_lc (own := [("k", 2)]) (g := gName 2) (tt := tYes) rfl sc.nd (pi_range1 (by rfl) T.z_range (pa_cons (pv 1) pa_nil)) (blkOk_by (N := ["tape", "many", "k"]) (sc := defScope s_law_text) (by decide +kernel)) (fun _ _ _ _ _ => pg_name (i := 2) sc.nd rfl (Or.inl rfl)) (fun _ _ _ _ _ => pts_nil) (fun _ _ _ _ _ => (pe_call C_law_any_sign.ok (hr.mono (by omega)) (by rfl) C_law_any_sign.m C_law_any_sign.kp C_law_any_sign.b .nil pass0 (pa_cons (pv 0) pa_nil))))))), ?_⟩

  refine ⟨⟨_, rfl⟩, _, rfl, m, rfl, by omega, by omega, fun D hD => ?_⟩
  refine lc_acc (walk_range (lo := 0) (n := (m : Int).toNat)) (fun i acc H' => Go t H H' ∧ ∃ cs : List Nat, acc = (cs.map fun c => (⟨#[c]⟩ : Str)).map V.str ∧ ∀ c ∈ cs, Sg c) ⟨(Go.refl hT).new hD, [], rfl, fun _ h => by cases h⟩ (fun _ _ _ _ _ _ => trivial) ?_ ?_
  · rintro i acc x H1 H2 hi e el ⟨g, cs, ea, hcs⟩ ⟨rfl, rfl⟩
    refine ⟨rfl, _, rfl, t, rfl, g.tp, fun c H3 hc g3 => ?_⟩
    have nD : D ≠ t := hT.ne hD
    refine acc_step (g3.sm _ _ nD e) el (by omega) ⟨Go.late hT (g.trans g3) hD, cs ++ [c], ?_, fun d hd => ?_⟩
    · rw [ea, List.map_append, List.map_append]; rfl
    · rcases List.mem_append.mp hd with h | h
      · exact hcs d h
      · rw [List.mem_singleton.mp h]; exact hc
  · rintro acc H1 e el ⟨g, cs, ea, hcs⟩
    have hl : cs.length = m := by
      rw [ea, List.length_map, List.length_map] at el
      omega
    refine ⟨_, D, cs.map fun c => (⟨#[c]⟩ : Str), rfl, rfl, .inl (SqL.of (by rw [e, ea])), ?_, ?_⟩
    · rw [sum_ones, List.length_map]
      show cs.length + cs.length * 0 ≤ _
      omega
    have ec := join_codes (cs.map fun c => (⟨#[c]⟩ : Str))
    rw [flat_ones] at ec
    refine q _ _ (fun c hc => hcs c (by rw [ec] at hc; exact hc)) ?_ g
    rw [← len_codes, ec]
    exact hl
/-! ### _law_tight_text -/
theorem sc_law_tight_text : FnScope ["tape", "many", "signs", "k"] ["tape", "many"] (defScope s_law_tight_text) := ⟨rfl, rfl, rfl, by decide +kernel, rfl, by decide +kernel, by decide +kernel⟩

def tightA : Str := Str.ofString "!#$&'()*+,-./0123456789:;<=>?@ABCDEFGHIJKLMNOPQRSTUVWXYZ[\\]^_`"
def tightB : Str := Str.ofString "abcdefghijklmnopqrstuvwxyz{|}~"
def Tg (c : Nat) : Prop := Sg c ∧ c ≠ 32 ∧ c ≠ 34
instance (c : Nat) : Decidable (Tg c) := by unfold Tg; exact inferInstance
theorem tight_ok : ∀ c ∈ (tightA ++ tightB).cps.toList, Tg c := by decide +kernel
theorem tight_len : (tightA ++ tightB).length = 92 := by decide +kernel
def TgT (z : Str) : Prop := ∀ c ∈ z.cps.toList, Tg c
theorem TgT.sg {z : Str} (h : TgT z) : SgT z := fun c hc => (h c hc).1


def sp_law_tight_text (K : PySem.W.Frag) : Sp := fun vs H Q _ => ∃ (t : Addr) (m : Nat), vs = [.ref t, .int m] ∧ Tape H t ∧ m ≤ 100000 ∧ ∀ z H', TgT z → z.length = m → Go t H H' → Q (.str z) H'

theorem ok_law_tight_text {f : Addr} {fd : FuncData} (F : Fun K "_law_tight_text" "_law_tight_text" s_law_tight_text f fd) (T : Top K mg) {a_law_pick : Addr} {d_law_pick : FuncData} (C_law_pick : Cal P w K mg base "_law_pick" 2 ["tape", "row"] sp_law_pick a_law_pick d_law_pick) : FnOk P w K mg base CX0 3 f fd ["tape", "many"] (sp_law_tight_text K) := by
  have sc := sc_law_tight_text
  refine F.ok sc (fun vs H Q E h => ?_) (fun cdv A outer s H vs Q E hr h => ?_)
  · obtain ⟨t, m, rfl, _⟩ := h
    rfl
  obtain ⟨t, m, rfl, hT, hm, q⟩ := h
  refine ⟨_, (pss_cons (ps_set (i := 2) sc.nd rfl (Or.inr rfl) pe_str)
    (pss_cons (ps_set (i := 2) sc.nd rfl (Or.inr rfl) (pe_op op_add_str (pv 2) pe_str))
    (pss_one (ps_ret (pe_join pe_str (pe_lc (own := [("k", 3)]) (g := gName 3) (tt := tYes) rfl sc.nd (pi_range1 (by rfl) T.z_range (pa_cons (pv 1) pa_nil)) (blkOk_by (N := ["tape", "many", "signs", "k"]) (sc := defScope s_law_tight_text) (by decide +kernel)) (fun _ _ _ _ _ => pg_name (i := 3) sc.nd rfl (Or.inl rfl)) (fun _ _ _ _ _ => pts_nil) (fun _ _ _ _ _ => (pe_call C_law_pick.ok (hr.mono (by omega)) (by rfl) C_law_pick.m C_law_pick.kp C_law_pick.b .nil pass0 (pa_cons (pv 0) (pa_cons (pv 2) pa_nil)))))))))), ?_⟩

  refine ⟨_, rfl, _, _, rfl, rfl, by decide +kernel, ⟨_, rfl⟩, _, rfl, m, rfl, by omega, by omega, fun D hD => ?_⟩
  refine lc_acc (walk_range (lo := 0) (n := (m : Int).toNat)) (fun i acc H' => Go t H H' ∧ ∃ cs : List Nat, acc = (cs.map fun c => (⟨#[c]⟩ : Str)).map V.str ∧ ∀ c ∈ cs, Tg c) ⟨(Go.refl hT).new hD, [], rfl, fun _ h => by cases h⟩ (fun _ _ _ _ _ _ => trivial) ?_ ?_
  · rintro i acc x H1 H2 hi e el ⟨g, cs, ea, hcs⟩ ⟨rfl, rfl⟩
    refine ⟨rfl, _, rfl, _, rfl, t, _, rfl, g.tp, .inl ⟨tightA ++ tightB, rfl, by rw [tight_len]; decide, by rw [tight_len]; decide, fun c H3 hc g3 => ?_⟩⟩
    refine acc_step (g3.sm _ _ (hT.ne hD) e) el (by omega) ⟨Go.late hT (g.trans g3) hD, cs ++ [c], ?_, fun d hd => ?_⟩
    · rw [ea, List.map_append, List.map_append]; rfl
    · rcases List.mem_append.mp hd with h | h
      · exact hcs d h
      · rw [List.mem_singleton.mp h]; exact tight_ok c hc
  · rintro acc H1 e el ⟨g, cs, ea, hcs⟩
    have hl : cs.length = m := by
      rw [ea, List.length_map, List.length_map] at el
      omega
    refine ⟨_, D, cs.map fun c => (⟨#[c]⟩ : Str), rfl, rfl, .inl (SqL.of (by rw [e, ea])), ?_, ?_⟩
    · rw [sum_ones, List.length_map]
      show cs.length + cs.length * 0 ≤ _
      omega
    have ec := join_codes (cs.map fun c => (⟨#[c]⟩ : Str))
    rw [flat_ones] at ec
    refine q _ _ (fun c hc => hcs c (by rw [ec] at hc; exact hc)) ?_ g
    rw [← len_codes, ec]
    exact hl
/-! ### _law_spaced -/
theorem sc_law_spaced : FnScope ["tape", "tokens", "text", "k"] ["tape", "tokens"] (defScope s_law_spaced) := ⟨rfl, rfl, rfl, by decide +kernel, rfl, by decide +kernel, by decide +kernel⟩

def sp_law_spaced (K : PySem.W.Frag) : Sp := fun vs H Q _ => ∃ (t p : Addr) (ws : List Str), vs = [.ref t, .ref p] ∧ Tape H t ∧ p ≠ t ∧ SqL K H p (ws.map V.str) ∧ ws.length ≤ 20 ∧ (∀ w ∈ ws, w.length ≤ 10) ∧ ∀ z H', z.length ≤ 100000 → Go t H H' → Q (.str z) H'

theorem ok_law_spaced {f : Addr} {fd : FuncData} (F : Fun K "_law_spaced" "_law_spaced" s_law_spaced f fd) (T : Top K mg) {a_law_pick : Addr} {d_law_pick : FuncData} (C_law_pick : Cal P w K mg base "_law_pick" 2 ["tape", "row"] sp_law_pick a_law_pick d_law_pick) : FnOk P w K mg base CX0 3 f fd ["tape", "tokens"] (sp_law_spaced K) := by
  have sc := sc_law_spaced
  refine F.ok sc (fun vs H Q E h => ?_) (fun cdv A outer s H vs Q E hr h => ?_)
  · obtain ⟨t, p, ws, rfl, _⟩ := h
    rfl
  obtain ⟨t, p, ws, rfl, hT, np, hS, hw, hwl, q⟩ := h
  refine ⟨_, (pss_cons (ps_set (i := 2) sc.nd rfl (Or.inl rfl) (pe_op op_mulS pe_str (pe_call C_law_pick.ok (hr.mono (by omega)) (by rfl) C_law_pick.m C_law_pick.kp C_law_pick.b .nil pass0 (pa_cons (pv 0) (pa_cons (pe_lst (pa_cons pe_int (pa_cons pe_int (pa_cons pe_int (pa_cons pe_int (pa_cons pe_int pa_nil)))))) pa_nil)))))
    (pss_cons (ps_for PassesOwn.never rfl (pi_range1 (by rfl) T.z_range (pa_cons (pe_callB (kc_lenS (K := K) rfl) (by rfl) T.z_len (by decide +kernel) (pa_cons (pv 1) pa_nil)) pa_nil)) (pg_name (i := 3) sc.nd rfl (Or.inl rfl))
      (pss_one (ps_set (i := 2) sc.nd rfl (Or.inl rfl) (pe_op op_add_str (pe_op op_add_str (pv 2) (pe_op op_mulS pe_str (pe_op op_mul (pe_callB (call_min2 rfl) (by rfl) T.z_min (by decide +kernel) (pa_cons (pv 3) (pa_cons pe_int pa_nil))) (pe_call C_law_pick.ok (hr.mono (by omega)) (by rfl) C_law_pick.m C_law_pick.kp C_law_pick.b .nil pass0 (pa_cons (pv 0) (pa_cons (pe_lst (pa_cons pe_int (pa_cons pe_int (pa_cons pe_int (pa_cons pe_int (pa_cons pe_int pa_nil)))))) pa_nil)))))) (pe_ix (kx_list (K := K) rfl) (pv 1) (pv 3) (fun _ _ => rfl))))))
    (pss_cons (ps_set (i := 2) sc.nd rfl (Or.inl rfl) (pe_op op_add_str (pv 2) (pe_op op_mulS pe_str (pe_call C_law_pick.ok (hr.mono (by omega)) (by rfl) C_law_pick.m C_law_pick.kp C_law_pick.b .nil pass0 (pa_cons (pv 0) (pa_cons (pe_lst (pa_cons pe_int (pa_cons pe_int (pa_cons pe_int (pa_cons pe_int (pa_cons pe_int pa_nil)))))) pa_nil))))))
    (pss_cons (ps_if (pt_cmpR op_gt (pe_callB call_len_str (by rfl) T.z_len (by decide +kernel) (pa_cons (pv 2) pa_nil)) pe_int (nomark _))
      (pss_one (ps_ret (pe_join pe_str (pv 1))))
      pss_nil)
    (pss_one (ps_ret (pv 2))))))), ?_⟩

  have hwl2 : (ws.map V.str).length = ws.length := List.length_map _
  refine ⟨_, rfl, (by show 5 ≤ sizeLine; decide), fun p1 hp1 => ?_⟩
  refine ⟨t, _, rfl, hT.new hp1, .inr ⟨p1, _, rfl, hT.ne hp1, .inl (SqL.of upd_same), (by show 1 ≤ 5; decide), (by show 5 ≤ 1000000; decide), fun v H2 hv g2 => ?_⟩⟩
  obtain ⟨n, hn, rfl⟩ := pickN [0, 0, 0, 1, 3] hv (b := 3) rfl
  have g2 := ((Go.refl hT).new hp1).trans g2
  refine ⟨_, _, rfl, rfl, by omega, by omega, le_line (by show 1 * n ≤ _; omega), ?_⟩
  refine ⟨_, rfl, p, _, rfl, .inl (g2.sm.seqL np hS), _, rfl, by omega, by omega, ?_⟩
  refine for_it (walk_range (lo := 0) (n := ((ws.map V.str).length : Int).toNat)) (fun i σ H' => Go t H H' ∧ ∃ (z : Str) (v3 : Option V), z.length ≤ 3 + 20 * i ∧ σ = [some (.ref t), some (.ref p), some (.str z), v3]) ⟨g2, _, _, by rw [mul_len]; show n * 1 ≤ _; omega, rfl⟩ (fun _ _ _ _ _ => trivial) ?_ ?_
  · rintro i x σ H3 H4 hi ⟨g3, z, v3, hz, rfl⟩ ⟨rfl, rfl⟩
    have hi2 : i < ws.length := by omega
    have hx : (ws.map V.str)[i]? = some (.str ws[i]) := by rw [List.getElem?_map, List.getElem?_eq_getElem hi2]; rfl
    have hk := hwl ws[i] (List.getElem_mem _)
    refine ⟨_, rfl, _, rfl, _, _, rfl, _, rfl, (by show 5 ≤ sizeLine; decide), fun p2 hp2 => ?_⟩
    refine ⟨t, _, rfl, g3.tp.new hp2, .inr ⟨p2, _, rfl, g3.tp.ne hp2, .inl (SqL.of upd_same), (by show 1 ≤ 5; decide), (by show 5 ≤ 1000000; decide), fun v H5 hv g5 => ?_⟩⟩
    obtain ⟨m, hm, rfl⟩ := pickN [1, 1, 1, 2, 3] hv (b := 3) rfl
    have g5 := (g3.new hp2).trans g5
    refine ⟨_, _, rfl, rfl, .inr ⟨by omega, by omega⟩, ?_⟩
    have hmul : ∃ k : Nat, (if (1 : Int) < 0 + i then 1 else 0 + (i : Int)) * m = k ∧ k ≤ 3 := by
      by_cases c : 1 < i
      · exact ⟨m, by rw [if_pos (by omega)]; omega, hm⟩
      · rw [if_neg (by omega)]
        have : i = 0 ∨ i = 1 := by omega
        rcases this with rfl | rfl
        · exact ⟨0, by omega, by omega⟩
        · exact ⟨m, by omega, hm⟩
    obtain ⟨k, ek, hk3⟩ := hmul
    have kl : (Txt.mul (Str.ofString " ") (k : Int)).length ≤ 3 := by rw [mul_len]; show k * 1 ≤ 3; omega
    refine ⟨_, k, rfl, congrArg V.int ek, by omega, by omega, le_line (by show 1 * k ≤ _; omega), _, _, rfl, rfl, le_line (by omega), ?_⟩
    refine ⟨_, rfl, _, rfl, p, _, _, _, rfl, rfl, g5.sm.seqL np hS, at_any (j := i) (by omega) hx, _, _, rfl, rfl, le_line (by rw [app_len]; omega), ?_⟩
    exact ⟨g5, _, _, by rw [app_len, app_len]; omega, rfl⟩
  · rintro σ H3 ⟨g3, z, v3, hz, rfl⟩
    refine ⟨_, rfl, _, rfl, (by show 5 ≤ sizeLine; decide), fun p2 hp2 => ?_⟩
    refine ⟨t, _, rfl, g3.tp.new hp2, .inr ⟨p2, _, rfl, g3.tp.ne hp2, .inl (SqL.of upd_same), (by show 1 ≤ 5; decide), (by show 5 ≤ 1000000; decide), fun v H5 hv g5 => ?_⟩⟩
    obtain ⟨m, hm, rfl⟩ := pickN [0, 0, 0, 1, 3] hv (b := 3) rfl
    have g5 := (g3.new hp2).trans g5
    have kl : (Txt.mul (Str.ofString " ") (m : Int)).length ≤ 3 := by rw [mul_len]; show m * 1 ≤ 3; omega
    refine ⟨_, m, rfl, rfl, by omega, by omega, le_line (by show 1 * m ≤ _; omega), _, _, rfl, rfl, le_line (by omega), ?_⟩
    have hz2 : (z ++ Txt.mul (Str.ofString " ") (m : Int)).length ≤ 500 := by rw [app_len]; omega
    refine ⟨_, rfl, _, rfl, le_line (by omega), _, _, rfl, rfl, _, rfl, ite2 (fun c => ?_) (fun c => ?_)⟩
    · have hs := sum_lens hwl
      have hj := join_len_le (Str.ofString " ") ws
      have e1 : (Str.ofString " ").length = 1 := by decide +kernel
      rw [e1] at hj
      refine ⟨⟨_, rfl⟩, _, rfl, _, p, ws, rfl, rfl, .inl (g5.sm.seqL np hS), by rw [e1]; omega, ?_⟩
      exact q _ _ (by omega) g5
    · exact ⟨_, rfl, q _ _ (by omega) g5⟩
/-! ### _law_word -/
theorem sc_law_word : FnScope ["tape", "words"] ["tape"] (defScope s_law_word) := ⟨rfl, rfl, rfl, by decide +kernel, rfl, by decide +kernel, by decide +kernel⟩

def wordsW : List Str := [Str.ofString "(", Str.ofString ")", Str.ofString "(x", Str.ofString "1)", Str.ofString "=", Str.ofString "==", Str.ofString "#", Str.ofString "#a", Str.ofString "hook", Str.ofString "\"a", Str.ofString "b\"", Str.ofString "@", Str.ofString "@.", Str.ofString "a.b", Str.ofString "<>", Str.ofString "-"]


def sp_law_word (K : PySem.W.Frag) : Sp := fun vs H Q _ => ∃ (t : Addr), vs = [.ref t] ∧ Tape H t ∧ ∀ z H', z.length ≤ 10 → Go t H H' → Q (.str z) H'

theorem ok_law_word {f : Addr} {fd : FuncData} (F : Fun K "_law_word" "_law_word" s_law_word f fd) (T : Top K mg) {a_law_draw : Addr} {d_law_draw : FuncData} (C_law_draw : Cal P w K mg base "_law_draw" 1 ["tape", "many"] sp_law_draw a_law_draw d_law_draw) {a_law_pick : Addr} {d_law_pick : FuncData} (C_law_pick : Cal P w K mg base "_law_pick" 2 ["tape", "row"] sp_law_pick a_law_pick d_law_pick) {a_law_tight_text : Addr} {d_law_tight_text : FuncData} (C_law_tight_text : Cal P w K mg base "_law_tight_text" 3 ["tape", "many"] sp_law_tight_text a_law_tight_text d_law_tight_text) : FnOk P w K mg base CX0 4 f fd ["tape"] (sp_law_word K) := by
  have sc := sc_law_word
  refine F.ok sc (fun vs H Q E h => ?_) (fun cdv A outer s H vs Q E hr h => ?_)
  · obtain ⟨t, rfl, _⟩ := h
    rfl
  obtain ⟨t, rfl, hT, q⟩ := h
  refine ⟨_, (pss_cons (ps_set (i := 1) sc.nd rfl (Or.inl rfl) (pe_lst (pa_cons pe_str (pa_cons pe_str (pa_cons pe_str (pa_cons pe_str (pa_cons pe_str (pa_cons pe_str (pa_cons pe_str (pa_cons pe_str (pa_cons pe_str (pa_cons pe_str (pa_cons pe_str (pa_cons pe_str (pa_cons pe_str (pa_cons pe_str (pa_cons pe_str (pa_cons pe_str pa_nil))))))))))))))))))
    (pss_cons (ps_if (pt_cmpR op_eq (pe_call C_law_draw.ok (hr.mono (by omega)) (by rfl) C_law_draw.m C_law_draw.kp C_law_draw.b .nil pass0 (pa_cons (pv 0) (pa_cons pe_int pa_nil))) pe_int (nomark _))
      (pss_one (ps_ret (pe_call C_law_pick.ok (hr.mono (by omega)) (by rfl) C_law_pick.m C_law_pick.kp C_law_pick.b .nil pass0 (pa_cons (pv 0) (pa_cons (pv 1) pa_nil)))))
      pss_nil)
    (pss_one (ps_ret (pe_call C_law_tight_text.ok (hr.mono (by omega)) (by rfl) C_law_tight_text.m C_law_tight_text.kp C_law_tight_text.b .nil pass0 (pa_cons (pv 0) (pa_cons (pe_op op_add pe_int (pe_call C_law_draw.ok (hr.mono (by omega)) (by rfl) C_law_draw.m C_law_draw.kp C_law_draw.b .nil pass0 (pa_cons (pv 0) (pa_cons pe_int pa_nil)))) pa_nil))))))), ?_⟩

  refine ⟨(by show 16 ≤ sizeLine; decide), fun p hp => ?_⟩
  have g0 := (Go.refl hT).new (o := .lst (wordsW.map V.str)) hp
  have np : p ≠ t := hT.ne hp
  refine ⟨_, rfl, t, 2, rfl, g0.tp, by decide, by decide, fun r H1 _ _ g1 => ⟨rfl, _, rfl, ite2 (fun _ => ?_) (fun _ => ?_)⟩⟩
  · refine ⟨_, rfl, _, rfl, t, _, rfl, g1.tp, .inr ⟨p, _, rfl, np, .inl (g1.sm.seqL np (SqL.of upd_same)), (by show 1 ≤ 16; decide), (by show 16 ≤ 1000000; decide), fun v H2 hv g2 => ?_⟩⟩
    obtain ⟨z, hz, rfl⟩ := pickS wordsW hv
    refine q z H2 ?_ (g0.trans (g1.trans g2))
    have all : ∀ z ∈ wordsW, z.length ≤ 10 := by decide +kernel
    exact all z hz
  · refine ⟨_, rfl, _, rfl, t, 6, rfl, g1.tp, by decide, by decide, fun r2 H2 r0 r1 g2 => ?_⟩
    refine ⟨_, _, rfl, rfl, t, (1 + r2).toNat, ?_, g2.tp, by omega, fun z H3 hz lz g3 => ?_⟩
    · show [V.ref t, V.int (1 + r2)] = [V.ref t, V.int ((1 + r2).toNat : Int)]
      rw [Int.toNat_of_nonneg (by omega)]
    · exact q z H3 (by omega) (g0.trans (g1.trans (g2.trans g3)))
/-! ### law -/
theorem sc_law : FnScope ["script", "tape", "texts", "k", "text", "words", "due", "j", "part"] ["script"] (defScope s_law) := ⟨rfl, rfl, rfl, by decide +kernel, rfl, by decide +kernel, by decide +kernel⟩

def sp_law (K : PySem.W.Frag) : Sp := fun vs H Q _ => ∃ (a : Addr) (ns : List Int), vs = [.ref a] ∧ SqL K H a (ns.map V.int) ∧ ns.length ≤ 63 ∧ ∀ H', Q (.bl true) H'

theorem ok_law {f : Addr} {fd : FuncData} (F : Fun K "law" "law" s_law f fd) (T : Top K mg) {a_tokens_of : Addr} {d_tokens_of : FuncData} (C_tokens_of : Cal P w K mg base "tokens_of" 1 ["text"] sp_tokens_of a_tokens_of d_tokens_of) {a_law_tape : Addr} {d_law_tape : FuncData} (C_law_tape : Cal P w K mg base "_law_tape" 1 ["script"] sp_law_tape a_law_tape d_law_tape) {a_law_draw : Addr} {d_law_draw : FuncData} (C_law_draw : Cal P w K mg base "_law_draw" 1 ["tape", "many"] sp_law_draw a_law_draw d_law_draw) {a_law_pick : Addr} {d_law_pick : FuncData} (C_law_pick : Cal P w K mg base "_law_pick" 2 ["tape", "row"] sp_law_pick a_law_pick d_law_pick) {a_law_same : Addr} {d_law_same : FuncData} (C_law_same : Cal P w K mg base "_law_same" 40 ["actual", "expected"] sp_law_same a_law_same d_law_same) {a_law_text : Addr} {d_law_text : FuncData} (C_law_text : Cal P w K mg base "_law_text" 4 ["tape", "many"] sp_law_text a_law_text d_law_text) {a_law_spaced : Addr} {d_law_spaced : FuncData} (C_law_spaced : Cal P w K mg base "_law_spaced" 3 ["tape", "tokens"] sp_law_spaced a_law_spaced d_law_spaced) {a_law_word : Addr} {d_law_word : FuncData} (C_law_word : Cal P w K mg base "_law_word" 4 ["tape"] sp_law_word a_law_word d_law_word) : FnOk P w K mg base CX0 41 f fd ["script"] (sp_law K) := by
  have sc := sc_law
  refine F.ok sc (fun vs H Q E h => ?_) (fun cdv A outer s H vs Q E hr h => ?_)
  · obtain ⟨a, ns, rfl, _⟩ := h
    rfl
  obtain ⟨a, ns, rfl, hS, hn, q⟩ := h
  refine ⟨_, (pss_cons (ps_set (i := 1) sc.nd rfl (Or.inr rfl) (pe_call C_law_tape.ok (hr.mono (by omega)) (by rfl) C_law_tape.m C_law_tape.kp C_law_tape.b .nil pass0 (pa_cons (pv 0) pa_nil)))
    (pss_cons (ps_set (i := 2) sc.nd rfl (Or.inl rfl) (pe_lst (pa_cons pe_str (pa_cons (pe_op op_mulS pe_str (pe_call C_law_draw.ok (hr.mono (by omega)) (by rfl) C_law_draw.m C_law_draw.kp C_law_draw.b .nil pass0 (pa_cons (pv 1) (pa_cons pe_int pa_nil)))) pa_nil))))
    (pss_cons (ps_for PassesOwn.never rfl (pi_range1 (by rfl) T.z_range (pa_cons pe_int pa_nil)) (pg_name (i := 3) sc.nd rfl (Or.inl rfl))
      (pss_cons (ps_setLc (i := 5) (own := [("j", 7)]) (g := gName 7) (tt := tYes) rfl sc.nd rfl rfl (sw_true rfl rfl rfl (by decide +kernel)) (pi_range1 (by rfl) T.z_range (pa_cons (pe_call C_law_pick.ok (hr.mono (by omega)) (by rfl) C_law_pick.m C_law_pick.kp C_law_pick.b .nil pass0 (pa_cons (pv 1) (pa_cons (pe_lst (pa_cons pe_int (pa_cons pe_int (pa_cons pe_int (pa_cons pe_int (pa_cons pe_int pa_nil)))))) pa_nil))) pa_nil)) (blkOk_by (N := ["script", "tape", "texts", "k", "text", "words", "due", "j", "part"]) (sc := defScope s_law) (by decide +kernel)) (fun _ _ _ _ _ => pg_name (i := 7) sc.nd rfl (Or.inl rfl)) (fun _ _ _ _ _ => pts_nil) (fun _ _ _ _ _ => (pe_call C_law_word.ok (hr.mono (by omega)) (by rfl) C_law_word.m C_law_word.kp C_law_word.b .nil pass0 (pa_cons (pv 1) pa_nil))))
      (pss_one (ps_expr (pe_bm PySem.F.plainAttrs_list PySem.F.slot_list_append PySem.F.type_list_append mt_append (pv 2) (pa_cons (pe_slice sl_str (pe_call C_law_spaced.ok (hr.mono (by omega)) (by rfl) C_law_spaced.m C_law_spaced.kp C_law_spaced.b .nil pass0 (pa_cons (pv 1) (pa_cons (pv 5) pa_nil))) po_none (po_some pe_int)) pa_nil))))))
    (pss_cons (ps_expr (pe_bm PySem.F.plainAttrs_list PySem.F.slot_list_append PySem.F.type_list_append mt_append (pv 2) (pa_cons (pe_call C_law_text.ok (hr.mono (by omega)) (by rfl) C_law_text.m C_law_text.kp C_law_text.b .nil pass0 (pa_cons (pv 1) (pa_cons (pe_call C_law_pick.ok (hr.mono (by omega)) (by rfl) C_law_pick.m C_law_pick.kp C_law_pick.b .nil pass0 (pa_cons (pv 1) (pa_cons (pe_lst (pa_cons pe_int (pa_cons pe_int (pa_cons pe_int (pa_cons pe_int (pa_cons pe_int pa_nil)))))) pa_nil))) pa_nil))) pa_nil)))
    (pss_cons (ps_for PassesOwn.never rfl (kpi_list (K := K) rfl (pe_op op_cat (pv 2) (pe_slice (ksl_list (K := K) rfl) (pv 2) (po_some pe_int) (po_some pe_int)))) (pg_name (i := 4) sc.nd rfl (Or.inl rfl))
      (pss_cons (ps_set (i := 6) sc.nd rfl (Or.inl rfl) (pe_callTy (kc_tuple (K := K) rfl) (by rfl) T.z_tuple (by decide +kernel) (pa_cons (pe_lc (own := [("part", 8)]) (g := gName 8) rfl sc.nd (kpi_list (K := K) rfl (pe_split (pv 4) pe_str)) (blkOk_by (N := ["script", "tape", "texts", "k", "text", "words", "due", "j", "part"]) (sc := defScope s_law) (by decide +kernel)) (fun _ _ _ _ _ => pg_name (i := 8) sc.nd rfl (Or.inl rfl)) (fun _ _ _ _ _ => pts_one (pt_cmpR op_ne (pv 8) pe_str (nomark _))) (fun _ _ _ _ _ => (pv 8))) pa_nil)))
      (pss_one (ps_if (PW.pt (pw_or (pt_not (pt_val (pe_call C_law_same.ok (hr.mono (by omega)) (by rfl) C_law_same.m C_law_same.kp C_law_same.b .nil pass0 (pa_cons (pe_call C_tokens_of.ok (hr.mono (by omega)) (by rfl) C_tokens_of.m C_tokens_of.kp C_tokens_of.b .nil pass0 (pa_cons (pv 4) pa_nil)) (pa_cons (pv 6) pa_nil))))) (pw_or1 (pt_not (pt_val (pe_call C_law_same.ok (hr.mono (by omega)) (by rfl) C_law_same.m C_law_same.kp C_law_same.b .nil pass0 (pa_cons (pe_call C_tokens_of.ok (hr.mono (by omega)) (by rfl) C_tokens_of.m C_tokens_of.kp C_tokens_of.b .nil pass0 (pa_cons (pe_join pe_str (pe_callTy (kc_list (K := K) rfl) (by rfl) T.z_list (by decide +kernel) (pa_cons (pv 6) pa_nil))) pa_nil)) (pa_cons (pv 6) pa_nil))))))))
        (pss_one (ps_ret pe_bl))
        pss_nil))))
    (pss_one (ps_ret pe_bl))))))), ?_⟩

  refine ⟨_, rfl, a, ns, rfl, hS, hn, fun t H1 hT ht s1 => ?_⟩
  refine ⟨_, rfl, t, 121, rfl, hT, by decide, by decide, fun r H2 r0 r1 g2 => ?_⟩
  refine ⟨_, r, rfl, rfl, by omega, by omega, le_line (by show 1 * r.toNat ≤ _; omega), (by show 2 ≤ sizeLine; decide), fun W hW => ?_⟩
  have g2 := (Go.refl hT).trans g2
  have lr : (Txt.mul (Str.ofString " ") r).length ≤ 121 := by rw [mul_len]; show r.toNat * 1 ≤ _; omega
  have nW : W ≠ t := g2.tp.ne hW
  refine ⟨3, rfl, by decide, by decide, ?_⟩
  refine for_it (walk_range (lo := 0) (n := (3 : Int).toNat)) (fun i σ H' => Go t H2 H' ∧ ∃ (ws : List Str), H' W = some (.lst (ws.map V.str)) ∧ ws.length = 2 + i ∧ (∀ z ∈ ws, z.length ≤ 1000) ∧ ∃ v3 v4 v5 v6 v7 v8, σ = [some (.ref a), some (.ref t), some (.ref W), v3, v4, v5, v6, v7, v8]) ⟨(Go.refl g2.tp).new hW, [Str.ofString "", Txt.mul (Str.ofString " ") r], upd_same, rfl, (fun z hz => ?_), _, _, _, _, _, _, rfl⟩ (fun _ _ _ _ _ => trivial) ?_ ?_
  · rcases List.mem_cons.mp hz with rfl | hz
    · exact Nat.zero_le _
    · rw [List.mem_singleton.mp hz]; omega
  · rintro i x σ H3 H4 hi ⟨g3, ws, eW, lw, hws, v3, v4, v5, v6, v7, v8, rfl⟩ ⟨rfl, rfl⟩
    refine ⟨_, rfl, (by show 5 ≤ sizeLine; decide), fun p1 hp1 => ?_⟩
    refine ⟨t, _, rfl, g3.tp.new hp1, .inr ⟨p1, _, rfl, g3.tp.ne hp1, .inl (SqL.of upd_same), (by show 1 ≤ 5; decide), (by show 5 ≤ 1000000; decide), fun v H5 hv g5 => ?_⟩⟩
    obtain ⟨m, hm, rfl⟩ := pickN [0, 1, 2, 5, 12] hv (b := 12) rfl
    have g5 := ((Go.refl g3.tp).new hp1).trans g5
    refine ⟨m, rfl, by omega, by omega, fun D hD => ?_⟩
    have nD : D ≠ t := g5.tp.ne hD
    refine lc_acc (walk_range (lo := 0) (n := (m : Int).toNat)) (fun i acc H' => Go t H5 H' ∧ ∃ us : List Str, acc = us.map V.str ∧ ∀ z ∈ us, z.length ≤ 10) ⟨(Go.refl g5.tp).new hD, [], rfl, fun _ h => by cases h⟩ (fun _ _ _ _ _ _ => trivial) ?_ ?_
    · rintro j acc x H6 H7 hj e el ⟨g6, us, ea, hu⟩ ⟨rfl, rfl⟩
      refine ⟨rfl, _, rfl, t, rfl, g6.tp, fun z H8 hz g8 => ?_⟩
      refine acc_step (g8.sm _ _ nD e) el (by omega) ⟨Go.late g5.tp (g6.trans g8) hD, us ++ [z], ?_, fun d hd => ?_⟩
      · rw [ea, List.map_append]; rfl
      · rcases List.mem_append.mp hd with h | h
        · exact hu d h
        · rw [List.mem_singleton.mp h]; exact hz
    rintro acc H6 eD el ⟨g6, us, ea, hu⟩
    have lu : us.length ≤ 12 := by
      rw [ea, List.length_map] at el
      omega
    have eW6 := (g5.trans g6).sm _ _ nW eW
    refine ⟨_, rfl, .inl ⟨rfl, _, SqL.of eW6⟩, _, rfl, _, rfl, t, D, us, rfl, g6.tp, nD, SqL.of (by rw [eD, ea]), by omega, hu, fun z H7 hz g7 => ?_⟩
    have eW7 := g7.sm _ _ nW eW6
    have l120 := cut_pre_len z (a := 120) (by decide)
    refine ⟨_, rfl, z, rfl, le_line (by omega), W, _, _, rfl, rfl, eW7, lt_line (by rw [List.length_map]; have : (3 : Int).toNat = 3 := rfl; omega), ?_⟩
    refine ⟨Go.late g2.tp (g3.trans (g5.trans (g6.trans g7))) hW, ws ++ [cutS z none (some 120)], by rw [upd_same, List.map_append]; rfl, by rw [List.length_append, lw]; rfl, fun y hy => ?_, _, _, _, _, _, _, rfl⟩
    rcases List.mem_append.mp hy with h | h
    · exact hws y h
    · rw [List.mem_singleton.mp h, l120]
      have : (120 : Int).toNat = 120 := rfl
      omega
  · rintro σ H3 ⟨g3, ws, eW, lw, hws, v3, v4, v5, v6, v7, v8, rfl⟩
    refine ⟨_, rfl, .inl ⟨rfl, _, SqL.of eW⟩, _, rfl, _, rfl, (by show 5 ≤ sizeLine; decide), fun p1 hp1 => ?_⟩
    refine ⟨t, _, rfl, g3.tp.new hp1, .inr ⟨p1, _, rfl, g3.tp.ne hp1, .inl (SqL.of upd_same), (by show 1 ≤ 5; decide), (by show 5 ≤ 1000000; decide), fun v H5 hv g5 => ?_⟩⟩
    obtain ⟨m, hm, rfl⟩ := pickN [0, 1, 2, 20, 120] hv (b := 120) rfl
    have g5 := ((Go.refl g3.tp).new hp1).trans g5
    refine ⟨t, m, rfl, g5.tp, by omega, fun z0 H6 _ lz0 g6 => ?_⟩
    have eW6 := (g5.trans g6).sm _ _ nW eW
    refine ⟨W, _, _, rfl, rfl, eW6, lt_line (by rw [List.length_map]; have : (3 : Int).toNat = 3 := rfl; omega), ?_⟩
    have hws2 : ∀ z ∈ ws ++ [z0], z.length ≤ 1000 := fun z hz => by
      rcases List.mem_append.mp hz with h | h
      · exact hws z h
      · rw [List.mem_singleton.mp h]; omega
    have e7 : upd H6 W (.lst (ws.map V.str ++ [V.str z0])) W = some (.lst ((ws ++ [z0]).map V.str)) := by rw [upd_same, List.map_append]; rfl
    generalize upd H6 W (.lst (ws.map V.str ++ [V.str z0])) = H7 at e7
    have lts : (ws ++ [z0]).length ≤ 1000 := by
      rw [List.length_append, lw]
      show 2 + 3 + 1 ≤ 1000
      decide
    generalize ws ++ [z0] = ts at e7 hws2 lts
    refine ⟨_, rfl, _, rfl, _, rfl, _, rfl, W, _, rfl, SqL.of e7, fun p2 hp2 => ?_⟩
    have hcut : ∀ v ∈ cutV (ts.map V.str) (some 2) (some 3), v ∈ ts.map V.str := fun v hv => List.mem_of_mem_drop (List.mem_of_mem_take hv)
    have lcut : (cutV (ts.map V.str) (some 2) (some 3)).length ≤ 1000 := by
      unfold cutV
      rw [List.length_take, List.length_drop, List.length_map]
      omega
    refine ⟨W, p2, _, _, rfl, rfl, (same_new hp2 _) _ _ e7, upd_same, le_line (by rw [List.length_map]; omega), fun p3 hp3 => ⟨p3, rfl, ⟨_, SqL.of upd_same⟩, ?_⟩⟩
    refine for_it (walk_list (K := K) (a := p3) (xs := ts.map V.str ++ cutV (ts.map V.str) (some 2) (some 3))) (fun i σ H' => H' p3 = some (.lst (ts.map V.str ++ cutV (ts.map V.str) (some 2) (some 3))) ∧ ∃ v4 v5 v6 v7 v8 v9, σ = [some (.ref a), some (.ref t), some (.ref W), v4, v5, v6, v7, v8, v9]) ⟨upd_same, _, _, _, _, _, _, rfl⟩ (fun _ _ _ _ h => SqL.of h.1) ?_ ?_
    · rintro i x σ H8 H9 hi ⟨e8, v4, v5, v6, v7, v8, v9, rfl⟩ ⟨rfl, hx⟩
      obtain ⟨z, hz, rfl⟩ : ∃ z : Str, z.length ≤ 1000 ∧ x = V.str z := by
        have hm : x ∈ ts.map V.str := by
          rcases List.mem_append.mp (List.mem_of_getElem? hx) with h | h
          · exact h
          · exact hcut x h
        obtain ⟨z, h1, h2⟩ := List.mem_map.mp hm
        exact ⟨z, hws2 z h1, h2.symm⟩
      refine ⟨_, rfl, ⟨_, rfl⟩, z, spS, rfl, rfl, by decide +kernel, le_line (by omega), fun p hp => ⟨p, rfl, ⟨_, SqL.of upd_same⟩, fun D hD => ?_⟩⟩
      have nD : p ≠ D := ne_of_none upd_same hD
      have hl : ((Txt.split z spS).map V.str).length ≤ 100002 := by rw [List.length_map]; exact split_len_le (by omega)
      refine lc_it (walk_list (K := K) (a := p) (xs := (Txt.split z spS).map V.str)) (fun i H' => H' = upd (upd H9 p (.lst ((Txt.split z spS).map V.str))) D (.lst ((((Txt.split z spS).take i).filter neE).map V.str))) rfl
        (fun i H' _ e => by rw [e]; exact SqL.of (by rw [upd_ne nD]; exact upd_same)) ?_ ?_
      · rintro i x H1 H2 hi rfl ⟨rfl, hx⟩
        rw [List.getElem?_map] at hx
        obtain ⟨w, hw, rfl⟩ := Option.map_eq_some_iff.mp hx
        obtain ⟨hl2, ew⟩ := List.getElem?_eq_some_iff.mp hw
        refine ⟨rfl, _, rfl, rfl, _, rfl, ite2 (fun c => ?_) (fun c => ?_)⟩
        · refine ⟨_, rfl, _, upd_same, ?_, ?_⟩
          · rw [List.length_map]
            exact lt_line (Nat.le_trans (List.length_filter_le _ _) (by rw [List.length_take, ← List.length_map (f := V.str)]; omega))
          · have k : neE w = true := by
              unfold neE
              rw [decide_eq_true_iff]
              intro z
              rw [z] at c
              simp at c
            rw [upd_upd, List.take_succ_eq_append_getElem hl2, ew, List.filter_append, List.map_append, List.filter_cons_of_pos k]
            rfl
        · have k : ¬ neE w = true := by
            unfold neE
            rw [decide_eq_true_iff]
            intro z
            apply c
            have : ¬ V.str w = V.str (Str.ofString "") := fun y => z (V.str.inj y)
            rw [decide_eq_false this]
            rfl
          rw [List.take_succ_eq_append_getElem hl2, ew, List.filter_append, List.filter_cons_of_neg k, List.filter_nil, List.append_nil]
      rintro H1 rfl
      rw [List.length_map, List.take_length]
      refine ⟨D, _, rfl, .inl ⟨SqL.of upd_same, fun r hr => ?_⟩⟩
      have sN := ((same_new hp (.lst ((Txt.split z spS).map V.str))).trans (same_new hD (.lst (((Txt.split z spS).filter neE).map V.str)))).trans (same_new hr (.tup (((Txt.split z spS).filter neE).map V.str)))
      have er : (upd (upd (upd H9 p (.lst ((Txt.split z spS).map V.str))) D (.lst (((Txt.split z spS).filter neE).map V.str))) r (.tup (((Txt.split z spS).filter neE).map V.str))) r = some (.tup ((tokL z).map V.str)) := upd_same
      have lt := tokL_len (z := z) (by omega)
      have ls := tokL_sum z
      have dp : ∀ ws : List Str, (Dt.tup (ws.map Dt.str)).deep ≤ 40 := fun ws => by
        have := deeps_strs ws
        unfold Dt.deep
        omega
      refine ⟨_, rfl, z, rfl, by omega, fun p4 H10 s10 e10 => ?_⟩
      have er10 := s10 _ _ er
      refine ⟨_, rfl, _, _, .tup ((tokL z).map Dt.str), rfl, .tup (SqT.of e10) (DTs.strs _), .tup (SqT.of er10) (DTs.strs _), dp _, fits_strs (by omega), fun H11 s11 => ⟨_, rfl, iteF ?_⟩⟩
      have er11 := s11 _ _ er10
      have hj := join_len_le spS (tokL z)
      have e1 : spS.length = 1 := by decide +kernel
      rw [e1] at hj
      refine ⟨⟨_, rfl⟩, _, rfl, r, _, rfl, .inr (SqT.of er11), fun l hl => ⟨spS, l, tokL z, rfl, rfl, .inl (SqL.of upd_same), by rw [e1]; omega, ?_⟩⟩
      refine ⟨_, rfl, by omega, fun p5 H12 s12 e12 => ?_⟩
      rw [tokL_join fun p hp => tokL_free hp] at e12
      have er12 := s12 _ _ ((same_new hl _) _ _ er11)
      refine ⟨_, rfl, _, _, .tup ((tokL z).map Dt.str), rfl, .tup (SqT.of e12) (DTs.strs _), .tup (SqT.of er12) (DTs.strs _), dp _, fits_strs (by omega), fun H13 s13 => ⟨_, rfl, iteF ⟨?_, _, _, _, _, _, _, rfl⟩⟩⟩
      exact s13 _ _ (s12 _ _ ((same_new hl _) _ _ (s11 _ _ (s10 _ _ (sN _ _ e8)))))
    · rintro σ H8 ⟨e8, v4, v5, v6, v7, v8, v9, rfl⟩
      exact q _
end
theorem all_mk {l : PySem.W.OpenLaw} {w : World} {K : PySem.W.Frag} {h : Heap} {mg : Str → Option Value} {fa : Addr} (X : K.In h) (G : h.Ns mainGlobals mg) (hfa : mg "law" = some (.ref fa))
    {f0 : Addr} {od0 an0 : Option Addr} {sl0 : Array (Option Value)} {oc0 kV0 dc0 pm0 cd0 ct0 : Value}
    {f1 : Addr} {od1 an1 : Option Addr} {sl1 : Array (Option Value)} {oc1 kV1 dc1 pm1 cd1 ct1 : Value}
    {f2 : Addr} {od2 an2 : Option Addr} {sl2 : Array (Option Value)} {oc2 kV2 dc2 pm2 cd2 ct2 : Value}
    {f3 : Addr} {od3 an3 : Option Addr} {sl3 : Array (Option Value)} {oc3 kV3 dc3 pm3 cd3 ct3 : Value}
    {f4 : Addr} {od4 an4 : Option Addr} {sl4 : Array (Option Value)} {oc4 kV4 dc4 pm4 cd4 ct4 : Value}
    {f5 : Addr} {od5 an5 : Option Addr} {sl5 : Array (Option Value)} {oc5 kV5 dc5 pm5 cd5 ct5 : Value}
    {f6 : Addr} {od6 an6 : Option Addr} {sl6 : Array (Option Value)} {oc6 kV6 dc6 pm6 cd6 ct6 : Value}
    {f7 : Addr} {od7 an7 : Option Addr} {sl7 : Array (Option Value)} {oc7 kV7 dc7 pm7 cd7 ct7 : Value}
    {f8 : Addr} {od8 an8 : Option Addr} {sl8 : Array (Option Value)} {oc8 kV8 dc8 pm8 cd8 ct8 : Value}
    {f9 : Addr} {od9 an9 : Option Addr} {sl9 : Array (Option Value)} {oc9 kV9 dc9 pm9 cd9 ct9 : Value}
    {f10 : Addr} {od10 an10 : Option Addr} {sl10 : Array (Option Value)} {oc10 kV10 dc10 pm10 cd10 ct10 : Value}
    (a0 : PySem.W.nsIn K mainGlobals "tokens_of" = some (some (.ref f0))) (l0 : K.lookup f0 = some ⟨oc0, od0, .func (PySem.W.fnOf "tokens_of" "tokens_of" (defArgs s_tokens_of) (defBody s_tokens_of) (defScope s_tokens_of) .none kV0 dc0 pm0 an0 cd0 ct0), sl0⟩) (c0 : PySem.W.codeIn K cd0 "tokens_of" = true) (k0 : PySem.W.keepIn K (.ref f0) = true)
    (a1 : PySem.W.nsIn K mainGlobals "_law_tape" = some (some (.ref f1))) (l1 : K.lookup f1 = some ⟨oc1, od1, .func (PySem.W.fnOf "_law_tape" "_law_tape" (defArgs s_law_tape) (defBody s_law_tape) (defScope s_law_tape) .none kV1 dc1 pm1 an1 cd1 ct1), sl1⟩) (c1 : PySem.W.codeIn K cd1 "_law_tape" = true) (k1 : PySem.W.keepIn K (.ref f1) = true)
    (a2 : PySem.W.nsIn K mainGlobals "_law_draw" = some (some (.ref f2))) (l2 : K.lookup f2 = some ⟨oc2, od2, .func (PySem.W.fnOf "_law_draw" "_law_draw" (defArgs s_law_draw) (defBody s_law_draw) (defScope s_law_draw) .none kV2 dc2 pm2 an2 cd2 ct2), sl2⟩) (c2 : PySem.W.codeIn K cd2 "_law_draw" = true) (k2 : PySem.W.keepIn K (.ref f2) = true)
    (a3 : PySem.W.nsIn K mainGlobals "_law_pick" = some (some (.ref f3))) (l3 : K.lookup f3 = some ⟨oc3, od3, .func (PySem.W.fnOf "_law_pick" "_law_pick" (defArgs s_law_pick) (defBody s_law_pick) (defScope s_law_pick) .none kV3 dc3 pm3 an3 cd3 ct3), sl3⟩) (c3 : PySem.W.codeIn K cd3 "_law_pick" = true) (k3 : PySem.W.keepIn K (.ref f3) = true)
    (a4 : PySem.W.nsIn K mainGlobals "_law_same" = some (some (.ref f4))) (l4 : K.lookup f4 = some ⟨oc4, od4, .func (PySem.W.fnOf "_law_same" "_law_same" (defArgs s_law_same) (defBody s_law_same) (defScope s_law_same) .none kV4 dc4 pm4 an4 cd4 ct4), sl4⟩) (c4 : PySem.W.codeIn K cd4 "_law_same" = true) (k4 : PySem.W.keepIn K (.ref f4) = true)
    (a5 : PySem.W.nsIn K mainGlobals "_law_any_sign" = some (some (.ref f5))) (l5 : K.lookup f5 = some ⟨oc5, od5, .func (PySem.W.fnOf "_law_any_sign" "_law_any_sign" (defArgs s_law_any_sign) (defBody s_law_any_sign) (defScope s_law_any_sign) .none kV5 dc5 pm5 an5 cd5 ct5), sl5⟩) (c5 : PySem.W.codeIn K cd5 "_law_any_sign" = true) (k5 : PySem.W.keepIn K (.ref f5) = true)
    (a6 : PySem.W.nsIn K mainGlobals "_law_text" = some (some (.ref f6))) (l6 : K.lookup f6 = some ⟨oc6, od6, .func (PySem.W.fnOf "_law_text" "_law_text" (defArgs s_law_text) (defBody s_law_text) (defScope s_law_text) .none kV6 dc6 pm6 an6 cd6 ct6), sl6⟩) (c6 : PySem.W.codeIn K cd6 "_law_text" = true) (k6 : PySem.W.keepIn K (.ref f6) = true)
    (a7 : PySem.W.nsIn K mainGlobals "_law_tight_text" = some (some (.ref f7))) (l7 : K.lookup f7 = some ⟨oc7, od7, .func (PySem.W.fnOf "_law_tight_text" "_law_tight_text" (defArgs s_law_tight_text) (defBody s_law_tight_text) (defScope s_law_tight_text) .none kV7 dc7 pm7 an7 cd7 ct7), sl7⟩) (c7 : PySem.W.codeIn K cd7 "_law_tight_text" = true) (k7 : PySem.W.keepIn K (.ref f7) = true)
    (a8 : PySem.W.nsIn K mainGlobals "_law_spaced" = some (some (.ref f8))) (l8 : K.lookup f8 = some ⟨oc8, od8, .func (PySem.W.fnOf "_law_spaced" "_law_spaced" (defArgs s_law_spaced) (defBody s_law_spaced) (defScope s_law_spaced) .none kV8 dc8 pm8 an8 cd8 ct8), sl8⟩) (c8 : PySem.W.codeIn K cd8 "_law_spaced" = true) (k8 : PySem.W.keepIn K (.ref f8) = true)
    (a9 : PySem.W.nsIn K mainGlobals "_law_word" = some (some (.ref f9))) (l9 : K.lookup f9 = some ⟨oc9, od9, .func (PySem.W.fnOf "_law_word" "_law_word" (defArgs s_law_word) (defBody s_law_word) (defScope s_law_word) .none kV9 dc9 pm9 an9 cd9 ct9), sl9⟩) (c9 : PySem.W.codeIn K cd9 "_law_word" = true) (k9 : PySem.W.keepIn K (.ref f9) = true)
    (a10 : PySem.W.nsIn K mainGlobals "law" = some (some (.ref f10))) (l10 : K.lookup f10 = some ⟨oc10, od10, .func (PySem.W.fnOf "law" "law" (defArgs s_law) (defBody s_law) (defScope s_law) .none kV10 dc10 pm10 an10 cd10 ct10), sl10⟩) (c10 : PySem.W.codeIn K cd10 "law" = true) (k10 : PySem.W.keepIn K (.ref f10) = true)
    (z_abs : PySem.W.nsIn K mainGlobals "abs" = some none)
    (z_bool : PySem.W.nsIn K mainGlobals "bool" = some none)
    (z_int : PySem.W.nsIn K mainGlobals "int" = some none)
    (z_isinstance : PySem.W.nsIn K mainGlobals "isinstance" = some none)
    (z_len : PySem.W.nsIn K mainGlobals "len" = some none)
    (z_list : PySem.W.nsIn K mainGlobals "list" = some none)
    (z_max : PySem.W.nsIn K mainGlobals "max" = some none)
    (z_min : PySem.W.nsIn K mainGlobals "min" = some none)
    (z_range : PySem.W.nsIn K mainGlobals "range" = some none)
    (z_str : PySem.W.nsIn K mainGlobals "str" = some none)
    (z_tuple : PySem.W.nsIn K mainGlobals "tuple" = some none) :
    ∃ fd : FuncData, (∀ (s : Shared) (v : Value), BindsTo s fd ⟨[v], []⟩ [("script", v)]) ∧ ∀ base : Heap, K.In base → base.Ns mainGlobals mg → FnOk l.prog w K mg base CX0 41 fa fd ["script"] (sp_law K) := by
  have e := hfa.symm.trans (PySem.W.mg_of X G a10)
  cases e
  have T : Top K mg := ⟨PySem.W.mg_none_of X G z_abs, PySem.W.mg_none_of X G z_bool, PySem.W.mg_none_of X G z_int, PySem.W.mg_none_of X G z_isinstance, PySem.W.mg_none_of X G z_len, PySem.W.mg_none_of X G z_list, PySem.W.mg_none_of X G z_max, PySem.W.mg_none_of X G z_min, PySem.W.mg_none_of X G z_range, PySem.W.mg_none_of X G z_str, PySem.W.mg_none_of X G z_tuple⟩
  refine ⟨PySem.W.fnOf "law" "law" (defArgs s_law) (defBody s_law) (defScope s_law) .none kV10 dc10 pm10 an10 cd10 ct10, fun s v => .of_eq rfl, fun base _ _ => ?_⟩
  have F0 := fun_mk (st := s_tokens_of) l0 c0 k0
  have C_tokens_of : Cal l.prog w K mg base "tokens_of" 1 ["text"] sp_tokens_of _ _ := ⟨ok_tokens_of F0 T , F0.binds (ps := ["text"]) fun _ _ _ _ _ _ us hl => match us, hl with | [_], _ => rfl, k0, PySem.W.mg_of X G a0⟩
  have F1 := fun_mk (st := s_law_tape) l1 c1 k1
  have C_law_tape : Cal l.prog w K mg base "_law_tape" 1 ["script"] sp_law_tape _ _ := ⟨ok_law_tape F1 T , F1.binds (ps := ["script"]) fun _ _ _ _ _ _ us hl => match us, hl with | [_], _ => rfl, k1, PySem.W.mg_of X G a1⟩
  have F2 := fun_mk (st := s_law_draw) l2 c2 k2
  have C_law_draw : Cal l.prog w K mg base "_law_draw" 1 ["tape", "many"] sp_law_draw _ _ := ⟨ok_law_draw F2 T , F2.binds (ps := ["tape", "many"]) fun _ _ _ _ _ _ us hl => match us, hl with | [_, _], _ => rfl, k2, PySem.W.mg_of X G a2⟩
  have F3 := fun_mk (st := s_law_pick) l3 c3 k3
  have C_law_pick : Cal l.prog w K mg base "_law_pick" 2 ["tape", "row"] sp_law_pick _ _ := ⟨ok_law_pick F3 T C_law_draw, F3.binds (ps := ["tape", "row"]) fun _ _ _ _ _ _ us hl => match us, hl with | [_, _], _ => rfl, k3, PySem.W.mg_of X G a3⟩
  have F4 := fun_mk (st := s_law_same) l4 c4 k4
  have C_law_same : Cal l.prog w K mg base "_law_same" 40 ["actual", "expected"] sp_law_same _ _ := ⟨ok_law_same F4 T (PySem.W.mg_of X G a4) , F4.binds (ps := ["actual", "expected"]) fun _ _ _ _ _ _ us hl => match us, hl with | [_, _], _ => rfl, k4, PySem.W.mg_of X G a4⟩
  have F5 := fun_mk (st := s_law_any_sign) l5 c5 k5
  have C_law_any_sign : Cal l.prog w K mg base "_law_any_sign" 3 ["tape"] sp_law_any_sign _ _ := ⟨ok_law_any_sign F5 T C_law_pick, F5.binds (ps := ["tape"]) fun _ _ _ _ _ _ us hl => match us, hl with | [_], _ => rfl, k5, PySem.W.mg_of X G a5⟩
  have F6 := fun_mk (st := s_law_text) l6 c6 k6
  have C_law_text : Cal l.prog w K mg base "_law_text" 4 ["tape", "many"] sp_law_text _ _ := ⟨ok_law_text F6 T C_law_any_sign, F6.binds (ps := ["tape", "many"]) fun _ _ _ _ _ _ us hl => match us, hl with | [_, _], _ => rfl, k6, PySem.W.mg_of X G a6⟩
  have F7 := fun_mk (st := s_law_tight_text) l7 c7 k7
  have C_law_tight_text : Cal l.prog w K mg base "_law_tight_text" 3 ["tape", "many"] sp_law_tight_text _ _ := ⟨ok_law_tight_text F7 T C_law_pick, F7.binds (ps := ["tape", "many"]) fun _ _ _ _ _ _ us hl => match us, hl with | [_, _], _ => rfl, k7, PySem.W.mg_of X G a7⟩
  have F8 := fun_mk (st := s_law_spaced) l8 c8 k8
  have C_law_spaced : Cal l.prog w K mg base "_law_spaced" 3 ["tape", "tokens"] sp_law_spaced _ _ := ⟨ok_law_spaced F8 T C_law_pick, F8.binds (ps := ["tape", "tokens"]) fun _ _ _ _ _ _ us hl => match us, hl with | [_, _], _ => rfl, k8, PySem.W.mg_of X G a8⟩
  have F9 := fun_mk (st := s_law_word) l9 c9 k9
  have C_law_word : Cal l.prog w K mg base "_law_word" 4 ["tape"] sp_law_word _ _ := ⟨ok_law_word F9 T C_law_draw C_law_pick C_law_tight_text, F9.binds (ps := ["tape"]) fun _ _ _ _ _ _ us hl => match us, hl with | [_], _ => rfl, k9, PySem.W.mg_of X G a9⟩
  have F10 := fun_mk (st := s_law) l10 c10 k10
  exact ok_law F10 T C_tokens_of C_law_tape C_law_draw C_law_pick C_law_same C_law_text C_law_spaced C_law_word
theorem walk {l : PySem.W.OpenLaw} {q : Program} {loose : List Str} {XP : (Str → Option Value) → Heap → Prop} {YP : World → Heap → Prop} {d : DefRec} {K : Params → PySem.W.Frag} (hn : l.most = some 63) (hdf : d.params.defaults = [])
    (hY : ∀ (w : World) (h : Heap), YP w h → (K w.params).In h)
    (F : ∀ (w : World) (mg : Str → Option Value) (fa : Addr) (h : Heap), (K w.params).In h → h.Ns mainGlobals mg → mg d.name = some (.ref fa) →
      ∃ fd : FuncData, (∀ (s : Shared) (u : Value), BindsTo s fd ⟨[u], []⟩ [("script", u)]) ∧ ∀ base : Heap, (K w.params).In base → base.Ns mainGlobals mg → FnOk l.prog w (K w.params) mg base CX0 41 fa fd ["script"] (sp_law (K w.params))) :
    PySem.W.WalkO q loose XP YP l.row.toRowW d [] (fun f vs => PySem.call f vs) :=
  L2.walk_of (n := 63) (k := 41) (x := "script") (CX := fun _ => CX0) (sp := fun w => sp_law (K w.params)) hn (by decide) hdf ⟨rfl, by decide, by decide⟩ hY F (fun _ _ a ns hl _ hS => ⟨a, ns, rfl, hS, hl, fun _ => rfl⟩) fun _ _ _ _ _ z => z
end My
open PySem PySem.W PyProof.Rows in
set_option maxRecDepth 100000 in
set_option maxHeartbeats 0 in
theorem PySem.Challenge.cw_hookcheck_k11_tokens_holds : PySem.Challenge.rw_hookcheck_k11_tokens.Holds := by
  w_on; o_law; k_head; (case hw => w_witness2)
  k_fill
  refine My.walk (l := PySem.Challenge.rw_hookcheck_k11_tokens) rfl rfl (fun w h Y => PySem.W.kIn_of Y) ?F
  case F =>
    intro w mg fa h KX G hmg
    refine' My.all_mk KX G hmg ?a0 ?l0 ?c0 ?k0 ?a1 ?l1 ?c1 ?k1 ?a2 ?l2 ?c2 ?k2 ?a3 ?l3 ?c3 ?k3 ?a4 ?l4 ?c4 ?k4 ?a5 ?l5 ?c5 ?k5 ?a6 ?l6 ?c6 ?k6 ?a7 ?l7 ?c7 ?k7 ?a8 ?l8 ?c8 ?k8 ?a9 ?l9 ?c9 ?k9 ?a10 ?l10 ?c10 ?k10 ?z_abs ?z_bool ?z_int ?z_isinstance ?z_len ?z_list ?z_max ?z_min ?z_range ?z_str ?z_tuple
    (case a0 => k_is)
    (case l0 => k_is)
    (case c0 => k_is)
    (case k0 => k_is)
    (case a1 => k_is)
    (case l1 => k_is)
    (case c1 => k_is)
    (case k1 => k_is)
    (case a2 => k_is)
    (case l2 => k_is)
    (case c2 => k_is)
    (case k2 => k_is)
    (case a3 => k_is)
    (case l3 => k_is)
    (case c3 => k_is)
    (case k3 => k_is)
    (case a4 => k_is)
    (case l4 => k_is)
    (case c4 => k_is)
    (case k4 => k_is)
    (case a5 => k_is)
    (case l5 => k_is)
    (case c5 => k_is)
    (case k5 => k_is)
    (case a6 => k_is)
    (case l6 => k_is)
    (case c6 => k_is)
    (case k6 => k_is)
    (case a7 => k_is)
    (case l7 => k_is)
    (case c7 => k_is)
    (case k7 => k_is)
    (case a8 => k_is)
    (case l8 => k_is)
    (case c8 => k_is)
    (case k8 => k_is)
    (case a9 => k_is)
    (case l9 => k_is)
    (case c9 => k_is)
    (case k9 => k_is)
    (case a10 => k_is)
    (case l10 => k_is)
    (case c10 => k_is)
    (case k10 => k_is)
    (case z_abs => k_is)
    (case z_bool => k_is)
    (case z_int => k_is)
    (case z_isinstance => k_is)
    (case z_len => k_is)
    (case z_list => k_is)
    (case z_max => k_is)
    (case z_min => k_is)
    (case z_range => k_is)
    (case z_str => k_is)
    (case z_tuple => k_is)
#print axioms PySem.Challenge.cw_hookcheck_k11_tokens_holds
