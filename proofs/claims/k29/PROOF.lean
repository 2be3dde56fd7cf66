import PyProof.Rows.All
import Wide.All
import OpenK.AllK
import Wide.FinOn
import HandS.ForMost
import HandS.IsInst
import HandS.TupLe
import HandS.Walk
import HandS.Codes
import HandS.Wide
import HandS.TupAny
import PyProof.EqAt
import PyProof.EqKinds
import KE.DataCmp
import KE.SortData
import HandS.More
import HandS.TupLen
import HandS.Conv
import HandS.Defaults
import HandS.Deep
import PySem.Challenge.RW_hookcheck_k29_what_rules_see
set_option Elab.async false
set_option linter.all false
set_option maxRecDepth 100000
namespace My
open PySem L2

/-! ### a def that is called -/
structure Cal (P : Program) (w : World) (K : PySem.W.Frag) (mg : Str → Option Value) (base : Heap) (x : Str) (k : Nat) (ps : List Str) (sp : PySem.W.Frag → Sp) (f : Addr) (fd : FuncData) : Prop where
  ok : FnOk P w K mg base CX0 k f fd ps (sp K)
  b : Binds K fd ps []
  kp : PySem.W.keepIn K (.ref f) = true
  m : mg x = some (.ref f)

/-! ### heaps: all that was tracked but t is as it was -/
def Sm (t : Addr) (H H' : Hp) : Prop := ∀ b o, b ≠ t → H b = some o → H' b = some o
theorem Sm.refl (t : Addr) (H : Hp) : Sm t H H := fun _ _ _ h => h
theorem Sm.trans {t : Addr} {H H1 H2 : Hp} (a : Sm t H H1) (b : Sm t H1 H2) : Sm t H H2 := fun c o n h => b c o n (a c o n h)
theorem Sm.same {t : Addr} {H H1 : Hp} (a : Same H H1) : Sm t H H1 := fun c o _ h => a c o h
theorem Sm.new {t p : Addr} {H : Hp} {o : HO} (h : H p = none) : Sm t H (upd H p o) := fun c u _ e => by
  rw [upd_ne (ne_of_none e h)]; exact e
theorem Sm.put {t : Addr} {H : Hp} {o : HO} : Sm t H (upd H t o) := fun c u n e => by rw [upd_ne n]; exact e
/-- a change at an address that was not tracked before -/
theorem Sm.late {t p : Addr} {H H1 : Hp} {o : HO} (a : Sm t H H1) (h : H p = none) : Sm t H (upd H1 p o) := fun c u n e => by
  rw [upd_ne (ne_of_none e h)]; exact a c u n e
theorem same_new {H : Hp} {p : Addr} (h : H p = none) (o : HO) : Same H (upd H p o) := fun b u q => by rw [upd_ne (ne_of_none q h)]; exact q
theorem _root_.L2.Same.late {p : Addr} {H H1 : Hp} {o : HO} (a : Same H H1) (h : H p = none) : Same H (upd H1 p o) := fun c u e => by
  rw [upd_ne (ne_of_none e h)]; exact a c u e
theorem Sm.seqL {K : PySem.W.Frag} {t a : Addr} {H H' : Hp} {xs : List V} (e : Sm t H H') (n : a ≠ t) (h : SqL K H a xs) : SqL K H' a xs := by
  rcases h with (h | ⟨o, h⟩) | h
  · exact .inl (.inl (e _ _ n h))
  · exact .inl (.inr ⟨o, e _ _ n h⟩)
  · exact .inr h
theorem Sm.seqT {K : PySem.W.Frag} {t a : Addr} {H H' : Hp} {xs : List V} (e : Sm t H H') (n : a ≠ t) (h : SqT K H a xs) : SqT K H' a xs := by
  rcases h with (h | ⟨o, h⟩) | h
  · exact .inl (.inl (e _ _ n h))
  · exact .inl (.inr ⟨o, e _ _ n h⟩)
  · exact .inr h
theorem _root_.L2.Same.seqT {K : PySem.W.Frag} {a : Addr} {H H' : Hp} {xs : List V} (e : Same H H') (h : SqT K H a xs) : SqT K H' a xs := by
  rcases h with (h | ⟨o, h⟩) | h
  · exact .inl (.inl (e _ _ h))
  · exact .inl (.inr ⟨o, e _ _ h⟩)
  · exact .inr h

/-! ### the tape -/
structure Tape (H : Hp) (t : Addr) : Prop where
  ex : ∃ (l : Addr) (ns : List Int) (a b c : Int), H t = some (.lst [.ref l, .int a, .int b, .int c]) ∧ H l = some (.lst (ns.map V.int)) ∧ l ≠ t ∧ 0 ≤ a ∧ ns.length ≤ 63
theorem Tape.same {H H' : Hp} {t : Addr} (h : Tape H t) (e : Same H H') : Tape H' t := by
  obtain ⟨l, ns, a, b, c, h1, h2, h3⟩ := h.ex
  exact ⟨l, ns, a, b, c, e _ _ h1, e _ _ h2, h3⟩
theorem Tape.new {H : Hp} {t p : Addr} {o : HO} (h : Tape H t) (e : H p = none) : Tape (upd H p o) t := h.same (same_new e o)
theorem Tape.tracked {H : Hp} {t : Addr} (h : Tape H t) : ∃ o, H t = some o := by
  obtain ⟨l, ns, a, b, c, h1, _⟩ := h.ex
  exact ⟨_, h1⟩
/-- a fresh address is not the tape -/
theorem Tape.ne {H : Hp} {t p : Addr} (h : Tape H t) (e : H p = none) : p ≠ t := by
  obtain ⟨o, h⟩ := h.tracked
  exact (ne_of_none h e).symm
/-- the script's copy that the tape holds -/
def tL (H : Hp) (t : Addr) : Option Addr := match H t with
  | some (.lst (.ref l :: _)) => some l
  | _ => none
theorem tL_of {H : Hp} {t l : Addr} {xs : List V} (h : H t = some (.lst (.ref l :: xs))) : tL H t = some l := by
  unfold tL
  rw [h]
/-- the tape goes on, what else was tracked stands -/
structure Go (t : Addr) (H H' : Hp) : Prop where
  tp : Tape H' t
  sm : Sm t H H'
  fx : tL H' t = tL H t
theorem Go.trans {t : Addr} {H H1 H2 : Hp} (a : Go t H H1) (b : Go t H1 H2) : Go t H H2 := ⟨b.tp, a.sm.trans b.sm, b.fx.trans a.fx⟩
theorem Go.refl {t : Addr} {H : Hp} (h : Tape H t) : Go t H H := ⟨h, Sm.refl _ _, rfl⟩
theorem Go.same {t : Addr} {H H1 : Hp} (h : Tape H t) (a : Same H H1) : Go t H H1 := by
  obtain ⟨l, ns, x, b, c, h1, h2, h3⟩ := h.ex
  exact ⟨h.same a, Sm.same a, by rw [tL_of h1, tL_of (a _ _ h1)]⟩
theorem Go.new {t p : Addr} {H H1 : Hp} {o : HO} (a : Go t H H1) (h : H1 p = none) : Go t H (upd H1 p o) := a.trans (Go.same a.tp (same_new h o))
theorem Go.put {t l : Addr} {H H1 : Hp} {xs : List V} {ns : List Int} {a b c : Int} (h1 : H t = some (.lst (.ref l :: xs))) (s : Sm t H H1) (h2 : H1 l = some (.lst (ns.map V.int))) (h3 : l ≠ t) (h4 : 0 ≤ a) (h5 : ns.length ≤ 63) :
    Go t H (upd H1 t (.lst [.ref l, .int a, .int b, .int c])) :=
  ⟨⟨l, ns, a, b, c, upd_same, by rw [upd_ne h3]; exact h2, h3, h4, h5⟩, s.trans Sm.put, by rw [tL_of h1, tL_of upd_same]⟩
/-- a change at an address that was not tracked at first -/
theorem Go.late {t p : Addr} {H H1 : Hp} {o : HO} (h : Tape H t) (a : Go t H H1) (n : H p = none) : Go t H (upd H1 p o) := by
  obtain ⟨l, ns, x, b, c, h1, h2, h3⟩ := h.ex
  obtain ⟨l', ns', x', b', c', k1, k2, k3⟩ := a.tp.ex
  have e := a.fx
  rw [tL_of h1, tL_of k1] at e
  cases e
  have n1 : t ≠ p := ne_of_none h1 n
  have n2 : l ≠ p := ne_of_none h2 n
  exact ⟨⟨l, ns', x', b', c', by rw [upd_ne n1]; exact k1, by rw [upd_ne n2]; exact k2, k3⟩, a.sm.late n, by rw [tL_of h1]; exact tL_of (by rw [upd_ne n1]; exact k1)⟩

/-! ### texts -/
section
variable {X : Cx}
/-- s * n -/
theorem op_mulS : OpR X (binaryOp .Mult) (fun x y H Q => ∃ (z : Str) (n : Int), x = .str z ∧ y = .int n ∧ n ≤ 1000000 ∧ -1000000 ≤ n ∧ z.length * n.toNat ≤ sizeLine ∧ Q (.str (Txt.mul z n)) H) := by
  intro pins s σ H x y u v Q I rx ry h
  obtain ⟨z, n, rfl, rfl, h1, h2, h3, q⟩ := h
  obtain ⟨t, rfl⟩ := rx
  obtain ⟨t', rfl⟩ := ry
  refine PySem.SB.mul ⟨?_, ?_, ?_⟩ fun t' k => ⟨.str _, H, ?_, ⟨_, rfl⟩, q⟩
  · simp only [Bool.or_eq_false_iff, decide_eq_false_iff_not]
    exact ⟨by omega, by omega⟩
  · intro p _ q
    have e : (1000000 : Int) ≤ (2 ^ 63 - 1) / n := by
      rw [Int.le_ediv_iff_mul_le (by omega)]
      omega
    by_cases hz : z.length ≤ 1000000
    · omega
    · have h4 : z.length * 1 ≤ z.length * n.toNat := Nat.mul_le_mul_left _ (by omega)
      have e2 : (sizeLine : Int) ≤ (2 ^ 63 - 1) / n := by
        rw [Int.le_ediv_iff_mul_le (by omega)]
        show (16777216 : Int) * n ≤ _
        omega
      have h5 : (z.length : Int) ≤ (sizeLine : Int) := by
        have := Nat.le_trans h4 h3
        omega
      omega
  · intro _ _
    unfold PySem.Builtin.Str.tooLong
    simp only [decide_eq_false_iff_not]
    show ¬ z.length * n.toNat > 16777216
    have : z.length * n.toNat ≤ 16777216 := h3
    omega
  · exact I.tok k
end

/-! ### rules over a written part that is named -/
section
variable {X : Cx} {K : PySem.W.Frag}
theorem kx_list (h : X.K = K) : IxR X (rIxL K) := h ▸ ix_list
theorem kx_tup (h : X.K = K) : IxR X (rIxT K) := h ▸ ix_tup
theorem kx_seq (h : X.K = K) : IxR X (rIx K) := h ▸ ix_seq
theorem ksl_list (h : X.K = K) : SlR X (rSlL K) := h ▸ sl_list
theorem kop_eqD (h : X.K = K) (hu : X.A.units + 64 < cLine) : OpR X (compareOp .Eq) (rEqD K) := h ▸ op_eqD hu
theorem kop_neD (h : X.K = K) (hu : X.A.units + 64 < cLine) : OpR X (compareOp .NotEq) (rNeD K) := h ▸ op_neD hu
theorem kpt_truth {a : Expr} {ta : TE} (h : X.K = K) (he : PE X a ta) (hi : ∀ (whole : Sem Value), PySem.isTrue a X.env whole = do
      let v ← whole
      standAt a.pos
      holding [v] (truthy v)) : PT X a fun σ H Q => ta σ H fun x H' => ∃ k, TruV K x H' k ∧ Q k H' := h ▸ pt_truth he hi
theorem kop_in (h : X.K = K) : OpR X (compareOp .In) (rIn K false) := h ▸ op_in_seq
theorem kop_notIn (h : X.K = K) : OpR X (compareOp .NotIn) (rIn K true) := h ▸ op_notIn_seq
theorem kop_catT (h : X.K = K) : OpR X (binaryOp .Add) (rCatA K) := h ▸ op_catA
theorem ksl_tup (h : X.K = K) : SlR X (rSlA K) := h ▸ sl_tupA
def rLen (K : PySem.W.Frag) : List V → Hp → VK → Prop := fun xs H Q => ∃ x n, xs = [x] ∧ LenV K x H n ∧ Q (.int n) H
theorem kc_len (h : X.K = K) : CallR X (.builtin "len") (rLen K) := h ▸ call_len
def rLenS (K : PySem.W.Frag) : List V → Hp → VK → Prop := fun xs H Q => ∃ p ys, xs = [.ref p] ∧ (SqL K H p ys ∨ SqT K H p ys) ∧ Q (.int ys.length) H
theorem kc_lenS (h : X.K = K) : CallR X (.builtin "len") (rLenS K) := h ▸ call_len_seq
def rListOf (K : PySem.W.Frag) : List V → Hp → VK → Prop := fun xs H Q => ∃ p ys, xs = [.ref p] ∧ (SqL K H p ys ∨ SqT K H p ys) ∧ ∀ l, H l = none → Q (.ref l) (upd H l (.lst ys))
theorem kc_list (h : X.K = K) : CallR X (.type "list") (rListOf K) := h ▸ call_list_of
def rTupOf (K : PySem.W.Frag) : List V → Hp → VK → Prop := fun xs H Q => ∃ p ys, xs = [.ref p] ∧ ((SqL K H p ys ∧ ∀ l, H l = none → Q (.ref l) (upd H l (.tup ys))) ∨ (SqT K H p ys ∧ Q (.ref p) H))
theorem kc_tuple (h : X.K = K) : CallR X (.type "tuple") (rTupOf K) := h ▸ call_tuple_of
theorem kc_all (h : X.K = K) (hc : X.calm = true) : CallR X (.builtin "all") (rAll K) := h ▸ cr_all hc
theorem kc_any (h : X.K = K) (hc : X.calm = true) : CallR X (.builtin "any") (rAny K) := h ▸ cr_any hc
theorem kc_isi (h : X.K = K) : CallR X (.builtin "isinstance") (rIsi K) := h ▸ call_isi
theorem kpi_list {tg l : Expr} {tl : TE} (h : X.K = K) (hl : PE X l tl) : PI X tg l (iList K tl) := h ▸ pi_list hl
theorem kpi_tup {tg l : Expr} {tl : TE} (h : X.K = K) (hl : PE X l tl) : PI X tg l (iTup K tl) := h ▸ pi_tup hl
def rJoin (K : PySem.W.Frag) : V → List V → Hp → VK → Prop := fun x xs H Q => ∃ a p, ∃ ys : List Str, x = .str a ∧ xs = [.ref p] ∧ (SqL K H p (ys.map V.str) ∨ SqT K H p (ys.map V.str)) ∧ (ys.map (·.length)).sum + ys.length * a.length ≤ 16777216 ∧ Q (.str (Txt.join a ys)) H
end
/-! ### loops -/
section
variable {J : It} {n : Nat} {G : Hp → Prop} {Y : Nat → Hp → V → Hp → Prop}
/-- what is made so far stands at D -/
def AccI (I : Nat → List V → Hp → Prop) (D : Addr) (i : Nat) (H : Hp) : Prop := ∃ acc, H D = some (.lst acc) ∧ acc.length = i ∧ I i acc H
theorem acc_step {I : Nat → List V → Hp → Prop} {D : Addr} {i : Nat} {acc : List V} {y : V} {H4 : Hp} (e : H4 D = some (.lst acc)) (el : acc.length = i) (hi : i ≤ 1000000) (k : I (i + 1) (acc ++ [y]) (upd H4 D (.lst (acc ++ [y])))) :
    ∃ acc, H4 D = some (.lst acc) ∧ acc.length < sizeLine ∧ AccI I D (i + 1) (upd H4 D (.lst (acc ++ [y]))) := by
  refine ⟨acc, e, ?_, acc ++ [y], upd_same, by rw [List.length_append, el]; rfl, k⟩
  show acc.length < 16777216
  omega
/-- a comprehension without a test -/
theorem lc_acc (w : Walk J n G Y) {g : TG} {te : TE} {vs : List Nat} {σ : St} {H1 : Hp} {D : Addr} {Qd : Hp → Prop} (I : Nat → List V → Hp → Prop) (h0 : I 0 [] (upd H1 D (.lst [])))
    (hG : ∀ i acc H, i ≤ n → H D = some (.lst acc) → I i acc H → G H)
    (hs : ∀ i acc x H H', i < n → H D = some (.lst acc) → acc.length = i → I i acc H → Y i H x H' → g x (wipe σ vs) H' fun σ2 H2 => wipe σ2 vs = wipe σ vs ∧ te σ2 H2 fun y H4 => ∃ acc, H4 D = some (.lst acc) ∧ acc.length < sizeLine ∧ AccI I D (i + 1) (upd H4 D (.lst (acc ++ [y]))))
    (hd : ∀ acc H, H D = some (.lst acc) → acc.length = n → I n acc H → Qd H) :
    ∃ W : Nat → Nat → Hp → Prop, (∃ m, W 0 m (upd H1 D (.lst []))) ∧ ∀ i m H, W i m H →
      (J.stop i H ∧ Qd H) ∨ (J.go i H ∧ ∃ Nx : Hp → Prop, (∀ H', Nx H' → ∃ m', m' < m ∧ W (i + 1) m' H') ∧ ∀ x H', J.yld i H x H' → g x (wipe σ vs) H' fun σ2 H2 => wipe σ2 vs = wipe σ vs ∧ tYes σ2 H2 fun b H3 =>
        if b = true then te σ2 H3 fun y H4 => ∃ acc, H4 D = some (.lst acc) ∧ acc.length < sizeLine ∧ Nx (upd H4 D (.lst (acc ++ [y]))) else Nx H3) := by
  refine lc_it w (AccI I D) ⟨[], upd_same, rfl, h0⟩ (fun i H hi ⟨acc, e, _, k⟩ => hG i acc H hi e k) (fun i x H H' hi ⟨acc, e, el, k⟩ hy => ?_) (fun H ⟨acc, e, el, k⟩ => hd acc H e el k)
  exact hs i acc x H H' hi e el k hy
end

theorem take_succ_code {z : Str} {i c : Nat} (h : z.cps[i]? = some c) : z.cps.toList.take (i + 1) = z.cps.toList.take i ++ [c] := by
  have h' : z.cps.toList[i]? = some c := by rw [Array.getElem?_toList]; exact h
  obtain ⟨hl, e⟩ := List.getElem?_eq_some_iff.mp h'
  rw [List.take_succ_eq_append_getElem hl, e]
theorem str_of_list {z : Str} (h : z.cps.toList = []) : z = Str.ofString "" := by
  obtain ⟨⟨l⟩⟩ := z
  have e : l = [] := h
  subst e
  rfl
theorem int_get {ns : List Int} {i : Nat} {y : V} (h : (ns.map V.int)[i]? = some y) : ∃ u, y = V.int u ∧ ns[i]? = some u := by
  rw [List.getElem?_map] at h
  cases e : ns[i]? with
  | none => rw [e] at h; cases h
  | some u => rw [e] at h; exact ⟨u, (Option.some.inj h).symm, rfl⟩
theorem fmod_in {a m : Int} (h : 0 < m) : 0 ≤ a.fmod m ∧ a.fmod m < m := by
  rw [Int.fmod_eq_emod_of_nonneg a (by omega)]
  exact ⟨Int.emod_nonneg _ (by omega), Int.emod_lt_of_pos _ h⟩

/-! ### texts by their codes -/
theorem str_ext {a b : Str} (h : a.cps.toList = b.cps.toList) : a = b := by
  obtain ⟨⟨x⟩⟩ := a
  obtain ⟨⟨y⟩⟩ := b
  have e : x = y := h
  rw [e]
theorem app_codes (a b : Str) : (a ++ b).cps.toList = a.cps.toList ++ b.cps.toList := by
  show (a.cps ++ b.cps).toList = _
  rw [Array.toList_append]
theorem app_len (a b : Str) : (a ++ b).length = a.length + b.length := by
  show (a.cps ++ b.cps).size = _
  rw [Array.size_append]; rfl
theorem len_codes (a : Str) : a.cps.toList.length = a.length := by simp [Str.length]
theorem join_codes : ∀ ys : List Str, (Txt.join (Str.ofString "") ys).cps.toList = (ys.map (·.cps.toList)).flatten := by
  have h : ∀ ys : List Str, (Str.join (Str.ofString "") ys).cps.toList = (ys.map (·.cps.toList)).flatten := by
    intro ys
    induction ys with
    | nil => rfl
    | cons x r ih =>
      cases r with
      | nil =>
        show x.cps.toList = _
        simp
      | cons y r =>
        show (x ++ Str.ofString "" ++ Str.join (Str.ofString "") (y :: r)).cps.toList = _
        rw [app_codes, app_codes, ih]
        show x.cps.toList ++ [] ++ _ = _
        rw [List.append_nil, List.map_cons (l := y :: r), List.flatten_cons]
  intro ys
  have e : Txt.join (Str.ofString "") ys = Str.join (Str.ofString "") ys := StrLaws.glued_eq_join _ ys
  rw [e, h]
/-- a text of drawn signs -/
def Sg (c : Nat) : Prop := 32 ≤ c ∧ c ≤ 126 ∧ c ≠ 37
instance (c : Nat) : Decidable (Sg c) := by unfold Sg; exact inferInstance
def SgT (z : Str) : Prop := ∀ c ∈ z.cps.toList, Sg c
theorem SgT.app {a b : Str} (h : SgT a) (k : SgT b) : SgT (a ++ b) := fun c hc => by
  rw [app_codes] at hc
  rcases List.mem_append.mp hc with q | q
  · exact h c q
  · exact k c q
theorem SgT.one {c : Nat} (h : Sg c) : SgT ⟨#[c]⟩ := fun d hd => by
  have e : d = c := by simpa using hd
  rw [e]; exact h

/-! ### plain data: what is passed and returned -/
inductive Dt where
  | non | bl (b : Bool) | int (i : Int) | str (s : Str) | tup (xs : List Dt)
mutual
inductive DT (K : PySem.W.Frag) (H : Hp) : V → Dt → Prop
  | non : DT K H .non .non
  | bl (b : Bool) : DT K H (.bl b) (.bl b)
  | int (i : Int) : DT K H (.int i) (.int i)
  | str (z : Str) : DT K H (.str z) (.str z)
  | tup {a : Addr} {xs : List V} {ds : List Dt} : SqT K H a xs → DTs K H xs ds → DT K H (.ref a) (.tup ds)
inductive DTs (K : PySem.W.Frag) (H : Hp) : List V → List Dt → Prop
  | nil : DTs K H [] []
  | cons {v : V} {vs : List V} {d : Dt} {ds : List Dt} : DT K H v d → DTs K H vs ds → DTs K H (v :: vs) (d :: ds)
end
mutual
theorem DT.mono {K : PySem.W.Frag} {H H' : Hp} (k : ∀ a xs, SqT K H a xs → SqT K H' a xs) : ∀ (d : Dt) (v : V), DT K H v d → DT K H' v d
  | .non, _, h => by cases h; exact .non
  | .bl b, _, h => by cases h; exact .bl _
  | .int b, _, h => by cases h; exact .int _
  | .str b, _, h => by cases h; exact .str _
  | .tup ds, _, h => by
    cases h with
    | tup h1 h2 => exact .tup (k _ _ h1) (DTs.mono k ds _ h2)
theorem DTs.mono {K : PySem.W.Frag} {H H' : Hp} (k : ∀ a xs, SqT K H a xs → SqT K H' a xs) : ∀ (ds : List Dt) (vs : List V), DTs K H vs ds → DTs K H' vs ds
  | [], _, h => by cases h; exact .nil
  | d :: ds, _, h => by
    cases h with
    | cons h1 h2 => exact .cons (DT.mono k d _ h1) (DTs.mono k ds _ h2)
end
section
variable {K : PySem.W.Frag} {H H' : Hp}
theorem DT.same {v : V} {d : Dt} (h : DT K H v d) (e : Same H H') : DT K H' v d := DT.mono (fun _ _ q => e.seqT q) d v h
theorem DTs.same {v : List V} {d : List Dt} (h : DTs K H v d) (e : Same H H') : DTs K H' v d := DTs.mono (fun _ _ q => e.seqT q) d v h
theorem seqT_go {t a : Addr} {xs : List V} (hT : Tape H t) (e : Sm t H H') (h : SqT K H a xs) : SqT K H' a xs := by
  obtain ⟨l, ns, x, b, c, h1, _⟩ := hT.ex
  rcases h with (h | ⟨o, h⟩) | h
  · exact .inl (.inl (e _ _ (ne_of h h1 (fun z => by cases z)) h))
  · exact .inl (.inr ⟨o, e _ _ (ne_of h h1 (fun z => by cases z)) h⟩)
  · exact .inr h
theorem DT.go {t : Addr} {v : V} {d : Dt} (h : DT K H v d) (hT : Tape H t) (e : Sm t H H') : DT K H' v d := DT.mono (fun _ _ q => seqT_go hT e q) d v h
theorem DTs.go {t : Addr} {v : List V} {d : List Dt} (h : DTs K H v d) (hT : Tape H t) (e : Sm t H H') : DTs K H' v d := DTs.mono (fun _ _ q => seqT_go hT e q) d v h
theorem DTs.length {vs : List V} {ds : List Dt} (h : DTs K H vs ds) : vs.length = ds.length := by
  induction ds generalizing vs with
  | nil => cases h; rfl
  | cons d ds ih =>
    cases h with
    | cons _ h2 => rw [List.length_cons, List.length_cons, ih h2]
theorem DTs.get {vs : List V} {ds : List Dt} (h : DTs K H vs ds) {i : Nat} {d : Dt} (e : ds[i]? = some d) : ∃ v, vs[i]? = some v ∧ DT K H v d := by
  induction ds generalizing vs i with
  | nil => simp at e
  | cons x ds ih =>
    cases h with
    | cons h1 h2 =>
      cases i with
      | zero =>
        have e' : x = d := by simpa using e
        subst e'
        exact ⟨_, rfl, h1⟩
      | succ i => exact ih h2 (by simpa using e)
theorem DTs.get' {vs : List V} {ds : List Dt} (h : DTs K H vs ds) {i : Nat} {v : V} (e : vs[i]? = some v) : ∃ d, ds[i]? = some d ∧ DT K H v d := by
  have hl := h.length
  have hi : i < ds.length := by rw [← hl]; exact (List.getElem?_eq_some_iff.mp e).1
  obtain ⟨w, e2, k⟩ := h.get (List.getElem?_eq_getElem hi)
  rw [e] at e2
  cases e2
  exact ⟨_, List.getElem?_eq_getElem hi, k⟩
theorem DTs.append {vs ws : List V} {ds es : List Dt} (h : DTs K H vs ds) (k : DTs K H ws es) : DTs K H (vs ++ ws) (ds ++ es) := by
  induction ds generalizing vs with
  | nil => cases h; exact k
  | cons x ds ih =>
    cases h with
    | cons h1 h2 => exact .cons h1 (ih h2)
end
/-! ### how deep, how wide -/
mutual
def Dt.deep : Dt → Nat
  | .tup xs => Dt.deeps xs + 1
  | _ => 1
def Dt.deeps : List Dt → Nat
  | [] => 0
  | d :: ds => max d.deep (Dt.deeps ds)
end
mutual
def Dt.fits : Dt → Bool
  | .tup xs => decide (xs.length ≤ 1000000) && Dt.fitss xs
  | _ => true
def Dt.fitss : List Dt → Bool
  | [] => true
  | d :: ds => d.fits && Dt.fitss ds
end
theorem Dt.deeps_mem {d : Dt} : ∀ {ds : List Dt}, d ∈ ds → d.deep ≤ Dt.deeps ds
  | x :: ds, h => by
    unfold Dt.deeps
    rcases List.mem_cons.mp h with rfl | h
    · omega
    · have := Dt.deeps_mem h
      omega
theorem Dt.fitss_mem {d : Dt} : ∀ {ds : List Dt}, d ∈ ds → Dt.fitss ds = true → d.fits = true
  | x :: ds, h, k => by
    unfold Dt.fitss at k
    rw [Bool.and_eq_true] at k
    rcases List.mem_cons.mp h with rfl | h
    · exact k.1
    · exact Dt.fitss_mem h k.2
def Dt.name : Dt → String
  | .non => "NoneType" | .bl _ => "bool" | .int _ => "int" | .str _ => "str" | .tup _ => "tuple"
theorem seqT_ty {K : PySem.W.Frag} {H : Hp} {a : Addr} {xs : List V} (h : SqT K H a xs) : TyX K H (.ref a) (.type "tuple") := by
  rcases h with (h | ⟨o, h⟩) | ⟨o, its, n, h1, h2, _⟩
  · exact .base (.tup h)
  · exact .fTuple h
  · exact .kTuple h1 h2
theorem DT.ty {K : PySem.W.Frag} {H : Hp} {v : V} {d : Dt} (h : DT K H v d) : TyX K H v (.type d.name) := by
  cases h with
  | non => exact .base .non
  | bl b => exact .base (.bl b)
  | int i => exact .base (.int i)
  | str z => exact .base (.str z)
  | tup h1 _ => exact seqT_ty h1

theorem at_any {α : Type} {xs : List α} {z : Int} {j : Nat} {v : α} (e : z = (j : Int)) (h : xs[j]? = some v) : atI xs z = some v := by
  rw [e]
  exact atI_nat h
theorem none_left {P : Program} {w : World} {K : PySem.W.Frag} {mg : Str → Option Value} {base : Heap} {f : Addr} {fd : FuncData} {ps : List Str} {sp : Sp} (no : ∀ vs H Q E, ¬ sp vs H Q E) : FnOk P w K mg base CX0 0 f fd ps sp :=
  ⟨fun vs H Q E h => absurd h (no vs H Q E), fun A outer s H args us vs Q E _ _ _ _ h => absurd h (no vs H Q E)⟩
theorem mul_codes (z : Str) (n : Int) : (Txt.mul z n).cps.toList = (List.replicate n.toNat z.cps.toList).flatten := by
  unfold Txt.mul
  by_cases h1 : n < 1
  · rw [if_pos h1, show n.toNat = 0 by omega]
    rfl
  · rw [if_neg h1]
    have fl : ∀ (k : Nat) (a : Array Nat), ((List.replicate k z.cps).foldl (· ++ ·) a).toList = a.toList ++ (List.replicate k z.cps.toList).flatten := by
      intro k
      induction k with
      | zero => intro a; simp
      | succ k ih =>
        intro a
        rw [List.replicate_succ, List.foldl_cons, ih, List.replicate_succ, List.flatten_cons, Array.toList_append, List.append_assoc]
    by_cases h2 : (n == 1 || z.length == 0) = true
    · rw [if_pos h2]
      rw [Bool.or_eq_true] at h2
      rcases h2 with h2 | h2
      · have e : n = 1 := by simpa using h2
        subst e
        simp
      · have e : z.cps.toList = [] := by
          have : z.cps.toList.length = 0 := by rw [len_codes]; simpa using h2
          exact List.length_eq_zero_iff.mp this
        rw [e]
        simp
    · rw [if_neg h2]
      have e := fl n.toNat #[]
      simpa using e
theorem mul_len (z : Str) (n : Int) : (Txt.mul z n).length = n.toNat * z.length := by
  rw [← len_codes, mul_codes, List.length_flatten, List.map_replicate, List.sum_replicate_nat, len_codes]
/-- a list of texts as data of the model -/
theorem dpa_strs {K : PySem.W.Frag} {H : Hp} : ∀ ws : List Str, DpAll K H (ws.map V.str) (ws.map PyData.str)
  | [] => .nil
  | z :: ws => .cons (.str z) (dpa_strs ws)
theorem shaped_strs {ws : List Str} (h : ∀ z ∈ ws, SgT z) : SeqAt.shaped (.list (ws.map PyData.str)) = true := by
  have l : ∀ ws : List Str, (∀ z ∈ ws, SgT z) → PyData.canLayAll0 (ws.map PyData.str) = true ∧ PyData.depthAll (ws.map PyData.str) = 0 := by
    intro ws
    induction ws with
    | nil => intro _; exact ⟨rfl, rfl⟩
    | cons z ws ih =>
      intro h
      obtain ⟨a, b⟩ := ih fun y hy => h y (List.mem_cons_of_mem _ hy)
      have hz : PyData.strOk z = true := by
        unfold PyData.strOk
        rw [Array.all_eq_true_iff_forall_mem]
        intro c hc
        have := h z List.mem_cons_self c (by simpa using hc)
        have k := this.2.1
        simp
        omega
      refine ⟨?_, ?_⟩
      · rw [List.map_cons, PyData.canLayAll0, PyData.canLay0, hz, a]
        rfl
      · rw [List.map_cons, PyData.depthAll, b, PyData.depth]
        rfl
  obtain ⟨a, b⟩ := l ws h
  unfold SeqAt.shaped
  rw [PyData.canLay0, PyData.depth, a, b]
  rfl
theorem eqv_strs_nil (ws : List Str) : PyData.eqv (.list (ws.map PyData.str)) (.list []) = ws.isEmpty := by
  cases ws <;> simp [PyData.eqv, PyData.eqvAll]
theorem SgT.cut {z : Str} (h : SgT z) (a b : Option Int) : SgT (cutS z a b) := fun c hc => by
  refine h c ?_
  unfold cutS at hc
  exact List.mem_of_mem_drop (List.mem_of_mem_take (by simpa using hc))
theorem SgT.mul {z : Str} (h : SgT z) (n : Int) : SgT (Txt.mul z n) := fun c hc => by
  rw [mul_codes] at hc
  obtain ⟨l, h1, h2⟩ := List.mem_flatten.mp hc
  rw [List.eq_of_mem_replicate h1] at h2
  exact h c h2
/-! ### slices, by take and drop -/
theorem sIx_pos {n d : Nat} {a : Int} (h : 0 ≤ a) : HT.sIx n d (some a) = min a.toNat n := by
  show (if a < 0 then _ else _) = _
  rw [if_neg (by omega)]
theorem cut_pre (z : Str) {a : Int} (h : 0 ≤ a) : (cutS z none (some a)).cps.toList = z.cps.toList.take a.toNat := by
  show ((z.cps.toList.drop 0).take (HT.sIx z.length z.length (some a) - 0)) = _
  rw [sIx_pos h, List.drop_zero, Nat.sub_zero, ← len_codes]
  by_cases c : a.toNat ≤ z.cps.toList.length
  · rw [Nat.min_eq_left c]
  · rw [Nat.min_eq_right (by omega), List.take_of_length_le (Nat.le_refl _), List.take_of_length_le (by omega)]
theorem cut_suf (z : Str) {a : Int} (h : 0 ≤ a) : (cutS z (some a) none).cps.toList = z.cps.toList.drop a.toNat := by
  show ((z.cps.toList.drop (HT.sIx z.length 0 (some a))).take (z.length - HT.sIx z.length 0 (some a))) = _
  rw [sIx_pos h, ← len_codes]
  by_cases c : a.toNat ≤ z.cps.toList.length
  · rw [Nat.min_eq_left c, List.take_of_length_le (by rw [List.length_drop]; exact Nat.le_refl _)]
  · rw [Nat.min_eq_right (by omega), List.drop_of_length_le (Nat.le_refl _), List.drop_of_length_le (by omega), List.take_nil]
theorem cut_pre_len (z : Str) {a : Int} (h : 0 ≤ a) : (cutS z none (some a)).length = min a.toNat z.length := by
  rw [← len_codes, cut_pre z h, List.length_take, len_codes]
theorem cut_suf_len (z : Str) {a : Int} (h : 0 ≤ a) : (cutS z (some a) none).length = z.length - a.toNat := by
  rw [← len_codes, cut_suf z h, List.length_drop, len_codes]
theorem cutV_pre {xs : List V} {a : Int} (h : 0 ≤ a) : cutV xs none (some a) = xs.take a.toNat := by
  show (xs.drop 0).take (HT.sIx xs.length xs.length (some a) - 0) = _
  rw [sIx_pos h, List.drop_zero, Nat.sub_zero]
  by_cases c : a.toNat ≤ xs.length
  · rw [Nat.min_eq_left c]
  · rw [Nat.min_eq_right (by omega), List.take_of_length_le (Nat.le_refl _), List.take_of_length_le (by omega)]
theorem cutV_suf {xs : List V} {a : Int} (h : 0 ≤ a) : cutV xs (some a) none = xs.drop a.toNat := by
  show (xs.drop (HT.sIx xs.length 0 (some a))).take (xs.length - HT.sIx xs.length 0 (some a)) = _
  rw [sIx_pos h]
  by_cases c : a.toNat ≤ xs.length
  · rw [Nat.min_eq_left c, List.take_of_length_le (by rw [List.length_drop]; exact Nat.le_refl _)]
  · rw [Nat.min_eq_right (by omega), List.drop_of_length_le (Nat.le_refl _), List.drop_of_length_le (by omega), List.take_nil]
theorem pickN (l : List Nat) {v : V} (h : v ∈ l.map fun n : Nat => V.int (n : Int)) {b : Nat} (hb : (l.all fun n => decide (n ≤ b)) = true) : ∃ n : Nat, n ≤ b ∧ v = V.int (n : Int) := by
  obtain ⟨n, h1, h2⟩ := List.mem_map.mp h
  exact ⟨n, of_decide_eq_true (List.all_eq_true.mp hb n h1), h2.symm⟩
theorem pickS (l : List Str) {v : V} (h : v ∈ l.map V.str) : ∃ z : Str, z ∈ l ∧ v = V.str z := by
  obtain ⟨n, h1, h2⟩ := List.mem_map.mp h
  exact ⟨n, h1, h2.symm⟩
theorem le_line {n : Nat} (h : n ≤ 1000000) : n ≤ sizeLine := Nat.le_trans h (by decide)
theorem lt_line {n : Nat} (h : n ≤ 1000000) : n < sizeLine := Nat.lt_of_le_of_lt h (by decide)
theorem DTs.strs {K : PySem.W.Frag} {H : Hp} : ∀ ws : List Str, DTs K H (ws.map V.str) (ws.map Dt.str)
  | [] => .nil
  | z :: ws => .cons (.str z) (DTs.strs ws)
theorem deeps_strs : ∀ ws : List Str, Dt.deeps (ws.map Dt.str) ≤ 1
  | [] => by simp [Dt.deeps]
  | z :: ws => by
    have := deeps_strs ws
    have e : Dt.deep (.str z) = 1 := rfl
    rw [List.map_cons, Dt.deeps, e]
    omega
theorem fitss_strs : ∀ ws : List Str, Dt.fitss (ws.map Dt.str) = true
  | [] => rfl
  | z :: ws => by
    have e : Dt.fits (.str z) = true := rfl
    rw [List.map_cons, Dt.fitss, e, fitss_strs ws]
    rfl
theorem fits_strs {ws : List Str} (h : ws.length ≤ 1000000) : Dt.fits (.tup (ws.map Dt.str)) = true := by
  rw [Dt.fits, fitss_strs, List.length_map, decide_eq_true h]
  rfl
theorem flat_ones : ∀ cs : List Nat, ((cs.map fun c => (⟨#[c]⟩ : Str)).map (·.cps.toList)).flatten = cs
  | [] => rfl
  | c :: cs => by
    rw [List.map_cons, List.map_cons, List.flatten_cons, flat_ones cs]
    rfl
theorem sum_ones : ∀ cs : List Nat, ((cs.map fun c => (⟨#[c]⟩ : Str)).map (·.length)).sum = cs.length
  | [] => rfl
  | c :: cs => by
    rw [List.map_cons, List.map_cons, List.sum_cons, sum_ones cs, List.length_cons]
    show 1 + cs.length = _
    omega
theorem sum_lens {b : Nat} : ∀ {ws : List Str}, (∀ w ∈ ws, w.length ≤ b) → (ws.map (·.length)).sum ≤ ws.length * b
  | [], _ => by simp
  | w :: ws, h => by
    have h1 := h w List.mem_cons_self
    have h2 := sum_lens fun x hx => h x (List.mem_cons_of_mem _ hx)
    rw [List.map_cons, List.sum_cons, List.length_cons, Nat.succ_mul]
    omega
theorem join_len_le (sep : Str) (ws : List Str) : (Txt.join sep ws).length ≤ (ws.map (·.length)).sum + ws.length * sep.length := by
  have e : Txt.join sep ws = Str.join sep ws := StrLaws.glued_eq_join _ ws
  rw [e]
  exact StrLaws.join_length_le sep ws
/-! ### comprehensions that change nothing else -/
theorem wipe_back {σ : St} {k : Nat} {v : Option V} : wipe ((wipe σ [k]).set k v) [k] = wipe σ [k] := by
  show ((σ.set k none).set k v).set k none = σ.set k none
  rw [List.set_set, List.set_set]
/-- [f x for x in ..] without a test -/
theorem lc_pure {J : It} {n : Nat} {G : Hp → Prop} {Y : Nat → Hp → V → Hp → Prop} (w : Walk J n G Y) (hn : n ≤ 1000000) {k : Nat} {te : TE} {σ : St} {H1 : Hp} {D : Addr} {Qd : Hp → Prop} (it : Nat → V → Prop) (f : Nat → V)
    (hY : ∀ i H x H', i < n → Y i H x H' → H' = H ∧ it i x) (hG : ∀ acc, G (upd H1 D (.lst acc)))
    (he : ∀ i x acc (R : VK), i < n → it i x → R (f i) (upd H1 D (.lst acc)) → te ((wipe σ [k]).set k (some x)) (upd H1 D (.lst acc)) R)
    (hd : Qd (upd H1 D (.lst ((List.range n).map f)))) :
    ∃ W : Nat → Nat → Hp → Prop, (∃ m, W 0 m (upd H1 D (.lst []))) ∧ ∀ i m H, W i m H →
      (J.stop i H ∧ Qd H) ∨ (J.go i H ∧ ∃ Nx : Hp → Prop, (∀ H', Nx H' → ∃ m', m' < m ∧ W (i + 1) m' H') ∧ ∀ x H', J.yld i H x H' → gName k x (wipe σ [k]) H' fun σ2 H2 => wipe σ2 [k] = wipe σ [k] ∧ tYes σ2 H2 fun b H3 =>
        if b = true then te σ2 H3 fun y H4 => ∃ acc, H4 D = some (.lst acc) ∧ acc.length < sizeLine ∧ Nx (upd H4 D (.lst (acc ++ [y]))) else Nx H3) := by
  refine lc_it w (fun i H => H = upd H1 D (.lst ((List.range i).map f))) rfl (fun i H _ e => e ▸ hG _) (fun i x H H' hi e hy => ?_) (fun H e => e ▸ hd)
  obtain ⟨rfl, hit⟩ := hY i H x H' hi hy
  subst e
  refine ⟨wipe_back, ?_⟩
  refine he i x _ _ hi hit ⟨_, upd_same, ?_, ?_⟩
  · rw [List.length_map, List.length_range]
    exact lt_line (by omega)
  · rw [upd_upd, List.range_succ, List.map_append]
    rfl
/-- [x for x in texts if ..] -/
theorem lc_filterS {K : PySem.W.Frag} {a : Addr} {ws : List Str} {k : Nat} {tt : TT} {σ : St} {H1 : Hp} {D : Addr} {Qd : Hp → Prop} (f : Str → Bool) (hk : k < σ.length) (hS : SqL K H1 a (ws.map V.str)) (hD : H1 D = none) (hn : ws.length ≤ 1000000)
    (ht : ∀ (i : Nat) (w : Str) (acc : List V) (R : Bool → Hp → Prop), ws[i]? = some w → R (f w) (upd H1 D (.lst acc)) → tt ((wipe σ [k]).set k (some (.str w))) (upd H1 D (.lst acc)) R)
    (hd : Qd (upd H1 D (.lst ((ws.filter f).map V.str)))) :
    ∃ W : Nat → Nat → Hp → Prop, (∃ m, W 0 m (upd H1 D (.lst []))) ∧ ∀ i m H, W i m H →
      ((Itl K a).stop i H ∧ Qd H) ∨ ((Itl K a).go i H ∧ ∃ Nx : Hp → Prop, (∀ H', Nx H' → ∃ m', m' < m ∧ W (i + 1) m' H') ∧ ∀ x H', (Itl K a).yld i H x H' → gName k x (wipe σ [k]) H' fun σ2 H2 => wipe σ2 [k] = wipe σ [k] ∧ tt σ2 H2 fun b H3 =>
        if b = true then tVar k σ2 H3 fun y H4 => ∃ acc, H4 D = some (.lst acc) ∧ acc.length < sizeLine ∧ Nx (upd H4 D (.lst (acc ++ [y]))) else Nx H3) := by
  refine lc_it (walk_list (K := K) (a := a) (xs := ws.map V.str)) (fun i H => H = upd H1 D (.lst (((ws.take i).filter f).map V.str))) rfl (fun i H _ e => by rw [e]; exact (same_new hD _).seq hS) (fun i x H H' hi e hy => ?_) (fun H e => ?_)
  · obtain ⟨rfl, hx⟩ := hy
    subst e
    rw [List.getElem?_map] at hx
    obtain ⟨u, hu, rfl⟩ := Option.map_eq_some_iff.mp hx
    obtain ⟨hl2, ew⟩ := List.getElem?_eq_some_iff.mp hu
    refine ⟨wipe_back, ?_⟩
    refine ht i u _ _ hu ?_
    by_cases c : f u = true
    · rw [if_pos c]
      refine ⟨.str u, ?_, _, upd_same, ?_, ?_⟩
      · show ((σ.set k none).set k (some (.str u)))[k]? = _
        rw [List.getElem?_set_self (by rw [List.length_set]; exact hk)]
      · rw [List.length_map]
        exact lt_line (Nat.le_trans (List.length_filter_le _ _) (by rw [List.length_take]; omega))
      · rw [upd_upd, List.take_succ_eq_append_getElem hl2, ew, List.filter_append, List.map_append, List.filter_cons_of_pos c]
        rfl
    · rw [if_neg c, List.take_succ_eq_append_getElem hl2, ew, List.filter_append, List.filter_cons_of_neg c, List.filter_nil, List.append_nil]
  · rw [List.length_map, List.take_length] at e
    rw [e]
    exact hd
theorem inV_strs (z : Str) : ∀ ws : List Str, inV (.str z) (ws.map V.str) = decide (z ∈ ws)
  | [] => rfl
  | w :: ws => by
    have ih := inV_strs z ws
    unfold inV at ih ⊢
    rw [List.map_cons, List.any_cons, ih]
    show ((w == z) || _) = _
    by_cases c : w = z
    · subst c
      simp
    · have e : (w == z) = false := by rw [beq_eq_false_iff_ne]; exact c
      rw [e, Bool.false_or]
      exact decide_eq_decide.mpr ⟨fun h => List.mem_cons_of_mem _ h, fun h => (List.mem_cons.mp h).elim (fun q => absurd q.symm c) id⟩
theorem flat_strs (ws : List Str) : (ws.map V.str).all flatV = true := by
  rw [List.all_map, List.all_eq_true]
  intro x _
  rfl
theorem yint {i : Nat} {H : Hp} {x : V} {H' : Hp} (h : YFn (fun i => V.int (0 + (i : Nat))) i H x H') : H' = H ∧ x = .int (i : Int) := by
  obtain ⟨h1, h2⟩ := h
  refine ⟨h1, h2.trans ?_⟩
  show V.int (0 + (i : Int)) = V.int (i : Int)
  rw [Int.zero_add]
theorem log_small {i : Int} (h : i.natAbs ≤ 1900) : i.natAbs.log2 < 1920 := Nat.lt_of_le_of_lt (Nat.log2_le_self _) (by omega)
theorem Sm.free {t p : Addr} {H H' : Hp} (s : Sm t H H') (n : p ≠ t) (h : H' p = none) : H p = none := by
  cases e : H p with
  | none => rfl
  | some o => rw [s p o n e] at h; cases h
end My

namespace My
open PySem L2
/-! ### == and < of plain data -/
mutual
def Dt.eqb : Dt → Dt → Bool
  | .non, e => match e with | .non => true | _ => false
  | .bl a, e => match e with | .bl b => a == b | .int j => (if a then 1 else 0) == j | _ => false
  | .int i, e => match e with | .bl b => i == (if b then 1 else 0) | .int j => i == j | _ => false
  | .str x, e => match e with | .str y => x == y | _ => false
  | .tup xs, e => match e with | .tup ys => Dt.eqbs xs ys | _ => false
def Dt.eqbs : List Dt → List Dt → Bool
  | [], ys => ys.isEmpty
  | x :: xs, ys => match ys with | [] => false | y :: r => Dt.eqb x y && Dt.eqbs xs r
end
abbrev pairD (xs ys : List Dt) (j : Nat) : Bool := Dt.eqb (xs.getD j .non) (ys.getD j .non)
theorem eqbs_all : ∀ xs ys : List Dt, ((List.range (min xs.length ys.length)).all (pairD xs ys) && xs.length == ys.length) = Dt.eqbs xs ys
  | [], [] => rfl
  | [], _ :: _ => by simp [Dt.eqbs]
  | _ :: _, [] => by simp [Dt.eqbs]
  | x :: xs, y :: ys => by
    have ih := eqbs_all xs ys
    have q1 : min (x :: xs).length (y :: ys).length = min xs.length ys.length + 1 := by rw [List.length_cons, List.length_cons]; omega
    have q2 : ((x :: xs).length == (y :: ys).length) = (xs.length == ys.length) := by simp
    rw [q1, q2, List.range_succ_eq_map, List.all_cons, List.all_map, Dt.eqbs, ← ih, Bool.and_assoc]
    rfl
mutual
theorem eqb_refl : ∀ d : Dt, Dt.eqb d d = true
  | .non => by rw [Dt.eqb]
  | .bl _ => by simp [Dt.eqb]
  | .int _ => by simp [Dt.eqb]
  | .str _ => by simp [Dt.eqb]
  | .tup xs => by
    rw [Dt.eqb]
    exact eqbs_refl xs
theorem eqbs_refl : ∀ ds : List Dt, Dt.eqbs ds ds = true
  | [] => rfl
  | d :: ds => by
    rw [Dt.eqbs, eqb_refl d, eqbs_refl ds]
    rfl
end
section
variable {X : Cx} {pins : List (Addr × Obj)} {σ : St} {H : Hp} {s : Shared}
mutual
theorem DT.inj (I : Inv X pins σ H s) : ∀ (d e : Dt) (v : V), DT X.K H v d → DT X.K H v e → d = e
  | .non, e, v, h, k => by cases h; cases k; rfl
  | .bl b, e, v, h, k => by cases h; cases k; rfl
  | .int b, e, v, h, k => by cases h; cases k; rfl
  | .str b, e, v, h, k => by cases h; cases k; rfl
  | .tup ds, e, v, h, k => by
    cases h with
    | tup h1 h2 =>
      cases k with
      | tup k1 k2 =>
        cases I.tuple_inj h1 k1
        rw [DTs.inj I ds _ _ h2 k2]
theorem DTs.inj (I : Inv X pins σ H s) : ∀ (ds es : List Dt) (vs : List V), DTs X.K H vs ds → DTs X.K H vs es → ds = es
  | [], es, vs, h, k => by cases h; cases k; rfl
  | d :: ds, es, vs, h, k => by
    cases h with
    | cons h1 h2 =>
      cases k with
      | cons k1 k2 => rw [DT.inj I d _ _ h1 k1, DTs.inj I ds _ _ h2 k2]
end
theorem in1_units (A : Around) : A.in1.units = A.units + 1 := rfl
mutual
theorem eqAtD (I : Inv X pins σ H s) : ∀ (d e : Dt) (A : Around) (v u : V) (a b : Value), DT X.K H v d → DT X.K H u e → RelV v a → RelV u b → A.units + d.deep < cLine → SeqAt.EqAt A s a b (Dt.eqb d e)
  | .non, e, A, v, u, a, b, hd, he, ra, rb, hu => by
    cases hd
    cases (show a = Value.none from ra)
    cases he with
    | non => cases (show b = Value.none from rb); exact SeqAt.EqAt.same _
    | bl y => cases (show b = Value.bool y from rb); exact SeqAt.EqAt.none_bool y
    | int y => obtain ⟨t, q⟩ := (show ∃ t, b = Value.int y t from rb); cases q; exact SeqAt.EqAt.none_int y t
    | str y => obtain ⟨t, q⟩ := (show ∃ t, b = Value.str y t from rb); cases q; exact SeqAt.EqAt.none_str y t
    | tup k1 k2 =>
      cases (show b = Value.ref _ from rb)
      obtain ⟨its, _, p, _⟩ := I.tuple k1
      exact SeqAt.EqAt.none_tuple p (by omega)
  | .bl x, e, A, v, u, a, b, hd, he, ra, rb, hu => by
    cases hd
    cases (show a = Value.bool x from ra)
    cases he with
    | non => cases (show b = Value.none from rb); exact SeqAt.EqAt.bool_none x
    | bl y => cases (show b = Value.bool y from rb); exact SeqAt.EqAt.bool_bool x y
    | int y => obtain ⟨t, q⟩ := (show ∃ t, b = Value.int y t from rb); cases q; exact SeqAt.EqAt.bool_int x y t
    | str y => obtain ⟨t, q⟩ := (show ∃ t, b = Value.str y t from rb); cases q; exact SeqAt.EqAt.bool_str x y t
    | tup k1 k2 =>
      cases (show b = Value.ref _ from rb)
      obtain ⟨its, _, p, _⟩ := I.tuple k1
      exact SeqAt.EqAt.bool_tuple x p (by omega)
  | .int x, e, A, v, u, a, b, hd, he, ra, rb, hu => by
    cases hd
    obtain ⟨t0, q0⟩ := (show ∃ t, a = Value.int x t from ra)
    cases q0
    cases he with
    | non => cases (show b = Value.none from rb); exact SeqAt.EqAt.int_none x t0
    | bl y => cases (show b = Value.bool y from rb); exact SeqAt.EqAt.int_bool x t0 y
    | int y => obtain ⟨t, q⟩ := (show ∃ t, b = Value.int y t from rb); cases q; exact SeqAt.EqAt.int_int x t0 y t
    | str y => obtain ⟨t, q⟩ := (show ∃ t, b = Value.str y t from rb); cases q; exact SeqAt.EqAt.int_str x t0 y t
    | tup k1 k2 =>
      cases (show b = Value.ref _ from rb)
      obtain ⟨its, _, p, _⟩ := I.tuple k1
      exact SeqAt.EqAt.int_tuple x t0 p (by omega)
  | .str x, e, A, v, u, a, b, hd, he, ra, rb, hu => by
    cases hd
    obtain ⟨t0, q0⟩ := (show ∃ t, a = Value.str x t from ra)
    cases q0
    cases he with
    | non => cases (show b = Value.none from rb); exact SeqAt.EqAt.str_none x t0
    | bl y => cases (show b = Value.bool y from rb); exact SeqAt.EqAt.str_bool x t0 y
    | int y => obtain ⟨t, q⟩ := (show ∃ t, b = Value.int y t from rb); cases q; exact SeqAt.EqAt.str_int x t0 y t
    | str y => obtain ⟨t, q⟩ := (show ∃ t, b = Value.str y t from rb); cases q; exact SeqAt.EqAt.str_str x t0 y t
    | tup k1 k2 =>
      cases (show b = Value.ref _ from rb)
      obtain ⟨its, _, p, _⟩ := I.tuple k1
      exact SeqAt.EqAt.str_tuple x t0 p (by omega)
  | .tup ds, e, A, v, u, a, b, hd, he, ra, rb, hu => by
    cases hd with
    | @tup l vs _ h1 h2 =>
    cases (show a = Value.ref l from ra)
    obtain ⟨its, r1, p1, _⟩ := I.tuple h1
    cases he with
    | non => cases (show b = Value.none from rb); exact SeqAt.EqAt.tuple_none p1 (by omega)
    | bl y => cases (show b = Value.bool y from rb); exact SeqAt.EqAt.tuple_bool y p1 (by omega)
    | int y => obtain ⟨t, q⟩ := (show ∃ t, b = Value.int y t from rb); cases q; exact SeqAt.EqAt.tuple_int y t p1 (by omega)
    | str y => obtain ⟨t, q⟩ := (show ∃ t, b = Value.str y t from rb); cases q; exact SeqAt.EqAt.tuple_str y t p1 (by omega)
    | @tup l2 us es k1 k2 =>
      cases (show b = Value.ref l2 from rb)
      obtain ⟨its2, r2, p2, _⟩ := I.tuple k1
      by_cases hll : l = l2
      · subst hll
        cases I.tuple_inj h1 k1
        cases DTs.inj I ds es _ h2 k2
        rw [eqb_refl]
        exact SeqAt.EqAt.same _
      · have n1 : its.toArray.size = ds.length := by rw [List.size_toArray, ← r1.length, h2.length]
        have n2 : its2.toArray.size = es.length := by rw [List.size_toArray, ← r2.length, k2.length]
        show SeqAt.EqAt A s (.ref l) (.ref l2) (Dt.eqbs ds es)
        rw [← eqbs_all ds es, ← n1, ← n2]
        have hu' : A.in1.units + Dt.deeps ds < cLine := by
          rw [in1_units]
          unfold Dt.deep at hu
          omega
        refine SeqAt.EqAt.of_refs hll (SeqAt.RcAt.tuples p1 p2 (by unfold Dt.deep at hu; omega) fun j j1 j2 => ?_)
        have q := eqAtDs I ds es A.in1 vs us its its2 h2 k2 r1 r2 hu' j (by simpa using j1) (by simpa using j2)
        simpa using q
theorem eqAtDs (I : Inv X pins σ H s) : ∀ (ds es : List Dt) (A : Around) (vs us : List V) (as bs : List Value), DTs X.K H vs ds → DTs X.K H us es → Vals vs as → Vals us bs → A.units + Dt.deeps ds < cLine →
    ∀ j (h1 : j < as.length) (h2 : j < bs.length), SeqAt.EqAt A s as[j] bs[j] (pairD ds es j)
  | [], es, A, vs, us, as, bs, hd, he, ra, rb, hu, j, h1, h2 => by
    cases hd
    cases ra
    exact absurd h1 (Nat.not_lt_zero _)
  | d :: ds, es, A, vs, us, as, bs, hd, he, ra, rb, hu, j, h1, h2 => by
    cases hd with
    | cons x1 x2 =>
    cases ra with
    | cons r1 r2 =>
    unfold Dt.deeps at hu
    cases he with
    | nil =>
      cases rb
      exact absurd h2 (Nat.not_lt_zero _)
    | cons y1 y2 =>
      cases rb with
      | cons q1 q2 =>
        cases j with
        | zero => exact eqAtD I d _ A _ _ _ _ x1 y1 r1 q1 (by omega)
        | succ j => exact eqAtDs I ds _ A _ _ _ _ x2 y2 r2 q2 (by omega) j (Nat.lt_of_succ_lt_succ h1) (Nat.lt_of_succ_lt_succ h2)
end
end
/-- == of two tuples -/
def rEqT (K : PySem.W.Frag) : R2 := fun x y H Q => ∃ ds es, DT K H x (.tup ds) ∧ DT K H y (.tup es) ∧ Dt.deeps ds ≤ 60 ∧ Q (.bl (Dt.eqbs ds es)) H
theorem op_eqT {X : Cx} {K : PySem.W.Frag} (hK : X.K = K) (hu : X.A.units + 64 < cLine) : OpR X (compareOp .Eq) (rEqT K) := by
  subst hK
  intro pins s σ H x y v u Q I rx ry h
  obtain ⟨ds, es, hd, he, hz, q⟩ := h
  cases hd with
  | @tup l vs _ h1 h2 =>
  cases (show v = Value.ref l from rx)
  obtain ⟨its, r1, p1, _⟩ := I.tuple h1
  cases he with
  | @tup l2 us _ k1 k2 =>
  cases (show u = Value.ref l2 from ry)
  obtain ⟨its2, r2, p2, _⟩ := I.tuple k1
  have n1 : its.toArray.size = ds.length := by rw [List.size_toArray, ← r1.length, h2.length]
  have n2 : its2.toArray.size = es.length := by rw [List.size_toArray, ← r2.length, k2.length]
  have z : SeqAt.RcAt X.A s (.ref l) (.ref l2) (Dt.eqbs ds es) := by
    rw [← eqbs_all ds es, ← n1, ← n2]
    refine SeqAt.RcAt.tuples p1 p2 (by omega) fun j j1 j2 => ?_
    have q := eqAtDs I ds es X.A.in1 vs us its its2 h2 k2 r1 r2 (by rw [in1_units]; omega) j (by simpa using j1) (by simpa using j2)
    simpa using q
  exact z X.prog X.w X.xe _ ⟨.bl _, H, I, rfl, q⟩
end My

namespace My
open PySem L2 PySem.SeqAt
open PySem.AutoSeq1 (wpAny_loadPart')
open PySem.MeetsSeq PySem.MeetsSeq2 PySem.MeetsSeq3
/-- a < b of two tuples, where only the first unequal pair is asked for its order -/
theorem ltFirst (l b : Addr) (xs ys : Array Value) (n n2 : Nat) (dd dd2 : Option Addr) (sl sl2 : Array (Option Value)) (e r : Nat → Bool) :
    Meets (Builtin.«tuple.__lt__» ⟨[.ref l, .ref b], []⟩)
      (fun A R s => s.heap.get? l = some { cls := .type "tuple", dict := dd, data := .seq xs n, slots := sl } ∧ s.heap.get? b = some { cls := .type "tuple", dict := dd2, data := .seq ys n2, slots := sl2 } ∧
        (∀ j (k1 : j < xs.size) (k2 : j < ys.size), EqAt A.in1 s xs[j] ys[j] (e j)) ∧
        (∀ j (k1 : j < xs.size) (k2 : j < ys.size), (∀ i, i < j → e i = true) → e j = false → Ob.RcOp .Lt A.in1 s xs[j] ys[j] (r j)) ∧
        R (.ok (.ret (.bool (Ob.lexAt e r (decide (xs.size < ys.size)) 0 (min xs.size ys.size))))) s) :=
  .of_wp fun prog w A R s h => by
    obtain ⟨hp, g, d, tk, os⟩ := s
    obtain ⟨hl, hb, he, hr, h⟩ := h
    have f2 := AutoSeq1.sub_tuple_tuple
    have hZ : (xs.toList.zip ys.toList).length = min xs.size ys.size := by simp
    wp_walk using wpAny_loadPart' hl, wpAny_loadPart' hb, wpAny_forIn_list _ (fun rest acc s' => acc.1 = none ∧ s' = ⟨hp, g, d, tk, os⟩ ∧ ∃ i, rest = (xs.toList.zip ys.toList).drop i ∧ (∀ i', i' < i → e i' = true) ∧
      R (.ok (.ret (.bool (Ob.lexAt e r (decide (xs.size < ys.size)) i (min xs.size ys.size - i))))) ⟨hp, g, d, tk, os⟩) _
    case turn =>
      rintro ⟨y, x⟩ rest acc s' ⟨hacc, rfl, i, hz, hpre, hR⟩
      have hlt : i < (xs.toList.zip ys.toList).length := by
        apply Nat.lt_of_not_le
        intro hge
        rw [List.drop_of_length_le hge] at hz
        cases hz
      have hmin : i < min xs.size ys.size := by omega
      have k1 : i < xs.size := by omega
      have k2 : i < ys.size := by omega
      rw [List.drop_eq_getElem_cons hlt] at hz
      injection hz with hyx hrest
      have ey : y = xs[i] := by simpa using congrArg Prod.fst hyx
      have ex : x = ys[i] := by simpa using congrArg Prod.snd hyx
      subst ey ex
      rw [show min xs.size ys.size - i = (min xs.size ys.size - (i + 1)) + 1 by omega, Ob.lexAt_succ] at hR
      refine wpAny_bind (he i k1 k2 prog w _ _ ?_)
      cases hei : e i with
      | true =>
        rw [hei, if_pos rfl] at hR
        wp_walk
        refine ⟨rfl, rfl, i + 1, hrest, fun i' hi' => ?_, hR⟩
        by_cases q : i' = i
        · rw [q]; exact hei
        · exact hpre i' (by omega)
      | false =>
        rw [hei, if_neg Bool.false_ne_true] at hR
        have hri := hr i k1 k2 hpre hei prog w
        wp_walk using hri
        exact ⟨_, rfl, by simpa using hR⟩
    case fin =>
      rintro ⟨b1, b2⟩ s' ⟨hacc, rfl, i, hz, hpre, hR⟩
      simp only at hacc
      subst hacc
      have hge : min xs.size ys.size ≤ i := by
        apply Nat.le_of_not_lt
        intro hlt
        rw [List.drop_eq_getElem_cons (by omega)] at hz
        cases hz
      rw [Nat.sub_eq_zero_of_le hge, Ob.lexAt_zero] at hR
      wp_walk
      exact ⟨_, rfl, by simpa [Builtin.Tuple.tupleCompareSizes] using hR⟩
    case h =>
      exact ⟨rfl, rfl, 0, rfl, fun i' hi' => absurd hi' (Nat.not_lt_zero _), by simpa using h⟩
theorem rcFirst {A : Around} {s : Shared} {l b : Addr} {xs ys : Array Value} {e r : Nat → Bool} (hl : s.heap.IsTuple l xs) (hb : s.heap.IsTuple b ys) (hu : A.units < cLine)
    (he : ∀ j (k1 : j < xs.size) (k2 : j < ys.size), EqAt A.in1 s xs[j] ys[j] (e j))
    (hr : ∀ j (k1 : j < xs.size) (k2 : j < ys.size), (∀ i, i < j → e i = true) → e j = false → Ob.RcOp .Lt A.in1 s xs[j] ys[j] (r j)) :
    Ob.RcOp .Lt A s (.ref l) (.ref b) (Ob.lexAt e r (decide (xs.size < ys.size)) 0 (min xs.size ys.size)) := fun prog w E Q h => by
  obtain ⟨⟨c1, d1, t1, s1⟩, o1, z1, n, y1⟩ := id hl
  obtain ⟨⟨c2, d2, t2, s2⟩, o2, z2, n2, y2⟩ := id hb
  simp only at z1 y1 z2 y2
  subst z1 y1 z2 y2
  refine richCompare_meets_room (op := .Lt) ⟨_, o1, rfl⟩ ⟨_, o2, rfl⟩ F.slot_tuple_lt F.entry_tuple_lt (F.args_tuple_lt_2 _ _) (ltFirst l b xs ys n n2 d1 d2 s1 s2 e r) ?_ hu
  exact ⟨o1, o2, he, hr, ⟨(fun x => nomatch x), h⟩⟩

/-! ### the order of plain data -/
mutual
def Dt.lt? : Dt → Dt → Option Bool
  | .int a, e => match e with | .int b => some (decide (a < b)) | _ => none
  | .str a, e => match e with | .str b => some (decide (a.cps.toList < b.cps.toList)) | _ => none
  | .tup xs, e => match e with | .tup ys => Dt.lts? xs ys | _ => none
  | .non, _ => none
  | .bl _, _ => none
def Dt.lts? : List Dt → List Dt → Option Bool
  | [], ys => some (!ys.isEmpty)
  | x :: xs, ys => match ys with | [] => some false | y :: r => if Dt.eqb x y = true then Dt.lts? xs r else Dt.lt? x y
end
abbrev ordD (xs ys : List Dt) (j : Nat) : Bool := (Dt.lt? (xs.getD j .non) (ys.getD j .non)).getD false
theorem lexAt_shift {e r : Nat → Bool} {z : Bool} : ∀ (k i : Nat), Ob.lexAt (fun j => e (j + 1)) (fun j => r (j + 1)) z i k = Ob.lexAt e r z (i + 1) k
  | 0, i => rfl
  | k + 1, i => by
    rw [Ob.lexAt_succ, Ob.lexAt_succ, lexAt_shift k (i + 1)]
theorem lts_lex : ∀ (xs ys : List Dt) (b : Bool), Dt.lts? xs ys = some b → Ob.lexAt (pairD xs ys) (ordD xs ys) (decide (xs.length < ys.length)) 0 (min xs.length ys.length) = b
  | [], [], b, h => by simpa [Dt.lts?, Ob.lexAt_zero] using h
  | [], y :: ys, b, h => by simpa [Dt.lts?, Ob.lexAt_zero] using h
  | x :: xs, [], b, h => by simpa [Dt.lts?, Ob.lexAt_zero] using h
  | x :: xs, y :: ys, b, h => by
    rw [Dt.lts?] at h
    have q1 : min (x :: xs).length (y :: ys).length = min xs.length ys.length + 1 := by rw [List.length_cons, List.length_cons]; omega
    have q2 : decide ((x :: xs).length < (y :: ys).length) = decide (xs.length < ys.length) := by simp
    rw [q1, q2, Ob.lexAt_succ]
    by_cases c : Dt.eqb x y = true
    · rw [if_pos c] at h
      have c' : pairD (x :: xs) (y :: ys) 0 = true := c
      rw [if_pos c', ← lexAt_shift]
      exact lts_lex xs ys b h
    · rw [if_neg c] at h
      have c' : ¬ pairD (x :: xs) (y :: ys) 0 = true := c
      rw [if_neg c']
      show (Dt.lt? x y).getD false = b
      rw [h]
      rfl
section
variable {X : Cx} {pins : List (Addr × Obj)} {σ : St} {H : Hp} {s : Shared}
mutual
theorem ltAtD (I : Inv X pins σ H s) : ∀ (d e : Dt) (A : Around) (v u : V) (a b : Value) (k : Bool), DT X.K H v d → DT X.K H u e → RelV v a → RelV u b → A.units + d.deep < cLine → Dt.lt? d e = some k → Ob.RcOp .Lt A s a b k
  | .non, e, A, v, u, a, b, k, hd, he, ra, rb, hu, hk => by cases hk
  | .bl x, e, A, v, u, a, b, k, hd, he, ra, rb, hu, hk => by cases hk
  | .int x, e, A, v, u, a, b, k, hd, he, ra, rb, hu, hk => by
    cases hd
    obtain ⟨t0, q0⟩ := (show ∃ t, a = Value.int x t from ra)
    cases q0
    cases he with
    | int y =>
      obtain ⟨t, q⟩ := (show ∃ t, b = Value.int y t from rb)
      cases q
      cases (show some (decide (x < y)) = some k from hk)
      exact Ob.RcOp.lt_int x y t0 t
    | _ => cases hk
  | .str x, e, A, v, u, a, b, k, hd, he, ra, rb, hu, hk => by
    cases hd
    obtain ⟨t0, q0⟩ := (show ∃ t, a = Value.str x t from ra)
    cases q0
    cases he with
    | str y =>
      obtain ⟨t, q⟩ := (show ∃ t, b = Value.str y t from rb)
      cases q
      cases (show some (decide (x.cps.toList < y.cps.toList)) = some k from hk)
      exact fun prog w E Q h => PyProof.Rows.lt_str h
    | _ => cases hk
  | .tup ds, e, A, v, u, a, b, k, hd, he, ra, rb, hu, hk => by
    cases hd with
    | @tup l vs _ h1 h2 =>
    cases (show a = Value.ref l from ra)
    obtain ⟨its, r1, p1, _⟩ := I.tuple h1
    cases he with
    | @tup l2 us es k1 k2 =>
      cases (show b = Value.ref l2 from rb)
      obtain ⟨its2, r2, p2, _⟩ := I.tuple k1
      have n1 : its.toArray.size = ds.length := by rw [List.size_toArray, ← r1.length, h2.length]
      have n2 : its2.toArray.size = es.length := by rw [List.size_toArray, ← r2.length, k2.length]
      have hk' : Dt.lts? ds es = some k := hk
      rw [← lts_lex ds es k hk', ← n1, ← n2]
      have hu' : A.in1.units + Dt.deeps ds < cLine := by
        rw [in1_units]
        unfold Dt.deep at hu
        omega
      refine rcFirst p1 p2 (by unfold Dt.deep at hu; omega) (fun j j1 j2 => ?_) (fun j j1 j2 jp jf => ?_)
      · have q := eqAtDs I ds es A.in1 vs us its its2 h2 k2 r1 r2 hu' j (by simpa using j1) (by simpa using j2)
        simpa using q
      · have q := ltAtDs I ds es A.in1 vs us its its2 k h2 k2 r1 r2 hu' hk' j (by simpa using j1) (by simpa using j2) jp jf
        simpa using q
    | _ => cases hk
theorem ltAtDs (I : Inv X pins σ H s) : ∀ (ds es : List Dt) (A : Around) (vs us : List V) (as bs : List Value) (k : Bool), DTs X.K H vs ds → DTs X.K H us es → Vals vs as → Vals us bs → A.units + Dt.deeps ds < cLine → Dt.lts? ds es = some k →
    ∀ j (h1 : j < as.length) (h2 : j < bs.length), (∀ i, i < j → pairD ds es i = true) → pairD ds es j = false → Ob.RcOp .Lt A s as[j] bs[j] (ordD ds es j)
  | [], es, A, vs, us, as, bs, k, hd, he, ra, rb, hu, hk, j, h1, h2, jp, jf => by
    cases hd
    cases ra
    exact absurd h1 (Nat.not_lt_zero _)
  | d :: ds, es, A, vs, us, as, bs, k, hd, he, ra, rb, hu, hk, j, h1, h2, jp, jf => by
    cases hd with
    | cons x1 x2 =>
    cases ra with
    | cons r1 r2 =>
    unfold Dt.deeps at hu
    cases he with
    | nil =>
      cases rb
      exact absurd h2 (Nat.not_lt_zero _)
    | @cons _ _ e es' y1 y2 =>
      cases rb with
      | cons q1 q2 =>
        rw [Dt.lts?] at hk
        cases j with
        | zero =>
          have c : ¬ Dt.eqb d e = true := by
            have : Dt.eqb d e = false := jf
            rw [this]; exact Bool.false_ne_true
          rw [if_neg c] at hk
          have z := ltAtD I d e A _ _ _ _ k x1 y1 r1 q1 (by omega) hk
          have ek : ordD (d :: ds) (e :: es') 0 = k := by
            show (Dt.lt? d e).getD false = k
            rw [hk]; rfl
          rw [ek]
          exact z
        | succ j =>
          have c : Dt.eqb d e = true := jp 0 (Nat.succ_pos _)
          rw [if_pos c] at hk
          exact ltAtDs I ds es' A _ _ _ _ k x2 y2 r2 q2 (by omega) hk j (Nat.lt_of_succ_lt_succ h1) (Nat.lt_of_succ_lt_succ h2) (fun i hi => jp (i + 1) (Nat.succ_lt_succ hi)) jf
end
end
/-- < of two tuples -/
def rLtTD (K : PySem.W.Frag) : R2 := fun x y H Q => ∃ ds es k, DT K H x (.tup ds) ∧ DT K H y (.tup es) ∧ Dt.deeps ds ≤ 60 ∧ Dt.lts? ds es = some k ∧ Q (.bl k) H
theorem op_ltTD {X : Cx} {K : PySem.W.Frag} (hK : X.K = K) (hu : X.A.units + 64 < cLine) : OpR X (compareOp .Lt) (rLtTD K) := by
  subst hK
  intro pins s σ H x y v u Q I rx ry h
  obtain ⟨ds, es, k, hd, he, hz, hk, q⟩ := h
  exact ltAtD I (.tup ds) (.tup es) X.A x y v u k hd he rx ry (by unfold Dt.deep; omega) hk X.prog X.w X.xe _ ⟨.bl _, H, I, rfl, q⟩
end My

namespace My
open PySem L2
/-! ### keys -/
def allIn (cs gs : List Nat) : Bool := cs.all fun c => decide (c ∈ gs)
def firstC : List Nat := (Str.ofString "abcdefghijklmnopqrstuvwxyz").cps.toList
def keyC : List Nat := (Str.ofString "abcdefghijklmnopqrstuvwxyzABCDEFGHIJKLMNOPQRSTUVWXYZ0123456789-").cps.toList
/-- what a key is, by its signs -/
def isKeyC (cs : List Nat) : Bool := decide (cs ≠ []) && decide (cs.length ≤ 16) && decide (cs.headD 0 ∈ firstC) && allIn cs keyC
theorem isKeyC_no {cs : List Nat} (h : cs = [] ∨ 16 < cs.length) : isKeyC cs = false := by
  unfold isKeyC
  rcases h with rfl | h
  · rfl
  · rw [decide_eq_false (p := cs.length ≤ 16) (by omega)]
    simp
theorem isKeyC_yes {cs : List Nat} {c : Nat} (h0 : cs[0]? = some c) (h : cs.length ≤ 16) : isKeyC cs = (decide (c ∈ firstC) && allIn cs keyC) := by
  cases cs with
  | nil => simp at h0
  | cons a r =>
    have e : a = c := by simpa using h0
    subst e
    unfold isKeyC
    rw [decide_eq_true h, decide_eq_true (by simp)]
    simp
theorem isKeyC_iff {cs : List Nat} : isKeyC cs = true ↔ ∃ c r, cs = c :: r ∧ c ∈ firstC ∧ cs.length ≤ 16 ∧ ∀ d ∈ cs, d ∈ keyC := by
  constructor
  · intro h
    unfold isKeyC at h
    simp only [Bool.and_eq_true, decide_eq_true_eq] at h
    obtain ⟨⟨⟨h1, h2⟩, h3⟩, h4⟩ := h
    obtain ⟨c, r, rfl⟩ := List.exists_cons_of_ne_nil h1
    refine ⟨c, r, rfl, h3, h2, fun d hd => ?_⟩
    unfold allIn at h4
    exact of_decide_eq_true (List.all_eq_true.mp h4 d hd)
  · rintro ⟨c, r, rfl, h1, h2, h3⟩
    unfold isKeyC
    simp only [Bool.and_eq_true, decide_eq_true_eq]
    refine ⟨⟨⟨by simp, h2⟩, h1⟩, ?_⟩
    unfold allIn
    rw [List.all_eq_true]
    exact fun d hd => decide_eq_true (h3 d hd)
/-- the key of a text -/
def KeyT (z : Str) : Prop := isKeyC z.cps.toList = true
theorem KeyT.len {z : Str} (h : KeyT z) : z.length ≤ 16 := by
  obtain ⟨c, r, e, _, h2, _⟩ := isKeyC_iff.mp h
  rw [len_codes] at h2
  exact h2
theorem keyC_sg : ∀ c ∈ keyC, Sg c ∧ c ≠ 32 ∧ c ≠ 34 ∧ c ≠ 46 := by decide +kernel
theorem KeyT.sg {z : Str} (h : KeyT z) : SgT z := fun c hc => by
  obtain ⟨_, r, e, _, _, h3⟩ := isKeyC_iff.mp h
  exact (keyC_sg c (h3 c hc)).1
/-- more signs behind a key -/
theorem KeyT.app {z u : Str} (h : KeyT z) (hu : ∀ c ∈ u.cps.toList, c ∈ keyC) (hl : z.length + u.length ≤ 16) : KeyT (z ++ u) := by
  obtain ⟨c, r, e, h1, h2, h3⟩ := isKeyC_iff.mp h
  refine isKeyC_iff.mpr ⟨c, r ++ u.cps.toList, ?_, h1, ?_, fun d hd => ?_⟩
  · rw [app_codes, e]; rfl
  · rw [len_codes, app_len]; exact hl
  · rw [app_codes] at hd
    exact (List.mem_append.mp hd).elim (h3 d) (hu d)
theorem KeyT.cut {z : Str} (h : KeyT z) {n : Int} (h1 : 1 ≤ n) : KeyT (cutS z none (some n)) := by
  obtain ⟨c, r, e, h1', h2, h3⟩ := isKeyC_iff.mp h
  have ec := cut_pre z (a := n) (by omega)
  obtain ⟨m, hm⟩ : ∃ m, n.toNat = m + 1 := ⟨n.toNat - 1, by omega⟩
  refine isKeyC_iff.mpr ⟨c, r.take m, ?_, h1', ?_, fun d hd => h3 d ?_⟩
  · rw [ec, e, hm]; rfl
  · rw [ec, List.length_take]
    omega
  · rw [ec] at hd
    exact List.mem_of_mem_take hd
theorem KeyT.one {c : Nat} (h : c ∈ firstC) : KeyT ⟨#[c]⟩ := isKeyC_iff.mpr ⟨c, [], rfl, h, (by show 1 ≤ 16; decide), fun d hd => by
  have e : d = c := by simpa using hd
  subst e
  have z : ∀ c ∈ firstC, c ∈ keyC := by decide +kernel
  exact z d h⟩
def resL : List Str := [Str.ofString "hook", Str.ofString "each", Str.ofString "when", Str.ofString "then", Str.ofString "and", Str.ofString "or", Str.ofString "not", Str.ofString "has", Str.ofString "set", Str.ofString "default", Str.ofString "from", Str.ofString "remove", Str.ofString "reject", Str.ofString "true", Str.ofString "false"]
end My

namespace My
open PySem L2
/-! ### slices and sums of tuples, one way -/
section
variable {K : PySem.W.Frag} {H : Hp}
theorem slA_of {a : Addr} {xs : List V} {lo hi : Option Int} {Q : VK} (h : SqT K H a xs) (q : ∀ p H', Same H H' → SqT K H' p (cutV xs lo hi) → Q (.ref p) H') : rSlA K (.ref a) lo hi H Q := by
  refine ⟨a, xs, rfl, h, fun e => q a H (Same.refl H) ?_, fun _ p hp => q p _ (same_new hp _) (SqT.of upd_same)⟩
  have ec : cutV xs lo hi = xs := by
    unfold cutV
    rw [e.1, e.2, List.drop_zero, Nat.sub_zero, List.take_length]
  rw [ec]
  exact h
theorem catA_of {a b : Addr} {xs ys : List V} {Q : VK} (h : SqT K H a xs) (k : SqT K H b ys) (hl : xs.length + ys.length ≤ sizeLine) (q : ∀ p H', Same H H' → SqT K H' p (xs ++ ys) → Q (.ref p) H') : rCatA K (.ref a) (.ref b) H Q := by
  refine ⟨a, b, xs, ys, rfl, rfl, h, k, hl, fun e => ?_, fun _ e => ?_, fun _ _ p hp => q p _ (same_new hp _) (SqT.of upd_same)⟩
  · subst e
    exact q b H (Same.refl H) k
  · subst e
    refine q a H (Same.refl H) ?_
    rw [List.append_nil]
    exact h
end
/-! ### data of the model stand as long as nothing changes -/
mutual
theorem Dp.mono {K : PySem.W.Frag} {H H' : Hp} (k : ∀ a xs, SqT K H a xs → SqT K H' a xs) (k2 : ∀ a xs, SqL K H a xs → SqL K H' a xs) : ∀ (d : PyData) (v : V), Dp K H v d → Dp K H' v d
  | .none, _, h => by cases h; exact .non
  | .bool b, _, h => by cases h; exact .bl _
  | .int b, _, h => by cases h; exact .int _
  | .str b, _, h => by cases h; exact .str _
  | .list ds, _, h => by
    cases h with
    | lst h1 h2 => exact .lst (k2 _ _ h1) (DpAll.mono k k2 ds _ h2)
  | .tuple ds, _, h => by
    cases h with
    | tup h1 h2 => exact .tup (k _ _ h1) (DpAll.mono k k2 ds _ h2)
  | .dict _, _, h => by cases h
theorem DpAll.mono {K : PySem.W.Frag} {H H' : Hp} (k : ∀ a xs, SqT K H a xs → SqT K H' a xs) (k2 : ∀ a xs, SqL K H a xs → SqL K H' a xs) : ∀ (ds : List PyData) (vs : List V), DpAll K H vs ds → DpAll K H' vs ds
  | [], _, h => by cases h; exact .nil
  | d :: ds, _, h => by
    cases h with
    | cons h1 h2 => exact .cons (Dp.mono k k2 d _ h1) (DpAll.mono k k2 ds _ h2)
end
theorem _root_.L2.Dp.same {K : PySem.W.Frag} {H H' : Hp} {d : PyData} {v : V} (h : Dp K H v d) (e : Same H H') : Dp K H' v d := Dp.mono (fun _ _ q => e.seqT q) (fun _ _ q => e.seq q) d v h
theorem _root_.L2.DpAll.same {K : PySem.W.Frag} {H H' : Hp} {d : List PyData} {v : List V} (h : DpAll K H v d) (e : Same H H') : DpAll K H' v d := DpAll.mono (fun _ _ q => e.seqT q) (fun _ _ q => e.seq q) d v h
theorem _root_.L2.DpAll.append {K : PySem.W.Frag} {H : Hp} {vs us : List V} {ds es : List PyData} (h : DpAll K H vs ds) (k : DpAll K H us es) : DpAll K H (vs ++ us) (ds ++ es) := by
  induction ds generalizing vs with
  | nil => cases h; exact k
  | cons d ds ih =>
    cases h with
    | cons h1 h2 => exact .cons h1 (ih h2)
/-- the order of alike data -/
def rLtP (K : PySem.W.Frag) : R2 := fun x y H Q => ∃ d e, Dp K H x d ∧ Dp K H y e ∧ PySem.W.alike d e = true ∧ d ≠ .none ∧ d.depth ≤ 60 ∧ Q (.bl (PySem.W.dataLt d e)) H
def rGtP (K : PySem.W.Frag) : R2 := fun x y H Q => ∃ d e, Dp K H x d ∧ Dp K H y e ∧ PySem.W.alike d e = true ∧ d ≠ .none ∧ d.depth ≤ 60 ∧ Q (.bl (PySem.W.dataLt e d)) H
section
variable {X : Cx} {K : PySem.W.Frag}
theorem op_ltP (hK : X.K = K) (hu : X.A.units + 64 < cLine) : OpR X (compareOp .Lt) (rLtP K) := by
  subst hK
  intro pins s σ H x y v u Q I rx ry h
  obtain ⟨d, e, hd, he, ha, hn, hz, q⟩ := h
  obtain ⟨as, r1⟩ := L2.Dp.reads I d x v hd rx
  obtain ⟨bs, r2⟩ := L2.Dp.reads I e y u he ry
  exact PySem.W.lt_data r1 r2 ha hn (by have := Nat.min_le_left d.depth e.depth; omega) ⟨.bl _, H, I, rfl, q⟩
theorem op_gtP (hK : X.K = K) (hu : X.A.units + 64 < cLine) : OpR X (compareOp .Gt) (rGtP K) := by
  subst hK
  intro pins s σ H x y v u Q I rx ry h
  obtain ⟨d, e, hd, he, ha, hn, hz, q⟩ := h
  obtain ⟨as, r1⟩ := L2.Dp.reads I d x v hd rx
  obtain ⟨bs, r2⟩ := L2.Dp.reads I e y u he ry
  exact PySem.W.gt_data r1 r2 ha hn (by have := Nat.min_le_left d.depth e.depth; omega) ⟨.bl _, H, I, rfl, q⟩
end
/-! ### the order of texts -/
def rkT (z : Str) : List Dt := [.int z.length, .str z]
/-- -1, 0, 1 -/
def cmpD (ds es : List Dt) : Int := if Dt.eqbs ds es = true then 0 else if Dt.lts? ds es = some true then -1 else 1
def ltC (a b : List Nat) : Prop := a.length < b.length ∨ (a.length = b.length ∧ a < b)
instance (a b : List Nat) : Decidable (ltC a b) := by unfold ltC; exact inferInstance
def cmpC (a b : List Nat) : Int := if a = b then 0 else if ltC a b then -1 else 1
theorem ltC_irrefl (a : List Nat) : ¬ ltC a a := fun h => h.elim (fun q => Nat.lt_irrefl _ q) (fun q => List.lt_irrefl _ q.2)
theorem ltC_asymm {a b : List Nat} (h : ltC a b) : ¬ ltC b a := fun k => by
  rcases h with h | ⟨h, h'⟩ <;> rcases k with k | ⟨k, k'⟩
  · omega
  · omega
  · omega
  · exact List.lt_asymm h' k'
theorem ltC_total {a b : List Nat} (h : a ≠ b) : ltC a b ∨ ltC b a := by
  rcases Nat.lt_trichotomy a.length b.length with k | k | k
  · exact .inl (.inl k)
  · by_cases c : a < b
    · exact .inl (.inr ⟨k, c⟩)
    · have c' : b ≤ a := List.not_lt.mp c
      rcases List.le_iff_lt_or_eq.mp c' with d | d
      · exact .inr (.inr ⟨k.symm, d⟩)
      · exact absurd d.symm h
  · exact .inr (.inl k)
theorem eqbs_rkT (a b : Str) : Dt.eqbs (rkT a) (rkT b) = decide (a.cps.toList = b.cps.toList) := by
  by_cases c : a.cps.toList = b.cps.toList
  · have e := str_ext c
    subst e
    rw [eqbs_refl, decide_eq_true rfl]
  · rw [decide_eq_false c]
    show (((a.length : Int) == (b.length : Int)) && ((a == b) && true)) = false
    have e : (a == b) = false := by
      rw [beq_eq_false_iff_ne]
      intro q
      exact c (by rw [q])
    rw [e]
    simp
theorem lts_rkT (a b : Str) (h : a.cps.toList ≠ b.cps.toList) : Dt.lts? (rkT a) (rkT b) = some (decide (ltC a.cps.toList b.cps.toList)) := by
  have la := len_codes a
  have lb := len_codes b
  show (if Dt.eqb (.int a.length) (.int b.length) = true then (if Dt.eqb (.str a) (.str b) = true then Dt.lts? [] [] else some (decide (a.cps.toList < b.cps.toList))) else some (decide ((a.length : Int) < (b.length : Int)))) = _
  have e1 : Dt.eqb (.int a.length) (.int b.length) = decide (a.length = b.length) := by
    show ((a.length : Int) == (b.length : Int)) = _
    rw [Bool.beq_eq_decide_eq]
    exact decide_eq_decide.mpr ⟨by omega, by omega⟩
  have e2 : Dt.eqb (.str a) (.str b) = false := by
    show (a == b) = false
    rw [beq_eq_false_iff_ne]
    intro q
    exact h (by rw [q])
  rw [e1, e2]
  by_cases c : a.length = b.length
  · rw [decide_eq_true c, if_pos rfl, if_neg Bool.false_ne_true]
    congr 1
    exact decide_eq_decide.mpr ⟨fun q => .inr ⟨by rw [la, lb]; exact c, q⟩, fun q => Or.elim q (fun z => absurd z (by omega)) (·.2)⟩
  · rw [decide_eq_false c, if_neg Bool.false_ne_true]
    congr 1
    exact decide_eq_decide.mpr ⟨fun q => .inl (by omega), fun q => Or.elim q (fun z => by omega) (fun z => absurd z.1 (by omega))⟩
theorem lts_same (ds : List Dt) : Dt.lts? ds ds = some false := by
  induction ds with
  | nil => rfl
  | cons d ds ih => rw [Dt.lts?, if_pos (eqb_refl d), ih]
theorem lts_rkT_any (a b : Str) : ∃ k, Dt.lts? (rkT a) (rkT b) = some k := by
  by_cases c : a.cps.toList = b.cps.toList
  · rw [str_ext c]
    exact ⟨_, lts_same _⟩
  · exact ⟨_, lts_rkT a b c⟩
theorem cmpD_rkT (a b : Str) : cmpD (rkT a) (rkT b) = cmpC a.cps.toList b.cps.toList := by
  unfold cmpD cmpC
  rw [eqbs_rkT]
  by_cases c : a.cps.toList = b.cps.toList
  · rw [decide_eq_true c, if_pos rfl, if_pos c]
  · rw [decide_eq_false c, if_neg Bool.false_ne_true, if_neg c, lts_rkT a b c]
    by_cases d : ltC a.cps.toList b.cps.toList
    · rw [decide_eq_true d, if_pos rfl, if_pos d]
    · rw [decide_eq_false d, if_neg (by intro z; cases z), if_neg d]
/-! ### the order of paths -/
/-- the path as comes first -/
def ltP : List Str → List Str → Bool
  | [], bs => !bs.isEmpty
  | a :: as, bs => match bs with
    | [] => false
    | b :: bs => if a = b then ltP as bs else decide (ltC a.cps.toList b.cps.toList)
def cmpP (as bs : List Str) : Int := if as = bs then 0 else if ltP as bs = true then -1 else 1
theorem codes_ne {a b : Str} (h : a ≠ b) : a.cps.toList ≠ b.cps.toList := fun q => h (str_ext q)
theorem ltP_irrefl : ∀ as, ltP as as = false
  | [] => rfl
  | a :: as => by rw [ltP, if_pos rfl, ltP_irrefl as]
theorem ltP_asymm : ∀ as bs, ltP as bs = true → ltP bs as = false
  | [], [], h => rfl
  | [], b :: bs, h => rfl
  | a :: as, [], h => by cases h
  | a :: as, b :: bs, h => by
    rw [ltP] at h ⊢
    by_cases c : a = b
    · subst c
      rw [if_pos rfl] at h ⊢
      exact ltP_asymm as bs h
    · rw [if_neg c] at h
      rw [if_neg (fun q => c q.symm)]
      exact decide_eq_false (ltC_asymm (of_decide_eq_true h))
theorem ltP_total : ∀ as bs, as ≠ bs → ltP as bs = true ∨ ltP bs as = true
  | [], [], h => absurd rfl h
  | [], b :: bs, h => .inl rfl
  | a :: as, [], h => .inr rfl
  | a :: as, b :: bs, h => by
    rw [ltP, ltP]
    by_cases c : a = b
    · subst c
      rw [if_pos rfl, if_pos rfl]
      exact ltP_total as bs fun q => h (by rw [q])
    · rw [if_neg c, if_neg (fun q => c q.symm)]
      exact (ltC_total (codes_ne c)).imp decide_eq_true decide_eq_true
theorem cmpP_sign (as bs : List Str) : cmpP as bs = (if ltP bs as = true then (1 : Int) else 0) - (if ltP as bs = true then 1 else 0) := by
  unfold cmpP
  by_cases c : as = bs
  · subst c
    rw [if_pos rfl, ltP_irrefl]
    rfl
  · rw [if_neg c]
    by_cases d : ltP as bs = true
    · rw [if_pos d, if_pos d, ltP_asymm _ _ d]
      rfl
    · have e := (ltP_total as bs c).resolve_left d
      rw [if_neg d, if_neg d, if_pos e]
      rfl
/-- what orders paths -/
def rkP (ks : List Str) : List Dt := ks.map fun k => .tup (rkT k)
theorem eqbs_rkP : ∀ as bs, Dt.eqbs (rkP as) (rkP bs) = decide (as = bs)
  | [], [] => rfl
  | [], b :: bs => rfl
  | a :: as, [] => rfl
  | a :: as, b :: bs => by
    have ih := eqbs_rkP as bs
    show (Dt.eqbs (rkT a) (rkT b) && Dt.eqbs (rkP as) (rkP bs)) = _
    rw [ih, eqbs_rkT, ← Bool.decide_and]
    exact decide_eq_decide.mpr ⟨fun q => by rw [str_ext q.1, q.2], fun q => by cases q; exact ⟨rfl, rfl⟩⟩
theorem lts_rkP : ∀ as bs, Dt.lts? (rkP as) (rkP bs) = some (ltP as bs)
  | [], [] => rfl
  | [], b :: bs => rfl
  | a :: as, [] => rfl
  | a :: as, b :: bs => by
    have ih := lts_rkP as bs
    show (if Dt.eqbs (rkT a) (rkT b) = true then Dt.lts? (rkP as) (rkP bs) else Dt.lts? (rkT a) (rkT b)) = _
    rw [eqbs_rkT, ih, ltP]
    by_cases c : a = b
    · subst c
      rw [decide_eq_true rfl, if_pos rfl, if_pos rfl]
    · rw [decide_eq_false (codes_ne c), if_neg Bool.false_ne_true, if_neg c, lts_rkT a b (codes_ne c)]
theorem cmpD_rkP (as bs : List Str) : cmpD (rkP as) (rkP bs) = cmpP as bs := by
  unfold cmpD cmpP
  rw [eqbs_rkP, lts_rkP]
  by_cases c : as = bs
  · rw [decide_eq_true c, if_pos rfl, if_pos c]
  · rw [decide_eq_false c, if_neg Bool.false_ne_true, if_neg c]
    by_cases d : ltP as bs = true
    · rw [d, if_pos rfl, if_pos rfl]
    · rw [if_neg d, if_neg]
      intro z
      exact d (Option.some.inj z)
theorem deeps_rkP : ∀ ks : List Str, Dt.deeps (rkP ks) ≤ 2
  | [] => by decide
  | k :: ks => by
    have := deeps_rkP ks
    have e : Dt.deep (.tup (rkT k)) = 2 := rfl
    show max (Dt.deep (.tup (rkT k))) (Dt.deeps (rkP ks)) ≤ 2
    omega
/-! ### the same as data of the model -/
def dK (k : Str) : PyData := .tuple [.int k.length, .str k]
theorem alike_dK (a b : Str) : PySem.W.alike (dK a) (dK b) = true := rfl
theorem eqv_dK (a b : Str) : PyData.eqv (dK a) (dK b) = decide (a = b) := by
  show (((a.length : Int) == (b.length : Int)) && ((a == b) && true)) = _
  by_cases c : a = b
  · subst c; simp
  · have e : (a == b) = false := by rw [beq_eq_false_iff_ne]; exact c
    rw [e, decide_eq_false c]
    simp
theorem dataLt_dK (a b : Str) (h : a ≠ b) : PySem.W.dataLt (dK a) (dK b) = decide (ltC a.cps.toList b.cps.toList) := by
  have la := len_codes a
  have lb := len_codes b
  show PySem.W.dataLt (.tuple [.int a.length, .str a]) (.tuple [.int b.length, .str b]) = _
  rw [PySem.W.dataLt_pair rfl rfl, PySem.W.dataLt_int, PySem.W.dataLt_str]
  have e1 : PyData.eqv (.int a.length) (.int b.length) = decide (a.length = b.length) := by
    show ((a.length : Int) == (b.length : Int)) = _
    rw [Bool.beq_eq_decide_eq]
    exact decide_eq_decide.mpr ⟨by omega, by omega⟩
  have e2 : PyData.eqv (.str a) (.str b) = false := by
    show (a == b) = false
    rw [beq_eq_false_iff_ne]
    exact h
  rw [e1, e2, if_neg Bool.false_ne_true]
  by_cases c : a.length = b.length
  · rw [decide_eq_true c, if_pos rfl]
    exact decide_eq_decide.mpr ⟨fun q => .inr ⟨by rw [la, lb]; exact c, q⟩, fun q => Or.elim q (fun z => absurd z (by omega)) (·.2)⟩
  · rw [decide_eq_false c, if_neg Bool.false_ne_true]
    exact decide_eq_decide.mpr ⟨fun q => .inl (by omega), fun q => Or.elim q (fun z => by omega) (fun z => absurd z.1 (by omega))⟩
theorem alike_rows : ∀ as bs : List Str, PySem.W.alikeAll (as.map dK) (bs.map dK) = true
  | [], bs => by cases bs <;> rfl
  | a :: as, [] => rfl
  | a :: as, b :: bs => by
    rw [List.map_cons, List.map_cons, PySem.W.alikeAll, alike_dK, alike_rows as bs]
    rfl
theorem rowLt_rows : ∀ as bs : List Str, PySem.W.dataLt (.list (as.map dK)) (.list (bs.map dK)) = ltP as bs
  | [], [] => rfl
  | [], b :: bs => rfl
  | a :: as, [] => rfl
  | a :: as, b :: bs => by
    have ih := rowLt_rows as bs
    rw [PySem.W.dataLt_list] at ih ⊢
    rw [List.map_cons, List.map_cons, PySem.W.dataLt_cons (alike_dK a b), eqv_dK, ih, ltP]
    by_cases c : a = b
    · rw [decide_eq_true c, if_pos rfl, if_pos c]
    · rw [decide_eq_false c, if_neg Bool.false_ne_true, if_neg c, dataLt_dK a b c]
theorem depth_rows : ∀ as : List Str, PyData.depthAll (as.map dK) ≤ 1
  | [] => by decide
  | a :: as => by
    have := depth_rows as
    rw [List.map_cons, PyData.depthAll]
    have e : PyData.depth (dK a) = 1 := rfl
    omega
theorem depth_list (as : List Str) : PyData.depth (.list (as.map dK)) ≤ 60 := by
  have := depth_rows as
  rw [PyData.depth]
  omega
/-- paths as data -/
def ptD (ks : List Str) : Dt := .tup (ks.map .str)
theorem eqbs_strs : ∀ as bs : List Str, Dt.eqbs (as.map .str) (bs.map .str) = decide (as = bs)
  | [], [] => rfl
  | [], b :: bs => rfl
  | a :: as, [] => rfl
  | a :: as, b :: bs => by
    have ih := eqbs_strs as bs
    show ((a == b) && Dt.eqbs (as.map .str) (bs.map .str)) = _
    rw [ih]
    by_cases c : a = b
    · subst c
      simp
    · have e : (a == b) = false := by rw [beq_eq_false_iff_ne]; exact c
      rw [e, Bool.false_and, decide_eq_false]
      intro q
      cases q
      exact c rfl
theorem DTs.strs_inv {K : PySem.W.Frag} {H : Hp} {vs : List V} {ws : List Str} (h : DTs K H vs (ws.map Dt.str)) : vs = ws.map V.str := by
  induction ws generalizing vs with
  | nil => cases h; rfl
  | cons w ws ih =>
    cases h with
    | cons h1 h2 => cases h1; rw [ih h2]; rfl
/-- rows of a rank hold no list -/
theorem DpAll.rows {K : PySem.W.Frag} {H H' : Hp} (k : ∀ a xs, SqT K H a xs → SqT K H' a xs) : ∀ (ks : List Str) (vs : List V), DpAll K H vs (ks.map dK) → DpAll K H' vs (ks.map dK)
  | [], vs, h => by cases h; exact .nil
  | a :: ks, vs, h => by
    cases h with
    | cons h1 h2 =>
      refine .cons ?_ (DpAll.rows k ks _ h2)
      cases h1 with
      | tup q1 q2 =>
        refine .tup (k _ _ q1) ?_
        cases q2 with
        | cons r1 r2 =>
          cases r1
          cases r2 with
          | cons r3 r4 =>
            cases r3
            cases r4
            exact .cons (.int _) (.cons (.str _) .nil)
end My

namespace My
open PySem L2
theorem kx_dict {X : Cx} {K : PySem.W.Frag} {w : World} (h : X.K = K) (hw : X.w = w) : IxR X (rIxD K w) := by
  subst h
  subst hw
  exact ix_kdict
/-! ### contents -/
inductive Sc where
  | null | fals | tru | num (n : Int) | text (s : Str) | recd
def scD : Sc → List Dt
  | .null => [.str (Str.ofString "null")]
  | .fals => [.str (Str.ofString "false")]
  | .tru => [.str (Str.ofString "true")]
  | .num n => [.str (Str.ofString "number"), .int n]
  | .text s => [.str (Str.ofString "text"), .str s]
  | .recd => [.str (Str.ofString "record")]
/-- what orders contents -/
def scR : Sc → List Dt
  | .null => [.int 0]
  | .fals => [.int 1]
  | .tru => [.int 2]
  | .num n => [.int 3, .int (if n < 0 then -n else n), .int (if n < 0 then 1 else 0)]
  | .text s => [.int 4, .tup (rkT s)]
  | .recd => [.int 5]
/-- within the bounds -/
def scOk : Sc → Prop
  | .num n => -1000000000 ≤ n ∧ n ≤ 1000000000
  | .text s => s.length ≤ 60 ∧ SgT s
  | _ => True
/-- the law's own worth: a number, a number, a text -/
def wA : Sc → Int
  | .null => 0 | .fals => 1 | .tru => 2 | .num _ => 3 | .text _ => 4 | .recd => 5
def wB : Sc → Int
  | .num n => 2 * (if n < 0 then -n else n) - (if n > 0 then 1 else 0)
  | .text s => s.length
  | _ => 0
def wC : Sc → Str
  | .text s => s
  | _ => Str.ofString ""
def wP (c : Sc) : PyData := .tuple [.int (wA c), .int (wB c), .str (wC c)]
def ltS (a b : Sc) : Bool := decide (wA a < wA b) || (decide (wA a = wA b) && (decide (wB a < wB b) || (decide (wB a = wB b) && decide ((wC a).cps.toList < (wC b).cps.toList))))
theorem eqv_int (a b : Int) : PyData.eqv (.int a) (.int b) = decide (a = b) := by
  show (a == b) = _
  rw [Bool.beq_eq_decide_eq]
theorem eqv_str (a b : Str) : PyData.eqv (.str a) (.str b) = decide (a = b) := by
  show (a == b) = _
  rw [Bool.beq_eq_decide_eq]
theorem dataLt_wP (a b : Sc) : PySem.W.dataLt (wP a) (wP b) = ltS a b := by
  unfold wP ltS
  rw [PySem.W.dataLt_tuple, PySem.W.dataLt_cons rfl, PySem.W.dataLt_cons rfl, PySem.W.dataLt_cons rfl, eqv_int, eqv_int, eqv_str, PySem.W.dataLt_int, PySem.W.dataLt_int, PySem.W.dataLt_str]
  by_cases h1 : wA a = wA b
  · rw [decide_eq_true h1, if_pos rfl, decide_eq_false (p := wA a < wA b) (by omega)]
    by_cases h2 : wB a = wB b
    · rw [decide_eq_true h2, if_pos rfl, decide_eq_false (p := wB a < wB b) (by omega)]
      by_cases h3 : wC a = wC b
      · rw [decide_eq_true h3, if_pos rfl, h3, decide_eq_false (List.lt_irrefl _)]
        rfl
      · rw [decide_eq_false h3, if_neg Bool.false_ne_true]
        simp
    · rw [decide_eq_false h2, if_neg Bool.false_ne_true]
      simp
  · rw [decide_eq_false h1, if_neg Bool.false_ne_true]
    simp
theorem alike_wP (a b : Sc) : PySem.W.alike (wP a) (wP b) = true := rfl
/-- the ranks are equal for the same content alone -/
theorem eqbs_scR (a b : Sc) : Dt.eqbs (scR a) (scR b) = true ↔ (wA a = wA b ∧ wB a = wB b ∧ wC a = wC b) := by
  cases a <;> cases b <;> simp [scR, Dt.eqbs, Dt.eqb, wA, wB, wC]
  · rename_i x y
    by_cases h1 : x < 0 <;> by_cases h2 : y < 0 <;> by_cases h3 : 0 < x <;> by_cases h4 : 0 < y <;> simp [h1, h2, h3, h4] <;> omega
  · rename_i x y
    have e := eqbs_rkT x y
    unfold rkT at e ⊢
    rw [e, decide_eq_true_iff]
    exact ⟨fun q => by rw [str_ext q]; exact ⟨rfl, rfl⟩, fun q => by rw [q.2]⟩
theorem lts_scR (a b : Sc) : Dt.lts? (scR a) (scR b) = some (ltS a b) := by
  cases a <;> cases b <;> simp [scR, Dt.lts?, Dt.lt?, Dt.eqbs, Dt.eqb, ltS, wA, wB, wC]
  · rename_i x y
    by_cases h1 : x < 0 <;> by_cases h2 : y < 0 <;> by_cases h3 : 0 < x <;> by_cases h4 : 0 < y <;> simp [h1, h2, h3, h4] <;> (try split) <;> (try simp) <;> (try omega)
    all_goals
      rw [Bool.eq_iff_iff]
      simp
      omega
  · rename_i x y
    have la := len_codes x
    have lb := len_codes y
    rw [eqbs_rkT]
    by_cases c : x.cps.toList = y.cps.toList
    · have e := str_ext c
      subst e
      rw [decide_eq_true rfl, if_pos rfl, decide_eq_false (Nat.lt_irrefl _), decide_eq_false (Array.lt_irrefl _)]
      simp
    · rw [decide_eq_false c, if_neg Bool.false_ne_true, lts_rkT x y c]
      congr 1
      rw [Bool.eq_iff_iff]
      simp only [decide_eq_true_eq, Bool.or_eq_true, Bool.and_eq_true]
      unfold ltC
      rw [la, lb]
      constructor
      · rintro (h | h)
        · exact .inl h
        · exact .inr ⟨decide_eq_true (congrArg Int.ofNat h.1), h.2⟩
      · rintro (h | h)
        · exact .inl h
        · exact .inr ⟨Int.ofNat.inj (of_decide_eq_true h.1), h.2⟩
/-! ### the order of contents -/
theorem ltS_irrefl (a b : Sc) (h : wA a = wA b ∧ wB a = wB b ∧ wC a = wC b) : ltS a b = false := by
  unfold ltS
  rw [h.1, h.2.1, h.2.2]
  simp
theorem ltS_asymm {a b : Sc} (h : ltS a b = true) : ltS b a = false := by
  unfold ltS at h ⊢
  simp only [Bool.or_eq_true, Bool.and_eq_true, decide_eq_true_eq] at h
  rw [Bool.eq_false_iff]
  intro k
  simp only [Bool.or_eq_true, Bool.and_eq_true, decide_eq_true_eq] at k
  rcases h with h | ⟨h, h | ⟨h', h''⟩⟩ <;> rcases k with k | ⟨k, k | ⟨k', k''⟩⟩ <;> first | omega | exact List.lt_asymm h'' k''
theorem ltS_iff (a b : Sc) : ltS a b = true ↔ (wA a < wA b ∨ (wA a = wA b ∧ (wB a < wB b ∨ (wB a = wB b ∧ (wC a).cps.toList < (wC b).cps.toList)))) := by
  unfold ltS
  rw [Bool.or_eq_true, Bool.and_eq_true, Bool.or_eq_true, Bool.and_eq_true, decide_eq_true_iff, decide_eq_true_iff, decide_eq_true_iff, decide_eq_true_iff, decide_eq_true_iff]
theorem ltS_total {a b : Sc} (h : ¬ (wA a = wA b ∧ wB a = wB b ∧ wC a = wC b)) (k : ltS a b = false) : ltS b a = true := by
  have k2 : ¬ (wA a < wA b ∨ (wA a = wA b ∧ (wB a < wB b ∨ (wB a = wB b ∧ (wC a).cps.toList < (wC b).cps.toList)))) := fun q => by
    rw [(ltS_iff a b).mpr q] at k
    cases k
  refine (ltS_iff b a).mpr ?_
  by_cases h1 : wA a = wA b
  · by_cases h2 : wB a = wB b
    · have h3 : wC a ≠ wC b := fun q => h ⟨h1, h2, q⟩
      refine .inr ⟨h1.symm, .inr ⟨h2.symm, ?_⟩⟩
      have n : ¬ (wC a).cps.toList < (wC b).cps.toList := fun q => k2 (.inr ⟨h1, .inr ⟨h2, q⟩⟩)
      rcases List.le_iff_lt_or_eq.mp (List.not_lt.mp n) with d | d
      · exact d
      · exact absurd (str_ext d).symm h3
    · refine .inr ⟨h1.symm, .inl ?_⟩
      have : ¬ wB a < wB b := fun q => k2 (.inr ⟨h1, .inl q⟩)
      omega
  · refine .inl ?_
    have : ¬ wA a < wA b := fun q => k2 (.inl q)
    omega
def cmpSc (a b : Sc) : Int := (if ltS b a = true then (1 : Int) else 0) - (if ltS a b = true then 1 else 0)
theorem cmpD_scR (a b : Sc) : cmpD (scR a) (scR b) = cmpSc a b := by
  unfold cmpD cmpSc
  rw [lts_scR]
  by_cases c : Dt.eqbs (scR a) (scR b) = true
  · have h := (eqbs_scR a b).mp c
    rw [if_pos c, ltS_irrefl a b h, ltS_irrefl b a ⟨h.1.symm, h.2.1.symm, h.2.2.symm⟩]
    rfl
  · have h : ¬ (wA a = wA b ∧ wB a = wB b ∧ wC a = wC b) := fun q => c ((eqbs_scR a b).mpr q)
    rw [if_neg c]
    cases d : ltS a b with
    | true =>
      rw [if_pos rfl, ltS_asymm d]
      rfl
    | false =>
      rw [if_neg (by intro z; cases z), ltS_total h d]
      rfl
theorem deeps_scR (a : Sc) : Dt.deeps (scR a) ≤ 2 := by
  cases a with
  | num n => show 1 ≤ 2; decide
  | text s => show 2 ≤ 2; decide
  | _ => decide
theorem scD_same (a : Sc) : (Dt.tup (scD a)).deep ≤ 40 ∧ (Dt.tup (scD a)).fits = true := by
  cases a with
  | num n => exact ⟨by show 2 ≤ 40; decide, rfl⟩
  | text s => exact ⟨by show 2 ≤ 40; decide, rfl⟩
  | _ => exact ⟨by decide, by decide⟩
/-- the word of a content -/
def scW : Sc → Str
  | .null => Str.ofString "null"
  | .fals => Str.ofString "false"
  | .tru => Str.ofString "true"
  | .num _ => Str.ofString "number"
  | .text _ => Str.ofString "text"
  | .recd => Str.ofString "record"
/-- a content stands as a tuple whose first item is its word -/
theorem sc_tup {K : PySem.W.Frag} {H : Hp} {v : V} {c : Sc} (h : DT K H v (.tup (scD c))) : ∃ a xs, v = .ref a ∧ SqT K H a xs ∧ xs[0]? = some (.str (scW c)) ∧ (∀ n, c = .num n → xs[1]? = some (.int n)) ∧ (∀ s, c = .text s → xs[1]? = some (.str s)) := by
  cases h with
  | @tup a xs _ h1 h2 =>
  refine ⟨a, xs, rfl, h1, ?_⟩
  cases c with
  | null => cases h2 with | cons q r => cases q; exact ⟨rfl, (fun n e => by cases e), (fun n e => by cases e)⟩
  | fals => cases h2 with | cons q r => cases q; exact ⟨rfl, (fun n e => by cases e), (fun n e => by cases e)⟩
  | tru => cases h2 with | cons q r => cases q; exact ⟨rfl, (fun n e => by cases e), (fun n e => by cases e)⟩
  | num m => cases h2 with | cons q r => cases q; cases r with | cons q2 r2 => cases q2; exact ⟨rfl, (fun n e => by cases e; rfl), (fun n e => by cases e)⟩
  | text s => cases h2 with | cons q r => cases q; cases r with | cons q2 r2 => cases q2; exact ⟨rfl, (fun n e => by cases e), (fun n e => by cases e; rfl)⟩
  | recd => cases h2 with | cons q r => cases q; exact ⟨rfl, (fun n e => by cases e), (fun n e => by cases e)⟩
end My

namespace My
open PySem L2
/-! ### sorted -/
theorem each_sort {P : Program} {w : World} {X : Cx} {pins : List (Addr × Obj)} {σ : St} {H : Hp} {s : Shared} (I : Inv X pins σ H s) {β : Type} {enc : β → PyData} : ∀ (bs : List β) (xs : List V) (us : List Value), DpAll X.K H xs (bs.map enc) → Vals xs us →
    PySem.W.EachIs (fun (u : Value) (b : V × β) => RelV b.1 u) us (xs.zip bs) ∧ PySem.W.EachIs (fun (u : Value) (b : V × β) => ∃ as, Reads s.heap u (enc b.2) as) us (xs.zip bs)
  | [], xs, us, d, r => by
    cases d
    cases r
    exact ⟨.nil, .nil⟩
  | b :: bs, xs, us, d, r => by
    cases d with
    | cons d1 d2 =>
    cases r with
    | cons r1 r2 =>
      obtain ⟨i1, i2⟩ := each_sort (P := P) (w := w) I bs _ _ d2 r2
      exact ⟨.cons r1 i1, .cons (L2.Dp.reads I _ _ _ d1 r1) i2⟩
theorem vals_out {β : Type} : ∀ {us : List Value} {zs : List (V × β)}, PySem.W.EachIs (fun (u : Value) (b : V × β) => RelV b.1 u) us zs → Vals (zs.map (·.1)) us
  | _, _, .nil => .nil
  | _, _, .cons h t => .cons h (vals_out t)
/-- sorted(xs): each item of xs stands for an item of bs -/
def rSortB {β : Type} (enc : β → PyData) (K : PySem.W.Frag) : List V → Hp → VK → Prop := fun vs H Q => ∃ (a : Addr) (xs : List V) (bs : List β), vs = [.ref a] ∧ SqL K H a xs ∧ DpAll K H xs (bs.map enc) ∧ PySem.W.AllAlike (bs.map enc) ∧ PySem.W.Sortable (bs.map enc) ∧ (∀ b ∈ bs, (enc b).depth ≤ 60) ∧
  ∀ (zs : List (V × β)) p, zs.Perm (xs.zip bs) → zs.map (·.2) = bs.mergeSort (PySem.W.dataLe false enc) → H p = none → Q (.ref p) (upd H p (.lst (zs.map (·.1))))
theorem dpAll_len {K : PySem.W.Frag} {H : Hp} : ∀ {xs : List V} {ds : List PyData}, DpAll K H xs ds → xs.length = ds.length
  | _, [], h => by cases h; rfl
  | _, d :: ds, h => by
    cases h with
    | cons _ h2 => rw [List.length_cons, List.length_cons, dpAll_len h2]
theorem cr_sortB {X : Cx} {K : PySem.W.Frag} {β : Type} {enc : β → PyData} (hK : X.K = K) (hu : X.A.units + 64 < cLine) : CallR X (.builtin "sorted") (rSortB enc K) := by
  subst hK
  intro pins s σ H vs us Q I r h
  obtain ⟨a, xs, bs, rfl, hs, hd, hal, hk, hdep, q⟩ := h
  obtain ⟨its, rv, hl, hz⟩ := I.list hs
  rw [Vals.ref1 r]
  have ln : xs.length = bs.length := by rw [dpAll_len hd, List.length_map]
  obtain ⟨e1, e2⟩ := each_sort (P := X.prog) (w := X.w) I bs xs its hd rv
  have em : (xs.zip bs).map (fun z => enc z.2) = bs.map enc := by
    have e0 : (xs.zip bs).map (fun z => enc z.2) = ((xs.zip bs).map Prod.snd).map enc := by rw [List.map_map]; rfl
    rw [e0, List.map_snd_zip (by omega)]
  refine PySem.W.sorted_data (enc := fun z : V × β => enc z.2) (bs := xs.zip bs) hl.isList e1 e2 (by rw [em]; exact hal) (by rw [em]; exact hk) (by rw [List.length_zip]; have := Nat.min_le_left xs.length bs.length; omega) (fun b hb => ?_) fun out ho eo => ?_
  · have hm : b.2 ∈ bs := (List.of_mem_zip hb).2
    have := hdep _ hm
    omega
  · obtain ⟨ep, he'⟩ := PyProof.Rows.sortedAll_at s.heap its out.toArray
    have hp : ((xs.zip bs).mergeSort (PySem.W.dataLe false fun z : V × β => enc z.2)).Perm (xs.zip bs) := List.mergeSort_perm _ _
    have hlen : (((xs.zip bs).mergeSort (PySem.W.dataLe false fun z : V × β => enc z.2)).map (·.1)).length ≤ sizeLine := by
      rw [List.length_map, hp.length_eq, List.length_zip]
      have := Nat.min_le_left xs.length bs.length
      omega
    refine ⟨.ref _, upd H (s.heap.objs.size + 1) (.lst (((xs.zip bs).mergeSort (PySem.W.dataLe false fun z : V × β => enc z.2)).map (·.1))), I.laid (t' := s.toks) (fun _ _ => PyProof.Rows.sortedAll_old) (Nat.le_succ _) ⟨hlen, out, ep, vals_out eo, he'⟩, rfl, q _ _ hp ?_ (I.hok.fresh (Nat.le_succ _))⟩
    have e3 := List.map_mergeSort (r := PySem.W.dataLe false fun z : V × β => enc z.2) (s := PySem.W.dataLe false enc) (f := Prod.snd) (l := xs.zip bs) (fun _ _ _ _ => rfl)
    rw [List.map_snd_zip (by omega)] at e3
    exact e3
theorem units1 {n : Nat} (h : n + 64 < cLine) : n + 1 < cLine := by omega
/-! ### tables of paths -/
abbrev Fl := List (List Str × Sc)
abbrev kP (p : List Str) : List Key := p.map Sum.inr
theorem kP_V (p : List Str) : (kP p).map kV = p.map V.str := by
  unfold kP
  rw [List.map_map]
  rfl
theorem kP_inj {p q : List Str} : kP p = kP q ↔ p = q := ⟨fun h => by
  have e : (kP p).map kV = (kP q).map kV := by rw [h]
  rw [kP_V, kP_V] at e
  exact (List.map_inj_right (fun a b c => by cases c; rfl)).mp e, fun h => by rw [h]⟩
inductive FlK (K : PySem.W.Frag) (H : Hp) : List (List Key × V) → Fl → Prop
  | nil : FlK K H [] []
  | cons {v : V} {p : List Str} {c : Sc} {kvs : List (List Key × V)} {fl : Fl} : DT K H v (.tup (scD c)) → FlK K H kvs fl → FlK K H ((kP p, v) :: kvs) ((p, c) :: fl)
def getF (fl : Fl) (p : List Str) : Option Sc := (fl.find? fun x => decide (x.1 = p)).map (·.2)
def putF (fl : Fl) (p : List Str) (c : Sc) : Fl := if (fl.any fun x => decide (x.1 = p)) = true then fl.map (fun x => if x.1 = p then (x.1, c) else x) else fl ++ [(p, c)]
def cutF (fl : Fl) (p : List Str) : Fl := fl.filter fun x => !decide (x.1.take p.length = p)
section
variable {K : PySem.W.Frag} {H H' : Hp} {kvs : List (List Key × V)} {fl : Fl}
theorem FlK.mono (k : ∀ a xs, SqT K H a xs → SqT K H' a xs) (h : FlK K H kvs fl) : FlK K H' kvs fl := by
  induction h with
  | nil => exact .nil
  | cons h1 _ ih => exact .cons (DT.mono k _ _ h1) ih
theorem FlK.same (h : FlK K H kvs fl) (e : Same H H') : FlK K H' kvs fl := h.mono fun _ _ q => e.seqT q
theorem FlK.go {t : Addr} (h : FlK K H kvs fl) (hT : Tape H t) (e : Sm t H H') : FlK K H' kvs fl := h.mono fun _ _ q => seqT_go hT e q
theorem FlK.len (h : FlK K H kvs fl) : kvs.length = fl.length := by
  induction h with
  | nil => rfl
  | cons _ _ ih => rw [List.length_cons, List.length_cons, ih]
theorem FlK.at (h : FlK K H kvs fl) {i : Nat} {k : List Key} {v : V} (e : kvs[i]? = some (k, v)) : ∃ p c, fl[i]? = some (p, c) ∧ k = kP p ∧ DT K H v (.tup (scD c)) := by
  induction h generalizing i with
  | nil => simp at e
  | cons h1 _ ih =>
    cases i with
    | zero =>
      have e' := Option.some.inj e
      cases e'
      exact ⟨_, _, rfl, rfl, h1⟩
    | succ i => exact ih (by simpa using e)
theorem FlK.get (h : FlK K H kvs fl) (p : List Str) : (valV kvs (kP p) = none ∧ getF fl p = none) ∨ ∃ v c, valV kvs (kP p) = some v ∧ getF fl p = some c ∧ DT K H v (.tup (scD c)) := by
  induction h with
  | nil => exact .inl ⟨rfl, rfl⟩
  | @cons v q c kvs fl h1 _ ih =>
    by_cases e : q = p
    · subst e
      exact .inr ⟨v, c, valV_pos rfl, by simp [getF], h1⟩
    · have e1 : valV ((kP q, v) :: kvs) (kP p) = valV kvs (kP p) := valV_neg fun z => e (kP_inj.mp z)
      have e2 : getF ((q, c) :: fl) p = getF fl p := by simp [getF, e]
      rw [e1, e2]
      exact ih
theorem FlK.any (h : FlK K H kvs fl) (p : List Str) : (kvs.any fun kv => decide (kv.1 = kP p)) = fl.any fun x => decide (x.1 = p) := by
  induction h with
  | nil => rfl
  | @cons v q c kvs fl h1 _ ih =>
    rw [List.any_cons, List.any_cons, ih]
    congr 1
    exact decide_eq_decide.mpr kP_inj
theorem FlK.app {kvs' : List (List Key × V)} {fl' : Fl} (h : FlK K H kvs fl) (k : FlK K H kvs' fl') : FlK K H (kvs ++ kvs') (fl ++ fl') := by
  induction h with
  | nil => exact k
  | cons h1 _ ih => exact .cons h1 ih
theorem FlK.put (h : FlK K H kvs fl) (p : List Str) {v : V} {c : Sc} (d : DT K H v (.tup (scD c))) : FlK K H (putK kvs (kP p) v) (putF fl p c) := by
  unfold putK putF
  rw [h.any p]
  by_cases e : (fl.any fun x => decide (x.1 = p)) = true
  · rw [if_pos e, if_pos e]
    clear e
    induction h with
    | nil => exact .nil
    | @cons u q c' kvs fl h1 _ ih =>
      rw [List.map_cons, List.map_cons]
      by_cases e : q = p
      · subst e
        rw [if_pos rfl, if_pos rfl]
        exact .cons d ih
      · rw [if_neg e, if_neg (fun z => e (kP_inj.mp z))]
        exact .cons h1 ih
  · rw [if_neg e, if_neg e]
    exact h.app (.cons d .nil)
end
/-! what a table holds -/
theorem getF_cons (q : List Str) (c : Sc) (fl : Fl) (p : List Str) : getF ((q, c) :: fl) p = if q = p then some c else getF fl p := by
  unfold getF
  by_cases e : q = p
  · simp [e]
  · simp [e]
theorem getF_mem {fl : Fl} {p : List Str} {c : Sc} (h : getF fl p = some c) : (p, c) ∈ fl := by
  induction fl with
  | nil => cases h
  | cons x fl ih =>
    obtain ⟨q, d⟩ := x
    rw [getF_cons] at h
    by_cases e : q = p
    · rw [if_pos e] at h
      cases h
      subst e
      exact List.mem_cons_self
    · rw [if_neg e] at h
      exact List.mem_cons_of_mem _ (ih h)
theorem mem_getF {fl : Fl} {p : List Str} {c : Sc} (h : (p, c) ∈ fl) : ∃ d, getF fl p = some d := by
  induction fl with
  | nil => cases h
  | cons x fl ih =>
    obtain ⟨q, d⟩ := x
    rw [getF_cons]
    by_cases e : q = p
    · exact ⟨d, if_pos e⟩
    · rw [if_neg e]
      refine ih ?_
      rcases List.mem_cons.mp h with h | h
      · cases h; exact absurd rfl e
      · exact h
theorem getF_nd {fl : Fl} (nd : (fl.map (·.1)).Nodup) {p : List Str} {c : Sc} (h : (p, c) ∈ fl) : getF fl p = some c := by
  induction fl with
  | nil => cases h
  | cons x fl ih =>
    obtain ⟨q, d⟩ := x
    rw [List.map_cons, List.nodup_cons] at nd
    rw [getF_cons]
    rcases List.mem_cons.mp h with h | h
    · cases h
      exact if_pos rfl
    · rw [if_neg (fun z => nd.1 (by rw [show (q, d).1 = p from z]; exact List.mem_map.mpr ⟨_, h, rfl⟩))]
      exact ih nd.2 h
theorem getF_put (fl : Fl) (p q : List Str) (c : Sc) : getF (putF fl p c) q = if q = p then some c else getF fl q := by
  have hm : ∀ fl : Fl, getF (fl.map (fun x => if x.1 = p then (x.1, c) else x)) q = if q = p then (getF fl q).map fun _ => c else getF fl q := by
    intro fl
    induction fl with
    | nil => by_cases e : q = p <;> simp [getF]
    | cons x fl ih =>
      obtain ⟨r, d⟩ := x
      rw [List.map_cons]
      by_cases e : r = p
      · rw [if_pos e, getF_cons, getF_cons, ih]
        by_cases e2 : r = q
        · have e3 : q = p := e2.symm.trans e
          rw [if_pos e2, if_pos e2, if_pos e3]
          rfl
        · rw [if_neg e2, if_neg e2]
      · rw [if_neg e, getF_cons, getF_cons, ih]
        by_cases e2 : r = q
        · have e3 : ¬ q = p := fun z => e (e2.trans z)
          rw [if_pos e2, if_pos e2, if_neg e3]
        · rw [if_neg e2, if_neg e2]
  have ha : ∀ fl : Fl, (fl.any fun x => decide (x.1 = p)) = (getF fl p).isSome := by
    intro fl
    induction fl with
    | nil => rfl
    | cons x fl ih =>
      obtain ⟨r, d⟩ := x
      rw [List.any_cons, getF_cons, ih]
      by_cases e : r = p <;> simp [e]
  have hs : ∀ fl : Fl, getF (fl ++ [(p, c)]) q = match getF fl q with | some d => some d | none => if p = q then some c else none := by
    intro fl
    induction fl with
    | nil => rw [List.nil_append, getF_cons]; rfl
    | cons x fl ih =>
      obtain ⟨r, d⟩ := x
      rw [List.cons_append, getF_cons, getF_cons, ih]
      by_cases e : r = q
      · rw [if_pos e, if_pos e]
      · rw [if_neg e, if_neg e]
  unfold putF
  by_cases e : (fl.any fun x => decide (x.1 = p)) = true
  · rw [if_pos e, hm]
    by_cases e2 : q = p
    · subst e2
      rw [if_pos rfl, if_pos rfl]
      rw [ha] at e
      obtain ⟨d, hd⟩ := Option.isSome_iff_exists.mp e
      rw [hd]
      rfl
    · rw [if_neg e2, if_neg e2]
  · rw [if_neg e, hs]
    by_cases e2 : q = p
    · subst e2
      rw [if_pos rfl]
      rw [ha] at e
      cases hg : getF fl q with
      | none =>
        exact (if_pos rfl).symm
      | some d => rw [hg] at e; exact absurd rfl e
    · rw [if_neg e2]
      cases hg : getF fl q with
      | none => exact if_neg fun z => e2 z.symm
      | some d => rfl
theorem getF_cut (fl : Fl) (p q : List Str) : getF (cutF fl p) q = if q.take p.length = p then none else getF fl q := by
  unfold cutF
  induction fl with
  | nil => by_cases e : q.take p.length = p <;> simp [getF]
  | cons x fl ih =>
    obtain ⟨r, d⟩ := x
    by_cases e : r.take p.length = p
    · rw [List.filter_cons_of_neg (by simp [e]), ih, getF_cons]
      by_cases e2 : r = q
      · subst e2
        rw [if_pos e, if_pos e]
      · rw [if_neg e2]
    · rw [List.filter_cons_of_pos (by simp [e]), getF_cons, ih, getF_cons]
      by_cases e2 : r = q
      · subst e2
        rw [if_pos rfl, if_neg e, if_pos rfl]
      · rw [if_neg e2, if_neg e2]
theorem nd_put {fl : Fl} (h : (fl.map (·.1)).Nodup) (p : List Str) (c : Sc) : ((putF fl p c).map (·.1)).Nodup := by
  unfold putF
  by_cases e : (fl.any fun x => decide (x.1 = p)) = true
  · rw [if_pos e, List.map_map]
    have e2 : (fun x : List Str × Sc => x.1) ∘ (fun x : List Str × Sc => if x.1 = p then (x.1, c) else x) = fun x => x.1 := by
      funext x
      by_cases z : x.1 = p
      · simp [z]
      · simp [z]
    rw [e2]
    exact h
  · rw [if_neg e, List.map_append, List.nodup_append]
    refine ⟨h, by simp, fun a ha b hb => ?_⟩
    have hb' : b = p := by simpa using hb
    subst hb'
    intro z
    subst z
    obtain ⟨x, hx, rfl⟩ := List.mem_map.mp ha
    exact e (List.any_eq_true.mpr ⟨x, hx, decide_eq_true rfl⟩)
theorem nd_cut {fl : Fl} (h : (fl.map (·.1)).Nodup) (p : List Str) : ((cutF fl p).map (·.1)).Nodup := h.sublist (List.Sublist.map _ List.filter_sublist)
theorem len_put (fl : Fl) (p : List Str) (c : Sc) : (putF fl p c).length ≤ fl.length + 1 := by
  unfold putF
  by_cases e : (fl.any fun x => decide (x.1 = p)) = true
  · rw [if_pos e, List.length_map]; omega
  · rw [if_neg e, List.length_append]; exact Nat.le_refl _
theorem len_cut (fl : Fl) (p : List Str) : (cutF fl p).length ≤ fl.length := List.length_filter_le _ _
/-- the path is set: what is above is a record, what was there is gone -/
def upsF (fl : Fl) (p : List Str) (n : Nat) : Fl := (List.range n).foldl (fun f i => putF f (p.take (i + 1)) .recd) fl
def setF (fl : Fl) (p : List Str) (c : Sc) : Fl := putF (upsF (cutF fl p) p (p.length - 1)) p c
theorem upsF_succ (fl : Fl) (p : List Str) (n : Nat) : upsF fl p (n + 1) = putF (upsF fl p n) (p.take (n + 1)) .recd := by
  unfold upsF
  rw [List.range_succ, List.foldl_append]
  rfl
theorem len_ups (fl : Fl) (p : List Str) (n : Nat) : (upsF fl p n).length ≤ fl.length + n := by
  induction n with
  | zero => exact Nat.le_refl _
  | succ n ih =>
    rw [upsF_succ]
    have := len_put (upsF fl p n) (p.take (n + 1)) .recd
    omega
theorem nd_ups {fl : Fl} (h : (fl.map (·.1)).Nodup) (p : List Str) (n : Nat) : ((upsF fl p n).map (·.1)).Nodup := by
  induction n with
  | zero => exact h
  | succ n ih =>
    rw [upsF_succ]
    exact nd_put ih _ _
theorem getF_ups (fl : Fl) (p q : List Str) (n : Nat) (hn : n ≤ p.length) : getF (upsF fl p n) q = if 1 ≤ q.length ∧ q.length ≤ n ∧ q = p.take q.length then some .recd else getF fl q := by
  induction n with
  | zero =>
    rw [if_neg (fun h => by omega)]
    rfl
  | succ n ih =>
    rw [upsF_succ, getF_put, ih (by omega)]
    have lt : (p.take (n + 1)).length = n + 1 := by rw [List.length_take]; omega
    by_cases e : q = p.take (n + 1)
    · rw [if_pos e, if_pos]
      have lq : q.length = n + 1 := by rw [e, lt]
      exact ⟨by omega, by omega, by rw [lq]; exact e⟩
    · rw [if_neg e]
      by_cases c : 1 ≤ q.length ∧ q.length ≤ n ∧ q = p.take q.length
      · rw [if_pos c, if_pos ⟨c.1, by omega, c.2.2⟩]
      · rw [if_neg c, if_neg]
        rintro ⟨h1, h2, h3⟩
        by_cases z : q.length = n + 1
        · rw [z] at h3
          exact e h3
        · exact c ⟨h1, by omega, h3⟩
theorem getF_set (fl : Fl) (p q : List Str) (c : Sc) : getF (setF fl p c) q = if q = p then some c else if 1 ≤ q.length ∧ q.length < p.length ∧ q = p.take q.length then some .recd else if q.take p.length = p then none else getF fl q := by
  unfold setF
  rw [getF_put, getF_ups _ _ _ _ (by omega), getF_cut]
  by_cases e : q = p
  · rw [if_pos e, if_pos e]
  · rw [if_neg e, if_neg e]
    by_cases z : 1 ≤ q.length ∧ q.length < p.length ∧ q = p.take q.length
    · rw [if_pos z, if_pos ⟨z.1, by omega, z.2.2⟩]
    · rw [if_neg z, if_neg (fun y => z ⟨y.1, by omega, y.2.2⟩)]
/-- a table of a document -/
structure Wf (ws : List Str) (fl : Fl) : Prop where
  nd : (fl.map (·.1)).Nodup
  pa : ∀ p c, getF fl p = some c → 1 ≤ p.length ∧ p.length ≤ 5 ∧ (∀ k ∈ p, k ∈ ws) ∧ scOk c
  up : ∀ p c, getF fl p = some c → ∀ j, 1 ≤ j → j < p.length → getF fl (p.take j) = some .recd
theorem Wf.nil (ws : List Str) : Wf ws [] := ⟨List.nodup_nil, (fun _ _ h => by cases h), (fun _ _ h => by cases h)⟩
theorem take_take_le {p : List Str} {i j : Nat} (h : j ≤ i) : (p.take i).take j = p.take j := by rw [List.take_take, Nat.min_eq_left h]
theorem Wf.set {ws : List Str} {fl : Fl} (h : Wf ws fl) {p : List Str} {c : Sc} (h1 : 1 ≤ p.length) (h5 : p.length ≤ 5) (hk : ∀ k ∈ p, k ∈ ws) (hc : scOk c) : Wf ws (setF fl p c) := by
  refine ⟨nd_put (nd_ups (nd_cut h.nd _) _ _) _ _, fun q d hq => ?_, fun q d hq j j1 j2 => ?_⟩
  · rw [getF_set] at hq
    by_cases e : q = p
    · rw [if_pos e] at hq
      cases hq
      rw [e]
      exact ⟨h1, h5, hk, hc⟩
    · rw [if_neg e] at hq
      by_cases z : 1 ≤ q.length ∧ q.length < p.length ∧ q = p.take q.length
      · rw [if_pos z] at hq
        cases hq
        exact ⟨z.1, by omega, fun k hk' => hk k (by rw [z.2.2] at hk'; exact List.mem_of_mem_take hk'), trivial⟩
      · rw [if_neg z] at hq
        by_cases y : q.take p.length = p
        · rw [if_pos y] at hq; cases hq
        · rw [if_neg y] at hq
          exact h.pa q d hq
  · have lt : (q.take j).length = j := by rw [List.length_take]; omega
    rw [getF_set] at hq ⊢
    by_cases e : q = p
    · subst e
      rw [if_neg (fun z => by have := congrArg List.length z; omega), if_pos ⟨by omega, by omega, by rw [lt]⟩]
    · rw [if_neg e] at hq
      by_cases z : 1 ≤ q.length ∧ q.length < p.length ∧ q = p.take q.length
      · have e3 : q.take j = (p.take q.length).take j := by rw [← z.2.2]
        have e4 : q.take j = p.take j := by rw [e3, take_take_le (by omega)]
        have hw : 1 ≤ (q.take j).length ∧ (q.take j).length < p.length ∧ q.take j = p.take (q.take j).length := ⟨by omega, by omega, by rw [lt]; exact e4⟩
        rw [if_neg (fun y => by have := congrArg List.length y; omega), if_pos hw]
      · rw [if_neg z] at hq
        by_cases y : q.take p.length = p
        · rw [if_pos y] at hq; cases hq
        · rw [if_neg y] at hq
          have up := h.up q d hq j j1 j2
          have n1 : ¬ q.take j = p := fun a => y (by
            have l2 := congrArg List.length a
            rw [lt] at l2
            rw [← l2]
            exact a)
          have n2 : ¬ (q.take j).take p.length = p := fun a => by
            have l2 := congrArg List.length a
            rw [List.length_take, lt] at l2
            refine y ?_
            have : (q.take j).take p.length = q.take p.length := take_take_le (by omega)
            rw [← this]
            exact a
          rw [if_neg n1]
          by_cases w : 1 ≤ (q.take j).length ∧ (q.take j).length < p.length ∧ q.take j = p.take (q.take j).length
          · rw [if_pos w]
          · rw [if_neg w, if_neg n2]
            exact up
theorem len_set (fl : Fl) (p : List Str) (c : Sc) : (setF fl p c).length ≤ fl.length + p.length + 1 := by
  unfold setF
  have h1 := len_put (upsF (cutF fl p) p (p.length - 1)) p c
  have h2 := len_ups (cutF fl p) p (p.length - 1)
  have h3 := len_cut fl p
  omega
/-! ### documents -/
def srtK (ks : List Str) : List Str := ks.mergeSort (PySem.W.dataLe false dK)
theorem srtK_mem {k : Str} {ks : List Str} : k ∈ srtK ks ↔ k ∈ ks := (List.mergeSort_perm ks _).mem_iff
theorem srtK_len (ks : List Str) : (srtK ks).length = ks.length := (List.mergeSort_perm ks _).length_eq
def lastS (p : List Str) : Str := p.getLastD (Str.ofString "")
def isBelow (p : List Str) (x : List Str × Sc) : Bool := decide (x.1.length = p.length + 1) && decide (x.1.take p.length = p)
def keysB (fl : Fl) (p : List Str) : List Str := (fl.filter (isBelow p)).map fun x => lastS x.1
def below (fl : Fl) (p : List Str) : List Str := srtK (keysB fl p)
theorem lastS_snoc (p : List Str) (k : Str) : lastS (p ++ [k]) = k := by
  unfold lastS
  simp
theorem isBelow_iff (p : List Str) (x : List Str × Sc) : isBelow p x = true ↔ ∃ k, x.1 = p ++ [k] := by
  unfold isBelow
  rw [Bool.and_eq_true, decide_eq_true_iff, decide_eq_true_iff]
  constructor
  · rintro ⟨h1, h2⟩
    have h3 : x.1 = x.1.take p.length ++ x.1.drop p.length := (List.take_append_drop _ _).symm
    rw [h2] at h3
    obtain ⟨k, hk⟩ := List.length_eq_one_iff.mp (show (x.1.drop p.length).length = 1 by rw [List.length_drop]; omega)
    exact ⟨k, by rw [h3, hk]⟩
  · rintro ⟨k, e⟩
    rw [e]
    refine ⟨by simp, ?_⟩
    rw [List.take_left]
theorem mem_below {fl : Fl} {p : List Str} {k : Str} : k ∈ below fl p ↔ ∃ c, getF fl (p ++ [k]) = some c := by
  unfold below keysB
  rw [srtK_mem]
  constructor
  · intro h
    obtain ⟨x, hx, rfl⟩ := List.mem_map.mp h
    obtain ⟨h1, h2⟩ := List.mem_filter.mp hx
    obtain ⟨k, e⟩ := (isBelow_iff p x).mp h2
    rw [e, lastS_snoc]
    exact mem_getF (c := x.2) (by rw [← e]; exact h1)
  · rintro ⟨c, h⟩
    exact List.mem_map.mpr ⟨_, List.mem_filter.mpr ⟨getF_mem h, (isBelow_iff _ _).mpr ⟨k, rfl⟩⟩, lastS_snoc p k⟩
theorem below_len (fl : Fl) (p : List Str) : (below fl p).length ≤ fl.length := by
  unfold below keysB
  rw [srtK_len, List.length_map]
  exact List.length_filter_le _ _
def dF : Nat → Fl → List Str → List Dt
  | 0, _, _ => []
  | n + 1, fl, p => (below fl p).map fun k => .tup [.str k, match getF fl (p ++ [k]) with | some .recd => .tup [.str (Str.ofString "record"), .tup (dF n fl (p ++ [k]))] | some c => .tup (scD c) | none => .non]
/-- the fields of the record at the path -/
def doc (fl : Fl) (p : List Str) : List Dt := dF (9 - p.length) fl p
/-- the value at the path; None if it is absent -/
def valD (fl : Fl) (p : List Str) : Dt := match getF fl p with | some .recd => .tup [.str (Str.ofString "record"), .tup (doc fl p)] | some c => .tup (scD c) | none => .non
theorem doc_eq {fl : Fl} (h : ∀ q c, getF fl q = some c → q.length ≤ 9) (p : List Str) : doc fl p = (below fl p).map fun k => .tup [.str k, valD fl (p ++ [k])] := by
  unfold doc
  by_cases hp : p.length < 9
  · obtain ⟨m, hm⟩ : ∃ m, 9 - p.length = m + 1 := ⟨8 - p.length, by omega⟩
    rw [hm, dF]
    refine List.map_congr_left fun k _ => ?_
    unfold valD doc
    rw [show 9 - (p ++ [k]).length = m by rw [List.length_append]; show 9 - (p.length + 1) = m; omega]
  · have e : below fl p = [] := by
      rw [List.eq_nil_iff_forall_not_mem]
      intro k hk
      obtain ⟨c, hc⟩ := mem_below.mp hk
      have := h _ _ hc
      rw [List.length_append] at this
      simp at this
      omega
    rw [e, show 9 - p.length = 0 by omega]
    rfl
theorem Wf.nine {ws : List Str} {fl : Fl} (h : Wf ws fl) : ∀ q c, getF fl q = some c → q.length ≤ 9 := fun q c e => by have := (h.pa q c e).2.1; omega
theorem deeps_le {ds : List Dt} {n : Nat} (h : ∀ d ∈ ds, d.deep ≤ n) : Dt.deeps ds ≤ n := by
  induction ds with
  | nil => exact Nat.zero_le _
  | cons d ds ih =>
    unfold Dt.deeps
    have h1 := h d List.mem_cons_self
    have h2 := ih fun x hx => h x (List.mem_cons_of_mem _ hx)
    omega
theorem fitss_of {ds : List Dt} (h : ∀ d ∈ ds, d.fits = true) : Dt.fitss ds = true := by
  induction ds with
  | nil => rfl
  | cons d ds ih =>
    unfold Dt.fitss
    rw [h d List.mem_cons_self, ih fun x hx => h x (List.mem_cons_of_mem _ hx)]
    rfl
theorem deep_scD (c : Sc) : (Dt.tup (scD c)).deep ≤ 2 := by
  cases c with
  | num n => show 2 ≤ 2; decide
  | text s => show 2 ≤ 2; decide
  | _ => decide
theorem deep_pair (a b : Dt) : (Dt.tup [a, b]).deep = max a.deep b.deep + 1 := by
  show max a.deep (max b.deep 0) + 1 = _
  omega
theorem deep_dF : ∀ (n : Nat) (fl : Fl) (p : List Str), Dt.deeps (dF n fl p) ≤ 3 * n
  | 0, _, _ => Nat.le_refl _
  | n + 1, fl, p => by
    rw [dF]
    refine deeps_le fun d hd => ?_
    obtain ⟨k, _, rfl⟩ := List.mem_map.mp hd
    have ih := deep_dF n fl (p ++ [k])
    have s1 : ∀ z : Str, (Dt.str z).deep = 1 := fun _ => rfl
    rw [deep_pair, s1]
    split
    · rw [deep_pair, s1]
      have : (Dt.tup (dF n fl (p ++ [k]))).deep = Dt.deeps (dF n fl (p ++ [k])) + 1 := rfl
      rw [this]
      omega
    · rename_i c _ _
      have := deep_scD c
      omega
    · have : Dt.non.deep = 1 := rfl
      omega
theorem fits_dF {fl : Fl} (hl : fl.length ≤ 1000000) : ∀ (n : Nat) (p : List Str), (Dt.tup (dF n fl p)).fits = true
  | 0, _ => rfl
  | n + 1, p => by
    rw [dF]
    show (decide _ && _) = true
    rw [decide_eq_true (by rw [List.length_map]; have := below_len fl p; omega), Bool.true_and]
    refine fitss_of fun d hd => ?_
    obtain ⟨k, _, rfl⟩ := List.mem_map.mp hd
    have pr : ∀ a b : Dt, b.fits = true → (Dt.tup [.str (Str.ofString "record"), b]).fits = true ∧ (Dt.tup [.str k, b]).fits = true := fun a b h => by
      constructor
      · show (true && (true && (b.fits && true))) = true
        rw [h]
        rfl
      · show (true && (true && (b.fits && true))) = true
        rw [h]
        rfl
    refine (pr .non _ ?_).2
    split
    · exact (pr .non _ (fits_dF hl n _)).1
    · exact (scD_same _).2
    · rfl
theorem doc_ok {fl : Fl} (hl : fl.length ≤ 1000000) (p : List Str) : (Dt.tup (doc fl p)).deep ≤ 30 ∧ (Dt.tup (doc fl p)).fits = true := by
  refine ⟨?_, fits_dF hl _ _⟩
  have := deep_dF (9 - p.length) fl p
  show Dt.deeps (doc fl p) + 1 ≤ 30
  unfold doc
  omega
/-! ### != of paths -/
theorem strOk_sg {z : Str} (h : SgT z) : PyData.strOk z = true := by
  unfold PyData.strOk
  rw [Array.all_eq_true_iff_forall_mem]
  intro c hc
  have := h c (by simpa using hc)
  have k := this.2.1
  simp
  omega
theorem lay_strs : ∀ ws : List Str, (∀ z ∈ ws, SgT z) → PyData.canLayAll0 (ws.map PyData.str) = true ∧ PyData.depthAll (ws.map PyData.str) = 0
  | [], _ => ⟨rfl, rfl⟩
  | z :: ws, h => by
    obtain ⟨a, b⟩ := lay_strs ws fun y hy => h y (List.mem_cons_of_mem _ hy)
    refine ⟨?_, ?_⟩
    · rw [List.map_cons, PyData.canLayAll0, PyData.canLay0, strOk_sg (h z List.mem_cons_self), a]
      rfl
    · rw [List.map_cons, PyData.depthAll, b, PyData.depth]
      rfl
theorem shaped_tup {ws : List Str} (h : ∀ z ∈ ws, SgT z) : SeqAt.shaped (.tuple (ws.map PyData.str)) = true := by
  obtain ⟨a, b⟩ := lay_strs ws h
  unfold SeqAt.shaped
  rw [PyData.canLay0, PyData.depth, a, b]
  rfl
theorem eqvs_strs : ∀ as bs : List Str, PyData.eqvAll (as.map PyData.str) (bs.map PyData.str) = decide (as = bs)
  | [], [] => rfl
  | [], _ :: _ => rfl
  | _ :: _, [] => rfl
  | a :: as, b :: bs => by
    rw [List.map_cons, List.map_cons, PyData.eqvAll, eqvs_strs as bs, eqv_str]
    by_cases h1 : a = b <;> by_cases h2 : as = bs <;> simp [h1, h2]
theorem ne_paths {K : PySem.W.Frag} {H : Hp} {a b : Addr} {p q : List Str} {Q : VK} (ha : SqT K H a (p.map V.str)) (hb : SqT K H b (q.map V.str)) (hp : ∀ z ∈ p, SgT z) (hq : ∀ z ∈ q, SgT z) (h : Q (.bl (!decide (p = q))) H) : rNeD K (.ref a) (.ref b) H Q := by
  refine ⟨.tuple (p.map .str), .tuple (q.map .str), .tup ha (dpa_strs p), .tup hb (dpa_strs q), shaped_tup hp, shaped_tup hq, ?_⟩
  have e : PyData.eqv (.tuple (p.map .str)) (.tuple (q.map .str)) = decide (p = q) := by
    rw [PyData.eqv]
    exact eqvs_strs p q
  rw [e]
  exact h
/-- the texts of a table -/
def FlS (fl : Fl) : Prop := ∀ x ∈ fl, ∀ k ∈ x.1, SgT k
theorem Wf.sg {ws : List Str} {fl : Fl} (h : Wf ws fl) (hw : ∀ z ∈ ws, SgT z) : FlS fl := fun x hx k hk => hw k ((h.pa x.1 x.2 (getF_nd h.nd hx)).2.2.1 k hk)
/-- a slice that leaves something out is new -/
theorem slA_new {K : PySem.W.Frag} {H : Hp} {a : Addr} {xs : List V} {lo hi : Option Int} {Q : VK} (h : SqT K H a xs) (hw : ¬ (HT.sIx xs.length 0 lo = 0 ∧ HT.sIx xs.length xs.length hi = xs.length)) (q : ∀ p, H p = none → Q (.ref p) (upd H p (.tup (cutV xs lo hi)))) : rSlA K (.ref a) lo hi H Q :=
  ⟨a, xs, rfl, h, fun z => absurd z hw, fun _ => q⟩
/-- a slice of a tracked tuple is tracked -/
theorem slA_tr {K : PySem.W.Frag} {H : Hp} {a : Addr} {xs : List V} {lo hi : Option Int} {Q : VK} (h : H a = some (.tup xs)) (q : ∀ p H', Same H H' → H' p = some (.tup (cutV xs lo hi)) → Q (.ref p) H') : rSlA K (.ref a) lo hi H Q := by
  refine ⟨a, xs, rfl, SqT.of h, fun z => ?_, fun _ p hp => q p _ (same_new hp _) upd_same⟩
  refine q a H (Same.refl H) ?_
  rw [h]
  congr 2
  unfold cutV
  rw [z.1, z.2, List.drop_zero, Nat.sub_zero, List.take_length]
/-! ### for the single defs -/
theorem none_any {P : Program} {w : World} {K : PySem.W.Frag} {mg : Str → Option Value} {base : Heap} {k : Nat} {f : Addr} {fd : FuncData} {ps : List Str} {sp : Sp} (no : ∀ vs H Q E, ¬ sp vs H Q E) : FnOk P w K mg base CX0 k f fd ps sp :=
  ⟨fun vs H Q E h => absurd h (no vs H Q E), fun A outer s H args us vs Q E _ _ _ _ h => absurd h (no vs H Q E)⟩
theorem dt_tup {K : PySem.W.Frag} {H : Hp} {v : V} {ds : List Dt} (h : DT K H v (.tup ds)) : ∃ a xs, v = .ref a ∧ SqT K H a xs ∧ DTs K H xs ds := by
  cases h with
  | tup h1 h2 => exact ⟨_, _, rfl, h1, h2⟩
theorem dt_head {K : PySem.W.Frag} {H : Hp} {v : V} {z : Str} {ds : List Dt} (h : DT K H v (.tup (.str z :: ds))) : ∃ a xs, v = .ref a ∧ SqT K H a (.str z :: xs) ∧ DTs K H xs ds := by
  obtain ⟨a, xs, rfl, h1, h2⟩ := dt_tup h
  cases h2 with
  | cons h3 h4 =>
    cases h3
    exact ⟨_, _, rfl, h1, h4⟩
/-- the word of a scalar is not that of a record -/
theorem sc_word (c : Sc) (h : c ≠ .recd) : ∃ z ds, scD c = .str z :: ds ∧ z ≠ Str.ofString "record" := by
  cases c with
  | null => exact ⟨_, _, rfl, by decide +kernel⟩
  | fals => exact ⟨_, _, rfl, by decide +kernel⟩
  | tru => exact ⟨_, _, rfl, by decide +kernel⟩
  | num n => exact ⟨_, _, rfl, by decide +kernel⟩
  | text s => exact ⟨_, _, rfl, by decide +kernel⟩
  | recd => exact absurd rfl h
/-- a table whose paths stand below records -/
structure Up (fl : Fl) : Prop where
  nine : ∀ q c, getF fl q = some c → q.length ≤ 9
  up : ∀ p c, getF fl p = some c → ∀ j, 1 ≤ j → j < p.length → getF fl (p.take j) = some .recd
theorem Wf.toUp {ws : List Str} {fl : Fl} (h : Wf ws fl) : Up fl := ⟨h.nine, h.up⟩
/-- what the path holds, with all below it -/
def atD (fl : Fl) (p : List Str) : Dt := if p = [] then .tup [.str (Str.ofString "record"), .tup (doc fl [])] else valD fl p
theorem valD_none {fl : Fl} {p : List Str} (h : getF fl p = none) : valD fl p = .non := by unfold valD; rw [h]
theorem valD_recd {fl : Fl} {p : List Str} (h : getF fl p = some .recd) : valD fl p = .tup [.str (Str.ofString "record"), .tup (doc fl p)] := by unfold valD; rw [h]
theorem valD_sc {fl : Fl} {p : List Str} {c : Sc} (h : getF fl p = some c) (n : c ≠ .recd) : valD fl p = .tup (scD c) := by
  unfold valD
  rw [h]
  cases c <;> first | rfl | exact absurd rfl n
/-- a record, a scalar, or nothing -/
theorem atD_cases (fl : Fl) (p : List Str) : (atD fl p = .tup [.str (Str.ofString "record"), .tup (doc fl p)] ∧ (p = [] ∨ getF fl p = some .recd)) ∨ (∃ c, c ≠ .recd ∧ atD fl p = .tup (scD c) ∧ p ≠ [] ∧ getF fl p = some c) ∨ (atD fl p = .non ∧ p ≠ [] ∧ getF fl p = none) := by
  unfold atD
  by_cases e : p = []
  · subst e
    exact .inl ⟨if_pos rfl, .inl rfl⟩
  · rw [if_neg e]
    cases h : getF fl p with
    | none => exact .inr (.inr ⟨valD_none h, e, rfl⟩)
    | some c =>
      by_cases n : c = .recd
      · subst n
        exact .inl ⟨valD_recd h, .inr rfl⟩
      · exact .inr (.inl ⟨c, n, valD_sc h n, e, rfl⟩)
theorem field_valD (fl : Fl) (p : List Str) (k : Str) : (if k ∈ below fl p then valD fl (p ++ [k]) else .non) = valD fl (p ++ [k]) := by
  by_cases h : k ∈ below fl p
  · rw [if_pos h]
  · rw [if_neg h]
    cases g : getF fl (p ++ [k]) with
    | none => exact (valD_none g).symm
    | some c => exact absurd (mem_below.mpr ⟨c, g⟩) h
/-- nothing below what is no record -/
theorem Up.none {fl : Fl} (h : Up fl) {p : List Str} {i : Nat} (hi : i < p.length) (h1 : p.take i ≠ []) (hn : getF fl (p.take i) ≠ some .recd) : atD fl p = .non := by
  have np : p ≠ [] := fun e => by subst e; simp at hi
  unfold atD
  rw [if_neg np]
  cases g : getF fl p with
  | none => exact valD_none g
  | some c =>
    have i1 : 1 ≤ i := by
      cases i with
      | zero => exact absurd rfl h1
      | succ i => omega
    exact absurd (h.up p c g i i1 hi) hn
/-- what the path holds -/
def hdD (fl : Fl) (p : List Str) : Dt := if p = [] then .tup (scD .recd) else match getF fl p with | some c => .tup (scD c) | none => .non
theorem Up.below {fl : Fl} (h : Up fl) {p : List Str} (h1 : p ≠ []) (hn : getF fl p ≠ some .recd) : below fl p = [] := by
  rw [List.eq_nil_iff_forall_not_mem]
  intro k hk
  obtain ⟨c, hc⟩ := mem_below.mp hk
  refine hn ?_
  have := h.up _ c hc p.length (by cases p with | nil => exact absurd rfl h1 | cons a r => simp) (by simp)
  rwa [List.take_left] at this
/-- a table of paths stands at d -/
structure FlatAt (K : PySem.W.Frag) (H : Hp) (d : Addr) (fl : Fl) : Prop where
  ex : ∃ kvs, H d = some (.dT kvs) ∧ FlK K H kvs fl
theorem FlatAt.same {K : PySem.W.Frag} {H H' : Hp} {d : Addr} {fl : Fl} (h : FlatAt K H d fl) (e : Same H H') : FlatAt K H' d fl := by
  obtain ⟨kvs, h1, h2⟩ := h.ex
  exact ⟨kvs, e _ _ h1, h2.same e⟩
theorem FlatAt.go {K : PySem.W.Frag} {H H' : Hp} {t d : Addr} {fl : Fl} (h : FlatAt K H d fl) (hT : Tape H t) (e : Sm t H H') : FlatAt K H' d fl := by
  obtain ⟨kvs, h1, h2⟩ := h.ex
  obtain ⟨l, ns, x, b, c, h3, _⟩ := hT.ex
  exact ⟨kvs, e _ _ (ne_of h1 h3 (fun z => by cases z)) h1, h2.go hT e⟩
/-- what reads as tuples still does where one thing that is no tuple has changed -/
theorem seqT_put {K : PySem.W.Frag} {H : Hp} {b a : Addr} {xs : List V} {o u : HO} (hb : H b = some o) (n1 : ∀ ys, o ≠ .tup ys) (n2 : ∀ z ys, o ≠ .frz z (.tup ys)) (h : SqT K H a xs) : SqT K (upd H b u) a xs := by
  rcases h with (h | ⟨z, h⟩) | h
  · exact .inl (.inl (by rw [upd_ne (ne_of h hb (fun e => n1 _ e.symm))]; exact h))
  · exact .inl (.inr ⟨z, by rw [upd_ne (ne_of h hb (fun e => n2 _ _ e.symm))]; exact h⟩)
  · exact .inr h
theorem seqT_two {K : PySem.W.Frag} {H H' : Hp} {f d a : Addr} {kvs : List (List Key × V)} {xs : List V} (s : ∀ b o, b ≠ f → b ≠ d → H b = some o → H' b = some o) (hf : H f = none) (hd : H d = some (.dT kvs)) (h : SqT K H a xs) : SqT K H' a xs := by
  rcases h with (h | ⟨z, h⟩) | h
  · exact .inl (.inl (s _ _ (ne_of_none h hf) (ne_of h hd (fun e => by cases e)) h))
  · exact .inl (.inr ⟨z, s _ _ (ne_of_none h hf) (ne_of h hd (fun e => by cases e)) h⟩)
  · exact .inr h
theorem cutF_take {fl : Fl} {p q : List Str} {c : Sc} {i : Nat} (h : fl[i]? = some (q, c)) : cutF (fl.take (i + 1)) p = if q.take p.length = p then cutF (fl.take i) p else cutF (fl.take i) p ++ [(q, c)] := by
  obtain ⟨hi, e⟩ := List.getElem?_eq_some_iff.mp h
  unfold cutF
  rw [List.take_succ_eq_append_getElem hi, e, List.filter_append]
  by_cases z : q.take p.length = p
  · rw [if_pos z, List.filter_cons_of_neg (by simp [z]), List.filter_nil, List.append_nil]
  · rw [if_neg z, List.filter_cons_of_pos (by simp [z]), List.filter_nil]
theorem putF_new {fl : Fl} {q : List Str} (c : Sc) (h : getF fl q = none) : putF fl q c = fl ++ [(q, c)] := by
  unfold putF
  rw [if_neg]
  intro z
  obtain ⟨x, hx, e⟩ := List.any_eq_true.mp z
  obtain ⟨d, hd⟩ := mem_getF (fl := fl) (p := q) (c := x.2) (by rw [← of_decide_eq_true e]; exact hx)
  rw [h] at hd
  cases hd
theorem getF_take {fl : Fl} (nd : (fl.map (·.1)).Nodup) {q : List Str} {c : Sc} {i : Nat} (h : fl[i]? = some (q, c)) : getF (fl.take i) q = none := by
  obtain ⟨hi, e⟩ := List.getElem?_eq_some_iff.mp h
  have n2 : ((fl.take (i + 1)).map (·.1)).Nodup := nd.sublist (List.Sublist.map _ (List.take_sublist _ _))
  rw [List.take_succ_eq_append_getElem hi, e, List.map_append, List.nodup_append] at n2
  cases g : getF (fl.take i) q with
  | none => rfl
  | some d => exact absurd rfl (n2.2.2 q (List.mem_map.mpr ⟨_, getF_mem g, rfl⟩) q (by simp))
theorem FlatAt.put {K : PySem.W.Frag} {H : Hp} {f b : Addr} {fl : Fl} {p : List Str} {v : V} {c : Sc} (h : FlatAt K H f fl) (lf : fl.length ≤ 100000) (hb : H b = some (.tup (p.map V.str))) (d : DT K H v (.tup (scD c))) :
    ∃ H', DPut H f (.ref b) v H' ∧ (∀ a o, a ≠ f → H a = some o → H' a = some o) ∧ (∀ a xs, SqT K H a xs → SqT K H' a xs) ∧ FlatAt K H' f (putF fl p c) := by
  obtain ⟨kvs, h1, h2⟩ := h.ex
  have lk := h2.len
  have mo : ∀ a xs, SqT K H a xs → SqT K (upd H f (.dT (putK kvs (kP p) v))) a xs := fun _ _ h => seqT_put h1 (fun _ z => by cases z) (fun _ _ z => by cases z) h
  exact ⟨_, DPut.t h1 (by rw [kP_V]; exact hb) (lt_line (by omega)), fun a o n e => by rw [upd_ne n]; exact e, mo, _, upd_same, (h2.put p d).mono mo⟩
inductive Al2 {α β : Type} (R : α → β → Prop) : List α → List β → Prop
  | nil : Al2 R [] []
  | cons {a : α} {b : β} {l : List α} {m : List β} : R a b → Al2 R l m → Al2 R (a :: l) (b :: m)
section
variable {α β : Type} {R S : α → β → Prop}
theorem Al2.mono (f : ∀ a b, R a b → S a b) {l : List α} {m : List β} (h : Al2 R l m) : Al2 S l m := by
  induction h with
  | nil => exact .nil
  | cons h1 _ ih => exact .cons (f _ _ h1) ih
theorem Al2.len {l : List α} {m : List β} (h : Al2 R l m) : l.length = m.length := by
  induction h with
  | nil => rfl
  | cons _ _ ih => rw [List.length_cons, List.length_cons, ih]
theorem Al2.app {l l' : List α} {m m' : List β} (h : Al2 R l m) (k : Al2 R l' m') : Al2 R (l ++ l') (m ++ m') := by
  induction h with
  | nil => exact k
  | cons h1 _ ih => exact .cons h1 ih
theorem Al2.at {l : List α} {m : List β} (h : Al2 R l m) {i : Nat} {a : α} (e : l[i]? = some a) : ∃ b, m[i]? = some b ∧ R a b := by
  induction h generalizing i with
  | nil => simp at e
  | cons h1 _ ih =>
    cases i with
    | zero =>
      have e' := Option.some.inj e
      cases e'
      exact ⟨_, rfl, h1⟩
    | succ i => exact ih (by simpa using e)
theorem Al2.zip {l : List α} {m : List β} (h : Al2 R l m) : ∀ z ∈ l.zip m, R z.1 z.2 := by
  induction h with
  | nil => intro z hz; cases hz
  | cons h1 _ ih =>
    intro z hz
    rw [List.zip_cons_cons] at hz
    rcases List.mem_cons.mp hz with rfl | hz
    · exact h1
    · exact ih z hz
theorem Al2.maps {zs : List (α × β)} (h : ∀ z ∈ zs, R z.1 z.2) : Al2 R (zs.map (·.1)) (zs.map (·.2)) := by
  induction zs with
  | nil => exact .nil
  | cons z zs ih => exact .cons (h z List.mem_cons_self) (ih fun x hx => h x (List.mem_cons_of_mem _ hx))
end
theorem same_free {H H' : Hp} {p : Addr} (s : Same H H') (h : H' p = none) : H p = none := by
  cases e : H p with
  | none => rfl
  | some o => rw [s p o e] at h; cases h
/-- v is the tracked tuple of the path -/
def PthV (H : Hp) (v : V) (p : List Str) : Prop := ∃ b, v = .ref b ∧ H b = some (.tup (p.map V.str))
def encP (p : List Str) : PyData := .tuple [.list (p.map dK), .tuple (p.map .str)]
def srtP (ps : List (List Str)) : List (List Str) := ps.mergeSort (PySem.W.dataLe false encP)
/-- a row to be sorted -/
def RowP (K : PySem.W.Frag) (D : Addr) (H : Hp) (y : V) (p : List Str) : Prop := ∃ o r b vs, y = .ref o ∧ H o = some (.tup [.ref r, .ref b]) ∧ H b = some (.tup (p.map V.str)) ∧ r ≠ D ∧ SqL K H r vs ∧ DpAll K H vs (p.map dK)
theorem RowP.same {K : PySem.W.Frag} {D : Addr} {H H' : Hp} {y : V} {p : List Str} (h : RowP K D H y p) (e : Same H H') : RowP K D H' y p := by
  obtain ⟨o, r, b, vs, h1, h2, h3, h4, h5, h6⟩ := h
  exact ⟨o, r, b, vs, h1, e _ _ h2, e _ _ h3, h4, e.seq h5, h6.same e⟩
theorem RowP.put {K : PySem.W.Frag} {D : Addr} {H : Hp} {y : V} {p : List Str} {acc acc' : List V} (h : RowP K D H y p) (e : H D = some (.lst acc)) : RowP K D (upd H D (.lst acc')) y p := by
  obtain ⟨o, r, b, vs, h1, h2, h3, h4, h5, h6⟩ := h
  refine ⟨o, r, b, vs, h1, by rw [upd_ne (ne_of h2 e (fun z => by cases z))]; exact h2, by rw [upd_ne (ne_of h3 e (fun z => by cases z))]; exact h3, h4, ?_, DpAll.rows (fun _ _ h => seqT_put e (fun _ z => by cases z) (fun _ _ z => by cases z) h) _ _ h6⟩
  rcases h5 with (h | ⟨z, h⟩) | h
  · exact .inl (.inl (by rw [upd_ne h4]; exact h))
  · exact .inl (.inr ⟨z, by rw [upd_ne h4]; exact h⟩)
  · exact .inr h
theorem RowP.dp {K : PySem.W.Frag} {D : Addr} {H : Hp} {y : V} {p : List Str} (h : RowP K D H y p) : Dp K H y (encP p) := by
  obtain ⟨o, r, b, vs, rfl, h2, h3, h4, h5, h6⟩ := h
  exact .tup (SqT.of h2) (.cons (.lst h5 h6) (.cons (.tup (SqT.of h3) (dpa_strs p)) .nil))
theorem rows_dp {K : PySem.W.Frag} {D : Addr} {H : Hp} {ys : List V} {ps : List (List Str)} (h : Al2 (RowP K D H) ys ps) : DpAll K H ys (ps.map encP) := by
  induction h with
  | nil => exact .nil
  | cons h1 _ ih => exact .cons h1.dp ih
theorem alike_strs : ∀ as bs : List Str, PySem.W.alikeAll (as.map PyData.str) (bs.map PyData.str) = true
  | [], bs => by simp [PySem.W.alikeAll]
  | a :: as, [] => by simp [PySem.W.alikeAll]
  | a :: as, b :: bs => by
    rw [List.map_cons, List.map_cons, PySem.W.alikeAll, alike_strs as bs]
    rfl
theorem alike_encP (a b : List Str) : PySem.W.alike (encP a) (encP b) = true := by
  unfold encP
  rw [PySem.W.alike, PySem.W.alikeAll, PySem.W.alikeAll, PySem.W.alikeAll, PySem.W.alike, PySem.W.alike, alike_rows, alike_strs]
  rfl
theorem depth_encP (p : List Str) : (encP p).depth ≤ 60 := by
  have h1 := depth_rows p
  have h2 : PyData.depthAll (p.map PyData.str) = 0 := by
    induction p with
    | nil => rfl
    | cons z p ih => rw [List.map_cons, PyData.depthAll, ih (depth_rows p), PyData.depth]; rfl
  unfold encP
  rw [PyData.depth, PyData.depthAll, PyData.depthAll, PyData.depthAll, PyData.depth, PyData.depth, h2]
  omega
theorem cutV_neg1 {xs : List V} : cutV xs none (some (-1)) = xs.take (xs.length - 1) := by
  show (xs.drop 0).take (HT.sIx xs.length xs.length (some (-1)) - 0) = _
  rw [List.drop_zero, Nat.sub_zero]
  congr 1
  show (if (-1 : Int) < 0 then ((-1 : Int) + (xs.length : Int)).toNat else min (-1 : Int).toNat xs.length) = _
  rw [if_pos (by decide)]
  omega
/-- a row to be sorted -/
def RowK (H : Hp) (y : V) (k : Str) : Prop := ∃ o, y = .ref o ∧ H o = some (.tup [.int k.length, .str k])
theorem rowks_dp {K : PySem.W.Frag} {H : Hp} {ys : List V} {ks : List Str} (h : Al2 (RowK H) ys ks) : DpAll K H ys (ks.map dK) := by
  induction h with
  | nil => exact .nil
  | cons h1 _ ih =>
    obtain ⟨o, rfl, h2⟩ := h1
    exact .cons (.tup (SqT.of h2) (.cons (.int _) (.cons (.str _) .nil))) ih
theorem depth_dK (k : Str) : (dK k).depth ≤ 60 := by
  show (PyData.tuple [.int k.length, .str k]).depth ≤ 60
  simp [PyData.depth, PyData.depthAll]
theorem catA_tr {K : PySem.W.Frag} {H : Hp} {a b : Addr} {xs ys : List V} {Q : VK} (h : SqT K H a xs) (k : H b = some (.tup ys)) (hy : ys ≠ []) (hl : xs.length + ys.length ≤ sizeLine) (q : ∀ p H', Same H H' → H' p = some (.tup (xs ++ ys)) → Q (.ref p) H') : rCatA K (.ref a) (.ref b) H Q :=
  ⟨a, b, xs, ys, rfl, rfl, h, SqT.of k, hl, (fun e => q b H (Same.refl H) (by rw [e]; exact k)), (fun _ e => absurd e hy), fun _ _ p hp => q p _ (same_new hp _) upd_same⟩
theorem eqbs_recd (c : Sc) : Dt.eqbs (scD c) [.str (Str.ofString "record")] = match c with | .recd => true | _ => false := by
  have f : ∀ (z : Str) (r : List Dt), (z == Str.ofString "record") = false → Dt.eqbs (.str z :: r) [.str (Str.ofString "record")] = false := fun z r h => by
    rw [Dt.eqbs, Dt.eqb, h]
    rfl
  cases c with
  | null => exact f _ _ (by decide +kernel)
  | fals => exact f _ _ (by decide +kernel)
  | tru => exact f _ _ (by decide +kernel)
  | num n => exact f _ _ (by decide +kernel)
  | text s => exact f _ _ (by decide +kernel)
  | recd => exact eqbs_refl _
def prD (fl : Fl) (p : List Str) (k : Str) : Dt := .tup [.str k, valD fl (p ++ [k])]
theorem keys_al {K : PySem.W.Frag} {H H0 : Hp} {kvs : List (List Key × V)} {fl : Fl} (h : FlK K H kvs fl) : ∀ {bs : List Addr}, IsKeys H0 kvs bs → Al2 (PthV H0) (bs.map V.ref) (fl.map (·.1)) := by
  unfold IsKeys
  induction h with
  | nil =>
    intro bs k
    cases k
    exact .nil
  | @cons v p c kvs fl _ _ ih =>
    intro bs k
    cases k with
    | cons k1 k2 => exact .cons ⟨_, rfl, by rw [k1, kP_V]⟩ (ih k2)
/-- a list of paths as data -/
theorem dpa_paths {K : PySem.W.Frag} {H : Hp} {ys : List V} {ps : List (List Str)} (h : Al2 (PthV H) ys ps) : DpAll K H ys (ps.map fun p => PyData.tuple (p.map .str)) := by
  induction h with
  | nil => exact .nil
  | cons h1 _ ih =>
    obtain ⟨b, rfl, h2⟩ := h1
    exact .cons (.tup (SqT.of h2) (dpa_strs _)) ih
theorem lay_paths : ∀ ps : List (List Str), (∀ p ∈ ps, ∀ z ∈ p, SgT z) → PyData.canLayAll0 (ps.map fun p => PyData.tuple (p.map .str)) = true ∧ PyData.depthAll (ps.map fun p => PyData.tuple (p.map .str)) ≤ 1
  | [], _ => ⟨rfl, Nat.zero_le _⟩
  | p :: ps, h => by
    obtain ⟨a, b⟩ := lay_paths ps fun y hy => h y (List.mem_cons_of_mem _ hy)
    obtain ⟨c, d⟩ := lay_strs p (h p List.mem_cons_self)
    refine ⟨?_, ?_⟩
    · rw [List.map_cons, PyData.canLayAll0, PyData.canLay0, c, a]
      rfl
    · rw [List.map_cons, PyData.depthAll, PyData.depth, d]
      omega
theorem shaped_paths {ps : List (List Str)} (h : ∀ p ∈ ps, ∀ z ∈ p, SgT z) : SeqAt.shaped (.list (ps.map fun p => PyData.tuple (p.map .str))) = true := by
  obtain ⟨a, b⟩ := lay_paths ps h
  unfold SeqAt.shaped
  rw [PyData.canLay0, PyData.depth, a, decide_eq_true (by omega)]
  rfl
theorem eqv_paths_nil (ps : List (List Str)) : PyData.eqv (.list (ps.map fun p => PyData.tuple (p.map .str))) (.list []) = ps.isEmpty := by
  cases ps <;> simp [PyData.eqv, PyData.eqvAll]
/-- a tracked path -/
def P5 (H : Hp) (v : V) : Prop := ∃ (b : Addr) (p : List Str), v = .ref b ∧ H b = some (.tup (p.map V.str)) ∧ p.length ≤ 50
theorem P5.go {t : Addr} {H H' : Hp} (hT : Tape H t) (g : Sm t H H') {l : List V} (h : ∀ v ∈ l, P5 H v) : ∀ v ∈ l, P5 H' v := fun v hv => by
  obtain ⟨b, p, h1, h2, h3⟩ := h v hv
  obtain ⟨m, ns, x, b', c, h4, _⟩ := hT.ex
  exact ⟨b, p, h1, g _ _ (ne_of h2 h4 (fun z => by cases z)) h2, h3⟩
theorem P5.same {H H' : Hp} (g : Same H H') {l : List V} (h : ∀ v ∈ l, P5 H v) : ∀ v ∈ l, P5 H' v := fun v hv => by
  obtain ⟨b, p, h1, h2, h3⟩ := h v hv
  exact ⟨b, p, h1, g _ _ h2, h3⟩
theorem P5.snoc {H : Hp} {l : List V} {b : Addr} {p : List Str} (h : ∀ v ∈ l, P5 H v) (e : H b = some (.tup (p.map V.str))) (k : p.length ≤ 50) : ∀ v ∈ l ++ [.ref b], P5 H v := fun v hv => by
  rcases List.mem_append.mp hv with q | q
  · exact h v q
  · exact ⟨b, p, List.mem_singleton.mp q, e, k⟩
/-- the paths directly below -/
def entD (fl : Fl) (p : List Str) : List Dt := (below fl p).map fun k => ptD (p ++ [k])
end My

namespace My
open PySem L2
/-! ### the keys below a path stand in one order alone -/
def LtS (a b : Str) : Prop := ltC a.cps.toList b.cps.toList
instance (a b : Str) : Decidable (LtS a b) := by unfold LtS; exact inferInstance
theorem LtS.irrefl (a : Str) : ¬ LtS a a := ltC_irrefl _
theorem LtS.asymm {a b : Str} (h : LtS a b) : ¬ LtS b a := ltC_asymm h
theorem LtS.total {a b : Str} (h : a ≠ b) : LtS a b ∨ LtS b a := ltC_total (codes_ne h)
theorem LtS.trans {a b c : Str} (h : LtS a b) (k : LtS b c) : LtS a c := by
  unfold LtS ltC at *
  rcases h with h | ⟨h1, h2⟩ <;> rcases k with k | ⟨k1, k2⟩
  · exact .inl (by omega)
  · exact .inl (by omega)
  · exact .inl (by omega)
  · exact .inr ⟨by omega, List.lt_trans h2 k2⟩
theorem leK_eq (a b : Str) : PySem.W.dataLe false dK a b = !decide (LtS b a) := by
  rw [PySem.W.dataLe_eq]
  show (!PySem.W.dataLt (dK b) (dK a)) = _
  by_cases h : b = a
  · subst h
    have e : PySem.W.dataLt (dK b) (dK b) = false := by
      unfold dK
      rw [PySem.W.dataLt_pair rfl rfl, eqv_int, eqv_str, decide_eq_true rfl, decide_eq_true rfl, if_pos rfl, if_pos rfl]
    rw [e, decide_eq_false (LtS.irrefl b)]
  · rw [dataLt_dK _ _ h]
    rfl
theorem srtK_sorted {ks : List Str} (nd : ks.Nodup) : (srtK ks).Pairwise LtS := by
  have h1 : (srtK ks).Pairwise fun a b => PySem.W.dataLe false dK a b = true := by
    refine List.pairwise_mergeSort (fun a b c h k => ?_) (fun a b => ?_) ks
    · rw [leK_eq, Bool.not_eq_true', decide_eq_false_iff_not] at *
      intro z
      by_cases e : a = b
      · subst e; exact k z
      · rcases LtS.total e with y | y
        · exact k (z.trans y)
        · exact h y
    · rw [leK_eq, leK_eq]
      by_cases z : LtS b a
      · rw [decide_eq_false (p := LtS a b) z.asymm]; simp
      · rw [decide_eq_false z]; simp
  have h2 : (srtK ks).Nodup := (List.mergeSort_perm ks _).nodup_iff.mpr nd
  refine (h1.and h2).imp fun {a b} h => ?_
  obtain ⟨h3, h4⟩ := h
  rw [leK_eq, Bool.not_eq_true', decide_eq_false_iff_not] at h3
  exact (LtS.total h4).resolve_right h3
theorem srt_unique : ∀ {l m : List Str}, l.Pairwise LtS → m.Pairwise LtS → (∀ k, k ∈ l ↔ k ∈ m) → l = m
  | [], [], _, _, _ => rfl
  | [], b :: m, _, _, h => absurd ((h b).mpr List.mem_cons_self) (by simp)
  | a :: l, [], _, _, h => absurd ((h a).mp List.mem_cons_self) (by simp)
  | a :: l, b :: m, hl, hm, h => by
    rw [List.pairwise_cons] at hl hm
    have e : a = b := by
      rcases List.mem_cons.mp ((h a).mp List.mem_cons_self) with e | e
      · exact e
      rcases List.mem_cons.mp ((h b).mpr List.mem_cons_self) with e2 | e2
      · exact e2.symm
      · exact absurd (hl.1 b e2) (hm.1 a e).asymm
    subst e
    rw [srt_unique hl.2 hm.2 fun k => ?_]
    have := h k
    rw [List.mem_cons, List.mem_cons] at this
    constructor
    · intro z
      rcases this.mp (.inr z) with e | e
      · subst e; exact absurd (hl.1 _ z) (LtS.irrefl _)
      · exact e
    · intro z
      rcases this.mpr (.inr z) with e | e
      · subst e; exact absurd (hm.1 _ z) (LtS.irrefl _)
      · exact e
theorem keysB_nd {fl : Fl} (nd : (fl.map (·.1)).Nodup) (p : List Str) : (keysB fl p).Nodup := by
  unfold keysB
  have h1 : ((fl.filter (isBelow p)).map (·.1)).Nodup := nd.sublist (List.Sublist.map _ List.filter_sublist)
  rw [List.nodup_iff_pairwise_ne, List.pairwise_map] at h1 ⊢
  refine h1.imp_of_mem fun {x y} hx hy h e => h ?_
  obtain ⟨k, ek⟩ := (isBelow_iff p x).mp (List.mem_filter.mp hx).2
  obtain ⟨j, ej⟩ := (isBelow_iff p y).mp (List.mem_filter.mp hy).2
  rw [ek, ej, lastS_snoc, lastS_snoc] at e
  rw [ek, ej, e]
theorem below_sorted {fl : Fl} (nd : (fl.map (·.1)).Nodup) (p : List Str) : (below fl p).Pairwise LtS := srtK_sorted (keysB_nd nd p)
theorem below_of {fl : Fl} (nd : (fl.map (·.1)).Nodup) {p : List Str} {l : List Str} (hl : l.Pairwise LtS) (h : ∀ k, k ∈ l ↔ ∃ c, getF fl (p ++ [k]) = some c) : below fl p = l :=
  srt_unique (below_sorted nd p) hl fun k => by rw [mem_below, h]
theorem below_congr {fl fl' : Fl} (nd : (fl.map (·.1)).Nodup) (nd' : (fl'.map (·.1)).Nodup) {p : List Str} (h : ∀ k, getF fl (p ++ [k]) = getF fl' (p ++ [k])) : below fl p = below fl' p :=
  below_of nd (below_sorted nd' p) fun k => by rw [mem_below, h]
theorem dF_congr {fl fl' : Fl} (nd : (fl.map (·.1)).Nodup) (nd' : (fl'.map (·.1)).Nodup) : ∀ (n : Nat) (p : List Str), (∀ k r, getF fl (p ++ k :: r) = getF fl' (p ++ k :: r)) → dF n fl p = dF n fl' p
  | 0, _, _ => rfl
  | n + 1, p, h => by
    rw [dF, dF, below_congr nd nd' (fun k => h k [])]
    refine List.map_congr_left fun k _ => ?_
    rw [h k [], dF_congr nd nd' n (p ++ [k]) fun j r => ?_]
    rw [List.append_assoc]
    exact h k (j :: r)
theorem doc_congr {fl fl' : Fl} (nd : (fl.map (·.1)).Nodup) (nd' : (fl'.map (·.1)).Nodup) {p : List Str} (h : ∀ k r, getF fl (p ++ k :: r) = getF fl' (p ++ k :: r)) : doc fl p = doc fl' p := dF_congr nd nd' _ _ h
theorem valD_congr {fl fl' : Fl} (nd : (fl.map (·.1)).Nodup) (nd' : (fl'.map (·.1)).Nodup) {p : List Str} (h0 : getF fl p = getF fl' p) (h : ∀ k r, getF fl (p ++ k :: r) = getF fl' (p ++ k :: r)) : valD fl p = valD fl' p := by
  unfold valD
  rw [h0, doc_congr nd nd' h]
/-! ### one field in its place -/
def insD (ks : List Str) (f : Str → Dt) (k : Str) (d : Dt) : List Dt := (ks.filter fun j => decide (LtS j k)).map f ++ [.tup [.str k, d]] ++ (ks.filter fun j => decide (LtS k j)).map f
theorem ins_sorted {ks : List Str} (h : ks.Pairwise LtS) (k : Str) : ((ks.filter fun j => decide (LtS j k)) ++ [k] ++ (ks.filter fun j => decide (LtS k j))).Pairwise LtS := by
  rw [List.pairwise_append, List.pairwise_append]
  refine ⟨⟨h.sublist List.filter_sublist, List.pairwise_singleton _ _, fun a ha b hb => ?_⟩, h.sublist List.filter_sublist, fun a ha b hb => ?_⟩
  · rw [List.mem_singleton.mp hb]
    exact of_decide_eq_true (List.mem_filter.mp ha).2
  · have hb' : LtS k b := of_decide_eq_true (List.mem_filter.mp hb).2
    rcases List.mem_append.mp ha with ha | ha
    · exact (of_decide_eq_true (List.mem_filter.mp ha).2 : LtS a k).trans hb'
    · rw [List.mem_singleton.mp ha]
      exact hb'
theorem doc_ins {fl fl' : Fl} (nd : (fl.map (·.1)).Nodup) (nd' : (fl'.map (·.1)).Nodup) (h9 : ∀ q c, getF fl' q = some c → q.length ≤ 9) {b : List Str} {k : Str} (hk : ∃ c, getF fl' (b ++ [k]) = some c) (ho : ∀ j r, j ≠ k → getF fl' (b ++ j :: r) = getF fl (b ++ j :: r)) :
    doc fl' b = insD (below fl b) (prD fl b) k (valD fl' (b ++ [k])) := by
  have hb : below fl' b = ((below fl b).filter fun j => decide (LtS j k)) ++ [k] ++ ((below fl b).filter fun j => decide (LtS k j)) := by
    refine below_of nd' (ins_sorted (below_sorted nd b) k) fun j => ?_
    rw [List.mem_append, List.mem_append, List.mem_filter, List.mem_filter, List.mem_singleton, decide_eq_true_iff, decide_eq_true_iff, mem_below]
    by_cases e : j = k
    · subst e
      exact ⟨fun _ => hk, fun _ => .inl (.inr rfl)⟩
    · rw [ho j [] e]
      constructor
      · rintro ((h | h) | h)
        · exact h.1
        · exact absurd h e
        · exact h.1
      · intro h
        rcases LtS.total e with z | z
        · exact .inl (.inl ⟨h, z⟩)
        · exact .inr ⟨h, z⟩
  have pr : ∀ j, j ≠ k → prD fl' b j = prD fl b j := fun j e => by
    unfold prD
    rw [valD_congr nd' nd (ho j [] e) fun i r => by rw [List.append_assoc]; exact ho j (i :: r) e]
  rw [doc_eq h9, hb]
  show List.map (prD fl' b) _ = _
  rw [List.map_append, List.map_append]
  unfold insD
  congr 1
  · congr 1
    exact List.map_congr_left fun j hj => pr j fun e => by
      subst e
      exact LtS.irrefl _ (of_decide_eq_true (List.mem_filter.mp hj).2)
  · exact List.map_congr_left fun j hj => pr j fun e => by
      subst e
      exact LtS.irrefl _ (of_decide_eq_true (List.mem_filter.mp hj).2)
/-! ### set and removed -/
theorem set_other (fl : Fl) (b : List Str) (k : Str) (r : List Str) (c : Sc) (j : Str) (s : List Str) (h : j ≠ k) : getF (setF fl (b ++ k :: r) c) (b ++ j :: s) = getF fl (b ++ j :: s) := by
  have n1 : ¬ b ++ j :: s = b ++ k :: r := fun e => by
    have := List.append_cancel_left e
    injection this with e1
    exact h e1
  have n2 : ∀ n, ¬ (b ++ k :: r).take n = b ++ j :: s := fun n e => by
    have hl : b.length < n := by
      have := congrArg List.length e
      simp at this
      omega
    rw [List.take_append, List.take_of_length_le (by omega)] at e
    have := List.append_cancel_left e
    obtain ⟨m, hm⟩ : ∃ m, n - b.length = m + 1 := ⟨n - b.length - 1, by omega⟩
    rw [hm, List.take_succ_cons] at this
    injection this with e1
    exact h e1.symm
  have n3 : ∀ n, ¬ (b ++ j :: s).take n = b ++ k :: r := fun n e => by
    have hl : b.length < n := by
      have := congrArg List.length e
      simp at this
      omega
    rw [List.take_append, List.take_of_length_le (by omega)] at e
    have := List.append_cancel_left e
    obtain ⟨m, hm⟩ : ∃ m, n - b.length = m + 1 := ⟨n - b.length - 1, by omega⟩
    rw [hm, List.take_succ_cons] at this
    injection this with e1
    exact h e1
  rw [getF_set, if_neg n1, if_neg (fun z => n2 _ z.2.2.symm), if_neg (n3 _)]
theorem cut_other (fl : Fl) (b : List Str) (k : Str) (r : List Str) (j : Str) (s : List Str) (h : j ≠ k) : getF (cutF fl (b ++ k :: r)) (b ++ j :: s) = getF fl (b ++ j :: s) := by
  have n3 : ∀ n, ¬ (b ++ j :: s).take n = b ++ k :: r := fun n e => by
    have hl : b.length < n := by
      have := congrArg List.length e
      simp at this
      omega
    rw [List.take_append, List.take_of_length_le (by omega)] at e
    have := List.append_cancel_left e
    obtain ⟨m, hm⟩ : ∃ m, n - b.length = m + 1 := ⟨n - b.length - 1, by omega⟩
    rw [hm, List.take_succ_cons] at this
    injection this with e1
    exact h e1
  rw [getF_cut, if_neg (n3 _)]
theorem set_first (fl : Fl) (b : List Str) (k : Str) (r : List Str) (c : Sc) : getF (setF fl (b ++ k :: r) c) (b ++ [k]) = some (if r = [] then c else .recd) := by
  rw [getF_set]
  by_cases e : r = []
  · subst e
    rw [if_pos rfl, if_pos rfl]
  · have l1 : 0 < r.length := List.length_pos_iff.mpr e
    rw [if_neg (fun z => e (by have := List.append_cancel_left z; injection this with _ e2; exact e2.symm)), if_neg e, if_pos]
    refine ⟨by simp, by simp; omega, ?_⟩
    rw [List.take_append, List.take_of_length_le (by simp)]
    simp
/-- the fields of what a path holds -/
theorem valD_fields {fl : Fl} (up : Up fl) {p : List Str} (hp : p ≠ []) : valD fl p = .tup [.str (Str.ofString "record"), .tup (doc fl p)] ∨ ((valD fl p = .non ∨ ∃ c, c ≠ .recd ∧ valD fl p = .tup (scD c)) ∧ doc fl p = []) := by
  cases h : getF fl p with
  | none =>
    refine .inr ⟨.inl (valD_none h), ?_⟩
    rw [doc_eq up.nine, up.below hp (by rw [h]; exact fun z => by cases z)]
    rfl
  | some c =>
    by_cases n : c = .recd
    · subst n
      exact .inl (valD_recd h)
    · refine .inr ⟨.inr ⟨c, n, valD_sc h n⟩, ?_⟩
      rw [doc_eq up.nine, up.below hp (by rw [h]; exact fun z => n (Option.some.inj z))]
      rfl
theorem nd_set {fl : Fl} (h : (fl.map (·.1)).Nodup) (p : List Str) (c : Sc) : ((setF fl p c).map (·.1)).Nodup := nd_put (nd_ups (nd_cut h _) _ _) _ _
theorem nine_set {fl : Fl} (h : ∀ q c, getF fl q = some c → q.length ≤ 9) {p : List Str} (hp : p.length ≤ 9) (c : Sc) : ∀ q d, getF (setF fl p c) q = some d → q.length ≤ 9 := fun q d e => by
  rw [getF_set] at e
  by_cases z : q = p
  · rw [z]; exact hp
  · rw [if_neg z] at e
    by_cases y : 1 ≤ q.length ∧ q.length < p.length ∧ q = p.take q.length
    · omega
    · rw [if_neg y] at e
      by_cases x : q.take p.length = p
      · rw [if_pos x] at e; cases e
      · rw [if_neg x] at e
        exact h q d e
theorem nine_cut {fl : Fl} (h : ∀ q c, getF fl q = some c → q.length ≤ 9) (p : List Str) : ∀ q d, getF (cutF fl p) q = some d → q.length ≤ 9 := fun q d e => by
  rw [getF_cut] at e
  by_cases x : q.take p.length = p
  · rw [if_pos x] at e; cases e
  · rw [if_neg x] at e
    exact h q d e
theorem below_lens {fl : Fl} (h : ∀ x ∈ fl, ∀ k ∈ x.1, k.length ≤ 1000) (p : List Str) : ∀ j ∈ below fl p, j.length ≤ 1000 := fun j hj => by
  obtain ⟨c, hc⟩ := mem_below.mp hj
  exact h _ (getF_mem hc) j (by simp)
theorem cut_first {fl : Fl} {b : List Str} {k : Str} {r : List Str} (h : r ≠ []) : getF (cutF fl (b ++ k :: r)) (b ++ [k]) = getF fl (b ++ [k]) := by
  have l1 : 0 < r.length := List.length_pos_iff.mpr h
  rw [getF_cut, if_neg]
  intro e
  have := congrArg List.length e
  rw [List.length_take, List.length_append, List.length_append, List.length_cons, List.length_cons, List.length_nil] at this
  omega
theorem doc_del {fl : Fl} (nd : (fl.map (·.1)).Nodup) (h9 : ∀ q c, getF fl q = some c → q.length ≤ 9) (b : List Str) (k : Str) : doc (cutF fl (b ++ [k])) b = ((below fl b).filter fun j => !decide (j = k)).map (prD fl b) := by
  have nd' := nd_cut nd (b ++ [k])
  have hb : below (cutF fl (b ++ [k])) b = (below fl b).filter fun j => !decide (j = k) := by
    refine below_of nd' ((below_sorted nd b).sublist List.filter_sublist) fun j => ?_
    rw [List.mem_filter, mem_below]
    by_cases e : j = k
    · subst e
      rw [getF_cut, if_pos (by rw [List.take_of_length_le (Nat.le_refl _)])]
      simp
    · rw [cut_other fl b k [] j [] e]
      simp [e]
  rw [doc_eq (nine_cut h9 _), hb]
  refine List.map_congr_left fun j hj => ?_
  have e : j ≠ k := by simpa using (List.mem_filter.mp hj).2
  unfold prD
  rw [valD_congr nd' nd (cut_other fl b k [] j [] e) fun i r => by rw [List.append_assoc]; exact cut_other fl b k [] j (i :: r) e]
theorem doc_kept {fl : Fl} (up : Up fl) (nd : (fl.map (·.1)).Nodup) {b : List Str} {k : Str} {r : List Str} (hr : r ≠ []) (hn : getF fl (b ++ [k]) ≠ some .recd) : doc (cutF fl (b ++ k :: r)) b = doc fl b := by
  refine doc_congr (nd_cut nd _) nd fun j s => ?_
  by_cases e : j = k
  · subst e
    rw [getF_cut]
    by_cases z : (b ++ j :: s).take (b ++ j :: r).length = b ++ j :: r
    · rw [if_pos z]
      cases g : getF fl (b ++ j :: s) with
      | none => rfl
      | some c =>
        have l1 : 0 < r.length := List.length_pos_iff.mpr hr
        have l2 := congrArg List.length z
        rw [List.length_take, List.length_append, List.length_append, List.length_cons, List.length_cons] at l2
        have := up.up _ c g (b.length + 1) (by omega) (by rw [List.length_append, List.length_cons]; omega)
        rw [List.take_append, List.take_of_length_le (by omega), show b.length + 1 - b.length = 1 by omega] at this
        exact absurd this hn
    · rw [if_neg z]
  · exact cut_other fl b k r j s e
theorem Wf.cut {ws : List Str} {fl : Fl} (h : Wf ws fl) (p : List Str) : Wf ws (cutF fl p) := by
  have k : ∀ q c, getF (cutF fl p) q = some c → q.take p.length ≠ p ∧ getF fl q = some c := fun q c e => by
    rw [getF_cut] at e
    by_cases z : q.take p.length = p
    · rw [if_pos z] at e; cases e
    · rw [if_neg z] at e
      exact ⟨z, e⟩
  refine ⟨nd_cut h.nd p, fun q c e => h.pa q c (k q c e).2, fun q c e j j1 j2 => ?_⟩
  obtain ⟨n, g⟩ := k q c e
  rw [getF_cut, if_neg]
  · exact h.up q c g j j1 j2
  · intro z
    have l := congrArg List.length z
    rw [List.length_take, List.length_take] at l
    refine n ?_
    have : (q.take j).take p.length = q.take p.length := take_take_le (by omega)
    rw [← this]
    exact z
end My

namespace My
open PySem L2
/-! ### numbers as texts -/
theorem ofString_app (a b : String) : Str.ofString (a ++ b) = Str.ofString a ++ Str.ofString b := by
  apply str_ext
  rw [app_codes, Str.ofString_eq_toList, Str.ofString_eq_toList, Str.ofString_eq_toList]
  simp
theorem num_nat_len : ∀ (k n : Nat), n < 10 ^ (k + 1) → (Str.ofString (toString (n : Int))).length ≤ k + 1
  | 0, n, h => by
    have e : (Str.ofString (toString (n : Int))).cps.toList = [48 + n] := by
      have z : TL.tl (Str.ofString (toString (n : Int))) = [48 + n] := by rw [TL.tl_num, TL.numL_lt (by omega)]
      exact z
    rw [← len_codes, e]
    exact Nat.le_refl _
  | k + 1, n, h => by
    by_cases c : n < 10
    · have e : (Str.ofString (toString (n : Int))).cps.toList = [48 + n] := by
        have z : TL.tl (Str.ofString (toString (n : Int))) = [48 + n] := by rw [TL.tl_num, TL.numL_lt c]
        exact z
      rw [← len_codes, e]
      exact Nat.succ_le_succ (Nat.zero_le _)
    · have ih := num_nat_len k (n / 10) (by rw [Nat.div_lt_iff_lt_mul (by decide)]; rw [Nat.pow_succ] at h; exact h)
      have e1 : (Str.ofString (toString (n : Int))).cps.toList = TL.numL n := TL.tl_num n
      have e2 : (Str.ofString (toString ((n / 10 : Nat) : Int))).cps.toList = TL.numL (n / 10) := TL.tl_num (n / 10)
      rw [← len_codes, e2] at ih
      rw [← len_codes, e1, TL.numL_step (by omega), List.length_append, List.length_singleton]
      omega
theorem num_len {n : Int} (h : n.natAbs ≤ 9999999999) : (Str.ofString (toString n)).length ≤ 11 := by
  rcases n with m | m
  · have := num_nat_len 9 m (by show m < 10 ^ 10; have : (Int.ofNat m).natAbs = m := rfl; omega)
    exact Nat.le_trans this (by decide)
  · have e : toString (Int.negSucc m) = "-" ++ toString (m + 1) := rfl
    have k := num_nat_len 9 (m + 1) (by show m + 1 < 10 ^ 10; have : (Int.negSucc m).natAbs = m + 1 := rfl; omega)
    have e3 : toString ((m + 1 : Nat) : Int) = toString (m + 1) := rfl
    rw [e3] at k
    rw [e, ofString_app, app_len]
    have : (Str.ofString "-").length = 1 := by decide +kernel
    omega
end My

namespace My
open PySem L2
/-! ### plain data as data of the model's own == -/
mutual
def Dt.py : Dt → PyData
  | .non => .none
  | .bl b => .bool b
  | .int i => .int i
  | .str s => .str s
  | .tup xs => .tuple (Dt.pys xs)
def Dt.pys : List Dt → List PyData
  | [] => []
  | d :: ds => d.py :: Dt.pys ds
end
mutual
def Dt.lay : Dt → Bool
  | .str s => PyData.strOk s
  | .tup xs => Dt.lays xs
  | _ => true
def Dt.lays : List Dt → Bool
  | [] => true
  | d :: ds => d.lay && Dt.lays ds
end
mutual
theorem DT.dp {K : PySem.W.Frag} {H : Hp} : ∀ (d : Dt) (v : V), DT K H v d → Dp K H v d.py
  | .non, _, h => by cases h; exact .non
  | .bl b, _, h => by cases h; exact .bl _
  | .int b, _, h => by cases h; exact .int _
  | .str b, _, h => by cases h; exact .str _
  | .tup ds, _, h => by
    cases h with
    | tup h1 h2 => exact .tup h1 (DTs.dps ds _ h2)
theorem DTs.dps {K : PySem.W.Frag} {H : Hp} : ∀ (ds : List Dt) (vs : List V), DTs K H vs ds → DpAll K H vs (Dt.pys ds)
  | [], _, h => by cases h; exact .nil
  | d :: ds, _, h => by
    cases h with
    | cons h1 h2 => exact .cons (DT.dp d _ h1) (DTs.dps ds _ h2)
end
mutual
theorem lay_py : ∀ d : Dt, d.lay = true → d.py.canLay0 = true
  | .non, _ => by rw [Dt.py, PyData.canLay0]
  | .bl b, _ => by rw [Dt.py, PyData.canLay0]
  | .int b, _ => by rw [Dt.py, PyData.canLay0]
  | .str b, h => by rw [Dt.py, PyData.canLay0]; exact h
  | .tup ds, h => by
    rw [Dt.py, PyData.canLay0]
    exact lays_py ds (by rw [Dt.lay] at h; exact h)
theorem lays_py : ∀ ds : List Dt, Dt.lays ds = true → PyData.canLayAll0 (Dt.pys ds) = true
  | [], _ => by rw [Dt.pys, PyData.canLayAll0]
  | d :: ds, h => by
    rw [Dt.lays, Bool.and_eq_true] at h
    rw [Dt.pys, PyData.canLayAll0, lay_py d h.1, lays_py ds h.2]
    rfl
end
mutual
theorem depth_py : ∀ d : Dt, d.py.depth ≤ d.deep
  | .non => by rw [Dt.py, PyData.depth]; exact Nat.zero_le _
  | .bl b => by rw [Dt.py, PyData.depth]; exact Nat.zero_le _
  | .int b => by rw [Dt.py, PyData.depth]; exact Nat.zero_le _
  | .str b => by rw [Dt.py, PyData.depth]; exact Nat.zero_le _
  | .tup ds => by
    have := depths_py ds
    rw [Dt.py, PyData.depth, Dt.deep]
    omega
theorem depths_py : ∀ ds : List Dt, PyData.depthAll (Dt.pys ds) ≤ Dt.deeps ds
  | [] => by rw [Dt.pys, PyData.depthAll]; exact Nat.zero_le _
  | d :: ds => by
    have h1 := depth_py d
    have h2 := depths_py ds
    rw [Dt.pys, PyData.depthAll, Dt.deeps]
    omega
end
theorem shaped_dt {d : Dt} (h : d.lay = true) (k : d.deep ≤ 60) : SeqAt.shaped d.py = true := by
  unfold SeqAt.shaped
  rw [lay_py d h, decide_eq_true (by have := depth_py d; omega)]
  rfl
theorem shaped_dts {ds : List Dt} (h : Dt.lays ds = true) (k : Dt.deeps ds ≤ 60) : SeqAt.shaped (.list (Dt.pys ds)) = true := by
  unfold SeqAt.shaped
  have := depths_py ds
  rw [PyData.canLay0, lays_py ds h, PyData.depth, decide_eq_true (by omega)]
  rfl
theorem lays_of {ds : List Dt} (h : ∀ d ∈ ds, d.lay = true) : Dt.lays ds = true := by
  induction ds with
  | nil => rw [Dt.lays]
  | cons d ds ih => rw [Dt.lays, h d List.mem_cons_self, ih fun x hx => h x (List.mem_cons_of_mem _ hx)]; rfl
theorem lay_sc {c : Sc} (h : scOk c) : (Dt.tup (scD c)).lay = true := by
  cases c with
  | num n =>
    have e : PyData.strOk (Str.ofString "number") = true := by decide +kernel
    rw [Dt.lay, scD, Dt.lays, Dt.lays, Dt.lays, Dt.lay, Dt.lay, e]
    · rfl
    all_goals intros; contradiction
  | text z =>
    have e : PyData.strOk (Str.ofString "text") = true := by decide +kernel
    rw [Dt.lay, scD, Dt.lays, Dt.lays, Dt.lays, Dt.lay, Dt.lay, e, strOk_sg h.2]
    rfl
  | _ => decide +kernel
theorem pys_map : ∀ ds : List Dt, Dt.pys ds = ds.map Dt.py
  | [] => rfl
  | d :: ds => by rw [Dt.pys, pys_map ds, List.map_cons]
theorem eqv_nil (ds : List Dt) : PyData.eqv (.list (Dt.pys ds)) (.list []) = ds.isEmpty := by
  cases ds with
  | nil => rfl
  | cons d ds => rfl
section
variable {K : PySem.W.Frag} {H : Hp} {a b : Addr} {vs : List V} {ds : List Dt} {Q : VK}
theorem ne_nil (h : SqL K H a vs) (k : DTs K H vs ds) (hl : Dt.lays ds = true) (hd : Dt.deeps ds ≤ 60) (hb : SqL K H b []) (q : Q (.bl (!ds.isEmpty)) H) : rNeD K (.ref a) (.ref b) H Q :=
  ⟨.list (Dt.pys ds), .list [], .lst h (DTs.dps ds vs k), .lst hb .nil, shaped_dts hl hd, by decide +kernel, by rw [eqv_nil]; exact q⟩
theorem eq_nil (h : SqL K H a vs) (k : DTs K H vs ds) (hl : Dt.lays ds = true) (hd : Dt.deeps ds ≤ 60) (hb : SqL K H b []) (q : Q (.bl ds.isEmpty) H) : rEqD K (.ref a) (.ref b) H Q :=
  ⟨.list (Dt.pys ds), .list [], .lst h (DTs.dps ds vs k), .lst hb .nil, shaped_dts hl hd, by decide +kernel, by rw [eqv_nil]; exact q⟩
end
theorem DTs.lput {K : PySem.W.Frag} {H : Hp} {D : Addr} {acc : List V} {o : HO} {vs : List V} {ds : List Dt} (nb : H D = some (.lst acc)) (h : DTs K H vs ds) : DTs K (upd H D o) vs ds :=
  DTs.mono (fun _ _ h => seqT_put nb (fun _ z => by cases z) (fun _ _ z => by cases z) h) _ _ h
theorem DT.lput {K : PySem.W.Frag} {H : Hp} {D : Addr} {acc : List V} {o : HO} {v : V} {d : Dt} (nb : H D = some (.lst acc)) (h : DT K H v d) : DT K (upd H D o) v d :=
  DT.mono (fun _ _ h => seqT_put nb (fun _ z => by cases z) (fun _ _ z => by cases z) h) _ _ h
/-- an item of data -/
theorem DTs.mem {K : PySem.W.Frag} {H : Hp} {α : Type} {f : α → Dt} {vs : List V} {bs : List α} (h : DTs K H vs (bs.map f)) {v : V} (hv : v ∈ vs) : ∃ b ∈ bs, DT K H v (f b) := by
  obtain ⟨iv, ei⟩ := List.getElem?_of_mem hv
  obtain ⟨d, ed, dv⟩ := h.get' ei
  obtain ⟨c, hm, rfl⟩ := List.mem_map.mp (List.mem_of_getElem? ed)
  exact ⟨c, hm, dv⟩
theorem DTs.perm {K : PySem.W.Frag} {H : Hp} {α : Type} {f : α → Dt} {vs us : List V} (pm : us.Perm vs) : ∀ {bs : List α}, DTs K H vs (bs.map f) → ∃ cs : List α, cs.Perm bs ∧ DTs K H us (cs.map f) := by
  induction pm with
  | nil => exact fun {bs} h => ⟨bs, .refl _, h⟩
  | @cons x l1 l2 _ ih =>
    intro bs h
    cases bs with
    | nil => cases h
    | cons b bs =>
      cases h with
      | cons h1 h2 =>
        obtain ⟨cs, p, k⟩ := ih h2
        exact ⟨b :: cs, p.cons b, .cons h1 k⟩
  | swap x y l =>
    intro bs h
    cases bs with
    | nil => cases h
    | cons b bs =>
      cases bs with
      | nil => cases h with | cons h1 h2 => cases h2
      | cons c bs =>
        cases h with
        | cons h1 h2 => cases h2 with | cons h2 h3 => exact ⟨c :: b :: bs, .swap _ _ _, .cons h2 (.cons h1 h3)⟩
  | trans p1 p2 ih1 ih2 =>
    intro bs h
    obtain ⟨cs, q1, k1⟩ := ih2 h
    obtain ⟨es, q2, k2⟩ := ih1 k1
    exact ⟨es, q2.trans q1, k2⟩
theorem num_sg (n : Int) : SgT (Str.ofString (toString n)) := by
  have nat : ∀ m : Nat, SgT (Str.ofString (toString (m : Int))) := fun m c hc => by
    have e : (Str.ofString (toString (m : Int))).cps.toList = TL.numL m := TL.tl_num m
    rw [e] at hc
    have := TL.numL_digits m c hc
    exact ⟨by omega, by omega, by omega⟩
  rcases n with m | m
  · exact nat m
  · have e : toString (Int.negSucc m) = "-" ++ toString (m + 1) := rfl
    rw [e, ofString_app]
    refine SgT.app (fun c hc => ?_) ?_
    · have : ∀ c ∈ (Str.ofString "-").cps.toList, Sg c := by decide +kernel
      exact this c hc
    have := nat (m + 1)
    exact this
end My

namespace My
open PySem L2
/-! ### effects -/
structure Ef where
  w : Str
  p : List Str
  c : Option Sc
  q : Option (List Str)
def scO : Option Sc → Dt
  | none => .non
  | some c => .tup (scD c)
def ptO : Option (List Str) → Dt
  | none => .non
  | some p => ptD p
def efD (e : Ef) : Dt := .tup [.str e.w, ptD e.p, scO e.c, ptO e.q]
def mkF (fl : Fl) (e : Ef) : Fl := match e.c with
  | none => cutF fl e.p
  | some c => setF fl e.p c
def rmS : Str := Str.ofString "remove"
structure EfOk (e : Ef) : Prop where
  k : (e.c = none ∧ e.w = rmS) ∨ (∃ c, e.c = some c ∧ c ≠ .recd ∧ scOk c ∧ e.w ≠ rmS)
  p1 : 1 ≤ e.p.length
  p5 : e.p.length ≤ 5
/-- what calls of with_scalar and without ask of a table -/
structure Gd (fl : Fl) : Prop where
  up : Up fl
  nd : (fl.map (·.1)).Nodup
  len : fl.length ≤ 100000
  keys : ∀ x ∈ fl, ∀ k ∈ x.1, k.length ≤ 1000
theorem Wf.gd {ws : List Str} {fl : Fl} (h : Wf ws fl) (hw : ∀ z ∈ ws, z.length ≤ 1000) (hl : fl.length ≤ 100000) : Gd fl :=
  ⟨h.toUp, h.nd, hl, fun x hx k hk => hw k ((h.pa x.1 x.2 (getF_nd h.nd hx)).2.2.1 k hk)⟩
theorem Wf.mkE {ws : List Str} {fl : Fl} (h : Wf ws fl) {e : Ef} (ok : EfOk e) (hk : ∀ k ∈ e.p, k ∈ ws) : Wf ws (mkF fl e) := by
  unfold mkF
  rcases ok.k with ⟨h1, _⟩ | ⟨c, h1, _, h3, _⟩
  · rw [h1]; exact h.cut e.p
  · rw [h1]; exact h.set ok.p1 ok.p5 hk h3
/-- no more paths than there are -/
theorem nd_sub {α : Type} [DecidableEq α] : ∀ {l m : List α}, l.Nodup → (∀ x ∈ l, x ∈ m) → l.length ≤ m.length
  | [], _, _, _ => Nat.zero_le _
  | a :: l, m, nd, h => by
    rw [List.nodup_cons] at nd
    have ha : a ∈ m := h a List.mem_cons_self
    have ih := nd_sub (l := l) (m := m.erase a) nd.2 fun x hx => (List.mem_erase_of_ne (fun z => nd.1 (by rw [← z]; exact hx))).mpr (h x (List.mem_cons_of_mem _ hx))
    rw [List.length_erase_of_mem ha] at ih
    have : 0 < m.length := List.length_pos_of_mem ha
    rw [List.length_cons]
    omega
def pre6 (p : List Str) : List (List Str) := (List.range 6).map fun i => p.take i
theorem mk_paths {fl : Fl} {e : Ef} (h5 : e.p.length ≤ 5) {q : List Str} {c : Sc} (h : getF (mkF fl e) q = some c) : (∃ d, getF fl q = some d) ∨ q ∈ pre6 e.p := by
  unfold mkF at h
  cases ec : e.c with
  | none =>
    rw [ec] at h
    simp only at h
    rw [getF_cut] at h
    by_cases z : q.take e.p.length = e.p
    · rw [if_pos z] at h; cases h
    · rw [if_neg z] at h
      exact .inl ⟨c, h⟩
  | some d =>
    rw [ec] at h
    simp only at h
    rw [getF_set] at h
    by_cases z : q = e.p
    · exact .inr (List.mem_map.mpr ⟨e.p.length, List.mem_range.mpr (by omega), by rw [List.take_length, z]⟩)
    · rw [if_neg z] at h
      by_cases z2 : 1 ≤ q.length ∧ q.length < e.p.length ∧ q = e.p.take q.length
      · exact .inr (List.mem_map.mpr ⟨q.length, List.mem_range.mpr (by omega), z2.2.2.symm⟩)
      · rw [if_neg z2] at h
        by_cases z3 : q.take e.p.length = e.p
        · rw [if_pos z3] at h; cases h
        · rw [if_neg z3] at h
          exact .inl ⟨c, h⟩
/-- all paths are among U -/
def InU (U : List (List Str)) (fl : Fl) : Prop := ∀ x ∈ fl, x.1 ∈ U
theorem InU.mk {U : List (List Str)} {fl : Fl} (h : InU U fl) {e : Ef} (h5 : e.p.length ≤ 5) (nd : ((mkF fl e).map (·.1)).Nodup) (hu : ∀ q ∈ pre6 e.p, q ∈ U) : InU U (mkF fl e) := fun x hx => by
  rcases mk_paths h5 (getF_nd nd hx) with ⟨d, g⟩ | g
  · exact h (x.1, d) (getF_mem g)
  · exact hu _ g
theorem InU.len {U : List (List Str)} {fl : Fl} (h : InU U fl) (nd : (fl.map (·.1)).Nodup) : fl.length ≤ U.length := by
  have := nd_sub nd fun q hq => by
    obtain ⟨x, hx, rfl⟩ := List.mem_map.mp hq
    exact h x hx
  rw [List.length_map] at this
  exact this
/-- the table after the first i effects -/
def fldF (fl : Fl) (es : List Ef) (i : Nat) : Fl := (es.take i).foldl mkF fl
theorem fldF_zero (fl : Fl) (es : List Ef) : fldF fl es 0 = fl := rfl
theorem fldF_succ {fl : Fl} {es : List Ef} {i : Nat} {e : Ef} (h : es[i]? = some e) : fldF fl es (i + 1) = mkF (fldF fl es i) e := by
  obtain ⟨hl, ee⟩ := List.getElem?_eq_some_iff.mp h
  unfold fldF
  rw [List.take_succ_eq_append_getElem hl, List.foldl_append, ee]
  rfl
theorem fldF_app (fl : Fl) (es fs : List Ef) {i : Nat} (h : i ≤ es.length) : fldF fl (es ++ fs) i = fldF fl es i := by
  unfold fldF
  rw [List.take_append_of_le_length h]
theorem fldF_snoc (fl : Fl) (es : List Ef) (e : Ef) : fldF fl (es ++ [e]) (es.length + 1) = mkF (fldF fl es es.length) e := by
  unfold fldF
  rw [List.take_of_length_le (by rw [List.length_append]; exact Nat.le_refl _), List.foldl_append, List.take_length]
  rfl
theorem fldF_take (fl : Fl) (es : List Ef) {i n : Nat} (h : i ≤ n) : fldF fl (es.take n) i = fldF fl es i := by
  unfold fldF
  rw [List.take_take, Nat.min_eq_left h]
theorem fldF_drop (fl : Fl) (es : List Ef) (n i : Nat) : fldF (fldF fl es n) (es.drop n) i = fldF fl es (n + i) := by
  unfold fldF
  rw [← List.foldl_append, List.take_add]
theorem Wf.fld {ws : List Str} {fl : Fl} (h : Wf ws fl) {es : List Ef} (ok : ∀ e ∈ es, EfOk e ∧ ∀ k ∈ e.p, k ∈ ws) : ∀ i, i ≤ es.length → Wf ws (fldF fl es i)
  | 0, _ => h
  | i + 1, hi => by
    have k := List.getElem_mem (l := es) (n := i) (by omega)
    rw [fldF_succ (List.getElem?_eq_getElem (by omega))]
    exact (h.fld ok i (by omega)).mkE (ok _ k).1 (ok _ k).2
theorem InU.fld {ws : List Str} {U : List (List Str)} {fl : Fl} (h : Wf ws fl) (hu : InU U fl) {es : List Ef} (ok : ∀ e ∈ es, EfOk e ∧ ∀ k ∈ e.p, k ∈ ws) (he : ∀ e ∈ es, ∀ q ∈ pre6 e.p, q ∈ U) : ∀ i, i ≤ es.length → InU U (fldF fl es i)
  | 0, _ => hu
  | i + 1, hi => by
    have k := List.getElem_mem (l := es) (n := i) (by omega)
    have e := fldF_succ (fl := fl) (List.getElem?_eq_getElem (l := es) (i := i) (by omega))
    have w := h.fld ok (i + 1) hi
    rw [e] at w ⊢
    exact (InU.fld h hu ok he i (by omega)).mk (ok _ k).1.p5 w.nd (he _ k)
/-- an effect that stands in the heap, its path a tracked tuple -/
structure EfAt (K : PySem.W.Frag) (H : Hp) (v : V) (e : Ef) : Prop where
  ex : ∃ a b u s, v = .ref a ∧ SqT K H a [.str e.w, .ref b, u, s] ∧ H b = some (.tup (e.p.map V.str)) ∧ DT K H u (scO e.c) ∧ DT K H s (ptO e.q)
theorem DT.path {K : PySem.W.Frag} {H : Hp} {b : Addr} {p : List Str} (h : SqT K H b (p.map V.str)) : DT K H (.ref b) (ptD p) := .tup h (DTs.strs p)
theorem EfAt.dt {K : PySem.W.Frag} {H : Hp} {v : V} {e : Ef} (h : EfAt K H v e) : DT K H v (efD e) := by
  obtain ⟨a, b, u, s, rfl, h1, h2, h3, h4⟩ := h.ex
  exact .tup h1 (.cons (.str _) (.cons (DT.path (SqT.of h2)) (.cons h3 (.cons h4 .nil))))
theorem EfAt.same {K : PySem.W.Frag} {H H' : Hp} {v : V} {e : Ef} (h : EfAt K H v e) (s : Same H H') : EfAt K H' v e := by
  obtain ⟨a, b, u, x, rfl, h1, h2, h3, h4⟩ := h.ex
  exact ⟨a, b, u, x, rfl, s.seqT h1, s _ _ h2, h3.same s, h4.same s⟩
theorem EfAt.go {K : PySem.W.Frag} {H H' : Hp} {t : Addr} {v : V} {e : Ef} (h : EfAt K H v e) (hT : Tape H t) (s : Sm t H H') : EfAt K H' v e := by
  obtain ⟨a, b, u, x, rfl, h1, h2, h3, h4⟩ := h.ex
  obtain ⟨l, ns, y, b', c, k1, _⟩ := hT.ex
  exact ⟨a, b, u, x, rfl, seqT_go hT s h1, s _ _ (ne_of h2 k1 (fun z => by cases z)) h2, h3.go hT s, h4.go hT s⟩
theorem EfAt.lput {K : PySem.W.Frag} {H : Hp} {D : Addr} {acc : List V} {o : HO} {v : V} {e : Ef} (nb : H D = some (.lst acc)) (h : EfAt K H v e) : EfAt K (upd H D o) v e := by
  obtain ⟨a, b, u, x, rfl, h1, h2, h3, h4⟩ := h.ex
  exact ⟨a, b, u, x, rfl, seqT_put nb (fun _ z => by cases z) (fun _ _ z => by cases z) h1, by rw [upd_ne (ne_of h2 nb (by intro z; cases z))]; exact h2, h3.lput nb, h4.lput nb⟩
theorem FlatAt.lput {K : PySem.W.Frag} {H : Hp} {D d : Addr} {acc : List V} {o : HO} {fl : Fl} (nb : H D = some (.lst acc)) (h : FlatAt K H d fl) : FlatAt K (upd H D o) d fl := by
  obtain ⟨kvs, h1, h2⟩ := h.ex
  exact ⟨kvs, by rw [upd_ne (ne_of h1 nb (by intro z; cases z))]; exact h1, h2.mono fun _ _ q => seqT_put nb (fun _ z => by cases z) (fun _ _ z => by cases z) q⟩
theorem Al2.dts {K : PySem.W.Frag} {H : Hp} {vs : List V} {es : List Ef} (h : Al2 (EfAt K H) vs es) : DTs K H vs (es.map efD) := by
  induction h with
  | nil => exact .nil
  | cons h1 _ ih => exact .cons h1.dt ih
theorem Al2.sub {α β : Type} {R : α → β → Prop} {l : List α} {m : List β} (h : Al2 R l m) (n : Nat) : Al2 R (l.take n) (m.take n) := by
  induction h generalizing n with
  | nil => rw [List.take_nil, List.take_nil]; exact .nil
  | cons h1 _ ih =>
    cases n with
    | zero => exact .nil
    | succ n => exact .cons h1 (ih n)
theorem Al2.off {α β : Type} {R : α → β → Prop} {l : List α} {m : List β} (h : Al2 R l m) (n : Nat) : Al2 R (l.drop n) (m.drop n) := by
  induction h generalizing n with
  | nil => rw [List.drop_nil, List.drop_nil]; exact .nil
  | cons h1 h2 ih =>
    cases n with
    | zero => exact .cons h1 h2
    | succ n => exact ih n
theorem Al2.rep {α β : Type} {R : α → β → Prop} {l : List α} {m : List β} (h : Al2 R l m) : ∀ n, Al2 R (List.replicate n l).flatten (List.replicate n m).flatten
  | 0 => .nil
  | n + 1 => by
    rw [List.replicate_succ, List.replicate_succ, List.flatten_cons, List.flatten_cons]
    exact h.app (h.rep n)
theorem at_end {α : Type} {xs : List α} {v : α} (h : xs[xs.length - 1]? = some v) : atI xs (-1) = some v := by
  have hl := (List.getElem?_eq_some_iff.mp h).1
  unfold atI ixN
  rw [if_neg (by decide), if_pos (by omega)]
  show xs[(-1 + (xs.length : Int)).toNat]? = some v
  rw [show (-1 + (xs.length : Int)).toNat = xs.length - 1 by omega]
  exact h
/-- the tables before and behind each effect, as dicts -/
structure Sts (K : PySem.W.Frag) (H : Hp) (xs : List V) (fl : Fl) (es : List Ef) : Prop where
  len : xs.length = es.length + 1
  at' : ∀ i, i ≤ es.length → ∃ d, xs[i]? = some (.ref d) ∧ FlatAt K H d (fldF fl es i)
section
variable {K : PySem.W.Frag} {H H' : Hp} {xs : List V} {fl : Fl} {es : List Ef}
theorem Sts.same (h : Sts K H xs fl es) (s : Same H H') : Sts K H' xs fl es := ⟨h.len, fun i hi => by obtain ⟨d, a, b⟩ := h.at' i hi; exact ⟨d, a, b.same s⟩⟩
theorem Sts.go {t : Addr} (h : Sts K H xs fl es) (hT : Tape H t) (s : Sm t H H') : Sts K H' xs fl es := ⟨h.len, fun i hi => by obtain ⟨d, a, b⟩ := h.at' i hi; exact ⟨d, a, b.go hT s⟩⟩
theorem Sts.lput {D : Addr} {acc : List V} {o : HO} (nb : H D = some (.lst acc)) (h : Sts K H xs fl es) : Sts K (upd H D o) xs fl es := ⟨h.len, fun i hi => by obtain ⟨d, a, b⟩ := h.at' i hi; exact ⟨d, a, b.lput nb⟩⟩
theorem Sts.last (h : Sts K H xs fl es) : ∃ d, atI xs (-1) = some (.ref d) ∧ FlatAt K H d (fldF fl es es.length) := by
  obtain ⟨d, a, b⟩ := h.at' es.length (Nat.le_refl _)
  exact ⟨d, at_end (by rw [h.len]; exact a), b⟩
theorem Sts.snoc (h : Sts K H xs fl es) {r : Addr} {e : Ef} (hr : FlatAt K H r (mkF (fldF fl es es.length) e)) : Sts K H (xs ++ [.ref r]) fl (es ++ [e]) := by
  refine ⟨by rw [List.length_append, List.length_append, h.len]; rfl, fun i hi => ?_⟩
  rw [List.length_append] at hi
  have hi : i ≤ es.length + 1 := hi
  by_cases z : i = es.length + 1
  · subst z
    refine ⟨r, by rw [List.getElem?_append_right (by rw [h.len]; exact Nat.le_refl _), h.len, Nat.sub_self]; rfl, ?_⟩
    rw [fldF_snoc]
    exact hr
  · obtain ⟨d, a, b⟩ := h.at' i (by omega)
    refine ⟨d, by rw [List.getElem?_append_left (by have := h.len; omega)]; exact a, ?_⟩
    rw [fldF_app fl es [e] (by omega)]
    exact b
end
theorem Sts.one {K : PySem.W.Frag} {H : Hp} {d : Addr} {fl : Fl} (h : FlatAt K H d fl) : Sts K H [.ref d] fl [] := ⟨rfl, fun i hi => by
  have e : i = 0 := Nat.le_zero.mp hi
  subst e
  exact ⟨d, rfl, h⟩⟩
end My

namespace My
open PySem L2
/-! ### a def with a keyword-only parameter that has a default -/
structure CalE (P : Program) (w : World) (K : PySem.W.Frag) (mg : Str → Option Value) (base : Heap) (x : Str) (k : Nat) (ps ks : List Str) (n : Nat) (d : V) (sp : PySem.W.Frag → Sp) (f : Addr) (fd : FuncData) (dv : Value) : Prop where
  ok : FnOk P w K mg base CX0 k f fd ps (sp K)
  b : Binds K fd ps [dv]
  r : RelV d dv
  kb : KBn K fd ps n ks (fun us ws => us ++ ws) (fun vs zs => vs ++ zs)
  kp : PySem.W.keepIn K (.ref f) = true
  m : mg x = some (.ref f)
/-! ### data whose tuples are all tracked -/
mutual
inductive TT (H : Hp) : V → Dt → Prop
  | non : TT H .non .non
  | bl (b : Bool) : TT H (.bl b) (.bl b)
  | int (i : Int) : TT H (.int i) (.int i)
  | str (z : Str) : TT H (.str z) (.str z)
  | tup {a : Addr} {xs : List V} {ds : List Dt} : H a = some (.tup xs) → TTs H xs ds → TT H (.ref a) (.tup ds)
inductive TTs (H : Hp) : List V → List Dt → Prop
  | nil : TTs H [] []
  | cons {v : V} {vs : List V} {d : Dt} {ds : List Dt} : TT H v d → TTs H vs ds → TTs H (v :: vs) (d :: ds)
end
mutual
theorem TT.mono {H H' : Hp} (k : ∀ a xs, H a = some (.tup xs) → H' a = some (.tup xs)) : ∀ (d : Dt) (v : V), TT H v d → TT H' v d
  | .non, _, h => by cases h; exact .non
  | .bl b, _, h => by cases h; exact .bl _
  | .int b, _, h => by cases h; exact .int _
  | .str b, _, h => by cases h; exact .str _
  | .tup ds, _, h => by
    cases h with
    | tup h1 h2 => exact .tup (k _ _ h1) (TTs.mono k ds _ h2)
theorem TTs.mono {H H' : Hp} (k : ∀ a xs, H a = some (.tup xs) → H' a = some (.tup xs)) : ∀ (ds : List Dt) (vs : List V), TTs H vs ds → TTs H' vs ds
  | [], _, h => by cases h; exact .nil
  | d :: ds, _, h => by
    cases h with
    | cons h1 h2 => exact .cons (TT.mono k d _ h1) (TTs.mono k ds _ h2)
end
mutual
theorem TT.dt {K : PySem.W.Frag} {H : Hp} : ∀ (d : Dt) (v : V), TT H v d → DT K H v d
  | .non, _, h => by cases h; exact .non
  | .bl b, _, h => by cases h; exact .bl _
  | .int b, _, h => by cases h; exact .int _
  | .str b, _, h => by cases h; exact .str _
  | .tup ds, _, h => by
    cases h with
    | tup h1 h2 => exact .tup (SqT.of h1) (TTs.dts ds _ h2)
theorem TTs.dts {K : PySem.W.Frag} {H : Hp} : ∀ (ds : List Dt) (vs : List V), TTs H vs ds → DTs K H vs ds
  | [], _, h => by cases h; exact .nil
  | d :: ds, _, h => by
    cases h with
    | cons h1 h2 => exact .cons (TT.dt d _ h1) (TTs.dts ds _ h2)
end
theorem tup_go {t a : Addr} {H H' : Hp} {xs : List V} (hT : Tape H t) (s : Sm t H H') (h : H a = some (.tup xs)) : H' a = some (.tup xs) := by
  obtain ⟨l, ns, y, b', c, k1, _⟩ := hT.ex
  exact s _ _ (ne_of h k1 (fun z => by cases z)) h
theorem tup_lput {D a : Addr} {H : Hp} {acc xs : List V} {o : HO} (nb : H D = some (.lst acc)) (h : H a = some (.tup xs)) : (upd H D o) a = some (.tup xs) := by
  rw [upd_ne (ne_of h nb (by intro z; cases z))]
  exact h
section
variable {H H' : Hp} {v : V} {d : Dt} {vs : List V} {ds : List Dt}
theorem TT.same (h : TT H v d) (s : Same H H') : TT H' v d := TT.mono (fun _ _ q => s _ _ q) d v h
theorem TTs.same (h : TTs H vs ds) (s : Same H H') : TTs H' vs ds := TTs.mono (fun _ _ q => s _ _ q) ds vs h
theorem TT.go {t : Addr} (h : TT H v d) (hT : Tape H t) (s : Sm t H H') : TT H' v d := TT.mono (fun _ _ q => tup_go hT s q) d v h
theorem TTs.go {t : Addr} (h : TTs H vs ds) (hT : Tape H t) (s : Sm t H H') : TTs H' vs ds := TTs.mono (fun _ _ q => tup_go hT s q) ds vs h
theorem TT.lput {D : Addr} {acc : List V} {o : HO} (nb : H D = some (.lst acc)) (h : TT H v d) : TT (upd H D o) v d := TT.mono (fun _ _ q => tup_lput nb q) d v h
theorem TTs.lput {D : Addr} {acc : List V} {o : HO} (nb : H D = some (.lst acc)) (h : TTs H vs ds) : TTs (upd H D o) vs ds := TTs.mono (fun _ _ q => tup_lput nb q) ds vs h
theorem TT.to {K : PySem.W.Frag} (h : TT H v d) : DT K H v d := TT.dt d v h
theorem TTs.to {K : PySem.W.Frag} (h : TTs H vs ds) : DTs K H vs ds := TTs.dts ds vs h
theorem TTs.append {ws : List V} {es : List Dt} (h : TTs H vs ds) (k : TTs H ws es) : TTs H (vs ++ ws) (ds ++ es) := by
  induction ds generalizing vs with
  | nil => cases h; exact k
  | cons x ds ih =>
    cases h with
    | cons h1 h2 => exact .cons h1 (ih h2)
theorem TTs.strs : ∀ ws : List Str, TTs H (ws.map V.str) (ws.map Dt.str)
  | [] => .nil
  | z :: ws => .cons (.str z) (TTs.strs ws)
theorem TTs.strs_inv {ws : List Str} (h : TTs H vs (ws.map Dt.str)) : vs = ws.map V.str := by
  induction ws generalizing vs with
  | nil => cases h; rfl
  | cons w ws ih =>
    cases h with
    | cons h1 h2 => cases h1; rw [ih h2]; rfl
theorem TT.of_path {a : Addr} {p : List Str} (h : H a = some (.tup (p.map V.str))) : TT H (.ref a) (ptD p) := .tup h (TTs.strs p)
theorem TT.path {p : List Str} (h : TT H v (ptD p)) : ∃ a, v = .ref a ∧ H a = some (.tup (p.map V.str)) := by
  cases h with
  | tup h1 h2 => rw [TTs.strs_inv h2] at h1; exact ⟨_, rfl, h1⟩
theorem TT.tup_inv (h : TT H v (.tup ds)) : ∃ a xs, v = .ref a ∧ H a = some (.tup xs) ∧ TTs H xs ds := by
  cases h with
  | tup h1 h2 => exact ⟨_, _, rfl, h1, h2⟩
end
/-- tuples of two, of three -/
theorem TTs.two {H : Hp} {xs : List V} {d e : Dt} (h : TTs H xs [d, e]) : ∃ v u, xs = [v, u] ∧ TT H v d ∧ TT H u e := by
  cases h with | cons h1 h2 => cases h2 with | cons h2 h3 => cases h3; exact ⟨_, _, rfl, h1, h2⟩
theorem TTs.three {H : Hp} {xs : List V} {d e f : Dt} (h : TTs H xs [d, e, f]) : ∃ v u x, xs = [v, u, x] ∧ TT H v d ∧ TT H u e ∧ TT H x f := by
  cases h with | cons h1 h2 => cases h2 with | cons h2 h3 => cases h3 with | cons h3 h4 => cases h4; exact ⟨_, _, _, rfl, h1, h2, h3⟩
theorem DTs.two {K : PySem.W.Frag} {H : Hp} {xs : List V} {d e : Dt} (h : DTs K H xs [d, e]) : ∃ v u, xs = [v, u] ∧ DT K H v d ∧ DT K H u e := by
  cases h with | cons h1 h2 => cases h2 with | cons h2 h3 => cases h3; exact ⟨_, _, rfl, h1, h2⟩
theorem DTs.three {K : PySem.W.Frag} {H : Hp} {xs : List V} {d e f : Dt} (h : DTs K H xs [d, e, f]) : ∃ v u x, xs = [v, u, x] ∧ DT K H v d ∧ DT K H u e ∧ DT K H x f := by
  cases h with | cons h1 h2 => cases h2 with | cons h2 h3 => cases h3 with | cons h3 h4 => cases h4; exact ⟨_, _, _, rfl, h1, h2, h3⟩
/-- tuples joined, both tracked -/
theorem catA_tt {K : PySem.W.Frag} {H : Hp} {a b : Addr} {xs ys : List V} {Q : VK} (h : H a = some (.tup xs)) (k : H b = some (.tup ys)) (hl : xs.length + ys.length ≤ sizeLine) (q : ∀ p H', Same H H' → H' p = some (.tup (xs ++ ys)) → Q (.ref p) H') : rCatA K (.ref a) (.ref b) H Q :=
  ⟨a, b, xs, ys, rfl, rfl, SqT.of h, SqT.of k, hl, (fun e => q b H (Same.refl H) (by rw [e]; exact k)), (fun _ e => q a H (Same.refl H) (by rw [e, List.append_nil]; exact h)), fun _ _ p hp => q p _ (same_new hp _) upd_same⟩
/-! ### places and conditions -/
inductive Pl where | path (p : List Str) | ent (p : List Str)
def plD : Pl → Dt
  | .path p => .tup [.str (Str.ofString "path"), ptD p]
  | .ent p => .tup [.str (Str.ofString "entry"), ptD p]
def plAt (spot : List Str) : Pl → List Str
  | .path p => p
  | .ent p => spot ++ p
def plP : Pl → List Str
  | .path p => p
  | .ent p => p
inductive Cd where
  | has (p : Pl) | eq (p : Pl) (c : Sc) | lt (p : Pl) (n : Int) | gt (p : Pl) (n : Int) | nt (c : Cd) | an (c d : Cd) | or (c d : Cd)
def cdD : Cd → Dt
  | .has p => .tup [.str (Str.ofString "has"), plD p]
  | .eq p c => .tup [.str (Str.ofString "="), plD p, .tup (scD c)]
  | .lt p n => .tup [.str (Str.ofString "<"), plD p, .int n]
  | .gt p n => .tup [.str (Str.ofString ">"), plD p, .int n]
  | .nt c => .tup [.str (Str.ofString "not"), cdD c]
  | .an c d => .tup [.str (Str.ofString "and"), cdD c, cdD d]
  | .or c d => .tup [.str (Str.ofString "or"), cdD c, cdD d]
def Cd.dep : Cd → Nat
  | .nt c => c.dep + 1
  | .an c d => max c.dep d.dep + 1
  | .or c d => max c.dep d.dep + 1
  | _ => 0
/-- the test of an atom, on what the path holds -/
def atB : Cd → Option Sc → Bool
  | _, none => false
  | .has _, some _ => true
  | .eq _ c, some d => Dt.eqbs (scD d) (scD c)
  | .lt _ n, some (.num m) => decide (m < n)
  | .gt _ n, some (.num m) => decide (n < m)
  | _, _ => false
def cdB (f : List Str → Option Sc) (spot : List Str) : Cd → Bool
  | .has p => atB (.has p) (f (plAt spot p))
  | .eq p c => atB (.eq p c) (f (plAt spot p))
  | .lt p n => atB (.lt p n) (f (plAt spot p))
  | .gt p n => atB (.gt p n) (f (plAt spot p))
  | .nt c => !cdB f spot c
  | .an c d => cdB f spot c && cdB f spot d
  | .or c d => cdB f spot c || cdB f spot d
/-- every place of the condition is such -/
def Cd.all (P : Pl → Prop) : Cd → Prop
  | .has p => P p
  | .eq p _ => P p
  | .lt p _ => P p
  | .gt p _ => P p
  | .nt c => c.all P
  | .an c d => c.all P ∧ d.all P
  | .or c d => c.all P ∧ d.all P
/-- .. and every literal -/
def Cd.lit (P : Sc → Prop) : Cd → Prop
  | .eq _ c => P c
  | .nt c => c.lit P
  | .an c d => c.lit P ∧ d.lit P
  | .or c d => c.lit P ∧ d.lit P
  | _ => True
theorem Cd.all_mono {P Q : Pl → Prop} (h : ∀ p, P p → Q p) : ∀ c : Cd, c.all P → c.all Q
  | .has p, k => h p k
  | .eq p _, k => h p k
  | .lt p _, k => h p k
  | .gt p _, k => h p k
  | .nt c, k => Cd.all_mono h c k
  | .an c d, k => ⟨Cd.all_mono h c k.1, Cd.all_mono h d k.2⟩
  | .or c d, k => ⟨Cd.all_mono h c k.1, Cd.all_mono h d k.2⟩
def plW : Pl → Str
  | .path _ => Str.ofString "path"
  | .ent _ => Str.ofString "entry"
theorem pl_eq (p : Pl) : plD p = .tup [.str (plW p), ptD (plP p)] := by cases p <;> rfl
/-- what holds at a path that is not the root -/
theorem hdD_ne {fl : Fl} {p : List Str} (h : p ≠ []) : hdD fl p = scO (getF fl p) := by
  unfold hdD scO
  rw [if_neg h]
  cases getF fl p <;> rfl
/-! ### the worlds of laws -/
structure Wd where
  keys : List Str
  col : List Str
  paths : List (List Str)
  inner : List (List Str)
structure WdAt (H : Hp) (t : Addr) (v : V) (w : Wd) : Prop where
  ex : ∃ a kl c pl il xs ys, v = .ref a ∧ H a = some (.tup [.ref kl, .ref c, .ref pl, .ref il]) ∧ H kl = some (.lst (w.keys.map V.str)) ∧ H c = some (.tup (w.col.map V.str)) ∧ H pl = some (.lst xs) ∧ Al2 (PthV H) xs w.paths ∧ H il = some (.lst ys) ∧ Al2 (PthV H) ys w.inner ∧ kl ≠ t ∧ pl ≠ t ∧ il ≠ t
theorem PthV.mono {H H' : Hp} (k : ∀ a xs, H a = some (.tup xs) → H' a = some (.tup xs)) {v : V} {p : List Str} (h : PthV H v p) : PthV H' v p := by
  obtain ⟨b, h1, h2⟩ := h
  exact ⟨b, h1, k _ _ h2⟩
theorem WdAt.same {H H' : Hp} {t : Addr} {v : V} {w : Wd} (h : WdAt H t v w) (s : Same H H') : WdAt H' t v w := by
  obtain ⟨a, kl, c, pl, il, xs, ys, e, h1, h2, h3, h4, h5, h6, h7, n⟩ := h.ex
  exact ⟨a, kl, c, pl, il, xs, ys, e, s _ _ h1, s _ _ h2, s _ _ h3, s _ _ h4, h5.mono (fun _ _ q => q.mono fun _ _ z => s _ _ z), s _ _ h6, h7.mono (fun _ _ q => q.mono fun _ _ z => s _ _ z), n⟩
theorem WdAt.go {H H' : Hp} {t : Addr} {v : V} {w : Wd} (h : WdAt H t v w) (hT : Tape H t) (s : Sm t H H') : WdAt H' t v w := by
  obtain ⟨a, kl, c, pl, il, xs, ys, e, h1, h2, h3, h4, h5, h6, h7, n1, n2, n3⟩ := h.ex
  exact ⟨a, kl, c, pl, il, xs, ys, e, tup_go hT s h1, s _ _ n1 h2, tup_go hT s h3, s _ _ n2 h4, h5.mono (fun _ _ q => q.mono fun _ _ z => tup_go hT s z), s _ _ n3 h6, h7.mono (fun _ _ q => q.mono fun _ _ z => tup_go hT s z), n1, n2, n3⟩
structure WdOk (us : List Str) (w : Wd) : Prop where
  k1 : 1 ≤ w.keys.length
  k2 : w.keys.length ≤ 1000
  ku : ∀ z ∈ w.keys, z ∈ us
  c1 : 1 ≤ w.col.length
  c2 : w.col.length ≤ 2
  cu : ∀ z ∈ w.col, z ∈ us
  p1 : 1 ≤ w.paths.length
  p2 : w.paths.length ≤ 1000
  pu : ∀ p ∈ w.paths, 1 ≤ p.length ∧ p.length ≤ 5 ∧ ∀ z ∈ p, z ∈ us
  i1 : 1 ≤ w.inner.length
  i2 : w.inner.length ≤ 1000
  iu : ∀ p ∈ w.inner, p.length ≤ 2 ∧ ∀ z ∈ p, z ∈ us
theorem Al2.mem {α β : Type} {R : α → β → Prop} {l : List α} {m : List β} (h : Al2 R l m) {a : α} (ha : a ∈ l) : ∃ b ∈ m, R a b := by
  obtain ⟨i, e⟩ := List.getElem?_of_mem ha
  obtain ⟨b, e2, r⟩ := h.at e
  exact ⟨b, List.mem_of_getElem? e2, r⟩
theorem dget_fl {K : PySem.W.Frag} {H : Hp} {d r : Addr} {fl : Fl} {p : List Str} (hF : FlatAt K H d fl) (hr : H r = some (.tup (p.map V.str))) :
    ∃ o, DGet H d (.ref r) o ∧ ((o = none ∧ getF fl p = none) ∨ ∃ v c, o = some v ∧ getF fl p = some c ∧ DT K H v (.tup (scD c))) := by
  obtain ⟨kvs, hd, hk⟩ := hF.ex
  have hqk : H r = some (.tup ((kP p).map kV)) := by rw [kP_V]; exact hr
  refine ⟨valV kvs (kP p), .inr ⟨kvs, kP p, r, .inl hd, rfl, hqk, rfl⟩, ?_⟩
  rcases hk.get p with ⟨k1, k2⟩ | ⟨v, e, k1, k2, dv⟩
  · exact .inl ⟨k1, k2⟩
  · exact .inr ⟨v, e, k1, k2, dv⟩
def cdO : Option Cd → Dt
  | none => .non
  | some c => cdD c
def actW : List Str := [Str.ofString "set", Str.ofString "default", Str.ofString "copy", Str.ofString "remove", Str.ofString "reject"]
/-- a rule by its parts -/
def ruD (col : Option (List Str)) (c : Option Cd) (acts : List Dt) : Dt := .tup [ptO col, cdO c, .tup acts]
def ActD (d : Dt) : Prop := ∃ w r, d = .tup (.str w :: r) ∧ w ∈ actW
def Cd.depO : Option Cd → Nat
  | none => 0
  | some c => c.dep
theorem ptO_non {K : PySem.W.Frag} {H : Hp} {v : V} {o : Option (List Str)} (h : DT K H v (ptO o)) : (v = .non ∧ o = none) ∨ ∃ a p, v = .ref a ∧ o = some p ∧ SqT K H a (p.map V.str) := by
  cases o with
  | none => cases h; exact .inl ⟨rfl, rfl⟩
  | some p =>
    obtain ⟨a, xs, rfl, h1, h2⟩ := dt_tup h
    rw [DTs.strs_inv h2] at h1
    exact .inr ⟨a, p, rfl, rfl, h1⟩
theorem cd_ref {K : PySem.W.Frag} {H : Hp} {v : V} {c : Cd} (h : DT K H v (cdD c)) : ∃ a, v = .ref a := by
  cases c <;> (obtain ⟨a, xs, rfl, h1, h2⟩ := dt_tup h; exact ⟨a, rfl⟩)
/-- the place of a text among texts -/
theorem first_at {ws : List Str} {w : Str} (h : w ∈ ws) : ∃ j : Nat, ws[j]? = some w ∧ ∀ (m : Nat) (z : Str), m < j → ws[m]? = some z → z ≠ w := by
  induction ws with
  | nil => cases h
  | cons x ws ih =>
    by_cases c : x = w
    · exact ⟨0, by rw [c]; rfl, fun m z hm => by omega⟩
    · have h' : w ∈ ws := (List.mem_cons.mp h).elim (fun e => absurd e.symm c) id
      obtain ⟨j, h1, h2⟩ := ih h'
      refine ⟨j + 1, h1, fun m z hm e => ?_⟩
      cases m with
      | zero =>
        have e' : x = z := by simpa using e
        rw [← e']; exact c
      | succ m => exact h2 m z (by omega) (by simpa using e)
theorem idx_strs {ws : List Str} {w : Str} (hw : w ∈ ws) : ∃ j : Nat, j < ws.length ∧ ws[j]? = some w ∧ (ws.map V.str)[j]? = some (.str w) ∧ eqV (.str w) (.str w) = true ∧ ∀ (m : Nat) (z' : V), m < j → (ws.map V.str)[m]? = some z' → eqV z' (.str w) = false := by
  obtain ⟨j, h1, h2⟩ := first_at hw
  have hj := (List.getElem?_eq_some_iff.mp h1).1
  refine ⟨j, hj, h1, by rw [List.getElem?_map, h1]; rfl, ?_, fun m z hm e => ?_⟩
  · show (w == w) = true
    simp
  · rw [List.getElem?_map] at e
    obtain ⟨u, hu, rfl⟩ := Option.map_eq_some_iff.mp e
    show (u == w) = false
    rw [beq_eq_false_iff_ne]
    exact h2 m u hm hu
/-- the other keys of a law's world -/
def extraL : List Str := [Str.ofString "set", Str.ofString "true", Str.ofString "from", Str.ofString "has", Str.ofString "zz", Str.ofString "b0", Str.ofString "nothing"]
theorem extra_keys : ∀ z ∈ extraL, KeyT z := by
  have h : ∀ z ∈ extraL, isKeyC z.cps.toList = true := by decide +kernel
  exact h
/-- the places that a world gives, with entries or without -/
def PlW (us : List Str) (b : Bool) : Pl → Prop
  | .path p => 1 ≤ p.length ∧ p.length ≤ 5 ∧ ∀ z ∈ p, z ∈ us
  | .ent p => b = true ∧ p.length ≤ 2 ∧ ∀ z ∈ p, z ∈ us
theorem pickL {l : List V} {zs : List Str} (hl : l = zs.map V.str) {v : V} (h : v ∈ l) : ∃ z, z ∈ zs ∧ v = .str z := by
  rw [hl] at h
  exact pickS zs h
theorem deep_path (p : List Str) : (ptD p).deep ≤ 2 := by
  have := deeps_strs p
  show Dt.deeps (p.map .str) + 1 ≤ 2
  omega
/-- a tuple of paths may be compared -/
theorem paths_ok {L : List (List Str)} (h1 : L.length ≤ 1000000) (h2 : ∀ p ∈ L, p.length ≤ 1000000) : (Dt.tup (L.map ptD)).deep ≤ 3 ∧ (Dt.tup (L.map ptD)).fits = true := by
  refine ⟨?_, ?_⟩
  · have : Dt.deeps (L.map ptD) ≤ 2 := deeps_le fun d hd => by
      obtain ⟨p, _, rfl⟩ := List.mem_map.mp hd
      exact deep_path p
    show Dt.deeps _ + 1 ≤ 3
    omega
  · have : Dt.fitss (L.map ptD) = true := fitss_of fun d hd => by
      obtain ⟨p, hp, rfl⟩ := List.mem_map.mp hd
      exact fits_strs (h2 p hp)
    rw [Dt.fits, this, List.length_map, decide_eq_true h1]
    rfl
def PlOk (spot : Option (List Str)) : Pl → Prop
  | .path p => p ≠ [] ∧ p.length ≤ 1000
  | .ent p => ∃ s, spot = some s ∧ s ++ p ≠ [] ∧ s.length + p.length ≤ 1000
theorem PlOk.ne {spot : Option (List Str)} {p : Pl} (h : PlOk spot p) : plAt (spot.getD []) p ≠ [] := by
  cases p with
  | path p => exact h.1
  | ent p => obtain ⟨s, rfl, h, _⟩ := h; exact h
def cdV (f : List Str → Option Sc) (s : List Str) : Option Cd → Bool
  | none => true
  | some c => cdB f s c
/-- a place of a law: not longer than this -/
def PlB (s : List Str) (p : Pl) : Prop := s.length + (plP p).length ≤ 1000
end My

namespace My
open PySem L2
/-! ### tests of scalars -/
inductive Ts where | eq (c : Sc) | lt (n : Int) | gt (n : Int)
def tsD : Ts → List Dt
  | .eq c => [.str (Str.ofString "="), .tup (scD c)]
  | .lt n => [.str (Str.ofString "<"), .int n]
  | .gt n => [.str (Str.ofString ">"), .int n]
def tsT (t : Ts) : Dt := .tup (tsD t)
def passB : Ts → Sc → Bool
  | .eq d, c => Dt.eqbs (scD c) (scD d)
  | .lt n, .num m => decide (m < n)
  | .gt n, .num m => decide (n < m)
  | _, _ => false
/-- within the bounds that are drawn -/
def scN : Sc → Prop
  | .num n => -999999 ≤ n ∧ n ≤ 999999
  | .text s => s.length ≤ 60 ∧ SgT s
  | .recd => False
  | _ => True
def tsN : Ts → Prop
  | .eq c => scN c
  | .lt n => -999999 ≤ n ∧ n ≤ 999999
  | .gt n => -999999 ≤ n ∧ n ≤ 999999
theorem scN.ok {c : Sc} (h : scN c) : scOk c := by
  cases c with
  | num n => exact ⟨by have := h.1; omega, by have := h.2; omega⟩
  | text s => exact h
  | recd => exact trivial
  | _ => trivial
def tsW : Ts → Str
  | .eq _ => Str.ofString "="
  | .lt _ => Str.ofString "<"
  | .gt _ => Str.ofString ">"
theorem ts_tup {K : PySem.W.Frag} {H : Hp} {v : V} {t : Ts} (h : DT K H v (tsT t)) : ∃ a u, v = .ref a ∧ SqT K H a [.str (tsW t), u] ∧ (∀ c, t = .eq c → DT K H u (.tup (scD c))) ∧ (∀ n, t = .lt n → u = .int n) ∧ (∀ n, t = .gt n → u = .int n) := by
  unfold tsT at h
  cases h with
  | @tup a xs _ h1 h2 =>
  cases t with
  | eq c => cases h2 with | cons x1 x2 => cases x1; cases x2 with | cons y1 y2 => cases y2; exact ⟨a, _, rfl, h1, (fun d e => by cases e; exact y1), (fun n e => by cases e), (fun n e => by cases e)⟩
  | lt n => cases h2 with | cons x1 x2 => cases x1; cases x2 with | cons y1 y2 => cases y2; cases y1; exact ⟨a, _, rfl, h1, (fun d e => by cases e), (fun m e => by cases e; rfl), (fun n e => by cases e)⟩
  | gt n => cases h2 with | cons x1 x2 => cases x1; cases x2 with | cons y1 y2 => cases y2; cases y1; exact ⟨a, _, rfl, h1, (fun d e => by cases e), (fun n e => by cases e), (fun m e => by cases e; rfl)⟩
theorem deeps_scD (c : Sc) : Dt.deeps (scD c) ≤ 60 := by
  cases c with
  | num n => show 1 ≤ 60; decide
  | text n => show 1 ≤ 60; decide
  | _ => decide
theorem lay_ts {t : Ts} (h : tsN t) : (tsT t).lay = true := by
  cases t with
  | eq c =>
    have e : PyData.strOk (Str.ofString "=") = true := by decide +kernel
    rw [tsT, tsD, Dt.lay, Dt.lays, Dt.lays, Dt.lays, Dt.lay, e, lay_sc h.ok]
    rfl
  | lt n =>
    have e : PyData.strOk (Str.ofString "<") = true := by decide +kernel
    rw [tsT, tsD, Dt.lay, Dt.lays, Dt.lays, Dt.lays, Dt.lay, e, Dt.lay]
    · rfl
    all_goals intros; contradiction
  | gt n =>
    have e : PyData.strOk (Str.ofString ">") = true := by decide +kernel
    rw [tsT, tsD, Dt.lay, Dt.lays, Dt.lays, Dt.lays, Dt.lay, e, Dt.lay]
    · rfl
    all_goals intros; contradiction
theorem deep_ts (t : Ts) : (tsT t).deep ≤ 3 := by
  cases t with
  | eq c =>
    have := deep_scD c
    rw [tsT, tsD, deep_pair]
    show max 1 _ + 1 ≤ 3
    omega
  | lt n => show 2 ≤ 3; decide
  | gt n => show 2 ≤ 3; decide
theorem DTs.bools {K : PySem.W.Frag} {H : Hp} (f : Ts → Bool) : ∀ us : List Ts, DTs K H (us.map fun t => .bl (f t)) (us.map fun t => .bl (f t))
  | [] => .nil
  | u :: us => .cons (.bl _) (DTs.bools f us)
/-- the same tests are passed -/
def likeB (ts : List Ts) (c d : Sc) : Bool := ts.all fun t => decide (passB t c = passB t d)
theorem likeB_comm (ts : List Ts) (c d : Sc) : likeB ts c d = likeB ts d c := by
  unfold likeB
  congr 1
  funext t
  exact decide_eq_decide.mpr ⟨Eq.symm, Eq.symm⟩
theorem likeB_perm {ts us : List Ts} (h : ts.Perm us) (c d : Sc) : likeB ts c d = likeB us c d := by
  unfold likeB
  rw [Bool.eq_iff_iff, List.all_eq_true, List.all_eq_true]
  exact ⟨fun k t ht => k t (h.mem_iff.mpr ht), fun k t ht => k t (h.mem_iff.mp ht)⟩
theorem bools_eq (f g : Ts → Bool) : ∀ ts : List Ts, PyData.eqvAll (ts.map fun t => .bool (f t)) (ts.map fun t => .bool (g t)) = ts.all fun t => decide (f t = g t)
  | [] => rfl
  | t :: ts => by
    rw [List.map_cons, List.map_cons, PyData.eqvAll, bools_eq f g ts, List.all_cons]
    rfl
end My

namespace My
open PySem L2
/-- a walk over what is a list or a tuple -/
theorem pi_seq {X : Cx} {K : PySem.W.Frag} {tg l : Expr} {tl : TE} (h : X.K = K) (hl : PE X l tl) : PI X tg l (fun σ H R => iList K tl σ H R ∨ iTup K tl σ H R) :=
  ⟨fun pins s σ H R I q => q.elim ((kpi_list h hl).run pins s σ H R I) ((kpi_tup h hl).run pins s σ H R I)⟩
/-! ### actions -/
inductive Ac where | set (p : Pl) (c : Sc) | dflt (p : Pl) (c : Sc) | copy (p q : Pl) | rem (p : Pl) | rej (s : Str)
def acW : Ac → Str
  | .set _ _ => Str.ofString "set"
  | .dflt _ _ => Str.ofString "default"
  | .copy _ _ => Str.ofString "copy"
  | .rem _ => Str.ofString "remove"
  | .rej _ => Str.ofString "reject"
def acD : Ac → Dt
  | .set p c => .tup [.str (Str.ofString "set"), plD p, .tup (scD c)]
  | .dflt p c => .tup [.str (Str.ofString "default"), plD p, .tup (scD c)]
  | .copy p q => .tup [.str (Str.ofString "copy"), plD p, plD q]
  | .rem p => .tup [.str (Str.ofString "remove"), plD p]
  | .rej s => .tup [.str (Str.ofString "reject"), .str s]
theorem acD_act (a : Ac) : ActD (acD a) := by
  cases a with
  | set p c => exact ⟨_, _, rfl, by decide +kernel⟩
  | dflt p c => exact ⟨_, _, rfl, by decide +kernel⟩
  | copy p c => exact ⟨_, _, rfl, by decide +kernel⟩
  | rem p => exact ⟨_, _, rfl, by decide +kernel⟩
  | rej p => exact ⟨_, _, rfl, by decide +kernel⟩
def eqC (o : Option Sc) (c : Sc) : Bool := PyData.eqv (scO o).py (Dt.tup (scD c)).py
/-- the effect of an action, fl the current table, f0 the one before the rule -/
def effF (f0 fl : Fl) (s : List Str) : Ac → Option Ef
  | .set p c => if eqC (getF fl (plAt s p)) c = true then none else some ⟨Str.ofString "set", plAt s p, some c, none⟩
  | .dflt p c => match getF fl (plAt s p) with
    | some _ => none
    | none => some ⟨Str.ofString "default", plAt s p, some c, none⟩
  | .copy p q => match getF fl (plAt s p) with
    | some _ => none
    | none => match getF f0 (plAt s q) with
      | none => none
      | some .recd => none
      | some c => some ⟨Str.ofString "copy", plAt s p, some c, some (plAt s q)⟩
  | .rem p => match getF fl (plAt s p) with
    | none => none
    | some _ => some ⟨rmS, plAt s p, none, none⟩
  | .rej _ => none
abbrev Res := Except Str (Fl × List Ef)
def actsF (f0 : Fl) (s : List Str) : List Ac → Fl → List Ef → Res
  | [], fl, es => .ok (fl, es)
  | .rej r :: _, _, _ => .error r
  | a :: as, fl, es => match effF f0 fl s a with
    | none => actsF f0 s as fl es
    | some e => actsF f0 s as (mkF fl e) (es ++ [e])
def subsF (f0 : Fl) (as : List Ac) : List (List Str) → Fl → List Ef → Res
  | [], fl, es => .ok (fl, es)
  | s :: ss, fl, es => match actsF f0 s as fl es with
    | .error r => .error r
    | .ok st => subsF f0 as ss st.1 st.2
def resD : Res → Dt
  | .error r => .tup [.str (Str.ofString "rejected"), .str r]
  | .ok st => .tup [.str (Str.ofString "done"), .tup (doc st.1 []), .tup (st.2.map efD)]
/-- the entries for which the actions are made -/
def spotsQ (fl : Fl) : Option (List Str) → List (Option (List Str))
  | none => [none]
  | some p => (below fl p).map fun k => some (p ++ [k])
def cdQ (fl : Fl) (s : Option (List Str)) : Option Cd → Bool
  | none => true
  | some c => cdB (getF fl) (s.getD []) c
def subQ (fl : Fl) (col : Option (List Str)) (c : Option Cd) : List (Option (List Str)) := (spotsQ fl col).filter fun s => cdQ fl s c
def ruleF (fl : Fl) (col : Option (List Str)) (c : Option Cd) (as : List Ac) : Res := subsF fl as ((subQ fl col c).map fun s => s.getD []) fl []
/-- places of a rule for an entry -/
def PlT (ws : List Str) (s : Option (List Str)) (p : Pl) : Prop := PlOk s p ∧ 1 ≤ (plAt (s.getD []) p).length ∧ (plAt (s.getD []) p).length ≤ 5 ∧ ∀ k ∈ plAt (s.getD []) p, k ∈ ws
def AcOk (ws : List Str) (s : Option (List Str)) : Ac → Prop
  | .set p c => PlT ws s p ∧ scOk c ∧ c ≠ .recd
  | .dflt p c => PlT ws s p ∧ scOk c ∧ c ≠ .recd
  | .copy p q => PlT ws s p ∧ PlOk s q
  | .rem p => PlT ws s p
  | .rej _ => True
theorem eff_ok {ws us : List Str} {f0 fl : Fl} {s : Option (List Str)} {a : Ac} {e : Ef} (h0 : ∀ p c, getF f0 p = some c → scOk c) (ok : AcOk ws s a) (h : effF f0 fl (s.getD []) a = some e) : EfOk e ∧ ∀ k ∈ e.p, k ∈ ws := by
  cases a with
  | rej r => cases h
  | set p c =>
    obtain ⟨⟨_, p1, p5, pk⟩, o1, o2⟩ := ok
    simp only [effF] at h
    by_cases z : eqC (getF fl (plAt (s.getD []) p)) c = true
    · rw [if_pos z] at h; cases h
    · rw [if_neg z] at h
      cases h
      exact ⟨⟨.inr ⟨c, rfl, o2, o1, by show Str.ofString "set" ≠ Str.ofString "remove"; decide +kernel⟩, p1, p5⟩, pk⟩
  | dflt p c =>
    obtain ⟨⟨_, p1, p5, pk⟩, o1, o2⟩ := ok
    simp only [effF] at h
    cases z : getF fl (plAt (s.getD []) p) with
    | some d => rw [z] at h; cases h
    | none =>
      rw [z] at h
      cases h
      exact ⟨⟨.inr ⟨c, rfl, o2, o1, by show Str.ofString "default" ≠ Str.ofString "remove"; decide +kernel⟩, p1, p5⟩, pk⟩
  | rem p =>
    obtain ⟨_, p1, p5, pk⟩ := ok
    simp only [effF] at h
    cases z : getF fl (plAt (s.getD []) p) with
    | none => rw [z] at h; cases h
    | some d =>
      rw [z] at h
      cases h
      exact ⟨⟨.inl ⟨rfl, rfl⟩, p1, p5⟩, pk⟩
  | copy p q =>
    obtain ⟨⟨_, p1, p5, pk⟩, _⟩ := ok
    simp only [effF] at h
    cases z : getF fl (plAt (s.getD []) p) with
    | some d => rw [z] at h; cases h
    | none =>
      rw [z] at h
      cases z2 : getF f0 (plAt (s.getD []) q) with
      | none => rw [z2] at h; cases h
      | some c =>
        rw [z2] at h
        have o := h0 _ _ z2
        have ne : Str.ofString "copy" ≠ rmS := by show Str.ofString "copy" ≠ Str.ofString "remove"; decide +kernel
        cases c with
        | recd => cases h
        | null => cases h; exact ⟨⟨.inr ⟨_, rfl, (by intro z; cases z), o, ne⟩, p1, p5⟩, pk⟩
        | fals => cases h; exact ⟨⟨.inr ⟨_, rfl, (by intro z; cases z), o, ne⟩, p1, p5⟩, pk⟩
        | tru => cases h; exact ⟨⟨.inr ⟨_, rfl, (by intro z; cases z), o, ne⟩, p1, p5⟩, pk⟩
        | num n => cases h; exact ⟨⟨.inr ⟨_, rfl, (by intro z; cases z), o, ne⟩, p1, p5⟩, pk⟩
        | text n => cases h; exact ⟨⟨.inr ⟨_, rfl, (by intro z; cases z), o, ne⟩, p1, p5⟩, pk⟩
theorem mk_len (fl : Fl) {e : Ef} (h : e.p.length ≤ 5) : (mkF fl e).length ≤ fl.length + 6 := by
  unfold mkF
  cases e.c with
  | none => have := len_cut fl e.p; show (cutF fl e.p).length ≤ _; omega
  | some c => have := len_set fl e.p c; show (setF fl e.p c).length ≤ _; omega
theorem lay_scO {o : Option Sc} (h : ∀ c, o = some c → scOk c) : (scO o).lay = true := by
  cases o with
  | none => rfl
  | some c => exact lay_sc (h c rfl)
theorem deep_scO (o : Option Sc) : (scO o).deep ≤ 2 := by
  cases o with
  | none => show 1 ≤ 2; decide
  | some c => exact deep_scD c
def efO : Option Ef → Dt
  | none => .non
  | some e => efD e
def isRej : Ac → Bool
  | .rej _ => true
  | _ => false
/-- the condition of a rule may be looked at for each of its entries -/
def CoOk (fl : Fl) (col : Option (List Str)) : Option Cd → Prop
  | none => True
  | some c => c.dep ≤ 40 ∧ ∀ s ∈ spotsQ fl col, c.all (PlOk s)
theorem spotsQ_len (fl : Fl) (col : Option (List Str)) : (spotsQ fl col).length ≤ fl.length + 1 := by
  cases col with
  | none => exact Nat.succ_le_succ (Nat.zero_le _)
  | some p => have := below_len fl p; show ((below fl p).map _).length ≤ _; rw [List.length_map]; omega
theorem subQ_sub {fl : Fl} {col : Option (List Str)} {c : Option Cd} {s : Option (List Str)} (h : s ∈ subQ fl col c) : s ∈ spotsQ fl col := (List.mem_filter.mp h).1
theorem dac_three {K : PySem.W.Frag} {H : Hp} {v : V} {z : Str} {d e : Dt} (h : DT K H v (.tup [.str z, d, e])) : ∃ a x y, v = .ref a ∧ SqT K H a [.str z, x, y] ∧ DT K H x d ∧ DT K H y e := by
  obtain ⟨a, xs, rfl, h1, h2⟩ := dt_tup h
  obtain ⟨x1, x2, x3, rfl, k1, k2, k3⟩ := h2.three
  cases k1
  exact ⟨a, x2, x3, rfl, h1, k2, k3⟩
theorem dac_two {K : PySem.W.Frag} {H : Hp} {v : V} {z : Str} {d : Dt} (h : DT K H v (.tup [.str z, d])) : ∃ a x, v = .ref a ∧ SqT K H a [.str z, x] ∧ DT K H x d := by
  obtain ⟨a, xs, rfl, h1, h2⟩ := dt_tup h
  obtain ⟨x1, x2, rfl, k1, k2⟩ := h2.two
  cases k1
  exact ⟨a, x2, rfl, h1, k2⟩
theorem scO_cases {K : PySem.W.Frag} {H : Hp} {v : V} {o : Option Sc} (h : DT K H v (scO o)) : (v = .non ∧ o = none) ∨ ∃ a c, v = .ref a ∧ o = some c := by
  cases o with
  | none => cases h; exact .inl ⟨rfl, rfl⟩
  | some c => obtain ⟨a, xs, rfl, _⟩ := dt_tup h; exact .inr ⟨a, c, rfl, rfl⟩
theorem actsF_cons {f0 fl : Fl} {s : List Str} {a : Ac} {as : List Ac} {es : List Ef} (h : isRej a = false) : actsF f0 s (a :: as) fl es = match effF f0 fl s a with
    | none => actsF f0 s as fl es
    | some e => actsF f0 s as (mkF fl e) (es ++ [e]) := by
  cases a <;> first | rfl | cases h
/-- the rest of a rule: the actions that are left for this entry, then the entries that are left -/
def restF (f0 : Fl) (as : List Ac) (s : List Str) (more : List Ac) (ss : List (List Str)) (fl : Fl) (es : List Ef) : Res := match actsF f0 s more fl es with
  | .error r => .error r
  | .ok st => subsF f0 as ss st.1 st.2
theorem acD_word {K : PySem.W.Frag} {H : Hp} {v : V} {a : Ac} (h : DT K H v (acD a)) : ∃ b xs, v = .ref b ∧ SqT K H b (.str (acW a) :: xs) ∧ (∀ r, a = .rej r → xs = [.str r]) := by
  cases a with
  | rej r => obtain ⟨b, x, rfl, h1, h2⟩ := dac_two h; cases h2; exact ⟨b, _, rfl, h1, fun r e => by cases e; rfl⟩
  | rem p => obtain ⟨b, x, rfl, h1, h2⟩ := dac_two h; exact ⟨b, _, rfl, h1, fun r e => by cases e⟩
  | set p c => obtain ⟨b, x, y, rfl, h1, h2⟩ := dac_three h; exact ⟨b, _, rfl, h1, fun r e => by cases e⟩
  | dflt p c => obtain ⟨b, x, y, rfl, h1, h2⟩ := dac_three h; exact ⟨b, _, rfl, h1, fun r e => by cases e⟩
  | copy p c => obtain ⟨b, x, y, rfl, h1, h2⟩ := dac_three h; exact ⟨b, _, rfl, h1, fun r e => by cases e⟩
theorem acW_rej (a : Ac) : decide (V.str (acW a) = V.str (Str.ofString "reject")) = isRej a := by
  cases a with
  | rej r => exact decide_eq_true rfl
  | rem p => exact decide_eq_false (by show ¬ V.str (Str.ofString "remove") = V.str (Str.ofString "reject"); intro z; exact absurd (V.str.inj z) (by decide +kernel))
  | set p c => exact decide_eq_false (by show ¬ V.str (Str.ofString "set") = V.str (Str.ofString "reject"); intro z; exact absurd (V.str.inj z) (by decide +kernel))
  | dflt p c => exact decide_eq_false (by show ¬ V.str (Str.ofString "default") = V.str (Str.ofString "reject"); intro z; exact absurd (V.str.inj z) (by decide +kernel))
  | copy p c => exact decide_eq_false (by show ¬ V.str (Str.ofString "copy") = V.str (Str.ofString "reject"); intro z; exact absurd (V.str.inj z) (by decide +kernel))
theorem seqT_sm {K : PySem.W.Frag} {E a : Addr} {H H' : Hp} {acc xs : List V} (s : Sm E H H') (e : H E = some (.lst acc)) (h : SqT K H a xs) : SqT K H' a xs := by
  rcases h with (h | ⟨o, h⟩) | h
  · exact .inl (.inl (s _ _ (ne_of h e (fun z => by cases z)) h))
  · exact .inl (.inr ⟨o, s _ _ (ne_of h e (fun z => by cases z)) h⟩)
  · exact .inr h
theorem DT.smL {K : PySem.W.Frag} {E : Addr} {H H' : Hp} {acc : List V} {v : V} {d : Dt} (h : DT K H v d) (s : Sm E H H') (e : H E = some (.lst acc)) : DT K H' v d := DT.mono (fun _ _ q => seqT_sm s e q) d v h
theorem DTs.smL {K : PySem.W.Frag} {E : Addr} {H H' : Hp} {acc : List V} {v : List V} {d : List Dt} (h : DTs K H v d) (s : Sm E H H') (e : H E = some (.lst acc)) : DTs K H' v d := DTs.mono (fun _ _ q => seqT_sm s e q) d v h
/-- the first reason of a rule -/
def rejF : List Ac → Option Str
  | [] => none
  | .rej r :: _ => some r
  | _ :: as => rejF as
theorem rejF_cons {a : Ac} {as : List Ac} (h : isRej a = false) : rejF (a :: as) = rejF as := by cases a <;> first | rfl | cases h
theorem acts_rej {f0 : Fl} {s : List Str} {r : Str} : ∀ {as : List Ac} {fl : Fl} {es : List Ef}, rejF as = some r → actsF f0 s as fl es = .error r
  | [], _, _, h => by cases h
  | a :: as, fl, es, h => by
    cases hr : isRej a with
    | true =>
      cases a with
      | rej z => cases h; rfl
      | _ => cases hr
    | false =>
      rw [rejF_cons hr] at h
      rw [actsF_cons hr]
      cases effF f0 fl s a with
      | none => exact acts_rej h
      | some e => exact acts_rej h
theorem rule_rej {fl : Fl} {col : Option (List Str)} {c : Option Cd} {as : List Ac} {r : Str} (h : rejF as = some r) : ruleF fl col c as = if subQ fl col c = [] then .ok (fl, []) else .error r := by
  unfold ruleF
  cases e : subQ fl col c with
  | nil => rfl
  | cons s ss =>
    rw [if_neg (by intro z; cases z)]
    rw [List.map_cons, subsF, acts_rej h]
/-- the reasons of a rule, in order -/
def rejs (as : List Ac) : List Str := as.filterMap fun a => match a with | .rej r => some r | _ => none
theorem rejs_head {as : List Ac} {r : Str} (h : (rejs as)[0]? = some r) : rejF as = some r := by
  induction as with
  | nil => cases h
  | cons a as ih =>
    cases a with
    | rej z => simpa [rejs, rejF] using h
    | set p c => exact ih (by simpa [rejs] using h)
    | dflt p c => exact ih (by simpa [rejs] using h)
    | copy p c => exact ih (by simpa [rejs] using h)
    | rem p => exact ih (by simpa [rejs] using h)
/-- an action as a law draws it, with entries or without -/
def PlTg (us : List Str) (b : Bool) : Pl → Prop
  | .path p => b = false ∧ 1 ≤ p.length ∧ p.length ≤ 5 ∧ ∀ z ∈ p, z ∈ us
  | .ent p => b = true ∧ p.length ≤ 2 ∧ ∀ z ∈ p, z ∈ us
def AcW (us : List Str) (b : Bool) : Ac → Prop
  | .set p c => PlTg us b p ∧ scN c
  | .dflt p c => PlTg us b p ∧ scN c
  | .copy p q => PlTg us b p ∧ PlW us b q
  | .rem p => PlTg us b p
  | .rej _ => True
theorem scN.nr {c : Sc} (h : scN c) : c ≠ .recd := fun e => by subst e; exact h
/-- places of a world for an entry of its collection, or for the document -/
def SpW (us : List Str) (b : Bool) : Option (List Str) → Prop
  | none => b = false
  | some s => b = true ∧ 1 ≤ s.length ∧ s.length ≤ 3 ∧ ∀ z ∈ s, z ∈ us
theorem PlW.ok {us : List Str} {b : Bool} {s : Option (List Str)} {p : Pl} (hs : SpW us b s) (h : PlW us b p) : PlOk s p ∧ PlB (s.getD []) p := by
  cases p with
  | path p =>
    refine ⟨⟨fun z => by rw [z] at h; exact absurd h.1 (by decide), by have := h.2.1; omega⟩, ?_⟩
    have h2 := h.2.1
    cases s with
    | none => show 0 + p.length ≤ 1000; omega
    | some s => have := hs.2.2.1; show s.length + p.length ≤ 1000; omega
  | ent p =>
    have h2 := h.2.1
    cases s with
    | none => have e : b = false := hs; rw [e] at h; exact absurd h.1 (by decide)
    | some s =>
      have h3 := hs.2.1
      have h4 := hs.2.2.1
      exact ⟨⟨s, rfl, fun z => by have := (List.append_eq_nil_iff.mp z).1; rw [this] at h3; exact absurd h3 (by decide), by omega⟩, by show s.length + p.length ≤ 1000; omega⟩
theorem PlTg.ok {us : List Str} {b : Bool} {s : Option (List Str)} {p : Pl} (hs : SpW us b s) (h : PlTg us b p) : PlT us s p := by
  cases p with
  | path p =>
    exact ⟨⟨fun z => by rw [z] at h; exact absurd h.2.1 (by decide), by have := h.2.2.1; omega⟩, h.2.1, h.2.2.1, h.2.2.2⟩
  | ent p =>
    have h2 := h.2.1
    cases s with
    | none => have e : b = false := hs; rw [e] at h; exact absurd h.1 (by decide)
    | some s =>
      have h3 := hs.2.1
      have h4 := hs.2.2.1
      refine ⟨⟨s, rfl, fun z => by have := (List.append_eq_nil_iff.mp z).1; rw [this] at h3; exact absurd h3 (by decide), by omega⟩, by show 1 ≤ (s ++ p).length; rw [List.length_append]; omega, by show (s ++ p).length ≤ 5; rw [List.length_append]; omega, fun z hz => ?_⟩
      rcases List.mem_append.mp (show z ∈ s ++ p from hz) with k | k
      · exact hs.2.2.2 z k
      · exact h.2.2 z k
theorem AcW.ok {us : List Str} {b : Bool} {s : Option (List Str)} {a : Ac} (hs : SpW us b s) (h : AcW us b a) : AcOk us s a := by
  cases a with
  | rej r => trivial
  | rem p => exact PlTg.ok hs h
  | set p c => exact ⟨PlTg.ok hs h.1, h.2.ok, h.2.nr⟩
  | dflt p c => exact ⟨PlTg.ok hs h.1, h.2.ok, h.2.nr⟩
  | copy p q => exact ⟨PlTg.ok hs h.1, (PlW.ok hs h.2).1⟩
/-- the entries of a world's collection -/
theorem spots_W {us : List Str} {fl : Fl} {w : Wd} {b : Bool} (wf : Wf us fl) (wo : WdOk us w) : ∀ s ∈ spotsQ fl (if b = true then some w.col else none), SpW us b s := fun s hs => by
  cases b with
  | false => rw [List.mem_singleton.mp hs]; rfl
  | true =>
    obtain ⟨k, hk, rfl⟩ := List.mem_map.mp hs
    have c1 := wo.c1
    have c2 := wo.c2
    refine ⟨rfl, by rw [List.length_append]; show 1 ≤ _ + 1; omega, by rw [List.length_append]; show _ + 1 ≤ 3; omega, fun z hz => ?_⟩
    rcases List.mem_append.mp hz with h | h
    · exact wo.cu z h
    · obtain ⟨c, hc⟩ := mem_below.mp hk
      rw [List.mem_singleton.mp h]
      exact (wf.pa _ c hc).2.2.1 k (List.mem_append_right _ List.mem_cons_self)
theorem rej_ex : ∀ {as : List Ac}, (∃ a ∈ as, isRej a = true) → ∃ r, (rejs as)[0]? = some r
  | [], h => by obtain ⟨a, h, _⟩ := h; cases h
  | a :: as, h => by
    have step : (rejs (a :: as)) = (match a with | .rej r => [r] | _ => []) ++ rejs as := by cases a <;> simp [rejs]
    cases a with
    | rej r => exact ⟨r, by rw [step]; rfl⟩
    | set p c =>
      obtain ⟨x, hx, hr⟩ := h
      rcases List.mem_cons.mp hx with e | hx
      · rw [e] at hr; cases hr
      · rw [step]; exact rej_ex ⟨x, hx, hr⟩
    | dflt p c =>
      obtain ⟨x, hx, hr⟩ := h
      rcases List.mem_cons.mp hx with e | hx
      · rw [e] at hr; cases hr
      · rw [step]; exact rej_ex ⟨x, hx, hr⟩
    | copy p c =>
      obtain ⟨x, hx, hr⟩ := h
      rcases List.mem_cons.mp hx with e | hx
      · rw [e] at hr; cases hr
      · rw [step]; exact rej_ex ⟨x, hx, hr⟩
    | rem p =>
      obtain ⟨x, hx, hr⟩ := h
      rcases List.mem_cons.mp hx with e | hx
      · rw [e] at hr; cases hr
      · rw [step]; exact rej_ex ⟨x, hx, hr⟩
theorem rejs_len (as : List Ac) : (rejs as).length ≤ as.length := List.length_filterMap_le _ _
theorem rejs_app (as bs : List Ac) : rejs (as ++ bs) = rejs as ++ rejs bs := List.filterMap_append
theorem rejs_one (a : Ac) : rejs [a] = if isRej a = true then (match a with | .rej r => [r] | _ => []) else [] := by cases a <;> rfl
theorem spotsO_Q (fl : Fl) (col : Option (List Str)) : ∀ {f : List Str → Bool}, (match col with | none => [[]] | some p => (below fl p).map fun k => p ++ [k]) = (spotsQ fl col).map fun s => s.getD [] := by
  intro f
  cases col with
  | none => rfl
  | some p =>
    show _ = ((below fl p).map fun k => some (p ++ [k])).map _
    rw [List.map_map]
    rfl
theorem TTs.take {H : Hp} {vs : List V} {ds : List Dt} (h : TTs H vs ds) (n : Nat) : TTs H (vs.take n) (ds.take n) := by
  induction ds generalizing vs n with
  | nil => cases h; rw [List.take_nil, List.take_nil]; exact .nil
  | cons d ds ih =>
    cases h with
    | cons h1 h2 =>
      cases n with
      | zero => exact .nil
      | succ n => exact .cons h1 (ih h2 n)
theorem TTs.drop {H : Hp} {vs : List V} {ds : List Dt} (h : TTs H vs ds) (n : Nat) : TTs H (vs.drop n) (ds.drop n) := by
  induction ds generalizing vs n with
  | nil => cases h; rw [List.drop_nil, List.drop_nil]; exact .nil
  | cons d ds ih =>
    cases h with
    | cons h1 h2 =>
      cases n with
      | zero => exact .cons h1 h2
      | succ n => exact ih h2 n
theorem TTs.length {H : Hp} {vs : List V} {ds : List Dt} (h : TTs H vs ds) : vs.length = ds.length := by
  induction ds generalizing vs with
  | nil => cases h; rfl
  | cons d ds ih =>
    cases h with
    | cons _ h2 => rw [List.length_cons, List.length_cons, ih h2]
theorem TTs.get' {H : Hp} {vs : List V} {ds : List Dt} (h : TTs H vs ds) {i : Nat} {v : V} (e : vs[i]? = some v) : ∃ d, ds[i]? = some d ∧ TT H v d := by
  induction ds generalizing vs i with
  | nil => cases h; simp at e
  | cons d ds ih =>
    cases h with
    | cons h1 h2 =>
      cases i with
      | zero =>
        rw [List.getElem?_cons_zero] at e
        cases e
        exact ⟨d, rfl, h1⟩
      | succ i => exact ih h2 (by simpa using e)
/-- what a rule with a reason does, is alike deep and wide -/
theorem resD_ok {r : Str} {fl : Fl} (hl : fl.length ≤ 1000000) : ((resD (.ok (fl, []))).deep ≤ 40 ∧ (resD (.ok (fl, []))).fits = true) ∧ ((resD (.error r)).deep ≤ 40 ∧ (resD (.error r)).fits = true) := by
  obtain ⟨d1, d2⟩ := doc_ok hl []
  refine ⟨⟨?_, ?_⟩, ⟨by show 2 ≤ 40; decide, rfl⟩⟩
  · show max 1 (max (Dt.tup (doc fl [])).deep (max 1 0)) + 1 ≤ 40
    omega
  · show (decide (3 ≤ 1000000) && (true && ((Dt.tup (doc fl [])).fits && _))) = true
    rw [d2]
    rfl
end My

namespace My
open PySem L2
/-! ### rules and calls of hooks -/
structure Ru where
  col : Option (List Str)
  c : Option Cd
  as : List Ac
def ruE (r : Ru) : Dt := ruD r.col r.c (r.as.map acD)
abbrev ruR (fl : Fl) (r : Ru) : Res := ruleF fl r.col r.c r.as
abbrev Cres := Except (Nat × Str) (Fl × List (Nat × Ef))
def callF : List Ru → Nat → Fl → List (Nat × Ef) → Cres
  | [], _, fl, es => .ok (fl, es)
  | r :: rs, k, fl, es => match ruR fl r with
    | .error z => .error (k, z)
    | .ok st => callF rs (k + 1) st.1 (es ++ st.2.map fun e => (k, e))
def neD (x : Nat × Ef) : Dt := .tup [.int (x.1 : Int), efD x.2]
def cresD : Cres → Dt
  | .error x => .tup [.str (Str.ofString "rejected"), .int (x.1 : Int), .str x.2]
  | .ok st => .tup [.str (Str.ofString "done"), .tup (doc st.1 []), .tup (st.2.map neD)]
structure RuOk (ws : List Str) (fl : Fl) (col : Option (List Str)) (c : Option Cd) (as : List Ac) : Prop where
  wf : Wf ws fl
  ks : ∀ z ∈ ws, z.length ≤ 1000
  lf : fl.length ≤ 1000
  la : as.length ≤ 15
  lc : ∀ p, col = some p → p.length ≤ 900
  co : CoOk fl col c
  ac : ∀ s ∈ spotsQ fl col, ∀ a ∈ as, AcOk ws s a
/-- the rules may be applied, each to the result of the one before -/
def CallOk (ws : List Str) : List Ru → Fl → Prop
  | [], _ => True
  | r :: rs, fl => RuOk ws fl r.col r.c r.as ∧ ∀ st, ruR fl r = .ok st → CallOk ws rs st.1
/-! ### what a rule leaves -/
def preU (e : Ef) (U : List (List Str)) : Prop := ∀ q ∈ pre6 e.p, q ∈ U
section
variable {ws : List Str} {U : List (List Str)} {f0 : Fl} {s : Option (List Str)}
theorem acts_fit : ∀ {as : List Ac} {fl : Fl} {es : List Ef} {st : Fl × List Ef} (h0 : ∀ p c, getF f0 p = some c → scOk c) (ok : ∀ a ∈ as, AcOk ws s a) (cv : ∀ a ∈ as, ∀ fl e, effF f0 fl (s.getD []) a = some e → preU e U) (wf : Wf ws fl) (iu : InU U fl) (he : ∀ e ∈ es, EfOk e ∧ ∀ k ∈ e.p, k ∈ ws),
    actsF f0 (s.getD []) as fl es = .ok st → Wf ws st.1 ∧ InU U st.1 ∧ st.2.length ≤ es.length + as.length ∧ ∀ e ∈ st.2, EfOk e ∧ ∀ k ∈ e.p, k ∈ ws
  | [], fl, es, st, h0, ok, cv, wf, iu, he, h => by cases h; exact ⟨wf, iu, Nat.le_refl _, he⟩
  | a :: as, fl, es, st, h0, ok, cv, wf, iu, he, h => by
    have ok' : ∀ a ∈ as, AcOk ws s a := fun x hx => ok x (List.mem_cons_of_mem _ hx)
    have cv' : ∀ a ∈ as, ∀ fl e, effF f0 fl (s.getD []) a = some e → preU e U := fun x hx => cv x (List.mem_cons_of_mem _ hx)
    cases hr : isRej a with
    | true =>
      cases a with
      | rej r => cases h
      | _ => cases hr
    | false =>
      rw [actsF_cons hr] at h
      cases e1 : effF f0 fl (s.getD []) a with
      | none =>
        rw [e1] at h
        obtain ⟨k1, k2, k3, k4⟩ := acts_fit h0 ok' cv' wf iu he h
        exact ⟨k1, k2, by rw [List.length_cons]; omega, k4⟩
      | some e =>
        rw [e1] at h
        have eo := eff_ok (us := ws) h0 (ok a List.mem_cons_self) e1
        have w2 := wf.mkE eo.1 eo.2
        have i2 := iu.mk eo.1.p5 w2.nd (cv a List.mem_cons_self fl e e1)
        obtain ⟨k1, k2, k3, k4⟩ := acts_fit h0 ok' cv' w2 i2 (fun x hx => (List.mem_append.mp hx).elim (he x) fun q => by rw [List.mem_singleton.mp q]; exact eo) h
        refine ⟨k1, k2, ?_, k4⟩
        rw [List.length_append] at k3
        rw [List.length_cons]
        have : [e].length = 1 := rfl
        omega
theorem subs_fit {as : List Ac} (h0 : ∀ p c, getF f0 p = some c → scOk c) : ∀ {L : List (Option (List Str))} {fl : Fl} {es : List Ef} {st : Fl × List Ef} (ok : ∀ s ∈ L, ∀ a ∈ as, AcOk ws s a) (cv : ∀ s ∈ L, ∀ a ∈ as, ∀ fl e, effF f0 fl (s.getD []) a = some e → preU e U) (wf : Wf ws fl) (iu : InU U fl) (he : ∀ e ∈ es, EfOk e ∧ ∀ k ∈ e.p, k ∈ ws),
    subsF f0 as (L.map fun s => s.getD []) fl es = .ok st → Wf ws st.1 ∧ InU U st.1 ∧ st.2.length ≤ es.length + as.length * L.length ∧ ∀ e ∈ st.2, EfOk e ∧ ∀ k ∈ e.p, k ∈ ws
  | [], fl, es, st, ok, cv, wf, iu, he, h => by cases h; exact ⟨wf, iu, Nat.le_add_right _ _, he⟩
  | s :: L, fl, es, st, ok, cv, wf, iu, he, h => by
    rw [List.map_cons, subsF] at h
    cases e1 : actsF f0 (s.getD []) as fl es with
    | error r => rw [e1] at h; cases h
    | ok s1 =>
      rw [e1] at h
      obtain ⟨k1, k2, k3, k4⟩ := acts_fit h0 (ok s List.mem_cons_self) (cv s List.mem_cons_self) wf iu he e1
      obtain ⟨m1, m2, m3, m4⟩ := subs_fit h0 (fun x hx => ok x (List.mem_cons_of_mem _ hx)) (fun x hx => cv x (List.mem_cons_of_mem _ hx)) k1 k2 k4 h
      refine ⟨m1, m2, ?_, m4⟩
      rw [List.length_cons, Nat.mul_add, Nat.mul_one]
      omega
end
theorem acts_len {f0 : Fl} {s : List Str} : ∀ {as : List Ac} {fl : Fl} {es : List Ef} {st : Fl × List Ef}, actsF f0 s as fl es = .ok st → st.2.length ≤ es.length + as.length
  | [], fl, es, st, h => by cases h; exact Nat.le_refl _
  | a :: as, fl, es, st, h => by
    rw [List.length_cons]
    cases hr : isRej a with
    | true =>
      cases a with
      | rej r => cases h
      | _ => cases hr
    | false =>
      rw [actsF_cons hr] at h
      cases e1 : effF f0 fl s a with
      | none => rw [e1] at h; have := acts_len h; omega
      | some e =>
        rw [e1] at h
        have := acts_len (f0 := f0) (show actsF f0 s as (mkF fl e) (es ++ [e]) = _ from h)
        rw [List.length_append] at this
        have : [e].length = 1 := rfl
        omega
theorem subs_len {f0 : Fl} {as : List Ac} : ∀ {L : List (List Str)} {fl : Fl} {es : List Ef} {st : Fl × List Ef}, subsF f0 as L fl es = .ok st → st.2.length ≤ es.length + as.length * L.length
  | [], fl, es, st, h => by cases h; exact Nat.le_add_right _ _
  | s :: L, fl, es, st, h => by
    rw [subsF] at h
    cases e1 : actsF f0 s as fl es with
    | error r => rw [e1] at h; cases h
    | ok s1 =>
      rw [e1] at h
      have k1 := acts_len e1
      have k2 := subs_len (f0 := f0) (show subsF f0 as L s1.1 s1.2 = _ from h)
      rw [List.length_cons, Nat.mul_add, Nat.mul_one]
      omega
theorem rule_len {ws : List Str} {fl : Fl} {r : Ru} {st : Fl × List Ef} (ok : RuOk ws fl r.col r.c r.as) (h : ruR fl r = .ok st) : st.2.length ≤ 16000 := by
  have k := subs_len (f0 := fl) h
  have l1 := spotsQ_len fl r.col
  have l2 : (subQ fl r.col r.c).length ≤ (spotsQ fl r.col).length := List.length_filter_le _ _
  have l3 := ok.lf
  have l5 : r.as.length * ((subQ fl r.col r.c).map fun s => s.getD []).length ≤ 15 * 1001 := Nat.mul_le_mul ok.la (by rw [List.length_map]; omega)
  rw [List.length_nil] at k
  omega
theorem rule_fit {ws : List Str} {U : List (List Str)} {fl : Fl} {r : Ru} {st : Fl × List Ef} (ok : RuOk ws fl r.col r.c r.as) (iu : InU U fl) (cv : ∀ s ∈ spotsQ fl r.col, ∀ a ∈ r.as, ∀ f1 e, effF fl f1 (s.getD []) a = some e → preU e U) (h : ruR fl r = .ok st) : Wf ws st.1 ∧ InU U st.1 ∧ st.2.length ≤ 16000 ∧ ∀ e ∈ st.2, EfOk e ∧ ∀ k ∈ e.p, k ∈ ws := by
  have h0 : ∀ p c, getF fl p = some c → scOk c := fun p c e => (ok.wf.pa p c e).2.2.2
  obtain ⟨k1, k2, k3, k4⟩ := subs_fit (es := []) h0 (L := subQ fl r.col r.c) (fun s hs => ok.ac s (subQ_sub hs)) (fun s hs => cv s (subQ_sub hs)) ok.wf iu (fun _ h => by cases h) h
  refine ⟨k1, k2, ?_, k4⟩
  have l1 := spotsQ_len fl r.col
  have l2 : (subQ fl r.col r.c).length ≤ (spotsQ fl r.col).length := List.length_filter_le _ _
  have l3 := ok.lf
  have l4 := ok.la
  have l5 : r.as.length * (subQ fl r.col r.c).length ≤ 15 * 1001 := Nat.mul_le_mul l4 (by omega)
  rw [List.length_nil] at k3
  omega
/-! ### rules of a law's world -/
/-- conditions with their places -/
structure CdV (us : List Str) (b : Bool) (c : Cd) : Prop where
  pl : c.all (PlW us b)
  dep : c.dep ≤ 38
  lit : c.lit scN
def PlV (w : Wd) (b : Bool) : Pl → Prop
  | .path p => b = false ∧ p ∈ w.paths
  | .ent p => b = true ∧ p ∈ w.inner
def AcV (us : List Str) (w : Wd) (b : Bool) : Ac → Prop
  | .set p c => PlV w b p ∧ scN c
  | .dflt p c => PlV w b p ∧ scN c
  | .copy p q => PlV w b p ∧ PlW us b q
  | .rem p => PlV w b p
  | .rej _ => True
theorem PlV.tg {us : List Str} {w : Wd} {b : Bool} {p : Pl} (wo : WdOk us w) (h : PlV w b p) : PlTg us b p := by
  cases p with
  | path p => exact ⟨h.1, wo.pu p h.2⟩
  | ent p => exact ⟨h.1, wo.iu p h.2⟩
theorem AcV.w {us : List Str} {w : Wd} {b : Bool} {a : Ac} (wo : WdOk us w) (h : AcV us w b a) : AcW us b a := by
  cases a with
  | set p c => exact ⟨h.1.tg wo, h.2⟩
  | dflt p c => exact ⟨h.1.tg wo, h.2⟩
  | copy p q => exact ⟨h.1.tg wo, h.2⟩
  | rem p => exact h.tg wo
  | rej r => trivial
/-- the paths that rules of a world may bring -/
structure Cov (us : List Str) (w : Wd) (U : List (List Str)) : Prop where
  p : ∀ p ∈ w.paths, ∀ q ∈ pre6 p, q ∈ U
  e : ∀ k ∈ us, ∀ p ∈ w.inner, ∀ q ∈ pre6 (w.col ++ [k] ++ p), q ∈ U
structure RuV (us : List Str) (w : Wd) (r : Ru) : Prop where
  ex : ∃ b : Bool, r.col = (if b = true then some w.col else none) ∧ (∀ c, r.c = some c → CdV us b c) ∧ (∀ a ∈ r.as, AcV us w b a) ∧ r.as.length ≤ 15
theorem eff_p {f0 fl : Fl} {s : List Str} {a : Ac} {e : Ef} (h : effF f0 fl s a = some e) : ∃ p, e.p = plAt s p ∧ (∀ us w b, AcV us w b a → PlV w b p) := by
  cases a with
  | rej r => cases h
  | set p c =>
    simp only [effF] at h
    split at h
    · cases h
    · cases h; exact ⟨p, rfl, fun _ _ _ h => h.1⟩
  | dflt p c =>
    simp only [effF] at h
    split at h
    · cases h
    · cases h; exact ⟨p, rfl, fun _ _ _ h => h.1⟩
  | rem p =>
    simp only [effF] at h
    split at h
    · cases h
    · cases h; exact ⟨p, rfl, fun _ _ _ h => h⟩
  | copy p q =>
    simp only [effF] at h
    split at h
    · cases h
    · split at h
      · cases h
      · cases h
      · cases h; exact ⟨p, rfl, fun _ _ _ h => h.1⟩
theorem RuV.ok {us : List Str} {w : Wd} {r : Ru} {fl : Fl} (h : RuV us w r) (wo : WdOk us w) (ku : ∀ z ∈ us, KeyT z) (wf : Wf us fl) (lf : fl.length ≤ 1000) : RuOk us fl r.col r.c r.as := by
  obtain ⟨b, h1, h2, h3, h4⟩ := h.ex
  have sp : ∀ s ∈ spotsQ fl r.col, SpW us b s := by rw [h1]; exact spots_W wf wo
  refine ⟨wf, fun z hz => by have := (ku z hz).len; omega, lf, h4, fun p e => ?_, ?_, fun s hs a ha => AcW.ok (sp s hs) ((h3 a ha).w wo)⟩
  · rw [h1] at e
    have := wo.c2
    cases b with
    | true => cases e; omega
    | false => cases e
  · cases e : r.c with
    | none => trivial
    | some c => exact ⟨by have := (h2 c e).dep; omega, fun s hs => Cd.all_mono (fun p h => (PlW.ok (sp s hs) h).1) c (h2 c e).pl⟩
theorem RuV.cov {us : List Str} {w : Wd} {r : Ru} {fl : Fl} {U : List (List Str)} (h : RuV us w r) (wo : WdOk us w) (wf : Wf us fl) (cv : Cov us w U) : ∀ s ∈ spotsQ fl r.col, ∀ a ∈ r.as, ∀ f1 e, effF fl f1 (s.getD []) a = some e → preU e U := fun s hs a ha f1 e he q hq => by
  obtain ⟨b, h1, h2, h3, h4⟩ := h.ex
  obtain ⟨p, e1, hp⟩ := eff_p he
  have hp := hp us w b (h3 a ha)
  rw [e1] at hq
  cases p with
  | path p => exact cv.p p hp.2 q hq
  | ent p =>
    rw [h1, hp.1] at hs
    obtain ⟨k, hk, rfl⟩ := List.mem_map.mp (show s ∈ (below fl w.col).map _ from hs)
    obtain ⟨c, hc⟩ := mem_below.mp hk
    exact cv.e k ((wf.pa _ c hc).2.2.1 k (List.mem_append_right _ List.mem_cons_self)) p hp.2 q hq
theorem RuV.call {us : List Str} {w : Wd} {U : List (List Str)} (wo : WdOk us w) (ku : ∀ z ∈ us, KeyT z) (lu : U.length ≤ 1000) (cv : Cov us w U) : ∀ {rs : List Ru} {fl : Fl}, (∀ r ∈ rs, RuV us w r) → Wf us fl → InU U fl → CallOk us rs fl
  | [], _, _, _, _ => trivial
  | r :: rs, fl, h, wf, iu => by
    have hr := h r List.mem_cons_self
    have ok := hr.ok wo ku wf (by have := iu.len wf.nd; omega)
    refine ⟨ok, fun st e => ?_⟩
    obtain ⟨k1, k2, _⟩ := rule_fit ok iu (hr.cov wo wf cv) e
    exact RuV.call wo ku lu cv (fun x hx => h x (List.mem_cons_of_mem _ hx)) k1 k2
theorem call_fit {us : List Str} {w : Wd} {U : List (List Str)} (wo : WdOk us w) (ku : ∀ z ∈ us, KeyT z) (lu : U.length ≤ 1000) (cv : Cov us w U) : ∀ {rs : List Ru} {fl : Fl} {k : Nat} {es : List (Nat × Ef)} {st : Fl × List (Nat × Ef)}, (∀ r ∈ rs, RuV us w r) → Wf us fl → InU U fl → (∀ e ∈ es, EfOk e.2 ∧ ∀ k ∈ e.2.p, k ∈ us) → callF rs k fl es = .ok st → Wf us st.1 ∧ InU U st.1 ∧ st.2.length ≤ es.length + 16000 * rs.length ∧ (∀ e ∈ st.2, EfOk e.2 ∧ ∀ k ∈ e.2.p, k ∈ us)
  | [], _, _, _, _, _, wf, iu, he, h => by cases h; exact ⟨wf, iu, Nat.le_refl _, he⟩
  | r :: rs, fl, k, es, st, h, wf, iu, he, e => by
    have hr := h r List.mem_cons_self
    have ok := hr.ok wo ku wf (by have := iu.len wf.nd; omega)
    unfold callF at e
    cases e1 : ruR fl r with
    | error z => rw [e1] at e; cases e
    | ok s1 =>
      rw [e1] at e
      obtain ⟨k1, k2, k3, k4⟩ := rule_fit ok iu (hr.cov wo wf cv) e1
      obtain ⟨m1, m2, m3, m4⟩ := call_fit wo ku lu cv (fun x hx => h x (List.mem_cons_of_mem _ hx)) k1 k2 (fun x hx => (List.mem_append.mp hx).elim (he x) fun q => by
        obtain ⟨y, hy, rfl⟩ := List.mem_map.mp q
        exact k4 y hy) e
      refine ⟨m1, m2, ?_, m4⟩
      rw [List.length_append, List.length_map] at m3
      rw [List.length_cons, Nat.mul_add, Nat.mul_one]
      omega
/-- rules behind one another -/
def shiftE (n : Nat) (es : List (Nat × Ef)) : List (Nat × Ef) := es.map fun e => (e.1 + n, e.2)
theorem callF_acc : ∀ (rs : List Ru) (k : Nat) (fl : Fl) (es : List (Nat × Ef)), callF rs k fl es = match callF rs 0 fl [] with
    | .error x => .error (x.1 + k, x.2)
    | .ok st => .ok (st.1, es ++ shiftE k st.2)
  | [], k, fl, es => by simp [callF, shiftE]
  | r :: rs, k, fl, es => by
    unfold callF
    cases ruR fl r with
    | error z => simp
    | ok st =>
      simp only
      rw [callF_acc rs (k + 1), callF_acc rs (0 + 1)]
      cases callF rs 0 st.1 [] with
      | error x => simp only; congr 2; omega
      | ok s2 =>
        simp only
        congr 2
        simp only [shiftE, List.map_append, List.map_map, List.nil_append, List.append_assoc]
        congr 2
        · apply List.map_congr_left
          intro e _
          simp
        · apply List.map_congr_left
          intro e _
          simp only [Function.comp]
          congr 1
          omega
theorem callF_cons (r : Ru) (rs : List Ru) (k : Nat) (fl : Fl) (es : List (Nat × Ef)) : callF (r :: rs) k fl es = match ruR fl r with
    | .error z => .error (k, z)
    | .ok st => callF rs (k + 1) st.1 (es ++ st.2.map fun e => (k, e)) := rfl
theorem callF_app : ∀ (rs qs : List Ru) (k : Nat) (fl : Fl) (es : List (Nat × Ef)), callF (rs ++ qs) k fl es = match callF rs k fl es with
    | .error x => .error x
    | .ok st => callF qs (k + rs.length) st.1 st.2
  | [], qs, k, fl, es => rfl
  | r :: rs, qs, k, fl, es => by
    rw [List.cons_append, callF_cons, callF_cons]
    cases ruR fl r with
    | error z => rfl
    | ok st =>
      simp only
      rw [callF_app rs qs, List.length_cons, show k + 1 + rs.length = k + (rs.length + 1) by omega]
end My

namespace My
open PySem L2
/-! ### entries apart -/
theorem getF_mk {fl : Fl} {e : Ef} (q : List Str) : getF (mkF fl e) q = match e.c with
    | none => if q.take e.p.length = e.p then none else getF fl q
    | some c => if q = e.p then some c else if 1 ≤ q.length ∧ q.length < e.p.length ∧ q = e.p.take q.length then some .recd else if q.take e.p.length = e.p then none else getF fl q := by
  unfold mkF
  cases e.c with
  | none => exact getF_cut _ _ _
  | some c => exact getF_set _ _ _ _
/-- the target of an action is inside of the entry -/
def AcE : Ac → Prop
  | .set (.ent _) _ => True
  | .dflt (.ent _) _ => True
  | .copy (.ent _) _ => True
  | .rem (.ent _) => True
  | .rej _ => True
  | _ => False
theorem eff_ent {f0 fl : Fl} {s : List Str} {a : Ac} {e : Ef} (ha : AcE a) (h : effF f0 fl s a = some e) : ∃ p, e.p = s ++ p := by
  obtain ⟨p, h1, _⟩ := eff_p h
  cases a with
  | rej r => cases h
  | set q c =>
    cases q with
    | path q => exact ha.elim
    | ent q =>
      simp only [effF] at h
      split at h
      · cases h
      · cases h; exact ⟨q, rfl⟩
  | dflt q c =>
    cases q with
    | path q => exact ha.elim
    | ent q =>
      simp only [effF] at h
      split at h
      · cases h
      · cases h; exact ⟨q, rfl⟩
  | rem q =>
    cases q with
    | path q => exact ha.elim
    | ent q =>
      simp only [effF] at h
      split at h
      · cases h
      · cases h; exact ⟨q, rfl⟩
  | copy q r =>
    cases q with
    | path q => exact ha.elim
    | ent q =>
      simp only [effF] at h
      split at h
      · cases h
      · split at h
        · cases h
        · cases h
        · cases h; exact ⟨q, rfl⟩
/-- the effect looks at the target alone -/
theorem eff_same {f0 fl f : Fl} {s : List Str} {a : Ac} (ha : AcE a) (h : ∀ p, getF fl (s ++ p) = getF f (s ++ p)) : effF f0 fl s a = effF f0 f s a := by
  cases a with
  | rej r => rfl
  | set q c =>
    cases q with
    | path q => exact ha.elim
    | ent q => simp only [effF, plAt, h]; try rfl
  | dflt q c =>
    cases q with
    | path q => exact ha.elim
    | ent q => simp only [effF, plAt, h]
  | rem q =>
    cases q with
    | path q => exact ha.elim
    | ent q => simp only [effF, plAt, h]
  | copy q r =>
    cases q with
    | path q => exact ha.elim
    | ent q => simp only [effF, plAt, h]
structure InE (s : List Str) (fl f : Fl) : Prop where
  i : ∀ p, getF fl (s ++ p) = getF f (s ++ p)
  up : ∀ j, 1 ≤ j → j < s.length → getF fl (s.take j) = some .recd
theorem take_pre {s p : List Str} : (s ++ p).take s.length = s := by rw [List.take_left']; rfl
theorem mk_in {fl f : Fl} {s : List Str} {e : Ef} (h : ∀ p, getF fl (s ++ p) = getF f (s ++ p)) : ∀ p, getF (mkF fl e) (s ++ p) = getF (mkF f e) (s ++ p) := fun p => by
  rw [getF_mk, getF_mk, h p]
theorem mk_out {fl : Fl} {s : List Str} {e : Ef} {r : List Str} (hr : e.p = s ++ r) (up : ∀ j, 1 ≤ j → j < s.length → getF fl (s.take j) = some .recd) {q : List Str} (hq : q.take s.length ≠ s) : getF (mkF fl e) q = getF fl q := by
  rw [getF_mk, hr]
  have n1 : ¬ q.take (s ++ r).length = s ++ r := fun z => by
    apply hq
    have : (q.take (s ++ r).length).take s.length = (s ++ r).take s.length := by rw [z]
    rw [take_pre, List.take_take, List.length_append, Nat.min_eq_left (by omega)] at this
    exact this
  cases e.c with
  | none => simp only; rw [if_neg n1]
  | some c =>
    simp only
    rw [if_neg (fun z => n1 (by rw [z]; exact List.take_length)), if_neg n1]
    by_cases z : 1 ≤ q.length ∧ q.length < (s ++ r).length ∧ q = (s ++ r).take q.length
    · rw [if_pos z]
      have lq : q.length < s.length := by
        by_cases h : q.length < s.length
        · exact h
        · exact absurd (by rw [z.2.2, List.take_take, Nat.min_eq_left (by omega), take_pre]) hq
      have : q = s.take q.length := by
        rw [List.take_append_of_le_length (by omega)] at z
        exact z.2.2
      rw [this]
      exact (up _ z.1 lq).symm
    · rw [if_neg z]
theorem acts_apart {f0 : Fl} {s : List Str} : ∀ {as : List Ac} {fl f : Fl} {es E : List Ef}, (∀ a ∈ as, AcE a) → rejF as = none → InE s fl f → (∀ j, 1 ≤ j → j < s.length → getF f (s.take j) = some .recd) →
    ∃ fl' f' D, actsF f0 s as fl es = .ok (fl', es ++ D) ∧ actsF f0 s as f E = .ok (f', E ++ D) ∧ InE s fl' f' ∧ (∀ q, q.take s.length ≠ s → getF fl' q = getF fl q) ∧ (∀ q, q.take s.length ≠ s → getF f' q = getF f q)
  | [], fl, f, es, E, ha, hr, h, up => ⟨fl, f, [], by rw [List.append_nil]; rfl, by rw [List.append_nil]; rfl, h, fun _ _ => rfl, fun _ _ => rfl⟩
  | a :: as, fl, f, es, E, ha, hr, h, up => by
    have h1 := ha a List.mem_cons_self
    have ha' : ∀ a ∈ as, AcE a := fun x hx => ha x (List.mem_cons_of_mem _ hx)
    cases rj : isRej a with
    | true =>
      cases a with
      | rej r => cases hr
      | _ => cases rj
    | false =>
      rw [rejF_cons rj] at hr
      rw [actsF_cons rj, actsF_cons rj, eff_same h1 h.i]
      cases e1 : effF f0 f s a with
      | none =>
        obtain ⟨fl', f', D, k⟩ := acts_apart (f0 := f0) (es := es) (E := E) ha' hr h up
        exact ⟨fl', f', D, k⟩
      | some e =>
        obtain ⟨r, er⟩ := eff_ent h1 e1
        have sj : ∀ j, 1 ≤ j → j < s.length → (s.take j).take s.length ≠ s := fun j h1 h2 z => by
          have := congrArg List.length z
          rw [List.length_take, List.length_take] at this
          omega
        have up1 : ∀ j, 1 ≤ j → j < s.length → getF (mkF fl e) (s.take j) = some .recd := fun j h1 h2 => by rw [mk_out er h.up (sj j h1 h2)]; exact h.up j h1 h2
        have up2 : ∀ j, 1 ≤ j → j < s.length → getF (mkF f e) (s.take j) = some .recd := fun j h1 h2 => by rw [mk_out er up (sj j h1 h2)]; exact up j h1 h2
        obtain ⟨fl', f', D, k1, k2, k3, k4, k5⟩ := acts_apart (f0 := f0) (es := es ++ [e]) (E := E ++ [e]) ha' hr ⟨mk_in h.i, up1⟩ up2
        refine ⟨fl', f', e :: D, by show actsF f0 s as (mkF fl e) (es ++ [e]) = _; rw [k1, List.append_assoc]; rfl, by show actsF f0 s as (mkF f e) (E ++ [e]) = _; rw [k2, List.append_assoc]; rfl, k3, fun q hq => by rw [k4 q hq, mk_out er h.up hq], fun q hq => by rw [k5 q hq, mk_out er up hq]⟩
/-- what the actions leave for an entry alone -/
def aloneF (f0 : Fl) (as : List Ac) (s : List Str) : Fl × List Ef := match actsF f0 s as f0 [] with
  | .ok st => st
  | .error _ => (f0, [])
theorem subs_apart {f0 : Fl} {as : List Ac} (ha : ∀ a ∈ as, AcE a) (hr : rejF as = none) {n : Nat} : ∀ {L : List (List Str)} {fl : Fl} {es : List Ef}, (∀ s ∈ L, s.length = n) → L.Nodup → (∀ s ∈ L, ∀ p, getF fl (s ++ p) = getF f0 (s ++ p)) → (∀ s ∈ L, ∀ j, 1 ≤ j → j < n → getF fl (s.take j) = some .recd) → (∀ s ∈ L, ∀ j, 1 ≤ j → j < n → getF f0 (s.take j) = some .recd) →
    ∃ fl', subsF f0 as L fl es = .ok (fl', es ++ L.flatMap fun s => (aloneF f0 as s).2) ∧ (∀ q, q.take n ∉ L → getF fl' q = getF fl q) ∧ (∀ s ∈ L, ∀ p, getF fl' (s ++ p) = getF (aloneF f0 as s).1 (s ++ p))
  | [], fl, es, _, _, _, _, _ => ⟨fl, by rw [List.flatMap_nil, List.append_nil]; rfl, fun _ _ => rfl, fun _ h => by cases h⟩
  | s :: L, fl, es, hl, nd, hi, up, up0 => by
    have ls : s.length = n := hl s List.mem_cons_self
    rw [List.nodup_cons] at nd
    obtain ⟨fl1, f1, D, k1, k2, k3, k4, k5⟩ := acts_apart (f0 := f0) (es := es) (E := []) ha hr ⟨hi s List.mem_cons_self, fun j h1 h2 => up s List.mem_cons_self j h1 (by omega)⟩ (fun j h1 h2 => up0 s List.mem_cons_self j h1 (by omega))
    rw [List.nil_append] at k2
    have al : aloneF f0 as s = (f1, D) := by unfold aloneF; rw [k2]
    have ne : ∀ x ∈ L, x ≠ s := fun x hx z => nd.1 (by rw [← z]; exact hx)
    obtain ⟨fl', m1, m2, m3⟩ := subs_apart (es := es ++ D) ha hr (fun x hx => hl x (List.mem_cons_of_mem _ hx)) nd.2 (fl := fl1) (fun x hx p => by
      rw [k4 _ (fun z => ne x hx (by rw [ls, ← hl x (List.mem_cons_of_mem _ hx), take_pre] at z; exact z))]
      exact hi x (List.mem_cons_of_mem _ hx) p) (fun x hx j h1 h2 => by
      rw [k4 _ (fun z => by have := congrArg List.length z; rw [List.length_take, List.length_take] at this; omega)]
      exact up x (List.mem_cons_of_mem _ hx) j h1 h2) (fun x hx => up0 x (List.mem_cons_of_mem _ hx))
    refine ⟨fl', ?_, fun q hq => ?_, fun x hx p => ?_⟩
    · rw [subsF, k1]
      simp only
      rw [m1, List.flatMap_cons, al, List.append_assoc]
    · rw [m2 q (fun z => hq (List.mem_cons_of_mem _ z)), k4 q (fun z => hq (by rw [ls] at z; rw [z]; exact List.mem_cons_self))]
    · rcases List.mem_cons.mp hx with rfl | hx
      · rw [m2 _ (by rw [← ls, take_pre]; exact nd.1), k3.i p, al]
      · exact m3 x hx p
/-- the table that is left: what is inside of no entry, then what is left for each -/
def putsF (fl : Fl) (f : Fl) (s : List Str) (n : Nat) : Fl := (f.take n).foldl (fun g x => if x.1.take s.length = s then putF g x.1 x.2 else g) fl
theorem putsF_zero (fl f : Fl) (s : List Str) : putsF fl f s 0 = fl := rfl
theorem putsF_succ {fl f : Fl} {s : List Str} {i : Nat} {x : List Str × Sc} (h : f[i]? = some x) : putsF fl f s (i + 1) = if x.1.take s.length = s then putF (putsF fl f s i) x.1 x.2 else putsF fl f s i := by
  obtain ⟨hl, ee⟩ := List.getElem?_eq_some_iff.mp h
  unfold putsF
  rw [List.take_succ_eq_append_getElem hl, List.foldl_append, ee]
  rfl
theorem putsF_nd {fl : Fl} (h : (fl.map (·.1)).Nodup) (f : Fl) (s : List Str) : ∀ n, n ≤ f.length → ((putsF fl f s n).map (·.1)).Nodup
  | 0, _ => h
  | n + 1, hn => by
    rw [putsF_succ (List.getElem?_eq_getElem (by omega))]
    split
    · exact nd_put (putsF_nd h f s n (by omega)) _ _
    · exact putsF_nd h f s n (by omega)
theorem putsF_len (fl f : Fl) (s : List Str) : ∀ n, n ≤ f.length → (putsF fl f s n).length ≤ fl.length + n
  | 0, _ => Nat.le_refl _
  | n + 1, hn => by
    have ih := putsF_len fl f s n (by omega)
    rw [putsF_succ (List.getElem?_eq_getElem (by omega))]
    split
    · have := len_put (putsF fl f s n) (f[n]'(by omega)).1 (f[n]'(by omega)).2; omega
    · omega
theorem putsF_get {fl f : Fl} (nd : (f.map (·.1)).Nodup) {s : List Str} (no : ∀ q, q.take s.length = s → getF fl q = none) : ∀ n, n ≤ f.length → ∀ q, getF (putsF fl f s n) q = if q.take s.length = s then getF (f.take n) q else getF fl q
  | 0, _, q => by
    show getF fl q = _
    split
    · rw [no q (by assumption)]; rfl
    · rfl
  | n + 1, hn, q => by
    have ih := putsF_get nd no n (by omega) q
    have e : f[n]? = some (f[n]'(by omega)) := List.getElem?_eq_getElem (by omega)
    have ht : f.take (n + 1) = f.take n ++ [f[n]'(by omega)] := List.take_succ_eq_append_getElem (by omega)
    have gt : getF (f.take (n + 1)) q = if q = (f[n]'(by omega)).1 then some (f[n]'(by omega)).2 else getF (f.take n) q := by
      have := getF_put (f.take n) (f[n]'(by omega)).1 q (f[n]'(by omega)).2
      rw [putF_new _ (getF_take nd (by rw [e]))] at this
      rw [ht, ← this]
    rw [putsF_succ e, gt]
    by_cases z : (f[n]'(by omega)).1.take s.length = s
    · rw [if_pos z, getF_put, ih]
      by_cases z2 : q = (f[n]'(by omega)).1
      · rw [if_pos z2, if_pos (by rw [z2]; exact z), if_pos z2]
      · rw [if_neg z2, if_neg z2]
    · rw [if_neg z, ih]
      by_cases z2 : q = (f[n]'(by omega)).1
      · rw [if_neg (by rw [z2]; exact z), if_neg (by rw [z2]; exact z)]
      · rw [if_neg z2]
def outF (f0 : Fl) (L : List (List Str)) (n : Nat) : Fl := f0.filter fun x => !decide (x.1.take n ∈ L)
def leftF (f0 : Fl) (as : List Ac) (fl : Fl) : List (List Str) → Fl
  | [] => fl
  | s :: L => leftF f0 as (putsF fl (aloneF f0 as s).1 s (aloneF f0 as s).1.length) L
theorem getF_filter {fl : Fl} {f : List Str → Bool} {q : List Str} : getF (fl.filter fun x => f x.1) q = if f q = true then getF fl q else none := by
  induction fl with
  | nil => simp [getF]
  | cons x fl ih =>
    obtain ⟨p, c⟩ := x
    rw [List.filter_cons]
    by_cases z : f p = true
    · rw [if_pos z, getF_cons, getF_cons, ih]
      by_cases y : p = q
      · rw [if_pos y, if_pos y, if_pos (by rw [← y]; exact z)]
      · rw [if_neg y, if_neg y]
    · rw [if_neg z, getF_cons, ih]
      by_cases y : p = q
      · rw [if_neg (by rw [← y]; exact z), if_neg (by rw [← y]; exact z)]
      · rw [if_neg y]
theorem getF_out {f0 : Fl} {L : List (List Str)} {n : Nat} {q : List Str} : getF (outF f0 L n) q = if q.take n ∈ L then none else getF f0 q := by
  unfold outF
  rw [getF_filter (f := fun p => !decide (p.take n ∈ L))]
  by_cases z : q.take n ∈ L
  · rw [if_pos z, if_neg (by simp [z])]
  · rw [if_neg z, if_pos (by simp [z])]
theorem leftF_nd {f0 : Fl} {as : List Ac} : ∀ {L : List (List Str)} {fl : Fl}, (fl.map (·.1)).Nodup → ((leftF f0 as fl L).map (·.1)).Nodup
  | [], _, h => h
  | s :: L, fl, h => leftF_nd (L := L) (putsF_nd h _ _ _ (Nat.le_refl _))
theorem leftF_len {f0 : Fl} {as : List Ac} {m : Nat} : ∀ {L : List (List Str)} {fl : Fl}, (∀ s ∈ L, (aloneF f0 as s).1.length ≤ m) → (leftF f0 as fl L).length ≤ fl.length + m * L.length
  | [], _, _ => Nat.le_refl _
  | s :: L, fl, h => by
    have k := leftF_len (L := L) (fl := putsF fl (aloneF f0 as s).1 s (aloneF f0 as s).1.length) (fun x hx => h x (List.mem_cons_of_mem _ hx))
    have k2 := putsF_len fl (aloneF f0 as s).1 s _ (Nat.le_refl _)
    have k3 := h s List.mem_cons_self
    rw [List.length_cons, Nat.mul_add, Nat.mul_one]
    show (leftF f0 as _ L).length ≤ _
    omega
theorem leftF_get {f0 : Fl} {as : List Ac} {n : Nat} : ∀ {L : List (List Str)} {fl : Fl}, L.Nodup → (∀ s ∈ L, s.length = n) → (∀ s ∈ L, ((aloneF f0 as s).1.map (·.1)).Nodup) → (∀ s ∈ L, ∀ q, q.take n = s → getF fl q = none) → ∀ q, getF (leftF f0 as fl L) q = if q.take n ∈ L then getF (aloneF f0 as (q.take n)).1 q else getF fl q
  | [], fl, _, _, _, _, q => by rw [if_neg (by intro z; cases z)]; rfl
  | s :: L, fl, nd, hl, hn, no, q => by
    have ls : s.length = n := hl s List.mem_cons_self
    rw [List.nodup_cons] at nd
    have g : ∀ q, getF (putsF fl (aloneF f0 as s).1 s (aloneF f0 as s).1.length) q = if q.take n = s then getF (aloneF f0 as s).1 q else getF fl q := fun q => by
      have := putsF_get (hn s List.mem_cons_self) (fl := fl) (s := s) (fun q h => no s List.mem_cons_self q (by rw [← ls]; exact h)) _ (Nat.le_refl _) q
      rw [List.take_length, ls] at this
      exact this
    show getF (leftF f0 as _ L) q = _
    rw [leftF_get nd.2 (fun x hx => hl x (List.mem_cons_of_mem _ hx)) (fun x hx => hn x (List.mem_cons_of_mem _ hx)) (fun x hx q hq => by
      rw [g q, if_neg (fun z => nd.1 (by rw [← z, hq]; exact hx))]
      exact no x (List.mem_cons_of_mem _ hx) q hq) q, g q]
    by_cases z : q.take n = s
    · rw [if_neg (by rw [z]; exact nd.1), if_pos z, if_pos (by rw [z]; exact List.mem_cons_self), z]
    · rw [if_neg z]
      by_cases y : q.take n ∈ L
      · rw [if_pos y, if_pos (List.mem_cons_of_mem _ y)]
      · rw [if_neg y, if_neg (fun h => (List.mem_cons.mp h).elim z y)]
/-! ### rules of entries -/
structure RuE (us : List Str) (w : Wd) (r : Ru) : Prop where
  col : r.col = some w.col
  c : ∀ c, r.c = some c → CdV us true c
  a : ∀ a ∈ r.as, AcW us true a
  l : r.as.length ≤ 15
theorem RuE.ok {us : List Str} {w : Wd} {r : Ru} {fl : Fl} (h : RuE us w r) (wo : WdOk us w) (ku : ∀ z ∈ us, KeyT z) (wf : Wf us fl) (lf : fl.length ≤ 1000) : RuOk us fl r.col r.c r.as := by
  have sp : ∀ s ∈ spotsQ fl r.col, SpW us true s := by rw [h.col]; exact spots_W (b := true) wf wo
  refine ⟨wf, fun z hz => by have := (ku z hz).len; omega, lf, h.l, fun p e => ?_, ?_, fun s hs a ha => AcW.ok (sp s hs) (h.a a ha)⟩
  · rw [h.col] at e
    have := wo.c2
    cases e
    omega
  · cases e : r.c with
    | none => trivial
    | some c => exact ⟨by have := (h.c c e).dep; omega, fun s hs => Cd.all_mono (fun p h => (PlW.ok (sp s hs) h).1) c (h.c c e).pl⟩
theorem AcW.ent {us : List Str} {a : Ac} (h : AcW us true a) : AcE a := by
  cases a with
  | rej r => trivial
  | set p c => cases p with | path p => exact absurd h.1.1 (by decide) | ent p => trivial
  | dflt p c => cases p with | path p => exact absurd h.1.1 (by decide) | ent p => trivial
  | rem p => cases p with | path p => exact absurd h.1 (by decide) | ent p => trivial
  | copy p q => cases p with | path p => exact absurd h.1.1 (by decide) | ent p => trivial
theorem rej_none : ∀ {as : List Ac}, rejs as = [] → rejF as = none ∧ ∀ a ∈ as, isRej a = false
  | [], _ => ⟨rfl, fun _ h => by cases h⟩
  | a :: as, h => by
    have step : (rejs (a :: as)) = (match a with | .rej r => [r] | _ => []) ++ rejs as := by cases a <;> simp [rejs]
    rw [step] at h
    obtain ⟨h1, h2⟩ := List.append_eq_nil_iff.mp h
    obtain ⟨k1, k2⟩ := rej_none h2
    cases a with
    | rej r => cases h1
    | set p c => exact ⟨k1, fun x hx => (List.mem_cons.mp hx).elim (fun e => by rw [e]; rfl) (k2 x)⟩
    | dflt p c => exact ⟨k1, fun x hx => (List.mem_cons.mp hx).elim (fun e => by rw [e]; rfl) (k2 x)⟩
    | copy p c => exact ⟨k1, fun x hx => (List.mem_cons.mp hx).elim (fun e => by rw [e]; rfl) (k2 x)⟩
    | rem p => exact ⟨k1, fun x hx => (List.mem_cons.mp hx).elim (fun e => by rw [e]; rfl) (k2 x)⟩
section
variable {ws : List Str} {f0 : Fl}
theorem acts_wf {s : Option (List Str)} : ∀ {as : List Ac} {fl : Fl} {es : List Ef} {st : Fl × List Ef} (h0 : ∀ p c, getF f0 p = some c → scOk c) (ok : ∀ a ∈ as, AcOk ws s a) (wf : Wf ws fl), actsF f0 (s.getD []) as fl es = .ok st → Wf ws st.1 ∧ st.1.length ≤ fl.length + 6 * as.length ∧ st.2.length ≤ es.length + as.length
  | [], fl, es, st, h0, ok, wf, h => by cases h; exact ⟨wf, Nat.le_refl _, Nat.le_refl _⟩
  | a :: as, fl, es, st, h0, ok, wf, h => by
    have ok' : ∀ a ∈ as, AcOk ws s a := fun x hx => ok x (List.mem_cons_of_mem _ hx)
    rw [List.length_cons]
    cases hr : isRej a with
    | true =>
      cases a with
      | rej r => cases h
      | _ => cases hr
    | false =>
      rw [actsF_cons hr] at h
      cases e1 : effF f0 fl (s.getD []) a with
      | none =>
        rw [e1] at h
        obtain ⟨k1, k2, k3⟩ := acts_wf h0 ok' wf h
        exact ⟨k1, by omega, by omega⟩
      | some e =>
        rw [e1] at h
        have eo := eff_ok (us := ws) h0 (ok a List.mem_cons_self) e1
        have ml := mk_len fl eo.1.p5
        obtain ⟨k1, k2, k3⟩ := acts_wf (s := s) h0 ok' (wf.mkE eo.1 eo.2) h
        rw [List.length_append] at k3
        have : [e].length = 1 := rfl
        exact ⟨k1, by omega, by omega⟩
theorem subs_wf {as : List Ac} (h0 : ∀ p c, getF f0 p = some c → scOk c) : ∀ {L : List (Option (List Str))} {fl : Fl} {es : List Ef} {st : Fl × List Ef} (ok : ∀ s ∈ L, ∀ a ∈ as, AcOk ws s a) (wf : Wf ws fl), subsF f0 as (L.map fun s => s.getD []) fl es = .ok st → Wf ws st.1 ∧ st.1.length ≤ fl.length + 6 * as.length * L.length
  | [], fl, es, st, ok, wf, h => by cases h; exact ⟨wf, Nat.le_refl _⟩
  | s :: L, fl, es, st, ok, wf, h => by
    rw [List.map_cons, subsF] at h
    cases e1 : actsF f0 (s.getD []) as fl es with
    | error r => rw [e1] at h; cases h
    | ok s1 =>
      rw [e1] at h
      obtain ⟨k1, k2, _⟩ := acts_wf h0 (ok s List.mem_cons_self) wf e1
      obtain ⟨m1, m2⟩ := subs_wf h0 (fun x hx => ok x (List.mem_cons_of_mem _ hx)) k1 h
      refine ⟨m1, ?_⟩
      rw [List.length_cons, Nat.mul_add, Nat.mul_one]
      omega
end
/-- entries apart: what the rule leaves is what is left for each -/
theorem rule_apart {us : List Str} {w : Wd} {r : Ru} {fl : Fl} (h : RuE us w r) (wo : WdOk us w) (ku : ∀ z ∈ us, KeyT z) (wf : Wf us fl) (lf : fl.length ≤ 1000) {L : List (List Str)} (hL : L = (subQ fl r.col r.c).map fun s => s.getD []) (hr : L = [] ∨ rejs r.as = []) :
    ∃ fl', ruR fl r = .ok (fl', L.flatMap fun s => (aloneF fl r.as s).2) ∧ Wf us fl' ∧ (∀ q, getF fl' q = getF (leftF fl r.as (outF fl L (w.col.length + 1)) L) q) ∧ ((leftF fl r.as (outF fl L (w.col.length + 1)) L).map (·.1)).Nodup ∧ (leftF fl r.as (outF fl L (w.col.length + 1)) L).length ≤ fl.length + (fl.length + 90) * L.length ∧ (∀ s ∈ L, Wf us (aloneF fl r.as s).1 ∧ (aloneF fl r.as s).1.length ≤ fl.length + 90 ∧ (aloneF fl r.as s).2.length ≤ 15) := by
  have ok := h.ok wo ku wf lf
  have h0 : ∀ p c, getF fl p = some c → scOk c := fun p c e => (wf.pa p c e).2.2.2
  have ms : ∀ s ∈ L, ∃ k ∈ below fl w.col, s = w.col ++ [k] ∧ some s ∈ spotsQ fl r.col := fun s hs => by
    rw [hL] at hs
    obtain ⟨s0, hs0, rfl⟩ := List.mem_map.mp hs
    have hs1 := subQ_sub hs0
    have hs2 := hs1
    rw [h.col] at hs2
    obtain ⟨k, hk, rfl⟩ := List.mem_map.mp (show s0 ∈ (below fl w.col).map _ from hs2)
    exact ⟨k, hk, rfl, hs1⟩
  have hl : ∀ s ∈ L, s.length = w.col.length + 1 := fun s hs => by
    obtain ⟨k, _, rfl, _⟩ := ms s hs
    rw [List.length_append]
    rfl
  have nd : L.Nodup := by
    have n1 : ((below fl w.col).map fun k => w.col ++ [k]).Nodup := by
      refine List.Pairwise.map _ (fun a b hab z => ?_) (below_sorted wf.nd w.col)
      have := List.append_cancel_left z
      cases this
      exact LtS.irrefl _ hab
    have e : L = ((below fl w.col).map fun k => w.col ++ [k]).filter fun s => cdQ fl (some s) r.c := by
      rw [hL]
      unfold subQ
      rw [h.col]
      show List.map _ (List.filter _ ((below fl w.col).map fun k => some (w.col ++ [k]))) = _
      rw [List.filter_map, List.filter_map, List.map_map]
      rfl
    rw [e]
    exact n1.filter _
  have up : ∀ s ∈ L, ∀ j, 1 ≤ j → j < w.col.length + 1 → getF fl (s.take j) = some .recd := fun s hs j h1 h2 => by
    obtain ⟨k, hk, e, _⟩ := ms s hs
    obtain ⟨c, hc⟩ := mem_below.mp hk
    rw [← e] at hc
    exact wf.up s c hc j h1 (by rw [hl s hs]; exact h2)
  have alw : ∀ s ∈ L, Wf us (aloneF fl r.as s).1 ∧ (aloneF fl r.as s).1.length ≤ fl.length + 90 ∧ (aloneF fl r.as s).2.length ≤ 15 := fun s hs => by
    obtain ⟨_, _, _, hsp⟩ := ms s hs
    have la := h.l
    unfold aloneF
    cases e : actsF fl s r.as fl [] with
    | error z => exact ⟨wf, by show fl.length ≤ _; omega, Nat.zero_le _⟩
    | ok st =>
      obtain ⟨k1, k2, k3⟩ := acts_wf (s := some s) h0 (ok.ac _ hsp) wf e
      rw [List.length_nil] at k3
      exact ⟨k1, by show st.1.length ≤ _; omega, by show st.2.length ≤ _; omega⟩
  have ndo : ((outF fl L (w.col.length + 1)).map (·.1)).Nodup := wf.nd.sublist (List.Sublist.map _ List.filter_sublist)
  have lg := leftF_get (f0 := fl) (as := r.as) (n := w.col.length + 1) (L := L) (fl := outF fl L (w.col.length + 1)) nd hl (fun s hs => (alw s hs).1.nd) (fun s hs q hq => by rw [getF_out, hq, if_pos hs])
  have ll := leftF_len (f0 := fl) (as := r.as) (m := fl.length + 90) (L := L) (fl := outF fl L (w.col.length + 1)) (fun s hs => (alw s hs).2.1)
  have lo : (outF fl L (w.col.length + 1)).length ≤ fl.length := List.length_filter_le _ _
  have fin : ∀ {fl' : Fl}, subsF fl r.as L fl [] = .ok (fl', L.flatMap fun s => (aloneF fl r.as s).2) → (∀ q, q.take (w.col.length + 1) ∉ L → getF fl' q = getF fl q) → (∀ s ∈ L, ∀ p, getF fl' (s ++ p) = getF (aloneF fl r.as s).1 (s ++ p)) → _ := fun {fl'} e h1 h2 => by
    have er : ruR fl r = .ok (fl', L.flatMap fun s => (aloneF fl r.as s).2) := by show subsF fl r.as _ fl [] = _; rw [← hL]; exact e
    have wf' : Wf us fl' := (subs_wf h0 (L := subQ fl r.col r.c) (fun s hs => ok.ac s (subQ_sub hs)) wf (by rw [← hL]; exact e)).1
    refine (⟨fl', er, wf', fun q => ?_, leftF_nd ndo, by omega, alw⟩ : ∃ fl', ruR fl r = .ok (fl', L.flatMap fun s => (aloneF fl r.as s).2) ∧ Wf us fl' ∧ (∀ q, getF fl' q = getF (leftF fl r.as (outF fl L (w.col.length + 1)) L) q) ∧ ((leftF fl r.as (outF fl L (w.col.length + 1)) L).map (·.1)).Nodup ∧ (leftF fl r.as (outF fl L (w.col.length + 1)) L).length ≤ fl.length + (fl.length + 90) * L.length ∧ (∀ s ∈ L, Wf us (aloneF fl r.as s).1 ∧ (aloneF fl r.as s).1.length ≤ fl.length + 90 ∧ (aloneF fl r.as s).2.length ≤ 15))
    rw [lg q]
    by_cases z : q.take (w.col.length + 1) ∈ L
    · rw [if_pos z]
      have := h2 _ z (q.drop (w.col.length + 1))
      rw [List.take_append_drop] at this
      exact this
    · rw [if_neg z, getF_out, if_neg z]
      exact h1 q z
  rcases hr with e | hr
  · subst e
    exact fin (fl' := fl) rfl (fun _ _ => rfl) (fun _ h => by cases h)
  · obtain ⟨fl', k1, k2, k3⟩ := subs_apart (f0 := fl) (as := r.as) (fun a ha => (h.a a ha).ent) (rej_none hr).1 (n := w.col.length + 1) (L := L) (fl := fl) (es := []) hl nd (fun _ _ _ => rfl) up up
    exact fin k1 k2 k3
/-! ### a path among paths -/
theorem room65 {k : Nat} {A : Around} (r : Room k A) : A.units + 65 < cLine := by have := r.un; omega
theorem kop_notInD {X : Cx} {K : PySem.W.Frag} (h : X.K = K) (hu : X.A.units + 65 < cLine) : OpR X (compareOp .NotIn) (rNotInD K) := h ▸ op_notInD hu
theorem kop_inD {X : Cx} {K : PySem.W.Frag} (h : X.K = K) (hu : X.A.units + 65 < cLine) : OpR X (compareOp .In) (rInD K) := h ▸ op_inD hu
theorem any_path (L : List (List Str)) (p : List Str) : ((Dt.pys (L.map ptD)).any fun z => PyData.eqv z (ptD p).py) = decide (p ∈ L) := by
  rw [pys_map]
  induction L with
  | nil => rfl
  | cons q L ih =>
    rw [List.map_cons, List.map_cons, List.any_cons, ih]
    have e : PyData.eqv (ptD q).py (ptD p).py = decide (q = p) := by
      show PyData.eqv (.tuple (Dt.pys (q.map .str))) (.tuple (Dt.pys (p.map .str))) = _
      rw [pys_map, pys_map, List.map_map, List.map_map]
      exact eqvs_strs q p
    rw [e]
    by_cases z : q = p
    · simp [z]
    · simp [z, Ne.symm z]
theorem notIn_paths {K : PySem.W.Frag} {H : Hp} {a b : Addr} {p : List Str} {L : List (List Str)} {vs : List V} {Q : VK} (ha : SqT K H a (p.map V.str)) (hb : SqL K H b vs) (hv : DTs K H vs (L.map ptD)) (hp : ∀ z ∈ p, SgT z) (hl : ∀ q ∈ L, ∀ z ∈ q, SgT z) (q : Q (.bl (!decide (p ∈ L))) H) : rNotInD K (.ref a) (.ref b) H Q := by
  have lp : ∀ q : List Str, (∀ z ∈ q, SgT z) → (ptD q).lay = true := fun q h => by
    show Dt.lays (q.map .str) = true
    exact lays_of fun d2 hd2 => by
      obtain ⟨z, hz, rfl⟩ := List.mem_map.mp hd2
      exact strOk_sg (h z hz)
  refine ⟨(ptD p).py, Dt.pys (L.map ptD), DT.dp _ _ (DT.path ha), .lst hb (DTs.dps _ _ hv), shaped_dt (lp p hp) (by have := deep_path p; omega), shaped_dts (lays_of fun d hd => ?_) (deeps_le fun d hd => ?_), ?_⟩
  · obtain ⟨q, hq, rfl⟩ := List.mem_map.mp hd
    exact lp q (hl q hq)
  · obtain ⟨q, _, rfl⟩ := List.mem_map.mp hd
    have := deep_path q
    omega
  · rw [any_path]
    exact q
theorem _root_.L2.Same.pths {H H' : Hp} {vs : List V} {ps : List (List Str)} (s : Same H H') (h : Al2 (PthV H) vs ps) : Al2 (PthV H') vs ps := h.mono fun _ _ h => h.mono fun _ _ e => s _ _ e
theorem pths_dts {K : PySem.W.Frag} {H : Hp} {vs : List V} {ps : List (List Str)} (h : Al2 (PthV H) vs ps) : DTs K H vs (ps.map ptD) := by
  induction h with
  | nil => exact .nil
  | cons h1 _ ih => obtain ⟨b, rfl, hb⟩ := h1; exact .cons (DT.path (SqT.of hb)) ih
end My

namespace My
open PySem L2
/-! ### effects may be compared -/
section
variable {R : Ef → Prop}
theorem acts_all {f0 : Fl} {s : List Str} : ∀ {as : List Ac} {fl : Fl} {es : List Ef} {st : Fl × List Ef}, (∀ a ∈ as, ∀ f e, (∀ p c, getF f p = some c → scOk c) → effF f0 f s a = some e → EfOk e ∧ (∀ p c, getF (mkF f e) p = some c → scOk c) ∧ R e) → (∀ p c, getF fl p = some c → scOk c) → (∀ e ∈ es, R e) → actsF f0 s as fl es = .ok st → (∀ p c, getF st.1 p = some c → scOk c) ∧ ∀ e ∈ st.2, R e
  | [], fl, es, st, _, w, he, h => by cases h; exact ⟨w, he⟩
  | a :: as, fl, es, st, ha, w, he, h => by
    have ha' : ∀ x ∈ as, _ := fun x hx => ha x (List.mem_cons_of_mem _ hx)
    cases hr : isRej a with
    | true =>
      cases a with
      | rej r => cases h
      | _ => cases hr
    | false =>
      rw [actsF_cons hr] at h
      cases e1 : effF f0 fl s a with
      | none => rw [e1] at h; exact acts_all ha' w he h
      | some e =>
        rw [e1] at h
        obtain ⟨k1, k2, k3⟩ := ha a List.mem_cons_self fl e w e1
        exact acts_all ha' k2 (fun x hx => (List.mem_append.mp hx).elim (he x) fun q => by rw [List.mem_singleton.mp q]; exact k3) (show actsF f0 s as (mkF fl e) (es ++ [e]) = _ from h)
theorem subs_all {f0 : Fl} {as : List Ac} : ∀ {L : List (List Str)} {fl : Fl} {es : List Ef} {st : Fl × List Ef}, (∀ s ∈ L, ∀ a ∈ as, ∀ f e, (∀ p c, getF f p = some c → scOk c) → effF f0 f s a = some e → EfOk e ∧ (∀ p c, getF (mkF f e) p = some c → scOk c) ∧ R e) → (∀ p c, getF fl p = some c → scOk c) → (∀ e ∈ es, R e) → subsF f0 as L fl es = .ok st → ∀ e ∈ st.2, R e
  | [], fl, es, st, _, w, he, h => by cases h; exact he
  | s :: L, fl, es, st, ha, w, he, h => by
    rw [subsF] at h
    cases e1 : actsF f0 s as fl es with
    | error r => rw [e1] at h; cases h
    | ok s1 =>
      rw [e1] at h
      obtain ⟨k1, k2⟩ := acts_all (ha s List.mem_cons_self) w he e1
      exact subs_all (fun x hx => ha x (List.mem_cons_of_mem _ hx)) k1 k2 (show subsF f0 as L s1.1 s1.2 = _ from h)
end
/-- an effect may be compared -/
structure EfL (e : Ef) : Prop where
  p : e.p.length ≤ 5
  q : ∀ q, e.q = some q → q.length ≤ 1000
theorem mk_sc {fl : Fl} {e : Ef} (w : ∀ p c, getF fl p = some c → scOk c) (ok : EfOk e) : ∀ p c, getF (mkF fl e) p = some c → scOk c := fun p c h => by
  unfold mkF at h
  rcases ok.k with ⟨h1, _⟩ | ⟨d, h1, _, h3, _⟩
  · rw [h1] at h
    simp only at h
    rw [getF_cut] at h
    split at h
    · cases h
    · exact w p c h
  · rw [h1] at h
    simp only at h
    rw [getF_set] at h
    split at h
    · cases h; exact h3
    · split at h
      · cases h; trivial
      · split at h
        · cases h
        · exact w p c h
theorem rule_efl {ws : List Str} {fl : Fl} {r : Ru} {st : Fl × List Ef} (ok : RuOk ws fl r.col r.c r.as) (h : ruR fl r = .ok st) : ∀ e ∈ st.2, EfL e := by
  have w0 : ∀ p c, getF fl p = some c → scOk c := fun p c e => (ok.wf.pa p c e).2.2.2
  refine subs_all (R := EfL) (f0 := fl) (fun s hs a ha f e w he => ?_) w0 (fun _ h => by cases h) h
  obtain ⟨s0, hs0, rfl⟩ := List.mem_map.mp hs
  have aok := ok.ac s0 (subQ_sub hs0) a ha
  have eo := (eff_ok (us := ws) w0 aok he).1
  refine ⟨eo, mk_sc w eo, eo.p5, fun q hq => ?_⟩
  cases a with
  | rej r => cases he
  | set p c =>
    simp only [effF] at he
    split at he
    · cases he
    · cases he; cases hq
  | dflt p c =>
    simp only [effF] at he
    split at he
    · cases he
    · cases he; cases hq
  | rem p =>
    simp only [effF] at he
    split at he
    · cases he
    · cases he; cases hq
  | copy p p2 =>
    have k := aok.2
    simp only [effF] at he
    split at he
    · cases he
    · split at he
      · cases he
      · cases he
      · cases he
        cases hq
        cases p2 with
        | path p2 => exact k.2
        | ent p2 => obtain ⟨z, rfl, _, k3⟩ := k; show (z ++ p2).length ≤ 1000; rw [List.length_append]; exact k3
theorem efD_ok {e : Ef} (h : EfL e) : (efD e).deep ≤ 4 ∧ (efD e).fits = true := by
  have h1 := deep_path e.p
  have h2 := deep_scO e.c
  have h3 : (ptO e.q).deep ≤ 2 := by
    cases e.q with
    | none => show 1 ≤ 2; decide
    | some q => exact deep_path q
  have f1 : (ptD e.p).fits = true := fits_strs (by have := h.p; omega)
  have f2 : (scO e.c).fits = true := by
    cases e.c with
    | none => rfl
    | some c => cases c <;> rfl
  have f3 : (ptO e.q).fits = true := by
    cases hq : e.q with
    | none => rfl
    | some q => exact fits_strs (by have := h.q q hq; omega)
  refine ⟨?_, ?_⟩
  · show max 1 (max (ptD e.p).deep (max (scO e.c).deep (max (ptO e.q).deep 0))) + 1 ≤ 4
    omega
  · show (decide (4 ≤ 1000000) && (true && ((ptD e.p).fits && ((scO e.c).fits && ((ptO e.q).fits && true))))) = true
    rw [f1, f2, f3]
    rfl
end My

namespace My
open PySem L2
def topS (i : Nat) : Stmt := PySem.Challenge.pw_hookcheck_k29_what_rules_see.main.body.getD i (.Pass ⟨0, 0, 0, 0⟩)
abbrev s_text_rank : Stmt := topS 1
abbrev s_content_of : Stmt := topS 4
abbrev s_field : Stmt := topS 5
abbrev s_value_at : Stmt := topS 6
abbrev s_held : Stmt := topS 7
abbrev s_fields_of : Stmt := topS 8
abbrev s_keys_below : Stmt := topS 9
abbrev s_with_field : Stmt := topS 12
abbrev s_with_scalar : Stmt := topS 10
abbrev s_without : Stmt := topS 11
abbrev s_entries : Stmt := topS 14
abbrev s_leads_to : Stmt := topS 15
abbrev s_satisfies : Stmt := topS 17
abbrev s_holds : Stmt := topS 16
abbrev s_subjects : Stmt := topS 20
abbrev s_effect_of : Stmt := topS 21
abbrev s_with_effect : Stmt := topS 22
abbrev s_apply_rule : Stmt := topS 19
abbrev s_law_tape : Stmt := topS 24
abbrev s_law_draw : Stmt := topS 25
abbrev s_law_pick : Stmt := topS 26
abbrev s_law_same : Stmt := topS 27
abbrev s_law_reserved : Stmt := topS 28
abbrev s_law_fresh : Stmt := topS 29
abbrev s_law_key : Stmt := topS 30
abbrev s_law_keys : Stmt := topS 31
abbrev s_law_path : Stmt := topS 32
abbrev s_law_tight_text : Stmt := topS 33
abbrev s_law_scalar : Stmt := topS 34
abbrev s_law_cut : Stmt := topS 35
abbrev s_law_put : Stmt := topS 36
abbrev s_law_rank : Stmt := topS 37
abbrev s_law_ascending : Stmt := topS 38
abbrev s_law_below : Stmt := topS 39
abbrev s_law_document : Stmt := topS 40
abbrev s_law_literal : Stmt := topS 41
abbrev s_law_place_path : Stmt := topS 42
abbrev s_law_world : Stmt := topS 43
abbrev s_law_some_place : Stmt := topS 44
abbrev s_law_condition : Stmt := topS 45
abbrev s_law_action : Stmt := topS 46
abbrev s_law_size : Stmt := topS 47
abbrev s_law_rule_size : Stmt := topS 48
abbrev s_law_rule : Stmt := topS 49
abbrev s_law_at : Stmt := topS 50
abbrev s_law_spots : Stmt := topS 51
abbrev s_law_near_flat : Stmt := topS 52
abbrev s_law_uses_of : Stmt := topS 53
abbrev s_law_uses : Stmt := topS 54
abbrev s_law_seen : Stmt := topS 55
abbrev s_law_is_unseen : Stmt := topS 56
abbrev s_law_changed : Stmt := topS 57
abbrev s_law : Stmt := topS 58
structure Top (K : PySem.W.Frag) (w : World) (mg : Str → Option Value) : Prop where
  z_abs : mg "abs" = none
  z_bool : mg "bool" = none
  z_int : mg "int" = none
  z_isinstance : mg "isinstance" = none
  z_len : mg "len" = none
  z_list : mg "list" = none
  z_max : mg "max" = none
  z_range : mg "range" = none
  z_sorted : mg "sorted" = none
  z_str : mg "str" = none
  z_tuple : mg "tuple" = none
  c_RECORD : ∃ a, mg "RECORD" = some (.ref a) ∧ ∀ H, SqT K H a (([Str.ofString "record"] : List Str).map V.str)
section
variable {P : Program} {w : World} {K : PySem.W.Frag} {mg : Str → Option Value} {base : Heap}
/-! ### text_rank -/
theorem sc_text_rank : FnScope ["text"] ["text"] (defScope s_text_rank) := ⟨rfl, rfl, rfl, by decide +kernel, rfl, by decide +kernel, by decide +kernel⟩

def sp_text_rank (K : PySem.W.Frag) : Sp := fun vs H Q _ => ∃ (z : Str), vs = [.str z] ∧ z.length ≤ 100000 ∧ ∀ v H', Same H H' → DT K H' v (.tup (rkT z)) → Q v H'

theorem ok_text_rank {f : Addr} {fd : FuncData} (F : Fun K "text_rank" "text_rank" s_text_rank f fd) (T : Top K w mg) : FnOk P w K mg base CX0 1 f fd ["text"] (sp_text_rank K) := by
  have sc := sc_text_rank
  refine F.ok sc (fun vs H Q E h => ?_) (fun cdv A outer s H vs Q E hr h => ?_)
  · obtain ⟨z, rfl, _⟩ := h
    rfl
  obtain ⟨z, rfl, hz, q⟩ := h
  refine ⟨_, (pss_one (ps_ret (pe_tup (pa_cons (pe_callB call_len_str (by rfl) T.z_len (by decide +kernel) (pa_cons (pv 0) pa_nil)) (pa_cons (pv 0) pa_nil))))), ?_⟩

  refine ⟨_, rfl, z, rfl, Nat.le_trans hz (by decide), _, rfl, (by show 2 ≤ sizeLine; decide), fun p hp => ?_⟩
  exact q _ _ (same_new hp _) (.tup (SqT.of upd_same) (.cons (.int _) (.cons (.str _) .nil)))
/-! ### content_of -/
theorem sc_content_of : FnScope ["value"] ["value"] (defScope s_content_of) := ⟨rfl, rfl, rfl, by decide +kernel, rfl, by decide +kernel, by decide +kernel⟩

def sp_content_of (K : PySem.W.Frag) : Sp := fun vs H Q _ => ∃ (v : V) (c : Sc) (ds : List Dt), vs = [v] ∧ ((c = .recd ∧ DT K H v (.tup [.str (Str.ofString "record"), .tup ds])) ∨ (c ≠ .recd ∧ DT K H v (.tup (scD c)))) ∧ ∀ u H', Same H H' → DT K H' u (.tup (scD c)) → Q u H'

theorem ok_content_of {f : Addr} {fd : FuncData} (F : Fun K "content_of" "content_of" s_content_of f fd) (T : Top K w mg) : FnOk P w K mg base CX0 1 f fd ["value"] (sp_content_of K) := by
  have sc := sc_content_of
  obtain ⟨ad_RECORD, c_RECORD, k_RECORD⟩ := T.c_RECORD
  refine F.ok sc (fun vs H Q E h => ?_) (fun cdv A outer s H vs Q E hr h => ?_)
  · obtain ⟨v, c, ds, rfl, _⟩ := h
    rfl
  obtain ⟨v, c, ds, rfl, hv, q⟩ := h
  refine ⟨_, (pss_one (ps_ret (pe_ifExp (pt_cmpR op_eq (pe_ix (kx_seq (K := K) rfl) (pv 0) pe_int (fun _ _ => rfl)) pe_str (nomark _)) (pe_glob (v := .ref ad_RECORD) (by rfl) c_RECORD rfl) (pv 0)))), ?_⟩

  rcases hv with ⟨rfl, hv⟩ | ⟨nc, hv⟩
  · obtain ⟨a, xs, rfl, h1, _⟩ := dt_head hv
    refine ⟨_, rfl, .inr (.inl ⟨a, _, 0, _, rfl, rfl, h1, atI_nat (j := 0) rfl, ?_⟩)⟩
    refine ⟨rfl, _, rfl, ?_⟩
    rw [decide_eq_true rfl]
    exact iteT (q _ H (Same.refl H) (.tup (k_RECORD H) (.cons (.str _) .nil)))
  · obtain ⟨z, ds', e, nz⟩ := sc_word c nc
    rw [e] at hv
    have hv' := hv
    obtain ⟨a, xs, rfl, h1, _⟩ := dt_head hv
    refine ⟨_, rfl, .inr (.inl ⟨a, _, 0, _, rfl, rfl, h1, atI_nat (j := 0) rfl, ?_⟩)⟩
    refine ⟨rfl, _, rfl, ?_⟩
    rw [decide_eq_false (fun y => nz (by injection y))]
    exact iteF ⟨_, rfl, q _ H (Same.refl H) (by rw [e]; exact hv')⟩
/-! ### field -/
theorem sc_field : FnScope ["fields", "key", "other", "value"] ["fields", "key"] (defScope s_field) := ⟨rfl, rfl, rfl, by decide +kernel, rfl, by decide +kernel, by decide +kernel⟩

def sp_field (K : PySem.W.Frag) : Sp := fun vs H Q _ => ∃ (x : V) (k : Str) (ks : List Str) (f : Str → Dt), vs = [x, .str k] ∧ DT K H x (.tup (ks.map fun j => .tup [.str j, f j])) ∧ ∀ u H', Same H H' → DT K H' u (if k ∈ ks then f k else .non) → Q u H'

theorem ok_field {f : Addr} {fd : FuncData} (F : Fun K "field" "field" s_field f fd) (T : Top K w mg) : FnOk P w K mg base CX0 1 f fd ["fields", "key"] (sp_field K) := by
  have sc := sc_field
  refine F.ok sc (fun vs H Q E h => ?_) (fun cdv A outer s H vs Q E hr h => ?_)
  · obtain ⟨x, k, ks, f', rfl, _⟩ := h
    rfl
  obtain ⟨x, k, ks, f', rfl, hx, q⟩ := h
  refine ⟨_, (pss_cons (ps_for PassesOwn.never rfl (kpi_tup (K := K) rfl (pv 0)) (pg_tup rfl (pgs_cons (pg_name (i := 2) sc.nd rfl (Or.inl rfl)) (pgs_cons (pg_name (i := 3) sc.nd rfl (Or.inl rfl)) pgs_nil)))
      (pss_one (ps_if (pt_cmpR op_eq (pv 2) (pv 1) (nomark _))
        (pss_one (ps_ret (pv 3)))
        pss_nil)))
    (pss_one (ps_ret pe_non))), ?_⟩

  obtain ⟨a, xs, rfl, h1, h2⟩ := dt_tup hx
  have lx := h2.length
  rw [List.length_map] at lx
  refine ⟨_, rfl, a, rfl, ⟨_, h1⟩, ?_⟩
  refine for_it (walk_tup (K := K) (a := a) (xs := xs)) (fun i σ H' => Same H H' ∧ k ∉ ks.take i ∧ ∃ v2 v3, σ = [some (.ref a), some (.str k), v2, v3]) ⟨Same.refl H, by simp, _, _, rfl⟩ (fun i σ H' _ h => h.1.seqT h1) ?_ ?_
  · rintro i y σ H1 H2 hi ⟨s1, nk, v2, v3, rfl⟩ ⟨rfl, hy⟩
    obtain ⟨d, ed, dy⟩ := h2.get' hy
    rw [List.getElem?_map] at ed
    obtain ⟨j, ej, rfl⟩ := Option.map_eq_some_iff.mp ed
    obtain ⟨b, ys, rfl, h3, h4⟩ := dt_head (dy.same s1)
    cases h4 with
    | @cons w _ _ _ h5 h6 =>
    cases h6
    obtain ⟨hi2, ek⟩ := List.getElem?_eq_some_iff.mp ej
    refine ⟨b, _, rfl, h3, rfl, _, _, rfl, _, _, rfl, rfl, _, rfl, _, rfl, rfl, _, rfl, ?_⟩
    by_cases z : j = k
    · subst z
      rw [decide_eq_true rfl]
      refine iteT ⟨_, rfl, q _ H2 s1 ?_⟩
      rw [if_pos (List.mem_of_getElem? ej)]
      exact h5
    · rw [decide_eq_false (fun y => z (by injection y))]
      refine iteF ⟨s1, ?_, _, _, rfl⟩
      rw [List.take_succ_eq_append_getElem hi2, ek]
      intro h
      rcases List.mem_append.mp h with h | h
      · exact nk h
      · exact z (List.mem_singleton.mp h).symm
  · rintro σ H1 ⟨s1, nk, v2, v3, rfl⟩
    rw [lx, List.take_length] at nk
    have e : (if k ∈ ks then f' k else .non) = Dt.non := if_neg nk
    exact q _ H1 s1 (by rw [e]; exact .non)
/-! ### value_at -/
theorem sc_value_at : FnScope ["document", "path", "value", "key"] ["document", "path"] (defScope s_value_at) := ⟨rfl, rfl, rfl, by decide +kernel, rfl, by decide +kernel, by decide +kernel⟩

def sp_value_at (K : PySem.W.Frag) : Sp := fun vs H Q _ => ∃ (x : V) (a : Addr) (fl : Fl) (p : List Str), vs = [x, .ref a] ∧ DT K H x (.tup (doc fl [])) ∧ Up fl ∧ SqT K H a (p.map V.str) ∧ ∀ u H', Same H H' → DT K H' u (atD fl p) → Q u H'

theorem ok_value_at {f : Addr} {fd : FuncData} (F : Fun K "value_at" "value_at" s_value_at f fd) (T : Top K w mg) {a_field : Addr} {d_field : FuncData} (C_field : Cal P w K mg base "field" 1 ["fields", "key"] sp_field a_field d_field) : FnOk P w K mg base CX0 2 f fd ["document", "path"] (sp_value_at K) := by
  have sc := sc_value_at
  refine F.ok sc (fun vs H Q E h => ?_) (fun cdv A outer s H vs Q E hr h => ?_)
  · obtain ⟨x, a, fl, p, rfl, _⟩ := h
    rfl
  obtain ⟨x, a, fl, p, rfl, hx, up, hS, q⟩ := h
  refine ⟨_, (pss_cons (ps_set (i := 2) sc.nd rfl (Or.inl rfl) (pe_tup (pa_cons pe_str (pa_cons (pv 0) pa_nil))))
    (pss_cons (ps_for PassesOwn.never rfl (kpi_tup (K := K) rfl (pv 1)) (pg_name (i := 3) sc.nd rfl (Or.inl rfl))
      (pss_cons (ps_if (PW.pt (pw_or (pt_cmpR op_isN (pv 2) pe_non (nomark _)) (pw_or1 (pt_cmpR op_ne (pe_ix (kx_tup (K := K) rfl) (pv 2) pe_int (fun _ _ => rfl)) pe_str (nomark _)))))
        (pss_one (ps_ret pe_non))
        pss_nil)
      (pss_one (ps_set (i := 2) sc.nd rfl (Or.inl rfl) (pe_call C_field.ok (hr.mono (by omega)) (by rfl) C_field.m C_field.kp C_field.b .nil pass0 (pa_cons (pe_ix (kx_tup (K := K) rfl) (pv 2) pe_int (fun _ _ => rfl)) (pa_cons (pv 3) pa_nil)))))))
    (pss_one (ps_ret (pv 2))))), ?_⟩

  refine ⟨_, rfl, (by show 2 ≤ sizeLine; decide), fun o ho => ?_⟩
  have s0 := same_new ho (.tup [V.str (Str.ofString "record"), x])
  have d0 : DT K (upd H o (.tup [V.str (Str.ofString "record"), x])) (.ref o) (atD fl (p.take 0)) := .tup (SqT.of upd_same) (.cons (.str _) (.cons (hx.same s0) .nil))
  generalize upd H o (.tup [V.str (Str.ofString "record"), x]) = H0 at *
  have lp : (p.map V.str).length = p.length := List.length_map _
  refine ⟨_, rfl, a, rfl, ⟨_, s0.seqT hS⟩, ?_⟩
  refine for_it (walk_tup (K := K) (a := a) (xs := p.map V.str)) (fun i σ H' => Same H H' ∧ ∃ u v3, DT K H' u (atD fl (p.take i)) ∧ σ = [some x, some (.ref a), some u, v3]) ⟨s0, _, _, d0, rfl⟩ (fun i σ H' _ h => h.1.seqT hS) ?_ ?_
  · rintro i y σ H1 H2 hi ⟨s1, u, v3, du, rfl⟩ ⟨rfl, hy⟩
    rw [List.getElem?_map] at hy
    obtain ⟨k, ek, rfl⟩ := Option.map_eq_some_iff.mp hy
    obtain ⟨hi2, ek2⟩ := List.getElem?_eq_some_iff.mp ek
    have et : p.take (i + 1) = p.take i ++ [k] := by rw [List.take_succ_eq_append_getElem hi2, ek2]
    have ea : atD fl (p.take (i + 1)) = valD fl (p.take i ++ [k]) := by
      rw [et]
      unfold atD
      rw [if_neg (by simp)]
    rcases atD_cases fl (p.take i) with ⟨e, _⟩ | ⟨c, nc, e, ne, hg⟩ | ⟨e, ne, hg⟩
    · rw [e] at du
      obtain ⟨b, ys, rfl, h3, h4⟩ := dt_head du
      cases h4 with
      | @cons w _ _ _ h5 h6 =>
      cases h6
      refine ⟨_, rfl, rfl, _, rfl, iteF ⟨_, rfl, b, _, 0, _, rfl, rfl, h3, atI_nat (j := 0) rfl, rfl, _, rfl, ?_⟩⟩
      rw [decide_eq_true rfl]
      refine iteF ?_
      have dd := h5
      have h5e : DT K H2 w (.tup ((below fl (p.take i)).map fun k => .tup [.str k, valD fl (p.take i ++ [k])])) := by rw [← doc_eq up.nine]; exact dd
      refine ⟨_, rfl, b, _, 1, _, rfl, rfl, h3, atI_nat (j := 1) rfl, _, rfl, w, k, _, _, rfl, h5e, fun v H3 s3 dv => ?_⟩
      rw [field_valD] at dv
      exact ⟨s1.trans s3, v, _, by rw [ea]; exact dv, rfl⟩
    · rw [e] at du
      have hn := up.none hi2 ne (by rw [hg]; exact fun z => nc (Option.some.inj z))
      obtain ⟨z, ds', e', nz⟩ := sc_word c nc
      rw [e'] at du
      obtain ⟨b, ys, rfl, h3, h4⟩ := dt_head du
      refine ⟨_, rfl, rfl, _, rfl, iteF ⟨_, rfl, b, _, 0, _, rfl, rfl, h3, atI_nat (j := 0) rfl, rfl, _, rfl, ?_⟩⟩
      rw [decide_eq_false (fun y => nz (by injection y))]
      exact iteT (q _ H2 s1 (by rw [hn]; exact .non))
    · rw [e] at du
      cases du
      have hn := up.none hi2 ne (by rw [hg]; exact fun z => by cases z)
      exact ⟨_, rfl, rfl, _, rfl, iteT (iteT (q _ H2 s1 (by rw [hn]; exact .non)))⟩
  · rintro σ H1 ⟨s1, u, v3, du, rfl⟩
    rw [lp, List.take_length] at du
    exact ⟨_, rfl, q _ H1 s1 du⟩
/-! ### held -/
theorem sc_held : FnScope ["document", "path", "value"] ["document", "path"] (defScope s_held) := ⟨rfl, rfl, rfl, by decide +kernel, rfl, by decide +kernel, by decide +kernel⟩

def sp_held (K : PySem.W.Frag) : Sp := fun vs H Q _ => ∃ (x : V) (a : Addr) (fl : Fl) (p : List Str), vs = [x, .ref a] ∧ DT K H x (.tup (doc fl [])) ∧ Up fl ∧ SqT K H a (p.map V.str) ∧ ∀ u H', Same H H' → DT K H' u (hdD fl p) → Q u H'

theorem ok_held {f : Addr} {fd : FuncData} (F : Fun K "held" "held" s_held f fd) (T : Top K w mg) {a_content_of : Addr} {d_content_of : FuncData} (C_content_of : Cal P w K mg base "content_of" 1 ["value"] sp_content_of a_content_of d_content_of) {a_value_at : Addr} {d_value_at : FuncData} (C_value_at : Cal P w K mg base "value_at" 2 ["document", "path"] sp_value_at a_value_at d_value_at) : FnOk P w K mg base CX0 3 f fd ["document", "path"] (sp_held K) := by
  have sc := sc_held
  refine F.ok sc (fun vs H Q E h => ?_) (fun cdv A outer s H vs Q E hr h => ?_)
  · obtain ⟨x, a, fl, p, rfl, _⟩ := h
    rfl
  obtain ⟨x, a, fl, p, rfl, hx, up, hS, q⟩ := h
  refine ⟨_, (pss_cons (ps_set (i := 2) sc.nd rfl (Or.inl rfl) (pe_call C_value_at.ok (hr.mono (by omega)) (by rfl) C_value_at.m C_value_at.kp C_value_at.b .nil pass0 (pa_cons (pv 0) (pa_cons (pv 1) pa_nil))))
    (pss_one (ps_ret (pe_ifExp (pt_cmpR op_isN (pv 2) pe_non (nomark _)) pe_non (pe_call C_content_of.ok (hr.mono (by omega)) (by rfl) C_content_of.m C_content_of.kp C_content_of.b .nil pass0 (pa_cons (pv 2) pa_nil)))))), ?_⟩

  refine ⟨_, rfl, _, rfl, x, a, fl, p, rfl, hx, up, hS, fun v H1 s1 dv => ?_⟩
  rcases atD_cases fl p with ⟨e, h⟩ | ⟨c, nc, e, ne, hg⟩ | ⟨e, ne, hg⟩
  · rw [e] at dv
    have e2 : hdD fl p = .tup (scD .recd) := by
      unfold hdD
      rcases h with h | h
      · exact if_pos h
      · by_cases z : p = []
        · exact if_pos z
        · rw [if_neg z, h]
    obtain ⟨b, ys, rfl, _, _⟩ := dt_tup dv
    refine ⟨_, rfl, rfl, _, rfl, iteF ⟨_, rfl, .ref b, .recd, doc fl p, rfl, .inl ⟨rfl, dv⟩, fun u H2 s2 du => q u H2 (s1.trans s2) (by rw [e2]; exact du)⟩⟩
  · rw [e] at dv
    have e2 : hdD fl p = .tup (scD c) := by
      unfold hdD
      rw [if_neg ne, hg]
    obtain ⟨b, ys, rfl, _, _⟩ := dt_tup dv
    refine ⟨_, rfl, rfl, _, rfl, iteF ⟨_, rfl, .ref b, c, [], rfl, .inr ⟨nc, dv⟩, fun u H2 s2 du => q u H2 (s1.trans s2) (by rw [e2]; exact du)⟩⟩
  · rw [e] at dv
    cases dv
    have e2 : hdD fl p = .non := by
      unfold hdD
      rw [if_neg ne, hg]
    exact ⟨_, rfl, rfl, _, rfl, iteT (q _ H1 s1 (by rw [e2]; exact .non))⟩
/-! ### fields_of -/
theorem sc_fields_of : FnScope ["value"] ["value"] (defScope s_fields_of) := ⟨rfl, rfl, rfl, by decide +kernel, rfl, by decide +kernel, by decide +kernel⟩

def sp_fields_of (K : PySem.W.Frag) : Sp := fun vs H Q _ => ∃ (v : V) (d : Dt) (ds : List Dt), vs = [v] ∧ DT K H v d ∧ (d = .tup [.str (Str.ofString "record"), .tup ds] ∨ ((d = .non ∨ ∃ c, c ≠ .recd ∧ d = .tup (scD c)) ∧ ds = [])) ∧ ∀ u H', Same H H' → DT K H' u (.tup ds) → Q u H'

theorem ok_fields_of {f : Addr} {fd : FuncData} (F : Fun K "fields_of" "fields_of" s_fields_of f fd) (T : Top K w mg) : FnOk P w K mg base CX0 1 f fd ["value"] (sp_fields_of K) := by
  have sc := sc_fields_of
  refine F.ok sc (fun vs H Q E h => ?_) (fun cdv A outer s H vs Q E hr h => ?_)
  · obtain ⟨v, d, ds, rfl, _⟩ := h
    rfl
  obtain ⟨v, d, ds, rfl, hv, hd, q⟩ := h
  refine ⟨_, (pss_cons (ps_if (PW.pt (pw_or (pt_cmpR op_isN (pv 0) pe_non (nomark _)) (pw_or1 (pt_cmpR op_ne (pe_ix (kx_seq (K := K) rfl) (pv 0) pe_int (fun _ _ => rfl)) pe_str (nomark _)))))
      (pss_one (ps_ret (pe_tup pa_nil)))
      pss_nil)
    (pss_one (ps_ret (pe_ix (kx_seq (K := K) rfl) (pv 0) pe_int (fun _ _ => rfl))))), ?_⟩

  rcases hd with rfl | ⟨rfl | ⟨c, nc, rfl⟩, rfl⟩
  · obtain ⟨b, ys, rfl, h3, h4⟩ := dt_head hv
    cases h4 with
    | @cons w _ _ _ h5 h6 =>
    cases h6
    refine ⟨_, rfl, rfl, _, rfl, iteF ⟨_, rfl, .inr (.inl ⟨b, _, 0, _, rfl, rfl, h3, atI_nat (j := 0) rfl, rfl, _, rfl, ?_⟩)⟩⟩
    rw [decide_eq_true rfl]
    exact iteF ⟨_, rfl, .inr (.inl ⟨b, _, 1, _, rfl, rfl, h3, atI_nat (j := 1) rfl, q _ H (Same.refl H) h5⟩)⟩
  · cases hv
    refine ⟨_, rfl, rfl, _, rfl, iteT (iteT ⟨(by show 0 ≤ sizeLine; decide), fun o ho => ?_⟩)⟩
    exact q _ _ (same_new ho _) (.tup (SqT.of upd_same) .nil)
  · obtain ⟨z, ds', e', nz⟩ := sc_word c nc
    rw [e'] at hv
    obtain ⟨b, ys, rfl, h3, h4⟩ := dt_head hv
    refine ⟨_, rfl, rfl, _, rfl, iteF ⟨_, rfl, .inr (.inl ⟨b, _, 0, _, rfl, rfl, h3, atI_nat (j := 0) rfl, rfl, _, rfl, ?_⟩)⟩⟩
    rw [decide_eq_false (fun y => nz (by injection y))]
    refine iteT ⟨(by show 0 ≤ sizeLine; decide), fun o ho => ?_⟩
    exact q _ _ (same_new ho _) (.tup (SqT.of upd_same) .nil)
/-! ### keys_below -/
theorem sc_keys_below : FnScope ["document", "path", "key", "_"] ["document", "path"] (defScope s_keys_below) := ⟨rfl, rfl, rfl, by decide +kernel, rfl, by decide +kernel, by decide +kernel⟩

def sp_keys_below (K : PySem.W.Frag) : Sp := fun vs H Q _ => ∃ (x : V) (a : Addr) (fl : Fl) (p : List Str), vs = [x, .ref a] ∧ DT K H x (.tup (doc fl [])) ∧ Up fl ∧ SqT K H a (p.map V.str) ∧ fl.length ≤ 1000 ∧ ∀ u H', Same H H' → DT K H' u (.tup ((below fl p).map .str)) → Q u H'

theorem ok_keys_below {f : Addr} {fd : FuncData} (F : Fun K "keys_below" "keys_below" s_keys_below f fd) (T : Top K w mg) {a_value_at : Addr} {d_value_at : FuncData} (C_value_at : Cal P w K mg base "value_at" 2 ["document", "path"] sp_value_at a_value_at d_value_at) {a_fields_of : Addr} {d_fields_of : FuncData} (C_fields_of : Cal P w K mg base "fields_of" 1 ["value"] sp_fields_of a_fields_of d_fields_of) : FnOk P w K mg base CX0 3 f fd ["document", "path"] (sp_keys_below K) := by
  have sc := sc_keys_below
  refine F.ok sc (fun vs H Q E h => ?_) (fun cdv A outer s H vs Q E hr h => ?_)
  · obtain ⟨x, a, fl, p, rfl, _⟩ := h
    rfl
  obtain ⟨x, a, fl, p, rfl, hx, up, hS, lf, q⟩ := h
  refine ⟨_, (pss_one (ps_ret (pe_callTy (kc_tuple (K := K) rfl) (by rfl) T.z_tuple (by decide +kernel) (pa_cons (pe_lc (own := [("key", 2), ("_", 3)]) (g := (gTup K 2 (gCons (gName 2) (gCons (gName 3) gNil)))) (tt := tYes) rfl sc.nd (kpi_tup (K := K) rfl (pe_call C_fields_of.ok (hr.mono (by omega)) (by rfl) C_fields_of.m C_fields_of.kp C_fields_of.b .nil pass0 (pa_cons (pe_call C_value_at.ok (hr.mono (by omega)) (by rfl) C_value_at.m C_value_at.kp C_value_at.b .nil pass0 (pa_cons (pv 0) (pa_cons (pv 1) pa_nil))) pa_nil))) (blkOk_by (N := ["document", "path", "key", "_"]) (sc := defScope s_keys_below) (by decide +kernel)) (fun _ _ _ _ _ => (pg_tup rfl (pgs_cons (pg_name (i := 2) sc.nd rfl (Or.inl rfl)) (pgs_cons (pg_name (i := 3) sc.nd rfl (Or.inl rfl)) pgs_nil)))) (fun _ _ _ _ _ => pts_nil) (fun _ _ _ _ _ => (pv 2))) pa_nil)))), ?_⟩

  refine ⟨_, rfl, _, rfl, x, a, fl, p, rfl, hx, up, hS, fun v H1 s1 dv => ?_⟩
  refine ⟨v, atD fl p, doc fl p, rfl, dv, ?_, fun u H2 s2 du => ?_⟩
  · rcases atD_cases fl p with ⟨e, h⟩ | ⟨c, nc, e, ne, hg⟩ | ⟨e, ne, hg⟩
    · exact .inl e
    · refine .inr ⟨.inr ⟨c, nc, e⟩, ?_⟩
      rw [doc_eq up.nine, up.below ne (by rw [hg]; exact fun z => nc (Option.some.inj z))]
      rfl
    · refine .inr ⟨.inl e, ?_⟩
      rw [doc_eq up.nine, up.below ne (by rw [hg]; exact fun z => by cases z)]
      rfl
  rw [doc_eq up.nine] at du
  obtain ⟨b, ys, rfl, h1, h2⟩ := dt_tup du
  have ly := h2.length
  rw [List.length_map] at ly
  have lb := below_len fl p
  refine ⟨b, rfl, ⟨_, h1⟩, fun D hD => ?_⟩
  refine lc_acc (walk_tup (K := K) (a := b) (xs := ys)) (fun i acc H' => Same H2 H' ∧ acc = ((below fl p).take i).map V.str) ⟨same_new hD _, rfl⟩ (fun i acc H' _ _ h => h.1.seqT h1) ?_ ?_
  · rintro i acc y H3 H4 hi e el ⟨s3, rfl⟩ ⟨rfl, hy⟩
    obtain ⟨d, ed, dy⟩ := h2.get' hy
    rw [List.getElem?_map] at ed
    obtain ⟨k, ek, rfl⟩ := Option.map_eq_some_iff.mp ed
    obtain ⟨hi2, ek2⟩ := List.getElem?_eq_some_iff.mp ek
    obtain ⟨o, zs, rfl, h3, h4⟩ := dt_head (dy.same s3)
    cases h4 with
    | @cons w _ _ _ h5 h6 =>
    cases h6
    refine ⟨o, _, rfl, h3, rfl, _, _, rfl, _, _, rfl, rfl, rfl, _, rfl, ?_⟩
    refine acc_step e el (by omega) ⟨s3.late hD, ?_⟩
    rw [List.take_succ_eq_append_getElem hi2, ek2, List.map_append]
    rfl
  · rintro acc H3 e el ⟨s3, rfl⟩
    rw [ly, List.take_length] at e
    refine ⟨D, _, rfl, .inl ⟨SqL.of e, fun l hl => ?_⟩⟩
    refine q _ _ (s1.trans (s2.trans (s3.trans (same_new hl _)))) ?_
    exact .tup (SqT.of upd_same) (DTs.strs _)
/-! ### with_field -/
theorem sc_with_field : FnScope ["fields", "key", "value", "rank", "ahead", "behind", "pair"] ["fields", "key", "value"] (defScope s_with_field) := ⟨rfl, rfl, rfl, by decide +kernel, rfl, by decide +kernel, by decide +kernel⟩

theorem lts_rk (a b : Str) : Dt.lts? (rkT a) (rkT b) = some (decide (LtS a b)) := by
  by_cases e : a = b
  · subst e
    rw [lts_same, decide_eq_false (LtS.irrefl a)]
  · rw [lts_rkT _ _ (codes_ne e)]
    rfl
theorem dataLt_rk (a b : Str) : PySem.W.dataLt (dK a) (dK b) = decide (LtS a b) := by
  have h := leK_eq b a
  rw [PySem.W.dataLe_eq] at h
  have h' : (!PySem.W.dataLt (dK a) (dK b)) = !decide (LtS a b) := h
  rw [← Bool.not_not (PySem.W.dataLt (dK a) (dK b)), h', Bool.not_not]
theorem rk_dp {K : PySem.W.Frag} {H : Hp} {v : V} {z : Str} (h : DT K H v (.tup (rkT z))) : Dp K H v (dK z) := by
  obtain ⟨a, xs, rfl, h1, h2⟩ := dt_tup h
  cases h2 with
  | cons x1 x2 =>
  cases x2 with
  | cons y1 y2 =>
  cases x1
  cases y1
  cases y2
  exact .tup h1 (.cons (.int _) (.cons (.str _) .nil))


def sp_with_field (K : PySem.W.Frag) : Sp := fun vs H Q _ => ∃ (x y : V) (k : Str) (ks : List Str) (f : Str → Dt) (d : Dt), vs = [x, .str k, y] ∧ DT K H x (.tup (ks.map fun j => .tup [.str j, f j])) ∧ ks.length ≤ 100000 ∧ (∀ j ∈ ks, j.length ≤ 1000) ∧ k.length ≤ 1000 ∧ DT K H y d ∧ ∀ u H', Same H H' → DT K H' u (.tup (insD ks (fun j => .tup [.str j, f j]) k d)) → Q u H'

theorem ok_with_field {f : Addr} {fd : FuncData} (F : Fun K "with_field" "with_field" s_with_field f fd) (T : Top K w mg) {a_text_rank : Addr} {d_text_rank : FuncData} (C_text_rank : Cal P w K mg base "text_rank" 1 ["text"] sp_text_rank a_text_rank d_text_rank) : FnOk P w K mg base CX0 2 f fd ["fields", "key", "value"] (sp_with_field K) := by
  have sc := sc_with_field
  refine F.ok sc (fun vs H Q E h => ?_) (fun cdv A outer s H vs Q E hr h => ?_)
  · obtain ⟨x, y, k, ks, f', d, rfl, _⟩ := h
    rfl
  obtain ⟨x, y, k, ks, f', d, rfl, hx, lk, lks, lkk, hy, q⟩ := h
  refine ⟨_, (pss_cons (ps_set (i := 3) sc.nd rfl (Or.inr rfl) (pe_call C_text_rank.ok (hr.mono (by omega)) (by rfl) C_text_rank.m C_text_rank.kp C_text_rank.b .nil pass0 (pa_cons (pv 1) pa_nil)))
    (pss_cons (ps_setLc (i := 4) (own := [("pair", 6)]) (g := gName 6) rfl sc.nd rfl rfl (sw_true rfl rfl rfl (by decide +kernel)) (kpi_tup (K := K) rfl (pv 0)) (blkOk_by (N := ["fields", "key", "value", "rank", "ahead", "behind", "pair"]) (sc := defScope s_with_field) (by decide +kernel)) (fun _ _ _ _ _ => pg_name (i := 6) sc.nd rfl (Or.inl rfl)) (fun _ _ _ _ _ => pts_one (pt_cmpR (op_ltTD (K := K) rfl hr.units) (pe_call C_text_rank.ok (hr.mono (by omega)) (by rfl) C_text_rank.m C_text_rank.kp C_text_rank.b .nil pass0 (pa_cons (pe_ix (kx_tup (K := K) rfl) (pv 6) pe_int (fun _ _ => rfl)) pa_nil)) (pv 3) (nomark _))) (fun _ _ _ _ _ => (pv 6)))
    (pss_cons (ps_setLc (i := 5) (own := [("pair", 6)]) (g := gName 6) rfl sc.nd rfl rfl (sw_true rfl rfl rfl (by decide +kernel)) (kpi_tup (K := K) rfl (pv 0)) (blkOk_by (N := ["fields", "key", "value", "rank", "ahead", "behind", "pair"]) (sc := defScope s_with_field) (by decide +kernel)) (fun _ _ _ _ _ => pg_name (i := 6) sc.nd rfl (Or.inl rfl)) (fun _ _ _ _ _ => pts_one (pt_cmpR (op_gtP (K := K) rfl hr.units) (pe_call C_text_rank.ok (hr.mono (by omega)) (by rfl) C_text_rank.m C_text_rank.kp C_text_rank.b .nil pass0 (pa_cons (pe_ix (kx_tup (K := K) rfl) (pv 6) pe_int (fun _ _ => rfl)) pa_nil)) (pv 3) (nomark _))) (fun _ _ _ _ _ => (pv 6)))
    (pss_one (ps_ret (pe_callTy (kc_tuple (K := K) rfl) (by rfl) T.z_tuple (by decide +kernel) (pa_cons (pe_op op_cat (pe_op op_cat (pv 4) (pe_lst (pa_cons (pe_tup (pa_cons (pv 1) (pa_cons (pv 2) pa_nil))) pa_nil))) (pv 5)) pa_nil))))))), ?_⟩

  obtain ⟨a, xs, rfl, h1, h2⟩ := dt_tup hx
  have lx := h2.length
  rw [List.length_map] at lx
  refine ⟨_, rfl, k, rfl, by omega, fun rk H1 s1 drk => ?_⟩
  refine ⟨_, rfl, a, rfl, ⟨_, s1.seqT h1⟩, fun D hD => ?_⟩
  refine lc_it (walk_tup (K := K) (a := a) (xs := xs)) (fun i H' => Same H1 H' ∧ ∃ acc, H' D = some (.lst acc) ∧ acc.length ≤ i ∧ DTs K H' acc (((ks.take i).filter fun j => decide (LtS j k)).map fun j => .tup [.str j, f' j])) ⟨same_new hD _, [], upd_same, Nat.le_refl _, .nil⟩ (fun i H' _ h => h.1.seqT (s1.seqT h1)) ?_ ?_
  · rintro i y' H2 H3 hi ⟨s2, acc, e, el, d2⟩ ⟨rfl, hy'⟩
    obtain ⟨d', ed, dy⟩ := h2.get' hy'
    rw [List.getElem?_map] at ed
    obtain ⟨j, ej, rfl⟩ := Option.map_eq_some_iff.mp ed
    obtain ⟨hi2, ek⟩ := List.getElem?_eq_some_iff.mp ej
    have dy2 := dy.same (s1.trans s2)
    have dy3 := dy2
    obtain ⟨b, ys, rfl, h3, h4⟩ := dt_head dy2
    refine ⟨wipe_back, ?_⟩
    refine ⟨_, rfl, b, _, 0, _, rfl, rfl, h3, atI_nat (j := 0) rfl, j, rfl, by have := lks j (List.mem_of_getElem? ej); omega, fun v H4 s4 dv => ?_⟩
    refine ⟨_, rfl, rkT j, rkT k, _, dv, drk.same (s2.trans s4), (by show 1 ≤ 60; decide), lts_rk j k, _, rfl, ?_⟩
    by_cases z : LtS j k
    · rw [decide_eq_true z]
      refine iteT ⟨_, rfl, acc, s4 _ _ e, lt_line (by omega), (s2.trans s4).late hD, _, upd_same, by rw [List.length_append]; show acc.length + 1 ≤ _; omega, ?_⟩
      have e4 := s4 _ _ e
      have all := (d2.same s4).append (.cons (dy3.same s4) .nil)
      rw [List.take_succ_eq_append_getElem hi2, ek, List.filter_append, List.filter_cons_of_pos (by rw [decide_eq_true z]), List.filter_nil, List.map_append]
      exact DTs.mono (fun _ _ h => seqT_put e4 (fun _ z => by cases z) (fun _ _ z => by cases z) h) _ _ all
    · rw [decide_eq_false z]
      refine iteF ⟨s2.trans s4, acc, s4 _ _ e, by omega, ?_⟩
      rw [List.take_succ_eq_append_getElem hi2, ek, List.filter_append, List.filter_cons_of_neg (by rw [decide_eq_false z]; exact Bool.false_ne_true), List.filter_nil, List.append_nil]
      exact d2.same s4
  · rintro H2 ⟨s2, acc, eD, el, d2⟩
    rw [lx, List.take_length] at d2
    refine ⟨_, rfl, a, rfl, ⟨_, s2.seqT (s1.seqT h1)⟩, fun D2 hD2 => ?_⟩
    refine lc_it (walk_tup (K := K) (a := a) (xs := xs)) (fun i H' => Same H2 H' ∧ ∃ acc, H' D2 = some (.lst acc) ∧ acc.length ≤ i ∧ DTs K H' acc (((ks.take i).filter fun j => decide (LtS k j)).map fun j => .tup [.str j, f' j])) ⟨same_new hD2 _, [], upd_same, Nat.le_refl _, .nil⟩ (fun i H' _ h => h.1.seqT (s2.seqT (s1.seqT h1))) ?_ ?_
    · rintro i y' H3 H3' hi ⟨s3, acc2, e, el2, d3⟩ ⟨rfl, hy'⟩
      obtain ⟨d', ed, dy⟩ := h2.get' hy'
      rw [List.getElem?_map] at ed
      obtain ⟨j, ej, rfl⟩ := Option.map_eq_some_iff.mp ed
      obtain ⟨hi2, ek⟩ := List.getElem?_eq_some_iff.mp ej
      have dy2 := dy.same (s1.trans (s2.trans s3))
      have dy3 := dy2
      obtain ⟨b, ys, rfl, h3, h4⟩ := dt_head dy2
      refine ⟨wipe_back, ?_⟩
      refine ⟨_, rfl, b, _, 0, _, rfl, rfl, h3, atI_nat (j := 0) rfl, j, rfl, by have := lks j (List.mem_of_getElem? ej); omega, fun v H4 s4 dv => ?_⟩
      refine ⟨_, rfl, dK j, dK k, rk_dp dv, rk_dp (drk.same (s2.trans (s3.trans s4))), alike_dK j k, (fun z => by cases z), depth_dK j, _, rfl, ?_⟩
      rw [dataLt_rk]
      by_cases z : LtS k j
      · rw [decide_eq_true z]
        refine iteT ⟨_, rfl, acc2, s4 _ _ e, lt_line (by omega), (s3.trans s4).late hD2, _, upd_same, by rw [List.length_append]; show acc2.length + 1 ≤ _; omega, ?_⟩
        have e4 := s4 _ _ e
        have all := (d3.same s4).append (.cons (dy3.same s4) .nil)
        rw [List.take_succ_eq_append_getElem hi2, ek, List.filter_append, List.filter_cons_of_pos (by rw [decide_eq_true z]), List.filter_nil, List.map_append]
        exact DTs.mono (fun _ _ h => seqT_put e4 (fun _ z => by cases z) (fun _ _ z => by cases z) h) _ _ all
      · rw [decide_eq_false z]
        refine iteF ⟨s3.trans s4, acc2, s4 _ _ e, by omega, ?_⟩
        rw [List.take_succ_eq_append_getElem hi2, ek, List.filter_append, List.filter_cons_of_neg (by rw [decide_eq_false z]; exact Bool.false_ne_true), List.filter_nil, List.append_nil]
        exact d3.same s4
    · rintro H3 ⟨s3, acc2, eD2, el2, d3⟩
      rw [lx, List.take_length] at d3
      refine ⟨_, rfl, _, rfl, _, rfl, (by show 2 ≤ sizeLine; decide), fun o ho => ?_⟩
      refine ⟨(by show 1 ≤ sizeLine; decide), fun p hp => ?_⟩
      have s4 := same_new ho (.tup [V.str k, y])
      have s5 := same_new hp (.lst [.ref o])
      have dy5 : DT K (upd H3 o (.tup [V.str k, y])) (.ref o) (.tup [.str k, d]) := .tup (SqT.of upd_same) (.cons (.str _) (.cons (hy.same (s1.trans (s2.trans (s3.trans s4)))) .nil))
      have ep : (upd (upd H3 o (.tup [V.str k, y])) p (.lst [.ref o])) p = some (.lst [.ref o]) := upd_same
      have dy6 := dy5.same s5
      have s35 := s4.trans s5
      generalize upd (upd H3 o (.tup [V.str k, y])) p (.lst [.ref o]) = H5 at *
      have eD5 := s35 _ _ (s3 _ _ eD)
      have eD25 := s35 _ _ eD2
      refine ⟨D, p, _, _, rfl, rfl, eD5, ep, le_line (by show acc.length + 1 ≤ _; omega), fun u hu => ?_⟩
      have s6 := same_new hu (.lst (acc ++ [.ref o]))
      have eu : (upd H5 u (.lst (acc ++ [.ref o]))) u = some (.lst (acc ++ [.ref o])) := upd_same
      have eD26 := s6 _ _ eD25
      generalize upd H5 u (.lst (acc ++ [.ref o])) = H6 at *
      refine ⟨_, rfl, u, D2, _, _, rfl, rfl, eu, eD26, le_line (by rw [List.length_append]; show acc.length + 1 + acc2.length ≤ _; omega), fun w' hw' => ?_⟩
      have s7 := same_new hw' (.lst (acc ++ [.ref o] ++ acc2))
      refine ⟨w', _, rfl, .inl ⟨SqL.of upd_same, fun l hl => ?_⟩⟩
      have s8 := same_new hl (.tup (acc ++ [.ref o] ++ acc2))
      have s68 := s6.trans (s7.trans s8)
      refine q _ _ (s1.trans (s2.trans (s3.trans (s35.trans s68)))) (.tup (SqT.of upd_same) ?_)
      exact (((d2.same s3).same s35).same s68).append (.cons (dy6.same s68) .nil) |>.append ((d3.same s35).same s68)
/-! ### with_scalar -/
theorem sc_with_scalar : FnScope ["document", "path", "scalar", "key", "inner"] ["document", "path", "scalar"] (defScope s_with_scalar) := ⟨rfl, rfl, rfl, by decide +kernel, rfl, by decide +kernel, by decide +kernel⟩

def spWith (n : Nat) (K : PySem.W.Frag) : Sp := fun vs H Q _ => ∃ (x y : V) (a : Addr) (fl : Fl) (b p : List Str) (c : Sc), vs = [x, .ref a, y] ∧ DT K H x (.tup (doc fl b)) ∧ SqT K H a (p.map V.str) ∧ DT K H y (.tup (scD c)) ∧ c ≠ .recd ∧ Up fl ∧ (fl.map (·.1)).Nodup ∧ fl.length ≤ 100000 ∧ (∀ x ∈ fl, ∀ k ∈ x.1, k.length ≤ 1000) ∧ (∀ k ∈ p, k.length ≤ 1000) ∧ 1 ≤ p.length ∧ b.length + p.length ≤ 9 ∧ p.length + 3 ≤ n ∧ ∀ u H', Same H H' → DT K H' u (.tup (doc (setF fl (b ++ p) c) b)) → Q u H'
abbrev sp_with_scalar : PySem.W.Frag → Sp := spWith 12


theorem ok_with_scalar_n {n : Nat} {f : Addr} {fd : FuncData} (F : Fun K "with_scalar" "with_scalar" s_with_scalar f fd) (T : Top K w mg) {a_field : Addr} {d_field : FuncData} (C_field : Cal P w K mg base "field" 1 ["fields", "key"] sp_field a_field d_field) {a_fields_of : Addr} {d_fields_of : FuncData} (C_fields_of : Cal P w K mg base "fields_of" 1 ["value"] sp_fields_of a_fields_of d_fields_of) {a_with_field : Addr} {d_with_field : FuncData} (C_with_field : Cal P w K mg base "with_field" 2 ["fields", "key", "value"] sp_with_field a_with_field d_with_field) (C_with_scalar : Cal P w K mg base "with_scalar" (n + 2) ["document", "path", "scalar"] (spWith (n + 2)) f fd) : FnOk P w K mg base CX0 (n + 3) f fd ["document", "path", "scalar"] (spWith (n + 3) K) := by
  have sc := sc_with_scalar
  refine F.ok sc (fun vs H Q E h => ?_) (fun cdv A outer s H vs Q E hr h => ?_)
  · obtain ⟨x, y, a, fl, b, p, c, rfl, _⟩ := h
    rfl
  obtain ⟨x, y, a, fl, b, p, c, rfl, hx, hS, hy, nc, up, nd, lf, lens, plens, p1, lbp, ln, q⟩ := h
  refine ⟨_, (pss_cons (ps_set (i := 3) sc.nd rfl (Or.inl rfl) (pe_ix (kx_tup (K := K) rfl) (pv 1) pe_int (fun _ _ => rfl)))
    (pss_cons (ps_if (pt_cmpR op_eq (pe_callB (kc_lenS (K := K) rfl) (by rfl) T.z_len (by decide +kernel) (pa_cons (pv 1) pa_nil)) pe_int (nomark _))
      (pss_one (ps_ret (pe_call C_with_field.ok (hr.mono (by omega)) (by rfl) C_with_field.m C_with_field.kp C_with_field.b .nil pass0 (pa_cons (pv 0) (pa_cons (pv 3) (pa_cons (pv 2) pa_nil))))))
      pss_nil)
    (pss_cons (ps_set (i := 4) sc.nd rfl (Or.inl rfl) (pe_call C_fields_of.ok (hr.mono (by omega)) (by rfl) C_fields_of.m C_fields_of.kp C_fields_of.b .nil pass0 (pa_cons (pe_call C_field.ok (hr.mono (by omega)) (by rfl) C_field.m C_field.kp C_field.b .nil pass0 (pa_cons (pv 0) (pa_cons (pv 3) pa_nil))) pa_nil)))
    (pss_one (ps_ret (pe_call C_with_field.ok (hr.mono (by omega)) (by rfl) C_with_field.m C_with_field.kp C_with_field.b .nil pass0 (pa_cons (pv 0) (pa_cons (pv 3) (pa_cons (pe_tup (pa_cons pe_str (pa_cons (pe_call C_with_scalar.ok hr (by rfl) C_with_scalar.m C_with_scalar.kp C_with_scalar.b .nil pass0 (pa_cons (pv 4) (pa_cons (pe_slice (ksl_tup (K := K) rfl) (pv 1) (po_some pe_int) po_none) (pa_cons (pv 2) pa_nil)))) pa_nil))) pa_nil))))))))), ?_⟩
  obtain ⟨k, r, rfl⟩ : ∃ k r, p = k :: r := by
    cases p with
    | nil => exact absurd p1 (by decide)
    | cons k r => exact ⟨k, r, rfl⟩
  have lr : (k :: r).length = r.length + 1 := rfl
  have lb := below_len fl b
  have hk1000 := plens k List.mem_cons_self
  have dx : DT K H x (.tup ((below fl b).map fun j => .tup [.str j, valD fl (b ++ [j])])) := by rw [← doc_eq up.nine]; exact hx
  have ins := doc_ins nd (nd_set nd (b ++ k :: r) c) (nine_set up.nine (by rw [List.length_append]; exact lbp) c) ⟨_, set_first fl b k r c⟩ (fun j s hj => set_other fl b k r c j s hj)
  refine ⟨_, rfl, a, _, 0, _, rfl, rfl, hS, atI_nat (j := 0) rfl, ?_⟩
  refine ⟨_, rfl, a, _, rfl, .inr hS, rfl, _, rfl, ?_⟩
  rw [List.length_map, lr]
  by_cases z : r = []
  · subst z
    rw [decide_eq_true (show V.int ((([] : List Str).length + 1 : Nat) : Int) = V.int 1 from rfl)]
    refine iteT ⟨_, rfl, _, rfl, _, rfl, x, y, k, below fl b, _, .tup (scD c), rfl, dx, by omega, below_lens lens b, hk1000, hy, fun u H1 s1 du => ?_⟩
    refine q u H1 s1 ?_
    rw [ins, valD_sc (c := c) (by rw [set_first, if_pos rfl]) nc]
    exact du
  · have l1 : 0 < r.length := List.length_pos_iff.mpr z
    rw [decide_eq_false (show ¬ V.int ((r.length + 1 : Nat) : Int) = V.int 1 from fun e => by injection e with e; omega)]
    refine iteF ?_
    refine ⟨_, rfl, _, rfl, x, k, _, _, rfl, dx, fun v H1 s1 dv => ?_⟩
    rw [field_valD] at dv
    refine ⟨v, _, doc fl (b ++ [k]), rfl, dv, valD_fields up (by simp), fun w' H2 s2 dw => ?_⟩
    have s12 := s1.trans s2
    refine ⟨_, rfl, _, rfl, _, rfl, _, rfl, ?_⟩
    dsimp only [tNoPart]
    refine ⟨_, rfl, slA_of (lo := some 1) (hi := none) (s12.seqT hS) fun a2 H3 s3 ha2 => ?_⟩
    rw [cutV_suf (by decide), ← List.map_drop] at ha2
    have ha2 : SqT K H3 a2 (r.map V.str) := ha2
    have s13 := s12.trans s3
    refine ⟨_, rfl, w', y, a2, fl, b ++ [k], r, c, rfl, dw.same s3, ha2, hy.same s13, nc, up, nd, lf, lens, fun j hj => plens j (List.mem_cons_of_mem _ hj), by omega, by rw [List.length_append]; show b.length + 1 + r.length ≤ 9; omega, by omega, fun u H4 s4 du => ?_⟩
    rw [List.append_assoc] at du
    have du : DT K H4 u (.tup (doc (setF fl (b ++ k :: r) c) (b ++ [k]))) := du
    refine ⟨(by show 2 ≤ sizeLine; decide), fun o ho => ?_⟩
    have s5 := same_new ho (.tup [V.str (Str.ofString "record"), u])
    have drec : DT K (upd H4 o (.tup [V.str (Str.ofString "record"), u])) (.ref o) (.tup [.str (Str.ofString "record"), .tup (doc (setF fl (b ++ k :: r) c) (b ++ [k]))]) := .tup (SqT.of upd_same) (.cons (.str _) (.cons (du.same s5) .nil))
    have s15 := s13.trans (s4.trans s5)
    generalize upd H4 o (.tup [V.str (Str.ofString "record"), u]) = H5 at *
    refine ⟨x, .ref o, k, below fl b, _, _, rfl, dx.same s15, by omega, below_lens lens b, hk1000, drec, fun u2 H6 s6 du2 => ?_⟩
    refine q u2 H6 (s15.trans s6) ?_
    rw [ins, valD_recd (by rw [set_first, if_neg z])]
    exact du2
theorem ok_with_scalar {f : Addr} {fd : FuncData} (F : Fun K "with_scalar" "with_scalar" s_with_scalar f fd) (T : Top K w mg) (M : mg "with_scalar" = some (.ref f)) {a_field : Addr} {d_field : FuncData} (C_field : Cal P w K mg base "field" 1 ["fields", "key"] sp_field a_field d_field) {a_fields_of : Addr} {d_fields_of : FuncData} (C_fields_of : Cal P w K mg base "fields_of" 1 ["value"] sp_fields_of a_fields_of d_fields_of) {a_with_field : Addr} {d_with_field : FuncData} (C_with_field : Cal P w K mg base "with_field" 2 ["fields", "key", "value"] sp_with_field a_with_field d_with_field) : FnOk P w K mg base CX0 12 f fd ["document", "path", "scalar"] (sp_with_scalar K) := by
  have b := F.binds (ps := ["document", "path", "scalar"]) fun _ _ _ _ _ _ us hl => match us, hl with | [_, _, _], _ => rfl
  have h : ∀ n, FnOk P w K mg base CX0 (n + 2) f fd ["document", "path", "scalar"] (spWith (n + 2) K) := fun n => by
    induction n with
    | zero =>
      refine none_any fun vs H Q E h => ?_
      obtain ⟨x, y, a, fl, b, p, c, _, _, _, _, _, _, _, _, _, _, p1, _, ln, _⟩ := h
      omega
    | succ n ih => exact ok_with_scalar_n F T C_field C_fields_of C_with_field ⟨ih, b, F.kp, M⟩
  exact h 10

/-! ### without -/
theorem sc_without : FnScope ["document", "path", "key", "value", "pair"] ["document", "path"] (defScope s_without) := ⟨rfl, rfl, rfl, by decide +kernel, rfl, by decide +kernel, by decide +kernel⟩

def spWo (n : Nat) (K : PySem.W.Frag) : Sp := fun vs H Q _ => ∃ (x : V) (a : Addr) (fl : Fl) (b p : List Str), vs = [x, .ref a] ∧ DT K H x (.tup (doc fl b)) ∧ SqT K H a (p.map V.str) ∧ Up fl ∧ (fl.map (·.1)).Nodup ∧ fl.length ≤ 100000 ∧ (∀ x ∈ fl, ∀ k ∈ x.1, k.length ≤ 1000) ∧ (∀ k ∈ p, k.length ≤ 1000) ∧ 1 ≤ p.length ∧ b.length + p.length ≤ 9 ∧ p.length + 3 ≤ n ∧ ∀ u H', Same H H' → DT K H' u (.tup (doc (cutF fl (b ++ p)) b)) → Q u H'
abbrev sp_without : PySem.W.Frag → Sp := spWo 12


theorem ok_without_n {n : Nat} {f : Addr} {fd : FuncData} (F : Fun K "without" "without" s_without f fd) (T : Top K w mg) {a_field : Addr} {d_field : FuncData} (C_field : Cal P w K mg base "field" 1 ["fields", "key"] sp_field a_field d_field) {a_with_field : Addr} {d_with_field : FuncData} (C_with_field : Cal P w K mg base "with_field" 2 ["fields", "key", "value"] sp_with_field a_with_field d_with_field) (C_without : Cal P w K mg base "without" (n + 2) ["document", "path"] (spWo (n + 2)) f fd) : FnOk P w K mg base CX0 (n + 3) f fd ["document", "path"] (spWo (n + 3) K) := by
  have sc := sc_without
  refine F.ok sc (fun vs H Q E h => ?_) (fun cdv A outer s H vs Q E hr h => ?_)
  · obtain ⟨x, a, fl, b, p, rfl, _⟩ := h
    rfl
  obtain ⟨x, a, fl, b, p, rfl, hx, hS, up, nd, lf, lens, plens, p1, lbp, ln, q⟩ := h
  refine ⟨_, (pss_cons (ps_set (i := 2) sc.nd rfl (Or.inr rfl) (pe_ix (kx_tup (K := K) rfl) (pv 1) pe_int (fun _ _ => rfl)))
    (pss_cons (ps_if (pt_cmpR op_eq (pe_callB (kc_lenS (K := K) rfl) (by rfl) T.z_len (by decide +kernel) (pa_cons (pv 1) pa_nil)) pe_int (nomark _))
      (pss_one (ps_ret (pe_callTy (kc_tuple (K := K) rfl) (by rfl) T.z_tuple (by decide +kernel) (pa_cons (pe_lc (own := [("pair", 4)]) (g := gName 4) rfl sc.nd (kpi_tup (K := K) rfl (pv 0)) (blkOk_by (N := ["document", "path", "key", "value", "pair"]) (sc := defScope s_without) (by decide +kernel)) (fun _ _ _ _ _ => pg_name (i := 4) sc.nd rfl (Or.inl rfl)) (fun _ _ _ _ _ => pts_one (pt_cmpR op_ne (pe_ix (kx_tup (K := K) rfl) (pv 4) pe_int (fun _ _ => rfl)) (pv 2) (nomark _))) (fun _ _ _ _ _ => (pv 4))) pa_nil))))
      pss_nil)
    (pss_cons (ps_set (i := 3) sc.nd rfl (Or.inl rfl) (pe_call C_field.ok (hr.mono (by omega)) (by rfl) C_field.m C_field.kp C_field.b .nil pass0 (pa_cons (pv 0) (pa_cons (pv 2) pa_nil))))
    (pss_cons (ps_if (PW.pt (pw_or (pt_cmpR op_isN (pv 3) pe_non (nomark _)) (pw_or1 (pt_cmpR op_ne (pe_ix (kx_tup (K := K) rfl) (pv 3) pe_int (fun _ _ => rfl)) pe_str (nomark _)))))
      (pss_one (ps_ret (pv 0)))
      pss_nil)
    (pss_one (ps_ret (pe_call C_with_field.ok (hr.mono (by omega)) (by rfl) C_with_field.m C_with_field.kp C_with_field.b .nil pass0 (pa_cons (pv 0) (pa_cons (pv 2) (pa_cons (pe_tup (pa_cons pe_str (pa_cons (pe_call C_without.ok hr (by rfl) C_without.m C_without.kp C_without.b .nil pass0 (pa_cons (pe_ix (kx_tup (K := K) rfl) (pv 3) pe_int (fun _ _ => rfl)) (pa_cons (pe_slice (ksl_tup (K := K) rfl) (pv 1) (po_some pe_int) po_none) pa_nil))) pa_nil))) pa_nil)))))))))), ?_⟩
  obtain ⟨k, r, rfl⟩ : ∃ k r, p = k :: r := by
    cases p with
    | nil => exact absurd p1 (by decide)
    | cons k r => exact ⟨k, r, rfl⟩
  have lr : (k :: r).length = r.length + 1 := rfl
  have lb := below_len fl b
  have hk1000 := plens k List.mem_cons_self
  have dx : DT K H x (.tup ((below fl b).map fun j => .tup [.str j, valD fl (b ++ [j])])) := by rw [← doc_eq up.nine]; exact hx
  refine ⟨_, rfl, a, _, 0, _, rfl, rfl, hS, atI_nat (j := 0) rfl, ?_⟩
  refine ⟨_, rfl, a, _, rfl, .inr hS, rfl, _, rfl, ?_⟩
  rw [List.length_map, lr]
  by_cases z : r = []
  · subst z
    rw [decide_eq_true (show V.int ((([] : List Str).length + 1 : Nat) : Int) = V.int 1 from rfl)]
    obtain ⟨a0, xs, rfl, h1, h2⟩ := dt_tup dx
    have lx := h2.length
    rw [List.length_map] at lx
    refine iteT ⟨_, rfl, a0, rfl, ⟨_, h1⟩, fun D hD => ?_⟩
    refine lc_it (walk_tup (K := K) (a := a0) (xs := xs)) (fun i H' => Same H H' ∧ ∃ acc, H' D = some (.lst acc) ∧ acc.length ≤ i ∧ DTs K H' acc ((((below fl b).take i).filter fun j => !decide (j = k)).map (prD fl b))) ⟨same_new hD _, [], upd_same, Nat.le_refl _, .nil⟩ (fun i H' _ h => h.1.seqT h1) ?_ ?_
    · rintro i y' H2 H3 hi ⟨s2, acc, e, el, d2⟩ ⟨rfl, hy'⟩
      obtain ⟨d', ed, dy⟩ := h2.get' hy'
      rw [List.getElem?_map] at ed
      obtain ⟨j, ej, rfl⟩ := Option.map_eq_some_iff.mp ed
      obtain ⟨hi2, ek⟩ := List.getElem?_eq_some_iff.mp ej
      have dy2 := dy.same s2
      have dy3 : DT K H3 y' (prD fl b j) := dy2
      obtain ⟨b', ys, rfl, h3, h4⟩ := dt_head dy2
      refine ⟨wipe_back, ?_⟩
      refine ⟨_, rfl, b', _, 0, _, rfl, rfl, h3, atI_nat (j := 0) rfl, _, rfl, rfl, _, rfl, ?_⟩
      by_cases z : j = k
      · subst z
        rw [decide_eq_true rfl]
        refine iteF ⟨s2, acc, e, by omega, ?_⟩
        rw [List.take_succ_eq_append_getElem hi2, ek, List.filter_append, List.filter_cons_of_neg (by simp), List.filter_nil, List.append_nil]
        exact d2
      · rw [decide_eq_false (fun y => z (by injection y))]
        refine iteT ⟨_, rfl, acc, e, lt_line (by omega), s2.late hD, _, upd_same, by rw [List.length_append]; show acc.length + 1 ≤ _; omega, ?_⟩
        rw [List.take_succ_eq_append_getElem hi2, ek, List.filter_append, List.filter_cons_of_pos (by simp [z]), List.filter_nil, List.map_append]
        exact DTs.mono (fun _ _ h => seqT_put e (fun _ z => by cases z) (fun _ _ z => by cases z) h) _ _ (d2.append (.cons dy3 .nil))
    · rintro H2 ⟨s2, acc, eD, el, d2⟩
      rw [lx, List.take_length] at d2
      refine ⟨D, _, rfl, .inl ⟨SqL.of eD, fun l hl => ?_⟩⟩
      refine q _ _ (s2.trans (same_new hl _)) ?_
      rw [doc_del nd up.nine]
      exact .tup (SqT.of upd_same) (d2.same (same_new hl _))
  · have l1 : 0 < r.length := List.length_pos_iff.mpr z
    rw [decide_eq_false (show ¬ V.int ((r.length + 1 : Nat) : Int) = V.int 1 from fun e => by injection e with e; omega)]
    refine iteF ?_
    refine ⟨_, rfl, _, rfl, x, k, _, _, rfl, dx, fun v H1 s1 dv => ?_⟩
    rw [field_valD] at dv
    have ret : getF fl (b ++ [k]) ≠ some .recd → Q x H1 := fun hn => q x H1 s1 (by rw [doc_kept up nd z hn]; exact hx.same s1)
    cases g : getF fl (b ++ [k]) with
    | none =>
      rw [valD_none g] at dv
      cases dv
      exact ⟨_, rfl, rfl, _, rfl, iteT (iteT ⟨_, rfl, ret (by rw [g]; exact fun e => by cases e)⟩)⟩
    | some c =>
      by_cases nc : c = .recd
      · subst nc
        rw [valD_recd g] at dv
        obtain ⟨b1, ys, rfl, h3, h4⟩ := dt_head dv
        cases h4 with
        | @cons w' _ _ _ h5 h6 =>
        cases h6
        refine ⟨_, rfl, rfl, _, rfl, iteF ⟨_, rfl, b1, _, 0, _, rfl, rfl, h3, atI_nat (j := 0) rfl, rfl, _, rfl, ?_⟩⟩
        rw [decide_eq_true rfl]
        refine iteF ?_
        refine ⟨_, rfl, _, rfl, _, rfl, b1, _, 1, _, rfl, rfl, h3, atI_nat (j := 1) rfl, _, rfl, ?_⟩
        dsimp only [tNoPart]
        refine ⟨_, rfl, slA_of (lo := some 1) (hi := none) (s1.seqT hS) fun a2 H3 s3 ha2 => ?_⟩
        rw [cutV_suf (by decide), ← List.map_drop] at ha2
        have ha2 : SqT K H3 a2 (r.map V.str) := ha2
        refine ⟨w', a2, fl, b ++ [k], r, rfl, h5.same s3, ha2, up, nd, lf, lens, fun j hj => plens j (List.mem_cons_of_mem _ hj), by omega, by rw [List.length_append]; show b.length + 1 + r.length ≤ 9; omega, by omega, fun u H4 s4 du => ?_⟩
        rw [List.append_assoc] at du
        have du : DT K H4 u (.tup (doc (cutF fl (b ++ k :: r)) (b ++ [k]))) := du
        refine ⟨(by show 2 ≤ sizeLine; decide), fun o ho => ?_⟩
        have s5 := same_new ho (.tup [V.str (Str.ofString "record"), u])
        have drec : DT K (upd H4 o (.tup [V.str (Str.ofString "record"), u])) (.ref o) (.tup [.str (Str.ofString "record"), .tup (doc (cutF fl (b ++ k :: r)) (b ++ [k]))]) := .tup (SqT.of upd_same) (.cons (.str _) (.cons (du.same s5) .nil))
        have s15 := s1.trans (s3.trans (s4.trans s5))
        generalize upd H4 o (.tup [V.str (Str.ofString "record"), u]) = H5 at *
        refine ⟨x, .ref o, k, below fl b, _, _, rfl, dx.same s15, by omega, below_lens lens b, hk1000, drec, fun u2 H6 s6 du2 => ?_⟩
        refine q u2 H6 (s15.trans s6) ?_
        rw [doc_ins nd (nd_cut nd _) (nine_cut up.nine _) ⟨_, (cut_first z).trans g⟩ (fun j s hj => cut_other fl b k r j s hj), valD_recd ((cut_first z).trans g)]
        exact du2
      · rw [valD_sc g nc] at dv
        obtain ⟨z', ds', e', nz⟩ := sc_word c nc
        rw [e'] at dv
        obtain ⟨b1, ys, rfl, h3, h4⟩ := dt_head dv
        refine ⟨_, rfl, rfl, _, rfl, iteF ⟨_, rfl, b1, _, 0, _, rfl, rfl, h3, atI_nat (j := 0) rfl, rfl, _, rfl, ?_⟩⟩
        rw [decide_eq_false (fun y => nz (by injection y))]
        exact iteT ⟨_, rfl, ret (by rw [g]; exact fun e => nc (Option.some.inj e))⟩
theorem ok_without {f : Addr} {fd : FuncData} (F : Fun K "without" "without" s_without f fd) (T : Top K w mg) (M : mg "without" = some (.ref f)) {a_field : Addr} {d_field : FuncData} (C_field : Cal P w K mg base "field" 1 ["fields", "key"] sp_field a_field d_field) {a_with_field : Addr} {d_with_field : FuncData} (C_with_field : Cal P w K mg base "with_field" 2 ["fields", "key", "value"] sp_with_field a_with_field d_with_field) : FnOk P w K mg base CX0 12 f fd ["document", "path"] (sp_without K) := by
  have b := F.binds (ps := ["document", "path"]) fun _ _ _ _ _ _ us hl => match us, hl with | [_, _], _ => rfl
  have h : ∀ n, FnOk P w K mg base CX0 (n + 2) f fd ["document", "path"] (spWo (n + 2) K) := fun n => by
    induction n with
    | zero =>
      refine none_any fun vs H Q E h => ?_
      obtain ⟨x, a, fl, b, p, _, _, _, _, _, _, _, _, p1, _, ln, _⟩ := h
      omega
    | succ n ih => exact ok_without_n F T C_field C_with_field ⟨ih, b, F.kp, M⟩
  exact h 10

/-! ### entries -/
theorem sc_entries : FnScope ["document", "collection", "key"] ["document", "collection"] (defScope s_entries) := ⟨rfl, rfl, rfl, by decide +kernel, rfl, by decide +kernel, by decide +kernel⟩

def sp_entries (K : PySem.W.Frag) : Sp := fun vs H Q _ => ∃ (x : V) (a : Addr) (fl : Fl) (p : List Str), vs = [x, .ref a] ∧ DT K H x (.tup (doc fl [])) ∧ Up fl ∧ SqT K H a (p.map V.str) ∧ p.length ≤ 1000 ∧ fl.length ≤ 1000 ∧ ∀ u H', Same H H' → DT K H' u (.tup (entD fl p)) → Q u H'

theorem ok_entries {f : Addr} {fd : FuncData} (F : Fun K "entries" "entries" s_entries f fd) (T : Top K w mg) {a_keys_below : Addr} {d_keys_below : FuncData} (C_keys_below : Cal P w K mg base "keys_below" 3 ["document", "path"] sp_keys_below a_keys_below d_keys_below) : FnOk P w K mg base CX0 4 f fd ["document", "collection"] (sp_entries K) := by
  have sc := sc_entries
  refine F.ok sc (fun vs H Q E h => ?_) (fun cdv A outer s H vs Q E hr h => ?_)
  · obtain ⟨x, a, fl, p, rfl, _⟩ := h
    rfl
  obtain ⟨x, a, fl, p, rfl, hx, up, hS, lp, lf, q⟩ := h
  refine ⟨_, (pss_one (ps_ret (pe_callTy (kc_tuple (K := K) rfl) (by rfl) T.z_tuple (by decide +kernel) (pa_cons (pe_lc (own := [("key", 2)]) (g := gName 2) (tt := tYes) rfl sc.nd (kpi_tup (K := K) rfl (pe_call C_keys_below.ok (hr.mono (by omega)) (by rfl) C_keys_below.m C_keys_below.kp C_keys_below.b .nil pass0 (pa_cons (pv 0) (pa_cons (pv 1) pa_nil)))) (blkOk_by (N := ["document", "collection", "key"]) (sc := defScope s_entries) (by decide +kernel)) (fun _ _ _ _ _ => pg_name (i := 2) sc.nd rfl (Or.inl rfl)) (fun _ _ _ _ _ => pts_nil) (fun _ _ _ _ _ => (pe_op (kop_catT (K := K) rfl) (pv 1) (pe_tup (pa_cons (pv 2) pa_nil))))) pa_nil)))), ?_⟩

  refine ⟨_, rfl, _, rfl, x, a, fl, p, rfl, hx, up, hS, lf, fun u H1 s1 du => ?_⟩
  obtain ⟨b, ys, rfl, h1, h2⟩ := dt_tup du
  have ly := h2.length
  rw [List.length_map] at ly
  have lb := below_len fl p
  refine ⟨b, rfl, ⟨_, h1⟩, fun D hD => ?_⟩
  refine lc_acc (walk_tup (K := K) (a := b) (xs := ys)) (fun i acc H' => Same H1 H' ∧ DTs K H' acc (((below fl p).take i).map fun k => ptD (p ++ [k]))) ⟨same_new hD _, .nil⟩ (fun i acc H' _ _ h => h.1.seqT h1) ?_ ?_
  · rintro i acc y H3 H4 hi e el ⟨s3, d3⟩ ⟨rfl, hy⟩
    obtain ⟨d, ed, dy⟩ := h2.get' hy
    rw [List.getElem?_map] at ed
    obtain ⟨k, ek, rfl⟩ := Option.map_eq_some_iff.mp ed
    obtain ⟨hi2, ek2⟩ := List.getElem?_eq_some_iff.mp ek
    cases dy
    refine ⟨rfl, _, rfl, _, rfl, (by show 1 ≤ sizeLine; decide), fun o ho => ?_⟩
    have s4 := same_new ho (.tup [V.str k])
    have e4 := s4 _ _ e
    have eo4 : (upd H4 o (.tup [V.str k])) o = some (.tup [V.str k]) := upd_same
    generalize upd H4 o (.tup [V.str k]) = H5 at *
    refine catA_tr (s4.seqT (s3.seqT (s1.seqT hS))) eo4 (by simp) (le_line (by rw [List.length_map]; show p.length + 1 ≤ _; omega)) fun c H6 s6 hc => ?_
    have e6 := s6 _ _ e4
    refine acc_step e6 el (by omega) ⟨(s3.trans (s4.trans s6)).late hD, ?_⟩
    have hc' : SqT K H6 c ((p ++ [k]).map V.str) := by rw [List.map_append]; exact SqT.of hc
    have all := (d3.same (s4.trans s6)).append (.cons (.tup hc' (DTs.strs _)) .nil)
    rw [List.take_succ_eq_append_getElem hi2, ek2, List.map_append]
    exact DTs.mono (fun _ _ h => seqT_put e6 (fun _ z => by cases z) (fun _ _ z => by cases z) h) _ _ all
  · rintro acc H3 e el ⟨s3, d3⟩
    rw [ly, List.take_length] at d3
    refine ⟨D, _, rfl, .inl ⟨SqL.of e, fun l hl => ?_⟩⟩
    refine q _ _ (s1.trans (s3.trans (same_new hl _))) ?_
    exact .tup (SqT.of upd_same) (d3.same (same_new hl _))
/-! ### leads_to -/
theorem sc_leads_to : FnScope ["place", "entry", "word", "path"] ["place", "entry"] (defScope s_leads_to) := ⟨rfl, rfl, rfl, by decide +kernel, rfl, by decide +kernel, by decide +kernel⟩

def sp_leads_to (K : PySem.W.Frag) : Sp := fun vs H Q _ => ∃ (v e : V) (p : Pl) (spot : Option (List Str)), vs = [v, e] ∧ DT K H v (plD p) ∧ DT K H e (ptO spot) ∧ PlOk spot p ∧ ∀ a H', Same H H' → SqT K H' a ((plAt (spot.getD []) p).map V.str) → Q (.ref a) H'

theorem ok_leads_to {f : Addr} {fd : FuncData} (F : Fun K "leads_to" "leads_to" s_leads_to f fd) (T : Top K w mg) : FnOk P w K mg base CX0 1 f fd ["place", "entry"] (sp_leads_to K) := by
  have sc := sc_leads_to
  refine F.ok sc (fun vs H Q E h => ?_) (fun cdv A outer s H vs Q E hr h => ?_)
  · obtain ⟨v, e, p, spot, rfl, _⟩ := h
    rfl
  obtain ⟨v, e, p, spot, rfl, hv, he, ok, q⟩ := h
  refine ⟨_, (pss_cons (ps_asg (pv 0) (pg_tup rfl (pgs_cons (pg_name (i := 2) sc.nd rfl (Or.inl rfl)) (pgs_cons (pg_name (i := 3) sc.nd rfl (Or.inl rfl)) pgs_nil))))
    (pss_one (ps_ret (pe_ifExp (pt_cmpR op_eq (pv 2) pe_str (nomark _)) (pe_op (kop_catT (K := K) rfl) (pv 1) (pv 3)) (pv 3))))), ?_⟩

  rw [pl_eq] at hv
  obtain ⟨a, xs, rfl, hS, hts⟩ := dt_tup hv
  obtain ⟨x1, x2, rfl, h1, h2⟩ := hts.two
  cases h1
  obtain ⟨b, ys, rfl, hB, hys⟩ := dt_tup h2
  have ey := hys.strs_inv
  subst ey
  refine ⟨_, rfl, a, _, rfl, hS, rfl, _, _, rfl, _, _, rfl, rfl, ?_⟩
  cases p with
  | path p => exact ⟨_, rfl, rfl, _, rfl, iteF ⟨_, rfl, q b H (Same.refl H) hB⟩⟩
  | ent p =>
    obtain ⟨s, rfl, n1, n2⟩ := ok
    obtain ⟨c, zs, rfl, hC, hzs⟩ := dt_tup he
    have ez := hzs.strs_inv
    subst ez
    refine ⟨_, rfl, rfl, _, rfl, iteT ⟨_, rfl, _, rfl, catA_of hC hB (le_line (by rw [List.length_map, List.length_map]; show _ + p.length ≤ _; omega)) fun r H' s' hr => ?_⟩⟩
    refine q r H' s' ?_
    rw [← List.map_append] at hr
    exact hr
/-! ### satisfies -/
theorem sc_satisfies : FnScope ["content", "atom", "word"] ["content", "atom"] (defScope s_satisfies) := ⟨rfl, rfl, rfl, by decide +kernel, rfl, by decide +kernel, by decide +kernel⟩

def sp_satisfies (K : PySem.W.Frag) : Sp := fun vs H Q _ => ∃ (x v : V) (o : Option Sc) (c : Cd), vs = [x, v] ∧ DT K H x (scO o) ∧ DT K H v (cdD c) ∧ c.dep = 0 ∧ Q (.bl (atB c o)) H

theorem ok_satisfies {f : Addr} {fd : FuncData} (F : Fun K "satisfies" "satisfies" s_satisfies f fd) (T : Top K w mg) : FnOk P w K mg base CX0 1 f fd ["content", "atom"] (sp_satisfies K) := by
  have sc := sc_satisfies
  refine F.ok sc (fun vs H Q E h => ?_) (fun cdv A outer s H vs Q E hr h => ?_)
  · obtain ⟨x, v, o, c, rfl, _⟩ := h
    rfl
  obtain ⟨x, v, o, c, rfl, hx, hv, dc, q⟩ := h
  refine ⟨_, (pss_cons (ps_set (i := 2) sc.nd rfl (Or.inl rfl) (pe_ix (kx_tup (K := K) rfl) (pv 1) pe_int (fun _ _ => rfl)))
    (pss_cons (ps_if (PW.pt (pw_or (pt_cmpR op_isN (pv 0) pe_non (nomark _)) (pw_or1 (pt_cmpR op_eq (pv 2) pe_str (nomark _)))))
      (pss_one (ps_ret (pe_cmpR op_notN (pv 0) pe_non (nomark _))))
      pss_nil)
    (pss_cons (ps_if (pt_cmpR op_eq (pv 2) pe_str (nomark _))
      (pss_one (ps_ret (pe_cmpR (op_eqT (K := K) rfl hr.units) (pv 0) (pe_ix (kx_tup (K := K) rfl) (pv 1) pe_int (fun _ _ => rfl)) (nomark _))))
      pss_nil)
    (pss_cons (ps_if (pt_cmpR op_ne (pe_ix (kx_tup (K := K) rfl) (pv 0) pe_int (fun _ _ => rfl)) pe_str (nomark _))
      (pss_one (ps_ret pe_bl))
      pss_nil)
    (pss_one (ps_ret (pe_ifExp (pt_cmpR op_eq (pv 2) pe_str (nomark _)) (pe_cmpR op_lt (pe_ix (kx_tup (K := K) rfl) (pv 0) pe_int (fun _ _ => rfl)) (pe_ix (kx_tup (K := K) rfl) (pv 1) pe_int (fun _ _ => rfl)) (nomark _)) (pe_cmpR op_gt (pe_ix (kx_tup (K := K) rfl) (pv 0) pe_int (fun _ _ => rfl)) (pe_ix (kx_tup (K := K) rfl) (pv 1) pe_int (fun _ _ => rfl)) (nomark _))))))))), ?_⟩

  have nz : ∀ {n : Nat}, ¬ n + 1 = 0 := by omega
  cases c with
  | nt c => exact absurd dc nz
  | an c d => exact absurd dc nz
  | or c d => exact absurd dc nz
  | has p =>
    obtain ⟨a, xs, rfl, hS, hts⟩ := dt_tup hv
    obtain ⟨x1, x2, rfl, h1, h2⟩ := hts.two
    cases h1
    refine ⟨_, rfl, a, _, 0, _, rfl, rfl, hS, rfl, ?_⟩
    cases o with
    | none =>
      cases hx
      exact ⟨_, rfl, rfl, _, rfl, iteT (iteT ⟨_, rfl, rfl, q⟩)⟩
    | some d =>
      obtain ⟨b, ys, rfl, _, _⟩ := dt_tup hx
      exact ⟨_, rfl, rfl, _, rfl, iteF ⟨_, rfl, rfl, _, rfl, iteT ⟨_, rfl, rfl, q⟩⟩⟩
  | eq p e =>
    obtain ⟨a, xs, rfl, hS, hts⟩ := dt_tup hv
    obtain ⟨x1, x2, x3, rfl, h1, h2, h3⟩ := hts.three
    cases h1
    refine ⟨_, rfl, a, _, 0, _, rfl, rfl, hS, rfl, ?_⟩
    cases o with
    | none =>
      cases hx
      exact ⟨_, rfl, rfl, _, rfl, iteT (iteT ⟨_, rfl, rfl, q⟩)⟩
    | some d =>
      obtain ⟨b, ys, rfl, _, _⟩ := dt_tup hx
      exact ⟨_, rfl, rfl, _, rfl, iteF ⟨_, rfl, rfl, _, rfl, iteF ⟨_, rfl, rfl, _, rfl, iteT ⟨_, rfl, _, rfl, a, _, 2, _, rfl, rfl, hS, rfl, scD d, scD e, hx, h3, deeps_scD d, q⟩⟩⟩⟩
  | lt p n =>
    obtain ⟨a, xs, rfl, hS, hts⟩ := dt_tup hv
    obtain ⟨x1, x2, x3, rfl, h1, h2, h3⟩ := hts.three
    cases h1
    cases h3
    refine ⟨_, rfl, a, _, 0, _, rfl, rfl, hS, rfl, ?_⟩
    cases o with
    | none =>
      cases hx
      exact ⟨_, rfl, rfl, _, rfl, iteT (iteT ⟨_, rfl, rfl, q⟩)⟩
    | some d =>
      obtain ⟨b, ys, rfl, hT, h0, hn, ht⟩ := sc_tup hx
      refine ⟨_, rfl, rfl, _, rfl, iteF ⟨_, rfl, rfl, _, rfl, iteF ⟨_, rfl, rfl, _, rfl, iteF ⟨_, rfl, b, _, 0, _, rfl, rfl, hT, atI_nat h0, rfl, _, rfl, ?_⟩⟩⟩⟩
      cases d with
      | num m => exact iteF ⟨_, rfl, rfl, _, rfl, iteT ⟨_, rfl, b, _, 1, _, rfl, rfl, hT, atI_nat (hn m rfl), _, rfl, a, _, 2, _, rfl, rfl, hS, rfl, _, _, rfl, rfl, q⟩⟩
      | text m => exact iteT q
      | _ => exact iteT q
  | gt p n =>
    obtain ⟨a, xs, rfl, hS, hts⟩ := dt_tup hv
    obtain ⟨x1, x2, x3, rfl, h1, h2, h3⟩ := hts.three
    cases h1
    cases h3
    refine ⟨_, rfl, a, _, 0, _, rfl, rfl, hS, rfl, ?_⟩
    cases o with
    | none =>
      cases hx
      exact ⟨_, rfl, rfl, _, rfl, iteT (iteT ⟨_, rfl, rfl, q⟩)⟩
    | some d =>
      obtain ⟨b, ys, rfl, hT, h0, hn, ht⟩ := sc_tup hx
      refine ⟨_, rfl, rfl, _, rfl, iteF ⟨_, rfl, rfl, _, rfl, iteF ⟨_, rfl, rfl, _, rfl, iteF ⟨_, rfl, b, _, 0, _, rfl, rfl, hT, atI_nat h0, rfl, _, rfl, ?_⟩⟩⟩⟩
      cases d with
      | num m => exact iteF ⟨_, rfl, rfl, _, rfl, iteF ⟨_, rfl, b, _, 1, _, rfl, rfl, hT, atI_nat (hn m rfl), _, rfl, a, _, 2, _, rfl, rfl, hS, rfl, _, _, rfl, rfl, q⟩⟩
      | text m => exact iteT q
      | _ => exact iteT q
/-! ### holds -/
theorem sc_holds : FnScope ["condition", "document", "entry", "word"] ["condition", "document", "entry"] (defScope s_holds) := ⟨rfl, rfl, rfl, by decide +kernel, rfl, by decide +kernel, by decide +kernel⟩

def spHolds (n : Nat) (K : PySem.W.Frag) : Sp := fun vs H Q _ => ∃ (v x e : V) (c : Cd) (fl : Fl) (spot : Option (List Str)), vs = [v, x, e] ∧ DT K H v (cdD c) ∧ DT K H x (.tup (doc fl [])) ∧ DT K H e (ptO spot) ∧ Up fl ∧ c.all (PlOk spot) ∧ c.dep + 4 ≤ n ∧ ∀ H', Same H H' → Q (.bl (cdB (getF fl) (spot.getD []) c)) H'
abbrev sp_holds : PySem.W.Frag → Sp := spHolds 44


theorem ok_holds_n {n : Nat} {f : Addr} {fd : FuncData} (F : Fun K "holds" "holds" s_holds f fd) (T : Top K w mg) {a_held : Addr} {d_held : FuncData} (C_held : Cal P w K mg base "held" 3 ["document", "path"] sp_held a_held d_held) {a_leads_to : Addr} {d_leads_to : FuncData} (C_leads_to : Cal P w K mg base "leads_to" 1 ["place", "entry"] sp_leads_to a_leads_to d_leads_to) {a_satisfies : Addr} {d_satisfies : FuncData} (C_satisfies : Cal P w K mg base "satisfies" 1 ["content", "atom"] sp_satisfies a_satisfies d_satisfies) {v_holds : Value} (C_holds : CalE P w K mg base "holds" (n + 3) ["condition", "document", "entry"] ["entry"] 2 .non (spHolds (n + 3)) f fd v_holds) : FnOk P w K mg base CX0 (n + 4) f fd ["condition", "document", "entry"] (spHolds (n + 4) K) := by
  have sc := sc_holds
  refine F.ok sc (fun vs H Q E h => ?_) (fun cdv A outer s H vs Q E hr h => ?_)
  · obtain ⟨v, x, e, c, fl, spot, rfl, _⟩ := h
    rfl
  obtain ⟨v, x, e, c, fl, spot, rfl, hv, hx, he, up, ok, hd, q⟩ := h
  refine ⟨_, (pss_cons (ps_set (i := 3) sc.nd rfl (Or.inl rfl) (pe_ix (kx_tup (K := K) rfl) (pv 0) pe_int (fun _ _ => rfl)))
    (pss_cons (ps_if (pt_cmpR op_eq (pv 3) pe_str (nomark _))
      (pss_one (ps_ret (pe_not (pe_callN C_holds.ok hr (by rfl) C_holds.m C_holds.kp C_holds.kb pass0 (pa_cons (pe_ix (kx_tup (K := K) rfl) (pv 0) pe_int (fun _ _ => rfl)) (pa_cons (pv 1) pa_nil)) (pk_cons (pv 2) pk_nil)))))
      pss_nil)
    (pss_cons (ps_if (pt_cmpR op_eq (pv 3) pe_str (nomark _))
      (pss_one (ps_ret (pe_and (pe_callN C_holds.ok hr (by rfl) C_holds.m C_holds.kp C_holds.kb pass0 (pa_cons (pe_ix (kx_tup (K := K) rfl) (pv 0) pe_int (fun _ _ => rfl)) (pa_cons (pv 1) pa_nil)) (pk_cons (pv 2) pk_nil)) (pe_one (pe_callN C_holds.ok hr (by rfl) C_holds.m C_holds.kp C_holds.kb pass0 (pa_cons (pe_ix (kx_tup (K := K) rfl) (pv 0) pe_int (fun _ _ => rfl)) (pa_cons (pv 1) pa_nil)) (pk_cons (pv 2) pk_nil))))))
      pss_nil)
    (pss_cons (ps_if (pt_cmpR op_eq (pv 3) pe_str (nomark _))
      (pss_one (ps_ret (pe_or (pe_callN C_holds.ok hr (by rfl) C_holds.m C_holds.kp C_holds.kb pass0 (pa_cons (pe_ix (kx_tup (K := K) rfl) (pv 0) pe_int (fun _ _ => rfl)) (pa_cons (pv 1) pa_nil)) (pk_cons (pv 2) pk_nil)) (pe_one (pe_callN C_holds.ok hr (by rfl) C_holds.m C_holds.kp C_holds.kb pass0 (pa_cons (pe_ix (kx_tup (K := K) rfl) (pv 0) pe_int (fun _ _ => rfl)) (pa_cons (pv 1) pa_nil)) (pk_cons (pv 2) pk_nil))))))
      pss_nil)
    (pss_one (ps_ret (pe_call C_satisfies.ok (hr.mono (by omega)) (by rfl) C_satisfies.m C_satisfies.kp C_satisfies.b .nil pass0 (pa_cons (pe_call C_held.ok (hr.mono (by omega)) (by rfl) C_held.m C_held.kp C_held.b .nil pass0 (pa_cons (pv 1) (pa_cons (pe_call C_leads_to.ok (hr.mono (by omega)) (by rfl) C_leads_to.m C_leads_to.kp C_leads_to.b .nil pass0 (pa_cons (pe_ix (kx_tup (K := K) rfl) (pv 0) pe_int (fun _ _ => rfl)) (pa_cons (pv 2) pa_nil))) pa_nil))) (pa_cons (pv 0) pa_nil))))))))), ?_⟩
  cases c with
  | nt c =>
    obtain ⟨a, xs, rfl, hS, hts⟩ := dt_tup hv
    obtain ⟨x1, x2, rfl, h1, h2⟩ := hts.two
    cases h1
    have hd : c.dep + 1 + 4 ≤ n + 4 := hd
    refine ⟨_, rfl, a, _, 0, _, rfl, rfl, hS, rfl, _, rfl, rfl, _, rfl, iteT ?_⟩
    refine ⟨_, rfl, a, _, 1, _, rfl, rfl, hS, rfl, _, rfl, _, rfl, rfl, rfl, x2, x, e, c, fl, spot, rfl, h2, hx, he, up, ok, by omega, fun H1 s1 => ⟨_, rfl, q H1 s1⟩⟩
  | an c d =>
    obtain ⟨a, xs, rfl, hS, hts⟩ := dt_tup hv
    obtain ⟨x1, x2, x3, rfl, h1, h2, h3⟩ := hts.three
    cases h1
    have hd : max c.dep d.dep + 1 + 4 ≤ n + 4 := hd
    refine ⟨_, rfl, a, _, 0, _, rfl, rfl, hS, rfl, _, rfl, rfl, _, rfl, iteF ⟨_, rfl, rfl, _, rfl, iteT ?_⟩⟩
    refine ⟨_, rfl, a, _, 1, _, rfl, rfl, hS, rfl, _, rfl, _, rfl, rfl, rfl, x2, x, e, c, fl, spot, rfl, h2, hx, he, up, ok.1, by omega, fun H1 s1 => ⟨_, rfl, ?_⟩⟩
    have q' : ∀ H', Same H H' → Q (.bl (cdB (getF fl) (spot.getD []) c && cdB (getF fl) (spot.getD []) d)) H' := q
    cases hc : cdB (getF fl) (spot.getD []) c with
    | false =>
      have z := q' H1 s1
      rw [hc] at z
      exact iteF z
    | true =>
      refine iteT ⟨_, rfl, a, _, 2, _, rfl, rfl, s1.seqT hS, rfl, _, rfl, _, rfl, rfl, rfl, x3, x, e, d, fl, spot, rfl, h3.same s1, hx.same s1, he.same s1, up, ok.2, by omega, fun H2 s2 => ?_⟩
      have z := q' H2 (s1.trans s2)
      rw [hc] at z
      exact z
  | or c d =>
    obtain ⟨a, xs, rfl, hS, hts⟩ := dt_tup hv
    obtain ⟨x1, x2, x3, rfl, h1, h2, h3⟩ := hts.three
    cases h1
    have hd : max c.dep d.dep + 1 + 4 ≤ n + 4 := hd
    refine ⟨_, rfl, a, _, 0, _, rfl, rfl, hS, rfl, _, rfl, rfl, _, rfl, iteF ⟨_, rfl, rfl, _, rfl, iteF ⟨_, rfl, rfl, _, rfl, iteT ?_⟩⟩⟩
    refine ⟨_, rfl, a, _, 1, _, rfl, rfl, hS, rfl, _, rfl, _, rfl, rfl, rfl, x2, x, e, c, fl, spot, rfl, h2, hx, he, up, ok.1, by omega, fun H1 s1 => ⟨_, rfl, ?_⟩⟩
    have q' : ∀ H', Same H H' → Q (.bl (cdB (getF fl) (spot.getD []) c || cdB (getF fl) (spot.getD []) d)) H' := q
    cases hc : cdB (getF fl) (spot.getD []) c with
    | true =>
      have z := q' H1 s1
      rw [hc] at z
      exact iteT z
    | false =>
      refine iteF ⟨_, rfl, a, _, 2, _, rfl, rfl, s1.seqT hS, rfl, _, rfl, _, rfl, rfl, rfl, x3, x, e, d, fl, spot, rfl, h3.same s1, hx.same s1, he.same s1, up, ok.2, by omega, fun H2 s2 => ?_⟩
      have z := q' H2 (s1.trans s2)
      rw [hc] at z
      exact z
  | has p =>
    obtain ⟨a, xs, rfl, hS, hts⟩ := dt_tup hv
    obtain ⟨x1, x2, rfl, h1, h2⟩ := hts.two
    cases h1
    refine ⟨_, rfl, a, _, 0, _, rfl, rfl, hS, rfl, _, rfl, rfl, _, rfl, iteF ⟨_, rfl, rfl, _, rfl, iteF ⟨_, rfl, rfl, _, rfl, iteF ?_⟩⟩⟩
    refine ⟨_, rfl, _, rfl, a, _, 1, _, rfl, rfl, hS, rfl, _, rfl, x2, e, p, spot, rfl, h2, he, ok, fun b H1 s1 hb => ?_⟩
    refine ⟨x, b, fl, _, rfl, hx.same s1, up, hb, fun u H2 s2 du => ?_⟩
    rw [hdD_ne (PlOk.ne (spot := spot) ok)] at du
    exact ⟨_, rfl, u, .ref a, _, _, rfl, du, hv.same (s1.trans s2), rfl, q H2 (s1.trans s2)⟩
  | eq p c =>
    obtain ⟨a, xs, rfl, hS, hts⟩ := dt_tup hv
    obtain ⟨x1, x2, x3, rfl, h1, h2, h3⟩ := hts.three
    cases h1
    refine ⟨_, rfl, a, _, 0, _, rfl, rfl, hS, rfl, _, rfl, rfl, _, rfl, iteF ⟨_, rfl, rfl, _, rfl, iteF ⟨_, rfl, rfl, _, rfl, iteF ?_⟩⟩⟩
    refine ⟨_, rfl, _, rfl, a, _, 1, _, rfl, rfl, hS, rfl, _, rfl, x2, e, p, spot, rfl, h2, he, ok, fun b H1 s1 hb => ?_⟩
    refine ⟨x, b, fl, _, rfl, hx.same s1, up, hb, fun u H2 s2 du => ?_⟩
    rw [hdD_ne (PlOk.ne (spot := spot) ok)] at du
    exact ⟨_, rfl, u, .ref a, _, _, rfl, du, hv.same (s1.trans s2), rfl, q H2 (s1.trans s2)⟩
  | lt p m =>
    obtain ⟨a, xs, rfl, hS, hts⟩ := dt_tup hv
    obtain ⟨x1, x2, x3, rfl, h1, h2, h3⟩ := hts.three
    cases h1
    refine ⟨_, rfl, a, _, 0, _, rfl, rfl, hS, rfl, _, rfl, rfl, _, rfl, iteF ⟨_, rfl, rfl, _, rfl, iteF ⟨_, rfl, rfl, _, rfl, iteF ?_⟩⟩⟩
    refine ⟨_, rfl, _, rfl, a, _, 1, _, rfl, rfl, hS, rfl, _, rfl, x2, e, p, spot, rfl, h2, he, ok, fun b H1 s1 hb => ?_⟩
    refine ⟨x, b, fl, _, rfl, hx.same s1, up, hb, fun u H2 s2 du => ?_⟩
    rw [hdD_ne (PlOk.ne (spot := spot) ok)] at du
    exact ⟨_, rfl, u, .ref a, _, _, rfl, du, hv.same (s1.trans s2), rfl, q H2 (s1.trans s2)⟩
  | gt p m =>
    obtain ⟨a, xs, rfl, hS, hts⟩ := dt_tup hv
    obtain ⟨x1, x2, x3, rfl, h1, h2, h3⟩ := hts.three
    cases h1
    refine ⟨_, rfl, a, _, 0, _, rfl, rfl, hS, rfl, _, rfl, rfl, _, rfl, iteF ⟨_, rfl, rfl, _, rfl, iteF ⟨_, rfl, rfl, _, rfl, iteF ?_⟩⟩⟩
    refine ⟨_, rfl, _, rfl, a, _, 1, _, rfl, rfl, hS, rfl, _, rfl, x2, e, p, spot, rfl, h2, he, ok, fun b H1 s1 hb => ?_⟩
    refine ⟨x, b, fl, _, rfl, hx.same s1, up, hb, fun u H2 s2 du => ?_⟩
    rw [hdD_ne (PlOk.ne (spot := spot) ok)] at du
    exact ⟨_, rfl, u, .ref a, _, _, rfl, du, hv.same (s1.trans s2), rfl, q H2 (s1.trans s2)⟩
theorem ok_holds {f : Addr} {fd : FuncData} (F : Fun K "holds" "holds" s_holds f fd) (T : Top K w mg) (M : mg "holds" = some (.ref f)) {a_held : Addr} {d_held : FuncData} (C_held : Cal P w K mg base "held" 3 ["document", "path"] sp_held a_held d_held) {a_leads_to : Addr} {d_leads_to : FuncData} (C_leads_to : Cal P w K mg base "leads_to" 1 ["place", "entry"] sp_leads_to a_leads_to d_leads_to) {a_satisfies : Addr} {d_satisfies : FuncData} (C_satisfies : Cal P w K mg base "satisfies" 1 ["content", "atom"] sp_satisfies a_satisfies d_satisfies) {dv : Value} (b : Binds K fd ["condition", "document", "entry"] [dv]) (r : RelV .non dv) (kb : KBn K fd ["condition", "document", "entry"] 2 ["entry"] (fun us ws => us ++ ws) (fun vs zs => vs ++ zs)) : FnOk P w K mg base CX0 44 f fd ["condition", "document", "entry"] (sp_holds K) := by
  have h : ∀ n, FnOk P w K mg base CX0 (n + 3) f fd ["condition", "document", "entry"] (spHolds (n + 3) K) := fun n => by
    induction n with
    | zero =>
      refine none_any fun vs H Q E h => ?_
      obtain ⟨v, x, e, c, fl, spot, _, _, _, _, _, _, hd, _⟩ := h
      omega
    | succ n ih => exact ok_holds_n F T C_held C_leads_to C_satisfies ⟨ih, b, r, kb, F.kp, M⟩
  exact h 41

/-! ### subjects -/
theorem sc_subjects : FnScope ["collection", "condition", "document", "candidates", "entry"] ["collection", "condition", "document"] (defScope s_subjects) := ⟨rfl, rfl, rfl, by decide +kernel, rfl, by decide +kernel, by decide +kernel⟩

def sp_subjects (K : PySem.W.Frag) : Sp := fun vs H Q _ => ∃ (v u x : V) (col : Option (List Str)) (c : Option Cd) (fl : Fl), vs = [v, u, x] ∧ DT K H v (ptO col) ∧ DT K H u (cdO c) ∧ DT K H x (.tup (doc fl [])) ∧ Up fl ∧ fl.length ≤ 1000 ∧ (∀ p, col = some p → p.length ≤ 900) ∧ CoOk fl col c ∧ ∀ r xs H', Same H H' → H r = none → H' r = some (.lst xs) → DTs K H' xs ((subQ fl col c).map ptO) → Q (.ref r) H'

theorem ok_subjects {f : Addr} {fd : FuncData} (F : Fun K "subjects" "subjects" s_subjects f fd) (T : Top K w mg) {a_entries : Addr} {d_entries : FuncData} (C_entries : Cal P w K mg base "entries" 4 ["document", "collection"] sp_entries a_entries d_entries) {a_holds : Addr} {d_holds : FuncData} {v_holds : Value} (C_holds : CalE P w K mg base "holds" 44 ["condition", "document", "entry"] ["entry"] 2 .non sp_holds a_holds d_holds v_holds) : FnOk P w K mg base CX0 45 f fd ["collection", "condition", "document"] (sp_subjects K) := by
  have sc := sc_subjects
  refine F.ok sc (fun vs H Q E h => ?_) (fun cdv A outer s H vs Q E hr h => ?_)
  · obtain ⟨v, u, x, col, c, fl, rfl, _⟩ := h
    rfl
  obtain ⟨v, u, x, col, c, fl, rfl, hv, hu, hx, up, lf, lc, ok, q⟩ := h
  refine ⟨_, (pss_cons (ps_set (i := 3) sc.nd rfl (Or.inl rfl) (pe_ifExp (pt_cmpR op_isN (pv 0) pe_non (nomark _)) (pe_lst (pa_cons pe_non pa_nil)) (pe_call C_entries.ok (hr.mono (by omega)) (by rfl) C_entries.m C_entries.kp C_entries.b .nil pass0 (pa_cons (pv 2) (pa_cons (pv 0) pa_nil)))))
    (pss_one (ps_ret (pe_lc (own := [("entry", 4)]) (g := gName 4) rfl sc.nd (pi_seq (K := K) rfl (pv 3)) (blkOk_by (N := ["collection", "condition", "document", "candidates", "entry"]) (sc := defScope s_subjects) (by decide +kernel)) (fun _ _ _ _ _ => pg_name (i := 4) sc.nd rfl (Or.inl rfl)) (fun _ _ _ _ _ => pts_one (PW.pt (pw_or (pt_cmpR op_isN (pv 1) pe_non (nomark _)) (pw_or1 (pt_val (pe_callN C_holds.ok (hr.mono (by omega)) (by rfl) C_holds.m C_holds.kp C_holds.kb pass0 (pa_cons (pv 1) (pa_cons (pv 2) pa_nil)) (pk_cons (pv 4) pk_nil))))))) (fun _ _ _ _ _ => (pv 4)))))), ?_⟩

  obtain ⟨L, hL⟩ : ∃ L, L = spotsQ fl col := ⟨_, rfl⟩
  have lL : L.length ≤ 1001 := by have := spotsQ_len fl col; rw [hL]; omega
  have eQ : subQ fl col c = L.filter fun s => cdQ fl s c := by rw [hL]; rfl
  rw [eQ] at q
  have okL : ∀ cc, c = some cc → cc.dep ≤ 40 ∧ ∀ s ∈ L, cc.all (PlOk s) := fun cc e => by
    subst e
    rw [hL]
    exact ok
  cases col with
  | none =>
    cases hv
    refine ⟨_, rfl, rfl, _, rfl, iteT ⟨(by show 1 ≤ sizeLine; decide), fun e he => ?_⟩⟩
    have s1 := same_new he (.lst [V.non])
    have ee : (upd H e (.lst [V.non])) e = some (.lst [V.non]) := upd_same
    have hzs : DTs K (upd H e (.lst [V.non])) [V.non] (L.map ptO) := by rw [hL]; exact .cons .non .nil
    generalize upd H e (.lst [V.non]) = H1 at *
    obtain ⟨zs, hz0⟩ : ∃ zs, zs = [V.non] := ⟨_, rfl⟩
    rw [← hz0] at ee hzs
    have hE : ∀ H', Same H1 H' → SqL K H' e zs := fun H' s => SqL.of (s _ _ ee)
    refine Or.inl ⟨_, rfl, e, rfl, ⟨_, SqL.of ee⟩, fun D hD => ?_⟩
    have w := walk_list (K := K) (a := e) (xs := zs)
    have lz := hzs.length
    rw [List.length_map] at lz
    have hD0 : H D = none := by
      cases eh : H D with
      | none => rfl
      | some o => rw [s1 _ _ eh] at hD; cases hD
    refine lc_it w (fun i H' => Same H1 H' ∧ ∃ acc, H' D = some (.lst acc) ∧ acc.length ≤ i ∧ DTs K H' acc (((L.take i).filter fun s => cdQ fl s c).map ptO)) ⟨same_new hD _, [], upd_same, Nat.le_refl _, .nil⟩ (fun i H' _ h => hE H' h.1) ?_ ?_
    · rintro i y H2 H3 hi ⟨s2, acc, eD, la, hacc⟩ ⟨rfl, hy⟩
      obtain ⟨d, ed, dy⟩ := hzs.get' hy
      rw [List.getElem?_map] at ed
      obtain ⟨sp, esp, rfl⟩ := Option.map_eq_some_iff.mp ed
      obtain ⟨hi2, esp2⟩ := List.getElem?_eq_some_iff.mp esp
      have hT : (L.take (i + 1)).filter (fun s => cdQ fl s c) = (L.take i).filter (fun s => cdQ fl s c) ++ (if cdQ fl sp c = true then [sp] else []) := by
        rw [List.take_succ_eq_append_getElem hi2, esp2, List.filter_append, List.filter_cons, List.filter_nil]
      have s12 := s1.trans s2
      have yes : ∀ {H4 : Hp}, Same H3 H4 → cdQ fl sp c = true → ∃ acc', H4 D = some (.lst acc') ∧ acc'.length < sizeLine ∧ (Same H1 (upd H4 D (.lst (acc' ++ [y]))) ∧ ∃ acc, (upd H4 D (.lst (acc' ++ [y]))) D = some (.lst acc) ∧ acc.length ≤ i + 1 ∧ DTs K (upd H4 D (.lst (acc' ++ [y]))) acc (((L.take (i + 1)).filter fun s => cdQ fl s c).map ptO)) := fun {H4} s4 hc => by
        have eD4 := s4 _ _ eD
        refine ⟨acc, eD4, lt_line (by omega), (s2.trans s4).late hD, acc ++ [y], upd_same, by rw [List.length_append]; show _ + 1 ≤ _; omega, ?_⟩
        rw [hT, hc, if_pos rfl, List.map_append]
        exact ((hacc.same s4).append (.cons (dy.same (s2.trans s4)) .nil)).lput eD4
      refine ⟨rfl, _, rfl, rfl, _, rfl, ?_⟩
      cases c with
      | none =>
        cases hu
        exact iteT (iteT ⟨_, rfl, yes (Same.refl _) rfl⟩)
      | some cc =>
        obtain ⟨cb, rfl⟩ := cd_ref hu
        obtain ⟨k1, k2⟩ := okL cc rfl
        refine iteF ⟨_, rfl, _, rfl, _, rfl, rfl, rfl, .ref cb, x, y, cc, fl, sp, rfl, hu.same s12, hx.same s12, dy.same s2, up, k2 sp (List.mem_of_getElem? esp), by omega, fun H4 s4 => ⟨_, rfl, ?_⟩⟩
        have yes := yes s4
        have e0 : cdQ fl sp (some cc) = cdB (getF fl) (sp.getD []) cc := rfl
        show if cdB (getF fl) (sp.getD []) cc = true then _ else _
        rw [e0] at yes hT
        cases hc : cdB (getF fl) (sp.getD []) cc with
        | true => exact iteT ⟨_, rfl, yes hc⟩
        | false =>
          refine iteF ⟨s2.trans s4, acc, s4 _ _ eD, by omega, ?_⟩
          rw [hT, hc, if_neg (by decide), List.append_nil]
          exact hacc.same s4
    · rintro H2 ⟨s2, acc, eD, la, hacc⟩
      rw [lz, List.take_length] at hacc
      exact q D acc H2 (s1.trans s2) hD0 eD hacc
  | some p =>
    obtain ⟨b, ys, rfl, hB, hys⟩ := dt_tup hv
    have ey := hys.strs_inv
    subst ey
    refine ⟨_, rfl, rfl, _, rfl, iteF ?_⟩
    refine ⟨_, rfl, _, rfl, x, b, fl, p, rfl, hx, up, hB, by have := lc p rfl; omega, lf, fun v1 H1 s1 du => ?_⟩
    obtain ⟨e, zs, rfl, hE0, hzs⟩ := dt_tup du
    have eL : entD fl p = L.map ptO := by rw [hL]; show _ = ((below fl p).map _).map ptO; rw [List.map_map]; rfl
    rw [eL] at hzs
    have hE : ∀ H', Same H1 H' → SqT K H' e zs := fun H' s => s.seqT hE0
    refine Or.inr ⟨_, rfl, e, rfl, ⟨_, hE0⟩, fun D hD => ?_⟩
    have w := walk_tup (K := K) (a := e) (xs := zs)
    have lz := hzs.length
    rw [List.length_map] at lz
    have hD0 : H D = none := by
      cases eh : H D with
      | none => rfl
      | some o => rw [s1 _ _ eh] at hD; cases hD
    refine lc_it w (fun i H' => Same H1 H' ∧ ∃ acc, H' D = some (.lst acc) ∧ acc.length ≤ i ∧ DTs K H' acc (((L.take i).filter fun s => cdQ fl s c).map ptO)) ⟨same_new hD _, [], upd_same, Nat.le_refl _, .nil⟩ (fun i H' _ h => hE H' h.1) ?_ ?_
    · rintro i y H2 H3 hi ⟨s2, acc, eD, la, hacc⟩ ⟨rfl, hy⟩
      obtain ⟨d, ed, dy⟩ := hzs.get' hy
      rw [List.getElem?_map] at ed
      obtain ⟨sp, esp, rfl⟩ := Option.map_eq_some_iff.mp ed
      obtain ⟨hi2, esp2⟩ := List.getElem?_eq_some_iff.mp esp
      have hT : (L.take (i + 1)).filter (fun s => cdQ fl s c) = (L.take i).filter (fun s => cdQ fl s c) ++ (if cdQ fl sp c = true then [sp] else []) := by
        rw [List.take_succ_eq_append_getElem hi2, esp2, List.filter_append, List.filter_cons, List.filter_nil]
      have s12 := s1.trans s2
      have yes : ∀ {H4 : Hp}, Same H3 H4 → cdQ fl sp c = true → ∃ acc', H4 D = some (.lst acc') ∧ acc'.length < sizeLine ∧ (Same H1 (upd H4 D (.lst (acc' ++ [y]))) ∧ ∃ acc, (upd H4 D (.lst (acc' ++ [y]))) D = some (.lst acc) ∧ acc.length ≤ i + 1 ∧ DTs K (upd H4 D (.lst (acc' ++ [y]))) acc (((L.take (i + 1)).filter fun s => cdQ fl s c).map ptO)) := fun {H4} s4 hc => by
        have eD4 := s4 _ _ eD
        refine ⟨acc, eD4, lt_line (by omega), (s2.trans s4).late hD, acc ++ [y], upd_same, by rw [List.length_append]; show _ + 1 ≤ _; omega, ?_⟩
        rw [hT, hc, if_pos rfl, List.map_append]
        exact ((hacc.same s4).append (.cons (dy.same (s2.trans s4)) .nil)).lput eD4
      refine ⟨rfl, _, rfl, rfl, _, rfl, ?_⟩
      cases c with
      | none =>
        cases hu
        exact iteT (iteT ⟨_, rfl, yes (Same.refl _) rfl⟩)
      | some cc =>
        obtain ⟨cb, rfl⟩ := cd_ref hu
        obtain ⟨k1, k2⟩ := okL cc rfl
        refine iteF ⟨_, rfl, _, rfl, _, rfl, rfl, rfl, .ref cb, x, y, cc, fl, sp, rfl, hu.same s12, hx.same s12, dy.same s2, up, k2 sp (List.mem_of_getElem? esp), by omega, fun H4 s4 => ⟨_, rfl, ?_⟩⟩
        have yes := yes s4
        have e0 : cdQ fl sp (some cc) = cdB (getF fl) (sp.getD []) cc := rfl
        show if cdB (getF fl) (sp.getD []) cc = true then _ else _
        rw [e0] at yes hT
        cases hc : cdB (getF fl) (sp.getD []) cc with
        | true => exact iteT ⟨_, rfl, yes hc⟩
        | false =>
          refine iteF ⟨s2.trans s4, acc, s4 _ _ eD, by omega, ?_⟩
          rw [hT, hc, if_neg (by decide), List.append_nil]
          exact hacc.same s4
    · rintro H2 ⟨s2, acc, eD, la, hacc⟩
      rw [lz, List.take_length] at hacc
      exact q D acc H2 (s1.trans s2) hD0 eD hacc
/-! ### effect_of -/
theorem sc_effect_of : FnScope ["action", "entry", "current", "before", "word", "path", "content", "source", "copied"] ["action", "entry", "current", "before"] (defScope s_effect_of) := ⟨rfl, rfl, rfl, by decide +kernel, rfl, by decide +kernel, by decide +kernel⟩

def sp_effect_of (K : PySem.W.Frag) : Sp := fun vs H Q _ => ∃ (v e x y : V) (a : Ac) (s : Option (List Str)) (f0 fl : Fl) (ws : List Str), vs = [v, e, x, y] ∧ DT K H v (acD a) ∧ DT K H e (ptO s) ∧ DT K H x (.tup (doc fl [])) ∧ DT K H y (.tup (doc f0 [])) ∧ Up fl ∧ Up f0 ∧ AcOk ws s a ∧ isRej a = false ∧ (∀ p c, getF fl p = some c → scOk c) ∧ ∀ u H', Same H H' → DT K H' u (efO (effF f0 fl (s.getD []) a)) → Q u H'

theorem ok_effect_of {f : Addr} {fd : FuncData} (F : Fun K "effect_of" "effect_of" s_effect_of f fd) (T : Top K w mg) {a_held : Addr} {d_held : FuncData} (C_held : Cal P w K mg base "held" 3 ["document", "path"] sp_held a_held d_held) {a_leads_to : Addr} {d_leads_to : FuncData} (C_leads_to : Cal P w K mg base "leads_to" 1 ["place", "entry"] sp_leads_to a_leads_to d_leads_to) : FnOk P w K mg base CX0 4 f fd ["action", "entry", "current", "before"] (sp_effect_of K) := by
  have sc := sc_effect_of
  obtain ⟨ad_RECORD, c_RECORD, k_RECORD⟩ := T.c_RECORD
  refine F.ok sc (fun vs H Q E h => ?_) (fun cdv A outer s H vs Q E hr h => ?_)
  · obtain ⟨v, e, x, y, a, s, f0, fl, ws, rfl, _⟩ := h
    rfl
  obtain ⟨v, e, x, y, a, s, f0, fl, ws, rfl, hv, he, hx, hy, up, up0, ok, nr, sco, q⟩ := h
  refine ⟨_, (pss_cons (ps_set (i := 4) sc.nd rfl (Or.inl rfl) (pe_ix (kx_tup (K := K) rfl) (pv 0) pe_int (fun _ _ => rfl)))
    (pss_cons (ps_set (i := 5) sc.nd rfl (Or.inl rfl) (pe_call C_leads_to.ok (hr.mono (by omega)) (by rfl) C_leads_to.m C_leads_to.kp C_leads_to.b .nil pass0 (pa_cons (pe_ix (kx_tup (K := K) rfl) (pv 0) pe_int (fun _ _ => rfl)) (pa_cons (pv 1) pa_nil))))
    (pss_cons (ps_set (i := 6) sc.nd rfl (Or.inl rfl) (pe_call C_held.ok (hr.mono (by omega)) (by rfl) C_held.m C_held.kp C_held.b .nil pass0 (pa_cons (pv 2) (pa_cons (pv 5) pa_nil))))
    (pss_cons (ps_if (pt_cmpR op_eq (pv 4) pe_str (nomark _))
      (pss_one (ps_ret (pe_ifExp (pt_cmpR op_isN (pv 6) pe_non (nomark _)) pe_non (pe_tup (pa_cons (pv 4) (pa_cons (pv 5) (pa_cons pe_non (pa_cons pe_non pa_nil))))))))
      pss_nil)
    (pss_cons (ps_if (pt_cmpR op_eq (pv 4) pe_str (nomark _))
      (pss_one (ps_ret (pe_ifExp (pt_cmpR (kop_eqD (K := K) rfl hr.units) (pv 6) (pe_ix (kx_tup (K := K) rfl) (pv 0) pe_int (fun _ _ => rfl)) (nomark _)) pe_non (pe_tup (pa_cons (pv 4) (pa_cons (pv 5) (pa_cons (pe_ix (kx_tup (K := K) rfl) (pv 0) pe_int (fun _ _ => rfl)) (pa_cons pe_non pa_nil))))))))
      pss_nil)
    (pss_cons (ps_if (pt_cmpR op_notN (pv 6) pe_non (nomark _))
      (pss_one (ps_ret pe_non))
      pss_nil)
    (pss_cons (ps_if (pt_cmpR op_eq (pv 4) pe_str (nomark _))
      (pss_one (ps_ret (pe_tup (pa_cons (pv 4) (pa_cons (pv 5) (pa_cons (pe_ix (kx_tup (K := K) rfl) (pv 0) pe_int (fun _ _ => rfl)) (pa_cons pe_non pa_nil)))))))
      pss_nil)
    (pss_cons (ps_set (i := 7) sc.nd rfl (Or.inl rfl) (pe_call C_leads_to.ok (hr.mono (by omega)) (by rfl) C_leads_to.m C_leads_to.kp C_leads_to.b .nil pass0 (pa_cons (pe_ix (kx_tup (K := K) rfl) (pv 0) pe_int (fun _ _ => rfl)) (pa_cons (pv 1) pa_nil))))
    (pss_cons (ps_set (i := 8) sc.nd rfl (Or.inl rfl) (pe_call C_held.ok (hr.mono (by omega)) (by rfl) C_held.m C_held.kp C_held.b .nil pass0 (pa_cons (pv 3) (pa_cons (pv 7) pa_nil))))
    (pss_one (ps_ret (pe_ifExp (PW.pt (pw_or (pt_cmpR op_isN (pv 8) pe_non (nomark _)) (pw_or1 (pt_cmpR (op_eqT (K := K) rfl hr.units) (pv 8) (pe_glob (v := .ref ad_RECORD) (by rfl) c_RECORD rfl) (nomark _))))) pe_non (pe_tup (pa_cons (pv 4) (pa_cons (pv 5) (pa_cons (pv 8) (pa_cons (pv 7) pa_nil))))))))))))))))), ?_⟩

  have mk4 : ∀ {H' : Hp} {w : Str} {r : Addr} {u z : V} {p : List Str} {d1 d2 : Dt} {o : Addr}, H' o = none → SqT K H' r (p.map V.str) → DT K H' u d1 → DT K H' z d2 → DT K (upd H' o (.tup [.str w, .ref r, u, z])) (.ref o) (.tup [.str w, ptD p, d1, d2]) := fun ho hr hu hz =>
    .tup (SqT.of upd_same) (.cons (.str _) (.cons ((DT.path hr).same (same_new ho _)) (.cons (hu.same (same_new ho _)) (.cons (hz.same (same_new ho _)) .nil))))
  cases a with
  | rej r => cases nr
  | rem p =>
    obtain ⟨a, pv, rfl, hS, hp⟩ := dac_two hv
    obtain ⟨pk, p1, p5, pz⟩ := ok
    refine ⟨_, rfl, a, _, 0, _, rfl, rfl, hS, rfl, _, rfl, a, _, 1, _, rfl, rfl, hS, rfl, _, rfl, pv, e, p, s, rfl, hp, he, pk, fun r H1 s1 hr => ?_⟩
    refine ⟨_, rfl, _, rfl, x, r, fl, _, rfl, hx.same s1, up, hr, fun u H2 s2 du => ?_⟩
    rw [hdD_ne pk.ne] at du
    have hr2 := s2.seqT hr
    have s12 := s1.trans s2
    refine ⟨_, rfl, rfl, _, rfl, iteT ?_⟩
    rcases scO_cases du with ⟨rfl, g⟩ | ⟨b, c, rfl, g⟩
    · refine ⟨_, rfl, rfl, _, rfl, iteT (q _ _ s12 ?_)⟩
      simp only [effF, g]
      exact .non
    · refine ⟨_, rfl, rfl, _, rfl, iteF ⟨_, rfl, _, rfl, (by show 4 ≤ sizeLine; decide), fun o ho => q _ _ (s12.trans (same_new ho _)) ?_⟩⟩
      simp only [effF, g]
      exact mk4 (w := rmS) (d1 := .non) (d2 := .non) ho hr2 .non .non
  | set p c =>
    obtain ⟨a, pv, cv, rfl, hS, hp, hc⟩ := dac_three hv
    obtain ⟨⟨pk, p1, p5, pz⟩, oc, nc⟩ := ok
    refine ⟨_, rfl, a, _, 0, _, rfl, rfl, hS, rfl, _, rfl, a, _, 1, _, rfl, rfl, hS, rfl, _, rfl, pv, e, p, s, rfl, hp, he, pk, fun r H1 s1 hr => ?_⟩
    refine ⟨_, rfl, _, rfl, x, r, fl, _, rfl, hx.same s1, up, hr, fun u H2 s2 du => ?_⟩
    rw [hdD_ne pk.ne] at du
    have hr2 := s2.seqT hr
    have s12 := s1.trans s2
    refine ⟨_, rfl, rfl, _, rfl, iteF ⟨_, rfl, rfl, _, rfl, iteT ⟨_, rfl, _, rfl, a, _, 2, _, rfl, rfl, s12.seqT hS, rfl, ?_⟩⟩⟩
    refine ⟨_, _, DT.dp _ _ du, DT.dp _ _ (hc.same s12), shaped_dt (lay_scO fun d hd => sco _ d hd) (by have := deep_scO (getF fl (plAt (s.getD []) p)); omega), shaped_dt (lay_sc oc) (by have := deep_scD c; omega), _, rfl, ?_⟩
    refine ite2 (fun z => ?_) (fun z => ?_)
    · refine q _ _ s12 ?_
      simp only [effF]
      rw [if_pos (show eqC _ c = true from z)]
      exact .non
    · refine ⟨_, rfl, _, rfl, _, rfl, a, _, 2, _, rfl, rfl, s12.seqT hS, rfl, (by show 4 ≤ sizeLine; decide), fun o ho => q _ _ (s12.trans (same_new ho _)) ?_⟩
      simp only [effF]
      rw [if_neg (show ¬ eqC _ c = true from z)]
      exact mk4 (d1 := scO (some c)) (d2 := .non) ho hr2 (hc.same s12) .non
  | dflt p c =>
    obtain ⟨a, pv, cv, rfl, hS, hp, hc⟩ := dac_three hv
    obtain ⟨⟨pk, p1, p5, pz⟩, oc, nc⟩ := ok
    refine ⟨_, rfl, a, _, 0, _, rfl, rfl, hS, rfl, _, rfl, a, _, 1, _, rfl, rfl, hS, rfl, _, rfl, pv, e, p, s, rfl, hp, he, pk, fun r H1 s1 hr => ?_⟩
    refine ⟨_, rfl, _, rfl, x, r, fl, _, rfl, hx.same s1, up, hr, fun u H2 s2 du => ?_⟩
    rw [hdD_ne pk.ne] at du
    have hr2 := s2.seqT hr
    have s12 := s1.trans s2
    refine ⟨_, rfl, rfl, _, rfl, iteF ⟨_, rfl, rfl, _, rfl, iteF ?_⟩⟩
    rcases scO_cases du with ⟨rfl, g⟩ | ⟨b, c', rfl, g⟩
    · refine ⟨_, rfl, rfl, _, rfl, iteF ⟨_, rfl, rfl, _, rfl, iteT ⟨_, rfl, _, rfl, _, rfl, a, _, 2, _, rfl, rfl, s12.seqT hS, rfl, (by show 4 ≤ sizeLine; decide), fun o ho => q _ _ (s12.trans (same_new ho _)) ?_⟩⟩⟩
      simp only [effF, g]
      exact mk4 (d1 := scO (some c)) (d2 := .non) ho hr2 (hc.same s12) .non
    · refine ⟨_, rfl, rfl, _, rfl, iteT (q _ _ s12 ?_)⟩
      simp only [effF, g]
      exact .non
  | copy p p2 =>
    obtain ⟨a, pv, cv, rfl, hS, hp, hc⟩ := dac_three hv
    obtain ⟨⟨pk, p1, p5, pz⟩, pk2⟩ := ok
    refine ⟨_, rfl, a, _, 0, _, rfl, rfl, hS, rfl, _, rfl, a, _, 1, _, rfl, rfl, hS, rfl, _, rfl, pv, e, p, s, rfl, hp, he, pk, fun r H1 s1 hr => ?_⟩
    refine ⟨_, rfl, _, rfl, x, r, fl, _, rfl, hx.same s1, up, hr, fun u H2 s2 du => ?_⟩
    rw [hdD_ne pk.ne] at du
    have hr2 := s2.seqT hr
    have s12 := s1.trans s2
    refine ⟨_, rfl, rfl, _, rfl, iteF ⟨_, rfl, rfl, _, rfl, iteF ?_⟩⟩
    rcases scO_cases du with ⟨rfl, g⟩ | ⟨b, c', rfl, g⟩
    · refine ⟨_, rfl, rfl, _, rfl, iteF ⟨_, rfl, rfl, _, rfl, iteF ?_⟩⟩
      refine ⟨_, rfl, a, _, 2, _, rfl, rfl, s12.seqT hS, rfl, _, rfl, cv, e, p2, s, rfl, hc.same s12, he.same s12, pk2, fun r2 H3 s3 hrq => ?_⟩
      have s13 := s12.trans s3
      refine ⟨_, rfl, _, rfl, y, r2, f0, _, rfl, hy.same s13, up0, hrq, fun u2 H4 s4 du2 => ?_⟩
      rw [hdD_ne pk2.ne] at du2
      have s14 := s13.trans s4
      rcases scO_cases du2 with ⟨rfl, g2⟩ | ⟨b2, c2, rfl, g2⟩
      · refine ⟨_, rfl, rfl, _, rfl, iteT (iteT (q _ _ s14 ?_))⟩
        simp only [effF, g, g2]
        exact .non
      · rw [g2] at du2
        refine ⟨_, rfl, rfl, _, rfl, iteF ⟨_, rfl, scD c2, [.str (Str.ofString "record")], du2, .tup (k_RECORD _) (.cons (.str _) .nil), deeps_scD c2, _, rfl, ?_⟩⟩
        rw [eqbs_recd]
        have hr4 := s3.seqT hr2
        have hr4 := s4.seqT hr4
        have hq4 := s4.seqT hrq
        have good : c2 ≠ .recd → ∀ o, H4 o = none → Q (.ref o) (upd H4 o (.tup [.str (Str.ofString "copy"), .ref r, .ref b2, .ref r2])) := fun n o ho => by
          refine q _ _ (s14.trans (same_new ho _)) ?_
          have e : effF f0 fl (s.getD []) (.copy p p2) = some ⟨Str.ofString "copy", plAt (s.getD []) p, some c2, some (plAt (s.getD []) p2)⟩ := by
            simp only [effF, g, g2]
            try rfl
          rw [e]
          exact mk4 (d1 := scO (some c2)) (d2 := ptO (some _)) ho hr4 du2 (DT.path hq4)
        cases c2 with
        | recd =>
          refine iteT (q _ _ s14 ?_)
          simp only [effF, g, g2]
          exact .non
        | null => exact iteF ⟨_, rfl, _, rfl, _, rfl, _, rfl, (by show 4 ≤ sizeLine; decide), good (by intro z; cases z)⟩
        | fals => exact iteF ⟨_, rfl, _, rfl, _, rfl, _, rfl, (by show 4 ≤ sizeLine; decide), good (by intro z; cases z)⟩
        | tru => exact iteF ⟨_, rfl, _, rfl, _, rfl, _, rfl, (by show 4 ≤ sizeLine; decide), good (by intro z; cases z)⟩
        | num n => exact iteF ⟨_, rfl, _, rfl, _, rfl, _, rfl, (by show 4 ≤ sizeLine; decide), good (by intro z; cases z)⟩
        | text n => exact iteF ⟨_, rfl, _, rfl, _, rfl, _, rfl, (by show 4 ≤ sizeLine; decide), good (by intro z; cases z)⟩
    · refine ⟨_, rfl, rfl, _, rfl, iteT (q _ _ s12 ?_)⟩
      simp only [effF, g]
      exact .non
/-! ### with_effect -/
theorem sc_with_effect : FnScope ["document", "effect", "word", "path", "scalar", "_"] ["document", "effect"] (defScope s_with_effect) := ⟨rfl, rfl, rfl, by decide +kernel, rfl, by decide +kernel, by decide +kernel⟩

def sp_with_effect (K : PySem.W.Frag) : Sp := fun vs H Q _ => ∃ (x v : V) (fl : Fl) (e : Ef), vs = [x, v] ∧ DT K H x (.tup (doc fl [])) ∧ DT K H v (efD e) ∧ EfOk e ∧ Gd fl ∧ (∀ k ∈ e.p, k.length ≤ 1000) ∧ ∀ u H', Same H H' → DT K H' u (.tup (doc (mkF fl e) [])) → Q u H'

theorem ok_with_effect {f : Addr} {fd : FuncData} (F : Fun K "with_effect" "with_effect" s_with_effect f fd) (T : Top K w mg) {a_with_scalar : Addr} {d_with_scalar : FuncData} (C_with_scalar : Cal P w K mg base "with_scalar" 12 ["document", "path", "scalar"] sp_with_scalar a_with_scalar d_with_scalar) {a_without : Addr} {d_without : FuncData} (C_without : Cal P w K mg base "without" 12 ["document", "path"] sp_without a_without d_without) : FnOk P w K mg base CX0 13 f fd ["document", "effect"] (sp_with_effect K) := by
  have sc := sc_with_effect
  refine F.ok sc (fun vs H Q E h => ?_) (fun cdv A outer s H vs Q E hr h => ?_)
  · obtain ⟨x, v, fl, e, rfl, _⟩ := h
    rfl
  obtain ⟨x, v, fl, e, rfl, hx, hv, ok, gd, lk, q⟩ := h
  refine ⟨_, (pss_cons (ps_asg (pv 1) (pg_tup rfl (pgs_cons (pg_name (i := 2) sc.nd rfl (Or.inl rfl)) (pgs_cons (pg_name (i := 3) sc.nd rfl (Or.inl rfl)) (pgs_cons (pg_name (i := 4) sc.nd rfl (Or.inl rfl)) (pgs_cons (pg_name (i := 5) sc.nd rfl (Or.inl rfl)) pgs_nil))))))
    (pss_one (ps_ret (pe_ifExp (pt_cmpR op_eq (pv 2) pe_str (nomark _)) (pe_call C_without.ok (hr.mono (by omega)) (by rfl) C_without.m C_without.kp C_without.b .nil pass0 (pa_cons (pv 0) (pa_cons (pv 3) pa_nil))) (pe_call C_with_scalar.ok (hr.mono (by omega)) (by rfl) C_with_scalar.m C_with_scalar.kp C_with_scalar.b .nil pass0 (pa_cons (pv 0) (pa_cons (pv 3) (pa_cons (pv 4) pa_nil)))))))), ?_⟩

  obtain ⟨a, xs, rfl, hS, hts⟩ := dt_tup hv
  cases hts with
  | cons h1 hts =>
  cases hts with
  | cons h2 hts =>
  cases hts with
  | @cons u _ _ _ h3 hts =>
  cases hts with
  | cons h4 hts =>
  cases hts
  cases h1
  obtain ⟨b, ys, rfl, hB, hys⟩ := dt_tup h2
  have ey := hys.strs_inv
  subst ey
  refine ⟨_, rfl, a, _, rfl, hS, rfl, _, _, rfl, _, _, rfl, _, _, rfl, _, _, rfl, rfl, ?_⟩
  have p5 := ok.p5
  rcases ok.k with ⟨k1, k2⟩ | ⟨c, k1, k2, k3, k4⟩
  · refine ⟨_, rfl, rfl, _, rfl, ?_⟩
    rw [decide_eq_true (show V.str e.w = V.str (Str.ofString "remove") from congrArg V.str k2)]
    refine iteT ⟨_, rfl, _, rfl, x, b, fl, [], e.p, rfl, hx, hB, gd.up, gd.nd, gd.len, gd.keys, lk, ok.p1, by show 0 + e.p.length ≤ 9; omega, by omega, fun u H' s d => q u H' s ?_⟩
    unfold mkF
    rw [k1]
    exact d
  · refine ⟨_, rfl, rfl, _, rfl, ?_⟩
    rw [decide_eq_false (show ¬ V.str e.w = V.str (Str.ofString "remove") from fun z => k4 (V.str.inj z))]
    rw [k1] at h3
    refine iteF ⟨_, rfl, _, rfl, _, rfl, x, u, b, fl, [], e.p, c, rfl, hx, hB, h3, k2, gd.up, gd.nd, gd.len, gd.keys, lk, ok.p1, by show 0 + e.p.length ≤ 9; omega, by omega, fun u H' s d => q u H' s ?_⟩
    unfold mkF
    rw [k1]
    exact d
/-! ### apply_rule -/
theorem sc_apply_rule : FnScope ["rule", "document", "collection", "condition", "actions", "current", "effects", "entry", "action", "effect"] ["rule", "document"] (defScope s_apply_rule) := ⟨rfl, rfl, rfl, by decide +kernel, rfl, by decide +kernel, by decide +kernel⟩

def sp_apply_rule (K : PySem.W.Frag) : Sp := fun vs H Q _ => ∃ (v x : V) (col : Option (List Str)) (c : Option Cd) (as : List Ac) (fl : Fl) (ws : List Str), vs = [v, x] ∧ DT K H v (ruD col c (as.map acD)) ∧ DT K H x (.tup (doc fl [])) ∧ RuOk ws fl col c as ∧ ∀ u H', Same H H' → DT K H' u (resD (ruleF fl col c as)) → Q u H'

theorem ok_apply_rule {f : Addr} {fd : FuncData} (F : Fun K "apply_rule" "apply_rule" s_apply_rule f fd) (T : Top K w mg) {a_subjects : Addr} {d_subjects : FuncData} (C_subjects : Cal P w K mg base "subjects" 45 ["collection", "condition", "document"] sp_subjects a_subjects d_subjects) {a_effect_of : Addr} {d_effect_of : FuncData} (C_effect_of : Cal P w K mg base "effect_of" 4 ["action", "entry", "current", "before"] sp_effect_of a_effect_of d_effect_of) {a_with_effect : Addr} {d_with_effect : FuncData} (C_with_effect : Cal P w K mg base "with_effect" 13 ["document", "effect"] sp_with_effect a_with_effect d_with_effect) : FnOk P w K mg base CX0 46 f fd ["rule", "document"] (sp_apply_rule K) := by
  have sc := sc_apply_rule
  refine F.ok sc (fun vs H Q E h => ?_) (fun cdv A outer s H vs Q E hr h => ?_)
  · obtain ⟨v, x, col, c, as, f0, ws, rfl, _⟩ := h
    rfl
  obtain ⟨v, x, col, c, as, f0, ws, rfl, hv, hx, ok, q⟩ := h
  refine ⟨_, (pss_cons (ps_asg (pv 0) (pg_tup rfl (pgs_cons (pg_name (i := 2) sc.nd rfl (Or.inl rfl)) (pgs_cons (pg_name (i := 3) sc.nd rfl (Or.inl rfl)) (pgs_cons (pg_name (i := 4) sc.nd rfl (Or.inl rfl)) pgs_nil)))))
    (pss_cons (ps_set (i := 5) sc.nd rfl (Or.inl rfl) (pv 1))
    (pss_cons (ps_set (i := 6) sc.nd rfl (Or.inl rfl) (pe_lst pa_nil))
    (pss_cons (ps_for PassesOwn.never rfl (kpi_list (K := K) rfl (pe_call C_subjects.ok (hr.mono (by omega)) (by rfl) C_subjects.m C_subjects.kp C_subjects.b .nil pass0 (pa_cons (pv 2) (pa_cons (pv 3) (pa_cons (pv 1) pa_nil))))) (pg_name (i := 7) sc.nd rfl (Or.inl rfl))
      (pss_one (ps_for PassesOwn.never rfl (kpi_tup (K := K) rfl (pv 4)) (pg_name (i := 8) sc.nd rfl (Or.inl rfl))
        (pss_cons (ps_if (pt_cmpR op_eq (pe_ix (kx_tup (K := K) rfl) (pv 8) pe_int (fun _ _ => rfl)) pe_str (nomark _))
          (pss_one (ps_ret (pe_tup (pa_cons pe_str (pa_cons (pe_ix (kx_tup (K := K) rfl) (pv 8) pe_int (fun _ _ => rfl)) pa_nil)))))
          pss_nil)
        (pss_cons (ps_set (i := 9) sc.nd rfl (Or.inl rfl) (pe_call C_effect_of.ok (hr.mono (by omega)) (by rfl) C_effect_of.m C_effect_of.kp C_effect_of.b .nil pass0 (pa_cons (pv 8) (pa_cons (pv 7) (pa_cons (pv 5) (pa_cons (pv 1) pa_nil))))))
        (pss_one (ps_if (pt_cmpR op_notN (pv 9) pe_non (nomark _))
          (pss_cons (ps_set (i := 5) sc.nd rfl (Or.inl rfl) (pe_call C_with_effect.ok (hr.mono (by omega)) (by rfl) C_with_effect.m C_with_effect.kp C_with_effect.b .nil pass0 (pa_cons (pv 5) (pa_cons (pv 9) pa_nil))))
          (pss_one (ps_expr (pe_bm PySem.F.plainAttrs_list PySem.F.slot_list_append PySem.F.type_list_append mt_append (pv 6) (pa_cons (pv 9) pa_nil)))))
          pss_nil)))))))
    (pss_one (ps_ret (pe_tup (pa_cons pe_str (pa_cons (pv 5) (pa_cons (pe_callTy (kc_tuple (K := K) rfl) (by rfl) T.z_tuple (by decide +kernel) (pa_cons (pv 6) pa_nil)) pa_nil)))))))))), ?_⟩

  obtain ⟨wf, hks, lf, la, lc, co, ac⟩ := ok
  obtain ⟨a, xs, rfl, hS, hts⟩ := dt_tup hv
  obtain ⟨x1, x2, x3, rfl, h1, h2, h3⟩ := hts.three
  obtain ⟨b, ys, rfl, hB, hys⟩ := dt_tup h3
  have ly := hys.length
  rw [List.length_map] at ly
  refine ⟨_, rfl, a, _, rfl, hS, rfl, _, _, rfl, _, _, rfl, _, _, rfl, rfl, ?_⟩
  refine ⟨_, rfl, (by show 0 ≤ sizeLine; decide), fun E1 hE1 => ?_⟩
  have s1 := same_new hE1 (.lst [])
  have eE : (upd H E1 (.lst [])) E1 = some (.lst []) := upd_same
  have s1' := s1
  refine ⟨_, rfl, _, rfl, _, rfl, x1, x2, x, col, c, f0, rfl, h1.same s1, h2.same s1, hx.same s1, wf.toUp, by omega, lc, co, fun S zs H2 s2 hSn eS hzs => ?_⟩
  have s12 := s1.trans s2
  have eE2 := s2 _ _ eE
  have nES : E1 ≠ S := ne_of_none eE hSn
  obtain ⟨L, hL⟩ : ∃ L, L = subQ f0 col c := ⟨_, rfl⟩
  have lL : L.length ≤ 1001 := by
    rw [hL]
    have := spotsQ_len f0 col
    have := List.length_filter_le (fun s => cdQ f0 s c) (spotsQ f0 col)
    show (List.filter _ _).length ≤ 1001
    omega
  rw [← hL] at hzs
  have lz := hzs.length
  rw [List.length_map] at lz
  have tot : subsF f0 as (L.map fun s => s.getD []) f0 [] = ruleF f0 col c as := by rw [hL]; rfl
  have sco : ∀ {fl : Fl}, Wf ws fl → ∀ p c, getF fl p = some c → scOk c := fun wf p c h => (wf.pa p c h).2.2.2
  -- what changes: the list of effects alone
  have same2 : ∀ {Ha : Hp}, Sm E1 H2 Ha → Same H Ha := fun {Ha} sm bb o hb => by
    have n : bb ≠ E1 := ne_of_none hb hE1
    exact sm _ _ n (s12 _ _ hb)
  refine ⟨S, rfl, ⟨_, SqL.of eS⟩, ?_⟩
  refine for_it (walk_list (K := K) (a := S) (xs := zs)) (fun i σ H' => Sm E1 H2 H' ∧ ∃ (acc : List V) (fl : Fl) (es : List Ef) (cur : V) (v7 v8 v9 : Option V), H' E1 = some (.lst acc) ∧ DTs K H' acc (es.map efD) ∧ DT K H' cur (.tup (doc fl [])) ∧ Wf ws fl ∧ fl.length ≤ 1000 + 90 * i ∧ es.length ≤ 15 * i ∧ subsF f0 as ((L.drop i).map fun s => s.getD []) fl es = ruleF f0 col c as ∧ σ = [some (.ref a), some x, some x1, some x2, some (.ref b), some cur, some (.ref E1), v7, v8, v9])
    ⟨Sm.refl _ _, [], f0, [], x, _, _, _, eE2, .nil, hx.same s12, wf, by omega, Nat.zero_le _, tot, rfl⟩ (fun i σ H' _ h => SqL.of (h.1 _ _ nES.symm eS)) ?_ ?_
  · rintro i y σ H3 H4 hi ⟨sm3, acc, fl, es, cur, v7, v8, v9, eE3, hacc, hcur, wf3, lf3, le3, ht, rfl⟩ ⟨rfl, hy⟩
    obtain ⟨dd, ed, dy⟩ := hzs.get' hy
    rw [List.getElem?_map] at ed
    obtain ⟨sp, esp, rfl⟩ := Option.map_eq_some_iff.mp ed
    obtain ⟨hi2, esp2⟩ := List.getElem?_eq_some_iff.mp esp
    have hsp : sp ∈ spotsQ f0 col := by
      have := List.mem_of_getElem? esp
      rw [hL] at this
      exact subQ_sub this
    have hB4 := (same2 sm3).seqT hB
    have r0 : restF f0 as (sp.getD []) as ((L.drop (i + 1)).map fun s => s.getD []) fl es = ruleF f0 col c as := by
      rw [← ht, List.drop_eq_getElem_cons hi2, esp2]
      rfl
    refine ⟨_, rfl, b, rfl, ⟨_, hB4⟩, ?_⟩
    refine for_it (walk_tup (K := K) (a := b) (xs := ys)) (fun j σ H' => Sm E1 H2 H' ∧ ∃ (acc : List V) (fl : Fl) (es : List Ef) (cur : V) (v8 v9 : Option V), H' E1 = some (.lst acc) ∧ DTs K H' acc (es.map efD) ∧ DT K H' cur (.tup (doc fl [])) ∧ Wf ws fl ∧ fl.length ≤ 1000 + 90 * i + 6 * j ∧ es.length ≤ 15 * i + j ∧ restF f0 as (sp.getD []) (as.drop j) ((L.drop (i + 1)).map fun s => s.getD []) fl es = ruleF f0 col c as ∧ σ = [some (.ref a), some x, some x1, some x2, some (.ref b), some cur, some (.ref E1), some y, v8, v9])
      ⟨sm3, acc, fl, es, cur, v8, v9, eE3, hacc, hcur, wf3, by omega, by omega, r0, rfl⟩ (fun j σ H' _ h => (same2 h.1).seqT hB) ?_ ?_
    · rintro j yj σ H5 H6 hj ⟨sm5, acc, fl, es, cur, v8, v9, eE5, hacc, hcur, wf5, lf5, le5, ht5, rfl⟩ ⟨rfl, hyj⟩
      obtain ⟨dd, edj, dyj⟩ := hys.get' hyj
      rw [List.getElem?_map] at edj
      obtain ⟨ac0, eac, rfl⟩ := Option.map_eq_some_iff.mp edj
      obtain ⟨hj2, eac2⟩ := List.getElem?_eq_some_iff.mp eac
      have hac := ac sp hsp ac0 (List.mem_of_getElem? eac)
      have hs6 := same2 sm5
      have dyj := dyj.same hs6
      obtain ⟨ab, axs, rfl, hA, harej⟩ := acD_word dyj
      rw [List.drop_eq_getElem_cons hj2, eac2] at ht5
      have li : 15 * i ≤ 15015 := by omega
      refine ⟨_, rfl, ab, _, 0, _, rfl, rfl, hA, atI_nat (j := 0) rfl, rfl, _, rfl, ?_⟩
      rw [acW_rej]
      cases hr : isRej ac0 with
      | true =>
        obtain ⟨r, rfl⟩ : ∃ r, ac0 = .rej r := by
          cases ac0 with
          | rej r => exact ⟨r, rfl⟩
          | _ => cases hr
        have er := harej r rfl
        subst er
        refine iteT ⟨_, rfl, ab, _, 1, _, rfl, rfl, hA, rfl, (by show 2 ≤ sizeLine; decide), fun o ho => ?_⟩
        refine q _ _ (hs6.trans (same_new ho _)) ?_
        rw [← ht5]
        exact .tup (SqT.of upd_same) (.cons (.str _) (.cons (.str _) .nil))
      | false =>
        unfold restF at ht5
        rw [actsF_cons hr] at ht5
        refine iteF ?_
        refine ⟨_, rfl, _, rfl, _, rfl, _, rfl, .ref ab, y, cur, x, ac0, sp, f0, fl, ws, rfl, dyj, dy.smL sm5 eE2, hcur, hx.same hs6, wf5.toUp, wf.toUp, hac, hr, sco wf5, fun u H7 s7 du => ?_⟩
        have lj : j < as.length := hj2
        cases he : effF f0 fl (sp.getD []) ac0 with
        | none =>
          rw [he] at du ht5
          cases du
          refine ⟨_, rfl, rfl, _, rfl, iteF ⟨sm5.trans (Sm.same s7), acc, fl, es, cur, _, _, s7 _ _ eE5, hacc.same s7, hcur.same s7, wf5, by omega, by omega, ?_, rfl⟩⟩
          unfold restF
          exact ht5
        | some e =>
          rw [he] at du ht5
          have eok := eff_ok (us := ws) (fun p c h => sco wf p c h) hac he
          have l5 := eok.1.p5
          have wf6 := wf5.mkE eok.1 eok.2
          obtain ⟨ub, uxs, rfl, hU, _⟩ := dt_tup (show DT K H7 u (efD e) from du)
          refine ⟨_, rfl, rfl, _, rfl, iteT ?_⟩
          refine ⟨_, rfl, _, rfl, cur, .ref ub, fl, e, rfl, hcur.same s7, du, eok.1, wf5.gd hks (by omega), fun k hk => hks k (eok.2 k hk), fun nc H8 s8 dn => ?_⟩
          have s78 := s7.trans s8
          have eE8 := s78 _ _ eE5
          have la2 := hacc.length
          rw [List.length_map] at la2
          refine ⟨_, rfl, .inl ⟨rfl, _, SqL.of eE8⟩, _, rfl, E1, acc, _, rfl, rfl, eE8, lt_line (by omega), ?_⟩
          have ml := mk_len fl l5
          refine ⟨(sm5.trans (Sm.same s78)).trans Sm.put, acc ++ [.ref ub], mkF fl e, es ++ [e], nc, _, _, upd_same, ?_, dn.lput eE8, wf6, by omega, by rw [List.length_append]; show _ + 1 ≤ _; omega, ?_, rfl⟩
          · rw [List.map_append]
            exact ((hacc.same s78).append (.cons (du.same s8) .nil)).lput eE8
          · unfold restF
            exact ht5
    · rintro σ H5 ⟨sm5, acc, fl, es, cur, v8, v9, eE5, hacc, hcur, wf5, lf5, le5, ht5, rfl⟩
      refine ⟨sm5, acc, fl, es, cur, _, _, _, eE5, hacc, hcur, wf5, by omega, by omega, ?_, rfl⟩
      rw [ly, List.drop_length] at ht5
      exact ht5
  · rintro σ H3 ⟨sm3, acc, fl, es, cur, v7, v8, v9, eE3, hacc, hcur, wf3, lf3, le3, ht, rfl⟩
    rw [lz, List.drop_length] at ht
    refine ⟨_, rfl, _, rfl, E1, acc, rfl, .inl ⟨SqL.of eE3, fun o ho => ⟨(by show 3 ≤ sizeLine; decide), fun o2 ho2 => ?_⟩⟩⟩
    refine q _ _ (((same2 sm3).trans (same_new ho _)).trans (same_new ho2 _)) ?_
    rw [← ht]
    exact .tup (SqT.of upd_same) (.cons (.str _) (.cons ((hcur.same (same_new ho _)).same (same_new ho2 _)) (.cons ((DT.tup (SqT.of upd_same) (hacc.same (same_new ho _))).same (same_new ho2 _)) .nil)))
/-! ### _law_tape -/
theorem sc_law_tape : FnScope ["script", "total", "cell"] ["script"] (defScope s_law_tape) := ⟨rfl, rfl, rfl, by decide +kernel, rfl, by decide +kernel, by decide +kernel⟩



def sp_law_tape (K : PySem.W.Frag) : Sp := fun vs H Q _ => ∃ (a : Addr) (ns : List Int), vs = [.ref a] ∧ SqL K H a (ns.map V.int) ∧ ns.length ≤ 63 ∧ ∀ t H', Tape H' t → H t = none → Same H H' → Q (.ref t) H'

theorem ok_law_tape {f : Addr} {fd : FuncData} (F : Fun K "_law_tape" "_law_tape" s_law_tape f fd) (T : Top K w mg) : FnOk P w K mg base CX0 1 f fd ["script"] (sp_law_tape K) := by
  have sc := sc_law_tape
  refine F.ok sc (fun vs H Q E h => ?_) (fun cdv A outer s H vs Q E hr h => ?_)
  · obtain ⟨a, ns, rfl, _⟩ := h
    rfl
  obtain ⟨a, ns, rfl, hS, hn, q⟩ := h
  refine ⟨_, (pss_cons (ps_set (i := 1) sc.nd rfl (Or.inl rfl) pe_int)
    (pss_cons (ps_for PassesOwn.never rfl (kpi_list (K := K) rfl (pv 0)) (pg_name (i := 2) sc.nd rfl (Or.inl rfl))
      (pss_one (ps_set (i := 1) sc.nd rfl (Or.inl rfl) (pe_op op_modN (pe_callTy call_int1 (by rfl) T.z_int (by decide +kernel) (pa_cons (pe_op op_add (pe_op op_mul (pv 1) pe_int) (pe_callB call_abs (by rfl) T.z_abs (by decide +kernel) (pa_cons (pe_callTy call_int1 (by rfl) T.z_int (by decide +kernel) (pa_cons (pv 2) pa_nil)) pa_nil))) pa_nil)) pe_int))))
    (pss_one (ps_ret (pe_lst (pa_cons (pe_callTy (kc_list (K := K) rfl) (by rfl) T.z_list (by decide +kernel) (pa_cons (pv 0) pa_nil)) (pa_cons pe_int (pa_cons pe_int (pa_cons (pv 1) pa_nil))))))))), ?_⟩

  have hlen : (ns.map V.int).length = ns.length := List.length_map _
  refine ⟨_, rfl, a, rfl, ⟨_, hS⟩, for_list (K := K) (a := a) (xs := ns.map V.int) (fun i σ H' => H' = H ∧ ∃ (z : Int) (v : Option V), σ = [some (.ref a), some (.int z), v]) ⟨rfl, 7, none, rfl⟩ (fun i σ H' _ ⟨e, _⟩ => e ▸ hS) ?_ ?_⟩
  · rintro i y σ H' hi ⟨rfl, z, v, rfl⟩
    obtain ⟨u, rfl, _⟩ := int_get hi
    refine ⟨_, rfl, _, _, rfl, rfl, .inr ⟨by decide, by decide⟩, ?_⟩
    refine ⟨_, rfl, .inl ⟨_, rfl, _, rfl, ?_⟩⟩
    refine ⟨_, _, rfl, rfl, .inl ⟨_, rfl, _, _, rfl, rfl, (by show (2147483647 : Int) ≠ 0; decide), rfl, _, _, rfl⟩⟩
  · rintro σ H' ⟨rfl, z, v, rfl⟩
    refine ⟨_, rfl, a, _, rfl, .inl hS, fun l hl => ⟨_, rfl, ?_⟩⟩
    refine ⟨(by show 4 ≤ sizeLine; decide), fun t ht => ?_⟩
    have e1 : l ≠ t := ne_of_none upd_same ht
    refine q t _ ⟨l, ns, 0, 0, z, upd_same, by rw [upd_ne e1]; exact upd_same, e1, by omega, hn⟩ ?_ (Same.late (same_new hl _) (by rw [upd_ne e1.symm] at ht; exact ht))
    rw [upd_ne e1.symm] at ht
    exact ht
/-! ### _law_draw -/
theorem sc_law_draw : FnScope ["tape", "many", "number", "place"] ["tape", "many"] (defScope s_law_draw) := ⟨rfl, rfl, rfl, by decide +kernel, rfl, by decide +kernel, by decide +kernel⟩

def sp_law_draw (K : PySem.W.Frag) : Sp := fun vs H Q _ => ∃ (t : Addr) (m : Int), vs = [.ref t, .int m] ∧ Tape H t ∧ -(2 ^ 62) < m ∧ m < 2 ^ 62 ∧ ∀ r H', 0 ≤ r → (r < m ∨ r = 0) → Go t H H' → Q (.int r) H'

theorem ok_law_draw {f : Addr} {fd : FuncData} (F : Fun K "_law_draw" "_law_draw" s_law_draw f fd) (T : Top K w mg) : FnOk P w K mg base CX0 1 f fd ["tape", "many"] (sp_law_draw K) := by
  have sc := sc_law_draw
  refine F.ok sc (fun vs H Q E h => ?_) (fun cdv A outer s H vs Q E hr h => ?_)
  · obtain ⟨t, m, rfl, _⟩ := h
    rfl
  obtain ⟨t, m, rfl, hT, hm0, hm, q⟩ := h
  refine ⟨_, (C8.pss_cut (ps_if (pt_cmpR op_eq (pe_ix (kx_list (K := K) rfl) (pv 0) pe_int (fun _ _ => rfl)) pe_int (nomark _))
      (pss_cons (ps_set (i := 3) sc.nd rfl (Or.inl rfl) (pe_ix (kx_list (K := K) rfl) (pv 0) pe_int (fun _ _ => rfl)))
      (pss_cons (ps_set (i := 2) sc.nd rfl (Or.inl rfl) pe_int)
      (C8.pss_cut (ps_if (pt_cmpR op_lt (pv 3) (pe_callB (kc_lenS (K := K) rfl) (by rfl) T.z_len (by decide +kernel) (pa_cons (pe_ix (kx_list (K := K) rfl) (pv 0) pe_int (fun _ _ => rfl)) pa_nil)) (nomark _))
        (pss_one (ps_set (i := 2) sc.nd rfl (Or.inl rfl) (pe_callB call_abs (by rfl) T.z_abs (by decide +kernel) (pa_cons (pe_callTy call_int1 (by rfl) T.z_int (by decide +kernel) (pa_cons (pe_ix (kx_list (K := K) rfl) (pe_ix (kx_list (K := K) rfl) (pv 0) pe_int (fun _ _ => rfl)) (pv 3) (fun _ _ => rfl)) pa_nil)) pa_nil))))
        (pss_cons (ps_asg (pe_op op_modN (pe_callTy call_int1 (by rfl) T.z_int (by decide +kernel) (pa_cons (pe_op op_add (pe_op op_add (pe_op op_mul (pe_ix (kx_list (K := K) rfl) (pv 0) pe_int (fun _ _ => rfl)) pe_int) (pv 3)) pe_int) pa_nil)) pe_int) (pg_sub (pv 0) pe_int set_list))
        (pss_one (ps_set (i := 2) sc.nd rfl (Or.inl rfl) (pe_ix (kx_list (K := K) rfl) (pv 0) pe_int (fun _ _ => rfl))))))
      (pss_cons (ps_asg (pe_op op_add (pv 3) pe_int) (pg_sub (pv 0) pe_int set_list))
      (pss_cons (ps_if (pt_cmpR op_lt (pv 2) (pe_op op_pow pe_int pe_int) (nomark _))
        (pss_cons (ps_set (i := 2) sc.nd rfl (Or.inl rfl) (pe_op op_modN (pe_callTy call_int1 (by rfl) T.z_int (by decide +kernel) (pa_cons (pe_op op_add (pe_op op_add (pe_op op_mul (pv 2) pe_int) (pe_op op_mul (pv 3) pe_int)) pe_int) pa_nil)) pe_int))
        (pss_cons (ps_set (i := 2) sc.nd rfl (Or.inl rfl) (pe_op op_modN (pe_callTy call_int1 (by rfl) T.z_int (by decide +kernel) (pa_cons (pe_op op_mul (pv 2) pe_int) pa_nil)) pe_int))
        (pss_one (ps_ret (pe_op op_modN (pe_callTy call_int1 (by rfl) T.z_int (by decide +kernel) (pa_cons (pv 2) pa_nil)) (pe_callB (call_max2 rfl) (by rfl) T.z_max (by decide +kernel) (pa_cons (pv 1) (pa_cons pe_int pa_nil))))))))
        pss_nil)
      (pss_one (ps_asg (pv 2) (pg_sub (pv 0) pe_int set_list))))))))
      pss_nil)
    (pss_cons (ps_set (i := 2) sc.nd rfl (Or.inl rfl) (pe_ix (kx_list (K := K) rfl) (pv 0) pe_int (fun _ _ => rfl)))
    (pss_cons (ps_asg (pe_op op_fdivW (pv 2) (pe_callB (call_max2 rfl) (by rfl) T.z_max (by decide +kernel) (pa_cons (pv 1) (pa_cons pe_int pa_nil)))) (pg_sub (pv 0) pe_int set_list))
    (pss_one (ps_ret (pe_op op_modN (pe_callTy call_int1 (by rfl) T.z_int (by decide +kernel) (pa_cons (pv 2) pa_nil)) (pe_callB (call_max2 rfl) (by rfl) T.z_max (by decide +kernel) (pa_cons (pv 1) (pa_cons pe_int pa_nil))))))))), ?_⟩

  obtain ⟨l, ns, a, b, c, h1, h2, h3, h4, h5⟩ := hT.ex
  have hlen : (ns.map V.int).length = ns.length := List.length_map _
  have hmax : (if (1 : Int) > m then 1 else m) ≠ 0 := by split <;> omega
  have last : ∀ (n : Int) (H' : Hp), Go t H H' → Q (.int (n.fmod (if (1 : Int) > m then 1 else m))) H' := fun n H' g => by
    have e := fmod_in (a := n) (m := if (1 : Int) > m then 1 else m) (by split <;> omega)
    refine q _ _ e.1 ?_ g
    have e2 := e.2
    split at e2 <;> omega
  refine ⟨fun σ H' => Go t H H' ∧ ∃ v1 v2, σ = [some (.ref t), some (.int m), v1, v2], ?_, ?_⟩
  · refine ⟨_, rfl, t, _, 2, _, rfl, rfl, SqL.of h1, rfl, rfl, _, rfl, ite2 (fun c1 => ?_) (fun c1 => ⟨Go.refl hT, _, _, rfl⟩)⟩
    refine ⟨_, rfl, t, _, 1, _, rfl, rfl, SqL.of h1, rfl, ?_⟩
    refine ⟨fun σ H' => (∃ c', H' t = some (.lst [.ref l, .int a, .int b, .int c']) ∧ Sm t H H') ∧ ∃ n : Int, σ = [some (.ref t), some (.int m), some (.int n), some (.int a)], ?_, ?_⟩
    · refine ⟨_, rfl, _, rfl, t, _, 0, _, rfl, rfl, SqL.of h1, rfl, l, _, rfl, .inl (SqL.of h2), _, _, rfl, rfl, _, rfl, ite2 (fun c2 => ?_) (fun c2 => ?_)⟩
      · have c2' : a < ((ns.map V.int).length : Int) := of_decide_eq_true c2
        rw [hlen] at c2'
        have hx : (ns.map V.int)[a.toNat]? = some (.int ns[a.toNat]) := by
          rw [List.getElem?_map, List.getElem?_eq_getElem (by omega)]; rfl
        refine ⟨_, rfl, t, _, 0, _, rfl, rfl, SqL.of h1, rfl, _, rfl, l, _, a, _, rfl, rfl, SqL.of h2, at_of (by omega) hx, ?_⟩
        exact .inl ⟨_, rfl, _, rfl, ⟨c, h1, Sm.refl _ _⟩, _, rfl⟩
      · refine ⟨_, rfl, t, _, 3, _, rfl, rfl, SqL.of h1, rfl, ?_⟩
        refine ⟨_, _, rfl, rfl, .inr ⟨by decide, by decide⟩, _, rfl, _, _, rfl, rfl, _, _, rfl, rfl, .inl ⟨_, rfl, ?_⟩⟩
        refine ⟨_, _, rfl, rfl, (by show (2147483647 : Int) ≠ 0; decide), _, rfl, t, _, 3, 3, rfl, rfl, h1, rfl, ?_⟩
        refine ⟨_, rfl, t, _, 3, _, rfl, rfl, SqL.of upd_same, rfl, ⟨_, upd_same, Sm.put⟩, _, rfl⟩
    · rintro σ H1 ⟨⟨c', e1, s1⟩, n, rfl⟩
      refine ⟨_, rfl, _, _, rfl, rfl, _, rfl, t, _, 1, 1, rfl, rfl, e1, rfl, ?_⟩
      have g1 : Go t H (upd H1 t (.lst [.ref l, .int (a + 1), .int b, .int c'])) := Go.put h1 s1 (s1 _ _ h3 h2) h3 (by omega) h5
      refine ⟨_, rfl, _, _, rfl, rfl, ⟨by decide, by decide, by decide⟩, _, _, rfl, rfl, _, rfl, ite2 (fun c2 => ?_) (fun c2 => ?_)⟩
      · refine ⟨_, rfl, _, _, rfl, rfl, .inr ⟨by decide, by decide⟩, _, rfl, _, _, rfl, rfl, .inr ⟨by decide, by decide⟩, _, _, rfl, rfl, _, _, rfl, rfl, .inl ⟨_, rfl, ?_⟩⟩
        refine ⟨_, _, rfl, rfl, (by show (2147483647 : Int) ≠ 0; decide), _, rfl, _, _, rfl, rfl, .inr ⟨by decide, by decide⟩, .inl ⟨_, rfl, ?_⟩⟩
        refine ⟨_, _, rfl, rfl, (by show (2147483629 : Int) ≠ 0; decide), _, rfl, .inl ⟨_, rfl, _, rfl, _, _, rfl, _, _, rfl, rfl, hmax, ?_⟩⟩
        exact last _ _ g1
      · refine ⟨_, rfl, _, rfl, t, _, 2, 2, rfl, rfl, upd_same, rfl, ?_⟩
        rw [upd_upd]
        exact ⟨Go.put h1 s1 (s1 _ _ h3 h2) h3 (by omega) h5, _, _, rfl⟩
  · rintro σ H1 ⟨g0, v1, v2, rfl⟩
    obtain ⟨l', ns', a', b', c', k1, k2, k3, k4, k5⟩ := g0.tp.ex
    refine ⟨_, rfl, t, _, 2, _, rfl, rfl, SqL.of k1, rfl, _, rfl, _, rfl, _, _, rfl, _, _, rfl, rfl, ?_, ?_⟩
    · exact wide_div (b := 63) (by split <;> omega) (by split <;> omega) (by decide) (by decide)
    refine ⟨_, rfl, t, _, 2, 2, rfl, rfl, k1, rfl, ?_⟩
    refine ⟨_, rfl, .inl ⟨_, rfl, _, rfl, _, _, rfl, _, _, rfl, rfl, hmax, ?_⟩⟩
    exact last _ _ (g0.trans (Go.put k1 (Sm.refl _ _) k2 k3 k4 k5))
/-! ### _law_pick -/
theorem sc_law_pick : FnScope ["tape", "row"] ["tape", "row"] (defScope s_law_pick) := ⟨rfl, rfl, rfl, by decide +kernel, rfl, by decide +kernel, by decide +kernel⟩



def sp_law_pick (K : PySem.W.Frag) : Sp := fun vs H Q _ => ∃ (t : Addr) (row : V), vs = [.ref t, row] ∧ Tape H t ∧
  ((∃ z, row = .str z ∧ 1 ≤ z.length ∧ z.length ≤ 1000000 ∧ ∀ c H', c ∈ z.cps.toList → Go t H H' → Q (.str ⟨#[c]⟩) H') ∨
   (∃ p xs, row = .ref p ∧ p ≠ t ∧ (SqL K H p xs ∨ SqT K H p xs) ∧ 1 ≤ xs.length ∧ xs.length ≤ 1000000 ∧ ∀ v H', v ∈ xs → Go t H H' → Q v H'))

theorem ok_law_pick {f : Addr} {fd : FuncData} (F : Fun K "_law_pick" "_law_pick" s_law_pick f fd) (T : Top K w mg) {a_law_draw : Addr} {d_law_draw : FuncData} (C_law_draw : Cal P w K mg base "_law_draw" 1 ["tape", "many"] sp_law_draw a_law_draw d_law_draw) : FnOk P w K mg base CX0 2 f fd ["tape", "row"] (sp_law_pick K) := by
  have sc := sc_law_pick
  refine F.ok sc (fun vs H Q E h => ?_) (fun cdv A outer s H vs Q E hr h => ?_)
  · obtain ⟨t, row, rfl, _⟩ := h
    rfl
  obtain ⟨t, row, rfl, hT, q⟩ := h
  refine ⟨_, (pss_one (ps_ret (pe_ix (kx_seq (K := K) rfl) (pv 1) (pe_call C_law_draw.ok (hr.mono (by omega)) (by rfl) C_law_draw.m C_law_draw.kp C_law_draw.b .nil pass0 (pa_cons (pv 0) (pa_cons (pe_callB (kc_len (K := K) rfl) (by rfl) T.z_len (by decide +kernel) (pa_cons (pv 1) pa_nil)) pa_nil))) (fun _ _ => rfl)))), ?_⟩

  rcases q with ⟨z, rfl, z1, z2, q⟩ | ⟨p, xs, rfl, np, hS, z1, z2, q⟩
  · refine ⟨_, rfl, _, rfl, _, rfl, _, z.length, rfl, ⟨Nat.le_trans z2 (by decide), rfl⟩, t, z.length, rfl, hT, by omega, by omega, fun r H1 r0 r1 g => ?_⟩
    have hr2 : r.toNat < z.cps.toList.length := by rw [len_codes]; omega
    refine .inr (.inr ⟨z, r, z.cps.toList[r.toNat], rfl, rfl, Nat.le_trans z2 (by decide), at_any (z := r) (j := r.toNat) (by omega) (List.getElem?_eq_getElem hr2), ?_⟩)
    exact q _ _ (List.getElem_mem _) g
  · refine ⟨_, rfl, _, rfl, _, rfl, _, xs.length, rfl, hS.elim (fun h => .inl ⟨xs, h, rfl⟩) (fun h => .inr ⟨xs, h, rfl⟩), t, xs.length, rfl, hT, by omega, by omega, fun r H1 r0 r1 g => ?_⟩
    have hr2 : r.toNat < xs.length := by omega
    have q' := q xs[r.toNat] H1 (List.getElem_mem _) g
    rcases hS with hS | hS
    · exact .inl ⟨p, xs, r, _, rfl, rfl, g.sm.seqL np hS, at_of (by omega) (List.getElem?_eq_getElem hr2), q'⟩
    · exact .inr (.inl ⟨p, xs, r, _, rfl, rfl, g.sm.seqT np hS, at_of (by omega) (List.getElem?_eq_getElem hr2), q'⟩)
/-! ### _law_same -/
theorem sc_law_same : FnScope ["actual", "expected", "k"] ["actual", "expected"] (defScope s_law_same) := ⟨rfl, rfl, rfl, by decide +kernel, rfl, by decide +kernel, by decide +kernel⟩

theorem kit_tuple {K : PySem.W.Frag} {d : Dt} : PySem.W.kitOne K (.type d.name) (.type "tuple") = some (match d with | .tup _ => true | _ => false) := by
  cases d with
  | non => exact kit_ty (a := "NoneType") (b := "tuple") (r := false) (by decide +kernel)
  | bl b => exact kit_ty (a := "bool") (b := "tuple") (r := false) (by decide +kernel)
  | int i => exact kit_ty (a := "int") (b := "tuple") (r := false) (by decide +kernel)
  | str s => exact kit_ty (a := "str") (b := "tuple") (r := false) (by decide +kernel)
  | tup xs => exact kit_ty (a := "tuple") (b := "tuple") (r := true) (by decide +kernel)
theorem kit_bool {K : PySem.W.Frag} {d : Dt} : PySem.W.kitOne K (.type d.name) (.type "bool") = some (match d with | .bl _ => true | _ => false) := by
  cases d with
  | non => exact kit_ty (a := "NoneType") (b := "bool") (r := false) (by decide +kernel)
  | bl b => exact kit_ty (a := "bool") (b := "bool") (r := true) (by decide +kernel)
  | int i => exact kit_ty (a := "int") (b := "bool") (r := false) (by decide +kernel)
  | str s => exact kit_ty (a := "str") (b := "bool") (r := false) (by decide +kernel)
  | tup xs => exact kit_ty (a := "tuple") (b := "bool") (r := false) (by decide +kernel)
theorem kit_str {K : PySem.W.Frag} {d : Dt} : PySem.W.kitOne K (.type d.name) (.type "str") = some (match d with | .str _ => true | _ => false) := by
  cases d with
  | non => exact kit_ty (a := "NoneType") (b := "str") (r := false) (by decide +kernel)
  | bl b => exact kit_ty (a := "bool") (b := "str") (r := false) (by decide +kernel)
  | int i => exact kit_ty (a := "int") (b := "str") (r := false) (by decide +kernel)
  | str s => exact kit_ty (a := "str") (b := "str") (r := true) (by decide +kernel)
  | tup xs => exact kit_ty (a := "tuple") (b := "str") (r := false) (by decide +kernel)
theorem kit_int {K : PySem.W.Frag} {d : Dt} : PySem.W.kitOne K (.type d.name) (.type "int") = some (match d with | .int _ => true | .bl _ => true | _ => false) := by
  cases d with
  | non => exact kit_ty (a := "NoneType") (b := "int") (r := false) (by decide +kernel)
  | bl b => exact kit_ty (a := "bool") (b := "int") (r := true) (by decide +kernel)
  | int i => exact kit_ty (a := "int") (b := "int") (r := true) (by decide +kernel)
  | str s => exact kit_ty (a := "str") (b := "int") (r := false) (by decide +kernel)
  | tup xs => exact kit_ty (a := "tuple") (b := "int") (r := false) (by decide +kernel)


def spSame (n : Nat) (K : PySem.W.Frag) : Sp := fun vs H Q _ => ∃ (x y : V) (d : Dt), vs = [x, y] ∧ DT K H x d ∧ DT K H y d ∧ d.deep ≤ n ∧ d.fits = true ∧ ∀ H', Same H H' → Q (.bl true) H'
abbrev sp_law_same : PySem.W.Frag → Sp := spSame 40


theorem ok_law_same_n {n : Nat} {f : Addr} {fd : FuncData} (F : Fun K "_law_same" "_law_same" s_law_same f fd) (T : Top K w mg) (C_law_same : Cal P w K mg base "_law_same" n ["actual", "expected"] (spSame n) f fd) : FnOk P w K mg base CX0 (n + 1) f fd ["actual", "expected"] (spSame (n + 1) K) := by
  have sc := sc_law_same
  refine F.ok sc (fun vs H Q E h => ?_) (fun cdv A outer s H vs Q E hr h => ?_)
  · obtain ⟨x, y, d, rfl, _⟩ := h
    rfl
  obtain ⟨x, y, d, rfl, hx, hy, hd, hf, q⟩ := h
  refine ⟨_, (pss_cons (ps_if (pt_cmpR op_isN (pv 1) pe_non (nomark _))
      (pss_one (ps_ret (pe_cmpR op_isN (pv 0) pe_non (nomark _))))
      pss_nil)
    (pss_cons (ps_if (pt_val (pe_callB (kc_isi (K := K) rfl) (by rfl) T.z_isinstance (by decide +kernel) (pa_cons (pv 1) (pa_cons (pe_bltn (v := .ty "tuple") (by rfl) T.z_tuple (by decide +kernel) rfl) pa_nil))))
      (pss_cons (ps_if (PW.pt (pw_or (pt_not (pt_val (pe_callB (kc_isi (K := K) rfl) (by rfl) T.z_isinstance (by decide +kernel) (pa_cons (pv 0) (pa_cons (pe_bltn (v := .ty "tuple") (by rfl) T.z_tuple (by decide +kernel) rfl) pa_nil))))) (pw_or1 (pt_cmpR op_ne (pe_callB (kc_len (K := K) rfl) (by rfl) T.z_len (by decide +kernel) (pa_cons (pv 0) pa_nil)) (pe_callB (kc_len (K := K) rfl) (by rfl) T.z_len (by decide +kernel) (pa_cons (pv 1) pa_nil)) (nomark _)))))
        (pss_one (ps_ret pe_bl))
        pss_nil)
      (pss_one (ps_ret (pe_cmpR (kop_eqD (K := K) rfl hr.units) (pe_lc (own := [("k", 2)]) (g := gName 2) rfl sc.nd (pi_range1 (by rfl) T.z_range (pa_cons (pe_callB (kc_len (K := K) rfl) (by rfl) T.z_len (by decide +kernel) (pa_cons (pv 1) pa_nil)) pa_nil)) (blkOk_by (N := ["actual", "expected", "k"]) (sc := defScope s_law_same) (by decide +kernel)) (fun _ _ _ _ _ => pg_name (i := 2) sc.nd rfl (Or.inl rfl)) (fun _ _ _ _ _ => pts_one (pt_not (pt_val (pe_call C_law_same.ok hr (by rfl) C_law_same.m C_law_same.kp C_law_same.b .nil pass0 (pa_cons (pe_ix (kx_seq (K := K) rfl) (pv 0) (pv 2) (fun _ _ => rfl)) (pa_cons (pe_ix (kx_seq (K := K) rfl) (pv 1) (pv 2) (fun _ _ => rfl)) pa_nil)))))) (fun _ _ _ _ _ => (pv 2))) (pe_lst pa_nil) (nomark _)))))
      pss_nil)
    (pss_cons (ps_if (PW.pt (pw_or (pt_val (pe_callB (kc_isi (K := K) rfl) (by rfl) T.z_isinstance (by decide +kernel) (pa_cons (pv 1) (pa_cons (pe_bltn (v := .ty "bool") (by rfl) T.z_bool (by decide +kernel) rfl) pa_nil)))) (pw_or1 (pt_val (pe_callB (kc_isi (K := K) rfl) (by rfl) T.z_isinstance (by decide +kernel) (pa_cons (pv 0) (pa_cons (pe_bltn (v := .ty "bool") (by rfl) T.z_bool (by decide +kernel) rfl) pa_nil)))))))
      (pss_one (ps_ret (pe_and (pe_callB (kc_isi (K := K) rfl) (by rfl) T.z_isinstance (by decide +kernel) (pa_cons (pv 1) (pa_cons (pe_bltn (v := .ty "bool") (by rfl) T.z_bool (by decide +kernel) rfl) pa_nil))) (pe_and (pe_callB (kc_isi (K := K) rfl) (by rfl) T.z_isinstance (by decide +kernel) (pa_cons (pv 0) (pa_cons (pe_bltn (v := .ty "bool") (by rfl) T.z_bool (by decide +kernel) rfl) pa_nil))) (pe_one (pe_cmpR op_eq (pv 0) (pv 1) (nomark _)))))))
      pss_nil)
    (pss_cons (ps_if (pt_val (pe_callB (kc_isi (K := K) rfl) (by rfl) T.z_isinstance (by decide +kernel) (pa_cons (pv 1) (pa_cons (pe_bltn (v := .ty "str") (by rfl) T.z_str (by decide +kernel) rfl) pa_nil))))
      (pss_one (ps_ret (pe_and (pe_callB (kc_isi (K := K) rfl) (by rfl) T.z_isinstance (by decide +kernel) (pa_cons (pv 0) (pa_cons (pe_bltn (v := .ty "str") (by rfl) T.z_str (by decide +kernel) rfl) pa_nil))) (pe_one (pe_cmpR op_eq (pv 0) (pv 1) (nomark _))))))
      pss_nil)
    (pss_one (ps_ret (pe_and (pe_callB (kc_isi (K := K) rfl) (by rfl) T.z_isinstance (by decide +kernel) (pa_cons (pv 0) (pa_cons (pe_bltn (v := .ty "int") (by rfl) T.z_int (by decide +kernel) rfl) pa_nil))) (pe_one (pe_cmpR op_eq (pv 0) (pv 1) (nomark _)))))))))), ?_⟩
  have tx := hx.ty
  have ty := hy.ty
  cases d with
  | non =>
    cases hx; cases hy
    exact ⟨_, rfl, rfl, _, rfl, iteT ⟨_, rfl, rfl, q H (Same.refl H)⟩⟩
  | bl b =>
    cases hx; cases hy
    refine ⟨_, rfl, rfl, _, rfl, iteF ⟨_, rfl, _, _, _, _, _, rfl, .ty _, ty, kit_tuple, _, rfl, iteF ⟨_, rfl, _, _, _, _, _, rfl, .ty _, ty, kit_bool, _, rfl, iteT (iteT ?_)⟩⟩⟩
    refine ⟨_, rfl, _, _, _, _, _, rfl, .ty _, ty, kit_bool, _, rfl, iteT ⟨_, rfl, _, _, _, _, _, rfl, .ty _, tx, kit_bool, _, rfl, iteT ⟨_, rfl, _, rfl, rfl, ?_⟩⟩⟩
    rw [decide_eq_true rfl]
    exact q H (Same.refl H)
  | int i =>
    cases hx; cases hy
    refine ⟨_, rfl, rfl, _, rfl, iteF ⟨_, rfl, _, _, _, _, _, rfl, .ty _, ty, kit_tuple, _, rfl, iteF ⟨_, rfl, _, _, _, _, _, rfl, .ty _, ty, kit_bool, _, rfl, iteF ⟨_, rfl, _, _, _, _, _, rfl, .ty _, tx, kit_bool, _, rfl, iteF ?_⟩⟩⟩⟩
    refine ⟨_, rfl, _, _, _, _, _, rfl, .ty _, ty, kit_str, _, rfl, iteF ⟨_, rfl, _, _, _, _, _, rfl, .ty _, tx, kit_int, _, rfl, iteT ⟨_, rfl, _, rfl, rfl, ?_⟩⟩⟩
    rw [decide_eq_true rfl]
    exact q H (Same.refl H)
  | str i =>
    cases hx; cases hy
    refine ⟨_, rfl, rfl, _, rfl, iteF ⟨_, rfl, _, _, _, _, _, rfl, .ty _, ty, kit_tuple, _, rfl, iteF ⟨_, rfl, _, _, _, _, _, rfl, .ty _, ty, kit_bool, _, rfl, iteF ⟨_, rfl, _, _, _, _, _, rfl, .ty _, tx, kit_bool, _, rfl, iteF ?_⟩⟩⟩⟩
    refine ⟨_, rfl, _, _, _, _, _, rfl, .ty _, ty, kit_str, _, rfl, iteT ⟨_, rfl, _, _, _, _, _, rfl, .ty _, tx, kit_str, _, rfl, iteT ⟨_, rfl, _, rfl, rfl, ?_⟩⟩⟩
    rw [decide_eq_true rfl]
    exact q H (Same.refl H)
  | tup ds =>
    have hx' := hx
    have hy' := hy
    cases hx with
    | @tup a xs _ ha ax =>
    cases hy with
    | @tup b ys _ hb by' =>
    have l1 := ax.length
    have l2 := by'.length
    have hfit : ds.length ≤ 1000000 ∧ Dt.fitss ds = true := by
      unfold Dt.fits at hf
      rw [Bool.and_eq_true] at hf
      exact ⟨of_decide_eq_true hf.1, hf.2⟩
    refine ⟨_, rfl, rfl, _, rfl, iteF ⟨_, rfl, _, _, _, _, _, rfl, .ty _, ty, kit_tuple, _, rfl, iteT ⟨_, rfl, _, _, _, _, _, rfl, .ty _, tx, kit_tuple, _, rfl, iteF ?_⟩⟩⟩
    refine ⟨_, rfl, _, _, rfl, .inr ⟨xs, ha, rfl⟩, _, rfl, _, _, rfl, .inr ⟨ys, hb, rfl⟩, rfl, _, rfl, ?_⟩
    rw [decide_eq_true (show V.int (xs.length : Int) = V.int (ys.length : Int) by rw [l1, l2])]
    refine iteF ?_
    refine ⟨_, rfl, _, _, rfl, .inr ⟨ys, hb, rfl⟩, _, rfl, by omega, by omega, fun D hD => ?_⟩
    refine lc_it (walk_range (lo := 0) (n := (ys.length : Int).toNat)) (fun i H' => Same H H' ∧ H' D = some (.lst [])) ⟨same_new hD _, upd_same⟩ (fun _ _ _ _ => trivial) ?_ ?_
    · rintro i x H1 H2 hi ⟨s1, e1⟩ ⟨rfl, rfl⟩
      have hi2 : i < ds.length := by omega
      obtain ⟨u, eu, du⟩ := ax.get (List.getElem?_eq_getElem hi2)
      obtain ⟨v, ev, dv⟩ := by'.get (List.getElem?_eq_getElem hi2)
      have hm : ds[i] ∈ ds := List.getElem_mem _
      refine ⟨rfl, _, rfl, _, rfl, .inr (.inl ⟨a, xs, _, u, rfl, rfl, s1.seqT ha, at_any (j := i) (by omega) eu, ?_⟩)⟩
      refine ⟨_, rfl, _, rfl, .inr (.inl ⟨b, ys, _, v, rfl, rfl, s1.seqT hb, at_any (j := i) (by omega) ev, ?_⟩)⟩
      refine ⟨u, v, ds[i], rfl, du.same s1, dv.same s1, ?_, Dt.fitss_mem hm hfit.2, fun H3 s3 => ⟨_, rfl, iteF ⟨s1.trans s3, s3 _ _ e1⟩⟩⟩
      have h1 := Dt.deeps_mem hm
      unfold Dt.deep at hd
      omega
    · rintro H1 ⟨s1, e1⟩
      refine ⟨by decide, fun p hp => ?_⟩
      refine ⟨.list [], .list [], .lst (SqL.of (by rw [upd_ne (ne_of_none e1 hp)]; exact e1)) .nil, .lst (SqL.of upd_same) .nil, by decide +kernel, by decide +kernel, ?_⟩
      exact q _ (s1.trans (same_new hp _))
theorem ok_law_same {f : Addr} {fd : FuncData} (F : Fun K "_law_same" "_law_same" s_law_same f fd) (T : Top K w mg) (M : mg "_law_same" = some (.ref f)) : FnOk P w K mg base CX0 40 f fd ["actual", "expected"] (sp_law_same K) := by
  have b := F.binds (ps := ["actual", "expected"]) fun _ _ _ _ _ _ us hl => match us, hl with | [_, _], _ => rfl
  have h : ∀ n, FnOk P w K mg base CX0 n f fd ["actual", "expected"] (spSame n K) := fun n => by
    induction n with
    | zero =>
      refine none_left fun vs H Q E h => ?_
      obtain ⟨x, y, d, _, _, _, hd, _⟩ := h
      cases d <;> simp [Dt.deep] at hd
    | succ n ih => exact ok_law_same_n F T ⟨ih, b, F.kp, M⟩
  exact h 40

/-! ### _law_reserved -/
theorem sc_law_reserved : FnScope ["words"] [] (defScope s_law_reserved) := ⟨rfl, rfl, rfl, by decide +kernel, rfl, by decide +kernel, by decide +kernel⟩

def sp_law_reserved (K : PySem.W.Frag) : Sp := fun vs H Q _ => vs = [] ∧ ∀ p H', Same H H' → H p = none → H' p = some (.lst (resL.map V.str)) → Q (.ref p) H'

theorem ok_law_reserved {f : Addr} {fd : FuncData} (F : Fun K "_law_reserved" "_law_reserved" s_law_reserved f fd) (T : Top K w mg) : FnOk P w K mg base CX0 1 f fd [] (sp_law_reserved K) := by
  have sc := sc_law_reserved
  refine F.ok sc (fun vs H Q E h => ?_) (fun cdv A outer s H vs Q E hr h => ?_)
  · obtain ⟨rfl, q⟩ := h
    rfl
  obtain ⟨rfl, q⟩ := h
  refine ⟨_, (pss_cons (ps_set (i := 0) sc.nd rfl (Or.inl rfl) (pe_lst (pa_cons pe_str (pa_cons pe_str (pa_cons pe_str (pa_cons pe_str (pa_cons pe_str (pa_cons pe_str (pa_cons pe_str (pa_cons pe_str (pa_cons pe_str (pa_cons pe_str (pa_cons pe_str (pa_cons pe_str pa_nil))))))))))))))
    (pss_one (ps_ret (pe_op op_cat (pv 0) (pe_lst (pa_cons pe_str (pa_cons pe_str (pa_cons pe_str pa_nil)))))))), ?_⟩

  refine ⟨(by show 12 ≤ sizeLine; decide), fun p hp => ⟨_, rfl, (by show 3 ≤ sizeLine; decide), fun p2 hp2 => ?_⟩⟩
  refine ⟨p, p2, _, _, rfl, rfl, (same_new hp2 _) _ _ upd_same, upd_same, (by show 15 ≤ sizeLine; decide), fun p3 hp3 => ?_⟩
  have s2 := (same_new hp (.lst (([Str.ofString "hook", Str.ofString "each", Str.ofString "when", Str.ofString "then", Str.ofString "and", Str.ofString "or", Str.ofString "not", Str.ofString "has", Str.ofString "set", Str.ofString "default", Str.ofString "from", Str.ofString "remove"] : List Str).map V.str))).trans (same_new hp2 (.lst (([Str.ofString "reject", Str.ofString "true", Str.ofString "false"] : List Str).map V.str)))
  exact q p3 _ (s2.trans (same_new hp3 _)) (s2.free hp3) upd_same
/-! ### _law_fresh -/
theorem sc_law_fresh : FnScope ["key", "keys", "taken", "others", "k", "each"] ["key", "keys"] (defScope s_law_fresh) := ⟨rfl, rfl, rfl, by decide +kernel, rfl, by decide +kernel, by decide +kernel⟩

theorem res_nodash : ∀ z ∈ resL, 45 ∉ z.cps.toList := by decide +kernel
/-- the k-th other name -/
def othK (z : Str) (k : Nat) : Str := cutS z none (some 12) ++ Str.ofString "-" ++ Str.ofString (toString (k : Int))
theorem oth_codes (z : Str) {k : Nat} (h : k < 10) : (othK z k).cps.toList = z.cps.toList.take 12 ++ [45, 48 + k] := by
  unfold othK
  have e : TL.tl (Str.ofString (toString ((k : Nat) : Int))) = [48 + k] := by rw [TL.tl_num, TL.numL_lt h]
  have e' : (Str.ofString (toString (k : Int))).cps.toList = [48 + k] := e
  rw [app_codes, app_codes, cut_pre z (by decide), e']
  show z.cps.toList.take 12 ++ [45] ++ [48 + k] = _
  rw [List.append_assoc]
  rfl
theorem oth_key {z : Str} (h : KeyT z) {k : Nat} (hk : k < 10) : KeyT (othK z k) := by
  obtain ⟨c, r, e, h1, h2, h3⟩ := isKeyC_iff.mp h
  have dig : ∀ k, k < 10 → 48 + k ∈ keyC := by decide +kernel
  refine isKeyC_iff.mpr ⟨c, r.take 11 ++ [45, 48 + k], ?_, h1, ?_, fun d hd => ?_⟩
  · rw [oth_codes z hk, e]; rfl
  · rw [oth_codes z hk, List.length_append, List.length_take]
    show min 12 _ + 2 ≤ 16
    omega
  · rw [oth_codes z hk] at hd
    rcases List.mem_append.mp hd with q | q
    · exact h3 d (List.mem_of_mem_take q)
    · rcases List.mem_cons.mp q with rfl | q
      · decide +kernel
      · rw [List.mem_singleton.mp q]; exact dig k hk
theorem oth_inj {z : Str} {j k : Nat} (hj : j < 10) (hk : k < 10) (e : othK z j = othK z k) : j = k := by
  have e2 : (othK z j).cps.toList = (othK z k).cps.toList := by rw [e]
  rw [oth_codes z hj, oth_codes z hk] at e2
  have e3 := List.append_cancel_left e2
  have e4 : 48 + j = 48 + k := by simpa using e3
  omega
theorem oth_res {z : Str} {k : Nat} (hk : k < 10) : othK z k ∉ resL := fun h => by
  refine res_nodash _ h ?_
  rw [oth_codes z hk]
  simp
/-- of n + 1 different names one is not among n -/
theorem free_one {z : Str} {ws : List Str} (hn : ws.length < 10) : ∃ k, k < ws.length + 1 ∧ othK z k ∉ ws := by
  apply Classical.byContradiction
  intro no
  have all : ∀ k, k < ws.length + 1 → othK z k ∈ ws := fun k hk => Classical.byContradiction fun q => no ⟨k, hk, q⟩
  have nd : ((List.range (ws.length + 1)).map (othK z)).Nodup := by
    rw [List.nodup_iff_pairwise_ne, List.pairwise_map]
    refine List.Pairwise.imp_of_mem (fun {a b} ha hb hab q => hab (oth_inj (by have := List.mem_range.mp ha; omega) (by have := List.mem_range.mp hb; omega) q)) List.nodup_range
  have sub : (List.range (ws.length + 1)).map (othK z) ⊆ ws := fun x hx => by
    obtain ⟨k, h1, rfl⟩ := List.mem_map.mp hx
    exact all k (List.mem_range.mp h1)
  have := List.Nodup.length_le_of_subset nd sub
  rw [List.length_map, List.length_range] at this
  omega


def sp_law_fresh (K : PySem.W.Frag) : Sp := fun vs H Q _ => ∃ (z : Str) (p : Addr) (ws : List Str), vs = [.str z, .ref p] ∧ H p = some (.lst (ws.map V.str)) ∧ KeyT z ∧ ws.length ≤ 8 ∧ ∀ u H', KeyT u → u ∉ ws → u ∉ resL → Same H H' → Q (.str u) H'

theorem ok_law_fresh {f : Addr} {fd : FuncData} (F : Fun K "_law_fresh" "_law_fresh" s_law_fresh f fd) (T : Top K w mg) {a_law_reserved : Addr} {d_law_reserved : FuncData} (C_law_reserved : Cal P w K mg base "_law_reserved" 1 [] sp_law_reserved a_law_reserved d_law_reserved) : FnOk P w K mg base CX0 2 f fd ["key", "keys"] (sp_law_fresh K) := by
  have sc := sc_law_fresh
  refine F.ok sc (fun vs H Q E h => ?_) (fun cdv A outer s H vs Q E hr h => ?_)
  · obtain ⟨z, p, ws, rfl, _⟩ := h
    rfl
  obtain ⟨z, p, ws, rfl, hp, hz, hw, q⟩ := h
  refine ⟨_, (pss_cons (ps_set (i := 2) sc.nd rfl (Or.inr rfl) (pe_op op_cat (pv 1) (pe_call0 C_law_reserved.ok (hr.mono (by omega)) (by rfl) C_law_reserved.m C_law_reserved.kp C_law_reserved.b .nil pass0)))
    (pss_cons (ps_set (i := 3) sc.nd rfl (Or.inl rfl) (pe_op op_cat (pe_lst (pa_cons (pv 0) pa_nil)) (pe_lc (own := [("k", 4)]) (g := gName 4) (tt := tYes) rfl sc.nd (pi_range1 (by rfl) T.z_range (pa_cons (pe_op op_add (pe_callB (kc_lenS (K := K) rfl) (by rfl) T.z_len (by decide +kernel) (pa_cons (pv 1) pa_nil)) pe_int) pa_nil)) (blkOk_by (N := ["key", "keys", "taken", "others", "k", "each"]) (sc := defScope s_law_fresh) (by decide +kernel)) (fun _ _ _ _ _ => pg_name (i := 4) sc.nd rfl (Or.inl rfl)) (fun _ _ _ _ _ => pts_nil) (fun _ _ _ _ _ => (pe_op op_add_str (pe_op op_add_str (pe_slice sl_str (pv 0) po_none (po_some pe_int)) pe_str) (pe_callTy call_str_int (by rfl) T.z_str (by decide +kernel) (pa_cons (pv 4) pa_nil)))))))
    (pss_one (ps_ret (pe_ix (kx_list (K := K) rfl) (pe_lc (own := [("each", 5)]) (g := gName 5) rfl sc.nd (kpi_list (K := K) rfl (pv 3)) (blkOk_by (N := ["key", "keys", "taken", "others", "k", "each"]) (sc := defScope s_law_fresh) (by decide +kernel)) (fun _ _ _ _ _ => pg_name (i := 5) sc.nd rfl (Or.inl rfl)) (fun _ _ _ _ _ => pts_one (pt_cmpR (kop_notIn (K := K) rfl) (pv 5) (pv 2) rfl)) (fun _ _ _ _ _ => (pv 5))) pe_int (fun _ _ => rfl)))))), ?_⟩

  have l2 : (ws.map V.str).length = ws.length := List.length_map _
  refine ⟨_, rfl, rfl, fun r H1 s1 nr er => ?_⟩
  refine ⟨p, r, _, _, rfl, rfl, s1 _ _ hp, er, le_line (by rw [List.length_map, List.length_map]; show ws.length + 15 ≤ _; omega), fun tk htk => ?_⟩
  have s2 := s1.trans (same_new htk (.lst (ws.map V.str ++ resL.map V.str)))
  have et : (upd H1 tk (.lst (ws.map V.str ++ resL.map V.str))) tk = some (.lst ((ws ++ resL).map V.str)) := by rw [upd_same, List.map_append]
  generalize upd H1 tk (.lst (ws.map V.str ++ resL.map V.str)) = H2 at s2 et
  refine ⟨_, rfl, (by show 1 ≤ sizeLine; decide), fun o1 ho1 => ?_⟩
  have s3 := s2.trans (same_new ho1 (.lst [V.str z]))
  have et3 := (same_new ho1 (.lst [V.str z])) _ _ et
  have eo3 : (upd H2 o1 (.lst [V.str z])) o1 = some (.lst [V.str z]) := upd_same
  generalize upd H2 o1 (.lst [V.str z]) = H3 at s3 et3 eo3
  refine ⟨_, rfl, p, _, rfl, .inl (SqL.of (s3 _ _ hp)), _, _, rfl, rfl, _, rfl, by omega, by omega, fun D hD => ?_⟩
  refine lc_pure (walk_range (lo := 0) (n := (((ws.map V.str).length : Int) + 1).toNat)) (by omega) (k := 4) (fun i x => x = .int (i : Int)) (fun i => .str (othK z i)) (fun i H x H' _ h => yint h) (fun _ => trivial) ?_ ?_
  · rintro i x acc R hi rfl r
    have l12 := cutS_length z none (some 12)
    have lz := hz.len
    have lk : (Str.ofString (toString (i : Int))).length = 1 := by
      have e : TL.tl (Str.ofString (toString ((i : Nat) : Int))) = [48 + i] := by rw [TL.tl_num, TL.numL_lt (by omega)]
      have e' : (Str.ofString (toString (i : Int))).cps.toList = [48 + i] := e
      rw [← len_codes, e']
      rfl
    have l1 : (Str.ofString "-").length = 1 := by decide +kernel
    exact ⟨_, rfl, _, rfl, z, rfl, le_line (by omega), _, _, rfl, rfl, le_line (by omega), _, rfl, _, rfl, log_small (by omega), _, _, rfl, rfl, le_line (by rw [app_len]; omega), r⟩
  · have nl : ((((ws.map V.str).length : Int) + 1).toNat) = ws.length + 1 := by omega
    rw [nl]
    have s4 := s3.trans (same_new hD (.lst ((List.range (ws.length + 1)).map fun i => V.str (othK z i))))
    have et4 := (same_new hD (.lst ((List.range (ws.length + 1)).map fun i => V.str (othK z i)))) _ _ et3
    have eo4 := (same_new hD (.lst ((List.range (ws.length + 1)).map fun i => V.str (othK z i)))) _ _ eo3
    have eD4 : (upd H3 D (.lst ((List.range (ws.length + 1)).map fun i => V.str (othK z i)))) D = some (.lst ((List.range (ws.length + 1)).map fun i => V.str (othK z i))) := upd_same
    generalize upd H3 D (.lst ((List.range (ws.length + 1)).map fun i => V.str (othK z i))) = H4 at s4 et4 eo4 eD4
    refine ⟨o1, D, _, _, rfl, rfl, eo4, eD4, le_line (by rw [List.length_map, List.length_range]; show 1 + _ ≤ _; omega), fun o2 ho2 => ?_⟩
    have eo : [V.str z] ++ (List.range (ws.length + 1)).map (fun i => V.str (othK z i)) = (z :: (List.range (ws.length + 1)).map (othK z)).map V.str := by
      rw [List.map_cons, List.map_map]; rfl
    rw [eo]
    have s5 := s4.trans (same_new ho2 (.lst ((z :: (List.range (ws.length + 1)).map (othK z)).map V.str)))
    have et5 := (same_new ho2 (.lst ((z :: (List.range (ws.length + 1)).map (othK z)).map V.str))) _ _ et4
    have eo5 : (upd H4 o2 (.lst ((z :: (List.range (ws.length + 1)).map (othK z)).map V.str))) o2 = some (.lst ((z :: (List.range (ws.length + 1)).map (othK z)).map V.str)) := upd_same
    generalize upd H4 o2 (.lst ((z :: (List.range (ws.length + 1)).map (othK z)).map V.str)) = H5 at s5 et5 eo5
    refine ⟨_, rfl, o2, rfl, ⟨_, SqL.of eo5⟩, fun D2 hD2 => ?_⟩
    refine lc_filterS (K := K) (k := 5) (ws := z :: (List.range (ws.length + 1)).map (othK z)) (fun u => !decide (u ∈ ws ++ resL)) (by show 5 < 6; decide) (SqL.of eo5) hD2 (by rw [List.length_cons, List.length_map, List.length_range]; omega) ?_ ?_
    · intro i u acc R hu r
      refine ⟨_, rfl, _, rfl, tk, _, rfl, .inl (SqL.of ((same_new hD2 _) _ _ et5)), rfl, flat_strs _, _, rfl, ?_⟩
      rw [inV_strs]
      exact r
    · obtain ⟨k, hk, nk⟩ := free_one (z := z) (ws := ws) (by omega)
      have mem : othK z k ∈ (z :: (List.range (ws.length + 1)).map (othK z)).filter (fun u => !decide (u ∈ ws ++ resL)) := by
        refine List.mem_filter.mpr ⟨List.mem_cons_of_mem _ (List.mem_map.mpr ⟨k, List.mem_range.mpr hk, rfl⟩), ?_⟩
        have n2 : othK z k ∉ ws ++ resL := fun h => (List.mem_append.mp h).elim nk (oth_res (by omega))
        simp only [n2, decide_false, Bool.not_false]
      obtain ⟨u, r, eu⟩ := List.exists_cons_of_ne_nil (List.ne_nil_of_mem mem)
      have hu : u ∈ (z :: (List.range (ws.length + 1)).map (othK z)).filter (fun u => !decide (u ∈ ws ++ resL)) := by rw [eu]; exact List.mem_cons_self
      obtain ⟨h1, h2⟩ := List.mem_filter.mp hu
      have h3 : u ∉ ws ++ resL := by simpa using h2
      rw [eu]
      refine ⟨D2, _, 0, _, rfl, rfl, SqL.of upd_same, atI_nat (j := 0) rfl, ?_⟩
      refine q u _ ?_ (fun h => h3 (List.mem_append_left _ h)) (fun h => h3 (List.mem_append_right _ h)) (s5.trans (same_new hD2 _))
      rcases List.mem_cons.mp h1 with rfl | h1
      · exact hz
      · obtain ⟨j, hj, rfl⟩ := List.mem_map.mp h1
        exact oth_key hz (by have := List.mem_range.mp hj; omega)
/-! ### _law_key -/
theorem sc_law_key : FnScope ["tape", "stem", "letters", "signs", "key", "k"] ["tape", "stem"] (defScope s_law_key) := ⟨rfl, rfl, rfl, by decide +kernel, rfl, by decide +kernel, by decide +kernel⟩

def sp_law_key (K : PySem.W.Frag) : Sp := fun vs H Q _ => ∃ (t : Addr) (st : Str), vs = [.ref t, .str st] ∧ Tape H t ∧ (st = Str.ofString "" ∨ (KeyT st ∧ st.length ≤ 14)) ∧ ∀ z H', KeyT z → Go t H H' → Q (.str z) H'

theorem ok_law_key {f : Addr} {fd : FuncData} (F : Fun K "_law_key" "_law_key" s_law_key f fd) (T : Top K w mg) {a_law_draw : Addr} {d_law_draw : FuncData} (C_law_draw : Cal P w K mg base "_law_draw" 1 ["tape", "many"] sp_law_draw a_law_draw d_law_draw) {a_law_pick : Addr} {d_law_pick : FuncData} (C_law_pick : Cal P w K mg base "_law_pick" 2 ["tape", "row"] sp_law_pick a_law_pick d_law_pick) : FnOk P w K mg base CX0 3 f fd ["tape", "stem"] (sp_law_key K) := by
  have sc := sc_law_key
  refine F.ok sc (fun vs H Q E h => ?_) (fun cdv A outer s H vs Q E hr h => ?_)
  · obtain ⟨t, st, rfl, _⟩ := h
    rfl
  obtain ⟨t, st, rfl, hT, hst, q⟩ := h
  refine ⟨_, (pss_cons (ps_set (i := 2) sc.nd rfl (Or.inl rfl) pe_str)
    (pss_cons (ps_set (i := 3) sc.nd rfl (Or.inl rfl) (pe_op op_add_str (pv 2) pe_str))
    (pss_cons (ps_set (i := 4) sc.nd rfl (Or.inl rfl) (pv 1))
    (C8.pss_cut (ps_if (pt_cmpR op_eq (pv 1) pe_str (nomark _))
      (pss_one (ps_set (i := 4) sc.nd rfl (Or.inl rfl) (pe_call C_law_pick.ok (hr.mono (by omega)) (by rfl) C_law_pick.m C_law_pick.kp C_law_pick.b .nil pass0 (pa_cons (pv 0) (pa_cons (pe_ix (kx_list (K := K) rfl) (pe_lst (pa_cons (pv 2) (pa_cons pe_str pa_nil))) (pe_call C_law_draw.ok (hr.mono (by omega)) (by rfl) C_law_draw.m C_law_draw.kp C_law_draw.b .nil pass0 (pa_cons (pv 0) (pa_cons pe_int pa_nil))) (fun _ _ => rfl)) pa_nil)))))
      pss_nil)
    (pss_cons (ps_for PassesOwn.never rfl (pi_range1 (by rfl) T.z_range (pa_cons (pe_call C_law_pick.ok (hr.mono (by omega)) (by rfl) C_law_pick.m C_law_pick.kp C_law_pick.b .nil pass0 (pa_cons (pv 0) (pa_cons (pe_lst (pa_cons pe_int (pa_cons pe_int (pa_cons pe_int (pa_cons pe_int (pa_cons pe_int pa_nil)))))) pa_nil))) pa_nil)) (pg_name (i := 5) sc.nd rfl (Or.inl rfl))
      (pss_one (ps_set (i := 4) sc.nd rfl (Or.inl rfl) (pe_op op_add_str (pv 4) (pe_call C_law_pick.ok (hr.mono (by omega)) (by rfl) C_law_pick.m C_law_pick.kp C_law_pick.b .nil pass0 (pa_cons (pv 0) (pa_cons (pv 3) pa_nil)))))))
    (pss_one (ps_ret (pv 4)))))))), ?_⟩

  have lf : (Str.ofString "abcdefghijklmnopqrstuvwxyz").length = 26 := by decide +kernel
  have ls : (Str.ofString "abcdefghijklmnopqrstuvwxyz" ++ Str.ofString "ABCDEFGHIJKLMNOPQRSTUVWXYZ0123456789-").length = 63 := by decide +kernel
  have ks : ∀ c ∈ (Str.ofString "abcdefghijklmnopqrstuvwxyz" ++ Str.ofString "ABCDEFGHIJKLMNOPQRSTUVWXYZ0123456789-").cps.toList, c ∈ keyC := by decide +kernel
  refine ⟨_, rfl, _, _, rfl, rfl, by decide +kernel, _, rfl, ?_⟩
  refine ⟨fun σ H' => Go t H H' ∧ ∃ (z : Str) (v5 : Option V), KeyT z ∧ z.length ≤ 14 ∧ σ = [some (.ref t), some (.str st), some (.str (Str.ofString "abcdefghijklmnopqrstuvwxyz")), some (.str (Str.ofString "abcdefghijklmnopqrstuvwxyz" ++ Str.ofString "ABCDEFGHIJKLMNOPQRSTUVWXYZ0123456789-")), some (.str z), v5], ?_, ?_⟩
  · refine ⟨_, rfl, rfl, _, rfl, ite2 (fun c => ?_) (fun c => ?_)⟩
    · refine ⟨_, rfl, _, rfl, (by show 2 ≤ sizeLine; decide), fun p hp => ?_⟩
      have g0 := (Go.refl hT).new (o := .lst [.str (Str.ofString "abcdefghijklmnopqrstuvwxyz"), .str (Str.ofString "abcd")]) hp
      have np := hT.ne hp
      refine ⟨_, rfl, t, 2, rfl, g0.tp, by decide, by decide, fun r H1 r0 r1 g1 => ?_⟩
      have g1' := g0.trans g1
      obtain ⟨row, e1, e2, e3⟩ : ∃ row : Str, atI [V.str (Str.ofString "abcdefghijklmnopqrstuvwxyz"), V.str (Str.ofString "abcd")] r = some (.str row) ∧ (1 ≤ row.length ∧ row.length ≤ 30) ∧ ∀ c ∈ row.cps.toList, c ∈ firstC := by
        have : r = 0 ∨ r = 1 := by omega
        rcases this with rfl | rfl
        · exact ⟨_, rfl, by decide +kernel, by decide +kernel⟩
        · exact ⟨_, rfl, by decide +kernel, by decide +kernel⟩
      refine ⟨p, _, _, _, rfl, rfl, g1.sm.seqL np (SqL.of upd_same), e1, ?_⟩
      refine ⟨t, _, rfl, g1.tp, .inl ⟨row, rfl, e2.1, by omega, fun c H2 hc g2 => ?_⟩⟩
      exact ⟨g1'.trans g2, _, _, KeyT.one (e3 c hc), by show 1 ≤ 14; decide, rfl⟩
    · have k : KeyT st ∧ st.length ≤ 14 := hst.elim (fun h => by rw [h] at c; simp at c) id
      exact ⟨Go.refl hT, _, _, k.1, k.2, rfl⟩
  · rintro σ H1 ⟨g1, z0, v5, hz0, lz0, rfl⟩
    refine ⟨_, rfl, (by show 5 ≤ sizeLine; decide), fun p1 hp1 => ?_⟩
    refine ⟨t, _, rfl, g1.tp.new hp1, .inr ⟨p1, _, rfl, g1.tp.ne hp1, .inl (SqL.of upd_same), (by show 1 ≤ 5; decide), (by show 5 ≤ 1000000; decide), fun v H2 hv g2 => ?_⟩⟩
    obtain ⟨m, hm, rfl⟩ := pickN [0, 0, 0, 1, 2] hv (b := 2) rfl
    have g2 := (g1.new hp1).trans g2
    refine ⟨m, rfl, by omega, by omega, ?_⟩
    refine for_it (walk_range (lo := 0) (n := (m : Int).toNat)) (fun i σ H' => Go t H H' ∧ ∃ (z : Str) (v5 : Option V), KeyT z ∧ z.length ≤ 14 + i ∧ σ = [some (.ref t), some (.str st), some (.str (Str.ofString "abcdefghijklmnopqrstuvwxyz")), some (.str (Str.ofString "abcdefghijklmnopqrstuvwxyz" ++ Str.ofString "ABCDEFGHIJKLMNOPQRSTUVWXYZ0123456789-")), some (.str z), v5]) ⟨g2, _, _, hz0, by omega, rfl⟩ (fun _ _ _ _ _ => trivial) ?_ ?_
    · rintro i x σ H3 H4 hi ⟨g3, z, v5, hz, lz, rfl⟩ ⟨rfl, rfl⟩
      refine ⟨_, rfl, _, rfl, _, rfl, t, _, rfl, g3.tp, .inl ⟨_, rfl, by rw [ls]; decide, by rw [ls]; decide, fun c H5 hc g5 => ?_⟩⟩
      have l1 : (⟨#[c]⟩ : Str).length = 1 := rfl
      refine ⟨_, _, rfl, rfl, le_line (by omega), g3.trans g5, _, _, hz.app (fun d hd => ?_) (by omega), by rw [app_len]; omega, rfl⟩
      have e : d = c := by simpa using hd
      rw [e]; exact ks c hc
    · rintro σ H3 ⟨g3, z, v5, hz, lz, rfl⟩
      exact ⟨_, rfl, q z _ hz g3⟩
/-! ### _law_keys -/
theorem sc_law_keys : FnScope ["tape", "many", "stem", "keys", "k"] ["tape", "many"] (defScope s_law_keys) := ⟨rfl, rfl, rfl, by decide +kernel, rfl, by decide +kernel, by decide +kernel⟩

def sp_law_keys (K : PySem.W.Frag) : Sp := fun vs H Q _ => ∃ (t : Addr) (m : Nat), vs = [.ref t, .int m] ∧ Tape H t ∧ m ≤ 6 ∧ ∀ (p : Addr) (ws : List Str) H', Go t H H' → H p = none → H' p = some (.lst (ws.map V.str)) → ws.length = m → (∀ z ∈ ws, KeyT z ∧ z ∉ resL) → ws.Nodup → Q (.ref p) H'

theorem ok_law_keys {f : Addr} {fd : FuncData} (F : Fun K "_law_keys" "_law_keys" s_law_keys f fd) (T : Top K w mg) {a_law_pick : Addr} {d_law_pick : FuncData} (C_law_pick : Cal P w K mg base "_law_pick" 2 ["tape", "row"] sp_law_pick a_law_pick d_law_pick) {a_law_fresh : Addr} {d_law_fresh : FuncData} (C_law_fresh : Cal P w K mg base "_law_fresh" 2 ["key", "keys"] sp_law_fresh a_law_fresh d_law_fresh) {a_law_key : Addr} {d_law_key : FuncData} (C_law_key : Cal P w K mg base "_law_key" 3 ["tape", "stem"] sp_law_key a_law_key d_law_key) : FnOk P w K mg base CX0 4 f fd ["tape", "many"] (sp_law_keys K) := by
  have sc := sc_law_keys
  refine F.ok sc (fun vs H Q E h => ?_) (fun cdv A outer s H vs Q E hr h => ?_)
  · obtain ⟨t, m, rfl, _⟩ := h
    rfl
  obtain ⟨t, m, rfl, hT, hm, q⟩ := h
  refine ⟨_, (pss_cons (ps_set (i := 2) sc.nd rfl (Or.inl rfl) (pe_call C_law_pick.ok (hr.mono (by omega)) (by rfl) C_law_pick.m C_law_pick.kp C_law_pick.b .nil pass0 (pa_cons (pv 0) (pa_cons (pe_lst (pa_cons pe_str (pa_cons pe_str (pa_cons pe_str (pa_cons pe_str (pa_cons pe_str (pa_cons pe_str pa_nil))))))) pa_nil))))
    (pss_cons (ps_set (i := 3) sc.nd rfl (Or.inl rfl) (pe_lst pa_nil))
    (pss_cons (ps_for PassesOwn.never rfl (pi_range1 (by rfl) T.z_range (pa_cons (pv 1) pa_nil)) (pg_name (i := 4) sc.nd rfl (Or.inl rfl))
      (pss_one (ps_expr (pe_bm PySem.F.plainAttrs_list PySem.F.slot_list_append PySem.F.type_list_append mt_append (pv 3) (pa_cons (pe_call C_law_fresh.ok (hr.mono (by omega)) (by rfl) C_law_fresh.m C_law_fresh.kp C_law_fresh.b .nil pass0 (pa_cons (pe_call C_law_key.ok (hr.mono (by omega)) (by rfl) C_law_key.m C_law_key.kp C_law_key.b .nil pass0 (pa_cons (pv 0) (pa_cons (pv 2) pa_nil))) (pa_cons (pv 3) pa_nil))) pa_nil)))))
    (pss_one (ps_ret (pv 3)))))), ?_⟩

  refine ⟨_, rfl, (by show 6 ≤ sizeLine; decide), fun p1 hp1 => ?_⟩
  refine ⟨t, _, rfl, hT.new hp1, .inr ⟨p1, _, rfl, hT.ne hp1, .inl (SqL.of upd_same), (by show 1 ≤ 6; decide), (by show 6 ≤ 1000000; decide), fun v H2 hv g2 => ?_⟩⟩
  obtain ⟨st, hst, rfl⟩ := pickS [Str.ofString "", Str.ofString "", Str.ofString "", Str.ofString "", Str.ofString "x", Str.ofString "longBeginning-"] hv
  have all : ∀ z ∈ [Str.ofString "", Str.ofString "", Str.ofString "", Str.ofString "", Str.ofString "x", Str.ofString "longBeginning-"], z = Str.ofString "" ∨ (isKeyC z.cps.toList = true ∧ z.length ≤ 14) := by decide +kernel
  have hst := all st hst
  have s0 : Same H (upd H p1 (.lst ([Str.ofString "", Str.ofString "", Str.ofString "", Str.ofString "", Str.ofString "x", Str.ofString "longBeginning-"].map V.str))) := same_new hp1 _
  have g2 := ((Go.refl hT).new hp1).trans g2
  refine ⟨by decide, fun W hW => ?_⟩
  have nW : W ≠ t := g2.tp.ne hW
  refine ⟨_, rfl, m, rfl, by omega, by omega, ?_⟩
  refine for_it (walk_range (lo := 0) (n := (m : Int).toNat)) (fun i σ H' => Go t H2 H' ∧ ∃ (ws : List Str) (v4 : Option V), H' W = some (.lst (ws.map V.str)) ∧ ws.length = i ∧ (∀ z ∈ ws, KeyT z ∧ z ∉ resL) ∧ ws.Nodup ∧ σ = [some (.ref t), some (.int m), some (.str st), some (.ref W), v4]) ⟨(Go.refl g2.tp).new hW, [], _, upd_same, rfl, (fun _ h => by cases h), List.nodup_nil, rfl⟩ (fun _ _ _ _ _ => trivial) ?_ ?_
  · rintro i x σ H3 H4 hi ⟨g3, ws, v4, eW, lw, hws, nd, rfl⟩ ⟨rfl, rfl⟩
    refine ⟨_, rfl, .inl ⟨rfl, _, SqL.of eW⟩, _, rfl, _, rfl, t, st, rfl, g3.tp, hst, fun z H5 hz g5 => ?_⟩
    have eW5 := g5.sm _ _ nW eW
    refine ⟨_, rfl, z, W, ws, rfl, eW5, hz, by omega, fun u H6 hu n1 n2 s6 => ?_⟩
    have eW6 := s6 _ _ eW5
    refine ⟨W, _, _, rfl, rfl, eW6, lt_line (by rw [List.length_map]; omega), ?_⟩
    refine ⟨Go.late g2.tp (g3.trans (g5.trans (Go.same g5.tp s6))) hW, ws ++ [u], _, by rw [upd_same, List.map_append]; rfl, by rw [List.length_append, lw]; rfl, fun y hy => ?_, ?_, rfl⟩
    · rcases List.mem_append.mp hy with h | h
      · exact hws y h
      · rw [List.mem_singleton.mp h]; exact ⟨hu, n2⟩
    · rw [List.nodup_append]
      refine ⟨nd, by simp, fun a ha b hb => ?_⟩
      rw [List.mem_singleton.mp hb]
      intro e
      exact n1 (e ▸ ha)
  · rintro σ H3 ⟨g3, ws, v4, eW, lw, hws, nd, rfl⟩
    refine ⟨_, rfl, q W ws H3 (g2.trans g3) (g2.sm.free nW hW) eW (by omega) hws nd⟩
/-! ### _law_path -/
theorem sc_law_path : FnScope ["tape", "keys", "most", "k"] ["tape", "keys", "most"] (defScope s_law_path) := ⟨rfl, rfl, rfl, by decide +kernel, rfl, by decide +kernel, by decide +kernel⟩

def sp_law_path (K : PySem.W.Frag) : Sp := fun vs H Q _ => ∃ (t p : Addr) (ws : List Str) (m : Nat), vs = [.ref t, .ref p, .int m] ∧ Tape H t ∧ p ≠ t ∧ SqL K H p (ws.map V.str) ∧ 1 ≤ ws.length ∧ ws.length ≤ 1000 ∧ 1 ≤ m ∧ m ≤ 100 ∧ ∀ (r : Addr) (ks : List Str) H', Go t H H' → H' r = some (.tup (ks.map V.str)) → 1 ≤ ks.length → ks.length ≤ m → (∀ k ∈ ks, k ∈ ws) → Q (.ref r) H'

theorem ok_law_path {f : Addr} {fd : FuncData} (F : Fun K "_law_path" "_law_path" s_law_path f fd) (T : Top K w mg) {a_law_draw : Addr} {d_law_draw : FuncData} (C_law_draw : Cal P w K mg base "_law_draw" 1 ["tape", "many"] sp_law_draw a_law_draw d_law_draw) {a_law_pick : Addr} {d_law_pick : FuncData} (C_law_pick : Cal P w K mg base "_law_pick" 2 ["tape", "row"] sp_law_pick a_law_pick d_law_pick) : FnOk P w K mg base CX0 3 f fd ["tape", "keys", "most"] (sp_law_path K) := by
  have sc := sc_law_path
  refine F.ok sc (fun vs H Q E h => ?_) (fun cdv A outer s H vs Q E hr h => ?_)
  · obtain ⟨t, p, ws, m, rfl, _⟩ := h
    rfl
  obtain ⟨t, p, ws, m, rfl, hT, np, hS, hw1, hw, hm1, hm, q⟩ := h
  refine ⟨_, (pss_one (ps_ret (pe_callTy (kc_tuple (K := K) rfl) (by rfl) T.z_tuple (by decide +kernel) (pa_cons (pe_lc (own := [("k", 3)]) (g := gName 3) (tt := tYes) rfl sc.nd (pi_range1 (by rfl) T.z_range (pa_cons (pe_op op_add pe_int (pe_call C_law_draw.ok (hr.mono (by omega)) (by rfl) C_law_draw.m C_law_draw.kp C_law_draw.b .nil pass0 (pa_cons (pv 0) (pa_cons (pv 2) pa_nil)))) pa_nil)) (blkOk_by (N := ["tape", "keys", "most", "k"]) (sc := defScope s_law_path) (by decide +kernel)) (fun _ _ _ _ _ => pg_name (i := 3) sc.nd rfl (Or.inl rfl)) (fun _ _ _ _ _ => pts_nil) (fun _ _ _ _ _ => (pe_call C_law_pick.ok (hr.mono (by omega)) (by rfl) C_law_pick.m C_law_pick.kp C_law_pick.b .nil pass0 (pa_cons (pv 0) (pa_cons (pv 1) pa_nil))))) pa_nil)))), ?_⟩

  refine ⟨_, rfl, _, rfl, t, m, rfl, hT, by omega, by omega, fun r H1 r0 r1 g1 => ?_⟩
  refine ⟨_, _, rfl, rfl, _, rfl, by omega, by omega, fun D hD => ?_⟩
  refine lc_acc (walk_range (lo := 0) (n := (1 + r).toNat)) (fun i acc H' => Go t H1 H' ∧ ∃ ks : List Str, acc = ks.map V.str ∧ ∀ z ∈ ks, z ∈ ws) ⟨(Go.refl g1.tp).new hD, [], rfl, fun _ h => by cases h⟩ (fun _ _ _ _ _ _ => trivial) ?_ ?_
  · rintro i acc x H4 H5 hi e el ⟨g4, ks, ea, hk⟩ ⟨rfl, rfl⟩
    refine ⟨rfl, _, rfl, _, rfl, t, _, rfl, g4.tp, .inr ⟨p, _, rfl, np, .inl ((g1.trans g4).sm.seqL np hS), by rw [List.length_map]; exact hw1, by rw [List.length_map]; omega, fun v H6 hv g6 => ?_⟩⟩
    obtain ⟨z, hz, rfl⟩ := pickS _ hv
    refine acc_step (g6.sm _ _ (g1.tp.ne hD) e) el (by omega) ⟨Go.late g1.tp (g4.trans g6) hD, ks ++ [z], ?_, fun y hy => ?_⟩
    · rw [ea, List.map_append]; rfl
    · rcases List.mem_append.mp hy with h | h
      · exact hk y h
      · rw [List.mem_singleton.mp h]; exact hz
  · rintro acc H4 e el ⟨g4, ks, ea, hk⟩
    have lk : ks.length = (1 + r).toNat := by rw [ea, List.length_map] at el; exact el
    refine ⟨D, acc, rfl, .inl ⟨SqL.of e, fun l hl => ?_⟩⟩
    refine q l ks _ ((g1.trans g4).new hl) (by rw [upd_same, ea]) (by omega) (by omega) hk
/-! ### _law_tight_text -/
theorem sc_law_tight_text : FnScope ["tape", "many", "signs", "k"] ["tape", "many"] (defScope s_law_tight_text) := ⟨rfl, rfl, rfl, by decide +kernel, rfl, by decide +kernel, by decide +kernel⟩

def tightA : Str := Str.ofString "!#$&'()*+,-./0123456789:;<=>?@ABCDEFGHIJKLMNOPQRSTUVWXYZ[\\]^_`"
def tightB : Str := Str.ofString "abcdefghijklmnopqrstuvwxyz{|}~"
def Tg (c : Nat) : Prop := Sg c ∧ c ≠ 32 ∧ c ≠ 34
instance (c : Nat) : Decidable (Tg c) := by unfold Tg; exact inferInstance
theorem tight_ok : ∀ c ∈ (tightA ++ tightB).cps.toList, Tg c := by decide +kernel
theorem tight_len : (tightA ++ tightB).length = 92 := by decide +kernel
def TgT (z : Str) : Prop := ∀ c ∈ z.cps.toList, Tg c
theorem TgT.sg {z : Str} (h : TgT z) : SgT z := fun c hc => (h c hc).1


def sp_law_tight_text (K : PySem.W.Frag) : Sp := fun vs H Q _ => ∃ (t : Addr) (m : Nat), vs = [.ref t, .int m] ∧ Tape H t ∧ m ≤ 100000 ∧ ∀ z H', TgT z → z.length = m → Go t H H' → Q (.str z) H'

theorem ok_law_tight_text {f : Addr} {fd : FuncData} (F : Fun K "_law_tight_text" "_law_tight_text" s_law_tight_text f fd) (T : Top K w mg) {a_law_pick : Addr} {d_law_pick : FuncData} (C_law_pick : Cal P w K mg base "_law_pick" 2 ["tape", "row"] sp_law_pick a_law_pick d_law_pick) : FnOk P w K mg base CX0 3 f fd ["tape", "many"] (sp_law_tight_text K) := by
  have sc := sc_law_tight_text
  refine F.ok sc (fun vs H Q E h => ?_) (fun cdv A outer s H vs Q E hr h => ?_)
  · obtain ⟨t, m, rfl, _⟩ := h
    rfl
  obtain ⟨t, m, rfl, hT, hm, q⟩ := h
  refine ⟨_, (pss_cons (ps_set (i := 2) sc.nd rfl (Or.inr rfl) pe_str)
    (pss_cons (ps_set (i := 2) sc.nd rfl (Or.inr rfl) (pe_op op_add_str (pv 2) pe_str))
    (pss_one (ps_ret (pe_join pe_str (pe_lc (own := [("k", 3)]) (g := gName 3) (tt := tYes) rfl sc.nd (pi_range1 (by rfl) T.z_range (pa_cons (pv 1) pa_nil)) (blkOk_by (N := ["tape", "many", "signs", "k"]) (sc := defScope s_law_tight_text) (by decide +kernel)) (fun _ _ _ _ _ => pg_name (i := 3) sc.nd rfl (Or.inl rfl)) (fun _ _ _ _ _ => pts_nil) (fun _ _ _ _ _ => (pe_call C_law_pick.ok (hr.mono (by omega)) (by rfl) C_law_pick.m C_law_pick.kp C_law_pick.b .nil pass0 (pa_cons (pv 0) (pa_cons (pv 2) pa_nil)))))))))), ?_⟩

  refine ⟨_, rfl, _, _, rfl, rfl, by decide +kernel, ⟨_, rfl⟩, _, rfl, m, rfl, by omega, by omega, fun D hD => ?_⟩
  refine lc_acc (walk_range (lo := 0) (n := (m : Int).toNat)) (fun i acc H' => Go t H H' ∧ ∃ cs : List Nat, acc = (cs.map fun c => (⟨#[c]⟩ : Str)).map V.str ∧ ∀ c ∈ cs, Tg c) ⟨(Go.refl hT).new hD, [], rfl, fun _ h => by cases h⟩ (fun _ _ _ _ _ _ => trivial) ?_ ?_
  · rintro i acc x H1 H2 hi e el ⟨g, cs, ea, hcs⟩ ⟨rfl, rfl⟩
    refine ⟨rfl, _, rfl, _, rfl, t, _, rfl, g.tp, .inl ⟨tightA ++ tightB, rfl, by rw [tight_len]; decide, by rw [tight_len]; decide, fun c H3 hc g3 => ?_⟩⟩
    refine acc_step (g3.sm _ _ (hT.ne hD) e) el (by omega) ⟨Go.late hT (g.trans g3) hD, cs ++ [c], ?_, fun d hd => ?_⟩
    · rw [ea, List.map_append, List.map_append]; rfl
    · rcases List.mem_append.mp hd with h | h
      · exact hcs d h
      · rw [List.mem_singleton.mp h]; exact tight_ok c hc
  · rintro acc H1 e el ⟨g, cs, ea, hcs⟩
    have hl : cs.length = m := by
      rw [ea, List.length_map, List.length_map] at el
      omega
    refine ⟨_, D, cs.map fun c => (⟨#[c]⟩ : Str), rfl, rfl, .inl (SqL.of (by rw [e, ea])), ?_, ?_⟩
    · rw [sum_ones, List.length_map]
      show cs.length + cs.length * 0 ≤ _
      omega
    have ec := join_codes (cs.map fun c => (⟨#[c]⟩ : Str))
    rw [flat_ones] at ec
    refine q _ _ (fun c hc => hcs c (by rw [ec] at hc; exact hc)) ?_ g
    rw [← len_codes, ec]
    exact hl
/-! ### _law_scalar -/
theorem sc_law_scalar : FnScope ["tape", "choice"] ["tape"] (defScope s_law_scalar) := ⟨rfl, rfl, rfl, by decide +kernel, rfl, by decide +kernel, by decide +kernel⟩

def sp_law_scalar (K : PySem.W.Frag) : Sp := fun vs H Q _ => ∃ (t : Addr), vs = [.ref t] ∧ Tape H t ∧ ∀ v c H', Go t H H' → DT K H' v (.tup (scD c)) → scOk c → c ≠ .recd → Q v H'

theorem ok_law_scalar {f : Addr} {fd : FuncData} (F : Fun K "_law_scalar" "_law_scalar" s_law_scalar f fd) (T : Top K w mg) {a_law_draw : Addr} {d_law_draw : FuncData} (C_law_draw : Cal P w K mg base "_law_draw" 1 ["tape", "many"] sp_law_draw a_law_draw d_law_draw) {a_law_pick : Addr} {d_law_pick : FuncData} (C_law_pick : Cal P w K mg base "_law_pick" 2 ["tape", "row"] sp_law_pick a_law_pick d_law_pick) {a_law_tight_text : Addr} {d_law_tight_text : FuncData} (C_law_tight_text : Cal P w K mg base "_law_tight_text" 3 ["tape", "many"] sp_law_tight_text a_law_tight_text d_law_tight_text) : FnOk P w K mg base CX0 4 f fd ["tape"] (sp_law_scalar K) := by
  have sc := sc_law_scalar
  refine F.ok sc (fun vs H Q E h => ?_) (fun cdv A outer s H vs Q E hr h => ?_)
  · obtain ⟨t, rfl, _⟩ := h
    rfl
  obtain ⟨t, rfl, hT, q⟩ := h
  refine ⟨_, (pss_cons (ps_set (i := 1) sc.nd rfl (Or.inl rfl) (pe_call C_law_draw.ok (hr.mono (by omega)) (by rfl) C_law_draw.m C_law_draw.kp C_law_draw.b .nil pass0 (pa_cons (pv 0) (pa_cons pe_int pa_nil))))
    (pss_cons (ps_if (pt_cmpR op_lt (pv 1) pe_int (nomark _))
      (pss_one (ps_ret (pe_ix (kx_list (K := K) rfl) (pe_lst (pa_cons (pe_tup (pa_cons pe_str pa_nil)) (pa_cons (pe_tup (pa_cons pe_str pa_nil)) (pa_cons (pe_tup (pa_cons pe_str pa_nil)) pa_nil)))) (pv 1) (fun _ _ => rfl))))
      pss_nil)
    (pss_cons (ps_if (pt_cmpR op_eq (pv 1) pe_int (nomark _))
      (pss_one (ps_ret (pe_tup (pa_cons pe_str (pa_cons (pe_call C_law_pick.ok (hr.mono (by omega)) (by rfl) C_law_pick.m C_law_pick.kp C_law_pick.b .nil pass0 (pa_cons (pv 0) (pa_cons (pe_lst (pa_cons pe_int (pa_cons (pe_op op_pow pe_int pe_int) (pa_cons (pe_un un_neg pe_int) (pa_cons pe_int pa_nil))))) pa_nil))) pa_nil)))))
      pss_nil)
    (pss_cons (ps_if (pt_cmpR op_lt (pv 1) pe_int (nomark _))
      (pss_one (ps_ret (pe_tup (pa_cons pe_str (pa_cons (pe_op op_sub (pe_call C_law_draw.ok (hr.mono (by omega)) (by rfl) C_law_draw.m C_law_draw.kp C_law_draw.b .nil pass0 (pa_cons (pv 0) (pa_cons pe_int pa_nil))) pe_int) pa_nil)))))
      pss_nil)
    (pss_cons (ps_if (pt_cmpR op_eq (pv 1) pe_int (nomark _))
      (pss_one (ps_ret (pe_tup (pa_cons pe_str (pa_cons (pe_op op_sub (pe_call C_law_draw.ok (hr.mono (by omega)) (by rfl) C_law_draw.m C_law_draw.kp C_law_draw.b .nil pass0 (pa_cons (pv 0) (pa_cons pe_int pa_nil))) pe_int) pa_nil)))))
      pss_nil)
    (pss_cons (ps_if (pt_cmpR op_eq (pv 1) pe_int (nomark _))
      (pss_one (ps_ret (pe_tup (pa_cons pe_str (pa_cons (pe_call C_law_pick.ok (hr.mono (by omega)) (by rfl) C_law_pick.m C_law_pick.kp C_law_pick.b .nil pass0 (pa_cons (pv 0) (pa_cons (pe_lst (pa_cons pe_str (pa_cons pe_str (pa_cons pe_str (pa_cons pe_str (pa_cons pe_str (pa_cons pe_str (pa_cons pe_str (pa_cons pe_str pa_nil))))))))) pa_nil))) pa_nil)))))
      pss_nil)
    (pss_one (ps_ret (pe_tup (pa_cons pe_str (pa_cons (pe_call C_law_tight_text.ok (hr.mono (by omega)) (by rfl) C_law_tight_text.m C_law_tight_text.kp C_law_tight_text.b .nil pass0 (pa_cons (pv 0) (pa_cons (pe_call C_law_pick.ok (hr.mono (by omega)) (by rfl) C_law_pick.m C_law_pick.kp C_law_pick.b .nil pass0 (pa_cons (pv 0) (pa_cons (pe_lst (pa_cons pe_int (pa_cons pe_int (pa_cons pe_int (pa_cons pe_int pa_nil))))) pa_nil))) pa_nil))) pa_nil))))))))))), ?_⟩

  have sgs : ∀ z ∈ [Str.ofString "", Str.ofString " ", Str.ofString "1", Str.ofString "true", Str.ofString "null", Str.ofString "b", Str.ofString "a b", Str.ofString "record"], z.length ≤ 60 ∧ ∀ c ∈ z.cps.toList, Sg c := by decide +kernel
  refine ⟨_, rfl, t, 10, rfl, hT, by decide, by decide, fun ch H1 c0 c1 g1 => ?_⟩
  refine ⟨_, rfl, _, _, rfl, rfl, _, rfl, ite2 (fun d => ?_) (fun d => ?_)⟩
  · have d' : ch < 3 := of_decide_eq_true d
    refine ⟨(by show 1 ≤ sizeLine; decide), fun p1 h1 => ⟨(by show 1 ≤ sizeLine; decide), fun p2 h2 => ⟨(by show 1 ≤ sizeLine; decide), fun p3 h3 => ⟨(by show 3 ≤ sizeLine; decide), fun p4 h4 => ?_⟩⟩⟩⟩
    have g2 := (((g1.new (o := .tup [.str (Str.ofString "null")]) h1).new (o := .tup [.str (Str.ofString "false")]) h2).new (o := .tup [.str (Str.ofString "true")]) h3).new (o := .lst [.ref p1, .ref p2, .ref p3]) h4
    have e3 : (upd (upd (upd (upd H1 p1 (.tup [.str (Str.ofString "null")])) p2 (.tup [.str (Str.ofString "false")])) p3 (.tup [.str (Str.ofString "true")])) p4 (.lst [.ref p1, .ref p2, .ref p3])) p3 = some (.tup [.str (Str.ofString "true")]) := (same_new h4 _) _ _ upd_same
    have e2 : (upd (upd (upd (upd H1 p1 (.tup [.str (Str.ofString "null")])) p2 (.tup [.str (Str.ofString "false")])) p3 (.tup [.str (Str.ofString "true")])) p4 (.lst [.ref p1, .ref p2, .ref p3])) p2 = some (.tup [.str (Str.ofString "false")]) := (same_new h4 _) _ _ ((same_new h3 _) _ _ upd_same)
    have e1 : (upd (upd (upd (upd H1 p1 (.tup [.str (Str.ofString "null")])) p2 (.tup [.str (Str.ofString "false")])) p3 (.tup [.str (Str.ofString "true")])) p4 (.lst [.ref p1, .ref p2, .ref p3])) p1 = some (.tup [.str (Str.ofString "null")]) := (same_new h4 _) _ _ ((same_new h3 _) _ _ ((same_new h2 _) _ _ upd_same))
    have : ch = 0 ∨ ch = 1 ∨ ch = 2 := by omega
    rcases this with rfl | rfl | rfl
    · exact ⟨_, rfl, p4, _, _, _, rfl, rfl, SqL.of upd_same, rfl, q _ .null _ g2 (.tup (SqT.of e1) (.cons (.str _) .nil)) trivial (by intro z; cases z)⟩
    · exact ⟨_, rfl, p4, _, _, _, rfl, rfl, SqL.of upd_same, rfl, q _ .fals _ g2 (.tup (SqT.of e2) (.cons (.str _) .nil)) trivial (by intro z; cases z)⟩
    · exact ⟨_, rfl, p4, _, _, _, rfl, rfl, SqL.of upd_same, rfl, q _ .tru _ g2 (.tup (SqT.of e3) (.cons (.str _) .nil)) trivial (by intro z; cases z)⟩
  have num : ∀ (n : Int) (H' : Hp) (p : Addr), Go t H H' → H' p = none → -1000000000 ≤ n → n ≤ 1000000000 → Q (.ref p) (upd H' p (.tup [.str (Str.ofString "number"), .int n])) := fun n H' p g hp b1 b2 =>
    q _ (.num n) _ (g.new hp) (.tup (SqT.of upd_same) (.cons (.str _) (.cons (.int _) .nil))) ⟨b1, b2⟩ (by intro z; cases z)
  have txt : ∀ (s : Str) (H' : Hp) (p : Addr), Go t H H' → H' p = none → s.length ≤ 60 → SgT s → Q (.ref p) (upd H' p (.tup [.str (Str.ofString "text"), .str s])) := fun s H' p g hp b1 b2 =>
    q _ (.text s) _ (g.new hp) (.tup (SqT.of upd_same) (.cons (.str _) (.cons (.str _) .nil))) ⟨b1, b2⟩ (by intro z; cases z)
  refine ⟨_, rfl, rfl, _, rfl, ite2 (fun _ => ?_) (fun _ => ?_)⟩
  · refine ⟨_, rfl, _, _, rfl, rfl, ⟨by decide, by decide, by decide⟩, _, rfl, (by show 4 ≤ sizeLine; decide), fun p1 hp1 => ?_⟩
    refine ⟨t, _, rfl, g1.tp.new hp1, .inr ⟨p1, _, rfl, g1.tp.ne hp1, .inl (SqL.of upd_same), (by show 1 ≤ 4; decide), (by show 4 ≤ 1000000; decide), fun v H2 hv g2 => ?_⟩⟩
    obtain ⟨n, b1, b2, rfl⟩ : ∃ n : Int, -1000000000 ≤ n ∧ n ≤ 1000000000 ∧ v = V.int n := by
      simp only [List.mem_cons, List.not_mem_nil, or_false] at hv
      rcases hv with rfl | rfl | rfl | rfl
      · exact ⟨_, by decide, by decide, rfl⟩
      · exact ⟨_, by decide, by decide, rfl⟩
      · exact ⟨_, by decide, by decide, rfl⟩
      · exact ⟨_, by decide, by decide, rfl⟩
    exact ⟨(by show 2 ≤ sizeLine; decide), fun p hp => num n _ p ((g1.new hp1).trans g2) hp b1 b2⟩
  refine ⟨_, rfl, _, _, rfl, rfl, _, rfl, ite2 (fun _ => ?_) (fun _ => ?_)⟩
  · refine ⟨_, rfl, t, 25, rfl, g1.tp, by decide, by decide, fun r H2 r0 r1 g2 => ⟨_, _, rfl, rfl, (by show 2 ≤ sizeLine; decide), fun p hp => ?_⟩⟩
    exact num _ _ p (g1.trans g2) hp (by show -1000000000 ≤ r - 12; omega) (by show r - 12 ≤ 1000000000; omega)
  refine ⟨_, rfl, rfl, _, rfl, ite2 (fun _ => ?_) (fun _ => ?_)⟩
  · refine ⟨_, rfl, t, 2000000001, rfl, g1.tp, by decide, by decide, fun r H2 r0 r1 g2 => ⟨_, _, rfl, rfl, (by show 2 ≤ sizeLine; decide), fun p hp => ?_⟩⟩
    exact num _ _ p (g1.trans g2) hp (by show -1000000000 ≤ r - 1000000000; omega) (by show r - 1000000000 ≤ 1000000000; omega)
  refine ⟨_, rfl, rfl, _, rfl, ite2 (fun _ => ?_) (fun _ => ?_)⟩
  · refine ⟨_, rfl, (by show 8 ≤ sizeLine; decide), fun p1 hp1 => ?_⟩
    refine ⟨t, _, rfl, g1.tp.new hp1, .inr ⟨p1, _, rfl, g1.tp.ne hp1, .inl (SqL.of upd_same), (by show 1 ≤ 8; decide), (by show 8 ≤ 1000000; decide), fun v H2 hv g2 => ?_⟩⟩
    obtain ⟨z, hz, rfl⟩ := pickS [Str.ofString "", Str.ofString " ", Str.ofString "1", Str.ofString "true", Str.ofString "null", Str.ofString "b", Str.ofString "a b", Str.ofString "record"] hv
    exact ⟨(by show 2 ≤ sizeLine; decide), fun p hp => txt z _ p ((g1.new hp1).trans g2) hp (sgs z hz).1 (sgs z hz).2⟩
  · refine ⟨_, rfl, _, rfl, (by show 4 ≤ sizeLine; decide), fun p1 hp1 => ?_⟩
    refine ⟨t, _, rfl, g1.tp.new hp1, .inr ⟨p1, _, rfl, g1.tp.ne hp1, .inl (SqL.of upd_same), (by show 1 ≤ 4; decide), (by show 4 ≤ 1000000; decide), fun v H2 hv g2 => ?_⟩⟩
    obtain ⟨m, hm, rfl⟩ := pickN [1, 2, 3, 60] hv (b := 60) rfl
    refine ⟨t, m, rfl, g2.tp, by omega, fun z H3 hz lz g3 => ⟨(by show 2 ≤ sizeLine; decide), fun p hp => ?_⟩⟩
    exact txt z _ p ((g1.new hp1).trans (g2.trans g3)) hp (by omega) hz.sg
/-! ### _law_cut -/
theorem sc_law_cut : FnScope ["flat", "path", "found", "each"] ["flat", "path"] (defScope s_law_cut) := ⟨rfl, rfl, rfl, by decide +kernel, rfl, by decide +kernel, by decide +kernel⟩

def sp_law_cut (K : PySem.W.Frag) : Sp := fun vs H Q _ => ∃ (d a : Addr) (fl : Fl) (p : List Str), vs = [.ref d, .ref a] ∧ FlatAt K H d fl ∧ FlS fl ∧ (fl.map (·.1)).Nodup ∧ fl.length ≤ 50000 ∧ SqT K H a (p.map V.str) ∧ p.length ≤ 100 ∧ (∀ z ∈ p, SgT z) ∧ ∀ r H', Same H H' → H r = none → FlatAt K H' r (cutF fl p) → Q (.ref r) H'

theorem ok_law_cut {f : Addr} {fd : FuncData} (F : Fun K "_law_cut" "_law_cut" s_law_cut f fd) (T : Top K w mg) : FnOk P w K mg base CX0 1 f fd ["flat", "path"] (sp_law_cut K) := by
  have sc := sc_law_cut
  refine F.ok sc (fun vs H Q E h => ?_) (fun cdv A outer s H vs Q E hr h => ?_)
  · obtain ⟨d, a, fl, p, rfl, _⟩ := h
    rfl
  obtain ⟨d, a, fl, p, rfl, hF, sg, nd, lf, hS, lp, sp, q⟩ := h
  refine ⟨_, (pss_cons (ps_set (i := 2) sc.nd rfl (Or.inl rfl) pe_dnewT)
    (pss_cons (ps_lock (ps_for PassesOwn.never rfl (pi_keys (pv 0)) (pg_name (i := 3) sc.nd rfl (Or.inl rfl))
      (pss_one (ps_if (pt_cmpR (kop_neD (K := K) rfl hr.units) (pe_slice (ksl_tup (K := K) rfl) (pv 3) po_none (po_some (pe_callB (kc_lenS (K := K) rfl) (by rfl) T.z_len (by decide +kernel) (pa_cons (pv 1) pa_nil)))) (pv 1) (nomark _))
        (pss_one (ps_dput (units1 hr.units) (pv 2) (pv 3) (pe_dget (units1 hr.units) (pv 0) (pv 3) (fun _ _ => rfl)) (by rfl)))
        pss_nil))))
    (pss_one (ps_ret (pv 2))))), ?_⟩

  obtain ⟨kvs, hd, hk⟩ := hF.ex
  have lk := hk.len
  intro f hf
  have nfd : d ≠ f := ne_of_none hd hf
  refine ⟨d, .dT kvs, by rw [upd_ne nfd]; exact hd, trivial, fun od => ?_⟩
  refine ⟨_, rfl, d, od, rfl, .inr ⟨kvs, upd_same, ?_⟩⟩
  refine for_it walk_keysT (fun i σ H' => H' d = some (.frz od (.dT kvs)) ∧ FlK K H' kvs fl ∧ (∀ b o, b ≠ f → b ≠ d → H b = some o → H' b = some o) ∧ ∃ kvs' v3, H' f = some (.dT kvs') ∧ FlK K H' kvs' (cutF (fl.take i) p) ∧ σ = [some (.ref d), some (.ref a), some (.ref f), v3]) ?_ (fun i σ H' _ h => h.1) ?_ ?_
  · have s0 : ∀ b o, b ≠ f → b ≠ d → H b = some o → (upd (upd H f (.dT [])) d (.frz od (.dT kvs))) b = some o := fun b o n1 n2 e => by rw [upd_ne n2, upd_ne n1]; exact e
    exact ⟨upd_same, hk.mono fun _ _ h => seqT_two s0 hf hd h, s0, [], _, by rw [upd_ne nfd.symm, upd_same], .nil, rfl⟩
  · rintro i x σ H1 H2 hi ⟨e1, k1, s1, kvs', v3, e2, k2, rfl⟩ ⟨rfl, k, v, b, ek, rfl, hb⟩
    obtain ⟨r, c, er, rfl, hv⟩ := k1.at ek
    rw [kP_V] at hb
    have hr := List.mem_of_getElem? er
    have hS2 := seqT_two s1 hf hd hS
    refine ⟨_, rfl, _, rfl, a, _, rfl, .inr hS2, ?_⟩
    rw [List.length_map]
    dsimp only [tNoPart]
    refine ⟨_, rfl, slA_of (SqT.of hb) fun u H3 s3 hu => ?_⟩
    rw [cutV_pre (by omega), ← List.map_take, Int.toNat_natCast] at hu
    refine ⟨_, rfl, ne_paths hu (s3.seqT hS2) (fun z hz => sg _ hr z (List.mem_of_mem_take hz)) sp ?_⟩
    have e13 := s3 _ _ e1
    have e23 := s3 _ _ e2
    have k13 := k1.same s3
    have k23 := k2.same s3
    have hb3 : H3 b = some (.tup ((kP r).map kV)) := by rw [kP_V]; exact s3 _ _ hb
    have s13 : ∀ b o, b ≠ f → b ≠ d → H b = some o → H3 b = some o := fun b o n1 n2 e => s3 _ _ (s1 b o n1 n2 e)
    refine ⟨_, rfl, ite2 (fun z => ?_) (fun z => ?_)⟩
    · have z' : ¬ r.take p.length = p := by simpa using z
      rcases k13.get r with ⟨_, g2⟩ | ⟨v', c', g1, g2, dv⟩
      · rw [getF_nd nd hr] at g2; cases g2
      have ec : c' = c := by rw [getF_nd nd hr] at g2; exact (Option.some.inj g2).symm
      subst ec
      refine ⟨_, rfl, _, rfl, d, v', rfl, .inr ⟨kvs, kP r, b, .inr ⟨_, e13⟩, rfl, hb3, g1.symm⟩, ?_⟩
      have lk2 := k2.len
      have lc := len_cut (fl.take i) p
      have lt : (fl.take i).length ≤ fl.length := by rw [List.length_take]; exact Nat.min_le_right _ _
      refine ⟨_, rfl, _, rfl, f, _, rfl, DPut.t e23 hb3 (lt_line (by omega)), ?_⟩
      have mo : ∀ a xs, SqT K H3 a xs → SqT K (upd H3 f (.dT (putK kvs' (kP r) v'))) a xs := fun _ _ h => seqT_put e23 (fun _ z => by cases z) (fun _ _ z => by cases z) h
      refine ⟨by rw [upd_ne nfd]; exact e13, k13.mono mo, fun b o n1 n2 e => by rw [upd_ne n1]; exact s13 b o n1 n2 e, _, _, upd_same, ?_, rfl⟩
      have g0 : getF (cutF (fl.take i) p) r = none := by rw [getF_cut, if_neg z']; exact getF_take nd er
      have e5 := (k23.put r dv).mono mo
      rw [putF_new _ g0] at e5
      rw [cutF_take er, if_neg z']
      exact e5
    · have z' : r.take p.length = p := by simpa using z
      exact ⟨e13, k13, s13, _, _, e23, by rw [cutF_take er, if_pos z']; exact k23, rfl⟩
  · rintro σ H1 ⟨e1, k1, s1, kvs', v3, e2, k2, rfl⟩
    refine ⟨e1, _, rfl, q f _ (fun b o e => ?_) hf ⟨kvs', by rw [upd_ne nfd.symm]; exact e2, ?_⟩⟩
    · by_cases z : b = d
      · subst z
        rw [hd] at e
        rw [upd_same]
        exact e
      · rw [upd_ne z]
        exact s1 b o (ne_of_none e hf) z e
    · rw [lk, List.take_length] at k2
      exact k2.mono fun _ _ h => seqT_put e1 (fun _ z => by cases z) (fun _ _ z => by cases z) h
/-! ### _law_put -/
theorem sc_law_put : FnScope ["flat", "path", "content", "found", "k"] ["flat", "path", "content"] (defScope s_law_put) := ⟨rfl, rfl, rfl, by decide +kernel, rfl, by decide +kernel, by decide +kernel⟩

def sp_law_put (K : PySem.W.Frag) : Sp := fun vs H Q _ => ∃ (d a : Addr) (x : V) (fl : Fl) (p : List Str) (c : Sc), vs = [.ref d, .ref a, x] ∧ FlatAt K H d fl ∧ FlS fl ∧ (fl.map (·.1)).Nodup ∧ fl.length ≤ 50000 ∧ H a = some (.tup (p.map V.str)) ∧ 1 ≤ p.length ∧ p.length ≤ 100 ∧ (∀ z ∈ p, SgT z) ∧ DT K H x (.tup (scD c)) ∧ ∀ r H', Same H H' → H r = none → FlatAt K H' r (setF fl p c) → Q (.ref r) H'

theorem ok_law_put {f : Addr} {fd : FuncData} (F : Fun K "_law_put" "_law_put" s_law_put f fd) (T : Top K w mg) {a_law_cut : Addr} {d_law_cut : FuncData} (C_law_cut : Cal P w K mg base "_law_cut" 1 ["flat", "path"] sp_law_cut a_law_cut d_law_cut) : FnOk P w K mg base CX0 2 f fd ["flat", "path", "content"] (sp_law_put K) := by
  have sc := sc_law_put
  refine F.ok sc (fun vs H Q E h => ?_) (fun cdv A outer s H vs Q E hr h => ?_)
  · obtain ⟨d, a, x, fl, p, c, rfl, _⟩ := h
    rfl
  obtain ⟨d, a, x, fl, p, c, rfl, hF, sg, nd, lf, hS, p1, lp, sp, hx, q⟩ := h
  refine ⟨_, (pss_cons (ps_set (i := 3) sc.nd rfl (Or.inl rfl) (pe_call C_law_cut.ok (hr.mono (by omega)) (by rfl) C_law_cut.m C_law_cut.kp C_law_cut.b .nil pass0 (pa_cons (pv 0) (pa_cons (pv 1) pa_nil))))
    (pss_cons (ps_for PassesOwn.never rfl (pi_range2 (by rfl) T.z_range (pa_cons pe_int (pa_cons (pe_callB (kc_lenS (K := K) rfl) (by rfl) T.z_len (by decide +kernel) (pa_cons (pv 1) pa_nil)) pa_nil))) (pg_name (i := 4) sc.nd rfl (Or.inl rfl))
      (pss_one (ps_dput (units1 hr.units) (pv 3) (pe_slice (ksl_tup (K := K) rfl) (pv 1) po_none (po_some (pv 4))) (pe_tup (pa_cons pe_str pa_nil)) (by rfl))))
    (pss_cons (ps_dput (units1 hr.units) (pv 3) (pv 1) (pv 2) (by rfl))
    (pss_one (ps_ret (pv 3)))))), ?_⟩

  have lpm : (p.map V.str).length = p.length := List.length_map _
  refine ⟨_, rfl, _, rfl, d, a, fl, p, rfl, hF, sg, nd, lf, SqT.of hS, lp, sp, fun f H1 s1 hf hF1 => ?_⟩
  have hS1 := s1 _ _ hS
  refine ⟨_, rfl, a, _, rfl, .inr (SqT.of hS1), 1, _, rfl, ⟨by decide, by decide, by omega, by omega⟩, ?_⟩
  refine for_it (walk_range (lo := 1) (n := (((p.map V.str).length : Int) - 1).toNat)) (fun i σ H' => (∀ b o, b ≠ f → H1 b = some o → H' b = some o) ∧ FlatAt K H' f (upsF (cutF fl p) p i) ∧ ∃ v4, σ = [some (.ref d), some (.ref a), some x, some (.ref f), v4]) ⟨fun _ _ _ e => e, hF1, _, rfl⟩ (fun _ _ _ _ _ => trivial) ?_ ?_
  · rintro i y σ H2 H3 hi ⟨s2, hF2, v4, rfl⟩ ⟨rfl, rfl⟩
    have hS3 := s2 _ _ (ne_of_none hS hf) hS1
    refine ⟨(by show 1 ≤ sizeLine; decide), fun o ho => ?_⟩
    have s3 : Same H3 (upd H3 o (.tup [.str (Str.ofString "record")])) := same_new ho _
    have dr : DT K (upd H3 o (.tup [.str (Str.ofString "record")])) (.ref o) (.tup (scD .recd)) := .tup (SqT.of upd_same) (.cons (.str _) .nil)
    have hS4 := s3 _ _ hS3
    have hF4 := hF2.same s3
    generalize upd H3 o (.tup [.str (Str.ofString "record")]) = H4 at *
    refine ⟨_, rfl, _, rfl, ?_⟩
    dsimp only [tNoPart]
    refine ⟨_, rfl, _, rfl, slA_new (SqT.of hS4) (fun z => ?_) fun b hb => ?_⟩
    · have := z.2
      rw [sIx_pos (by omega)] at this
      omega
    · have s5 := same_new hb (.tup (cutV (p.map V.str) none (some (1 + (i : Int)))))
      have eb : (upd H4 b (.tup (cutV (p.map V.str) none (some (1 + (i : Int)))))) b = some (.tup ((p.take (i + 1)).map V.str)) := by
        rw [upd_same, cutV_pre (by omega), show (1 + (i : Int)).toNat = i + 1 by omega, ← List.map_take]
      have hF5 := hF4.same s5
      have d5 := dr.same s5
      generalize upd H4 b (.tup (cutV (p.map V.str) none (some (1 + (i : Int))))) = H5 at *
      have lu := len_ups (cutF fl p) p i
      have lc := len_cut fl p
      obtain ⟨H6, hp, k1, k2, hF6⟩ := hF5.put (by omega) eb d5
      refine ⟨f, H6, rfl, hp, fun b o n e => k1 _ _ n (s5 _ _ (s3 _ _ (s2 _ _ n e))), by rw [upsF_succ]; exact hF6, _, rfl⟩
  · rintro σ H2 ⟨s2, hF2, v4, rfl⟩
    have hS2 := s2 _ _ (ne_of_none hS hf) hS1
    have en : (((p.map V.str).length : Int) - 1).toNat = p.length - 1 := by omega
    rw [en] at hF2
    have sH : ∀ b o, H b = some o → H2 b = some o := fun b o e => s2 b o (ne_of_none e hf) (s1 _ _ e)
    have lu := len_ups (cutF fl p) p (p.length - 1)
    have lc := len_cut fl p
    have hx2 : DT K H2 x (.tup (scD c)) := hx.same sH
    obtain ⟨H6, hp, k1, k2, hF6⟩ := hF2.put (by omega) hS2 hx2
    refine ⟨_, rfl, _, rfl, _, rfl, f, H6, rfl, hp, _, rfl, q f H6 (fun b o e => k1 _ _ (ne_of_none e hf) (sH _ _ e)) hf hF6⟩
/-! ### _law_rank -/
theorem sc_law_rank : FnScope ["path", "key"] ["path"] (defScope s_law_rank) := ⟨rfl, rfl, rfl, by decide +kernel, rfl, by decide +kernel, by decide +kernel⟩

def sp_law_rank (K : PySem.W.Frag) : Sp := fun vs H Q _ => ∃ (a : Addr) (ks : List Str), vs = [.ref a] ∧ SqT K H a (ks.map V.str) ∧ ks.length ≤ 1000 ∧ (∀ k ∈ ks, k.length ≤ 100000) ∧ ∀ r H', H r = none → Same H H' → Dp K H' (.ref r) (.list (ks.map dK)) → Q (.ref r) H'

theorem ok_law_rank {f : Addr} {fd : FuncData} (F : Fun K "_law_rank" "_law_rank" s_law_rank f fd) (T : Top K w mg) : FnOk P w K mg base CX0 1 f fd ["path"] (sp_law_rank K) := by
  have sc := sc_law_rank
  refine F.ok sc (fun vs H Q E h => ?_) (fun cdv A outer s H vs Q E hr h => ?_)
  · obtain ⟨a, ks, rfl, _⟩ := h
    rfl
  obtain ⟨a, ks, rfl, hS, hl, hk, q⟩ := h
  refine ⟨_, (pss_one (ps_ret (pe_lc (own := [("key", 1)]) (g := gName 1) (tt := tYes) rfl sc.nd (kpi_tup (K := K) rfl (pv 0)) (blkOk_by (N := ["path", "key"]) (sc := defScope s_law_rank) (by decide +kernel)) (fun _ _ _ _ _ => pg_name (i := 1) sc.nd rfl (Or.inl rfl)) (fun _ _ _ _ _ => pts_nil) (fun _ _ _ _ _ => (pe_tup (pa_cons (pe_callB call_len_str (by rfl) T.z_len (by decide +kernel) (pa_cons (pv 1) pa_nil)) (pa_cons (pv 1) pa_nil))))))), ?_⟩

  have l2 : (ks.map V.str).length = ks.length := List.length_map _
  refine ⟨_, rfl, a, rfl, ⟨_, hS⟩, fun D hD => ?_⟩
  refine lc_acc (walk_tup (K := K) (a := a) (xs := ks.map V.str)) (fun i acc H' => Same H H' ∧ DpAll K H' acc ((ks.take i).map dK) ∧ H' D = some (.lst acc)) ⟨same_new hD _, .nil, upd_same⟩ (fun i acc H' _ _ h => h.1.seqT hS) ?_ ?_
  · rintro i acc x H1 H2 hi e el ⟨s1, d1, _⟩ ⟨rfl, hx⟩
    rw [List.getElem?_map] at hx
    obtain ⟨k, hk', rfl⟩ := Option.map_eq_some_iff.mp hx
    obtain ⟨hi2, ek⟩ := List.getElem?_eq_some_iff.mp hk'
    refine ⟨rfl, _, rfl, k, rfl, le_line (by have := hk k (List.mem_of_getElem? hk'); omega), _, rfl, (by show 2 ≤ sizeLine; decide), fun p hp => ?_⟩
    have nD : D ≠ p := ne_of_none e hp
    have e3 : (upd H2 p (.tup [.int k.length, .str k])) D = some (.lst acc) := by rw [upd_ne nD]; exact e
    refine acc_step e3 el (by omega) ⟨(s1.trans (same_new hp _)).late hD, ?_, upd_same⟩
    have d3 : DpAll K (upd H2 p (.tup [.int k.length, .str k])) (acc ++ [.ref p]) ((ks.take (i + 1)).map dK) := by
      rw [List.take_succ_eq_append_getElem hi2, ek, List.map_append]
      exact (d1.same (same_new hp _)).append (.cons (.tup (SqT.of upd_same) (.cons (.int _) (.cons (.str _) .nil))) .nil)
    refine DpAll.rows (fun b xs h => ?_) _ _ d3
    rcases h with (h | ⟨o, h⟩) | h
    · exact .inl (.inl (by rw [upd_ne (ne_of h e3 (by intro z; cases z))]; exact h))
    · exact .inl (.inr ⟨o, by rw [upd_ne (ne_of h e3 (by intro z; cases z))]; exact h⟩)
    · exact .inr h
  · rintro acc H1 e el ⟨s1, d1, _⟩
    rw [l2, List.take_length] at d1
    exact q _ _ hD s1 (.lst (SqL.of e) d1)
/-! ### _law_ascending -/
theorem sc_law_ascending : FnScope ["paths", "ranked", "each", "path"] ["paths"] (defScope s_law_ascending) := ⟨rfl, rfl, rfl, by decide +kernel, rfl, by decide +kernel, by decide +kernel⟩

def sp_law_ascending (K : PySem.W.Frag) : Sp := fun vs H Q _ => ∃ (a : Addr) (xs : List V) (ps : List (List Str)), vs = [.ref a] ∧ H a = some (.lst xs) ∧ Al2 (PthV H) xs ps ∧ ps.length ≤ 1000 ∧ (∀ p ∈ ps, p.length ≤ 100 ∧ ∀ k ∈ p, k.length ≤ 1000) ∧ ∀ r ys H', Same H H' → H r = none → H' r = some (.lst ys) → Al2 (PthV H') ys (srtP ps) → Q (.ref r) H'

theorem ok_law_ascending {f : Addr} {fd : FuncData} (F : Fun K "_law_ascending" "_law_ascending" s_law_ascending f fd) (T : Top K w mg) {a_law_rank : Addr} {d_law_rank : FuncData} (C_law_rank : Cal P w K mg base "_law_rank" 1 ["path"] sp_law_rank a_law_rank d_law_rank) : FnOk P w K mg base CX0 2 f fd ["paths"] (sp_law_ascending K) := by
  have sc := sc_law_ascending
  refine F.ok sc (fun vs H Q E h => ?_) (fun cdv A outer s H vs Q E hr h => ?_)
  · obtain ⟨a, xs, ps, rfl, _⟩ := h
    rfl
  obtain ⟨a, xs, ps, rfl, ha, hA, lps, hps, q⟩ := h
  refine ⟨_, (pss_cons (ps_set (i := 1) sc.nd rfl (Or.inl rfl) (pe_callB (cr_sortB (K := K) (enc := encP) rfl hr.units) (by rfl) T.z_sorted (by decide +kernel) (pa_cons (pe_lc (own := [("path", 3)]) (g := gName 3) (tt := tYes) rfl sc.nd (kpi_list (K := K) rfl (pv 0)) (blkOk_by (N := ["paths", "ranked", "each", "path"]) (sc := defScope s_law_ascending) (by decide +kernel)) (fun _ _ _ _ _ => pg_name (i := 3) sc.nd rfl (Or.inl rfl)) (fun _ _ _ _ _ => pts_nil) (fun _ _ _ _ _ => (pe_tup (pa_cons (pe_call C_law_rank.ok (hr.mono (by omega)) (by rfl) C_law_rank.m C_law_rank.kp C_law_rank.b .nil pass0 (pa_cons (pv 3) pa_nil)) (pa_cons (pv 3) pa_nil))))) pa_nil)))
    (pss_one (ps_ret (pe_lc (own := [("each", 2)]) (g := gName 2) (tt := tYes) rfl sc.nd (kpi_list (K := K) rfl (pv 1)) (blkOk_by (N := ["paths", "ranked", "each", "path"]) (sc := defScope s_law_ascending) (by decide +kernel)) (fun _ _ _ _ _ => pg_name (i := 2) sc.nd rfl (Or.inl rfl)) (fun _ _ _ _ _ => pts_nil) (fun _ _ _ _ _ => (pe_ix (kx_tup (K := K) rfl) (pv 2) pe_int (fun _ _ => rfl))))))), ?_⟩

  have lA := hA.len
  refine ⟨_, rfl, a, rfl, ⟨_, SqL.of ha⟩, fun D hD => ?_⟩
  refine lc_acc (walk_list (K := K) (a := a) (xs := xs)) (fun i acc H' => Same H H' ∧ Al2 (RowP K D H') acc (ps.take i) ∧ H' D = some (.lst acc)) ⟨same_new hD _, .nil, upd_same⟩ (fun i acc H' _ _ h => h.1.seq (SqL.of ha)) ?_ ?_
  · rintro i acc x H1 H2 hi e el ⟨s1, d1, _⟩ ⟨rfl, hx⟩
    obtain ⟨p, ep, b, rfl, hb⟩ := hA.at hx
    obtain ⟨hi2, ek⟩ := List.getElem?_eq_some_iff.mp ep
    have hp := hps p (List.mem_of_getElem? ep)
    have hb2 := s1 _ _ hb
    refine ⟨rfl, _, rfl, b, p, rfl, SqT.of hb2, by omega, fun k hk => by have := hp.2 k hk; omega, fun r H3 hr s3 dv => ?_⟩
    cases dv with
    | @lst _ vs _ dv1 dv2 =>
    refine ⟨_, rfl, (by show 2 ≤ sizeLine; decide), fun o ho => ?_⟩
    have e3 := s3 _ _ e
    have s4 := same_new ho (.tup [.ref r, .ref b])
    have e4 := s4 _ _ e3
    refine acc_step e4 el (by omega) ⟨(s1.trans (s3.trans s4)).late hD, ?_, upd_same⟩
    have row : RowP K D (upd H3 o (.tup [.ref r, .ref b])) (.ref o) p := ⟨o, r, b, vs, rfl, upd_same, s4 _ _ (s3 _ _ hb2), (ne_of_none e hr).symm, s4.seq dv1, dv2.same s4⟩
    have all := (d1.mono fun _ _ h => (RowP.same h s3).same s4).app (.cons row .nil)
    rw [List.take_succ_eq_append_getElem hi2, ek]
    exact all.mono fun _ _ h => RowP.put h e4
  · rintro acc H1 e el ⟨s1, d1, _⟩
    rw [lA, List.take_length] at d1
    refine ⟨D, acc, ps, rfl, SqL.of e, rows_dp d1, PySem.W.AllAlike.of alike_encP, PySem.W.Sortable.tuples fun b => ⟨_, _, rfl⟩, fun b _ => depth_encP b, fun zs u hz ez hu => ?_⟩
    have al : Al2 (RowP K D H1) (zs.map (·.1)) (srtP ps) := by
      have h := Al2.maps (zs := zs) (R := RowP K D H1) fun z hz' => d1.zip z (hz.mem_iff.mp hz')
      rw [ez] at h
      exact h
    have s5 := same_new hu (.lst (zs.map (·.1)))
    have eu : (upd H1 u (.lst (zs.map (·.1)))) u = some (.lst (zs.map (·.1))) := upd_same
    have al5 := al.mono fun _ _ h => RowP.same h s5
    generalize upd H1 u (.lst (zs.map (·.1))) = H5 at *
    generalize zs.map (·.1) = ys at *
    have ly := al5.len
    have lsP : (srtP ps).length = ps.length := (List.mergeSort_perm ps _).length_eq
    refine ⟨_, rfl, u, rfl, ⟨_, SqL.of eu⟩, fun D2 hD2 => ?_⟩
    refine lc_acc (walk_list (K := K) (a := u) (xs := ys)) (fun i acc H' => Same H5 H' ∧ Al2 (PthV H5) acc ((srtP ps).take i)) ⟨same_new hD2 _, .nil⟩ (fun i acc H' _ _ h => h.1.seq (SqL.of eu)) ?_ ?_
    · rintro i acc x H6 H7 hi e2 el2 ⟨s6, d6⟩ ⟨rfl, hx⟩
      obtain ⟨p, ep, o, r, b, vs, rfl, h2, h3, h4, h5, h6⟩ := al5.at hx
      obtain ⟨hi2, ek⟩ := List.getElem?_eq_some_iff.mp ep
      refine ⟨rfl, _, rfl, o, _, 1, _, rfl, rfl, SqT.of (s6 _ _ h2), atI_nat (j := 1) rfl, ?_⟩
      refine acc_step e2 el2 (by omega) ⟨s6.late hD2, ?_⟩
      rw [List.take_succ_eq_append_getElem hi2, ek]
      exact d6.app (.cons ⟨b, rfl, h3⟩ .nil)
    · rintro acc H6 e2 el2 ⟨s6, d6⟩
      rw [ly, List.take_length] at d6
      refine q _ acc _ ((s1.trans s5).trans s6) (same_free (s1.trans s5) hD2) e2 (d6.mono fun v p h => ?_)
      obtain ⟨b, h1, h2⟩ := h
      exact ⟨b, h1, s6 _ _ h2⟩
/-! ### _law_below -/
theorem sc_law_below : FnScope ["flat", "path", "keys", "each", "key"] ["flat", "path"] (defScope s_law_below) := ⟨rfl, rfl, rfl, by decide +kernel, rfl, by decide +kernel, by decide +kernel⟩

def sp_law_below (K : PySem.W.Frag) : Sp := fun vs H Q _ => ∃ (d a : Addr) (fl : Fl) (p : List Str), vs = [.ref d, .ref a] ∧ FlatAt K H d fl ∧ fl.length ≤ 50000 ∧ (∀ x ∈ fl, x.1.length ≤ 100 ∧ ∀ k ∈ x.1, k.length ≤ 1000) ∧ SqT K H a (p.map V.str) ∧ p.length ≤ 100 ∧ ∀ r H', Same H H' → H r = none → H' r = some (.lst ((below fl p).map V.str)) → Q (.ref r) H'

theorem ok_law_below {f : Addr} {fd : FuncData} (F : Fun K "_law_below" "_law_below" s_law_below f fd) (T : Top K w mg) : FnOk P w K mg base CX0 1 f fd ["flat", "path"] (sp_law_below K) := by
  have sc := sc_law_below
  refine F.ok sc (fun vs H Q E h => ?_) (fun cdv A outer s H vs Q E hr h => ?_)
  · obtain ⟨d, a, fl, p, rfl, _⟩ := h
    rfl
  obtain ⟨d, a, fl, p, rfl, hF, lf, hps, hS, lp, q⟩ := h
  refine ⟨_, (pss_cons (ps_lock (ps_setLc (i := 2) (own := [("each", 3)]) (g := gName 3) rfl sc.nd rfl rfl (sw_true rfl rfl rfl (by decide +kernel)) (pi_keys (pv 0)) (blkOk_by (N := ["flat", "path", "keys", "each", "key"]) (sc := defScope s_law_below) (by decide +kernel)) (fun _ _ _ _ _ => pg_name (i := 3) sc.nd rfl (Or.inl rfl)) (fun _ _ _ _ _ => pts_one (PW.pt (pw_and (pt_cmpR op_eq (pe_callB (kc_lenS (K := K) rfl) (by rfl) T.z_len (by decide +kernel) (pa_cons (pv 3) pa_nil)) (pe_op op_add (pe_callB (kc_lenS (K := K) rfl) (by rfl) T.z_len (by decide +kernel) (pa_cons (pv 1) pa_nil)) pe_int) (nomark _)) (pw_and1 (pt_cmpR (op_eqT (K := K) rfl hr.units) (pe_slice (ksl_tup (K := K) rfl) (pv 3) po_none (po_some (pe_un un_neg pe_int))) (pv 1) (nomark _)))))) (fun _ _ _ _ _ => (pe_ix (kx_tup (K := K) rfl) (pv 3) (pe_un un_neg pe_int) (fun _ _ => rfl)))))
    (pss_one (ps_ret (pe_lc (own := [("each", 3)]) (g := gName 3) (tt := tYes) rfl sc.nd (kpi_list (K := K) rfl (pe_callB (cr_sortB (K := K) (enc := dK) rfl hr.units) (by rfl) T.z_sorted (by decide +kernel) (pa_cons (pe_lc (own := [("key", 4)]) (g := gName 4) (tt := tYes) rfl sc.nd (kpi_list (K := K) rfl (pv 2)) (blkOk_by (N := ["flat", "path", "keys", "each", "key"]) (sc := defScope s_law_below) (by decide +kernel)) (fun _ _ _ _ _ => pg_name (i := 4) sc.nd rfl (Or.inl rfl)) (fun _ _ _ _ _ => pts_nil) (fun _ _ _ _ _ => (pe_tup (pa_cons (pe_callB call_len_str (by rfl) T.z_len (by decide +kernel) (pa_cons (pv 4) pa_nil)) (pa_cons (pv 4) pa_nil))))) pa_nil))) (blkOk_by (N := ["flat", "path", "keys", "each", "key"]) (sc := defScope s_law_below) (by decide +kernel)) (fun _ _ _ _ _ => pg_name (i := 3) sc.nd rfl (Or.inl rfl)) (fun _ _ _ _ _ => pts_nil) (fun _ _ _ _ _ => (pe_ix (kx_tup (K := K) rfl) (pv 3) pe_int (fun _ _ => rfl))))))), ?_⟩

  obtain ⟨kvs, hd, hk⟩ := hF.ex
  have lk := hk.len
  refine ⟨d, .dT kvs, hd, trivial, fun od => ?_⟩
  refine ⟨_, rfl, d, od, rfl, .inr ⟨kvs, upd_same, ?_⟩⟩
  intro D hD
  have nDd : D ≠ d := fun z => by subst z; rw [upd_same] at hD; cases hD
  have hDH : H D = none := by rw [upd_ne nDd] at hD; exact hD
  refine lc_it walk_keysT (fun i H' => H' d = some (.frz od (.dT kvs)) ∧ (∀ b o, b ≠ d → H b = some o → H' b = some o) ∧ H' D = some (.lst ((((fl.take i).filter (isBelow p)).map fun x => lastS x.1).map V.str))) ⟨by rw [upd_ne nDd.symm, upd_same], fun b o n e => by rw [upd_ne (ne_of_none e hDH), upd_ne n]; exact e, upd_same⟩ (fun i H _ h => h.1) ?_ ?_
  · rintro i x H1 H2 hi ⟨e1, s1, eD⟩ ⟨rfl, k, v, b, ek, rfl, hb⟩
    obtain ⟨r, c, er, rfl, _⟩ := hk.at ek
    rw [kP_V] at hb
    obtain ⟨hi2, ei⟩ := List.getElem?_eq_some_iff.mp er
    have hr := hps _ (List.mem_of_getElem? er)
    have hS2 : SqT K H2 a (p.map V.str) := seqT_two (f := D) (fun b o _ n e => s1 b o n e) hDH hd hS
    refine ⟨wipe_back, ?_⟩
    have no : isBelow p (r, c) = false → (((fl.take (i + 1)).filter (isBelow p)).map fun x => lastS x.1) = ((fl.take i).filter (isBelow p)).map fun x => lastS x.1 := fun z => by
      rw [List.take_succ_eq_append_getElem hi2, ei, List.filter_append, List.filter_cons_of_neg (by rw [z]; exact Bool.false_ne_true), List.filter_nil, List.append_nil]
    refine ⟨_, rfl, b, _, rfl, .inr (SqT.of hb), _, rfl, a, _, rfl, .inr hS2, _, _, rfl, rfl, rfl, _, rfl, ?_⟩
    rw [List.length_map, List.length_map]
    by_cases z1 : r.length = p.length + 1
    · rw [decide_eq_true (show V.int (r.length : Int) = V.int ((p.length : Int) + 1) by rw [z1]; rfl)]
      refine iteT ⟨_, rfl, ?_⟩
      dsimp only [tNoPart]
      refine ⟨_, rfl, _, rfl, slA_of (SqT.of hb) fun u H3 s3 hu => ?_⟩
      rw [cutV_neg1, List.length_map, z1, Nat.add_sub_cancel, ← List.map_take] at hu
      have dp := deeps_strs (r.take p.length)
      refine ⟨_, rfl, (r.take p.length).map .str, p.map .str, .tup hu (DTs.strs _), .tup (s3.seqT hS2) (DTs.strs _), by omega, _, rfl, ?_⟩
      rw [eqbs_strs]
      have e13 := s3 _ _ e1
      have s13 : ∀ b o, b ≠ d → H b = some o → H3 b = some o := fun b o n e => s3 _ _ (s1 b o n e)
      have eD3 := s3 _ _ eD
      by_cases z2 : r.take p.length = p
      · rw [decide_eq_true z2]
        refine iteT ?_
        have zb : isBelow p (r, c) = true := by
          unfold isBelow
          rw [decide_eq_true z1, decide_eq_true z2]
          rfl
        obtain ⟨k, ek2⟩ := (isBelow_iff _ _).mp zb
        have ek2 : r = p ++ [k] := ek2
        refine ⟨_, rfl, _, rfl, b, _, -1, .str k, rfl, rfl, SqT.of (s3 _ _ hb), by rw [ek2, List.map_append]; exact atI_last _ _, ?_⟩
        have ll : (((fl.take i).filter (isBelow p)).map fun x => lastS x.1).length ≤ fl.length := by
          rw [List.length_map]
          have h1 := List.length_filter_le (isBelow p) (fl.take i)
          have h2 : (fl.take i).length ≤ fl.length := by rw [List.length_take]; exact Nat.min_le_right _ _
          omega
        refine ⟨_, eD3, lt_line (by rw [List.length_map]; omega), by rw [upd_ne nDd.symm]; exact e13, fun b o n e => by rw [upd_ne (ne_of_none e hDH)]; exact s13 b o n e, ?_⟩
        rw [upd_same, List.take_succ_eq_append_getElem hi2, ei, List.filter_append, List.filter_cons_of_pos zb, List.filter_nil, List.map_append, List.map_append]
        show _ = some (HO.lst (_ ++ [V.str (lastS r)]))
        rw [ek2, lastS_snoc]
      · rw [decide_eq_false z2]
        refine iteF ⟨e13, s13, ?_⟩
        rw [no (by unfold isBelow; rw [decide_eq_false z2, Bool.and_false])]
        exact eD3
    · rw [decide_eq_false (show ¬ V.int (r.length : Int) = V.int ((p.length : Int) + 1) from fun z => z1 (by injection z; omega))]
      refine iteF (iteF ⟨e1, s1, ?_⟩)
      rw [no (by unfold isBelow; rw [decide_eq_false z1, Bool.false_and])]
      exact eD
  · rintro H1 ⟨e1, s1, eD⟩
    rw [lk, List.take_length] at eD
    refine ⟨e1, ?_⟩
    have sH : Same H (upd H1 d (.dT kvs)) := fun b o e => by
      by_cases z : b = d
      · subst z; rw [hd] at e; rw [upd_same]; exact e
      · rw [upd_ne z]; exact s1 b o z e
    have eD2 : (upd H1 d (.dT kvs)) D = some (.lst ((keysB fl p).map V.str)) := by rw [upd_ne nDd]; exact eD
    generalize upd H1 d (.dT kvs) = H2 at *
    have kl : ∀ k ∈ keysB fl p, k.length ≤ 1000 := fun k hk => by
      obtain ⟨x, hx, rfl⟩ := List.mem_map.mp hk
      obtain ⟨h1, h2⟩ := List.mem_filter.mp hx
      obtain ⟨k, e⟩ := (isBelow_iff _ _).mp h2
      rw [e, lastS_snoc]
      exact (hps x h1).2 k (by rw [e]; simp)
    have lb : (keysB fl p).length ≤ 50000 := by
      unfold keysB
      rw [List.length_map]
      have h1 := List.length_filter_le (isBelow p) fl
      omega
    have lB : (below fl p).length = (keysB fl p).length := srtK_len _
    have lk2 : ((keysB fl p).map V.str).length = (keysB fl p).length := List.length_map _
    refine ⟨_, rfl, D, rfl, ⟨_, SqL.of eD2⟩, fun D2 hD2 => ?_⟩
    refine lc_acc (walk_list (K := K) (a := D) (xs := (keysB fl p).map V.str)) (fun i acc H' => Same H2 H' ∧ Al2 (RowK H') acc ((keysB fl p).take i)) ⟨same_new hD2 _, .nil⟩ (fun i acc H' _ _ h => h.1.seq (SqL.of eD2)) ?_ ?_
    · rintro i acc x H3 H4 hi e el ⟨s3, d3⟩ ⟨rfl, hx⟩
      rw [List.getElem?_map] at hx
      obtain ⟨k, hk', rfl⟩ := Option.map_eq_some_iff.mp hx
      obtain ⟨hi2, ek⟩ := List.getElem?_eq_some_iff.mp hk'
      have hkl := kl k (List.mem_of_getElem? hk')
      refine ⟨rfl, _, rfl, k, rfl, le_line (by omega), _, rfl, (by show 2 ≤ sizeLine; decide), fun o ho => ?_⟩
      have s4 := same_new ho (.tup [.int k.length, .str k])
      have e4 := s4 _ _ e
      refine acc_step e4 el (by omega) ⟨(s3.trans s4).late hD2, ?_⟩
      rw [List.take_succ_eq_append_getElem hi2, ek]
      refine ((d3.mono fun y k h => ?_).app (.cons ⟨o, rfl, ?_⟩ .nil))
      · obtain ⟨o', h1, h2⟩ := h
        have h2' := s4 _ _ h2
        exact ⟨o', h1, by rw [upd_ne (ne_of h2' e4 (fun z => by cases z))]; exact h2'⟩
      · rw [upd_ne (ne_of_none e ho).symm]
        exact upd_same
    · rintro acc H3 e el ⟨s3, d3⟩
      rw [lk2, List.take_length] at d3
      refine ⟨D2, acc, keysB fl p, rfl, SqL.of e, rowks_dp d3, PySem.W.AllAlike.of alike_dK, PySem.W.Sortable.tuples fun b => ⟨_, _, rfl⟩, fun b _ => depth_dK b, fun zs u hz ez hu => ?_⟩
      have al : Al2 (RowK H3) (zs.map (·.1)) (below fl p) := by
        have h := Al2.maps (zs := zs) (R := RowK H3) fun z hz' => d3.zip z (hz.mem_iff.mp hz')
        rw [ez] at h
        exact h
      have s5 := same_new hu (.lst (zs.map (·.1)))
      have eu : (upd H3 u (.lst (zs.map (·.1)))) u = some (.lst (zs.map (·.1))) := upd_same
      generalize upd H3 u (.lst (zs.map (·.1))) = H5 at *
      generalize zs.map (·.1) = ys at *
      have ly := al.len
      refine ⟨u, rfl, ⟨_, SqL.of eu⟩, fun D3 hD3 => ?_⟩
      refine lc_acc (walk_list (K := K) (a := u) (xs := ys)) (fun i acc H' => Same H5 H' ∧ acc = ((below fl p).take i).map V.str) ⟨same_new hD3 _, rfl⟩ (fun i acc H' _ _ h => h.1.seq (SqL.of eu)) ?_ ?_
      · rintro i acc x H6 H7 hi e2 el2 ⟨s6, rfl⟩ ⟨rfl, hx⟩
        obtain ⟨k, ek, o, rfl, h2⟩ := al.at hx
        obtain ⟨hi2, ek2⟩ := List.getElem?_eq_some_iff.mp ek
        refine ⟨rfl, _, rfl, o, _, 1, _, rfl, rfl, SqT.of (s6 _ _ (s5 _ _ h2)), atI_nat (j := 1) rfl, ?_⟩
        refine acc_step e2 el2 (by omega) ⟨s6.late hD3, ?_⟩
        rw [List.take_succ_eq_append_getElem hi2, ek2, List.map_append]
        rfl
      · rintro acc H6 e2 el2 ⟨s6, rfl⟩
        rw [ly, List.take_length] at e2
        exact q _ _ (sH.trans (s3.trans (s5.trans s6))) (same_free (sH.trans (s3.trans s5)) hD3) e2
/-! ### _law_document -/
theorem sc_law_document : FnScope ["flat", "path", "fields", "key", "content"] ["flat", "path"] (defScope s_law_document) := ⟨rfl, rfl, rfl, by decide +kernel, rfl, by decide +kernel, by decide +kernel⟩

def spDoc (n : Nat) (K : PySem.W.Frag) : Sp := fun vs H Q _ => ∃ (d a : Addr) (fl : Fl) (p : List Str), vs = [.ref d, .ref a] ∧ FlatAt K H d fl ∧ (fl.map (·.1)).Nodup ∧ fl.length ≤ 50000 ∧ (∀ x ∈ fl, x.1.length ≤ 9 ∧ ∀ k ∈ x.1, k.length ≤ 1000) ∧ SqT K H a (p.map V.str) ∧ p.length ≤ 9 ∧ 11 ≤ p.length + n ∧ ∀ v H', Same H H' → DT K H' v (.tup (doc fl p)) → Q v H'
abbrev sp_law_document : PySem.W.Frag → Sp := spDoc 11


theorem ok_law_document_n {n : Nat} {f : Addr} {fd : FuncData} (F : Fun K "_law_document" "_law_document" s_law_document f fd) (T : Top K w mg) {a_law_below : Addr} {d_law_below : FuncData} (C_law_below : Cal P w K mg base "_law_below" 1 ["flat", "path"] sp_law_below a_law_below d_law_below) (C_law_document : Cal P w K mg base "_law_document" (n + 1) ["flat", "path"] (spDoc (n + 1)) f fd) : FnOk P w K mg base CX0 (n + 2) f fd ["flat", "path"] (spDoc (n + 2) K) := by
  have sc := sc_law_document
  refine F.ok sc (fun vs H Q E h => ?_) (fun cdv A outer s H vs Q E hr h => ?_)
  · obtain ⟨d, a, fl, p, rfl, _⟩ := h
    rfl
  obtain ⟨d, a, fl, p, rfl, hF, nd, lf, hps, hS, lp, ln, q⟩ := h
  refine ⟨_, (pss_cons (ps_set (i := 2) sc.nd rfl (Or.inl rfl) (pe_lst pa_nil))
    (pss_cons (ps_for PassesOwn.never rfl (kpi_list (K := K) rfl (pe_call C_law_below.ok (hr.mono (by omega)) (by rfl) C_law_below.m C_law_below.kp C_law_below.b .nil pass0 (pa_cons (pv 0) (pa_cons (pv 1) pa_nil)))) (pg_name (i := 3) sc.nd rfl (Or.inl rfl))
      (pss_cons (ps_set (i := 4) sc.nd rfl (Or.inl rfl) (pe_dget (units1 hr.units) (pv 0) (pe_op (kop_catT (K := K) rfl) (pv 1) (pe_tup (pa_cons (pv 3) pa_nil))) (fun _ _ => rfl)))
      (C8.pss_cut (ps_if (pt_cmpR (op_eqT (K := K) rfl hr.units) (pv 4) (pe_tup (pa_cons pe_str pa_nil)) (nomark _))
        (pss_one (ps_set (i := 4) sc.nd rfl (Or.inl rfl) (pe_tup (pa_cons pe_str (pa_cons (pe_call C_law_document.ok hr (by rfl) C_law_document.m C_law_document.kp C_law_document.b .nil pass0 (pa_cons (pv 0) (pa_cons (pe_op (kop_catT (K := K) rfl) (pv 1) (pe_tup (pa_cons (pv 3) pa_nil))) pa_nil))) pa_nil)))))
        pss_nil)
      (pss_one (ps_expr (pe_bm PySem.F.plainAttrs_list PySem.F.slot_list_append PySem.F.type_list_append mt_append (pv 2) (pa_cons (pe_tup (pa_cons (pv 3) (pa_cons (pv 4) pa_nil))) pa_nil)))))))
    (pss_one (ps_ret (pe_callTy (kc_tuple (K := K) rfl) (by rfl) T.z_tuple (by decide +kernel) (pa_cons (pv 2) pa_nil)))))), ?_⟩
  have nine : ∀ q c, getF fl q = some c → q.length ≤ 9 := fun q c e => (hps _ (getF_mem e)).1
  refine ⟨(by show 0 ≤ sizeLine; decide), fun W hW => ?_⟩
  refine ⟨_, rfl, _, rfl, d, a, fl, p, rfl, hF.same (same_new hW _), lf, (fun x hx => ⟨by have := (hps x hx).1; omega, (hps x hx).2⟩), (same_new hW _).seqT hS, by omega, fun r H1 s1 hr e1 => ?_⟩
  have eW1 : H1 W = some (.lst []) := s1 _ _ upd_same
  have nrW : r ≠ W := fun z => by subst z; rw [upd_same] at hr; cases hr
  have sH1 : Same H H1 := (same_new hW _).trans s1
  have lb := below_len fl p
  refine ⟨r, rfl, ⟨_, SqL.of e1⟩, ?_⟩
  refine for_it (walk_list (K := K) (a := r) (xs := (below fl p).map V.str)) (fun i σ H' => Same H H' ∧ H' r = some (.lst ((below fl p).map V.str)) ∧ ∃ acc v3 v4, H' W = some (.lst acc) ∧ acc.length = i ∧ DTs K H' acc (((below fl p).take i).map (prD fl p)) ∧ σ = [some (.ref d), some (.ref a), some (.ref W), v3, v4]) ⟨sH1, e1, [], _, _, eW1, rfl, .nil, rfl⟩ (fun i σ H' _ h => SqL.of h.2.1) ?_ ?_
  · rintro i x σ H2 H3 hi ⟨s2, er2, acc, v3, v4, eW2, el, d2, rfl⟩ ⟨rfl, hx⟩
    rw [List.getElem?_map] at hx
    obtain ⟨k, hk', rfl⟩ := Option.map_eq_some_iff.mp hx
    obtain ⟨hi2, ek⟩ := List.getElem?_eq_some_iff.mp hk'
    obtain ⟨c, hc⟩ := mem_below.mp (List.mem_of_getElem? hk')
    have lp9 : p.length + 1 ≤ 9 := by have := nine _ _ hc; rw [List.length_append] at this; exact this
    have hS3 := s2.seqT hS
    have hF3 := hF.same s2
    -- the content
    refine ⟨_, rfl, _, rfl, _, rfl, (by show 1 ≤ sizeLine; decide), fun o ho => ?_⟩
    have s4 := same_new ho (.tup [V.str k])
    have eo4 : (upd H3 o (.tup [V.str k])) o = some (.tup [V.str k]) := upd_same
    generalize upd H3 o (.tup [V.str k]) = H4 at *
    refine catA_tr (s4.seqT hS3) eo4 (by simp) (le_line (by rw [List.length_map]; show p.length + 1 ≤ _; omega)) fun b H5 s5 hb => ?_
    have hb' : H5 b = some (.tup ((kP (p ++ [k])).map kV)) := by rw [kP_V, List.map_append]; exact hb
    obtain ⟨kvs, hd5, hk5⟩ := ((hF3.same s4).same s5).ex
    rcases hk5.get (p ++ [k]) with ⟨_, g2⟩ | ⟨v, c', g1, g2, dv⟩
    · rw [hc] at g2; cases g2
    have ec : c' = c := by rw [hc] at g2; exact (Option.some.inj g2).symm
    subst ec
    refine ⟨d, v, rfl, .inr ⟨kvs, kP (p ++ [k]), b, .inl hd5, rfl, hb', g1.symm⟩, ?_⟩
    have s35 := s4.trans s5
    refine ⟨fun σ' H' => ∃ u, Same H5 H' ∧ DT K H' u (valD fl (p ++ [k])) ∧ σ' = [some (.ref d), some (.ref a), some (.ref W), some (.str k), some u], ?_, ?_⟩
    · refine ⟨_, rfl, (by show 1 ≤ sizeLine; decide), fun o2 ho2 => ?_⟩
      have s6 := same_new ho2 (.tup [V.str (Str.ofString "record")])
      have dep := deep_scD c'
      have dep' : Dt.deeps (scD c') + 1 ≤ 2 := dep
      refine ⟨scD c', [.str (Str.ofString "record")], dv.same s6, .tup (SqT.of upd_same) (.cons (.str _) .nil), by omega, _, rfl, ?_⟩
      rw [eqbs_recd]
      have dv6 := dv.same s6
      have s56 := s35.trans s6
      have no : c' ≠ .recd → DT K (upd H5 o2 (.tup [V.str (Str.ofString "record")])) v (valD fl (p ++ [k])) := fun z => by
        unfold valD
        rw [hc]
        cases c' <;> first | exact dv6 | exact absurd rfl z
      have yes : c' = .recd → ∀ w, valD fl (p ++ [k]) = w → w = .tup [.str (Str.ofString "record"), .tup (doc fl (p ++ [k]))] := fun z w e => by
        rw [← e]
        unfold valD
        rw [hc, z]
      have hS6 := s56.seqT hS3
      have hF6 := hF3.same s56
      generalize upd H5 o2 (.tup [V.str (Str.ofString "record")]) = H6 at *
      cases c' with
      | recd =>
        refine iteT ?_
        refine ⟨_, rfl, _, rfl, _, rfl, (by show 1 ≤ sizeLine; decide), fun o3 ho3 => ?_⟩
        have s7 := same_new ho3 (.tup [V.str k])
        have eo7 : (upd H6 o3 (.tup [V.str k])) o3 = some (.tup [V.str k]) := upd_same
        generalize upd H6 o3 (.tup [V.str k]) = H7 at *
        refine catA_tr (s7.seqT hS6) eo7 (by simp) (le_line (by rw [List.length_map]; show p.length + 1 ≤ _; omega)) fun b2 H8 s8 hb2 => ?_
        have hb2' : SqT K H8 b2 ((p ++ [k]).map V.str) := by rw [List.map_append]; exact SqT.of hb2
        refine ⟨d, b2, fl, p ++ [k], rfl, (hF6.same s7).same s8, nd, lf, hps, hb2', by rw [List.length_append]; exact lp9, by rw [List.length_append]; show 11 ≤ p.length + 1 + (n + 1); omega, fun v2 H9 s9 dv2 => ?_⟩
        refine ⟨(by show 2 ≤ sizeLine; decide), fun o4 ho4 => ?_⟩
        have s10 := same_new ho4 (.tup [V.str (Str.ofString "record"), v2])
        refine ⟨.ref o4, s6.trans (s7.trans (s8.trans (s9.trans s10))), ?_, rfl⟩
        rw [yes rfl _ rfl]
        exact .tup (SqT.of upd_same) (.cons (.str _) (.cons (dv2.same s10) .nil))
      | null => exact iteF ⟨v, s6, no (fun z => by cases z), rfl⟩
      | fals => exact iteF ⟨v, s6, no (fun z => by cases z), rfl⟩
      | tru => exact iteF ⟨v, s6, no (fun z => by cases z), rfl⟩
      | num m => exact iteF ⟨v, s6, no (fun z => by cases z), rfl⟩
      | text z => exact iteF ⟨v, s6, no (fun z => by cases z), rfl⟩
    · rintro σ' H6 ⟨u, s6, du, rfl⟩
      have s36 := s35.trans s6
      have eW6 := s36 _ _ eW2
      refine ⟨_, rfl, .inl ⟨rfl, _, SqL.of eW6⟩, _, rfl, _, rfl, (by show 2 ≤ sizeLine; decide), fun o2 ho2 => ?_⟩
      have s7 := same_new ho2 (.tup [V.str k, u])
      have eW7 := s7 _ _ eW6
      have lkk : ((below fl p).map V.str).length = (below fl p).length := List.length_map _
      refine ⟨W, _, _, rfl, rfl, eW7, lt_line (by omega), ?_⟩
      have s37 := s36.trans s7
      have dpair : DT K (upd H6 o2 (.tup [V.str k, u])) (.ref o2) (prD fl p k) := .tup (SqT.of upd_same) (.cons (.str _) (.cons (du.same s7) .nil))
      have all := (d2.same s37).append (.cons dpair .nil)
      refine ⟨(s2.trans s37).late hW, by rw [upd_ne nrW]; exact s37 _ _ er2, _, _, _, upd_same, by rw [List.length_append, el]; rfl, ?_, rfl⟩
      rw [List.take_succ_eq_append_getElem hi2, ek, List.map_append]
      exact DTs.mono (fun _ _ h => seqT_put eW7 (fun _ z => by cases z) (fun _ _ z => by cases z) h) _ _ all
  · rintro σ H2 ⟨s2, er2, acc, v3, v4, eW2, el, d2, rfl⟩
    have ll : ((below fl p).map V.str).length = (below fl p).length := List.length_map _
    rw [ll, List.take_length] at d2
    refine ⟨_, rfl, W, acc, rfl, .inl ⟨SqL.of eW2, fun u hu => ?_⟩⟩
    refine q _ _ (s2.trans (same_new hu _)) ?_
    rw [doc_eq nine]
    exact .tup (SqT.of upd_same) (d2.same (same_new hu _))
theorem ok_law_document {f : Addr} {fd : FuncData} (F : Fun K "_law_document" "_law_document" s_law_document f fd) (T : Top K w mg) (M : mg "_law_document" = some (.ref f)) {a_law_below : Addr} {d_law_below : FuncData} (C_law_below : Cal P w K mg base "_law_below" 1 ["flat", "path"] sp_law_below a_law_below d_law_below) : FnOk P w K mg base CX0 11 f fd ["flat", "path"] (sp_law_document K) := by
  have b := F.binds (ps := ["flat", "path"]) fun _ _ _ _ _ _ us hl => match us, hl with | [_, _], _ => rfl
  have h : ∀ n, FnOk P w K mg base CX0 (n + 1) f fd ["flat", "path"] (spDoc (n + 1) K) := fun n => by
    induction n with
    | zero =>
      refine none_any fun vs H Q E h => ?_
      obtain ⟨d, a, fl, p, _, _, _, _, _, _, lp, ln, _⟩ := h
      omega
    | succ n ih => exact ok_law_document_n F T C_law_below ⟨ih, b, F.kp, M⟩
  exact h 10

/-! ### _law_literal -/
theorem sc_law_literal : FnScope ["tape", "choice"] ["tape"] (defScope s_law_literal) := ⟨rfl, rfl, rfl, by decide +kernel, rfl, by decide +kernel, by decide +kernel⟩

def sp_law_literal (K : PySem.W.Frag) : Sp := fun vs H Q _ => ∃ (t : Addr), vs = [.ref t] ∧ Tape H t ∧ ∀ v c H', Go t H H' → TT H' v (.tup (scD c)) → scN c → Q v H'

theorem ok_law_literal {f : Addr} {fd : FuncData} (F : Fun K "_law_literal" "_law_literal" s_law_literal f fd) (T : Top K w mg) {a_law_draw : Addr} {d_law_draw : FuncData} (C_law_draw : Cal P w K mg base "_law_draw" 1 ["tape", "many"] sp_law_draw a_law_draw d_law_draw) {a_law_pick : Addr} {d_law_pick : FuncData} (C_law_pick : Cal P w K mg base "_law_pick" 2 ["tape", "row"] sp_law_pick a_law_pick d_law_pick) {a_law_tight_text : Addr} {d_law_tight_text : FuncData} (C_law_tight_text : Cal P w K mg base "_law_tight_text" 3 ["tape", "many"] sp_law_tight_text a_law_tight_text d_law_tight_text) : FnOk P w K mg base CX0 4 f fd ["tape"] (sp_law_literal K) := by
  have sc := sc_law_literal
  refine F.ok sc (fun vs H Q E h => ?_) (fun cdv A outer s H vs Q E hr h => ?_)
  · obtain ⟨t, rfl, _⟩ := h
    rfl
  obtain ⟨t, rfl, hT, q⟩ := h
  refine ⟨_, (pss_cons (ps_set (i := 1) sc.nd rfl (Or.inl rfl) (pe_call C_law_draw.ok (hr.mono (by omega)) (by rfl) C_law_draw.m C_law_draw.kp C_law_draw.b .nil pass0 (pa_cons (pv 0) (pa_cons pe_int pa_nil))))
    (pss_cons (ps_if (pt_cmpR op_lt (pv 1) pe_int (nomark _))
      (pss_one (ps_ret (pe_ix (kx_list (K := K) rfl) (pe_lst (pa_cons (pe_tup (pa_cons pe_str pa_nil)) (pa_cons (pe_tup (pa_cons pe_str pa_nil)) pa_nil))) (pv 1) (fun _ _ => rfl))))
      pss_nil)
    (pss_cons (ps_if (pt_cmpR op_lt (pv 1) pe_int (nomark _))
      (pss_one (ps_ret (pe_tup (pa_cons pe_str (pa_cons (pe_op op_sub (pe_call C_law_draw.ok (hr.mono (by omega)) (by rfl) C_law_draw.m C_law_draw.kp C_law_draw.b .nil pass0 (pa_cons (pv 0) (pa_cons pe_int pa_nil))) pe_int) pa_nil)))))
      pss_nil)
    (pss_cons (ps_if (pt_cmpR op_eq (pv 1) pe_int (nomark _))
      (pss_one (ps_ret (pe_tup (pa_cons pe_str (pa_cons (pe_call C_law_pick.ok (hr.mono (by omega)) (by rfl) C_law_pick.m C_law_pick.kp C_law_pick.b .nil pass0 (pa_cons (pv 0) (pa_cons (pe_lst (pa_cons pe_int (pa_cons pe_int (pa_cons (pe_un un_neg pe_int) (pa_cons pe_int (pa_cons (pe_un un_neg pe_int) (pa_cons pe_int pa_nil))))))) pa_nil))) pa_nil)))))
      pss_nil)
    (pss_cons (ps_if (pt_cmpR op_eq (pv 1) pe_int (nomark _))
      (pss_one (ps_ret (pe_tup (pa_cons pe_str (pa_cons (pe_op op_sub (pe_call C_law_draw.ok (hr.mono (by omega)) (by rfl) C_law_draw.m C_law_draw.kp C_law_draw.b .nil pass0 (pa_cons (pv 0) (pa_cons pe_int pa_nil))) pe_int) pa_nil)))))
      pss_nil)
    (pss_cons (ps_if (pt_cmpR op_eq (pv 1) pe_int (nomark _))
      (pss_one (ps_ret (pe_tup (pa_cons pe_str (pa_cons (pe_call C_law_pick.ok (hr.mono (by omega)) (by rfl) C_law_pick.m C_law_pick.kp C_law_pick.b .nil pass0 (pa_cons (pv 0) (pa_cons (pe_lst (pa_cons pe_str (pa_cons pe_str (pa_cons pe_str (pa_cons pe_str (pa_cons pe_str (pa_cons pe_str (pa_cons pe_str (pa_cons pe_str (pa_cons pe_str (pa_cons pe_str pa_nil))))))))))) pa_nil))) pa_nil)))))
      pss_nil)
    (pss_one (ps_ret (pe_tup (pa_cons pe_str (pa_cons (pe_call C_law_tight_text.ok (hr.mono (by omega)) (by rfl) C_law_tight_text.m C_law_tight_text.kp C_law_tight_text.b .nil pass0 (pa_cons (pv 0) (pa_cons (pe_call C_law_pick.ok (hr.mono (by omega)) (by rfl) C_law_pick.m C_law_pick.kp C_law_pick.b .nil pass0 (pa_cons (pv 0) (pa_cons (pe_lst (pa_cons pe_int (pa_cons pe_int (pa_cons pe_int (pa_cons pe_int (pa_cons pe_int pa_nil)))))) pa_nil))) pa_nil))) pa_nil))))))))))), ?_⟩

  have sgs : ∀ z ∈ [Str.ofString "a", Str.ofString "b", Str.ofString "1", Str.ofString "true", Str.ofString "null", Str.ofString "@", Str.ofString "#", Str.ofString "set", Str.ofString "(", Str.ofString "="], z.length ≤ 60 ∧ ∀ c ∈ z.cps.toList, Sg c := by decide +kernel
  refine ⟨_, rfl, t, 9, rfl, hT, by decide, by decide, fun ch H1 c0 c1 g1 => ?_⟩
  refine ⟨_, rfl, _, _, rfl, rfl, _, rfl, ite2 (fun d => ?_) (fun d => ?_)⟩
  · have d' : ch < 2 := of_decide_eq_true d
    refine ⟨(by show 1 ≤ sizeLine; decide), fun p1 h1 => ⟨(by show 1 ≤ sizeLine; decide), fun p2 h2 => ⟨(by show 2 ≤ sizeLine; decide), fun p4 h4 => ?_⟩⟩⟩
    have g2 := ((g1.new (o := .tup [.str (Str.ofString "true")]) h1).new (o := .tup [.str (Str.ofString "false")]) h2).new (o := .lst [.ref p1, .ref p2]) h4
    have e2 : (upd (upd (upd H1 p1 (.tup [.str (Str.ofString "true")])) p2 (.tup [.str (Str.ofString "false")])) p4 (.lst [.ref p1, .ref p2])) p2 = some (.tup [.str (Str.ofString "false")]) := (same_new h4 _) _ _ upd_same
    have e1 : (upd (upd (upd H1 p1 (.tup [.str (Str.ofString "true")])) p2 (.tup [.str (Str.ofString "false")])) p4 (.lst [.ref p1, .ref p2])) p1 = some (.tup [.str (Str.ofString "true")]) := (same_new h4 _) _ _ ((same_new h2 _) _ _ upd_same)
    have : ch = 0 ∨ ch = 1 := by omega
    rcases this with rfl | rfl
    · exact ⟨_, rfl, p4, _, _, _, rfl, rfl, SqL.of upd_same, rfl, q _ .tru _ g2 (.tup (e1) (.cons (.str _) .nil)) trivial⟩
    · exact ⟨_, rfl, p4, _, _, _, rfl, rfl, SqL.of upd_same, rfl, q _ .fals _ g2 (.tup (e2) (.cons (.str _) .nil)) trivial⟩
  have num : ∀ (n : Int) (H' : Hp) (p : Addr), Go t H H' → H' p = none → -999999 ≤ n → n ≤ 999999 → Q (.ref p) (upd H' p (.tup [.str (Str.ofString "number"), .int n])) := fun n H' p g hp b1 b2 =>
    q _ (.num n) _ (g.new hp) (.tup upd_same (.cons (.str _) (.cons (.int _) .nil))) ⟨b1, b2⟩
  have txt : ∀ (s : Str) (H' : Hp) (p : Addr), Go t H H' → H' p = none → s.length ≤ 60 → SgT s → Q (.ref p) (upd H' p (.tup [.str (Str.ofString "text"), .str s])) := fun s H' p g hp b1 b2 =>
    q _ (.text s) _ (g.new hp) (.tup upd_same (.cons (.str _) (.cons (.str _) .nil))) ⟨b1, b2⟩
  refine ⟨_, rfl, _, _, rfl, rfl, _, rfl, ite2 (fun _ => ?_) (fun _ => ?_)⟩
  · refine ⟨_, rfl, t, 12, rfl, g1.tp, by decide, by decide, fun r H2 r0 r1 g2 => ⟨_, _, rfl, rfl, (by show 2 ≤ sizeLine; decide), fun p hp => ?_⟩⟩
    exact num _ _ p (g1.trans g2) hp (by show -999999 ≤ r - 4; omega) (by show r - 4 ≤ 999999; omega)
  refine ⟨_, rfl, rfl, _, rfl, ite2 (fun _ => ?_) (fun _ => ?_)⟩
  · refine ⟨_, rfl, _, rfl, _, rfl, (by show 6 ≤ sizeLine; decide), fun p1 hp1 => ?_⟩
    refine ⟨t, _, rfl, g1.tp.new hp1, .inr ⟨p1, _, rfl, g1.tp.ne hp1, .inl (SqL.of upd_same), (by show 1 ≤ 6; decide), (by show 6 ≤ 1000000; decide), fun v H2 hv g2 => ?_⟩⟩
    obtain ⟨n, b1, b2, rfl⟩ : ∃ n : Int, -999999 ≤ n ∧ n ≤ 999999 ∧ v = V.int n := by
      simp only [List.mem_cons, List.not_mem_nil, or_false] at hv
      rcases hv with rfl | rfl | rfl | rfl | rfl | rfl
      all_goals exact ⟨_, by decide, by decide, rfl⟩
    exact ⟨(by show 2 ≤ sizeLine; decide), fun p hp => num n _ p ((g1.new hp1).trans g2) hp b1 b2⟩
  refine ⟨_, rfl, rfl, _, rfl, ite2 (fun _ => ?_) (fun _ => ?_)⟩
  · refine ⟨_, rfl, t, 1999999, rfl, g1.tp, by decide, by decide, fun r H2 r0 r1 g2 => ⟨_, _, rfl, rfl, (by show 2 ≤ sizeLine; decide), fun p hp => ?_⟩⟩
    exact num _ _ p (g1.trans g2) hp (by show -999999 ≤ r - 999999; omega) (by show r - 999999 ≤ 999999; omega)
  refine ⟨_, rfl, rfl, _, rfl, ite2 (fun _ => ?_) (fun _ => ?_)⟩
  · refine ⟨_, rfl, (by show 10 ≤ sizeLine; decide), fun p1 hp1 => ?_⟩
    refine ⟨t, _, rfl, g1.tp.new hp1, .inr ⟨p1, _, rfl, g1.tp.ne hp1, .inl (SqL.of upd_same), (by show 1 ≤ 10; decide), (by show 10 ≤ 1000000; decide), fun v H2 hv g2 => ?_⟩⟩
    obtain ⟨z, hz, rfl⟩ := pickS [Str.ofString "a", Str.ofString "b", Str.ofString "1", Str.ofString "true", Str.ofString "null", Str.ofString "@", Str.ofString "#", Str.ofString "set", Str.ofString "(", Str.ofString "="] hv
    exact ⟨(by show 2 ≤ sizeLine; decide), fun p hp => txt z _ p ((g1.new hp1).trans g2) hp (sgs z hz).1 (sgs z hz).2⟩
  · refine ⟨_, rfl, _, rfl, (by show 5 ≤ sizeLine; decide), fun p1 hp1 => ?_⟩
    refine ⟨t, _, rfl, g1.tp.new hp1, .inr ⟨p1, _, rfl, g1.tp.ne hp1, .inl (SqL.of upd_same), (by show 1 ≤ 5; decide), (by show 5 ≤ 1000000; decide), fun v H2 hv g2 => ?_⟩⟩
    obtain ⟨m, hm, rfl⟩ := pickN [1, 1, 2, 3, 30] hv (b := 60) rfl
    refine ⟨t, m, rfl, g2.tp, by omega, fun z H3 hz lz g3 => ⟨(by show 2 ≤ sizeLine; decide), fun p hp => ?_⟩⟩
    exact txt z _ p ((g1.new hp1).trans (g2.trans g3)) hp (by omega) hz.sg
/-! ### _law_place_path -/
theorem sc_law_place_path : FnScope ["tape", "keys", "most", "path", "k"] ["tape", "keys", "most"] (defScope s_law_place_path) := ⟨rfl, rfl, rfl, by decide +kernel, rfl, by decide +kernel, by decide +kernel⟩

def sp_law_place_path (K : PySem.W.Frag) : Sp := fun vs H Q _ => ∃ (t p : Addr) (ws us : List Str) (m : Nat), vs = [.ref t, .ref p, .int m] ∧ Tape H t ∧ p ≠ t ∧ H p = some (.lst (ws.map V.str)) ∧ 1 ≤ ws.length ∧ ws.length ≤ 1000 ∧ (∀ z ∈ ws, z ∈ us) ∧ (∀ z ∈ extraL, z ∈ us) ∧ 1 ≤ m ∧ m ≤ 100 ∧ ∀ (r : Addr) (ks : List Str) H', Go t H H' → H' r = some (.tup (ks.map V.str)) → 1 ≤ ks.length → ks.length ≤ m → (∀ k ∈ ks, k ∈ us) → Q (.ref r) H'

theorem ok_law_place_path {f : Addr} {fd : FuncData} (F : Fun K "_law_place_path" "_law_place_path" s_law_place_path f fd) (T : Top K w mg) {a_law_draw : Addr} {d_law_draw : FuncData} (C_law_draw : Cal P w K mg base "_law_draw" 1 ["tape", "many"] sp_law_draw a_law_draw d_law_draw) {a_law_pick : Addr} {d_law_pick : FuncData} (C_law_pick : Cal P w K mg base "_law_pick" 2 ["tape", "row"] sp_law_pick a_law_pick d_law_pick) : FnOk P w K mg base CX0 3 f fd ["tape", "keys", "most"] (sp_law_place_path K) := by
  have sc := sc_law_place_path
  refine F.ok sc (fun vs H Q E h => ?_) (fun cdv A outer s H vs Q E hr h => ?_)
  · obtain ⟨t, p, ws, us, m, rfl, _⟩ := h
    rfl
  obtain ⟨t, p, ws, us, m, rfl, hT, np, hp, w1, w2, sub, ext, m1, m2, q⟩ := h
  refine ⟨_, (pss_cons (ps_set (i := 3) sc.nd rfl (Or.inl rfl) (pe_tup (pa_cons (pe_call C_law_pick.ok (hr.mono (by omega)) (by rfl) C_law_pick.m C_law_pick.kp C_law_pick.b .nil pass0 (pa_cons (pv 0) (pa_cons (pv 1) pa_nil))) pa_nil)))
    (pss_cons (ps_for PassesOwn.never rfl (pi_range1 (by rfl) T.z_range (pa_cons (pe_call C_law_draw.ok (hr.mono (by omega)) (by rfl) C_law_draw.m C_law_draw.kp C_law_draw.b .nil pass0 (pa_cons (pv 0) (pa_cons (pv 2) pa_nil))) pa_nil)) (pg_name (i := 4) sc.nd rfl (Or.inl rfl))
      (pss_one (ps_set (i := 3) sc.nd rfl (Or.inl rfl) (pe_op (kop_catT (K := K) rfl) (pv 3) (pe_tup (pa_cons (pe_call C_law_pick.ok (hr.mono (by omega)) (by rfl) C_law_pick.m C_law_pick.kp C_law_pick.b .nil pass0 (pa_cons (pv 0) (pa_cons (pe_op op_cat (pe_op op_cat (pv 1) (pv 1)) (pe_lst (pa_cons pe_str (pa_cons pe_str pa_nil)))) pa_nil))) pa_nil))))))
    (C8.pss_cut (ps_if (PW.pt (pw_and (pt_cmpR op_gt (pe_callB (kc_lenS (K := K) rfl) (by rfl) T.z_len (by decide +kernel) (pa_cons (pv 3) pa_nil)) pe_int (nomark _)) (pw_and1 (pt_cmpR op_eq (pe_call C_law_draw.ok (hr.mono (by omega)) (by rfl) C_law_draw.m C_law_draw.kp C_law_draw.b .nil pass0 (pa_cons (pv 0) (pa_cons pe_int pa_nil))) pe_int (nomark _)))))
      (pss_one (ps_set (i := 3) sc.nd rfl (Or.inl rfl) (pe_op (kop_catT (K := K) rfl) (pe_tup (pa_cons pe_str pa_nil)) (pe_slice (ksl_tup (K := K) rfl) (pv 3) (po_some pe_int) po_none))))
      pss_nil)
    (pss_one (ps_ret (pv 3)))))), ?_⟩

  have lw : (ws.map V.str).length = ws.length := List.length_map _
  refine ⟨_, rfl, _, rfl, t, _, rfl, hT, .inr ⟨p, _, rfl, np, .inl (SqL.of hp), by omega, by omega, fun v H1 hv g1 => ?_⟩⟩
  obtain ⟨z, hz, rfl⟩ := pickS _ hv
  refine ⟨(by show 1 ≤ sizeLine; decide), fun o ho => ?_⟩
  have g1 := g1.new (o := .tup [.str z]) ho
  have eo : (upd H1 o (.tup [.str z])) o = some (.tup [.str z]) := upd_same
  generalize upd H1 o (.tup [.str z]) = H1 at *
  refine ⟨_, rfl, _, rfl, t, m, rfl, g1.tp, by omega, by omega, fun r H2 r0 r1 g2 => ?_⟩
  have eo2 := tup_go g1.tp g2.sm eo
  have g2 := g1.trans g2
  refine ⟨r, rfl, by omega, by omega, ?_⟩
  refine for_it (walk_range (lo := 0) (n := r.toNat)) (fun i σ H' => Go t H H' ∧ ∃ (b : Addr) (ks : List Str) (v4 : Option V), H' b = some (.tup (ks.map V.str)) ∧ ks.length = i + 1 ∧ (∀ k ∈ ks, k ∈ us) ∧ σ = [some (.ref t), some (.ref p), some (.int m), some (.ref b), v4])
    ⟨g2, o, [z], _, eo2, rfl, (fun k hk => by rw [List.mem_singleton.mp hk]; exact sub z hz), rfl⟩ (fun _ _ _ _ _ => trivial) ?_ ?_
  · rintro i x σ H3 H4 hi ⟨g3, b, ks, v4, hb, lk, hk, rfl⟩ ⟨rfl, rfl⟩
    have hp3 := g3.sm _ _ np hp
    refine ⟨_, rfl, _, rfl, _, rfl, _, rfl, p, p, _, _, rfl, rfl, hp3, hp3, le_line (by omega), fun o1 h1 => ⟨(by show 2 ≤ sizeLine; decide), fun o2 h2 => ?_⟩⟩
    have e1 := (same_new h2 (.lst [V.str (Str.ofString "set"), V.str (Str.ofString "true")])) _ _ (upd_same (H := H4) (a := o1) (o := .lst (ws.map V.str ++ ws.map V.str)))
    have hb2 := (same_new h2 (.lst [V.str (Str.ofString "set"), V.str (Str.ofString "true")])) _ _ ((same_new h1 (.lst (ws.map V.str ++ ws.map V.str))) _ _ hb)
    have g5 := (g3.new (o := .lst (ws.map V.str ++ ws.map V.str)) h1).new (o := .lst [V.str (Str.ofString "set"), V.str (Str.ofString "true")]) h2
    refine ⟨o1, o2, _, _, rfl, rfl, e1, upd_same, le_line (by rw [List.length_append]; show _ + _ + 2 ≤ _; omega), fun o3 h3 => ?_⟩
    have g6 := g5.new (o := .lst (ws.map V.str ++ ws.map V.str ++ [V.str (Str.ofString "set"), V.str (Str.ofString "true")])) h3
    have e3 := upd_same (H := upd (upd H4 o1 (.lst (ws.map V.str ++ ws.map V.str))) o2 (.lst [V.str (Str.ofString "set"), V.str (Str.ofString "true")])) (a := o3) (o := .lst (ws.map V.str ++ ws.map V.str ++ [V.str (Str.ofString "set"), V.str (Str.ofString "true")]))
    have n3 := g5.tp.ne h3
    have hb6 := (same_new h3 (.lst (ws.map V.str ++ ws.map V.str ++ [V.str (Str.ofString "set"), V.str (Str.ofString "true")]))) _ _ hb2
    generalize upd (upd (upd H4 o1 (.lst (ws.map V.str ++ ws.map V.str))) o2 (.lst [V.str (Str.ofString "set"), V.str (Str.ofString "true")])) o3 (.lst (ws.map V.str ++ ws.map V.str ++ [V.str (Str.ofString "set"), V.str (Str.ofString "true")])) = H6 at *
    refine ⟨t, _, rfl, g6.tp, .inr ⟨o3, _, rfl, n3, .inl (SqL.of e3), by rw [List.length_append]; show 1 ≤ _ + 2; omega, by rw [List.length_append, List.length_append]; show _ + _ + 2 ≤ _; omega, fun v H7 hv g7 => ?_⟩⟩
    have hb7 := tup_go g6.tp g7.sm hb6
    have g7 := g6.trans g7
    obtain ⟨z, hz, rfl⟩ := pickL (zs := ws ++ ws ++ [Str.ofString "set", Str.ofString "true"]) (by rw [List.map_append, List.map_append]; rfl) hv
    have hz : z ∈ us := by
      rcases List.mem_append.mp hz with h | h
      · exact (List.mem_append.mp h).elim (sub z) (sub z)
      · refine ext z ?_
        rcases List.mem_cons.mp h with rfl | h
        · exact List.mem_cons_self
        · rw [List.mem_singleton.mp h]; exact List.mem_cons_of_mem _ List.mem_cons_self
    refine ⟨(by show 1 ≤ sizeLine; decide), fun o4 h4 => ?_⟩
    refine catA_tt ((same_new h4 _) _ _ hb7) upd_same (le_line (by rw [List.length_map]; show _ + 1 ≤ _; omega)) fun c H8 s8 hc => ?_
    refine ⟨(g7.new h4).trans (Go.same (g7.new h4).tp s8), c, ks ++ [z], _, by rw [List.map_append]; exact hc, by rw [List.length_append, lk]; rfl, fun k hk' => ?_, rfl⟩
    rcases List.mem_append.mp hk' with h | h
    · exact hk k h
    · rw [List.mem_singleton.mp h]; exact hz
  · rintro σ H3 ⟨g3, b, ks, v4, hb, lk, hk, rfl⟩
    refine ⟨fun σ H' => Go t H H' ∧ ∃ (b : Addr) (ks : List Str), H' b = some (.tup (ks.map V.str)) ∧ 1 ≤ ks.length ∧ ks.length ≤ m ∧ (∀ k ∈ ks, k ∈ us) ∧ σ = [some (.ref t), some (.ref p), some (.int m), some (.ref b), v4], ?_, ?_⟩
    · have stay : ∀ {H' : Hp}, Go t H H' → H' b = some (.tup (ks.map V.str)) → Go t H H' ∧ ∃ (b' : Addr) (ks : List Str), H' b' = some (.tup (ks.map V.str)) ∧ 1 ≤ ks.length ∧ ks.length ≤ m ∧ (∀ k ∈ ks, k ∈ us) ∧ [some (V.ref t), some (.ref p), some (.int m), some (.ref b), v4] = [some (.ref t), some (.ref p), some (.int m), some (.ref b'), v4] := fun g e => ⟨g, b, ks, e, by omega, by omega, hk, rfl⟩
      refine ⟨_, rfl, b, _, rfl, .inr (SqT.of hb), _, _, rfl, rfl, _, rfl, ite2 (fun _ => ?_) (fun _ => iteF (stay g3 hb))⟩
      refine ⟨_, rfl, t, 8, rfl, g3.tp, by decide, by decide, fun r H4 _ _ g4 => ⟨rfl, _, rfl, ?_⟩⟩
      have hb4 := tup_go g3.tp g4.sm hb
      have g4 := g3.trans g4
      refine ite2 (fun _ => ?_) (fun _ => stay g4 hb4)
      refine ⟨(by show 1 ≤ sizeLine; decide), fun o2 h2 => ?_⟩
      refine ⟨_, rfl, ?_⟩
      dsimp only [tNoPart]
      refine ⟨_, rfl, slA_tr ((same_new h2 _) _ _ hb4) fun c H5 s5 hc => ?_⟩
      rw [cutV_suf (by decide), show (1 : Int).toNat = 1 from rfl, ← List.map_drop] at hc
      refine catA_tt (s5 _ _ upd_same) hc (le_line (by rw [List.length_map, List.length_drop]; show 1 + _ ≤ _; omega)) fun c2 H6 s6 hc2 => ?_
      refine ⟨((g4.new h2).trans (Go.same (g4.new h2).tp s5)).trans (Go.same ((g4.new h2).tp.same s5) s6), c2, Str.ofString "from" :: ks.drop 1, hc2, by rw [List.length_cons]; omega, by rw [List.length_cons, List.length_drop]; omega, fun k hk' => ?_, rfl⟩
      rcases List.mem_cons.mp hk' with rfl | h
      · exact ext _ (by decide +kernel)
      · exact hk k (List.mem_of_mem_drop h)
    · rintro σ H4 ⟨g4, b, ks, hb, l1, l2, hk, rfl⟩
      exact ⟨_, rfl, q b ks H4 g4 hb l1 l2 hk⟩
/-! ### _law_world -/
theorem sc_law_world : FnScope ["tape", "many", "keys", "collection", "paths", "entry_path", "inner", "k"] ["tape", "many"] (defScope s_law_world) := ⟨rfl, rfl, rfl, by decide +kernel, rfl, by decide +kernel, by decide +kernel⟩

def sp_law_world (K : PySem.W.Frag) : Sp := fun vs H Q _ => ∃ (t : Addr) (m : Nat), vs = [.ref t, .int m] ∧ Tape H t ∧ m ≤ 100 ∧ ∀ v w us H', Go t H H' → WdAt H' t v w → WdOk us w → (∀ z ∈ us, KeyT z) → (∀ z ∈ extraL, z ∈ us) → Q v H'

theorem ok_law_world {f : Addr} {fd : FuncData} (F : Fun K "_law_world" "_law_world" s_law_world f fd) (T : Top K w mg) {a_law_draw : Addr} {d_law_draw : FuncData} (C_law_draw : Cal P w K mg base "_law_draw" 1 ["tape", "many"] sp_law_draw a_law_draw d_law_draw) {a_law_pick : Addr} {d_law_pick : FuncData} (C_law_pick : Cal P w K mg base "_law_pick" 2 ["tape", "row"] sp_law_pick a_law_pick d_law_pick) {a_law_keys : Addr} {d_law_keys : FuncData} (C_law_keys : Cal P w K mg base "_law_keys" 4 ["tape", "many"] sp_law_keys a_law_keys d_law_keys) {a_law_place_path : Addr} {d_law_place_path : FuncData} (C_law_place_path : Cal P w K mg base "_law_place_path" 3 ["tape", "keys", "most"] sp_law_place_path a_law_place_path d_law_place_path) : FnOk P w K mg base CX0 5 f fd ["tape", "many"] (sp_law_world K) := by
  have sc := sc_law_world
  refine F.ok sc (fun vs H Q E h => ?_) (fun cdv A outer s H vs Q E hr h => ?_)
  · obtain ⟨t, m, rfl, _⟩ := h
    rfl
  obtain ⟨t, m, rfl, hT, hm, q⟩ := h
  refine ⟨_, (pss_cons (ps_set (i := 2) sc.nd rfl (Or.inr rfl) (pe_call C_law_keys.ok (hr.mono (by omega)) (by rfl) C_law_keys.m C_law_keys.kp C_law_keys.b .nil pass0 (pa_cons (pv 0) (pa_cons (pe_op op_add pe_int (pe_call C_law_draw.ok (hr.mono (by omega)) (by rfl) C_law_draw.m C_law_draw.kp C_law_draw.b .nil pass0 (pa_cons (pv 0) (pa_cons pe_int pa_nil)))) pa_nil))))
    (pss_cons (ps_set (i := 3) sc.nd rfl (Or.inl rfl) (pe_call C_law_place_path.ok (hr.mono (by omega)) (by rfl) C_law_place_path.m C_law_place_path.kp C_law_place_path.b .nil pass0 (pa_cons (pv 0) (pa_cons (pv 2) (pa_cons pe_int pa_nil)))))
    (pss_cons (ps_setLc (i := 4) (own := [("k", 7)]) (g := gName 7) (tt := tYes) rfl sc.nd rfl rfl (sw_true rfl rfl rfl (by decide +kernel)) (pi_range1 (by rfl) T.z_range (pa_cons (pv 1) pa_nil)) (blkOk_by (N := ["tape", "many", "keys", "collection", "paths", "entry_path", "inner", "k"]) (sc := defScope s_law_world) (by decide +kernel)) (fun _ _ _ _ _ => pg_name (i := 7) sc.nd rfl (Or.inl rfl)) (fun _ _ _ _ _ => pts_nil) (fun _ _ _ _ _ => (pe_call C_law_place_path.ok (hr.mono (by omega)) (by rfl) C_law_place_path.m C_law_place_path.kp C_law_place_path.b .nil pass0 (pa_cons (pv 0) (pa_cons (pv 2) (pa_cons pe_int pa_nil))))))
    (pss_cons (ps_set (i := 5) sc.nd rfl (Or.inl rfl) (pe_op (kop_catT (K := K) rfl) (pv 3) (pe_tup (pa_cons (pe_call C_law_pick.ok (hr.mono (by omega)) (by rfl) C_law_pick.m C_law_pick.kp C_law_pick.b .nil pass0 (pa_cons (pv 0) (pa_cons (pv 2) pa_nil))) pa_nil))))
    (pss_cons (ps_set (i := 4) sc.nd rfl (Or.inl rfl) (pe_op op_cat (pv 4) (pe_lst (pa_cons (pv 5) (pa_cons (pe_slice (ksl_tup (K := K) rfl) (pe_op (kop_catT (K := K) rfl) (pv 5) (pe_tup (pa_cons (pe_call C_law_pick.ok (hr.mono (by omega)) (by rfl) C_law_pick.m C_law_pick.kp C_law_pick.b .nil pass0 (pa_cons (pv 0) (pa_cons (pv 2) pa_nil))) pa_nil))) po_none (po_some pe_int)) pa_nil)))))
    (pss_cons (ps_set (i := 6) sc.nd rfl (Or.inl rfl) (pe_lst (pa_cons (pe_tup pa_nil) (pa_cons (pe_tup (pa_cons (pe_call C_law_pick.ok (hr.mono (by omega)) (by rfl) C_law_pick.m C_law_pick.kp C_law_pick.b .nil pass0 (pa_cons (pv 0) (pa_cons (pv 2) pa_nil))) pa_nil)) (pa_cons (pe_tup (pa_cons (pe_call C_law_pick.ok (hr.mono (by omega)) (by rfl) C_law_pick.m C_law_pick.kp C_law_pick.b .nil pass0 (pa_cons (pv 0) (pa_cons (pe_op op_cat (pv 2) (pe_lst (pa_cons pe_str pa_nil))) pa_nil))) pa_nil)) pa_nil)))))
    (pss_cons (ps_expr (pe_bm PySem.F.plainAttrs_list PySem.F.slot_list_append PySem.F.type_list_append mt_append (pv 6) (pa_cons (pe_tup (pa_cons (pe_call C_law_pick.ok (hr.mono (by omega)) (by rfl) C_law_pick.m C_law_pick.kp C_law_pick.b .nil pass0 (pa_cons (pv 0) (pa_cons (pv 2) pa_nil))) (pa_cons (pe_call C_law_pick.ok (hr.mono (by omega)) (by rfl) C_law_pick.m C_law_pick.kp C_law_pick.b .nil pass0 (pa_cons (pv 0) (pa_cons (pv 2) pa_nil))) pa_nil))) pa_nil)))
    (pss_one (ps_ret (pe_tup (pa_cons (pv 2) (pa_cons (pv 3) (pa_cons (pv 4) (pa_cons (pv 6) pa_nil)))))))))))))), ?_⟩

  refine ⟨_, rfl, _, rfl, t, 3, rfl, hT, by decide, by decide, fun r H1 r0 r1 g1 => ⟨_, _, rfl, rfl, ?_⟩⟩
  refine ⟨t, (2 + r).toNat, by show [V.ref t, V.int (2 + r)] = [V.ref t, V.int ((2 + r).toNat : Int)]; rw [Int.toNat_of_nonneg (by omega)], g1.tp, by omega, fun p ws H2 g2 np eP lw hws nd => ?_⟩
  have np : p ≠ t := g1.tp.ne np
  have g2 := g1.trans g2
  have lwm : (ws.map V.str).length = ws.length := List.length_map _
  have us : ∃ us, us = ws ++ extraL := ⟨_, rfl⟩
  obtain ⟨us, hus⟩ := us
  have sub : ∀ z ∈ ws, z ∈ us := fun z hz => by rw [hus]; exact List.mem_append_left _ hz
  have ext : ∀ z ∈ extraL, z ∈ us := fun z hz => by rw [hus]; exact List.mem_append_right _ hz
  have keyT : ∀ z ∈ us, KeyT z := fun z hz => by
    rw [hus] at hz
    rcases List.mem_append.mp hz with h | h
    · exact (hws z h).1
    · exact extra_keys z h
  -- the collection
  refine ⟨_, rfl, _, rfl, t, p, ws, us, 2, rfl, g2.tp, np, eP, by omega, by omega, sub, ext, by decide, by decide, fun c col H3 g3 hc c1 c2 cu => ?_⟩
  have eP3 := g3.sm _ _ np eP
  have g3 := g2.trans g3
  -- the paths
  refine ⟨_, rfl, m, rfl, by omega, by omega, fun D hD => ?_⟩
  have nD : D ≠ t := g3.tp.ne hD
  refine lc_acc (walk_range (lo := 0) (n := (m : Int).toNat)) (fun i acc H' => Go t H3 H' ∧ ∃ ps : List (List Str), Al2 (PthV H') acc ps ∧ ∀ p ∈ ps, 1 ≤ p.length ∧ p.length ≤ 4 ∧ ∀ z ∈ p, z ∈ us) ⟨(Go.refl g3.tp).new hD, [], .nil, fun _ h => by cases h⟩ (fun _ _ _ _ _ _ => trivial) ?_ ?_
  · rintro i acc x H4 H5 hi eD el ⟨g4, ps, al, hps⟩ ⟨rfl, rfl⟩
    refine ⟨rfl, _, rfl, _, rfl, t, p, ws, us, 4, rfl, g4.tp, np, g4.sm _ _ np eP3, by omega, by omega, sub, ext, by decide, by decide, fun b q1 H6 g6 hb l1 l2 hq => ?_⟩
    have eD6 := g6.sm _ _ nD eD
    refine acc_step eD6 el (by omega) ⟨Go.late g3.tp (g4.trans g6) hD, ps ++ [q1], ?_, fun y hy => ?_⟩
    · refine Al2.app (al.mono fun _ _ h => h.mono fun _ _ e => tup_lput eD6 (tup_go g4.tp g6.sm e)) (.cons ⟨b, rfl, tup_lput eD6 hb⟩ .nil)
    · rcases List.mem_append.mp hy with h | h
      · exact hps y h
      · rw [List.mem_singleton.mp h]; exact ⟨l1, l2, hq⟩
  rintro pacc H4 eD el ⟨g4, ps, al, hps⟩
  have lps := al.len
  have hc4 := tup_go g3.tp g4.sm hc
  have eP4 := g4.sm _ _ np eP3
  have g4 := g3.trans g4
  -- an entry
  refine ⟨_, rfl, _, rfl, _, rfl, t, _, rfl, g4.tp, .inr ⟨p, _, rfl, np, .inl (SqL.of eP4), by omega, by omega, fun v H5 hv g5 => ?_⟩⟩
  obtain ⟨z1, hz1, rfl⟩ := pickS _ hv
  refine ⟨(by show 1 ≤ sizeLine; decide), fun o ho => ?_⟩
  have gn := (Go.refl g5.tp).new (o := .tup [.str z1]) ho
  have g6 := g5.trans gn
  have eo : (upd H5 o (.tup [.str z1])) o = some (.tup [.str z1]) := upd_same
  generalize upd H5 o (.tup [.str z1]) = H6 at *
  refine catA_tt (tup_go g4.tp g6.sm hc4) eo (le_line (by rw [List.length_map]; show _ + 1 ≤ _; omega)) fun e H7 s7 he => ?_
  have he : H7 e = some (.tup ((col ++ [z1]).map V.str)) := by rw [List.map_append]; exact he
  have g7 := g6.trans (Go.same g6.tp s7)
  have eD7 := g7.sm _ _ nD eD
  have eP7 := g7.sm _ _ np eP4
  have al7 : Al2 (PthV H7) pacc ps := al.mono fun _ _ h => h.mono fun _ _ e => tup_go g4.tp g7.sm e
  have hc7 := tup_go g4.tp g7.sm hc4
  -- what stands from here on
  obtain ⟨St, hSt⟩ : ∃ St : Hp → Prop, St = fun H' => Tape H' t ∧ H' D = some (.lst pacc) ∧ H' p = some (.lst (ws.map V.str)) ∧ H' c = some (.tup (col.map V.str)) ∧ H' e = some (.tup ((col ++ [z1]).map V.str)) ∧ Al2 (PthV H') pacc ps := ⟨_, rfl⟩
  have car : ∀ {Ha Hb : Hp}, St Ha → Go t Ha Hb → St Hb := fun {Ha Hb} h g => by
    subst hSt
    obtain ⟨a1, a2, a3, a4, a5, a6⟩ := h
    exact ⟨g.tp, g.sm _ _ nD a2, g.sm _ _ np a3, tup_go a1 g.sm a4, tup_go a1 g.sm a5, a6.mono fun _ _ h => h.mono fun _ _ e => tup_go a1 g.sm e⟩
  have get : ∀ {Ha : Hp}, St Ha → Tape Ha t ∧ Ha D = some (.lst pacc) ∧ Ha p = some (.lst (ws.map V.str)) ∧ Ha c = some (.tup (col.map V.str)) ∧ Ha e = some (.tup ((col ++ [z1]).map V.str)) ∧ Al2 (PthV Ha) pacc ps := fun {Ha} h => by subst hSt; exact h
  have st7 : St H7 := by subst hSt; exact ⟨g7.tp, eD7, eP7, hc7, he, al7⟩
  have g7 := g4.trans g7
  have new : ∀ {Ha : Hp} {o : Addr} (u : HO), Go t H Ha → Ha o = none → Go t Ha (upd Ha o u) := fun u g ho => (Go.refl g.tp).new ho
  clear hSt al7 eD7 eP7 hc7 he
  refine ⟨_, rfl, _, rfl, _, rfl, _, rfl, _, rfl, t, _, rfl, g7.tp, .inr ⟨p, _, rfl, np, .inl (SqL.of (get st7).2.2.1), by omega, by omega, fun v H8 hv g8 => ?_⟩⟩
  obtain ⟨z2, hz2, rfl⟩ := pickS _ hv
  have st8 := car st7 g8
  have g8 := g7.trans g8
  refine ⟨(by show 1 ≤ sizeLine; decide), fun o1 h1 => ?_⟩
  have st9 := car st8 (new (.tup [.str z2]) g8 h1)
  have g9 := g8.trans (new (.tup [.str z2]) g8 h1)
  have e1 : (upd H8 o1 (.tup [.str z2])) o1 = some (.tup [.str z2]) := upd_same
  generalize upd H8 o1 (.tup [.str z2]) = H9 at *
  refine catA_tt (get st9).2.2.2.2.1 e1 (le_line (by rw [List.length_map, List.length_append]; show _ + 1 + 1 ≤ _; omega)) fun b H10 s10 hb => ?_
  have st10 := car st9 (Go.same g9.tp s10)
  have g10 := g9.trans (Go.same g9.tp s10)
  have hb : H10 b = some (.tup ((col ++ [z1] ++ [z2]).map V.str)) := by rw [List.map_append]; exact hb
  dsimp only [tNoPart]
  refine ⟨_, rfl, slA_tr hb fun b2 H11 s11 hb2 => ?_⟩
  rw [cutV_pre (by decide), show (4 : Int).toNat = 4 from rfl, ← List.map_take] at hb2
  have st11 := car st10 (Go.same g10.tp s11)
  have g11 := g10.trans (Go.same g10.tp s11)
  refine ⟨(by show 2 ≤ sizeLine; decide), fun o2 h2 => ?_⟩
  have s12 := same_new h2 (.lst [.ref e, .ref b2])
  have st12 := car st11 (new (.lst [.ref e, .ref b2]) g11 h2)
  have g12 := g11.trans (new (.lst [.ref e, .ref b2]) g11 h2)
  have e2 : (upd H11 o2 (.lst [.ref e, .ref b2])) o2 = some (.lst [.ref e, .ref b2]) := upd_same
  have hb2 := s12 _ _ hb2
  generalize upd H11 o2 (.lst [.ref e, .ref b2]) = H12 at *
  refine ⟨D, o2, _, _, rfl, rfl, (get st12).2.1, e2, le_line (by show _ + 2 ≤ _; omega), fun PL hPL => ?_⟩
  have nPL : PL ≠ t := g12.tp.ne hPL
  have s13 := same_new hPL (.lst (pacc ++ [.ref e, .ref b2]))
  have st13 := car st12 (new (.lst (pacc ++ [.ref e, .ref b2])) g12 hPL)
  have g13 := g12.trans (new (.lst (pacc ++ [.ref e, .ref b2])) g12 hPL)
  have ePL : (upd H12 PL (.lst (pacc ++ [.ref e, .ref b2]))) PL = some (.lst (pacc ++ [.ref e, .ref b2])) := upd_same
  have hb2 := s13 _ _ hb2
  generalize upd H12 PL (.lst (pacc ++ [.ref e, .ref b2])) = H13 at *
  -- the inner paths
  refine ⟨(by show 0 ≤ sizeLine; decide), fun i0 hi0 => ?_⟩
  have st14 := car st13 (new (.tup []) g13 hi0)
  have g1314 := new (.tup []) g13 hi0
  have g14 := g13.trans g1314
  have ei0 : (upd H13 i0 (.tup [])) i0 = some (.tup (([] : List Str).map V.str)) := upd_same
  generalize upd H13 i0 (.tup []) = H14 at *
  refine ⟨_, rfl, _, rfl, t, _, rfl, g14.tp, .inr ⟨p, _, rfl, np, .inl (SqL.of (get st14).2.2.1), by omega, by omega, fun v H15 hv g15 => ?_⟩⟩
  obtain ⟨y1, hy1, rfl⟩ := pickS _ hv
  have st15 := car st14 g15
  have ei0 := tup_go g14.tp g15.sm ei0
  have g1315 := g1314.trans g15
  have g15 := g14.trans g15
  refine ⟨(by show 1 ≤ sizeLine; decide), fun i1 hi1 => ?_⟩
  have st16 := car st15 (new (.tup [.str y1]) g15 hi1)
  have g1516 := new (.tup [.str y1]) g15 hi1
  have g1316 := g1315.trans g1516
  have g16 := g15.trans g1516
  have ei0 := tup_go g15.tp g1516.sm ei0
  have ei1 : (upd H15 i1 (.tup [.str y1])) i1 = some (.tup ([y1].map V.str)) := upd_same
  generalize upd H15 i1 (.tup [.str y1]) = H16 at *
  refine ⟨_, rfl, _, rfl, (by show 1 ≤ sizeLine; decide), fun o3 ho3 => ?_⟩
  have g1617 := new (.lst [.str (Str.ofString "has")]) g16 ho3
  have st17 := car st16 g1617
  have eo3 : (upd H16 o3 (.lst [.str (Str.ofString "has")])) o3 = some (.lst [.str (Str.ofString "has")]) := upd_same
  have g17 := g16.trans g1617
  generalize upd H16 o3 (.lst [.str (Str.ofString "has")]) = H17 at *
  refine ⟨p, o3, _, _, rfl, rfl, (get st17).2.2.1, eo3, le_line (by show _ + 1 ≤ _; omega), fun o4 ho4 => ?_⟩
  have g1718 := new (.lst (ws.map V.str ++ [.str (Str.ofString "has")])) g17 ho4
  have st18 := car st17 g1718
  have eo4 : (upd H17 o4 (.lst (ws.map V.str ++ [.str (Str.ofString "has")]))) o4 = some (.lst (ws.map V.str ++ [.str (Str.ofString "has")])) := upd_same
  have no4 := g17.tp.ne ho4
  have g18 := g17.trans g1718
  have g1618 := g1617.trans g1718
  generalize upd H17 o4 (.lst (ws.map V.str ++ [.str (Str.ofString "has")])) = H18 at *
  refine ⟨t, _, rfl, g18.tp, .inr ⟨o4, _, rfl, no4, .inl (SqL.of eo4), by rw [List.length_append]; show 1 ≤ _ + 1; omega, by rw [List.length_append]; show _ + 1 ≤ _; omega, fun v H19 hv g19 => ?_⟩⟩
  obtain ⟨y2, hy2, rfl⟩ := pickL (zs := ws ++ [Str.ofString "has"]) (by rw [List.map_append]; rfl) hv
  have hy2 : y2 ∈ us := by
    rcases List.mem_append.mp hy2 with h | h
    · exact sub y2 h
    · rw [List.mem_singleton.mp h]; exact ext _ (by decide +kernel)
  have st19 := car st18 g19
  have g1619 := g1618.trans g19
  have g19 := g18.trans g19
  refine ⟨(by show 1 ≤ sizeLine; decide), fun i2 hi2 => ?_⟩
  have g1920 := new (.tup [.str y2]) g19 hi2
  have st20 := car st19 g1920
  have ei2 : (upd H19 i2 (.tup [.str y2])) i2 = some (.tup ([y2].map V.str)) := upd_same
  have g1620 := g1619.trans g1920
  have g20 := g19.trans g1920
  have ei0 := tup_go g16.tp g1620.sm ei0
  have ei1 := tup_go g16.tp g1620.sm ei1
  generalize upd H19 i2 (.tup [.str y2]) = H20 at *
  have ePL20 := (g1316.trans g1620).sm _ _ nPL ePL
  refine ⟨(by show 3 ≤ sizeLine; decide), fun IL hIL => ?_⟩
  have nPI : PL ≠ IL := ne_of_none ePL20 hIL
  have hIL0 : H IL = none := g20.sm.free (g20.tp.ne hIL) hIL
  have npI : p ≠ IL := ne_of_none (get st20).2.2.1 hIL
  have nIL : IL ≠ t := g20.tp.ne hIL
  have g2021 := new (.lst [.ref i0, .ref i1, .ref i2]) g20 hIL
  have st21 := car st20 g2021
  have eIL : (upd H20 IL (.lst [.ref i0, .ref i1, .ref i2])) IL = some (.lst [.ref i0, .ref i1, .ref i2]) := upd_same
  have g21 := g20.trans g2021
  generalize upd H20 IL (.lst [.ref i0, .ref i1, .ref i2]) = H21 at *
  refine ⟨_, rfl, .inl ⟨rfl, _, SqL.of eIL⟩, _, rfl, _, rfl, t, _, rfl, g21.tp, .inr ⟨p, _, rfl, np, .inl (SqL.of (get st21).2.2.1), by omega, by omega, fun v H22 hv g22 => ?_⟩⟩
  obtain ⟨y3, hy3, rfl⟩ := pickS _ hv
  have st22 := car st21 g22
  have g2022 := g2021.trans g22
  have eIL := g22.sm _ _ nIL eIL
  have g22 := g21.trans g22
  refine ⟨_, rfl, _, rfl, t, _, rfl, g22.tp, .inr ⟨p, _, rfl, np, .inl (SqL.of (get st22).2.2.1), by omega, by omega, fun v H23 hv g23 => ?_⟩⟩
  obtain ⟨y4, hy4, rfl⟩ := pickS _ hv
  have st23 := car st22 g23
  have g2023 := g2022.trans g23
  have eIL := g23.sm _ _ nIL eIL
  have g23 := g22.trans g23
  refine ⟨(by show 2 ≤ sizeLine; decide), fun i3 hi3 => ?_⟩
  have g2324 := new (.tup [.str y3, .str y4]) g23 hi3
  have st24 := car st23 g2324
  have g2024 := g2023.trans g2324
  have ei3 : (upd H23 i3 (.tup [.str y3, .str y4])) i3 = some (.tup ([y3, y4].map V.str)) := upd_same
  have eIL := g2324.sm _ _ nIL eIL
  have g24 := g23.trans g2324
  generalize upd H23 i3 (.tup [.str y3, .str y4]) = H24 at *
  have ei0 := tup_go g20.tp g2024.sm ei0
  have ei1 := tup_go g20.tp g2024.sm ei1
  have ei2 := tup_go g20.tp g2024.sm ei2
  have hb2 := tup_go g13.tp (g1316.trans (g1620.trans g2024)).sm hb2
  have ePL := (g1316.trans (g1620.trans g2024)).sm _ _ nPL ePL
  refine ⟨IL, _, _, rfl, rfl, eIL, (by show 3 < sizeLine; decide), ?_⟩
  have g25 : Go t H (upd H24 IL (.lst ([.ref i0, .ref i1, .ref i2] ++ [.ref i3]))) := Go.late hT g24 hIL0
  have e25 : (upd H24 IL (.lst ([.ref i0, .ref i1, .ref i2] ++ [.ref i3]))) IL = some (.lst [.ref i0, .ref i1, .ref i2, .ref i3]) := upd_same
  have ePL := (show (upd H24 IL (.lst ([.ref i0, .ref i1, .ref i2] ++ [.ref i3]))) PL = some (.lst (pacc ++ [.ref e, .ref b2])) by rw [upd_ne nPI]; exact ePL)
  have eP := (show (upd H24 IL (.lst ([.ref i0, .ref i1, .ref i2] ++ [.ref i3]))) p = some (.lst (ws.map V.str)) by rw [upd_ne npI]; exact (get st24).2.2.1)
  have hc := tup_lput (o := .lst ([.ref i0, .ref i1, .ref i2] ++ [.ref i3])) eIL (get st24).2.2.2.1
  have he := tup_lput (o := .lst ([.ref i0, .ref i1, .ref i2] ++ [.ref i3])) eIL (get st24).2.2.2.2.1
  have al : Al2 (PthV (upd H24 IL (.lst ([.ref i0, .ref i1, .ref i2] ++ [.ref i3])))) pacc ps := (get st24).2.2.2.2.2.mono fun _ _ h => h.mono fun _ _ e => tup_lput eIL e
  have hb2 := tup_lput (o := .lst ([.ref i0, .ref i1, .ref i2] ++ [.ref i3])) eIL hb2
  have ei0 := tup_lput (o := .lst ([.ref i0, .ref i1, .ref i2] ++ [.ref i3])) eIL ei0
  have ei1 := tup_lput (o := .lst ([.ref i0, .ref i1, .ref i2] ++ [.ref i3])) eIL ei1
  have ei2 := tup_lput (o := .lst ([.ref i0, .ref i1, .ref i2] ++ [.ref i3])) eIL ei2
  have ei3 := tup_lput (o := .lst ([.ref i0, .ref i1, .ref i2] ++ [.ref i3])) eIL ei3
  clear st24 st23 st22 st21 st20 st19 st18 st17 st16 st15 st14 st13 st12 st11 st10 st9 st8 st7
  generalize upd H24 IL (.lst ([.ref i0, .ref i1, .ref i2] ++ [.ref i3])) = H25 at *
  refine ⟨_, rfl, _, rfl, _, rfl, _, rfl, (by show 4 ≤ sizeLine; decide), fun R hR => ?_⟩
  have s26 := same_new hR (.tup [.ref p, .ref c, .ref PL, .ref IL])
  refine q (.ref R) ⟨ws, col, ps ++ [col ++ [z1], (col ++ [z1] ++ [z2]).take 4], [[], [y1], [y2], [y3, y4]]⟩ us _ (g25.new hR) ⟨R, p, c, PL, IL, _, _, rfl, upd_same, s26 _ _ eP, s26 _ _ hc, s26 _ _ ePL, ?_, s26 _ _ e25, ?_, np, nPL, nIL⟩ ⟨by show 1 ≤ ws.length; omega, by show ws.length ≤ 1000; omega, sub, c1, c2, cu, by rw [List.length_append]; show 1 ≤ _ + 2; omega, by rw [List.length_append]; show _ + 2 ≤ 1000; omega, fun y hy => ?_, by show 1 ≤ 4; decide, by show 4 ≤ 1000; decide, fun y hy => ?_⟩ keyT ext
  · refine Al2.app (al.mono fun _ _ h => h.mono fun _ _ e => s26 _ _ e) (.cons ⟨e, rfl, s26 _ _ he⟩ (.cons ⟨b2, rfl, s26 _ _ hb2⟩ .nil))
  · exact .cons ⟨i0, rfl, s26 _ _ ei0⟩ (.cons ⟨i1, rfl, s26 _ _ ei1⟩ (.cons ⟨i2, rfl, s26 _ _ ei2⟩ (.cons ⟨i3, rfl, s26 _ _ ei3⟩ .nil)))
  · have hcz : ∀ z ∈ col ++ [z1] ++ [z2], z ∈ us := fun z hz => by
      rcases List.mem_append.mp hz with h | h
      · rcases List.mem_append.mp h with h | h
        · exact cu z h
        · rw [List.mem_singleton.mp h]; exact sub z1 hz1
      · rw [List.mem_singleton.mp h]; exact sub z2 hz2
    rcases List.mem_append.mp hy with h | h
    · have := hps y h
      exact ⟨this.1, by omega, this.2.2⟩
    · rcases List.mem_cons.mp h with rfl | h
      · exact ⟨by rw [List.length_append]; show 1 ≤ _ + 1; omega, by rw [List.length_append]; show _ + 1 ≤ 5; omega, fun z hz => hcz z (List.mem_append_left _ hz)⟩
      · rw [List.mem_singleton.mp h]
        exact ⟨by rw [List.length_take, List.length_append, List.length_append]; show 1 ≤ min 4 (_ + 1 + 1); omega, by rw [List.length_take]; omega, fun z hz => hcz z (List.mem_of_mem_take hz)⟩
  · simp only [List.mem_cons, List.not_mem_nil, or_false] at hy
    rcases hy with rfl | rfl | rfl | rfl
    · exact ⟨by decide, fun _ h => by cases h⟩
    · exact ⟨by show 1 ≤ 2; decide, fun z hz => by rw [List.mem_singleton.mp hz]; exact sub y1 hy1⟩
    · exact ⟨by show 1 ≤ 2; decide, fun z hz => by rw [List.mem_singleton.mp hz]; exact hy2⟩
    · exact ⟨by show 2 ≤ 2; decide, fun z hz => by
        rcases List.mem_cons.mp hz with rfl | h
        · exact sub _ hy3
        · rw [List.mem_singleton.mp h]; exact sub _ hy4⟩
/-! ### _law_some_place -/
theorem sc_law_some_place : FnScope ["tape", "world", "each"] ["tape", "world", "each"] (defScope s_law_some_place) := ⟨rfl, rfl, rfl, by decide +kernel, rfl, by decide +kernel, by decide +kernel⟩

def sp_law_some_place (K : PySem.W.Frag) : Sp := fun vs H Q _ => ∃ (t : Addr) (v : V) (b : Bool) (w : Wd) (us : List Str), vs = [.ref t, v, .bl b] ∧ Tape H t ∧ WdAt H t v w ∧ WdOk us w ∧ ∀ u p H', Go t H H' → TT H' u (plD p) → PlW us b p → Q u H'

theorem ok_law_some_place {f : Addr} {fd : FuncData} (F : Fun K "_law_some_place" "_law_some_place" s_law_some_place f fd) (T : Top K w mg) {a_law_draw : Addr} {d_law_draw : FuncData} (C_law_draw : Cal P w K mg base "_law_draw" 1 ["tape", "many"] sp_law_draw a_law_draw d_law_draw) {a_law_pick : Addr} {d_law_pick : FuncData} (C_law_pick : Cal P w K mg base "_law_pick" 2 ["tape", "row"] sp_law_pick a_law_pick d_law_pick) : FnOk P w K mg base CX0 3 f fd ["tape", "world", "each"] (sp_law_some_place K) := by
  have sc := sc_law_some_place
  refine F.ok sc (fun vs H Q E h => ?_) (fun cdv A outer s H vs Q E hr h => ?_)
  · obtain ⟨t, v, b, w', us, rfl, _⟩ := h
    rfl
  obtain ⟨t, v, b, w', us, rfl, hT, hw, wo, q⟩ := h
  refine ⟨_, (C8.pss_cut (ps_if (PW.pt (pw_and (pt_val (pv 2)) (pw_and1 (pt_cmpR op_gt (pe_call C_law_draw.ok (hr.mono (by omega)) (by rfl) C_law_draw.m C_law_draw.kp C_law_draw.b .nil pass0 (pa_cons (pv 0) (pa_cons pe_int pa_nil))) pe_int (nomark _)))))
      (pss_one (ps_ret (pe_tup (pa_cons pe_str (pa_cons (pe_call C_law_pick.ok (hr.mono (by omega)) (by rfl) C_law_pick.m C_law_pick.kp C_law_pick.b .nil pass0 (pa_cons (pv 0) (pa_cons (pe_ix (kx_tup (K := K) rfl) (pv 1) pe_int (fun _ _ => rfl)) pa_nil))) pa_nil)))))
      pss_nil)
    (pss_one (ps_ret (pe_tup (pa_cons pe_str (pa_cons (pe_call C_law_pick.ok (hr.mono (by omega)) (by rfl) C_law_pick.m C_law_pick.kp C_law_pick.b .nil pass0 (pa_cons (pv 0) (pa_cons (pe_ix (kx_tup (K := K) rfl) (pv 1) pe_int (fun _ _ => rfl)) pa_nil))) pa_nil)))))), ?_⟩

  obtain ⟨a, kl, c, pl, il, xs, ys, rfl, h1, h2, h3, h4, h5, h6, h7, n1, n2, n3⟩ := hw.ex
  have lx := h5.len
  have ly := h7.len
  have p1 := wo.p1
  have p2 := wo.p2
  have i1 := wo.i1
  have i2 := wo.i2
  refine ⟨fun σ H' => Go t H H' ∧ σ = [some (.ref t), some (.ref a), some (.bl b)], ?_, ?_⟩
  · cases b with
    | false => exact ⟨_, rfl, _, rfl, iteF (iteF ⟨Go.refl hT, rfl⟩)⟩
    | true =>
      refine ⟨_, rfl, _, rfl, iteT ⟨_, rfl, t, 3, rfl, hT, by decide, by decide, fun r H1 _ _ g1 => ⟨_, _, rfl, rfl, _, rfl, ite2 (fun _ => ?_) (fun _ => ⟨g1, rfl⟩)⟩⟩⟩
      have hw1 := hw.go hT g1.sm
      obtain ⟨a', kl, c, pl, il, xs, ys, ea, h1, h2, h3, h4, h5, h6, h7, n1, n2, n3⟩ := hw1.ex
      cases ea
      have lx := h5.len
      have ly := h7.len
      refine ⟨_, rfl, _, rfl, a, _, 3, _, rfl, rfl, SqT.of h1, rfl, t, _, rfl, g1.tp, .inr ⟨il, ys, rfl, n3, .inl (SqL.of h6), by omega, by omega, fun u H2 hu g2 => ?_⟩⟩
      obtain ⟨p, hp, r, rfl, hr⟩ := h7.mem hu
      have hr2 := tup_go g1.tp g2.sm hr
      refine ⟨(by show 2 ≤ sizeLine; decide), fun o ho => ?_⟩
      refine q _ (.ent p) _ ((g1.trans g2).new ho) (.tup upd_same (.cons (.str _) (.cons (TT.of_path ((same_new ho _) _ _ hr2)) .nil))) ⟨rfl, wo.iu p hp⟩
  · rintro σ H1 ⟨g1, rfl⟩
    have hw1 := hw.go hT g1.sm
    obtain ⟨a', kl, c, pl, il, xs, ys, ea, h1, h2, h3, h4, h5, h6, h7, n1, n2, n3⟩ := hw1.ex
    cases ea
    have lx := h5.len
    have ly := h7.len
    refine ⟨_, rfl, _, rfl, a, _, 2, _, rfl, rfl, SqT.of h1, rfl, t, _, rfl, g1.tp, .inr ⟨pl, xs, rfl, n2, .inl (SqL.of h4), by omega, by omega, fun u H2 hu g2 => ?_⟩⟩
    obtain ⟨p, hp, r, rfl, hr⟩ := h5.mem hu
    have hr2 := tup_go g1.tp g2.sm hr
    refine ⟨(by show 2 ≤ sizeLine; decide), fun o ho => ?_⟩
    refine q _ (.path p) _ ((g1.trans g2).new ho) (.tup upd_same (.cons (.str _) (.cons (TT.of_path ((same_new ho _) _ _ hr2)) .nil))) (wo.pu p hp)
/-! ### _law_condition -/
theorem sc_law_condition : FnScope ["tape", "world", "each", "depth", "choice", "place", "first"] ["tape", "world", "each", "depth"] (defScope s_law_condition) := ⟨rfl, rfl, rfl, by decide +kernel, rfl, by decide +kernel, by decide +kernel⟩

structure CdW (us : List Str) (b : Bool) (c : Cd) : Prop where
  pl : c.all (PlW us b)
  lit : c.lit scN
def spCond (n : Nat) (K : PySem.W.Frag) : Sp := fun vs H Q _ => ∃ (t : Addr) (v : V) (b : Bool) (d : Nat) (w : Wd) (us : List Str), vs = [.ref t, v, .bl b, .int d] ∧ Tape H t ∧ WdAt H t v w ∧ WdOk us w ∧ d + 6 ≤ n ∧ ∀ u c H', Go t H H' → TT H' u (cdD c) → CdW us b c → c.dep ≤ d → Q u H'
abbrev sp_law_condition : PySem.W.Frag → Sp := spCond 10


theorem ok_law_condition_n {n : Nat} {f : Addr} {fd : FuncData} (F : Fun K "_law_condition" "_law_condition" s_law_condition f fd) (T : Top K w mg) {a_law_draw : Addr} {d_law_draw : FuncData} (C_law_draw : Cal P w K mg base "_law_draw" 1 ["tape", "many"] sp_law_draw a_law_draw d_law_draw) {a_law_pick : Addr} {d_law_pick : FuncData} (C_law_pick : Cal P w K mg base "_law_pick" 2 ["tape", "row"] sp_law_pick a_law_pick d_law_pick) {a_law_literal : Addr} {d_law_literal : FuncData} (C_law_literal : Cal P w K mg base "_law_literal" 4 ["tape"] sp_law_literal a_law_literal d_law_literal) {a_law_some_place : Addr} {d_law_some_place : FuncData} (C_law_some_place : Cal P w K mg base "_law_some_place" 3 ["tape", "world", "each"] sp_law_some_place a_law_some_place d_law_some_place) (C_law_condition : Cal P w K mg base "_law_condition" (n + 5) ["tape", "world", "each", "depth"] (spCond (n + 5)) f fd) : FnOk P w K mg base CX0 (n + 6) f fd ["tape", "world", "each", "depth"] (spCond (n + 6) K) := by
  have sc := sc_law_condition
  refine F.ok sc (fun vs H Q E h => ?_) (fun cdv A outer s H vs Q E hr h => ?_)
  · obtain ⟨t, v, b, d, w, us, rfl, _⟩ := h
    rfl
  obtain ⟨t, v, b, d, w', us, rfl, hT, hw, wo, hd, q⟩ := h
  refine ⟨_, (pss_cons (ps_set (i := 4) sc.nd rfl (Or.inl rfl) (pe_call C_law_draw.ok (hr.mono (by omega)) (by rfl) C_law_draw.m C_law_draw.kp C_law_draw.b .nil pass0 (pa_cons (pv 0) (pa_cons pe_int pa_nil))))
    (C8.pss_cut (ps_if (PW.pt (pw_and (pt_cmpR op_gt (pv 3) pe_int (nomark _)) (pw_and1 (pt_cmpR op_lt (pv 4) pe_int (nomark _)))))
      (pss_one (ps_ret (pe_tup (pa_cons pe_str (pa_cons (pe_call C_law_condition.ok hr (by rfl) C_law_condition.m C_law_condition.kp C_law_condition.b .nil pass0 (pa_cons (pv 0) (pa_cons (pv 1) (pa_cons (pv 2) (pa_cons (pe_op op_sub (pv 3) pe_int) pa_nil))))) pa_nil)))))
      pss_nil)
    (C8.pss_cut (ps_if (PW.pt (pw_and (pt_cmpR op_gt (pv 3) pe_int (nomark _)) (pw_and1 (pt_cmpR op_lt (pv 4) pe_int (nomark _)))))
      (pss_cons (ps_set (i := 6) sc.nd rfl (Or.inl rfl) (pe_call C_law_condition.ok hr (by rfl) C_law_condition.m C_law_condition.kp C_law_condition.b .nil pass0 (pa_cons (pv 0) (pa_cons (pv 1) (pa_cons (pv 2) (pa_cons (pe_op op_sub (pv 3) pe_int) pa_nil))))))
      (pss_one (ps_ret (pe_tup (pa_cons (pe_ix (kx_list (K := K) rfl) (pe_lst (pa_cons pe_str (pa_cons pe_str pa_nil))) (pe_op op_modN (pe_callTy call_int1 (by rfl) T.z_int (by decide +kernel) (pa_cons (pv 4) pa_nil)) pe_int) (fun _ _ => rfl)) (pa_cons (pv 6) (pa_cons (pe_call C_law_condition.ok hr (by rfl) C_law_condition.m C_law_condition.kp C_law_condition.b .nil pass0 (pa_cons (pv 0) (pa_cons (pv 1) (pa_cons (pv 2) (pa_cons (pe_op op_sub (pv 3) pe_int) pa_nil))))) pa_nil)))))))
      pss_nil)
    (pss_cons (ps_set (i := 5) sc.nd rfl (Or.inl rfl) (pe_call C_law_some_place.ok (hr.mono (by omega)) (by rfl) C_law_some_place.m C_law_some_place.kp C_law_some_place.b .nil pass0 (pa_cons (pv 0) (pa_cons (pv 1) (pa_cons (pv 2) pa_nil)))))
    (pss_cons (ps_if (pt_cmpR op_lt (pv 4) pe_int (nomark _))
      (pss_one (ps_ret (pe_tup (pa_cons pe_str (pa_cons (pv 5) pa_nil)))))
      pss_nil)
    (pss_cons (ps_if (pt_cmpR op_lt (pv 4) pe_int (nomark _))
      (pss_one (ps_ret (pe_tup (pa_cons pe_str (pa_cons (pv 5) (pa_cons (pe_call C_law_literal.ok (hr.mono (by omega)) (by rfl) C_law_literal.m C_law_literal.kp C_law_literal.b .nil pass0 (pa_cons (pv 0) pa_nil)) pa_nil))))))
      pss_nil)
    (pss_one (ps_ret (pe_tup (pa_cons (pe_ix (kx_list (K := K) rfl) (pe_lst (pa_cons pe_str (pa_cons pe_str pa_nil))) (pe_call C_law_draw.ok (hr.mono (by omega)) (by rfl) C_law_draw.m C_law_draw.kp C_law_draw.b .nil pass0 (pa_cons (pv 0) (pa_cons pe_int pa_nil))) (fun _ _ => rfl)) (pa_cons (pv 5) (pa_cons (pe_call C_law_pick.ok (hr.mono (by omega)) (by rfl) C_law_pick.m C_law_pick.kp C_law_pick.b .nil pass0 (pa_cons (pv 0) (pa_cons (pe_lst (pa_cons pe_int (pa_cons pe_int (pa_cons pe_int (pa_cons (pe_un un_neg pe_int) (pa_cons pe_int (pa_cons pe_int (pa_cons (pe_op op_sub (pe_call C_law_draw.ok (hr.mono (by omega)) (by rfl) C_law_draw.m C_law_draw.kp C_law_draw.b .nil pass0 (pa_cons (pv 0) (pa_cons pe_int pa_nil))) pe_int) pa_nil)))))))) pa_nil))) pa_nil)))))))))))), ?_⟩
  refine ⟨_, rfl, t, 10, rfl, hT, by decide, by decide, fun ch H1 c0 c1 g1 => ?_⟩
  have hw1 := hw.go hT g1.sm
  -- a condition that has parts
  refine ⟨fun σ H' => H' = H1 ∧ σ = [some (.ref t), some v, some (.bl b), some (.int d), some (.int ch), none, none], ?_, ?_⟩
  · refine ⟨_, rfl, _, _, rfl, rfl, _, rfl, ite2 (fun z => ?_) (fun _ => iteF ⟨rfl, rfl⟩)⟩
    have z' : (0 : Int) < d := of_decide_eq_true z
    refine ⟨_, rfl, _, _, rfl, rfl, _, rfl, ite2 (fun _ => ?_) (fun _ => ⟨rfl, rfl⟩)⟩
    refine ⟨_, rfl, _, rfl, _, rfl, _, rfl, _, _, rfl, rfl, ?_⟩
    obtain ⟨d', rfl⟩ : ∃ d', d = d' + 1 := ⟨d - 1, by omega⟩
    refine ⟨t, v, b, d', w', us, by show [V.ref t, v, V.bl b, V.int (((d' + 1 : Nat) : Int) - 1)] = _; rw [show (((d' + 1 : Nat) : Int) - 1) = (d' : Int) by omega], g1.tp, hw1, wo, by omega, fun u c H2 g2 hu hc dc => ?_⟩
    refine ⟨(by show 2 ≤ sizeLine; decide), fun o ho => ?_⟩
    exact q _ (.nt c) _ ((g1.trans g2).new ho) (.tup upd_same (.cons (.str _) (.cons (hu.same (same_new ho _)) .nil))) ⟨hc.pl, hc.lit⟩ (by show c.dep + 1 ≤ _; omega)
  rintro σ H2 ⟨rfl, rfl⟩
  refine ⟨fun σ H' => H' = H2 ∧ σ = [some (.ref t), some v, some (.bl b), some (.int d), some (.int ch), none, none], ?_, ?_⟩
  · refine ⟨_, rfl, _, _, rfl, rfl, _, rfl, ite2 (fun z => ?_) (fun _ => iteF ⟨rfl, rfl⟩)⟩
    have z' : (0 : Int) < d := of_decide_eq_true z
    refine ⟨_, rfl, _, _, rfl, rfl, _, rfl, ite2 (fun _ => ?_) (fun _ => ⟨rfl, rfl⟩)⟩
    refine ⟨_, rfl, _, rfl, _, rfl, _, rfl, _, _, rfl, rfl, ?_⟩
    obtain ⟨d', rfl⟩ : ∃ d', d = d' + 1 := ⟨d - 1, by omega⟩
    have ed : [V.ref t, v, V.bl b, V.int (((d' + 1 : Nat) : Int) - 1)] = [.ref t, v, .bl b, .int (d' : Int)] := by rw [show (((d' + 1 : Nat) : Int) - 1) = (d' : Int) by omega]
    refine ⟨t, v, b, d', w', us, ed, g1.tp, hw1, wo, by omega, fun u c H3 g3 hu hc dc => ?_⟩
    refine ⟨(by show 2 ≤ sizeLine; decide), fun o ho => ?_⟩
    have g4 := g3.trans ((Go.refl g3.tp).new (o := .lst [.str (Str.ofString "and"), .str (Str.ofString "or")]) ho)
    have eo : (upd H3 o (.lst [.str (Str.ofString "and"), .str (Str.ofString "or")])) o = some (.lst [.str (Str.ofString "and"), .str (Str.ofString "or")]) := upd_same
    have hu4 := hu.same (same_new ho (.lst [.str (Str.ofString "and"), .str (Str.ofString "or")]))
    generalize upd H3 o (.lst [.str (Str.ofString "and"), .str (Str.ofString "or")]) = H4 at *
    have hw4 := hw1.go g1.tp g4.sm
    have fm := fmod_in (a := ch) (m := 2) (by decide)
    have two : ch.fmod 2 = 0 ∨ ch.fmod 2 = 1 := by omega
    refine ⟨_, rfl, .inl ⟨_, rfl, _, _, rfl, rfl, (by show (2 : Int) ≠ 0; decide), ?_⟩⟩
    have rest : ∀ (wd : Str) (mk : Cd → Cd → Cd), (∀ a b, cdD (mk a b) = .tup [.str wd, cdD a, cdD b]) → (∀ a b, CdW us (b : Bool) a → True) → (∀ a b' , CdW us b a → CdW us b b' → CdW us b (mk a b') ∧ (mk a b').dep = max a.dep b'.dep + 1) → ∀ {R : VK}, (∀ x H', (∃ o c2, x = V.ref o ∧ Go t H H' ∧ TT H' (.ref o) (cdD c2) ∧ CdW us b c2 ∧ c2.dep ≤ d' + 1) → R x H') → ∀ (u2 : V) (c2 : Cd) (H5 : Hp), Go t H4 H5 → TT H5 u2 (cdD c2) → CdW us b c2 → c2.dep ≤ d' → 3 ≤ sizeLine ∧ ∀ o2, H5 o2 = none → R (.ref o2) (upd H5 o2 (.tup [.str wd, u, u2])) := fun wd mk e1 _ e2 R hR u2 c2 H5 g5 hu2 hc2 dc2 => by
      refine ⟨(by show 3 ≤ sizeLine; decide), fun o2 ho2 => hR _ _ ⟨o2, mk c c2, rfl, ((g1.trans g4).trans g5).new ho2, ?_, (e2 c c2 hc hc2).1, by rw [(e2 c c2 hc hc2).2]; omega⟩⟩
      rw [e1]
      exact .tup upd_same (.cons (.str _) (.cons ((hu4.go g4.tp g5.sm).same (same_new ho2 _)) (.cons (hu2.same (same_new ho2 _)) .nil)))
    rcases two with e | e
    · refine ⟨o, _, ch.fmod 2, _, rfl, rfl, SqL.of eo, by rw [e]; rfl, ?_⟩
      refine ⟨_, rfl, _, rfl, _, rfl, _, rfl, _, rfl, _, _, rfl, rfl, t, v, b, d', w', us, ed, g4.tp, hw4, wo, by omega, fun u2 c2 H5 g5 hu2 hc2 dc2 => ?_⟩
      exact rest (Str.ofString "and") .an (fun _ _ => rfl) (fun _ _ _ => trivial) (fun a b' h1 h2 => ⟨⟨⟨h1.pl, h2.pl⟩, ⟨h1.lit, h2.lit⟩⟩, rfl⟩) (fun x H' ⟨o, c2, ex, g, tt, cw, dd⟩ => by subst ex; exact q _ c2 H' g tt cw dd) u2 c2 H5 g5 hu2 hc2 dc2
    · refine ⟨o, _, ch.fmod 2, _, rfl, rfl, SqL.of eo, by rw [e]; rfl, ?_⟩
      refine ⟨_, rfl, _, rfl, _, rfl, _, rfl, _, rfl, _, _, rfl, rfl, t, v, b, d', w', us, ed, g4.tp, hw4, wo, by omega, fun u2 c2 H5 g5 hu2 hc2 dc2 => ?_⟩
      exact rest (Str.ofString "or") .or (fun _ _ => rfl) (fun _ _ _ => trivial) (fun a b' h1 h2 => ⟨⟨⟨h1.pl, h2.pl⟩, ⟨h1.lit, h2.lit⟩⟩, rfl⟩) (fun x H' ⟨o, c2, ex, g, tt, cw, dd⟩ => by subst ex; exact q _ c2 H' g tt cw dd) u2 c2 H5 g5 hu2 hc2 dc2
  rintro σ H3 ⟨rfl, rfl⟩
  -- an atom
  refine ⟨_, rfl, _, rfl, _, rfl, t, v, b, w', us, rfl, g1.tp, hw1, wo, fun u p H4 g4 hu hp => ?_⟩
  have g4 := g1.trans g4
  have fin : ∀ (c : Cd) (H' : Hp) (o : Addr) (ys : List V) (ds : List Dt), Go t H H' → H' o = none → cdD c = .tup ds → TTs (upd H' o (.tup ys)) ys ds → CdW us b c → c.dep ≤ d → Q (.ref o) (upd H' o (.tup ys)) := fun c H' o ys ds g ho e hh hc hd => q _ c _ (g.new ho) (by rw [e]; exact .tup upd_same hh) hc hd
  refine ⟨_, rfl, _, _, rfl, rfl, _, rfl, ite2 (fun _ => ?_) (fun _ => ?_)⟩
  · refine ⟨_, rfl, (by show 2 ≤ sizeLine; decide), fun o ho => ?_⟩
    exact fin (.has p) _ o _ _ g4 ho rfl (.cons (.str _) (.cons (hu.same (same_new ho _)) .nil)) ⟨hp, trivial⟩ (Nat.zero_le _)
  refine ⟨_, rfl, _, _, rfl, rfl, _, rfl, ite2 (fun _ => ?_) (fun _ => ?_)⟩
  · refine ⟨_, rfl, _, rfl, t, rfl, g4.tp, fun x e H5 g5 dx hx => ?_⟩
    refine ⟨(by show 3 ≤ sizeLine; decide), fun o ho => ?_⟩
    exact fin (.eq p e) _ o _ _ (g4.trans g5) ho rfl (.cons (.str _) (.cons ((hu.go g4.tp g5.sm).same (same_new ho _)) (.cons (dx.same (same_new ho _)) .nil))) ⟨hp, hx⟩ (Nat.zero_le _)
  refine ⟨(by show 2 ≤ sizeLine; decide), fun o1 ho1 => ?_⟩
  have g5 := g4.trans ((Go.refl g4.tp).new (o := .lst [.str (Str.ofString "<"), .str (Str.ofString ">")]) ho1)
  have eo1 : (upd H4 o1 (.lst [.str (Str.ofString "<"), .str (Str.ofString ">")])) o1 = some (.lst [.str (Str.ofString "<"), .str (Str.ofString ">")]) := upd_same
  have hu5 := hu.same (same_new ho1 (.lst [.str (Str.ofString "<"), .str (Str.ofString ">")]))
  have n1 := g4.tp.ne ho1
  generalize upd H4 o1 (.lst [.str (Str.ofString "<"), .str (Str.ofString ">")]) = H5 at *
  refine ⟨_, rfl, t, 2, rfl, g5.tp, by decide, by decide, fun r H6 r0 r1 g6 => ?_⟩
  have eo6 := g6.sm _ _ n1 eo1
  have hu6 := hu5.go g5.tp g6.sm
  have g6 := g5.trans g6
  have rest : ∀ {R : VK}, (∀ k H' o, Go t H H' → H' o = none → TT H' u (plD p) → R (.ref o) (upd H' o (.tup [.str (Str.ofString "x"), u, .int k])) → True) → True := fun _ => trivial
  have tail : ∀ (wd : Str) (mk : Int → Cd), (∀ k, cdD (mk k) = .tup [.str wd, plD p, .int k]) → (∀ k, CdW us b (mk k) ∧ (mk k).dep = 0) → ∀ (k : Int) (H' : Hp), Go t H H' → TT H' u (plD p) → 3 ≤ sizeLine ∧ ∀ o, H' o = none → Q (.ref o) (upd H' o (.tup [.str wd, u, .int k])) := fun wd mk e1 e2 k H' g hu' => by
    refine ⟨(by show 3 ≤ sizeLine; decide), fun o ho => fin (mk k) H' o _ _ g ho (e1 k) (.cons (.str _) (.cons (hu'.same (same_new ho _)) (.cons (.int _) .nil))) (e2 k).1 (by rw [(e2 k).2]; exact Nat.zero_le _)⟩
  have two : r = 0 ∨ r = 1 := by omega
  have pickI : ∀ {l : List Int} {v : V}, v ∈ l.map V.int → ∃ k, v = V.int k := fun h => by
    obtain ⟨k, _, e⟩ := List.mem_map.mp h
    exact ⟨k, e.symm⟩
  rcases two with e | e
  · refine ⟨o1, _, r, _, rfl, rfl, SqL.of eo6, by rw [e]; rfl, ?_⟩
    refine ⟨_, rfl, _, rfl, _, rfl, _, rfl, t, 12, rfl, g6.tp, by decide, by decide, fun r2 H7 _ _ g7 => ⟨_, _, rfl, rfl, (by show 7 ≤ sizeLine; decide), fun o2 ho2 => ?_⟩⟩
    have hu7 := hu6.go g6.tp g7.sm
    have g7 := g6.trans g7
    refine ⟨t, _, rfl, g7.tp.new ho2, .inr ⟨o2, _, rfl, g7.tp.ne ho2, .inl (SqL.of upd_same), (by show 1 ≤ 7; decide), (by show 7 ≤ 1000000; decide), fun v H8 hv g8 => ?_⟩⟩
    have g78 := ((Go.refl g7.tp).new ho2).trans g8
    obtain ⟨k, rfl⟩ := pickI (l := [0, 1, 5, -3, 7, 999999, r2 - 4]) hv
    exact tail (Str.ofString "<") (.lt p) (fun _ => rfl) (fun _ => ⟨⟨hp, trivial⟩, rfl⟩) k H8 (g7.trans g78) (hu7.go g7.tp g78.sm)
  · refine ⟨o1, _, r, _, rfl, rfl, SqL.of eo6, by rw [e]; rfl, ?_⟩
    refine ⟨_, rfl, _, rfl, _, rfl, _, rfl, t, 12, rfl, g6.tp, by decide, by decide, fun r2 H7 _ _ g7 => ⟨_, _, rfl, rfl, (by show 7 ≤ sizeLine; decide), fun o2 ho2 => ?_⟩⟩
    have hu7 := hu6.go g6.tp g7.sm
    have g7 := g6.trans g7
    refine ⟨t, _, rfl, g7.tp.new ho2, .inr ⟨o2, _, rfl, g7.tp.ne ho2, .inl (SqL.of upd_same), (by show 1 ≤ 7; decide), (by show 7 ≤ 1000000; decide), fun v H8 hv g8 => ?_⟩⟩
    have g78 := ((Go.refl g7.tp).new ho2).trans g8
    obtain ⟨k, rfl⟩ := pickI (l := [0, 1, 5, -3, 7, 999999, r2 - 4]) hv
    exact tail (Str.ofString ">") (.gt p) (fun _ => rfl) (fun _ => ⟨⟨hp, trivial⟩, rfl⟩) k H8 (g7.trans g78) (hu7.go g7.tp g78.sm)
theorem ok_law_condition {f : Addr} {fd : FuncData} (F : Fun K "_law_condition" "_law_condition" s_law_condition f fd) (T : Top K w mg) (M : mg "_law_condition" = some (.ref f)) {a_law_draw : Addr} {d_law_draw : FuncData} (C_law_draw : Cal P w K mg base "_law_draw" 1 ["tape", "many"] sp_law_draw a_law_draw d_law_draw) {a_law_pick : Addr} {d_law_pick : FuncData} (C_law_pick : Cal P w K mg base "_law_pick" 2 ["tape", "row"] sp_law_pick a_law_pick d_law_pick) {a_law_literal : Addr} {d_law_literal : FuncData} (C_law_literal : Cal P w K mg base "_law_literal" 4 ["tape"] sp_law_literal a_law_literal d_law_literal) {a_law_some_place : Addr} {d_law_some_place : FuncData} (C_law_some_place : Cal P w K mg base "_law_some_place" 3 ["tape", "world", "each"] sp_law_some_place a_law_some_place d_law_some_place) : FnOk P w K mg base CX0 10 f fd ["tape", "world", "each", "depth"] (sp_law_condition K) := by
  have b := F.binds (ps := ["tape", "world", "each", "depth"]) fun _ _ _ _ _ _ us hl => match us, hl with | [_, _, _, _], _ => rfl
  have h : ∀ n, FnOk P w K mg base CX0 (n + 5) f fd ["tape", "world", "each", "depth"] (spCond (n + 5) K) := fun n => by
    induction n with
    | zero =>
      refine none_any fun vs H Q E h => ?_
      obtain ⟨t, v, b, d, w, us, _, _, _, _, hd, _⟩ := h
      omega
    | succ n ih => exact ok_law_condition_n F T C_law_draw C_law_pick C_law_literal C_law_some_place ⟨ih, b, F.kp, M⟩
  exact h 5

/-! ### _law_action -/
theorem sc_law_action : FnScope ["tape", "world", "each", "choice", "target"] ["tape", "world", "each"] (defScope s_law_action) := ⟨rfl, rfl, rfl, by decide +kernel, rfl, by decide +kernel, by decide +kernel⟩

def reasL : List Str := [Str.ofString "r", Str.ofString "too-high", Str.ofString "X9", Str.ofString "set", Str.ofString "abcdefghijklmnopqrstuvwxyz-012"]
theorem reasL_sg : ∀ z ∈ reasL, SgT z := by
  have h : ∀ z ∈ reasL, ∀ c ∈ z.cps.toList, Sg c := by decide +kernel
  exact h


def sp_law_action (K : PySem.W.Frag) : Sp := fun vs H Q _ => ∃ (t : Addr) (v : V) (b : Bool) (w : Wd) (us : List Str), vs = [.ref t, v, .bl b] ∧ Tape H t ∧ WdAt H t v w ∧ WdOk us w ∧ ∀ u a H', Go t H H' → TT H' u (acD a) → AcV us w b a → (∀ r, a = .rej r → SgT r) → Q u H'

theorem ok_law_action {f : Addr} {fd : FuncData} (F : Fun K "_law_action" "_law_action" s_law_action f fd) (T : Top K w mg) {a_law_draw : Addr} {d_law_draw : FuncData} (C_law_draw : Cal P w K mg base "_law_draw" 1 ["tape", "many"] sp_law_draw a_law_draw d_law_draw) {a_law_pick : Addr} {d_law_pick : FuncData} (C_law_pick : Cal P w K mg base "_law_pick" 2 ["tape", "row"] sp_law_pick a_law_pick d_law_pick) {a_law_literal : Addr} {d_law_literal : FuncData} (C_law_literal : Cal P w K mg base "_law_literal" 4 ["tape"] sp_law_literal a_law_literal d_law_literal) {a_law_some_place : Addr} {d_law_some_place : FuncData} (C_law_some_place : Cal P w K mg base "_law_some_place" 3 ["tape", "world", "each"] sp_law_some_place a_law_some_place d_law_some_place) : FnOk P w K mg base CX0 5 f fd ["tape", "world", "each"] (sp_law_action K) := by
  have sc := sc_law_action
  refine F.ok sc (fun vs H Q E h => ?_) (fun cdv A outer s H vs Q E hr h => ?_)
  · obtain ⟨t, v, b, w', us, rfl, _⟩ := h
    rfl
  obtain ⟨t, v, b, w', us, rfl, hT, hw, wo, q⟩ := h
  refine ⟨_, (pss_cons (ps_set (i := 3) sc.nd rfl (Or.inl rfl) (pe_call C_law_draw.ok (hr.mono (by omega)) (by rfl) C_law_draw.m C_law_draw.kp C_law_draw.b .nil pass0 (pa_cons (pv 0) (pa_cons pe_int pa_nil))))
    (pss_cons (ps_set (i := 4) sc.nd rfl (Or.inl rfl) (pe_tup (pa_cons pe_str (pa_cons (pe_call C_law_pick.ok (hr.mono (by omega)) (by rfl) C_law_pick.m C_law_pick.kp C_law_pick.b .nil pass0 (pa_cons (pv 0) (pa_cons (pe_ix (kx_tup (K := K) rfl) (pv 1) pe_int (fun _ _ => rfl)) pa_nil))) pa_nil))))
    (C8.pss_cut (ps_if (pt_val (pv 2))
      (pss_one (ps_set (i := 4) sc.nd rfl (Or.inl rfl) (pe_tup (pa_cons pe_str (pa_cons (pe_call C_law_pick.ok (hr.mono (by omega)) (by rfl) C_law_pick.m C_law_pick.kp C_law_pick.b .nil pass0 (pa_cons (pv 0) (pa_cons (pe_ix (kx_tup (K := K) rfl) (pv 1) pe_int (fun _ _ => rfl)) pa_nil))) pa_nil)))))
      pss_nil)
    (pss_cons (ps_if (pt_cmpR op_eq (pv 3) pe_int (nomark _))
      (pss_one (ps_ret (pe_tup (pa_cons pe_str (pa_cons (pe_call C_law_pick.ok (hr.mono (by omega)) (by rfl) C_law_pick.m C_law_pick.kp C_law_pick.b .nil pass0 (pa_cons (pv 0) (pa_cons (pe_lst (pa_cons pe_str (pa_cons pe_str (pa_cons pe_str (pa_cons pe_str (pa_cons pe_str pa_nil)))))) pa_nil))) pa_nil)))))
      pss_nil)
    (pss_cons (ps_if (pt_cmpR op_lt (pv 3) pe_int (nomark _))
      (pss_one (ps_ret (pe_tup (pa_cons pe_str (pa_cons (pv 4) (pa_cons (pe_call C_law_literal.ok (hr.mono (by omega)) (by rfl) C_law_literal.m C_law_literal.kp C_law_literal.b .nil pass0 (pa_cons (pv 0) pa_nil)) pa_nil))))))
      pss_nil)
    (pss_cons (ps_if (pt_cmpR op_lt (pv 3) pe_int (nomark _))
      (pss_one (ps_ret (pe_tup (pa_cons pe_str (pa_cons (pv 4) (pa_cons (pe_call C_law_literal.ok (hr.mono (by omega)) (by rfl) C_law_literal.m C_law_literal.kp C_law_literal.b .nil pass0 (pa_cons (pv 0) pa_nil)) pa_nil))))))
      pss_nil)
    (pss_cons (ps_if (pt_cmpR op_lt (pv 3) pe_int (nomark _))
      (pss_one (ps_ret (pe_tup (pa_cons pe_str (pa_cons (pv 4) (pa_cons (pe_call C_law_some_place.ok (hr.mono (by omega)) (by rfl) C_law_some_place.m C_law_some_place.kp C_law_some_place.b .nil pass0 (pa_cons (pv 0) (pa_cons (pv 1) (pa_cons (pv 2) pa_nil)))) pa_nil))))))
      pss_nil)
    (pss_one (ps_ret (pe_tup (pa_cons pe_str (pa_cons (pv 4) pa_nil)))))))))))), ?_⟩

  have p1 := wo.p1
  have p2 := wo.p2
  have i1 := wo.i1
  have i2 := wo.i2
  refine ⟨_, rfl, t, 12, rfl, hT, by decide, by decide, fun ch H1 c0 c1 g1 => ?_⟩
  have hw1 := hw.go hT g1.sm
  obtain ⟨wa, kl, cc, pl, il, xs, ys, rfl, h1, h2, h3, h4, h5, h6, h7, n1, n2, n4⟩ := hw1.ex
  have lx := h5.len
  refine ⟨_, rfl, _, rfl, wa, _, 2, _, rfl, rfl, SqT.of h1, rfl, t, _, rfl, g1.tp, .inr ⟨pl, xs, rfl, n2, .inl (SqL.of h4), by omega, by omega, fun x H2 hx g2 => ?_⟩⟩
  obtain ⟨pp, hpp, b0, rfl, hb0⟩ := h5.mem hx
  have hb0 := tup_go g1.tp g2.sm hb0
  have g2 := g1.trans g2
  refine ⟨(by show 2 ≤ sizeLine; decide), fun o1 ho1 => ?_⟩
  have g3 := g2.new (o := .tup [.str (Str.ofString "path"), .ref b0]) ho1
  have hp3 : TT (upd H2 o1 (.tup [.str (Str.ofString "path"), .ref b0])) (.ref o1) (plD (.path pp)) := .tup upd_same (.cons (.str _) (.cons ((TT.of_path hb0).same (same_new ho1 _)) .nil))
  generalize upd H2 o1 (.tup [.str (Str.ofString "path"), .ref b0]) = H3 at *
  refine ⟨fun σ H' => Go t H H' ∧ ∃ (x : V) (p : Pl), TT H' x (plD p) ∧ PlV w' b p ∧ σ = [some (.ref t), some (.ref wa), some (.bl b), some (.int ch), some x], ?_, ?_⟩
  · cases b with
    | false => exact ⟨_, rfl, _, rfl, iteF ⟨g3, _, _, hp3, ⟨rfl, hpp⟩, rfl⟩⟩
    | true =>
      have hw3 := hw.go hT g3.sm
      obtain ⟨wa', kl, cc, pl, il, xs', ys', ea, k1, k2, k3, k4, k5, k6, k7, m1, m2, m4⟩ := hw3.ex
      cases ea
      have ly := k7.len
      refine ⟨_, rfl, _, rfl, iteT ⟨_, rfl, _, rfl, wa, _, 3, _, rfl, rfl, SqT.of k1, rfl, t, _, rfl, g3.tp, .inr ⟨il, ys', rfl, m4, .inl (SqL.of k6), by omega, by omega, fun x H4 hx g4 => ?_⟩⟩⟩
      obtain ⟨ip, hip, b1, rfl, hb1⟩ := k7.mem hx
      have hb1 := tup_go g3.tp g4.sm hb1
      refine ⟨(by show 2 ≤ sizeLine; decide), fun o2 ho2 => ?_⟩
      exact ⟨(g3.trans g4).new ho2, _, .ent ip, .tup upd_same (.cons (.str _) (.cons ((TT.of_path hb1).same (same_new ho2 _)) .nil)), ⟨rfl, hip⟩, rfl⟩
  rintro σ H4 ⟨g4, x, p, hx, hp, rfl⟩
  have fin3 : ∀ (z : Str) (a : Ac) (d : Dt) (y : V) (H' : Hp), Go t H H' → acD a = .tup [.str z, plD p, d] → TT H' x (plD p) → TT H' y d → AcV us w' b a → (∀ r, a ≠ .rej r) → 3 ≤ sizeLine ∧ ∀ o, H' o = none → Q (.ref o) (upd H' o (.tup [.str z, x, y])) := fun z a d y H' g e hx hy hw nr => ⟨(by show 3 ≤ sizeLine; decide), fun o ho => q _ a _ (g.new ho) (by rw [e]; exact .tup upd_same (.cons (.str _) (.cons (hx.same (same_new ho _)) (.cons (hy.same (same_new ho _)) .nil)))) hw (fun r e => absurd e (nr r))⟩
  refine ⟨_, rfl, rfl, _, rfl, ite2 (fun _ => ?_) (fun _ => ?_)⟩
  · refine ⟨_, rfl, (by show 5 ≤ sizeLine; decide), fun o2 ho2 => ?_⟩
    refine ⟨t, _, rfl, g4.tp.new ho2, .inr ⟨o2, _, rfl, g4.tp.ne ho2, .inl (SqL.of upd_same), (by show 1 ≤ 5; decide), (by show 5 ≤ 1000000; decide), fun v H5 hv g5 => ?_⟩⟩
    obtain ⟨z, hz, rfl⟩ := pickS reasL hv
    refine ⟨(by show 2 ≤ sizeLine; decide), fun o3 ho3 => ?_⟩
    exact q _ (.rej z) _ ((g4.trans (((Go.refl g4.tp).new ho2).trans g5)).new ho3) (.tup upd_same (.cons (.str _) (.cons (.str _) .nil))) trivial (fun r e => by cases e; exact reasL_sg z hz)
  refine ⟨_, rfl, _, _, rfl, rfl, _, rfl, ite2 (fun _ => ?_) (fun _ => ?_)⟩
  · refine ⟨_, rfl, _, rfl, t, rfl, g4.tp, fun y e H5 g5 dy hy => ?_⟩
    exact fin3 _ (.set p e) _ y H5 (g4.trans g5) rfl (hx.go g4.tp g5.sm) dy ⟨hp, hy⟩ (fun _ z => by cases z)
  refine ⟨_, rfl, _, _, rfl, rfl, _, rfl, ite2 (fun _ => ?_) (fun _ => ?_)⟩
  · refine ⟨_, rfl, _, rfl, t, rfl, g4.tp, fun y e H5 g5 dy hy => ?_⟩
    exact fin3 _ (.dflt p e) _ y H5 (g4.trans g5) rfl (hx.go g4.tp g5.sm) dy ⟨hp, hy⟩ (fun _ z => by cases z)
  refine ⟨_, rfl, _, _, rfl, rfl, _, rfl, ite2 (fun _ => ?_) (fun _ => ?_)⟩
  · refine ⟨_, rfl, _, rfl, _, rfl, _, rfl, t, _, b, w', us, rfl, g4.tp, hw.go hT g4.sm, wo, fun y p2 H5 g5 hy hp2 => ?_⟩
    exact fin3 _ (.copy p p2) _ y H5 (g4.trans g5) rfl (hx.go g4.tp g5.sm) hy ⟨hp, hp2⟩ (fun _ z => by cases z)
  · refine ⟨_, rfl, (by show 2 ≤ sizeLine; decide), fun o3 ho3 => ?_⟩
    exact q _ (.rem p) _ (g4.new ho3) (.tup upd_same (.cons (.str _) (.cons (hx.same (same_new ho3 _)) .nil))) hp (fun r e => by cases e)
/-! ### _law_size -/
theorem sc_law_size : FnScope ["condition", "close", "word", "inner", "size"] ["condition", "close"] (defScope s_law_size) := ⟨rfl, rfl, rfl, by decide +kernel, rfl, by decide +kernel, by decide +kernel⟩

def spSize (n : Nat) (K : PySem.W.Frag) : Sp := fun vs H Q _ => ∃ (v : V) (k : Int) (c : Cd), vs = [v, .int k] ∧ DT K H v (cdD c) ∧ c.dep + 2 ≤ n ∧ ∀ (m : Int) H', Same H H' → Q (.int m) H'
abbrev sp_law_size : PySem.W.Frag → Sp := spSize 42


theorem ok_law_size_n {n : Nat} {f : Addr} {fd : FuncData} (F : Fun K "_law_size" "_law_size" s_law_size f fd) (T : Top K w mg) (C_law_size : Cal P w K mg base "_law_size" (n + 1) ["condition", "close"] (spSize (n + 1)) f fd) : FnOk P w K mg base CX0 (n + 2) f fd ["condition", "close"] (spSize (n + 2) K) := by
  have sc := sc_law_size
  refine F.ok sc (fun vs H Q E h => ?_) (fun cdv A outer s H vs Q E hr h => ?_)
  · obtain ⟨v, k, c, rfl, _⟩ := h
    rfl
  obtain ⟨v, k, c, rfl, hv, hd, q⟩ := h
  refine ⟨_, (pss_cons (ps_set (i := 2) sc.nd rfl (Or.inl rfl) (pe_ix (kx_tup (K := K) rfl) (pv 0) pe_int (fun _ _ => rfl)))
    (pss_cons (ps_if (pt_cmpR op_eq (pv 2) pe_str (nomark _))
      (pss_one (ps_ret pe_int))
      pss_nil)
    (pss_cons (ps_if (pt_cmpR op_eq (pv 2) pe_str (nomark _))
      (pss_one (ps_ret (pe_op op_add pe_int (pe_call C_law_size.ok hr (by rfl) C_law_size.m C_law_size.kp C_law_size.b .nil pass0 (pa_cons (pe_ix (kx_tup (K := K) rfl) (pv 0) pe_int (fun _ _ => rfl)) (pa_cons pe_int pa_nil))))))
      pss_nil)
    (pss_cons (ps_if (pt_cmpR (kop_notIn (K := K) rfl) (pv 2) (pe_lst (pa_cons pe_str (pa_cons pe_str pa_nil))) rfl)
      (pss_one (ps_ret pe_int))
      pss_nil)
    (pss_cons (ps_set (i := 3) sc.nd rfl (Or.inl rfl) (pe_lst (pa_cons pe_int (pa_cons pe_int pa_nil))))
    (C8.pss_cut (ps_if (pt_cmpR op_eq (pv 2) pe_str (nomark _))
      (pss_one (ps_set (i := 3) sc.nd rfl (Or.inl rfl) (pe_lst (pa_cons pe_int (pa_cons pe_int pa_nil)))))
      pss_nil)
    (pss_cons (ps_set (i := 4) sc.nd rfl (Or.inl rfl) (pe_op op_add (pe_op op_add (pe_call C_law_size.ok hr (by rfl) C_law_size.m C_law_size.kp C_law_size.b .nil pass0 (pa_cons (pe_ix (kx_tup (K := K) rfl) (pv 0) pe_int (fun _ _ => rfl)) (pa_cons (pe_ix (kx_list (K := K) rfl) (pv 3) pe_int (fun _ _ => rfl)) pa_nil))) pe_int) (pe_call C_law_size.ok hr (by rfl) C_law_size.m C_law_size.kp C_law_size.b .nil pass0 (pa_cons (pe_ix (kx_tup (K := K) rfl) (pv 0) pe_int (fun _ _ => rfl)) (pa_cons (pe_ix (kx_list (K := K) rfl) (pv 3) pe_int (fun _ _ => rfl)) pa_nil)))))
    (pss_one (ps_ret (pe_op op_add (pv 4) (pe_op op_mul pe_int (pe_callTy call_int1 (by rfl) T.z_int (by decide +kernel) (pa_cons (pe_or (pe_cmpR op_eq (pv 1) pe_int (nomark _)) (pe_one (pe_and (pe_cmpR op_eq (pv 1) pe_int (nomark _)) (pe_one (pe_cmpR op_eq (pv 2) pe_str (nomark _)))))) pa_nil))))))))))))), ?_⟩
  have fin : ∀ (m : Int) (b : Bool) (H' : Hp), Same H H' → ∃ x y, V.int m = .int x ∧ V.int (2 * (if b = true then 1 else 0)) = .int y ∧ Q (.int (x + y)) H' := fun m b H' s => ⟨_, _, rfl, rfl, q _ H' s⟩
  cases c with
  | has p =>
    obtain ⟨a, xs, rfl, hS, hts⟩ := dt_tup hv
    obtain ⟨x1, x2, rfl, h1, h2⟩ := hts.two
    cases h1
    exact ⟨_, rfl, a, _, 0, _, rfl, rfl, hS, rfl, _, rfl, rfl, _, rfl, iteT (q _ H (Same.refl H))⟩
  | nt c =>
    obtain ⟨a, xs, rfl, hS, hts⟩ := dt_tup hv
    obtain ⟨x1, x2, rfl, h1, h2⟩ := hts.two
    cases h1
    have hd : c.dep + 1 + 2 ≤ n + 2 := hd
    exact ⟨_, rfl, a, _, 0, _, rfl, rfl, hS, rfl, _, rfl, rfl, _, rfl, iteF ⟨_, rfl, rfl, _, rfl, iteT ⟨_, rfl, a, _, 1, _, rfl, rfl, hS, rfl, x2, 2, c, rfl, h2, by omega, fun m H' s => ⟨_, _, rfl, rfl, q _ H' s⟩⟩⟩⟩
  | an c d =>
    obtain ⟨a, xs, rfl, hS, hts⟩ := dt_tup hv
    obtain ⟨x1, x2, x3, rfl, h1, h2, h3⟩ := hts.three
    cases h1
    have hd : max c.dep d.dep + 1 + 2 ≤ n + 2 := hd
    refine ⟨_, rfl, a, _, 0, _, rfl, rfl, hS, rfl, ?_⟩
    refine ⟨_, rfl, rfl, _, rfl, iteF ⟨_, rfl, rfl, _, rfl, iteF ⟨_, rfl, (by show 2 ≤ sizeLine; decide), fun o ho => ?_⟩⟩⟩
    refine ⟨o, [.str (Str.ofString "and"), .str (Str.ofString "or")], rfl, .inl (SqL.of upd_same), rfl, rfl, _, rfl, ?_⟩
    refine ite2 (fun z => absurd z (by decide +kernel)) (fun _ => ?_)
    have s1 := same_new ho (.lst [V.str (Str.ofString "and"), V.str (Str.ofString "or")])
    generalize upd H o (.lst [V.str (Str.ofString "and"), V.str (Str.ofString "or")]) = H1 at *
    refine ⟨(by show 2 ≤ sizeLine; decide), fun I hI => ?_⟩
    refine ⟨fun σ H' => Same H H' ∧ ∃ (J : Addr) (i j : Int), H' J = some (.lst [.int i, .int j]) ∧ σ = [some (.ref a), some (.int k), some (.str (Str.ofString "and")), some (.ref J), none], ?_, ?_⟩
    · refine ⟨_, rfl, rfl, _, rfl, iteF ⟨s1.trans (same_new hI _), I, 2, 1, upd_same, rfl⟩⟩
    · rintro σ H2 ⟨s2, J, i, j, eJ, rfl⟩
      refine ⟨_, rfl, a, _, 1, _, rfl, rfl, s2.seqT hS, rfl, _, rfl, J, _, 0, _, rfl, rfl, SqL.of eJ, rfl, x2, i, c, rfl, h2.same s2, by omega, fun m1 H3 s3 => ?_⟩
      have s23 := s2.trans s3
      refine ⟨_, _, rfl, rfl, _, rfl, a, _, 2, _, rfl, rfl, s23.seqT hS, rfl, _, rfl, J, _, 1, _, rfl, rfl, SqL.of (s3 _ _ eJ), rfl, x3, j, d, rfl, h3.same s23, by omega, fun m2 H4 s4 => ?_⟩
      refine ⟨_, _, rfl, rfl, _, rfl, ?_⟩
      have s24 := s23.trans s4
      refine ⟨_, rfl, rfl, _, rfl, ite2 (fun _ => ?_) (fun _ => ?_)⟩
      · exact .inr ⟨_, rfl, _, _, rfl, rfl, .inl ⟨by decide, by decide⟩, fin _ true _ s24⟩
      · refine ⟨_, rfl, rfl, _, rfl, ite2 (fun _ => ?_) (fun _ => ?_)⟩
        · exact ⟨_, rfl, rfl, .inr ⟨_, rfl, _, _, rfl, rfl, .inl ⟨by decide, by decide⟩, fin _ _ _ s24⟩⟩
        · exact .inr ⟨_, rfl, _, _, rfl, rfl, .inl ⟨by decide, by decide⟩, fin _ false _ s24⟩
  | or c d =>
    obtain ⟨a, xs, rfl, hS, hts⟩ := dt_tup hv
    obtain ⟨x1, x2, x3, rfl, h1, h2, h3⟩ := hts.three
    cases h1
    have hd : max c.dep d.dep + 1 + 2 ≤ n + 2 := hd
    refine ⟨_, rfl, a, _, 0, _, rfl, rfl, hS, rfl, ?_⟩
    refine ⟨_, rfl, rfl, _, rfl, iteF ⟨_, rfl, rfl, _, rfl, iteF ⟨_, rfl, (by show 2 ≤ sizeLine; decide), fun o ho => ?_⟩⟩⟩
    refine ⟨o, [.str (Str.ofString "and"), .str (Str.ofString "or")], rfl, .inl (SqL.of upd_same), rfl, rfl, _, rfl, ?_⟩
    refine ite2 (fun z => absurd z (by decide +kernel)) (fun _ => ?_)
    have s1 := same_new ho (.lst [V.str (Str.ofString "and"), V.str (Str.ofString "or")])
    generalize upd H o (.lst [V.str (Str.ofString "and"), V.str (Str.ofString "or")]) = H1 at *
    refine ⟨(by show 2 ≤ sizeLine; decide), fun I hI => ?_⟩
    refine ⟨fun σ H' => Same H H' ∧ ∃ (J : Addr) (i j : Int), H' J = some (.lst [.int i, .int j]) ∧ σ = [some (.ref a), some (.int k), some (.str (Str.ofString "or")), some (.ref J), none], ?_, ?_⟩
    · refine ⟨_, rfl, rfl, _, rfl, iteT ⟨(by show 2 ≤ sizeLine; decide), fun J hJ => ⟨(s1.trans (same_new hI _)).trans (same_new hJ _), J, 1, 0, upd_same, rfl⟩⟩⟩
    · rintro σ H2 ⟨s2, J, i, j, eJ, rfl⟩
      refine ⟨_, rfl, a, _, 1, _, rfl, rfl, s2.seqT hS, rfl, _, rfl, J, _, 0, _, rfl, rfl, SqL.of eJ, rfl, x2, i, c, rfl, h2.same s2, by omega, fun m1 H3 s3 => ?_⟩
      have s23 := s2.trans s3
      refine ⟨_, _, rfl, rfl, _, rfl, a, _, 2, _, rfl, rfl, s23.seqT hS, rfl, _, rfl, J, _, 1, _, rfl, rfl, SqL.of (s3 _ _ eJ), rfl, x3, j, d, rfl, h3.same s23, by omega, fun m2 H4 s4 => ?_⟩
      refine ⟨_, _, rfl, rfl, _, rfl, ?_⟩
      have s24 := s23.trans s4
      refine ⟨_, rfl, rfl, _, rfl, ite2 (fun _ => ?_) (fun _ => ?_)⟩
      · exact .inr ⟨_, rfl, _, _, rfl, rfl, .inl ⟨by decide, by decide⟩, fin _ true _ s24⟩
      · refine ⟨_, rfl, rfl, _, rfl, ite2 (fun _ => ?_) (fun _ => ?_)⟩
        · exact ⟨_, rfl, rfl, .inr ⟨_, rfl, _, _, rfl, rfl, .inl ⟨by decide, by decide⟩, fin _ _ _ s24⟩⟩
        · exact .inr ⟨_, rfl, _, _, rfl, rfl, .inl ⟨by decide, by decide⟩, fin _ false _ s24⟩
  | eq p e =>
    obtain ⟨a, xs, rfl, hS, hts⟩ := dt_tup hv
    obtain ⟨x1, x2, x3, rfl, h1, h2, h3⟩ := hts.three
    cases h1
    refine ⟨_, rfl, a, _, 0, _, rfl, rfl, hS, rfl, ?_⟩
    refine ⟨_, rfl, rfl, _, rfl, iteF ⟨_, rfl, rfl, _, rfl, iteF ⟨_, rfl, (by show 2 ≤ sizeLine; decide), fun o ho => ?_⟩⟩⟩
    refine ⟨o, [.str (Str.ofString "and"), .str (Str.ofString "or")], rfl, .inl (SqL.of upd_same), rfl, rfl, _, rfl, ?_⟩
    exact ite2 (fun _ => q _ _ (same_new ho _)) (fun z => absurd (by decide +kernel) z)
  | lt p e =>
    obtain ⟨a, xs, rfl, hS, hts⟩ := dt_tup hv
    obtain ⟨x1, x2, x3, rfl, h1, h2, h3⟩ := hts.three
    cases h1
    refine ⟨_, rfl, a, _, 0, _, rfl, rfl, hS, rfl, ?_⟩
    refine ⟨_, rfl, rfl, _, rfl, iteF ⟨_, rfl, rfl, _, rfl, iteF ⟨_, rfl, (by show 2 ≤ sizeLine; decide), fun o ho => ?_⟩⟩⟩
    refine ⟨o, [.str (Str.ofString "and"), .str (Str.ofString "or")], rfl, .inl (SqL.of upd_same), rfl, rfl, _, rfl, ?_⟩
    exact ite2 (fun _ => q _ _ (same_new ho _)) (fun z => absurd (by decide +kernel) z)
  | gt p e =>
    obtain ⟨a, xs, rfl, hS, hts⟩ := dt_tup hv
    obtain ⟨x1, x2, x3, rfl, h1, h2, h3⟩ := hts.three
    cases h1
    refine ⟨_, rfl, a, _, 0, _, rfl, rfl, hS, rfl, ?_⟩
    refine ⟨_, rfl, rfl, _, rfl, iteF ⟨_, rfl, rfl, _, rfl, iteF ⟨_, rfl, (by show 2 ≤ sizeLine; decide), fun o ho => ?_⟩⟩⟩
    refine ⟨o, [.str (Str.ofString "and"), .str (Str.ofString "or")], rfl, .inl (SqL.of upd_same), rfl, rfl, _, rfl, ?_⟩
    exact ite2 (fun _ => q _ _ (same_new ho _)) (fun z => absurd (by decide +kernel) z)
theorem ok_law_size {f : Addr} {fd : FuncData} (F : Fun K "_law_size" "_law_size" s_law_size f fd) (T : Top K w mg) (M : mg "_law_size" = some (.ref f)) : FnOk P w K mg base CX0 42 f fd ["condition", "close"] (sp_law_size K) := by
  have b := F.binds (ps := ["condition", "close"]) fun _ _ _ _ _ _ us hl => match us, hl with | [_, _], _ => rfl
  have h : ∀ n, FnOk P w K mg base CX0 (n + 1) f fd ["condition", "close"] (spSize (n + 1) K) := fun n => by
    induction n with
    | zero =>
      refine none_any fun vs H Q E h => ?_
      obtain ⟨v, k, c, _, _, hd, _⟩ := h
      omega
    | succ n ih => exact ok_law_size_n F T ⟨ih, b, F.kp, M⟩
  exact h 41

/-! ### _law_rule_size -/
theorem sc_law_rule_size : FnScope ["rule", "size", "action"] ["rule"] (defScope s_law_rule_size) := ⟨rfl, rfl, rfl, by decide +kernel, rfl, by decide +kernel, by decide +kernel⟩

def sp_law_rule_size (K : PySem.W.Frag) : Sp := fun vs H Q _ => ∃ (v : V) (col : Option (List Str)) (c : Option Cd) (acts : List Dt), vs = [v] ∧ DT K H v (ruD col c acts) ∧ Cd.depO c ≤ 40 ∧ acts.length ≤ 1000 ∧ (∀ d ∈ acts, ActD d) ∧ ∀ (m : Int) H', Same H H' → Q (.int m) H'

theorem ok_law_rule_size {f : Addr} {fd : FuncData} (F : Fun K "_law_rule_size" "_law_rule_size" s_law_rule_size f fd) (T : Top K w mg) {a_law_size : Addr} {d_law_size : FuncData} (C_law_size : Cal P w K mg base "_law_size" 42 ["condition", "close"] sp_law_size a_law_size d_law_size) : FnOk P w K mg base CX0 43 f fd ["rule"] (sp_law_rule_size K) := by
  have sc := sc_law_rule_size
  refine F.ok sc (fun vs H Q E h => ?_) (fun cdv A outer s H vs Q E hr h => ?_)
  · obtain ⟨v, col, c, acts, rfl, _⟩ := h
    rfl
  obtain ⟨v, col, c, acts, rfl, hv, hd, la, hacts, q⟩ := h
  refine ⟨_, (pss_cons (ps_set (i := 1) sc.nd rfl (Or.inl rfl) (pe_op op_sub (pe_op op_mul pe_int (pe_callTy call_int1 (by rfl) T.z_int (by decide +kernel) (pa_cons (pe_cmpR op_notN (pe_ix (kx_tup (K := K) rfl) (pv 0) pe_int (fun _ _ => rfl)) pe_non (nomark _)) pa_nil))) pe_int))
    (C8.pss_cut (ps_if (pt_cmpR op_notN (pe_ix (kx_tup (K := K) rfl) (pv 0) pe_int (fun _ _ => rfl)) pe_non (nomark _))
      (pss_one (ps_set (i := 1) sc.nd rfl (Or.inl rfl) (pe_op op_add (pe_op op_add (pv 1) pe_int) (pe_call C_law_size.ok (hr.mono (by omega)) (by rfl) C_law_size.m C_law_size.kp C_law_size.b .nil pass0 (pa_cons (pe_ix (kx_tup (K := K) rfl) (pv 0) pe_int (fun _ _ => rfl)) (pa_cons pe_int pa_nil))))))
      pss_nil)
    (pss_cons (ps_for PassesOwn.never rfl (kpi_tup (K := K) rfl (pe_ix (kx_tup (K := K) rfl) (pv 0) pe_int (fun _ _ => rfl))) (pg_name (i := 2) sc.nd rfl (Or.inl rfl))
      (pss_one (ps_set (i := 1) sc.nd rfl (Or.inl rfl) (pe_op op_add (pe_op op_add (pv 1) pe_int) (pe_ix (kx_list (K := K) rfl) (pe_lst (pa_cons pe_int (pa_cons pe_int (pa_cons pe_int (pa_cons pe_int (pa_cons pe_int pa_nil)))))) (pe_bm PySem.F.plainAttrs_list PySem.F.slot_list_index PySem.F.type_list_index mt_index (pe_lst (pa_cons pe_str (pa_cons pe_str (pa_cons pe_str (pa_cons pe_str (pa_cons pe_str pa_nil)))))) (pa_cons (pe_ix (kx_tup (K := K) rfl) (pv 2) pe_int (fun _ _ => rfl)) pa_nil)) (fun _ _ => rfl))))))
    (pss_one (ps_ret (pv 1)))))), ?_⟩

  obtain ⟨a, xs, rfl, hS, hts⟩ := dt_tup hv
  obtain ⟨x1, x2, x3, rfl, h1, h2, h3⟩ := hts.three
  refine ⟨_, rfl, a, _, 0, _, rfl, rfl, hS, rfl, rfl, .inr ⟨_, rfl, _, _, rfl, rfl, .inl ⟨by decide, by decide⟩, _, _, rfl, rfl, ?_⟩⟩
  refine ⟨fun σ H' => Same H H' ∧ ∃ m : Int, σ = [some (.ref a), some (.int m), none], ?_, ?_⟩
  · refine ⟨_, rfl, a, _, 1, _, rfl, rfl, hS, rfl, rfl, _, rfl, ?_⟩
    cases c with
    | none =>
      cases h2
      exact iteF ⟨Same.refl H, _, rfl⟩
    | some c =>
      obtain ⟨b, rfl⟩ := cd_ref h2
      have hd : c.dep ≤ 40 := hd
      exact iteT ⟨_, rfl, _, _, rfl, rfl, _, rfl, a, _, 1, _, rfl, rfl, hS, rfl, .ref b, 0, c, rfl, h2, by omega, fun m H' s => ⟨_, _, rfl, rfl, s, _, rfl⟩⟩
  · rintro σ H1 ⟨s1, m, rfl⟩
    obtain ⟨b, ys, rfl, hB, hys⟩ := dt_tup h3
    have ly := hys.length
    refine ⟨_, rfl, a, _, 2, _, rfl, rfl, s1.seqT hS, rfl, b, rfl, ⟨_, s1.seqT hB⟩, ?_⟩
    refine for_it (walk_tup (K := K) (a := b) (xs := ys)) (fun i σ H' => Same H H' ∧ ∃ (m : Int) (v2 : Option V), σ = [some (.ref a), some (.int m), v2]) ⟨s1, _, _, rfl⟩ (fun i σ H' _ h => h.1.seqT hB) ?_ ?_
    · rintro i y σ H2 H3 hi ⟨s2, m, v2, rfl⟩ ⟨rfl, hy⟩
      obtain ⟨d, ed, dy⟩ := hys.get' hy
      obtain ⟨w', r, rfl, hw⟩ := hacts d (List.mem_of_getElem? ed)
      obtain ⟨c', zs, rfl, hC, hzs⟩ := dt_head (dy.same s2)
      refine ⟨_, rfl, _, _, rfl, rfl, (by show 5 ≤ sizeLine; decide), fun o ho => ⟨(by show 5 ≤ sizeLine; decide), fun o2 ho2 => ?_⟩⟩
      have s4 := same_new ho (.lst [V.int 3, V.int 3, V.int 4, V.int 2, V.int 2])
      have eo : (upd H3 o (.lst [V.int 3, V.int 3, V.int 4, V.int 2, V.int 2])) o = some (.lst [V.int 3, V.int 3, V.int 4, V.int 2, V.int 2]) := upd_same
      generalize upd H3 o (.lst [V.int 3, V.int 3, V.int 4, V.int 2, V.int 2]) = H4 at *
      have s5 := same_new ho2 (.lst (actW.map V.str))
      refine ⟨.inl ⟨rfl, _, SqL.of upd_same⟩, _, rfl, c', _, 0, _, rfl, rfl, s5.seqT (s4.seqT hC), atI_nat (j := 0) rfl, ?_⟩
      obtain ⟨j, hj, _, i1, i2, i3⟩ := idx_strs hw
      refine ⟨o2, actW.map V.str, .str w', j, .str w', rfl, rfl, SqL.of upd_same, rfl, flat_strs _, i1, i2, i3, ?_⟩
      have hj : j < 5 := hj
      refine ⟨o, [V.int 3, V.int 3, V.int 4, V.int 2, V.int 2], _, [V.int 3, V.int 3, V.int 4, V.int 2, V.int 2][j]'hj, rfl, rfl, SqL.of (s5 _ _ eo), atI_nat (List.getElem?_eq_getElem hj), ?_⟩
      have num : ∃ k : Int, [V.int 3, V.int 3, V.int 4, V.int 2, V.int 2][j]'hj = .int k := by
        match j, hj with
        | 0, _ => exact ⟨_, rfl⟩
        | 1, _ => exact ⟨_, rfl⟩
        | 2, _ => exact ⟨_, rfl⟩
        | 3, _ => exact ⟨_, rfl⟩
        | 4, _ => exact ⟨_, rfl⟩
      obtain ⟨k, ek⟩ := num
      rw [ek]
      exact ⟨_, _, rfl, rfl, s2.trans (s4.trans s5), _, _, rfl⟩
    · rintro σ H2 ⟨s2, m, v2, rfl⟩
      exact ⟨_, rfl, q m H2 s2⟩
/-! ### _law_rule -/
theorem sc_law_rule : FnScope ["tape", "world", "depth", "each", "rule", "k", "longer"] ["tape", "world", "depth"] (defScope s_law_rule) := ⟨rfl, rfl, rfl, by decide +kernel, rfl, by decide +kernel, by decide +kernel⟩

def sp_law_rule (K : PySem.W.Frag) : Sp := fun vs H Q _ => ∃ (t : Addr) (v : V) (n : Nat) (w : Wd) (us : List Str), vs = [.ref t, v, .int n] ∧ Tape H t ∧ WdAt H t v w ∧ WdOk us w ∧ n ≤ 2 ∧ ∀ u r H', Go t H H' → TT H' u (ruE r) → RuV us w r → (∀ c, r.c = some c → c.dep ≤ n) → (∀ z ∈ rejs r.as, SgT z) → r.as.length ≤ 5 → Q u H'

theorem ok_law_rule {f : Addr} {fd : FuncData} (F : Fun K "_law_rule" "_law_rule" s_law_rule f fd) (T : Top K w mg) {a_law_draw : Addr} {d_law_draw : FuncData} (C_law_draw : Cal P w K mg base "_law_draw" 1 ["tape", "many"] sp_law_draw a_law_draw d_law_draw) {a_law_pick : Addr} {d_law_pick : FuncData} (C_law_pick : Cal P w K mg base "_law_pick" 2 ["tape", "row"] sp_law_pick a_law_pick d_law_pick) {a_law_condition : Addr} {d_law_condition : FuncData} (C_law_condition : Cal P w K mg base "_law_condition" 10 ["tape", "world", "each", "depth"] sp_law_condition a_law_condition d_law_condition) {a_law_action : Addr} {d_law_action : FuncData} (C_law_action : Cal P w K mg base "_law_action" 5 ["tape", "world", "each"] sp_law_action a_law_action d_law_action) {a_law_rule_size : Addr} {d_law_rule_size : FuncData} (C_law_rule_size : Cal P w K mg base "_law_rule_size" 43 ["rule"] sp_law_rule_size a_law_rule_size d_law_rule_size) : FnOk P w K mg base CX0 44 f fd ["tape", "world", "depth"] (sp_law_rule K) := by
  have sc := sc_law_rule
  refine F.ok sc (fun vs H Q E h => ?_) (fun cdv A outer s H vs Q E hr h => ?_)
  · obtain ⟨t, v, n, w', us, rfl, _⟩ := h
    rfl
  obtain ⟨t, v, n, w', us, rfl, hT, hw, wo, hn, q⟩ := h
  refine ⟨_, (pss_cons (ps_set (i := 3) sc.nd rfl (Or.inl rfl) (pe_cmpR op_eq (pe_call C_law_draw.ok (hr.mono (by omega)) (by rfl) C_law_draw.m C_law_draw.kp C_law_draw.b .nil pass0 (pa_cons (pv 0) (pa_cons pe_int pa_nil))) pe_int (nomark _)))
    (pss_cons (ps_set (i := 4) sc.nd rfl (Or.inl rfl) (pe_tup (pa_cons pe_non (pa_cons pe_non (pa_cons (pe_tup (pa_cons (pe_call C_law_action.ok (hr.mono (by omega)) (by rfl) C_law_action.m C_law_action.kp C_law_action.b .nil pass0 (pa_cons (pv 0) (pa_cons (pv 1) (pa_cons (pv 3) pa_nil)))) pa_nil)) pa_nil)))))
    (C8.pss_cut (ps_if (pt_val (pv 3))
      (pss_one (ps_set (i := 4) sc.nd rfl (Or.inl rfl) (pe_op (kop_catT (K := K) rfl) (pe_tup (pa_cons (pe_ix (kx_tup (K := K) rfl) (pv 1) pe_int (fun _ _ => rfl)) pa_nil)) (pe_slice (ksl_tup (K := K) rfl) (pv 4) (po_some pe_int) po_none))))
      pss_nil)
    (C8.pss_cut (ps_if (pt_cmpR op_gt (pe_call C_law_draw.ok (hr.mono (by omega)) (by rfl) C_law_draw.m C_law_draw.kp C_law_draw.b .nil pass0 (pa_cons (pv 0) (pa_cons pe_int pa_nil))) pe_int (nomark _))
      (pss_cons (ps_set (i := 6) sc.nd rfl (Or.inl rfl) (pe_tup (pa_cons (pe_ix (kx_tup (K := K) rfl) (pv 4) pe_int (fun _ _ => rfl)) (pa_cons (pe_call C_law_condition.ok (hr.mono (by omega)) (by rfl) C_law_condition.m C_law_condition.kp C_law_condition.b .nil pass0 (pa_cons (pv 0) (pa_cons (pv 1) (pa_cons (pv 3) (pa_cons (pv 2) pa_nil))))) (pa_cons (pe_ix (kx_tup (K := K) rfl) (pv 4) pe_int (fun _ _ => rfl)) pa_nil)))))
      (pss_one (ps_if (pt_cmpR op_le (pe_call C_law_rule_size.ok (hr.mono (by omega)) (by rfl) C_law_rule_size.m C_law_rule_size.kp C_law_rule_size.b .nil pass0 (pa_cons (pv 6) pa_nil)) pe_int (nomark _))
        (pss_one (ps_set (i := 4) sc.nd rfl (Or.inl rfl) (pv 6)))
        pss_nil)))
      pss_nil)
    (pss_cons (ps_for PassesOwn.never rfl (pi_range1 (by rfl) T.z_range (pa_cons (pe_call C_law_pick.ok (hr.mono (by omega)) (by rfl) C_law_pick.m C_law_pick.kp C_law_pick.b .nil pass0 (pa_cons (pv 0) (pa_cons (pe_lst (pa_cons pe_int (pa_cons pe_int (pa_cons pe_int (pa_cons pe_int (pa_cons pe_int pa_nil)))))) pa_nil))) pa_nil)) (pg_name (i := 5) sc.nd rfl (Or.inl rfl))
      (pss_cons (ps_set (i := 6) sc.nd rfl (Or.inl rfl) (pe_tup (pa_cons (pe_ix (kx_tup (K := K) rfl) (pv 4) pe_int (fun _ _ => rfl)) (pa_cons (pe_ix (kx_tup (K := K) rfl) (pv 4) pe_int (fun _ _ => rfl)) (pa_cons (pe_op (kop_catT (K := K) rfl) (pe_ix (kx_tup (K := K) rfl) (pv 4) pe_int (fun _ _ => rfl)) (pe_tup (pa_cons (pe_call C_law_action.ok (hr.mono (by omega)) (by rfl) C_law_action.m C_law_action.kp C_law_action.b .nil pass0 (pa_cons (pv 0) (pa_cons (pv 1) (pa_cons (pv 3) pa_nil)))) pa_nil))) pa_nil)))))
      (pss_one (ps_if (pt_cmpR op_le (pe_call C_law_rule_size.ok (hr.mono (by omega)) (by rfl) C_law_rule_size.m C_law_rule_size.kp C_law_rule_size.b .nil pass0 (pa_cons (pv 6) pa_nil)) pe_int (nomark _))
        (pss_one (ps_set (i := 4) sc.nd rfl (Or.inl rfl) (pv 6)))
        pss_nil))))
    (pss_one (ps_ret (pv 4)))))))), ?_⟩

  refine ⟨_, rfl, t, 2, rfl, hT, by decide, by decide, fun r H1 _ _ g1 => ⟨rfl, ?_⟩⟩
  obtain ⟨b, hb⟩ : ∃ b, b = decide (V.int r = V.int 0) := ⟨_, rfl⟩
  rw [← hb]
  have hw1 := hw.go hT g1.sm
  obtain ⟨Ok, hOk⟩ : ∃ Ok : Ac → Prop, Ok = fun ac => AcV us w' b ac ∧ ∀ z, ac = .rej z → SgT z := ⟨_, rfl⟩
  have actd : ∀ {cs : List Ac}, ∀ dd ∈ cs.map acD, ActD dd := fun {cs} dd hdd => by obtain ⟨x, _, rfl⟩ := List.mem_map.mp hdd; exact acD_act x
  refine ⟨_, rfl, _, rfl, _, rfl, t, v, b, w', us, rfl, g1.tp, hw1, wo, fun u ac H2 g2 hu hac hsr => ⟨(by show 1 ≤ sizeLine; decide), fun o1 ho1 => ⟨(by show 3 ≤ sizeLine; decide), fun R hR => ?_⟩⟩⟩
  have g3 := (Go.refl g2.tp).new (o := .tup [u]) ho1
  have g4 := (Go.refl g3.tp).new (o := .tup [.non, .non, .ref o1]) hR
  have t1 : TT (upd (upd H2 o1 (.tup [u])) R (.tup [.non, .non, .ref o1])) (.ref o1) (.tup ([ac].map acD)) := TT.go (.tup upd_same (.cons (hu.go g2.tp g3.sm) .nil)) g3.tp g4.sm
  have tR : TT (upd (upd H2 o1 (.tup [u])) R (.tup [.non, .non, .ref o1])) (.ref R) (ruD none none ([ac].map acD)) := .tup upd_same (.cons .non (.cons .non (.cons t1 .nil)))
  have g4 := g1.trans (g2.trans (g3.trans g4))
  have ok1 : ∀ x ∈ [ac], Ok x := fun x hx => by rw [List.mem_singleton.mp hx, hOk]; exact ⟨hac, hsr⟩
  generalize upd (upd H2 o1 (.tup [u])) R (.tup [.non, .non, .ref o1]) = H4 at *
  obtain ⟨col, hcol⟩ : ∃ col, col = (if b = true then some w'.col else none) := ⟨_, rfl⟩
  -- the collection
  refine ⟨fun σ H' => Go t H H' ∧ ∃ (R : V), TT H' R (ruD col none ([ac].map acD)) ∧ σ = [some (.ref t), some v, some (.int n), some (.bl b), some R, none, none], ?_, ?_⟩
  · cases b with
    | false =>
      have e : col = none := hcol
      rw [e]
      exact ⟨_, rfl, _, rfl, iteF ⟨g4, _, tR, rfl⟩⟩
    | true =>
      have e : col = some w'.col := hcol
      rw [e]
      obtain ⟨Ra, rxs, e1, hRa, hrx⟩ := tR.tup_inv
      cases e1
      obtain ⟨x1, x2, x3, rfl, hx1, hx2, hx3⟩ := hrx.three
      obtain ⟨wa, kl, cc, pl, il, xs2, ys2, rfl, h1, h2, h3, h4, h5, h6, h7, n1, n2, n4⟩ := (hw.go hT g4.sm).ex
      refine ⟨_, rfl, _, rfl, iteT ⟨_, rfl, wa, _, 1, _, rfl, rfl, SqT.of h1, rfl, (by show 1 ≤ sizeLine; decide), fun o5 ho5 => ?_⟩⟩
      have s5 := same_new ho5 (.tup [.ref cc])
      have eo5 : (upd H4 o5 (.tup [.ref cc])) o5 = some (.tup [.ref cc]) := upd_same
      have hRa := s5 _ _ hRa
      have h3 := s5 _ _ h3
      have hx2 := hx2.same s5
      have hx3 := hx3.same s5
      have g5 := g4.trans (Go.same g4.tp s5)
      generalize upd H4 o5 (.tup [.ref cc]) = H5 at *
      refine ⟨_, rfl, _, rfl, R, _, rfl, SqT.of hRa, (fun z => absurd z.1 (by rw [sIx_pos (by decide)]; show ¬ min 1 3 = 0; decide)), fun _ o6 ho6 => ?_⟩
      rw [cutV_suf (by decide), show (1 : Int).toNat = 1 from rfl]
      have s6 := same_new ho6 (.tup ([x1, x2, x3].drop 1))
      refine catA_tt (s6 _ _ eo5) upd_same (by show 1 + 2 ≤ sizeLine; decide) fun o7 H7 s7 ho7 => ?_
      have s67 := s6.trans s7
      exact ⟨g5.trans (Go.same g5.tp s67), _, .tup ho7 (.cons (TT.of_path (s67 _ _ h3)) (.cons (hx2.same s67) (.cons (hx3.same s67) .nil))), rfl⟩
  rintro σ H5 ⟨g5, R1, tR1, rfl⟩
  -- the condition
  refine ⟨fun σ H' => Go t H H' ∧ ∃ (R : V) (c : Option Cd) (v6 : Option V), TT H' R (ruD col c ([ac].map acD)) ∧ (∀ cc, c = some cc → CdV us b cc ∧ cc.dep ≤ n) ∧ σ = [some (.ref t), some v, some (.int n), some (.bl b), some R, none, v6], ?_, ?_⟩
  · refine ⟨_, rfl, t, 3, rfl, g5.tp, by decide, by decide, fun r5 H6 _ _ g6 => ⟨_, _, rfl, rfl, _, rfl, ite2 (fun _ => ?_) (fun _ => ⟨g5.trans g6, R1, none, _, tR1.go g5.tp g6.sm, (fun _ e => by cases e), rfl⟩)⟩⟩
    have tR6 := tR1.go g5.tp g6.sm
    have g6 := g5.trans g6
    obtain ⟨Ra, rxs, rfl, hRa, hrx⟩ := tR6.tup_inv
    obtain ⟨x1, x2, x3, rfl, hx1, hx2, hx3⟩ := hrx.three
    refine ⟨_, rfl, Ra, _, 0, _, rfl, rfl, SqT.of hRa, rfl, _, rfl, _, rfl, _, rfl, _, rfl, t, v, b, n, w', us, rfl, g6.tp, hw.go hT g6.sm, wo, by omega, fun u c H7 g7 hu cw cd => ?_⟩
    have hRa7 := tup_go g6.tp g7.sm hRa
    refine ⟨_, rfl, Ra, _, 2, _, rfl, rfl, SqT.of hRa7, rfl, (by show 3 ≤ sizeLine; decide), fun o8 ho8 => ?_⟩
    have s8 := same_new ho8 (.tup [x1, u, x3])
    have tL : TT (upd H7 o8 (.tup [x1, u, x3])) (.ref o8) (ruD col (some c) ([ac].map acD)) := .tup upd_same (.cons ((hx1.go g6.tp g7.sm).same s8) (.cons (hu.same s8) (.cons ((hx3.go g6.tp g7.sm).same s8) .nil)))
    have tR8 := (tR6.go g6.tp g7.sm).same s8
    have g8 := (g6.trans g7).trans (Go.same g7.tp s8)
    generalize upd H7 o8 (.tup [x1, u, x3]) = H8 at *
    refine ⟨_, rfl, .ref o8, col, some c, [ac].map acD, rfl, tL.to, by show c.dep ≤ 40; omega, by show 1 ≤ 1000; decide, actd, fun m2 H9 s9 => ?_⟩
    have g9 := g8.trans (Go.same g8.tp s9)
    refine ⟨_, _, rfl, rfl, _, rfl, ite2 (fun _ => ?_) (fun _ => ⟨g9, _, none, _, tR8.same s9, (fun _ e => by cases e), rfl⟩)⟩
    exact ⟨_, rfl, g9, .ref o8, some c, _, tL.same s9, (fun c' e => by cases e; exact ⟨⟨cw.pl, by omega, cw.lit⟩, cd⟩), rfl⟩
  rintro σ H6 ⟨g6, R2, c, v6, tR2, okc, rfl⟩
  -- more actions
  refine ⟨_, rfl, (by show 5 ≤ sizeLine; decide), fun o9 ho9 => ?_⟩
  have g7 := (Go.refl g6.tp).new (o := .lst [.int 0, .int 0, .int 1, .int 2, .int 4]) ho9
  refine ⟨t, _, rfl, g7.tp, .inr ⟨o9, _, rfl, g6.tp.ne ho9, .inl (SqL.of upd_same), (by show 1 ≤ 5; decide), (by show 5 ≤ 1000000; decide), fun x H8 hx g8 => ?_⟩⟩
  obtain ⟨m, hm, rfl⟩ := pickN [0, 0, 1, 2, 4] hx (b := 4) (by decide)
  have g68 := g7.trans g8
  have tR8 := tR2.go g6.tp g68.sm
  have g8 := g6.trans g68
  refine ⟨m, rfl, by omega, by omega, ?_⟩
  refine for_it (walk_range (lo := 0) (n := ((m : Nat) : Int).toNat)) (fun j σ H' => Go t H H' ∧ ∃ (R : V) (cs : List Ac) (v5 v6 : Option V), TT H' R (ruD col c (cs.map acD)) ∧ (∀ x ∈ cs, Ok x) ∧ cs.length ≤ 1 + j ∧ σ = [some (.ref t), some v, some (.int n), some (.bl b), some R, v5, v6])
    ⟨g8, R2, [ac], _, _, tR8, ok1, Nat.le_refl _, rfl⟩ (fun _ _ _ _ _ => trivial) ?_ ?_
  · rintro j y σ H9' H9 hj ⟨g9, R, cs, v5, v6, tR, okc2, lc, rfl⟩ ⟨rfl, rfl⟩
    obtain ⟨Ra, rxs, rfl, hRa, hrx⟩ := tR.tup_inv
    obtain ⟨x1, x2, x3, rfl, hx1, hx2, hx3⟩ := hrx.three
    obtain ⟨ca, cxs, rfl, hca, hcx⟩ := hx3.tup_inv
    have lcx : cxs.length = cs.length := by have := hcx.length; rw [List.length_map] at this; exact this
    have lj : j < 4 := by omega
    refine ⟨_, rfl, Ra, _, 0, _, rfl, rfl, SqT.of hRa, rfl, _, rfl, Ra, _, 1, _, rfl, rfl, SqT.of hRa, rfl, _, rfl, Ra, _, 2, _, rfl, rfl, SqT.of hRa, rfl, _, rfl, _, rfl, _, rfl, t, v, b, w', us, rfl, g9.tp, hw.go hT g9.sm, wo, fun u ac2 H10 g10 hu hac2 hsr2 => ⟨(by show 1 ≤ sizeLine; decide), fun o5 ho5 => ?_⟩⟩
    have g11 := (Go.refl g10.tp).new (o := .tup [u]) ho5
    have g911 := g10.trans g11
    refine catA_tt (tup_go g9.tp g911.sm hca) upd_same (le_line (by show _ + 1 ≤ _; omega)) fun o6 H12 s12 h6' => ⟨(by show 3 ≤ sizeLine; decide), fun o7 ho7 => ?_⟩
    have g912 := g911.trans (Go.same g911.tp s12)
    have t6 : TT H12 (.ref o6) (.tup ((cs ++ [ac2]).map acD)) := .tup h6' (by rw [List.map_append]; exact TTs.append (hcx.go g9.tp g912.sm) (.cons ((hu.go g10.tp g11.sm).same s12) .nil))
    have s13 := same_new ho7 (.tup [x1, x2, .ref o6])
    have g913 := g912.trans (Go.same g912.tp s13)
    have tL : TT (upd H12 o7 (.tup [x1, x2, .ref o6])) (.ref o7) (ruD col c ((cs ++ [ac2]).map acD)) := .tup upd_same (.cons (hx1.go g9.tp g913.sm) (.cons (hx2.go g9.tp g913.sm) (.cons (t6.same s13) .nil)))
    have tR13 : TT (upd H12 o7 (.tup [x1, x2, .ref o6])) (.ref Ra) (ruD col c (cs.map acD)) := (TT.tup hRa (.cons hx1 (.cons hx2 (.cons (TT.tup hca hcx) .nil)))).go g9.tp g913.sm
    have g13 := g9.trans g913
    generalize upd H12 o7 (.tup [x1, x2, .ref o6]) = H13 at *
    have dcc : Cd.depO c ≤ 40 := by
      cases c with
      | none => decide
      | some cc => have := (okc cc rfl).2; show cc.dep ≤ 40; omega
    refine ⟨_, rfl, .ref o7, col, c, (cs ++ [ac2]).map acD, rfl, tL.to, dcc, by rw [List.length_map, List.length_append]; show _ + 1 ≤ _; omega, actd, fun m2 H14 s14 => ?_⟩
    have g14 := g13.trans (Go.same g13.tp s14)
    refine ⟨_, _, rfl, rfl, _, rfl, ite2 (fun _ => ?_) (fun _ => ⟨g14, .ref Ra, cs, _, _, tR13.same s14, okc2, by omega, rfl⟩)⟩
    refine ⟨_, rfl, g14, .ref o7, cs ++ [ac2], _, _, tL.same s14, fun x hx => ?_, by rw [List.length_append]; show _ + 1 ≤ _; omega, rfl⟩
    rcases List.mem_append.mp hx with h | h
    · exact okc2 x h
    · rw [List.mem_singleton.mp h, hOk]; exact ⟨hac2, hsr2⟩
  rintro σ H9 ⟨g9, R, cs, v5, v6, tR, okc2, lc, rfl⟩
  have lc : cs.length ≤ 5 := by omega
  rw [hOk] at okc2
  refine ⟨_, rfl, q R ⟨col, c, cs⟩ H9 g9 tR ⟨b, hcol, fun cc e => (okc cc e).1, fun x hx => (okc2 x hx).1, by show cs.length ≤ 15; omega⟩ (fun cc e => (okc cc e).2) (fun z hz => ?_) lc⟩
  obtain ⟨x, hx, e⟩ := List.mem_filterMap.mp (show z ∈ cs.filterMap _ from hz)
  cases x with
  | rej r => cases e; exact (okc2 _ hx).2 _ rfl
  | set p c => cases e
  | dflt p c => cases e
  | copy p c => cases e
  | rem p => cases e
/-! ### _law_at -/
theorem sc_law_at : FnScope ["place", "spot"] ["place", "spot"] (defScope s_law_at) := ⟨rfl, rfl, rfl, by decide +kernel, rfl, by decide +kernel, by decide +kernel⟩

def sp_law_at (K : PySem.W.Frag) : Sp := fun vs H Q _ => ∃ (v : V) (b : Addr) (p : Pl) (s : List Str), vs = [v, .ref b] ∧ TT H v (plD p) ∧ H b = some (.tup (s.map V.str)) ∧ s.length + (plP p).length ≤ 1000 ∧ ∀ a H', Same H H' → H' a = some (.tup ((plAt s p).map V.str)) → Q (.ref a) H'

theorem ok_law_at {f : Addr} {fd : FuncData} (F : Fun K "_law_at" "_law_at" s_law_at f fd) (T : Top K w mg) : FnOk P w K mg base CX0 1 f fd ["place", "spot"] (sp_law_at K) := by
  have sc := sc_law_at
  refine F.ok sc (fun vs H Q E h => ?_) (fun cdv A outer s H vs Q E hr h => ?_)
  · obtain ⟨v, b, p, s, rfl, _⟩ := h
    rfl
  obtain ⟨v, b, p, s, rfl, hv, hb, lp, q⟩ := h
  refine ⟨_, (pss_cons (ps_if (pt_cmpR op_eq (pe_ix (kx_tup (K := K) rfl) (pv 0) pe_int (fun _ _ => rfl)) pe_str (nomark _))
      (pss_one (ps_ret (pe_op (kop_catT (K := K) rfl) (pv 1) (pe_ix (kx_tup (K := K) rfl) (pv 0) pe_int (fun _ _ => rfl)))))
      pss_nil)
    (pss_one (ps_ret (pe_ix (kx_tup (K := K) rfl) (pv 0) pe_int (fun _ _ => rfl))))), ?_⟩

  rw [pl_eq] at hv
  obtain ⟨a, xs, rfl, hS, hts⟩ := hv.tup_inv
  obtain ⟨x1, x2, rfl, h1, h2⟩ := hts.two
  cases h1
  obtain ⟨c, rfl, hc⟩ := h2.path
  refine ⟨_, rfl, a, _, 0, _, rfl, rfl, SqT.of hS, rfl, rfl, _, rfl, ?_⟩
  cases p with
  | path p => exact iteF ⟨_, rfl, a, _, 1, _, rfl, rfl, SqT.of hS, rfl, q c H (Same.refl H) hc⟩
  | ent p =>
    refine iteT ⟨_, rfl, _, rfl, a, _, 1, _, rfl, rfl, SqT.of hS, rfl, catA_tt hb hc (le_line (by rw [List.length_map, List.length_map]; show _ + p.length ≤ _; have : s.length + p.length ≤ 1000 := lp; omega)) fun r H' s' hr => q r H' s' ?_⟩
    rw [← List.map_append] at hr
    exact hr
/-! ### _law_spots -/
theorem sc_law_spots : FnScope ["flat", "collection", "key"] ["flat", "collection"] (defScope s_law_spots) := ⟨rfl, rfl, rfl, by decide +kernel, rfl, by decide +kernel, by decide +kernel⟩

def spotsF (fl : Fl) (col : List Str) : List (List Str) := (below fl col).map fun k => col ++ [k]
def spotsO (fl : Fl) : Option (List Str) → List (List Str)
  | none => [[]]
  | some col => spotsF fl col
def sp_law_spots (K : PySem.W.Frag) : Sp := fun vs H Q _ => ∃ (d : Addr) (v : V) (ws : List Str) (fl : Fl) (col : Option (List Str)), vs = [.ref d, v] ∧ FlatAt K H d fl ∧ Wf ws fl ∧ (∀ z ∈ ws, z.length ≤ 1000) ∧ fl.length ≤ 50000 ∧ TT H v (ptO col) ∧ (∀ p, col = some p → p.length ≤ 50) ∧ ∀ r xs H', Same H H' → H r = none → H' r = some (.lst xs) → Al2 (PthV H') xs (spotsO fl col) → Q (.ref r) H'

theorem ok_law_spots {f : Addr} {fd : FuncData} (F : Fun K "_law_spots" "_law_spots" s_law_spots f fd) (T : Top K w mg) {a_law_below : Addr} {d_law_below : FuncData} (C_law_below : Cal P w K mg base "_law_below" 1 ["flat", "path"] sp_law_below a_law_below d_law_below) : FnOk P w K mg base CX0 2 f fd ["flat", "collection"] (sp_law_spots K) := by
  have sc := sc_law_spots
  refine F.ok sc (fun vs H Q E h => ?_) (fun cdv A outer s H vs Q E hr h => ?_)
  · obtain ⟨d, v, ws, fl, col, rfl, _⟩ := h
    rfl
  obtain ⟨d, v, ws, fl, col, rfl, hF, wf, hw, lf, hv, lc, q⟩ := h
  refine ⟨_, (pss_cons (ps_if (pt_cmpR op_isN (pv 1) pe_non (nomark _))
      (pss_one (ps_ret (pe_lst (pa_cons (pe_tup pa_nil) pa_nil))))
      pss_nil)
    (pss_one (ps_ret (pe_lc (own := [("key", 2)]) (g := gName 2) (tt := tYes) rfl sc.nd (kpi_list (K := K) rfl (pe_call C_law_below.ok (hr.mono (by omega)) (by rfl) C_law_below.m C_law_below.kp C_law_below.b .nil pass0 (pa_cons (pv 0) (pa_cons (pv 1) pa_nil)))) (blkOk_by (N := ["flat", "collection", "key"]) (sc := defScope s_law_spots) (by decide +kernel)) (fun _ _ _ _ _ => pg_name (i := 2) sc.nd rfl (Or.inl rfl)) (fun _ _ _ _ _ => pts_nil) (fun _ _ _ _ _ => (pe_op (kop_catT (K := K) rfl) (pv 1) (pe_tup (pa_cons (pv 2) pa_nil)))))))), ?_⟩

  cases col with
  | none =>
    cases hv
    refine ⟨_, rfl, rfl, _, rfl, iteT ⟨(by show 0 ≤ sizeLine; decide), fun o ho => ⟨(by show 1 ≤ sizeLine; decide), fun r hr => ?_⟩⟩⟩
    refine q r [.ref o] _ ((same_new ho _).trans (same_new hr _)) ?_ upd_same (.cons ⟨o, rfl, (same_new hr _) _ _ upd_same⟩ .nil)
    cases e : H r with
    | none => rfl
    | some u => rw [(same_new ho (.tup [])) _ _ e] at hr; cases hr
  | some col =>
  obtain ⟨a, rfl, ha⟩ := hv.path
  have lc := lc col rfl
  refine ⟨_, rfl, rfl, _, rfl, iteF ?_⟩
  refine ⟨_, rfl, _, rfl, d, a, fl, col, rfl, hF, lf, (fun x hx => ?_), SqT.of ha, by omega, fun r H1 s1 hr e1 => ?_⟩
  · have := wf.pa x.1 x.2 (getF_nd wf.nd hx)
    exact ⟨by omega, fun k hk => hw k (this.2.2.1 k hk)⟩
  have lb := below_len fl col
  refine ⟨r, rfl, ⟨_, SqL.of e1⟩, fun D hD => ?_⟩
  have hD0 : H D = none := by
    cases e : H D with
    | none => rfl
    | some o => rw [s1 _ _ e] at hD; cases hD
  refine lc_acc (walk_list (K := K) (a := r) (xs := (below fl col).map V.str)) (fun i acc H' => Same H1 H' ∧ Al2 (PthV H') acc (((below fl col).take i).map fun k => col ++ [k])) ⟨same_new hD _, .nil⟩ (fun i acc H' _ _ h => SqL.of (h.1 _ _ e1)) ?_ ?_
  · rintro i acc x H2 H3 hi eD el ⟨s2, al⟩ ⟨rfl, hx⟩
    rw [List.getElem?_map] at hx
    obtain ⟨k, hk, rfl⟩ := Option.map_eq_some_iff.mp hx
    obtain ⟨hi2, ek⟩ := List.getElem?_eq_some_iff.mp hk
    refine ⟨rfl, ?_⟩
    refine ⟨_, rfl, _, rfl, (by show 1 ≤ sizeLine; decide), fun o ho => ?_⟩
    have s3 := same_new ho (.tup [.str k])
    refine catA_tt (s3 _ _ (s2 _ _ (s1 _ _ ha))) upd_same (le_line (by rw [List.length_map]; show _ + 1 ≤ _; omega)) fun b H4 s4 hb => ?_
    have s34 := s3.trans s4
    have eD4 := s34 _ _ eD
    refine acc_step eD4 el (by omega) ⟨(s2.trans s34).late hD, ?_⟩
    rw [List.take_succ_eq_append_getElem hi2, ek, List.map_append]
    refine Al2.app (al.mono fun _ _ h => h.mono fun _ _ e => tup_lput eD4 (s34 _ _ e)) (.cons ⟨b, rfl, tup_lput eD4 (by rw [List.map_append]; exact hb)⟩ .nil)
  · rintro acc H2 eD el ⟨s2, al⟩
    rw [List.length_map, List.take_length] at al
    exact q D acc H2 (s1.trans s2) hD0 eD al
/-! ### _law_near_flat -/
theorem sc_law_near_flat : FnScope ["tape", "world", "many", "flat", "paths", "spots", "k", "path", "choice", "content", "key", "made"] ["tape", "world", "many"] (defScope s_law_near_flat) := ⟨rfl, rfl, rfl, by decide +kernel, rfl, by decide +kernel, by decide +kernel⟩

def sp_law_near_flat (K : PySem.W.Frag) : Sp := fun vs H Q _ => ∃ (t : Addr) (v : V) (m : Nat) (w : Wd) (us : List Str), vs = [.ref t, v, .int m] ∧ Tape H t ∧ WdAt H t v w ∧ WdOk us w ∧ (∀ z ∈ us, KeyT z) ∧ (∀ z ∈ extraL, z ∈ us) ∧ m ≤ 100 ∧ ∀ d fl H', Go t H H' → FlatAt K H' d fl → Wf us fl → fl.length ≤ 40 → Q (.ref d) H'

theorem ok_law_near_flat {f : Addr} {fd : FuncData} (F : Fun K "_law_near_flat" "_law_near_flat" s_law_near_flat f fd) (T : Top K w mg) {a_law_draw : Addr} {d_law_draw : FuncData} (C_law_draw : Cal P w K mg base "_law_draw" 1 ["tape", "many"] sp_law_draw a_law_draw d_law_draw) {a_law_pick : Addr} {d_law_pick : FuncData} (C_law_pick : Cal P w K mg base "_law_pick" 2 ["tape", "row"] sp_law_pick a_law_pick d_law_pick) {a_law_path : Addr} {d_law_path : FuncData} (C_law_path : Cal P w K mg base "_law_path" 3 ["tape", "keys", "most"] sp_law_path a_law_path d_law_path) {a_law_scalar : Addr} {d_law_scalar : FuncData} (C_law_scalar : Cal P w K mg base "_law_scalar" 4 ["tape"] sp_law_scalar a_law_scalar d_law_scalar) {a_law_put : Addr} {d_law_put : FuncData} (C_law_put : Cal P w K mg base "_law_put" 2 ["flat", "path", "content"] sp_law_put a_law_put d_law_put) {a_law_literal : Addr} {d_law_literal : FuncData} (C_law_literal : Cal P w K mg base "_law_literal" 4 ["tape"] sp_law_literal a_law_literal d_law_literal) : FnOk P w K mg base CX0 5 f fd ["tape", "world", "many"] (sp_law_near_flat K) := by
  have sc := sc_law_near_flat
  refine F.ok sc (fun vs H Q E h => ?_) (fun cdv A outer s H vs Q E hr h => ?_)
  · obtain ⟨t, v, m, w', us, rfl, _⟩ := h
    rfl
  obtain ⟨t, v, m, w', us, rfl, hT, hw, wo, hkey, hext, hm, q⟩ := h
  refine ⟨_, (pss_cons (ps_set (i := 3) sc.nd rfl (Or.inl rfl) pe_dnewT)
    (pss_cons (ps_set (i := 4) sc.nd rfl (Or.inl rfl) (pe_callTy (kc_list (K := K) rfl) (by rfl) T.z_list (by decide +kernel) (pa_cons (pe_ix (kx_tup (K := K) rfl) (pv 1) pe_int (fun _ _ => rfl)) pa_nil)))
    (pss_cons (ps_setLc (i := 5) (own := [("key", 10)]) (g := gName 10) (tt := tYes) rfl sc.nd rfl rfl (sw_true rfl rfl rfl (by decide +kernel)) (kpi_list (K := K) rfl (pe_op op_cat (pe_ix (kx_tup (K := K) rfl) (pv 1) pe_int (fun _ _ => rfl)) (pe_lst (pa_cons pe_str (pa_cons pe_str pa_nil))))) (blkOk_by (N := ["tape", "world", "many", "flat", "paths", "spots", "k", "path", "choice", "content", "key", "made"]) (sc := defScope s_law_near_flat) (by decide +kernel)) (fun _ _ _ _ _ => pg_name (i := 10) sc.nd rfl (Or.inl rfl)) (fun _ _ _ _ _ => pts_nil) (fun _ _ _ _ _ => (pe_op (kop_catT (K := K) rfl) (pe_ix (kx_tup (K := K) rfl) (pv 1) pe_int (fun _ _ => rfl)) (pe_tup (pa_cons (pv 10) pa_nil)))))
    (pss_cons (ps_for PassesOwn.never rfl (pi_range1 (by rfl) T.z_range (pa_cons (pv 2) pa_nil)) (pg_name (i := 6) sc.nd rfl (Or.inl rfl))
      (pss_cons (ps_set (i := 7) sc.nd rfl (Or.inl rfl) (pe_call C_law_pick.ok (hr.mono (by omega)) (by rfl) C_law_pick.m C_law_pick.kp C_law_pick.b .nil pass0 (pa_cons (pv 0) (pa_cons (pv 4) pa_nil))))
      (pss_cons (ps_set (i := 8) sc.nd rfl (Or.inl rfl) (pe_call C_law_draw.ok (hr.mono (by omega)) (by rfl) C_law_draw.m C_law_draw.kp C_law_draw.b .nil pass0 (pa_cons (pv 0) (pa_cons pe_int pa_nil))))
      (C8.pss_cut (ps_if (pt_cmpR op_lt (pv 8) pe_int (nomark _))
        (pss_one (ps_set (i := 7) sc.nd rfl (Or.inl rfl) (pe_op (kop_catT (K := K) rfl) (pe_call C_law_pick.ok (hr.mono (by omega)) (by rfl) C_law_pick.m C_law_pick.kp C_law_pick.b .nil pass0 (pa_cons (pv 0) (pa_cons (pv 5) pa_nil))) (pe_call C_law_pick.ok (hr.mono (by omega)) (by rfl) C_law_pick.m C_law_pick.kp C_law_pick.b .nil pass0 (pa_cons (pv 0) (pa_cons (pe_ix (kx_tup (K := K) rfl) (pv 1) pe_int (fun _ _ => rfl)) pa_nil))))))
        pss_nil)
      (C8.pss_cut (ps_if (pt_cmpR op_eq (pv 8) pe_int (nomark _))
        (pss_one (ps_set (i := 7) sc.nd rfl (Or.inl rfl) (pe_call C_law_pick.ok (hr.mono (by omega)) (by rfl) C_law_pick.m C_law_pick.kp C_law_pick.b .nil pass0 (pa_cons (pv 0) (pa_cons (pe_lst (pa_cons (pe_ix (kx_tup (K := K) rfl) (pv 1) pe_int (fun _ _ => rfl)) (pa_cons (pe_call C_law_path.ok (hr.mono (by omega)) (by rfl) C_law_path.m C_law_path.kp C_law_path.b .nil pass0 (pa_cons (pv 0) (pa_cons (pe_ix (kx_tup (K := K) rfl) (pv 1) pe_int (fun _ _ => rfl)) (pa_cons pe_int pa_nil)))) pa_nil))) pa_nil)))))
        pss_nil)
      (pss_cons (ps_set (i := 9) sc.nd rfl (Or.inl rfl) (pe_call C_law_pick.ok (hr.mono (by omega)) (by rfl) C_law_pick.m C_law_pick.kp C_law_pick.b .nil pass0 (pa_cons (pv 0) (pa_cons (pe_lst (pa_cons (pe_call C_law_scalar.ok (hr.mono (by omega)) (by rfl) C_law_scalar.m C_law_scalar.kp C_law_scalar.b .nil pass0 (pa_cons (pv 0) pa_nil)) (pa_cons (pe_call C_law_literal.ok (hr.mono (by omega)) (by rfl) C_law_literal.m C_law_literal.kp C_law_literal.b .nil pass0 (pa_cons (pv 0) pa_nil)) (pa_cons (pe_tup (pa_cons pe_str (pa_cons (pe_op op_sub (pe_call C_law_draw.ok (hr.mono (by omega)) (by rfl) C_law_draw.m C_law_draw.kp C_law_draw.b .nil pass0 (pa_cons (pv 0) (pa_cons pe_int pa_nil))) pe_int) pa_nil))) pa_nil)))) pa_nil))))
      (C8.pss_cut (ps_if (pt_cmpR op_eq (pe_call C_law_draw.ok (hr.mono (by omega)) (by rfl) C_law_draw.m C_law_draw.kp C_law_draw.b .nil pass0 (pa_cons (pv 0) (pa_cons pe_int pa_nil))) pe_int (nomark _))
        (pss_one (ps_set (i := 9) sc.nd rfl (Or.inl rfl) (pe_tup (pa_cons pe_str pa_nil))))
        pss_nil)
      (pss_one (ps_if (PW.pt (pw_or (pt_cmpR (kop_neD (K := K) rfl hr.units) (pv 9) (pe_tup (pa_cons pe_str pa_nil)) (nomark _)) (pw_or (pt_cmp (pc_dnotin (units1 hr.units) (pv 7) (pv 3)) (by rfl)) (pw_or1 (pt_cmpR op_eq (pe_call C_law_draw.ok (hr.mono (by omega)) (by rfl) C_law_draw.m C_law_draw.kp C_law_draw.b .nil pass0 (pa_cons (pv 0) (pa_cons pe_int pa_nil))) pe_int (nomark _))))))
        (pss_cons (ps_set (i := 11) sc.nd rfl (Or.inl rfl) (pe_call C_law_put.ok (hr.mono (by omega)) (by rfl) C_law_put.m C_law_put.kp C_law_put.b .nil pass0 (pa_cons (pv 3) (pa_cons (pe_slice (ksl_tup (K := K) rfl) (pv 7) po_none (po_some pe_int)) (pa_cons (pv 9) pa_nil)))))
        (pss_one (ps_if (pt_cmpR op_le (pe_callB call_len_dT (by rfl) T.z_len (by decide +kernel) (pa_cons (pv 11) pa_nil)) pe_int (nomark _))
          (pss_one (ps_set (i := 3) sc.nd rfl (Or.inl rfl) (pv 11)))
          pss_nil)))
        pss_nil)))))))))
    (pss_one (ps_ret (pv 3))))))), ?_⟩

  have hsg : ∀ z ∈ us, SgT z := fun z hz => (hkey z hz).sg
  have p1 := wo.p1
  have p2 := wo.p2
  have i1 := wo.i1
  have i2 := wo.i2
  have k1 := wo.k1
  have k2 := wo.k2
  intro d0 hd0
  have g0 : Go t H (upd H d0 (.dT [])) := (Go.refl hT).new hd0
  have hF0 : FlatAt K (upd H d0 (.dT [])) d0 [] := ⟨[], upd_same, .nil⟩
  have hw0 := hw.go hT g0.sm
  generalize upd H d0 (.dT []) = H0 at *
  obtain ⟨a, kl, cc, pl, il, xs, ys, rfl, h1, h2, h3, h4, h5, h6, h7, n1, n2, n3⟩ := hw0.ex
  have lx := h5.len
  -- the paths
  refine ⟨_, rfl, a, _, 2, _, rfl, rfl, SqT.of h1, rfl, pl, xs, rfl, .inl (SqL.of h4), fun PL hPL => ?_⟩
  have nPL := g0.tp.ne hPL
  have g01 := (Go.refl g0.tp).new (o := .lst xs) hPL
  have ePL : (upd H0 PL (.lst xs)) PL = some (.lst xs) := upd_same
  have hw1 := hw0.go g0.tp g01.sm
  have al1 : Al2 (PthV (upd H0 PL (.lst xs))) xs w'.paths := h5.mono fun _ _ h => h.mono fun _ _ e => tup_go g0.tp g01.sm e
  have hF1 := hF0.go g0.tp g01.sm
  have g1 := g0.trans g01
  generalize upd H0 PL (.lst xs) = H1 at *
  clear h1 h2 h3 h4 h5 h6 h7
  obtain ⟨a', kl, cc, pl, il, xs', ys, ea, h1, h2, h3, h4, h5, h6, h7, n1, n2, n3⟩ := hw1.ex
  cases ea
  -- the spots
  refine ⟨_, rfl, a, _, 0, _, rfl, rfl, SqT.of h1, rfl, (by show 2 ≤ sizeLine; decide), fun o ho => ?_⟩
  have g12 := (Go.refl g1.tp).new (o := .lst [.str (Str.ofString "zz"), .str (Str.ofString "b0")]) ho
  have eo : (upd H1 o (.lst [.str (Str.ofString "zz"), .str (Str.ofString "b0")])) o = some (.lst [.str (Str.ofString "zz"), .str (Str.ofString "b0")]) := upd_same
  have h2' := g12.sm _ _ n1 h2
  refine ⟨kl, o, _, _, rfl, rfl, h2', eo, le_line (by rw [List.length_map]; show _ + 2 ≤ _; omega), fun o2 ho2 => ?_⟩
  have g13 := g12.new (o := .lst (w'.keys.map V.str ++ [.str (Str.ofString "zz"), .str (Str.ofString "b0")])) ho2
  have eo2 : (upd (upd H1 o (.lst [.str (Str.ofString "zz"), .str (Str.ofString "b0")])) o2 (.lst (w'.keys.map V.str ++ [.str (Str.ofString "zz"), .str (Str.ofString "b0")]))) o2 = some (.lst ((w'.keys ++ [Str.ofString "zz", Str.ofString "b0"]).map V.str)) := by rw [List.map_append]; exact upd_same
  have ePL := g13.sm _ _ nPL ePL
  have hw3 := hw1.go g1.tp g13.sm
  have hF3 := hF1.go g1.tp g13.sm
  have al3 : Al2 (PthV (upd (upd H1 o (.lst [.str (Str.ofString "zz"), .str (Str.ofString "b0")])) o2 (.lst (w'.keys.map V.str ++ [.str (Str.ofString "zz"), .str (Str.ofString "b0")])))) xs w'.paths := al1.mono fun _ _ h => h.mono fun _ _ e => tup_go g1.tp g13.sm e
  have g3 := g1.trans g13
  generalize upd (upd H1 o (.lst [.str (Str.ofString "zz"), .str (Str.ofString "b0")])) o2 (.lst (w'.keys.map V.str ++ [.str (Str.ofString "zz"), .str (Str.ofString "b0")])) = H3 at *
  clear h1 h2 h3 h4 h5 h6 h7
  obtain ⟨a', kl, cc, pl, il, xs', ys, ea, h1, h2, h3, h4, h5, h6, h7, n1, n2, n3⟩ := hw3.ex
  cases ea
  obtain ⟨ks, hks⟩ : ∃ ks, ks = w'.keys ++ [Str.ofString "zz", Str.ofString "b0"] := ⟨_, rfl⟩
  rw [← hks] at eo2
  have ksu : ∀ z ∈ ks, z ∈ us := fun z hz => by
    rw [hks] at hz
    rcases List.mem_append.mp hz with h | h
    · exact wo.ku z h
    · rcases List.mem_cons.mp h with rfl | h
      · exact hext _ (by decide +kernel)
      · rw [List.mem_singleton.mp h]; exact hext _ (by decide +kernel)
  have lks : ks.length = w'.keys.length + 2 := by rw [hks, List.length_append]; rfl
  refine ⟨o2, rfl, ⟨_, SqL.of eo2⟩, fun D hD => ?_⟩
  have nD := g3.tp.ne hD
  have c2 := wo.c2
  refine lc_acc (walk_list (K := K) (a := o2) (xs := ks.map V.str)) (fun i acc H' => Same H3 H' ∧ Al2 (PthV H') acc ((ks.take i).map fun k => w'.col ++ [k])) ⟨same_new hD _, .nil⟩ (fun i acc H' _ _ h => SqL.of (h.1 _ _ eo2)) ?_ ?_
  · rintro i acc x H4 H5 hi eD el ⟨s4, al⟩ ⟨rfl, hx⟩
    rw [List.getElem?_map] at hx
    obtain ⟨k, hk, rfl⟩ := Option.map_eq_some_iff.mp hx
    obtain ⟨hi2, ek⟩ := List.getElem?_eq_some_iff.mp hk
    refine ⟨rfl, ?_⟩
    refine ⟨_, rfl, a, _, 1, _, rfl, rfl, SqT.of (s4 _ _ h1), rfl, _, rfl, (by show 1 ≤ sizeLine; decide), fun b1 hb1 => ?_⟩
    have s5 := same_new hb1 (.tup [.str k])
    refine catA_tt (s5 _ _ (s4 _ _ h3)) upd_same (le_line (by rw [List.length_map]; show _ + 1 ≤ _; omega)) fun b H6 s6 hb => ?_
    have s56 := s5.trans s6
    have eD6 := s56 _ _ eD
    have ilt : i < ks.length := hi2
    refine acc_step eD6 el (by omega) ⟨(s4.trans s56).late hD, ?_⟩
    rw [List.take_succ_eq_append_getElem hi2, ek, List.map_append]
    refine Al2.app (al.mono fun _ _ h => h.mono fun _ _ e => tup_lput eD6 (s56 _ _ e)) (.cons ⟨b, rfl, tup_lput eD6 (by rw [List.map_append]; exact hb)⟩ .nil)
  rintro sacc H4 eD el ⟨s4, alS⟩
  rw [List.length_map, List.take_length] at alS
  have ePL := s4 _ _ ePL
  have hw4 := hw3.same s4
  have hF4 := hF3.same s4
  have al4 : Al2 (PthV H4) xs w'.paths := al3.mono fun _ _ h => h.mono fun _ _ e => s4 _ _ e
  have g4 := g3.trans (Go.same g3.tp s4)
  have ls := alS.len
  rw [List.length_map] at ls
  refine ⟨_, rfl, m, rfl, by omega, by omega, ?_⟩
  refine for_it (walk_range (lo := 0) (n := (m : Int).toNat)) (fun i σ H' => Go t H4 H' ∧ ∃ d fl, FlatAt K H' d fl ∧ Wf us fl ∧ fl.length ≤ 40 ∧ ∃ v6 v7 v8 v9 v10 v11, σ = [some (.ref t), some (.ref a), some (.int m), some (.ref d), some (.ref PL), some (.ref D), v6, v7, v8, v9, v10, v11])
    ⟨Go.refl g4.tp, d0, [], hF4, Wf.nil us, Nat.zero_le _, _, _, _, _, _, _, rfl⟩ (fun _ _ _ _ _ => trivial) ?_ ?_
  · rintro i x σ H5 H6 hi ⟨g5, d, fl, hF, wf, lf, v6, v7, v8, v9, v10, v11, rfl⟩ ⟨rfl, rfl⟩
    have al4x : ∀ {Hx : Hp}, Go t H4 Hx → Al2 (PthV Hx) xs w'.paths := fun g => al4.mono fun _ _ h => h.mono fun _ _ e => tup_go g4.tp g.sm e
    have alSx : ∀ {Hx : Hp}, Go t H4 Hx → Al2 (PthV Hx) sacc (ks.map fun k => w'.col ++ [k]) := fun g => alS.mono fun _ _ h => h.mono fun _ _ e => tup_go g4.tp g.sm e
    refine ⟨_, rfl, _, rfl, t, _, rfl, g5.tp, .inr ⟨PL, xs, rfl, nPL, .inl (SqL.of (g5.sm _ _ nPL ePL)), by omega, by omega, fun v H7 hv g7 => ?_⟩⟩
    obtain ⟨pp, hpp, b0, rfl, hb0⟩ := (al4x g5).mem hv
    have hb0 := tup_go g5.tp g7.sm hb0
    have hp0 := wo.pu pp hpp
    have hF7 := hF.go g5.tp g7.sm
    have g7 := g5.trans g7
    refine ⟨_, rfl, t, 10, rfl, g7.tp, by decide, by decide, fun ch H8 c0 c1 g8 => ?_⟩
    have hb8 := tup_go g7.tp g8.sm hb0
    have hF8 := hF7.go g7.tp g8.sm
    have g8 := g7.trans g8
    -- the path
    obtain ⟨Inv1, hI1⟩ : ∃ Inv1 : St → Hp → Prop, Inv1 = fun σ H' => Go t H4 H' ∧ FlatAt K H' d fl ∧ ∃ (b : Addr) (p : List Str), H' b = some (.tup (p.map V.str)) ∧ 1 ≤ p.length ∧ p.length ≤ 100 ∧ (∀ z ∈ p, z ∈ us) ∧ σ = [some (.ref t), some (.ref a), some (.int m), some (.ref d), some (.ref PL), some (.ref D), some (.int (0 + (i : Int))), some (.ref b), some (.int ch), v9, v10, v11] := ⟨_, rfl⟩
    refine ⟨Inv1, ?_, ?_⟩
    · refine ⟨_, rfl, _, _, rfl, rfl, _, rfl, ite2 (fun _ => ?_) (fun _ => by subst hI1; exact ⟨g8, hF8, b0, pp, hb8, hp0.1, by omega, hp0.2.2, rfl⟩)⟩
      refine ⟨_, rfl, _, rfl, t, _, rfl, g8.tp, .inr ⟨D, sacc, rfl, nD, .inl (SqL.of (g8.sm _ _ nD eD)), by omega, by omega, fun v H9 hv g9 => ?_⟩⟩
      obtain ⟨sp, hsp, b1, rfl, hb1⟩ := (alSx g8).mem hv
      have hb1 := tup_go g8.tp g9.sm hb1
      have hF9 := hF8.go g8.tp g9.sm
      have g9 := g8.trans g9
      obtain ⟨a', kl, cc, pl, il, xs', ys, ea, h1, h2, h3, h4, h5, h6, h7, n1, n2, n3⟩ := (hw4.go g4.tp g9.sm).ex
      cases ea
      have ly := h7.len
      refine ⟨_, rfl, _, rfl, a, _, 3, _, rfl, rfl, SqT.of h1, rfl, t, _, rfl, g9.tp, .inr ⟨il, ys, rfl, n3, .inl (SqL.of h6), by omega, by omega, fun v H10 hv g10 => ?_⟩⟩
      obtain ⟨ip, hip, b2, rfl, hb2⟩ := h7.mem hv
      have hb2 := tup_go g9.tp g10.sm hb2
      have hb1 := tup_go g9.tp g10.sm hb1
      have hF10 := hF9.go g9.tp g10.sm
      have g10 := g9.trans g10
      obtain ⟨k0, hk0, rfl⟩ := List.mem_map.mp hsp
      have hcu := wo.cu
      have hiu := wo.iu ip hip
      have lsp : (w'.col ++ [k0]).length = w'.col.length + 1 := by rw [List.length_append]; rfl
      refine catA_tt hb1 hb2 (le_line (by rw [List.length_map, List.length_map]; omega)) fun b3 H11 s11 hb3 => ?_
      subst hI1
      refine ⟨g10.trans (Go.same g10.tp s11), hF10.same s11, b3, w'.col ++ [k0] ++ ip, by rw [List.map_append]; exact hb3, by rw [List.length_append]; omega, by rw [List.length_append]; omega, fun z hz => ?_, rfl⟩
      rcases List.mem_append.mp hz with h | h
      · rcases List.mem_append.mp h with h | h
        · exact hcu z h
        · rw [List.mem_singleton.mp h]; exact ksu k0 hk0
      · exact hiu.2 z h
    intro σ H9 hσ
    rw [hI1] at hσ
    obtain ⟨g9, hF9, b1, q1, hb1, q11, q12, q13, rfl⟩ := hσ
    refine ⟨Inv1, ?_, ?_⟩
    · refine ⟨_, rfl, rfl, _, rfl, ite2 (fun _ => ?_) (fun _ => by subst hI1; exact ⟨g9, hF9, b1, q1, hb1, q11, q12, q13, rfl⟩)⟩
      obtain ⟨a', kl, cc, pl, il, xs', ys, ea, h1, h2, h3, h4, h5, h6, h7, n1, n2, n3⟩ := (hw4.go g4.tp g9.sm).ex
      cases ea
      refine ⟨_, rfl, _, rfl, a, _, 1, _, rfl, rfl, SqT.of h1, rfl, _, rfl, _, rfl, a, _, 0, _, rfl, rfl, SqT.of h1, rfl, ?_⟩
      refine ⟨t, kl, w'.keys, 3, rfl, g9.tp, n1, SqL.of h2, by omega, by omega, by decide, by decide, fun b2 q2 H10 g10 hb2 q21 q22 q23 => ?_⟩
      have hc10 := tup_go g9.tp g10.sm h3
      refine ⟨(by show 2 ≤ sizeLine; decide), fun o5 ho5 => ?_⟩
      have g911 := g10.new (o := .lst [.ref cc, .ref b2]) ho5
      have n5 := g10.tp.ne ho5
      have hc11 := (same_new ho5 (.lst [.ref cc, .ref b2])) _ _ hc10
      have hb11 := (same_new ho5 (.lst [.ref cc, .ref b2])) _ _ hb2
      have e5 : (upd H10 o5 (.lst [.ref cc, .ref b2])) o5 = some (.lst [.ref cc, .ref b2]) := upd_same
      generalize upd H10 o5 (.lst [.ref cc, .ref b2]) = H11 at *
      refine ⟨t, _, rfl, g911.tp, .inr ⟨o5, _, rfl, n5, .inl (SqL.of e5), (by show 1 ≤ 2; decide), (by show 2 ≤ 1000000; decide), fun v H12 hv g12 => ?_⟩⟩
      have hF12 := hF9.go g9.tp (g911.trans g12).sm
      have hc12 := tup_go g911.tp g12.sm hc11
      have hb12 := tup_go g911.tp g12.sm hb11
      have g12 := g9.trans (g911.trans g12)
      have c1' := wo.c1
      simp only [List.mem_cons, List.not_mem_nil, or_false] at hv
      subst hI1
      rcases hv with rfl | rfl
      · exact ⟨g12, hF12, cc, w'.col, hc12, c1', by omega, wo.cu, rfl⟩
      · exact ⟨g12, hF12, b2, q2, hb12, q21, by omega, fun z hz => wo.ku z (q23 z hz), rfl⟩
    intro σ H10 hσ
    rw [hI1] at hσ
    obtain ⟨g10, hF10, b2, q2, hb2, q21, q22, q23, rfl⟩ := hσ
    clear hI1 Inv1
    -- the content
    refine ⟨_, rfl, _, rfl, t, rfl, g10.tp, fun x1 e1 H11 g11 dx1 ok1 nc1 => ?_⟩
    refine ⟨_, rfl, t, rfl, g11.tp, fun x2 e2 H12 g12 dx2 ok2 => ?_⟩
    have dx1 := dx1.go g11.tp g12.sm
    have g12 := g11.trans g12
    refine ⟨_, rfl, t, 12, rfl, g12.tp, by decide, by decide, fun r3 H13 r30 r31 g13 => ⟨_, _, rfl, rfl, (by show 2 ≤ sizeLine; decide), fun o1 ho1 => ?_⟩⟩
    have dx1 := dx1.go g12.tp g13.sm
    have dx2 := (dx2.go g12.tp g13.sm).to (K := K)
    have g13 := g12.trans g13
    have s14 := same_new ho1 (.tup [.str (Str.ofString "number"), .int (r3 - 4)])
    have dx3 : DT K (upd H13 o1 (.tup [.str (Str.ofString "number"), .int (r3 - 4)])) (.ref o1) (.tup (scD (.num (r3 - 4)))) := .tup (SqT.of upd_same) (.cons (.str _) (.cons (.int _) .nil))
    have dx1 := dx1.same s14
    have dx2 := dx2.same s14
    have g14 := g13.trans (Go.same g13.tp s14)
    refine ⟨(by show 3 ≤ sizeLine; decide), fun o2 ho2 => ?_⟩
    have s15 := same_new ho2 (.lst [x1, x2, .ref o1])
    have e2l : (upd (upd H13 o1 (.tup [.str (Str.ofString "number"), .int (r3 - 4)])) o2 (.lst [x1, x2, .ref o1])) o2 = some (.lst [x1, x2, .ref o1]) := upd_same
    have dx1 := dx1.same s15
    have dx2 := dx2.same s15
    have dx3 := dx3.same s15
    have no2 := g14.tp.ne ho2
    have g15 := g14.trans (Go.same g14.tp s15)
    generalize upd (upd H13 o1 (.tup [.str (Str.ofString "number"), .int (r3 - 4)])) o2 (.lst [x1, x2, .ref o1]) = H15 at *
    refine ⟨t, _, rfl, g15.tp, .inr ⟨o2, _, rfl, no2, .inl (SqL.of e2l), (by show 1 ≤ 3; decide), (by show 3 ≤ 1000000; decide), fun v H16 hv g16 => ?_⟩⟩
    obtain ⟨e, de, oe⟩ : ∃ e, DT K H16 v (.tup (scD e)) ∧ scOk e := by
      simp only [List.mem_cons, List.not_mem_nil, or_false] at hv
      rcases hv with rfl | rfl | rfl
      · exact ⟨_, dx1.go g15.tp g16.sm, ok1⟩
      · exact ⟨_, dx2.go g15.tp g16.sm, ok2.ok⟩
      · exact ⟨_, dx3.go g15.tp g16.sm, ⟨by omega, by omega⟩⟩
    have hF16 := hF10.go g10.tp (g15.trans g16).sm
    have hb16 := tup_go g10.tp (g15.trans g16).sm hb2
    have g16 := g10.trans (g15.trans g16)
    refine ⟨fun σ H' => Go t H4 H' ∧ FlatAt K H' d fl ∧ H' b2 = some (.tup (q2.map V.str)) ∧ ∃ x e, DT K H' x (.tup (scD e)) ∧ scOk e ∧ σ = [some (.ref t), some (.ref a), some (.int m), some (.ref d), some (.ref PL), some (.ref D), some (.int (0 + (i : Int))), some (.ref b2), some (.int ch), some x, v10, v11], ?_, ?_⟩
    · refine ⟨_, rfl, t, 5, rfl, g16.tp, by decide, by decide, fun r4 H17 _ _ g17 => ⟨rfl, _, rfl, ite2 (fun _ => ?_) (fun _ => ?_)⟩⟩
      · refine ⟨(by show 1 ≤ sizeLine; decide), fun o3 ho3 => ?_⟩
        have gg := g17.new (o := .tup [.str (Str.ofString "record")]) ho3
        exact ⟨g16.trans gg, hF16.go g16.tp gg.sm, tup_go g16.tp gg.sm hb16, _, .recd, .tup (SqT.of upd_same) (.cons (.str _) .nil), trivial, rfl⟩
      · exact ⟨g16.trans g17, hF16.go g16.tp g17.sm, tup_go g16.tp g17.sm hb16, _, e, de.go g16.tp g17.sm, oe, rfl⟩
    rintro σ H17 ⟨g17, hF17, hb17, x, e, de, oe, rfl⟩
    refine ⟨_, rfl, (by show 1 ≤ sizeLine; decide), fun o4 ho4 => ?_⟩
    have s18 := same_new ho4 (.tup [V.str (Str.ofString "record")])
    have drec : DT K (upd H17 o4 (.tup [V.str (Str.ofString "record")])) (.ref o4) (.tup (scD .recd)) := .tup (SqT.of upd_same) (.cons (.str _) .nil)
    refine ⟨_, _, DT.dp _ _ (de.same s18), DT.dp _ _ drec, shaped_dt (lay_sc oe) (by have := deep_scD e; omega), by decide +kernel, _, rfl, ?_⟩
    have gx : Go t H17 (upd H17 o4 (.tup [V.str (Str.ofString "record")])) := Go.same g17.tp s18
    generalize upd H17 o4 (.tup [V.str (Str.ofString "record")]) = Hx at *
    refine ite2 (fun _ => ?_) (fun _ => ?_)
    rotate_left
    obtain ⟨kvs, hd, hk⟩ := (hF17.go g17.tp gx.sm).ex
    have hqk : Hx b2 = some (.tup ((kP q2).map kV)) := by rw [kP_V]; exact tup_go g17.tp gx.sm hb17
    refine ⟨_, rfl, _, rfl, d, _, rfl, .inr ⟨kvs, kP q2, b2, .inl hd, rfl, hqk, rfl⟩, _, rfl, ?_⟩
    rcases hk.get q2 with ⟨k1, k2⟩ | ⟨v, c2, k1, k2, dv⟩
    rw [k1]
    refine iteT ?_
    rotate_left
    rw [k1]
    refine iteF ⟨_, rfl, t, 4, rfl, gx.tp, by decide, by decide, fun r5 Hy _ _ gy => ⟨rfl, _, rfl, ite2 (fun _ => ?_) (fun _ => ⟨g17.trans (gx.trans gy), d, fl, hF17.go g17.tp (gx.trans gy).sm, wf, lf, _, _, _, _, _, _, rfl⟩)⟩⟩
    have gx := gx.trans gy
    all_goals
      try refine iteT ?_
      have hF18 := hF17.go g17.tp gx.sm
      have hb18 := tup_go g17.tp gx.sm hb17
      have de18 := de.go g17.tp gx.sm
      refine ⟨_, rfl, _, rfl, ?_⟩
      dsimp only [tNoPart]
      refine ⟨_, rfl, slA_tr hb18 fun b3 H19 s19 hb3 => ?_⟩
      rw [cutV_pre (by decide), show (5 : Int).toNat = 5 from rfl, ← List.map_take] at hb3
      have lt1 : 1 ≤ (q2.take 5).length ∧ (q2.take 5).length ≤ 5 := by rw [List.length_take]; omega
      have qk : ∀ z ∈ q2.take 5, z ∈ us := fun z hz => q23 z (List.mem_of_mem_take hz)
      have wf2 := wf.set (c := e) (p := q2.take 5) lt1.1 lt1.2 qk oe
      refine ⟨_, rfl, d, b3, x, fl, q2.take 5, e, rfl, hF18.same s19, wf.sg hsg, wf.nd, by omega, hb3, lt1.1, by omega, fun z hz => hsg z (qk z hz), de18.same s19, fun f H20 s20 hf hF20 => ?_⟩
      have g20 := (g17.trans gx).trans (Go.same (g17.trans gx).tp (s19.trans s20))
      obtain ⟨kvs20, e20, k20⟩ := hF20.ex
      refine ⟨_, rfl, f, kvs20, rfl, e20, _, _, rfl, rfl, _, rfl, ite2 (fun z => ?_) (fun z => ?_)⟩
      · have z' : (kvs20.length : Int) ≤ 40 := of_decide_eq_true z
        have lk := k20.len
        exact ⟨_, rfl, g20, f, _, hF20, wf2, by omega, _, _, _, _, _, _, rfl⟩
      · exact ⟨g20, d, fl, hF18.same (s19.trans s20), wf, lf, _, _, _, _, _, _, rfl⟩
  · rintro σ H5 ⟨g5, d, fl, hF, wf, lf, v6, v7, v8, v9, v10, v11, rfl⟩
    exact ⟨_, rfl, q d fl H5 (g4.trans g5) hF wf lf⟩
/-! ### _law_uses_of -/
theorem sc_law_uses_of : FnScope ["condition"] ["condition"] (defScope s_law_uses_of) := ⟨rfl, rfl, rfl, by decide +kernel, rfl, by decide +kernel, by decide +kernel⟩

def cdPl : Cd → List Pl
  | .has p => [p]
  | .eq p _ => [p]
  | .lt p _ => [p]
  | .gt p _ => [p]
  | .nt c => cdPl c
  | .an c d => cdPl c ++ cdPl d
  | .or c d => cdPl c ++ cdPl d
def cdPlO : Option Cd → List Pl
  | none => []
  | some c => cdPl c
/-- a use: its place is the first part -/
def UseV (H : Hp) (v : V) (p : Pl) : Prop := ∃ a pv x y, v = .ref a ∧ H a = some (.tup [pv, x, y]) ∧ TT H pv (plD p)
theorem UseV.mono {H H' : Hp} (k : ∀ a xs, H a = some (.tup xs) → H' a = some (.tup xs)) {v : V} {p : Pl} (h : UseV H v p) : UseV H' v p := by
  obtain ⟨a, pv, x, y, e, h1, h2⟩ := h
  exact ⟨a, pv, x, y, e, k _ _ h1, TT.mono k _ _ h2⟩
theorem uses_same {H H' : Hp} {vs : List V} {ps : List Pl} (s : Same H H') (h : Al2 (UseV H) vs ps) : Al2 (UseV H') vs ps := h.mono fun _ _ h => h.mono fun _ _ e => s _ _ e
theorem uses_lput {H : Hp} {D : Addr} {acc : List V} {o : HO} {vs : List V} {ps : List Pl} (nb : H D = some (.lst acc)) (h : Al2 (UseV H) vs ps) : Al2 (UseV (upd H D o)) vs ps := h.mono fun _ _ h => h.mono fun _ _ e => tup_lput nb e


def spUsesOf (n : Nat) (K : PySem.W.Frag) : Sp := fun vs H Q _ => ∃ (v : V) (c : Option Cd), vs = [v] ∧ TT H v (cdO c) ∧ Cd.depO c + 1 ≤ n ∧ (cdPlO c).length ≤ 1000 ∧ ∀ r xs H', Same H H' → H r = none → H' r = some (.lst xs) → Al2 (UseV H') xs (cdPlO c) → Q (.ref r) H'
abbrev sp_law_uses_of : PySem.W.Frag → Sp := spUsesOf 40


theorem ok_law_uses_of_n {n : Nat} {f : Addr} {fd : FuncData} (F : Fun K "_law_uses_of" "_law_uses_of" s_law_uses_of f fd) (T : Top K w mg) (C_law_uses_of : Cal P w K mg base "_law_uses_of" n ["condition"] (spUsesOf n) f fd) : FnOk P w K mg base CX0 (n + 1) f fd ["condition"] (spUsesOf (n + 1) K) := by
  have sc := sc_law_uses_of
  refine F.ok sc (fun vs H Q E h => ?_) (fun cdv A outer s H vs Q E hr h => ?_)
  · obtain ⟨v, c, rfl, _⟩ := h
    rfl
  obtain ⟨v, c, rfl, hv, hd, hl, q⟩ := h
  refine ⟨_, (pss_cons (ps_if (pt_cmpR op_isN (pv 0) pe_non (nomark _))
      (pss_one (ps_ret (pe_lst pa_nil)))
      pss_nil)
    (pss_cons (ps_if (pt_cmpR op_eq (pe_ix (kx_tup (K := K) rfl) (pv 0) pe_int (fun _ _ => rfl)) pe_str (nomark _))
      (pss_one (ps_ret (pe_lst (pa_cons (pe_tup (pa_cons (pe_ix (kx_tup (K := K) rfl) (pv 0) pe_int (fun _ _ => rfl)) (pa_cons pe_str (pa_cons pe_non pa_nil)))) pa_nil))))
      pss_nil)
    (pss_cons (ps_if (pt_cmpR (kop_in (K := K) rfl) (pe_ix (kx_tup (K := K) rfl) (pv 0) pe_int (fun _ _ => rfl)) (pe_lst (pa_cons pe_str (pa_cons pe_str (pa_cons pe_str pa_nil)))) rfl)
      (pss_one (ps_ret (pe_lst (pa_cons (pe_tup (pa_cons (pe_ix (kx_tup (K := K) rfl) (pv 0) pe_int (fun _ _ => rfl)) (pa_cons pe_str (pa_cons (pe_tup (pa_cons (pe_ix (kx_tup (K := K) rfl) (pv 0) pe_int (fun _ _ => rfl)) (pa_cons (pe_ix (kx_tup (K := K) rfl) (pv 0) pe_int (fun _ _ => rfl)) pa_nil))) pa_nil)))) pa_nil))))
      pss_nil)
    (pss_cons (ps_if (pt_cmpR op_eq (pe_ix (kx_tup (K := K) rfl) (pv 0) pe_int (fun _ _ => rfl)) pe_str (nomark _))
      (pss_one (ps_ret (pe_call C_law_uses_of.ok hr (by rfl) C_law_uses_of.m C_law_uses_of.kp C_law_uses_of.b .nil pass0 (pa_cons (pe_ix (kx_tup (K := K) rfl) (pv 0) pe_int (fun _ _ => rfl)) pa_nil))))
      pss_nil)
    (pss_one (ps_ret (pe_op op_cat (pe_call C_law_uses_of.ok hr (by rfl) C_law_uses_of.m C_law_uses_of.kp C_law_uses_of.b .nil pass0 (pa_cons (pe_ix (kx_tup (K := K) rfl) (pv 0) pe_int (fun _ _ => rfl)) pa_nil)) (pe_call C_law_uses_of.ok hr (by rfl) C_law_uses_of.m C_law_uses_of.kp C_law_uses_of.b .nil pass0 (pa_cons (pe_ix (kx_tup (K := K) rfl) (pv 0) pe_int (fun _ _ => rfl)) pa_nil))))))))), ?_⟩
  cases c with
  | none =>
    cases hv
    exact ⟨_, rfl, rfl, _, rfl, iteT ⟨(by show 0 ≤ sizeLine; decide), fun o ho => q o [] _ (same_new ho _) ho upd_same .nil⟩⟩
  | some c =>
  have hd : c.dep + 1 ≤ n + 1 := hd
  have hl : (cdPl c).length ≤ 1000 := hl
  have hv : TT H v (cdD c) := hv
  have q : ∀ r xs H', Same H H' → H r = none → H' r = some (.lst xs) → Al2 (UseV H') xs (cdPl c) → Q (.ref r) H' := q
  -- an atom: one use
  have one : ∀ {H1 : Hp} {pv x : V} {wd : Str} {p : Pl}, Same H H1 → cdPl c = [p] → TT H1 pv (plD p) → 3 ≤ sizeLine ∧ ∀ o, H1 o = none → 1 ≤ sizeLine ∧ ∀ o2, (upd H1 o (.tup [pv, .str wd, x])) o2 = none → Q (.ref o2) (upd (upd H1 o (.tup [pv, .str wd, x])) o2 (.lst [.ref o])) := fun {H1 pv x wd p} s1 e hp => by
    refine ⟨(by show 3 ≤ sizeLine; decide), fun o ho => ⟨(by show 1 ≤ sizeLine; decide), fun o2 ho2 => ?_⟩⟩
    have s2 := same_new ho (.tup [pv, .str wd, x])
    have s3 := same_new ho2 (.lst [.ref o])
    refine q o2 [.ref o] _ (s1.trans (s2.trans s3)) (same_free (s1.trans s2) ho2) upd_same ?_
    rw [e]
    exact .cons ⟨o, pv, .str wd, x, rfl, s3 _ _ upd_same, hp.same (s2.trans s3)⟩ .nil
  cases c with
  | has p =>
    obtain ⟨a, xs, rfl, hS, hts⟩ := hv.tup_inv
    obtain ⟨x1, x2, rfl, h1, h2⟩ := hts.two
    cases h1
    refine ⟨_, rfl, rfl, _, rfl, iteF ⟨_, rfl, a, _, 0, _, rfl, rfl, SqT.of hS, rfl, rfl, _, rfl, iteT ?_⟩⟩
    exact ⟨_, rfl, a, _, 1, _, rfl, rfl, SqT.of hS, rfl, one (Same.refl H) rfl h2⟩
  | eq p e =>
    obtain ⟨a, xs, rfl, hS, hts⟩ := hv.tup_inv
    obtain ⟨x1, x2, x3, rfl, h1, h2, h3⟩ := hts.three
    cases h1
    refine ⟨_, rfl, rfl, _, rfl, iteF ⟨_, rfl, a, _, 0, _, rfl, rfl, SqT.of hS, rfl, rfl, _, rfl, iteF ?_⟩⟩
    refine ⟨_, rfl, a, _, 0, _, rfl, rfl, SqT.of hS, rfl, (by show 3 ≤ sizeLine; decide), fun o0 ho0 => ⟨o0, _, rfl, .inl (SqL.of upd_same), rfl, rfl, _, rfl, ?_⟩⟩
    rw [show inV (V.str (Str.ofString "=")) [V.str (Str.ofString "="), V.str (Str.ofString "<"), V.str (Str.ofString ">")] = true from by decide +kernel]
    have s0 := same_new ho0 (.lst [V.str (Str.ofString "="), V.str (Str.ofString "<"), V.str (Str.ofString ">")])
    have hS0 := SqT.of (K := K) (s0 _ _ hS)
    refine iteT ⟨_, rfl, a, _, 1, _, rfl, rfl, hS0, rfl, _, rfl, a, _, 0, _, rfl, rfl, hS0, rfl, _, rfl, a, _, 2, _, rfl, rfl, hS0, rfl, (by show 2 ≤ sizeLine; decide), fun o1 ho1 => ?_⟩
    exact one (s0.trans (same_new ho1 _)) rfl ((h2.same s0).same (same_new ho1 _))
  | lt p m =>
    obtain ⟨a, xs, rfl, hS, hts⟩ := hv.tup_inv
    obtain ⟨x1, x2, x3, rfl, h1, h2, h3⟩ := hts.three
    cases h1
    refine ⟨_, rfl, rfl, _, rfl, iteF ⟨_, rfl, a, _, 0, _, rfl, rfl, SqT.of hS, rfl, rfl, _, rfl, iteF ?_⟩⟩
    refine ⟨_, rfl, a, _, 0, _, rfl, rfl, SqT.of hS, rfl, (by show 3 ≤ sizeLine; decide), fun o0 ho0 => ⟨o0, _, rfl, .inl (SqL.of upd_same), rfl, rfl, _, rfl, ?_⟩⟩
    rw [show inV (V.str (Str.ofString "<")) [V.str (Str.ofString "="), V.str (Str.ofString "<"), V.str (Str.ofString ">")] = true from by decide +kernel]
    have s0 := same_new ho0 (.lst [V.str (Str.ofString "="), V.str (Str.ofString "<"), V.str (Str.ofString ">")])
    have hS0 := SqT.of (K := K) (s0 _ _ hS)
    refine iteT ⟨_, rfl, a, _, 1, _, rfl, rfl, hS0, rfl, _, rfl, a, _, 0, _, rfl, rfl, hS0, rfl, _, rfl, a, _, 2, _, rfl, rfl, hS0, rfl, (by show 2 ≤ sizeLine; decide), fun o1 ho1 => ?_⟩
    exact one (s0.trans (same_new ho1 _)) rfl ((h2.same s0).same (same_new ho1 _))
  | gt p m =>
    obtain ⟨a, xs, rfl, hS, hts⟩ := hv.tup_inv
    obtain ⟨x1, x2, x3, rfl, h1, h2, h3⟩ := hts.three
    cases h1
    refine ⟨_, rfl, rfl, _, rfl, iteF ⟨_, rfl, a, _, 0, _, rfl, rfl, SqT.of hS, rfl, rfl, _, rfl, iteF ?_⟩⟩
    refine ⟨_, rfl, a, _, 0, _, rfl, rfl, SqT.of hS, rfl, (by show 3 ≤ sizeLine; decide), fun o0 ho0 => ⟨o0, _, rfl, .inl (SqL.of upd_same), rfl, rfl, _, rfl, ?_⟩⟩
    rw [show inV (V.str (Str.ofString ">")) [V.str (Str.ofString "="), V.str (Str.ofString "<"), V.str (Str.ofString ">")] = true from by decide +kernel]
    have s0 := same_new ho0 (.lst [V.str (Str.ofString "="), V.str (Str.ofString "<"), V.str (Str.ofString ">")])
    have hS0 := SqT.of (K := K) (s0 _ _ hS)
    refine iteT ⟨_, rfl, a, _, 1, _, rfl, rfl, hS0, rfl, _, rfl, a, _, 0, _, rfl, rfl, hS0, rfl, _, rfl, a, _, 2, _, rfl, rfl, hS0, rfl, (by show 2 ≤ sizeLine; decide), fun o1 ho1 => ?_⟩
    exact one (s0.trans (same_new ho1 _)) rfl ((h2.same s0).same (same_new ho1 _))
  | nt c =>
    obtain ⟨a, xs, rfl, hS, hts⟩ := hv.tup_inv
    obtain ⟨x1, x2, rfl, h1, h2⟩ := hts.two
    cases h1
    have hd : c.dep + 1 + 1 ≤ n + 1 := hd
    refine ⟨_, rfl, rfl, _, rfl, iteF ⟨_, rfl, a, _, 0, _, rfl, rfl, SqT.of hS, rfl, rfl, _, rfl, iteF ?_⟩⟩
    refine ⟨_, rfl, a, _, 0, _, rfl, rfl, SqT.of hS, rfl, (by show 3 ≤ sizeLine; decide), fun o0 ho0 => ⟨o0, _, rfl, .inl (SqL.of upd_same), rfl, rfl, _, rfl, ?_⟩⟩
    rw [show inV (V.str (Str.ofString "not")) [V.str (Str.ofString "="), V.str (Str.ofString "<"), V.str (Str.ofString ">")] = false from by decide +kernel]
    have s0 := same_new ho0 (.lst [V.str (Str.ofString "="), V.str (Str.ofString "<"), V.str (Str.ofString ">")])
    have hS0 := SqT.of (K := K) (s0 _ _ hS)
    refine iteF ⟨_, rfl, a, _, 0, _, rfl, rfl, hS0, rfl, rfl, _, rfl, iteT ?_⟩
    refine ⟨_, rfl, a, _, 1, _, rfl, rfl, hS0, rfl, x2, some c, rfl, h2.same s0, by show c.dep + 1 ≤ n; omega, hl, fun r1 xs1 H1 s1 hr1 er1 al1 => ?_⟩
    exact q r1 xs1 H1 (s0.trans s1) (same_free s0 hr1) er1 al1
  | an c d =>
    obtain ⟨a, xs, rfl, hS, hts⟩ := hv.tup_inv
    obtain ⟨x1, x2, x3, rfl, h1, h2, h3⟩ := hts.three
    cases h1
    have hd : max c.dep d.dep + 1 + 1 ≤ n + 1 := hd
    have hl : (cdPl c ++ cdPl d).length ≤ 1000 := hl
    rw [List.length_append] at hl
    refine ⟨_, rfl, rfl, _, rfl, iteF ⟨_, rfl, a, _, 0, _, rfl, rfl, SqT.of hS, rfl, rfl, _, rfl, iteF ?_⟩⟩
    refine ⟨_, rfl, a, _, 0, _, rfl, rfl, SqT.of hS, rfl, (by show 3 ≤ sizeLine; decide), fun o0 ho0 => ⟨o0, _, rfl, .inl (SqL.of upd_same), rfl, rfl, _, rfl, ?_⟩⟩
    rw [show inV (V.str (Str.ofString "and")) [V.str (Str.ofString "="), V.str (Str.ofString "<"), V.str (Str.ofString ">")] = false from by decide +kernel]
    have s0 := same_new ho0 (.lst [V.str (Str.ofString "="), V.str (Str.ofString "<"), V.str (Str.ofString ">")])
    have hS0 := SqT.of (K := K) (s0 _ _ hS)
    refine iteF ⟨_, rfl, a, _, 0, _, rfl, rfl, hS0, rfl, rfl, _, rfl, iteF ?_⟩
    refine ⟨_, rfl, a, _, 1, _, rfl, rfl, hS0, rfl, x2, some c, rfl, h2.same s0, by show c.dep + 1 ≤ n; omega, by show (cdPl c).length ≤ 1000; omega, fun r1 xs1 H1 s1 hr1 er1 al1 => ?_⟩
    refine ⟨_, rfl, a, _, 2, _, rfl, rfl, s1.seqT hS0, rfl, x3, some d, rfl, (h3.same s0).same s1, by show d.dep + 1 ≤ n; omega, by show (cdPl d).length ≤ 1000; omega, fun r2 xs2 H2 s2 hr2 er2 al2 => ?_⟩
    have l1 := al1.len
    have l2 := al2.len
    have l1' : xs1.length = (cdPl c).length := l1
    have l2' : xs2.length = (cdPl d).length := l2
    refine ⟨r1, r2, xs1, xs2, rfl, rfl, s2 _ _ er1, er2, le_line (by omega), fun o ho => ?_⟩
    have s3 := same_new ho (.lst (xs1 ++ xs2))
    exact q o (xs1 ++ xs2) _ (s0.trans (s1.trans (s2.trans s3))) (same_free (s0.trans (s1.trans s2)) ho) upd_same (Al2.app (uses_same (s2.trans s3) al1) (uses_same s3 al2))
  | or c d =>
    obtain ⟨a, xs, rfl, hS, hts⟩ := hv.tup_inv
    obtain ⟨x1, x2, x3, rfl, h1, h2, h3⟩ := hts.three
    cases h1
    have hd : max c.dep d.dep + 1 + 1 ≤ n + 1 := hd
    have hl : (cdPl c ++ cdPl d).length ≤ 1000 := hl
    rw [List.length_append] at hl
    refine ⟨_, rfl, rfl, _, rfl, iteF ⟨_, rfl, a, _, 0, _, rfl, rfl, SqT.of hS, rfl, rfl, _, rfl, iteF ?_⟩⟩
    refine ⟨_, rfl, a, _, 0, _, rfl, rfl, SqT.of hS, rfl, (by show 3 ≤ sizeLine; decide), fun o0 ho0 => ⟨o0, _, rfl, .inl (SqL.of upd_same), rfl, rfl, _, rfl, ?_⟩⟩
    rw [show inV (V.str (Str.ofString "or")) [V.str (Str.ofString "="), V.str (Str.ofString "<"), V.str (Str.ofString ">")] = false from by decide +kernel]
    have s0 := same_new ho0 (.lst [V.str (Str.ofString "="), V.str (Str.ofString "<"), V.str (Str.ofString ">")])
    have hS0 := SqT.of (K := K) (s0 _ _ hS)
    refine iteF ⟨_, rfl, a, _, 0, _, rfl, rfl, hS0, rfl, rfl, _, rfl, iteF ?_⟩
    refine ⟨_, rfl, a, _, 1, _, rfl, rfl, hS0, rfl, x2, some c, rfl, h2.same s0, by show c.dep + 1 ≤ n; omega, by show (cdPl c).length ≤ 1000; omega, fun r1 xs1 H1 s1 hr1 er1 al1 => ?_⟩
    refine ⟨_, rfl, a, _, 2, _, rfl, rfl, s1.seqT hS0, rfl, x3, some d, rfl, (h3.same s0).same s1, by show d.dep + 1 ≤ n; omega, by show (cdPl d).length ≤ 1000; omega, fun r2 xs2 H2 s2 hr2 er2 al2 => ?_⟩
    have l1 := al1.len
    have l2 := al2.len
    have l1' : xs1.length = (cdPl c).length := l1
    have l2' : xs2.length = (cdPl d).length := l2
    refine ⟨r1, r2, xs1, xs2, rfl, rfl, s2 _ _ er1, er2, le_line (by omega), fun o ho => ?_⟩
    have s3 := same_new ho (.lst (xs1 ++ xs2))
    exact q o (xs1 ++ xs2) _ (s0.trans (s1.trans (s2.trans s3))) (same_free (s0.trans (s1.trans s2)) ho) upd_same (Al2.app (uses_same (s2.trans s3) al1) (uses_same s3 al2))
theorem ok_law_uses_of {f : Addr} {fd : FuncData} (F : Fun K "_law_uses_of" "_law_uses_of" s_law_uses_of f fd) (T : Top K w mg) (M : mg "_law_uses_of" = some (.ref f)) : FnOk P w K mg base CX0 40 f fd ["condition"] (sp_law_uses_of K) := by
  have b := F.binds (ps := ["condition"]) fun _ _ _ _ _ _ us hl => match us, hl with | [_], _ => rfl
  have h : ∀ n, FnOk P w K mg base CX0 n f fd ["condition"] (spUsesOf n K) := fun n => by
    induction n with
    | zero =>
      refine none_left fun vs H Q E h => ?_
      obtain ⟨v, c, _, _, hd, _⟩ := h
      omega
    | succ n ih => exact ok_law_uses_of_n F T ⟨ih, b, F.kp, M⟩
  exact h 40

/-! ### _law_uses -/
theorem sc_law_uses : FnScope ["rule", "uses", "action"] ["rule"] (defScope s_law_uses) := ⟨rfl, rfl, rfl, by decide +kernel, rfl, by decide +kernel, by decide +kernel⟩

def acPl : Ac → List Pl
  | .set p _ => [p]
  | .dflt p _ => [p]
  | .copy p q => [p, q]
  | .rem p => [p]
  | .rej _ => []
def rulePl (r : Ru) : List Pl := cdPlO r.c ++ r.as.flatMap acPl


def sp_law_uses (K : PySem.W.Frag) : Sp := fun vs H Q _ => ∃ (v : V) (r : Ru), vs = [v] ∧ TT H v (ruE r) ∧ Cd.depO r.c ≤ 38 ∧ (cdPlO r.c).length ≤ 1000 ∧ r.as.length ≤ 100 ∧ ∀ o xs H', Same H H' → H o = none → H' o = some (.lst xs) → Al2 (UseV H') xs (rulePl r) → Q (.ref o) H'

theorem ok_law_uses {f : Addr} {fd : FuncData} (F : Fun K "_law_uses" "_law_uses" s_law_uses f fd) (T : Top K w mg) {a_law_uses_of : Addr} {d_law_uses_of : FuncData} (C_law_uses_of : Cal P w K mg base "_law_uses_of" 40 ["condition"] sp_law_uses_of a_law_uses_of d_law_uses_of) : FnOk P w K mg base CX0 41 f fd ["rule"] (sp_law_uses K) := by
  have sc := sc_law_uses
  refine F.ok sc (fun vs H Q E h => ?_) (fun cdv A outer s H vs Q E hr h => ?_)
  · obtain ⟨v, r, rfl, _⟩ := h
    rfl
  obtain ⟨v, r, rfl, hv, hd, hl, lra, q⟩ := h
  refine ⟨_, (pss_cons (ps_set (i := 1) sc.nd rfl (Or.inl rfl) (pe_call C_law_uses_of.ok (hr.mono (by omega)) (by rfl) C_law_uses_of.m C_law_uses_of.kp C_law_uses_of.b .nil pass0 (pa_cons (pe_ix (kx_tup (K := K) rfl) (pv 0) pe_int (fun _ _ => rfl)) pa_nil)))
    (pss_cons (ps_for PassesOwn.never rfl (kpi_tup (K := K) rfl (pe_ix (kx_tup (K := K) rfl) (pv 0) pe_int (fun _ _ => rfl))) (pg_name (i := 2) sc.nd rfl (Or.inl rfl))
      (C8.pss_cut (ps_if (pt_cmpR (kop_in (K := K) rfl) (pe_ix (kx_tup (K := K) rfl) (pv 2) pe_int (fun _ _ => rfl)) (pe_lst (pa_cons pe_str (pa_cons pe_str pa_nil))) rfl)
        (pss_one (ps_expr (pe_bm PySem.F.plainAttrs_list PySem.F.slot_list_append PySem.F.type_list_append mt_append (pv 1) (pa_cons (pe_tup (pa_cons (pe_ix (kx_tup (K := K) rfl) (pv 2) pe_int (fun _ _ => rfl)) (pa_cons pe_str (pa_cons (pe_tup (pa_cons pe_str (pa_cons (pe_ix (kx_tup (K := K) rfl) (pv 2) pe_int (fun _ _ => rfl)) pa_nil))) pa_nil)))) pa_nil))))
        pss_nil)
      (C8.pss_cut (ps_if (pt_cmpR op_eq (pe_ix (kx_tup (K := K) rfl) (pv 2) pe_int (fun _ _ => rfl)) pe_str (nomark _))
        (pss_one (ps_set (i := 1) sc.nd rfl (Or.inl rfl) (pe_op op_cat (pv 1) (pe_lst (pa_cons (pe_tup (pa_cons (pe_ix (kx_tup (K := K) rfl) (pv 2) pe_int (fun _ _ => rfl)) (pa_cons pe_str (pa_cons pe_non pa_nil)))) (pa_cons (pe_tup (pa_cons (pe_ix (kx_tup (K := K) rfl) (pv 2) pe_int (fun _ _ => rfl)) (pa_cons pe_str (pa_cons pe_non pa_nil)))) pa_nil))))))
        pss_nil)
      (pss_one (ps_if (pt_cmpR op_eq (pe_ix (kx_tup (K := K) rfl) (pv 2) pe_int (fun _ _ => rfl)) pe_str (nomark _))
        (pss_one (ps_expr (pe_bm PySem.F.plainAttrs_list PySem.F.slot_list_append PySem.F.type_list_append mt_append (pv 1) (pa_cons (pe_tup (pa_cons (pe_ix (kx_tup (K := K) rfl) (pv 2) pe_int (fun _ _ => rfl)) (pa_cons pe_str (pa_cons pe_non pa_nil)))) pa_nil))))
        pss_nil)))))
    (pss_one (ps_ret (pv 1))))), ?_⟩

  obtain ⟨a, xs, rfl, hS, hts⟩ := hv.tup_inv
  obtain ⟨x1, x2, x3, rfl, h1, h2, h3⟩ := hts.three
  obtain ⟨ab, axs, rfl, hA, hax⟩ := h3.tup_inv
  have la := hax.length
  rw [List.length_map] at la
  refine ⟨_, rfl, a, _, 1, _, rfl, rfl, SqT.of hS, rfl, x2, r.c, rfl, h2, by omega, hl, fun U0 us0 H1 s1 hU0 eU0 al0 => ?_⟩
  have l0 := al0.len
  refine ⟨_, rfl, a, _, 2, _, rfl, rfl, SqT.of (s1 _ _ hS), rfl, ab, rfl, ⟨_, SqT.of (s1 _ _ hA)⟩, ?_⟩
  refine for_it (walk_tup (K := K) (a := ab) (xs := axs)) (fun j σ H' => Same H H' ∧ ∃ (U : Addr) (uxs : List V) (v2 : Option V), H U = none ∧ H' U = some (.lst uxs) ∧ Al2 (UseV H') uxs (cdPlO r.c ++ (r.as.take j).flatMap acPl) ∧ uxs.length ≤ 1000 + 2 * j ∧ σ = [some (.ref a), some (.ref U), v2])
    ⟨s1, U0, us0, _, hU0, eU0, by rw [List.take_zero, List.flatMap_nil, List.append_nil]; exact al0, by omega, rfl⟩ (fun j σ H' _ h => SqT.of (h.1 _ _ hA)) ?_ ?_
  rotate_left
  · rintro σ H2 ⟨s2, U, uxs, v2, hU, eU, al, lu, rfl⟩
    rw [la, List.take_length] at al
    exact ⟨_, rfl, q U uxs H2 s2 hU eU al⟩
  rintro j yj σ H2' H2 hj ⟨s2, U, uxs, v2, hU, eU, al, lu, rfl⟩ ⟨rfl, hyj⟩
  obtain ⟨dd, edj, dyj⟩ := hax.get' hyj
  rw [List.getElem?_map] at edj
  obtain ⟨ac, eac, rfl⟩ := Option.map_eq_some_iff.mp edj
  obtain ⟨hj2, eac2⟩ := List.getElem?_eq_some_iff.mp eac
  have dyj := dyj.same s2
  have hT : cdPlO r.c ++ (r.as.take (j + 1)).flatMap acPl = (cdPlO r.c ++ (r.as.take j).flatMap acPl) ++ acPl ac := by
    rw [List.take_succ_eq_append_getElem hj2, eac2, List.flatMap_append, List.append_assoc]
    simp
  have lj : j < 100 := by omega
  generalize cdPlO r.c ++ (r.as.take (j + 1)).flatMap acPl = X1 at *
  generalize cdPlO r.c ++ (r.as.take j).flatMap acPl = X0 at *
  obtain ⟨Inv, hInv⟩ : ∃ Inv : List Pl → St → Hp → Prop, Inv = fun X σ H' => Same H H' ∧ (∀ b xs, H2 b = some (.tup xs) → H' b = some (.tup xs)) ∧ ∃ (U : Addr) (uxs : List V), H U = none ∧ H' U = some (.lst uxs) ∧ Al2 (UseV H') uxs X ∧ uxs.length ≤ 1000 + 2 * j + 2 ∧ σ = [some (.ref a), some (.ref U), some yj] := ⟨_, rfl⟩
  have lx : ∀ {H' : Hp} {vs : List V} {ps : List Pl}, Al2 (UseV H') vs ps → vs.length = ps.length := fun h => h.len
  have lu0 := lx al
  have iv0 : Inv X0 [some (.ref a), some (.ref U), some yj] H2 := by subst hInv; exact ⟨s2, fun _ _ h => h, U, uxs, hU, eU, al, by omega, rfl⟩
  have fin : ∀ {σ : St} {H' : Hp}, Inv X1 σ H' → X1.length ≤ 1000 + 2 * (j + 1) → Same H H' ∧ ∃ (U : Addr) (uxs : List V) (v2 : Option V), H U = none ∧ H' U = some (.lst uxs) ∧ Al2 (UseV H') uxs X1 ∧ uxs.length ≤ 1000 + 2 * (j + 1) ∧ σ = [some (.ref a), some (.ref U), v2] := fun {σ H'} h l => by
    subst hInv
    obtain ⟨k1, k2, U, uxs, k3, k4, k5, k6, k7⟩ := h
    exact ⟨k1, U, uxs, _, k3, k4, k5, by rw [lx k5]; exact l, k7⟩
  have lX1 : X1.length = X0.length + (acPl ac).length := by rw [hT, List.length_append]
  have lX0 : X0.length ≤ 1000 + 2 * j := by rw [← lu0]; exact lu
  cases ac with
  | set p c =>
    have l2 : (acPl (.set p c)).length ≤ 2 := by show 1 ≤ 2; decide
    have hX : X1 = X0 ++ [p] := hT
    obtain ⟨ac', axs', rfl, hA', hts'⟩ := dyj.tup_inv
    obtain ⟨w1, y1, y2, rfl, g1, hp, hc⟩ := hts'.three
    cases g1
    have hX' : X1 = X1 := rfl
    refine ⟨Inv X1, ?_, ?_⟩
    · refine ⟨_, rfl, ac', _, 0, _, rfl, rfl, SqT.of hA', rfl, (by show 2 ≤ sizeLine; decide), fun o0 ho0 => ⟨o0, _, rfl, .inl (SqL.of upd_same), rfl, rfl, _, rfl, ?_⟩⟩
      rw [show inV (V.str (Str.ofString "set")) [V.str (Str.ofString "set"), V.str (Str.ofString "default")] = true from by decide +kernel]
      have s3 := same_new ho0 (.lst [V.str (Str.ofString "set"), V.str (Str.ofString "default")])
      have hA3 := SqT.of (K := K) (s3 _ _ hA')
      subst hInv
      obtain ⟨k1, k2, U, uxs, k3, k4, k5, k6, k7⟩ := iv0
      cases k7
      have k6 : uxs.length ≤ 1000 + 2 * j := by rw [lx k5]; exact lX0
      refine iteT ⟨_, rfl, .inl ⟨rfl, _, SqL.of (s3 _ _ k4)⟩, _, rfl, ac', _, 1, _, rfl, rfl, hA3, rfl, _, rfl, ac', _, 2, _, rfl, rfl, hA3, rfl, (by show 2 ≤ sizeLine; decide), fun o1 ho1 => ⟨(by show 3 ≤ sizeLine; decide), fun o2 ho2 => ?_⟩⟩
      have s4 := same_new ho1 (.tup [.str (Str.ofString "="), y2])
      have s5 := same_new ho2 (.tup [y1, .str (Str.ofString "scalar"), .ref o1])
      have s35 := s3.trans (s4.trans s5)
      have eU5 := s35 _ _ k4
      refine ⟨U, uxs, _, rfl, rfl, eU5, lt_line (by omega), (k1.trans s35).late k3, fun b xs e => tup_lput eU5 (s35 _ _ (k2 b xs e)), U, uxs ++ [.ref o2], k3, upd_same, ?_, by rw [List.length_append]; show _ + 1 ≤ _; omega, rfl⟩
      rw [hX]
      exact Al2.app (uses_lput eU5 (uses_same s35 k5)) (.cons (UseV.mono (fun _ _ e => tup_lput eU5 e) ⟨o2, y1, .str (Str.ofString "scalar"), .ref o1, rfl, upd_same, hp.same s35⟩) .nil)
    rintro σ H3 iv1
    have hcur := iv1
    rw [hInv] at hcur
    obtain ⟨k1, k2, U, uxs, k3, k4, k5, k6, rfl⟩ := hcur
    refine ⟨Inv X1, ⟨_, rfl, ac', _, 0, _, rfl, rfl, SqT.of (k2 _ _ hA'), rfl, rfl, _, rfl, iteF iv1⟩, ?_⟩
    clear k1 k2 k3 k4 k5 k6
    rintro σ H4 iv2
    have hcur := iv2
    rw [hInv] at hcur
    obtain ⟨k1, k2, U, uxs, k3, k4, k5, k6, rfl⟩ := hcur
    exact ⟨_, rfl, ac', _, 0, _, rfl, rfl, SqT.of (k2 _ _ hA'), rfl, rfl, _, rfl, iteF (fin (by rw [hX']; exact iv2) (by omega))⟩
  | dflt p c =>
    have l2 : (acPl (.dflt p c)).length ≤ 2 := by show 1 ≤ 2; decide
    have hX : X1 = X0 ++ [p] := hT
    obtain ⟨ac', axs', rfl, hA', hts'⟩ := dyj.tup_inv
    obtain ⟨w1, y1, y2, rfl, g1, hp, hc⟩ := hts'.three
    cases g1
    have hX' : X1 = X1 := rfl
    refine ⟨Inv X1, ?_, ?_⟩
    · refine ⟨_, rfl, ac', _, 0, _, rfl, rfl, SqT.of hA', rfl, (by show 2 ≤ sizeLine; decide), fun o0 ho0 => ⟨o0, _, rfl, .inl (SqL.of upd_same), rfl, rfl, _, rfl, ?_⟩⟩
      rw [show inV (V.str (Str.ofString "default")) [V.str (Str.ofString "set"), V.str (Str.ofString "default")] = true from by decide +kernel]
      have s3 := same_new ho0 (.lst [V.str (Str.ofString "set"), V.str (Str.ofString "default")])
      have hA3 := SqT.of (K := K) (s3 _ _ hA')
      subst hInv
      obtain ⟨k1, k2, U, uxs, k3, k4, k5, k6, k7⟩ := iv0
      cases k7
      have k6 : uxs.length ≤ 1000 + 2 * j := by rw [lx k5]; exact lX0
      refine iteT ⟨_, rfl, .inl ⟨rfl, _, SqL.of (s3 _ _ k4)⟩, _, rfl, ac', _, 1, _, rfl, rfl, hA3, rfl, _, rfl, ac', _, 2, _, rfl, rfl, hA3, rfl, (by show 2 ≤ sizeLine; decide), fun o1 ho1 => ⟨(by show 3 ≤ sizeLine; decide), fun o2 ho2 => ?_⟩⟩
      have s4 := same_new ho1 (.tup [.str (Str.ofString "="), y2])
      have s5 := same_new ho2 (.tup [y1, .str (Str.ofString "scalar"), .ref o1])
      have s35 := s3.trans (s4.trans s5)
      have eU5 := s35 _ _ k4
      refine ⟨U, uxs, _, rfl, rfl, eU5, lt_line (by omega), (k1.trans s35).late k3, fun b xs e => tup_lput eU5 (s35 _ _ (k2 b xs e)), U, uxs ++ [.ref o2], k3, upd_same, ?_, by rw [List.length_append]; show _ + 1 ≤ _; omega, rfl⟩
      rw [hX]
      exact Al2.app (uses_lput eU5 (uses_same s35 k5)) (.cons (UseV.mono (fun _ _ e => tup_lput eU5 e) ⟨o2, y1, .str (Str.ofString "scalar"), .ref o1, rfl, upd_same, hp.same s35⟩) .nil)
    rintro σ H3 iv1
    have hcur := iv1
    rw [hInv] at hcur
    obtain ⟨k1, k2, U, uxs, k3, k4, k5, k6, rfl⟩ := hcur
    refine ⟨Inv X1, ⟨_, rfl, ac', _, 0, _, rfl, rfl, SqT.of (k2 _ _ hA'), rfl, rfl, _, rfl, iteF iv1⟩, ?_⟩
    clear k1 k2 k3 k4 k5 k6
    rintro σ H4 iv2
    have hcur := iv2
    rw [hInv] at hcur
    obtain ⟨k1, k2, U, uxs, k3, k4, k5, k6, rfl⟩ := hcur
    exact ⟨_, rfl, ac', _, 0, _, rfl, rfl, SqT.of (k2 _ _ hA'), rfl, rfl, _, rfl, iteF (fin (by rw [hX']; exact iv2) (by omega))⟩
  | copy p p2 =>
    have l2 : (acPl (.copy p p2)).length ≤ 2 := by show 2 ≤ 2; decide
    have hX : X1 = X0 ++ [p, p2] := hT
    obtain ⟨ac', axs', rfl, hA', hts'⟩ := dyj.tup_inv
    obtain ⟨w1, y1, y2, rfl, g1, hp, hc⟩ := hts'.three
    cases g1
    have hX' : X1 = X1 := rfl
    refine ⟨Inv X0, ?_, ?_⟩
    · refine ⟨_, rfl, ac', _, 0, _, rfl, rfl, SqT.of hA', rfl, (by show 2 ≤ sizeLine; decide), fun o0 ho0 => ⟨o0, _, rfl, .inl (SqL.of upd_same), rfl, rfl, _, rfl, ?_⟩⟩
      rw [show inV (V.str (Str.ofString "copy")) [V.str (Str.ofString "set"), V.str (Str.ofString "default")] = false from by decide +kernel]
      have s3 := same_new ho0 (.lst [V.str (Str.ofString "set"), V.str (Str.ofString "default")])
      subst hInv
      obtain ⟨k1, k2, U, uxs, k3, k4, k5, k6, k7⟩ := iv0
      exact iteF ⟨k1.trans s3, fun b xs e => s3 _ _ (k2 b xs e), U, uxs, k3, s3 _ _ k4, uses_same s3 k5, k6, k7⟩
    rintro σ H3 iv1
    have hcur := iv1
    rw [hInv] at hcur
    obtain ⟨k1, k2, U, uxs, k3, k4, k5, k6, rfl⟩ := hcur
    have hA3 := SqT.of (K := K) (k2 _ _ hA')
    have k6 : uxs.length ≤ 1000 + 2 * j := by rw [lx k5]; exact lX0
    refine ⟨Inv X1, ?_, ?_⟩
    · refine ⟨_, rfl, ac', _, 0, _, rfl, rfl, hA3, rfl, rfl, _, rfl, iteT ?_⟩
      refine ⟨_, rfl, _, rfl, ac', _, 1, _, rfl, rfl, hA3, rfl, (by show 3 ≤ sizeLine; decide), fun o1 ho1 => ?_⟩
      have s4 := same_new ho1 (.tup [y1, .str (Str.ofString "scalar"), .non])
      refine ⟨_, rfl, ac', _, 2, _, rfl, rfl, s4.seqT hA3, rfl, (by show 3 ≤ sizeLine; decide), fun o2 ho2 => ⟨(by show 2 ≤ sizeLine; decide), fun o3 ho3 => ?_⟩⟩
      have s5 := same_new ho2 (.tup [y2, .str (Str.ofString "scalar"), .non])
      have s6 := same_new ho3 (.lst [.ref o1, .ref o2])
      have s46 := s4.trans (s5.trans s6)
      refine ⟨U, o3, uxs, _, rfl, rfl, s46 _ _ k4, upd_same, le_line (by show _ + 2 ≤ _; omega), fun o4 ho4 => ?_⟩
      have s7 := same_new ho4 (.lst (uxs ++ [.ref o1, .ref o2]))
      have s47 := s46.trans s7
      have hpk := TT.mono k2 _ _ hp
      have hck := TT.mono k2 _ _ hc
      rw [hInv]
      refine ⟨k1.trans s47, fun b xs e => s47 _ _ (k2 b xs e), o4, uxs ++ [.ref o1, .ref o2], same_free (k1.trans s46) ho4, upd_same, ?_, by rw [List.length_append]; show _ + 2 ≤ _; omega, rfl⟩
      rw [hX]
      refine Al2.app (uses_same s47 k5) (.cons ⟨o1, y1, .str (Str.ofString "scalar"), .non, rfl, (s5.trans (s6.trans s7)) _ _ upd_same, hpk.same s47⟩ (.cons ⟨o2, y2, .str (Str.ofString "scalar"), .non, rfl, (s6.trans s7) _ _ upd_same, hck.same s47⟩ .nil))
    clear k1 k2 k3 k4 k5 k6
    rintro σ H4 iv2
    have hcur := iv2
    rw [hInv] at hcur
    obtain ⟨k1, k2, U, uxs, k3, k4, k5, k6, rfl⟩ := hcur
    exact ⟨_, rfl, ac', _, 0, _, rfl, rfl, SqT.of (k2 _ _ hA'), rfl, rfl, _, rfl, iteF (fin (by rw [hX']; exact iv2) (by omega))⟩
  | rem p =>
    have l2 : (acPl (.rem p)).length ≤ 2 := by show 1 ≤ 2; decide
    have hX : X1 = X0 ++ [p] := hT
    obtain ⟨ac', axs', rfl, hA', hts'⟩ := dyj.tup_inv
    obtain ⟨w1, y1, rfl, g1, hp⟩ := hts'.two
    cases g1
    refine ⟨Inv X0, ?_, ?_⟩
    · refine ⟨_, rfl, ac', _, 0, _, rfl, rfl, SqT.of hA', rfl, (by show 2 ≤ sizeLine; decide), fun o0 ho0 => ⟨o0, _, rfl, .inl (SqL.of upd_same), rfl, rfl, _, rfl, ?_⟩⟩
      rw [show inV (V.str (Str.ofString "remove")) [V.str (Str.ofString "set"), V.str (Str.ofString "default")] = false from by decide +kernel]
      have s3 := same_new ho0 (.lst [V.str (Str.ofString "set"), V.str (Str.ofString "default")])
      subst hInv
      obtain ⟨k1, k2, U, uxs, k3, k4, k5, k6, k7⟩ := iv0
      exact iteF ⟨k1.trans s3, fun b xs e => s3 _ _ (k2 b xs e), U, uxs, k3, s3 _ _ k4, uses_same s3 k5, k6, k7⟩
    rintro σ H3 iv1
    have hcur := iv1
    rw [hInv] at hcur
    obtain ⟨k1, k2, U, uxs, k3, k4, k5, k6, rfl⟩ := hcur
    refine ⟨Inv X0, ⟨_, rfl, ac', _, 0, _, rfl, rfl, SqT.of (k2 _ _ hA'), rfl, rfl, _, rfl, iteF iv1⟩, ?_⟩
    clear k1 k2 k3 k4 k5 k6
    rintro σ H4 iv2
    have hcur := iv2
    rw [hInv] at hcur
    obtain ⟨k1, k2, U, uxs, k3, k4, k5, k6, rfl⟩ := hcur
    have hA3 := SqT.of (K := K) (k2 _ _ hA')
    have k6 : uxs.length ≤ 1000 + 2 * j := by rw [lx k5]; exact lX0
    refine ⟨_, rfl, ac', _, 0, _, rfl, rfl, hA3, rfl, rfl, _, rfl, iteT ?_⟩
    refine ⟨_, rfl, .inl ⟨rfl, _, SqL.of k4⟩, _, rfl, ac', _, 1, _, rfl, rfl, hA3, rfl, (by show 3 ≤ sizeLine; decide), fun o2 ho2 => ?_⟩
    have s5 := same_new ho2 (.tup [y1, .str (Str.ofString "removed"), .non])
    have eU5 := s5 _ _ k4
    refine ⟨U, uxs, _, rfl, rfl, eU5, lt_line (by omega), fin ?_ (by omega)⟩
    rw [hInv]
    refine ⟨(k1.trans s5).late k3, fun b xs e => tup_lput eU5 (s5 _ _ (k2 b xs e)), U, uxs ++ [.ref o2], k3, upd_same, ?_, by rw [List.length_append]; show _ + 1 ≤ _; omega, rfl⟩
    rw [hX]
    exact Al2.app (uses_lput eU5 (uses_same s5 k5)) (.cons (UseV.mono (fun _ _ e => tup_lput eU5 e) ⟨o2, y1, .str (Str.ofString "removed"), .non, rfl, upd_same, (TT.mono k2 _ _ hp).same s5⟩) .nil)
  | rej z =>
    have l2 : (acPl (.rej z)).length ≤ 2 := by show 0 ≤ 2; decide
    have hX : X1 = X0 ++ [] := hT
    obtain ⟨ac', axs', rfl, hA', hts'⟩ := dyj.tup_inv
    obtain ⟨w1, y1, rfl, g1, hp⟩ := hts'.two
    cases g1
    have hX' : X1 = X0 := by rw [hX, List.append_nil]
    refine ⟨Inv X0, ?_, ?_⟩
    · refine ⟨_, rfl, ac', _, 0, _, rfl, rfl, SqT.of hA', rfl, (by show 2 ≤ sizeLine; decide), fun o0 ho0 => ⟨o0, _, rfl, .inl (SqL.of upd_same), rfl, rfl, _, rfl, ?_⟩⟩
      rw [show inV (V.str (Str.ofString "reject")) [V.str (Str.ofString "set"), V.str (Str.ofString "default")] = false from by decide +kernel]
      have s3 := same_new ho0 (.lst [V.str (Str.ofString "set"), V.str (Str.ofString "default")])
      subst hInv
      obtain ⟨k1, k2, U, uxs, k3, k4, k5, k6, k7⟩ := iv0
      exact iteF ⟨k1.trans s3, fun b xs e => s3 _ _ (k2 b xs e), U, uxs, k3, s3 _ _ k4, uses_same s3 k5, k6, k7⟩
    rintro σ H3 iv1
    have hcur := iv1
    rw [hInv] at hcur
    obtain ⟨k1, k2, U, uxs, k3, k4, k5, k6, rfl⟩ := hcur
    refine ⟨Inv X0, ⟨_, rfl, ac', _, 0, _, rfl, rfl, SqT.of (k2 _ _ hA'), rfl, rfl, _, rfl, iteF iv1⟩, ?_⟩
    clear k1 k2 k3 k4 k5 k6
    rintro σ H4 iv2
    have hcur := iv2
    rw [hInv] at hcur
    obtain ⟨k1, k2, U, uxs, k3, k4, k5, k6, rfl⟩ := hcur
    exact ⟨_, rfl, ac', _, 0, _, rfl, rfl, SqT.of (k2 _ _ hA'), rfl, rfl, _, rfl, iteF (fin (by rw [hX']; exact iv2) (by omega))⟩
/-! ### _law_seen -/
theorem sc_law_seen : FnScope ["rule", "flat", "places", "found", "spot", "use", "place"] ["rule", "flat"] (defScope s_law_seen) := ⟨rfl, rfl, rfl, by decide +kernel, rfl, by decide +kernel, by decide +kernel⟩

theorem acPl_len : ∀ as : List Ac, (as.flatMap acPl).length ≤ 2 * as.length
  | [] => Nat.le_refl _
  | a :: as => by
    rw [List.flatMap_cons, List.length_append, List.length_cons]
    have h := acPl_len as
    have : (acPl a).length ≤ 2 := by cases a <;> simp [acPl]
    omega


def seenF (fl : Fl) (r : Ru) : List (List Str) := (spotsO fl r.col).flatMap (fun s => (rulePl r).map (plAt s) ++ [s]) ++ (match r.col with | none => [] | some c => [c])
def sp_law_seen (K : PySem.W.Frag) : Sp := fun vs H Q _ => ∃ (v : V) (d : Addr) (r : Ru) (fl : Fl) (us : List Str), vs = [v, .ref d] ∧ TT H v (ruE r) ∧ FlatAt K H d fl ∧ Wf us fl ∧ (∀ z ∈ us, z.length ≤ 1000) ∧ fl.length ≤ 100 ∧ (∀ p, r.col = some p → p.length ≤ 50) ∧ Cd.depO r.c ≤ 38 ∧ (cdPlO r.c).length ≤ 100 ∧ r.as.length ≤ 100 ∧ (∀ s ∈ spotsO fl r.col, ∀ p ∈ rulePl r, PlB s p) ∧ ∀ o xs H', Same H H' → H' o = some (.lst xs) → Al2 (PthV H') xs (seenF fl r) → Q (.ref o) H'

theorem ok_law_seen {f : Addr} {fd : FuncData} (F : Fun K "_law_seen" "_law_seen" s_law_seen f fd) (T : Top K w mg) {a_law_at : Addr} {d_law_at : FuncData} (C_law_at : Cal P w K mg base "_law_at" 1 ["place", "spot"] sp_law_at a_law_at d_law_at) {a_law_spots : Addr} {d_law_spots : FuncData} (C_law_spots : Cal P w K mg base "_law_spots" 2 ["flat", "collection"] sp_law_spots a_law_spots d_law_spots) {a_law_uses : Addr} {d_law_uses : FuncData} (C_law_uses : Cal P w K mg base "_law_uses" 41 ["rule"] sp_law_uses a_law_uses d_law_uses) : FnOk P w K mg base CX0 42 f fd ["rule", "flat"] (sp_law_seen K) := by
  have sc := sc_law_seen
  refine F.ok sc (fun vs H Q E h => ?_) (fun cdv A outer s H vs Q E hr h => ?_)
  · obtain ⟨v, d, r, fl, us, rfl, _⟩ := h
    rfl
  obtain ⟨v, d, r, fl, us, rfl, hv, hF, wf, hks, lf, lcol, hd, hl, lra, hpb, q⟩ := h
  refine ⟨_, (pss_cons (ps_setLc (i := 2) (own := [("use", 5)]) (g := gName 5) (tt := tYes) rfl sc.nd rfl rfl (sw_true rfl rfl rfl (by decide +kernel)) (kpi_list (K := K) rfl (pe_call C_law_uses.ok (hr.mono (by omega)) (by rfl) C_law_uses.m C_law_uses.kp C_law_uses.b .nil pass0 (pa_cons (pv 0) pa_nil))) (blkOk_by (N := ["rule", "flat", "places", "found", "spot", "use", "place"]) (sc := defScope s_law_seen) (by decide +kernel)) (fun _ _ _ _ _ => pg_name (i := 5) sc.nd rfl (Or.inl rfl)) (fun _ _ _ _ _ => pts_nil) (fun _ _ _ _ _ => (pe_ix (kx_tup (K := K) rfl) (pv 5) pe_int (fun _ _ => rfl))))
    (pss_cons (ps_set (i := 3) sc.nd rfl (Or.inl rfl) (pe_lst pa_nil))
    (pss_cons (ps_for PassesOwn.never rfl (kpi_list (K := K) rfl (pe_call C_law_spots.ok (hr.mono (by omega)) (by rfl) C_law_spots.m C_law_spots.kp C_law_spots.b .nil pass0 (pa_cons (pv 1) (pa_cons (pe_ix (kx_tup (K := K) rfl) (pv 0) pe_int (fun _ _ => rfl)) pa_nil)))) (pg_name (i := 4) sc.nd rfl (Or.inr rfl))
      (pss_cons (ps_set (i := 3) sc.nd rfl (Or.inl rfl) (pe_op op_cat (pv 3) (pe_lc (own := [("place", 6)]) (g := gName 6) (tt := tYes) rfl sc.nd (kpi_list (K := K) rfl (pv 2)) (blkOk_by (N := ["rule", "flat", "places", "found", "spot", "use", "place"]) (sc := defScope s_law_seen) (by decide +kernel)) (fun _ _ _ _ _ => pg_name (i := 6) sc.nd rfl (Or.inl rfl)) (fun _ _ _ _ _ => pts_nil) (fun _ _ _ _ _ => (pe_call C_law_at.ok (hr.mono (by omega)) (by rfl) C_law_at.m C_law_at.kp C_law_at.b .nil pass0 (pa_cons (pv 6) (pa_cons (pv 4) pa_nil)))))))
      (pss_one (ps_expr (pe_bm PySem.F.plainAttrs_list PySem.F.slot_list_append PySem.F.type_list_append mt_append (pv 3) (pa_cons (pv 4) pa_nil))))))
    (C8.pss_cut (ps_if (pt_cmpR op_notN (pe_ix (kx_tup (K := K) rfl) (pv 0) pe_int (fun _ _ => rfl)) pe_non (nomark _))
      (pss_one (ps_expr (pe_bm PySem.F.plainAttrs_list PySem.F.slot_list_append PySem.F.type_list_append mt_append (pv 3) (pa_cons (pe_ix (kx_tup (K := K) rfl) (pv 0) pe_int (fun _ _ => rfl)) pa_nil))))
      pss_nil)
    (pss_one (ps_ret (pv 3))))))), ?_⟩

  have lrp : (rulePl r).length ≤ 300 := by
    unfold rulePl
    rw [List.length_append]
    have := acPl_len r.as
    omega
  have hv0 := hv
  obtain ⟨a, xs, rfl, hS, hts⟩ := hv.tup_inv
  obtain ⟨x1, x2, x3, rfl, h1, h2, h3⟩ := hts.three
  -- the places
  refine ⟨_, rfl, .ref a, r, rfl, hv0, hd, by omega, lra, fun U uxs H1 s1 hU eU alU => ⟨U, rfl, ⟨_, SqL.of eU⟩, fun D hD => ?_⟩⟩
  have lu := alU.len
  refine lc_acc (walk_list (K := K) (a := U) (xs := uxs)) (fun i acc H' => Same H1 H' ∧ Al2 (fun v p => TT H' v (plD p)) acc ((rulePl r).take i)) ⟨same_new hD _, .nil⟩ (fun i acc H' _ _ h => SqL.of (h.1 _ _ eU)) ?_ ?_
  · rintro i acc x H2' H2 hi eD el ⟨s2, al⟩ ⟨rfl, hx⟩
    obtain ⟨p, ep, hu⟩ := alU.at hx
    obtain ⟨hi2, ep2⟩ := List.getElem?_eq_some_iff.mp ep
    obtain ⟨ua, pv, y1, y2, rfl, k1, k2⟩ := hu
    refine ⟨rfl, _, rfl, ua, _, 0, _, rfl, rfl, SqT.of (s2 _ _ k1), rfl, ?_⟩
    refine acc_step eD el (by omega) ⟨s2.late hD, ?_⟩
    rw [List.take_succ_eq_append_getElem hi2, ep2]
    exact Al2.app (al.mono fun _ _ h => h.lput eD) (.cons ((k2.same s2).lput eD) .nil)
  rintro pacc H2 eD el ⟨s2, alP⟩
  rw [lu, List.take_length] at alP
  have lp := alP.len
  have s02 := s1.trans s2
  have nDx : H D = none := same_free s1 hD
  clear s1 s2 eU alU
  -- what is seen
  refine ⟨(by show 0 ≤ sizeLine; decide), fun F0 hF0 => ?_⟩
  have s3 := same_new hF0 (.lst [])
  have eF0 : (upd H2 F0 (.lst [])) F0 = some (.lst []) := upd_same
  have s03 := s02.trans s3
  refine ⟨_, rfl, _, rfl, a, _, 0, _, rfl, rfl, SqT.of (s03 _ _ hS), rfl, d, x1, us, fl, r.col, rfl, hF.same s03, wf, hks, by omega, h1.same s03, lcol, fun SL sxs H4 s4 hSL eS alS => ?_⟩
  have s24 := s3.trans s4
  have eF4 := s4 _ _ eF0
  have nSF : SL ≠ F0 := (ne_of_none eF0 hSL).symm
  have ls := alS.len
  have lsp : (spotsO fl r.col).length ≤ 101 := by
    have e : spotsO fl r.col = (spotsQ fl r.col).map fun s => s.getD [] := spotsO_Q fl r.col (f := fun _ => true)
    rw [e, List.length_map]
    have := spotsQ_len fl r.col
    omega
  refine ⟨SL, rfl, ⟨_, SqL.of eS⟩, ?_⟩
  refine for_it (walk_list (K := K) (a := SL) (xs := sxs)) (fun i σ H' => Same H2 H' ∧ H' SL = some (.lst sxs) ∧ (∀ b zs, H4 b = some (.tup zs) → H' b = some (.tup zs)) ∧ ∃ (F : Addr) (fxs : List V) (v4 : Option V), H2 F = none ∧ F ≠ SL ∧ H' F = some (.lst fxs) ∧ Al2 (PthV H') fxs (((spotsO fl r.col).take i).flatMap fun s => (rulePl r).map (plAt s) ++ [s]) ∧ fxs.length ≤ 301 * i ∧ σ = [some (.ref a), some (.ref d), some (.ref D), some (.ref F), v4, none, none])
    ⟨s24, eS, fun _ _ h => h, F0, [], _, hF0, nSF.symm, eF4, .nil, Nat.zero_le _, rfl⟩ (fun i σ H' _ h => SqL.of h.2.1) ?_ ?_
  · rintro i y σ H5' H5 hi ⟨s5, eS5, kp5, F, fxs, v4, hFn, nFS, eF, alF, lf5, rfl⟩ ⟨rfl, hy⟩
    obtain ⟨sp, esp, b, rfl, hb⟩ := alS.at hy
    obtain ⟨hi2, esp2⟩ := List.getElem?_eq_some_iff.mp esp
    have hb5 := kp5 _ _ hb
    have eD5 := s5 _ _ eD
    have alP5 : Al2 (fun v p => TT H5 v (plD p)) pacc (rulePl r) := alP.mono fun _ _ h => h.same s5
    refine ⟨_, rfl, _, rfl, D, rfl, ⟨_, SqL.of eD5⟩, fun D2 hD2 => ?_⟩
    refine lc_acc (walk_list (K := K) (a := D) (xs := pacc)) (fun k acc H' => Same H5 H' ∧ Al2 (PthV H') acc (((rulePl r).take k).map (plAt sp))) ⟨same_new hD2 _, .nil⟩ (fun k acc H' _ _ h => SqL.of (h.1 _ _ eD5)) ?_ ?_
    · rintro k acc x H6' H6 hk eD2 el2 ⟨s6, al⟩ ⟨rfl, hx⟩
      obtain ⟨p, ep, hp⟩ := alP5.at hx
      obtain ⟨hk2, ep2⟩ := List.getElem?_eq_some_iff.mp ep
      refine ⟨rfl, _, rfl, _, rfl, x, b, p, sp, rfl, hp.same s6, s6 _ _ hb5, hpb sp (List.mem_of_getElem? esp) p (List.mem_of_getElem? ep), fun r7 H7 s7 hr7 => ?_⟩
      have eD7 := s7 _ _ eD2
      refine acc_step eD7 el2 (by omega) ⟨(s6.trans s7).late hD2, ?_⟩
      rw [List.take_succ_eq_append_getElem hk2, ep2, List.map_append]
      exact Al2.app ((s7.pths al).mono fun _ _ h => h.mono fun _ _ e => tup_lput eD7 e) (.cons ⟨r7, rfl, tup_lput eD7 hr7⟩ .nil)
    rintro acc H6 eD2 el2 ⟨s6, al⟩
    rw [lp, List.take_length] at al
    have la := al.len
    rw [List.length_map] at la
    have eF6 := s6 _ _ eF
    have li : i < 101 := by omega
    refine ⟨F, D2, fxs, acc, rfl, rfl, eF6, eD2, le_line (by omega), fun F2 hF2 => ?_⟩
    have s7 := same_new hF2 (.lst (fxs ++ acc))
    have s57 := s6.trans s7
    have eF2 : (upd H6 F2 (.lst (fxs ++ acc))) F2 = some (.lst (fxs ++ acc)) := upd_same
    have alF7 := (s57.pths alF)
    have al7 := s7.pths al
    have hb7 := s57 _ _ hb5
    have eS7 := s57 _ _ eS5
    have hFn2 : H2 F2 = none := same_free (s5.trans s6) hF2
    have nF2S : F2 ≠ SL := (ne_of_none (s6 _ _ eS5) hF2).symm
    have kp7 : ∀ b zs, H4 b = some (.tup zs) → (upd H6 F2 (.lst (fxs ++ acc))) b = some (.tup zs) := fun b zs e => s57 _ _ (kp5 b zs e)
    have s27 := s5.trans s57
    generalize upd H6 F2 (.lst (fxs ++ acc)) = H7 at *
    refine ⟨_, rfl, .inl ⟨rfl, _, SqL.of eF2⟩, _, rfl, F2, _, _, rfl, rfl, eF2, lt_line (by rw [List.length_append]; omega), ?_⟩
    refine ⟨s27.late hFn2, by rw [upd_ne nF2S.symm]; exact eS7, fun b zs e => tup_lput eF2 (kp7 b zs e), F2, (fxs ++ acc) ++ [.ref b], _, hFn2, nF2S, upd_same, ?_, by rw [List.length_append, List.length_append]; show _ + 1 ≤ _; omega, rfl⟩
    rw [List.take_succ_eq_append_getElem hi2, esp2, List.flatMap_append, List.flatMap_cons, List.flatMap_nil, List.append_nil]
    have e1 : ∀ {α : Type} (x y z : List α), x ++ (y ++ z) = (x ++ y) ++ z := fun x y z => (List.append_assoc x y z).symm
    rw [e1]
    exact (Al2.app (Al2.app alF7 al7) (.cons ⟨b, rfl, hb7⟩ .nil)).mono fun _ _ h => h.mono fun _ _ e => tup_lput eF2 e
  rintro σ H5 ⟨s5, eS5, kp5, F, fxs, v4, hFn, nFS, eF, alF, lf5, rfl⟩
  rw [ls, List.take_length] at alF
  have s05 := s02.trans s5
  have hS5 := SqT.of (K := K) (s05 _ _ hS)
  have h15 := h1.same s05
  refine ⟨fun σ H' => Same H H' ∧ ∃ F fxs, H' F = some (.lst fxs) ∧ Al2 (PthV H') fxs (seenF fl r) ∧ σ = [some (.ref a), some (.ref d), some (.ref D), some (.ref F), v4, none, none], ?_, ?_⟩
  · refine ⟨_, rfl, a, _, 0, _, rfl, rfl, hS5, rfl, rfl, _, rfl, ?_⟩
    cases hc : r.col with
    | none =>
      rw [hc] at h15
      cases h15
      refine iteF ⟨s05, F, fxs, eF, ?_, rfl⟩
      unfold seenF
      rw [hc] at alF ⊢
      show Al2 _ _ (_ ++ [])
      rw [List.append_nil]
      exact alF
    | some c =>
      rw [hc] at h15
      obtain ⟨cb, e1, hcb⟩ := TT.path (p := c) h15
      subst e1
      refine iteT ⟨_, rfl, .inl ⟨rfl, _, SqL.of eF⟩, _, rfl, a, _, 0, _, rfl, rfl, hS5, rfl, F, fxs, _, rfl, rfl, eF, lt_line (by omega), ?_⟩
      refine ⟨s05.late (same_free s02 hFn), F, fxs ++ [.ref cb], upd_same, ?_, rfl⟩
      unfold seenF
      rw [hc] at alF ⊢
      exact Al2.app (alF.mono fun _ _ h => h.mono fun _ _ e => tup_lput eF e) (.cons ⟨cb, rfl, tup_lput eF hcb⟩ .nil)
  · rintro σ H6 ⟨s6, F, fxs, eF, al, rfl⟩
    exact ⟨_, rfl, q F fxs H6 s6 eF al⟩
/-! ### _law_is_unseen -/
theorem sc_law_is_unseen : FnScope ["path", "seen", "rule", "flat", "each"] ["path", "seen", "rule", "flat"] (defScope s_law_is_unseen) := ⟨rfl, rfl, rfl, by decide +kernel, rfl, by decide +kernel, by decide +kernel⟩

theorem eqv_recd3 (o : Option Sc) : PyData.eqv (scO o).py (Dt.tup (scD .recd)).py = (match o with | some .recd => true | _ => false) := by
  cases o with
  | none => decide +kernel
  | some e =>
    cases e with
    | recd => decide +kernel
    | null => decide +kernel
    | fals => decide +kernel
    | tru => decide +kernel
    | num n => rfl
    | text n => rfl
theorem eqv_path (p q : List Str) : PyData.eqv (ptD p).py (ptD q).py = decide (p = q) := by
  show PyData.eqv (.tuple (Dt.pys (p.map .str))) (.tuple (Dt.pys (q.map .str))) = _
  rw [pys_map, pys_map, List.map_map, List.map_map]
  exact eqvs_strs p q
theorem eqv_ptO (p : List Str) (c : Option (List Str)) : PyData.eqv (ptD p).py (ptO c).py = decide (some p = c) := by
  cases c with
  | none => rfl
  | some q =>
    show PyData.eqv (ptD p).py (ptD q).py = _
    rw [eqv_path]
    by_cases z : p = q
    · subst z; simp
    · rw [decide_eq_false z, decide_eq_false (fun h => z (Option.some.inj h))]
theorem lay_path {p : List Str} (h : ∀ z ∈ p, SgT z) : (ptD p).lay = true := by
  show Dt.lays (p.map .str) = true
  exact lays_of fun d2 hd2 => by
    obtain ⟨z, hz, rfl⟩ := List.mem_map.mp hd2
    exact strOk_sg (h z hz)


def UnS (seen : List (List Str)) (col : Option (List Str)) (fl : Fl) (p : List Str) : Prop := (∀ q ∈ seen, q.take p.length ≠ p) ∧ (∀ c, col = some c → p.dropLast ≠ c) ∧ (p.dropLast = [] ∨ getF fl p.dropLast = some .recd)
def sp_law_is_unseen (K : PySem.W.Frag) : Sp := fun vs H Q _ => ∃ (b S : Addr) (v : V) (d : Addr) (p : List Str) (sv : List V) (seen : List (List Str)) (r : Ru) (fl : Fl), vs = [.ref b, .ref S, v, .ref d] ∧ H b = some (.tup (p.map V.str)) ∧ p ≠ [] ∧ (∀ z ∈ p, SgT z) ∧ H S = some (.lst sv) ∧ Al2 (PthV H) sv seen ∧ seen.length ≤ 100000 ∧ (∀ q ∈ seen, ∀ z ∈ q, SgT z) ∧ TT H v (ruE r) ∧ (∀ c, r.col = some c → ∀ z ∈ c, SgT z) ∧ FlatAt K H d fl ∧ (∀ p c, getF fl p = some c → scOk c) ∧ ∀ (x : Bool) H', Same H H' → (x = true → UnS seen r.col fl p) → Q (.bl x) H'

theorem ok_law_is_unseen {f : Addr} {fd : FuncData} (F : Fun K "_law_is_unseen" "_law_is_unseen" s_law_is_unseen f fd) (T : Top K w mg) : FnOk P w K mg base CX0 1 f fd ["path", "seen", "rule", "flat"] (sp_law_is_unseen K) := by
  have sc := sc_law_is_unseen
  refine F.ok sc (fun vs H Q E h => ?_) (fun cdv A outer s H vs Q E hr h => ?_)
  · obtain ⟨b, S, v, d, p, sv, seen, r, fl, rfl, _⟩ := h
    rfl
  obtain ⟨b, S, v, d, p, sv, seen, r, fl, rfl, hb, hne, psg, hSv, als, lse, ssg, hv, csg, hF, sc0, q⟩ := h
  refine ⟨_, (pss_cons (ps_if (PW.pt (pw_or (pt_cmpR (kop_neD (K := K) rfl hr.units) (pe_lc (own := [("each", 4)]) (g := gName 4) rfl sc.nd (kpi_list (K := K) rfl (pv 1)) (blkOk_by (N := ["path", "seen", "rule", "flat", "each"]) (sc := defScope s_law_is_unseen) (by decide +kernel)) (fun _ _ _ _ _ => pg_name (i := 4) sc.nd rfl (Or.inl rfl)) (fun _ _ _ _ _ => pts_one (pt_cmpR (op_eqT (K := K) rfl hr.units) (pe_slice (ksl_tup (K := K) rfl) (pv 4) po_none (po_some (pe_callB (kc_lenS (K := K) rfl) (by rfl) T.z_len (by decide +kernel) (pa_cons (pv 0) pa_nil)))) (pv 0) (nomark _))) (fun _ _ _ _ _ => (pv 4))) (pe_lst pa_nil) (nomark _)) (pw_or1 (pt_cmpR (kop_eqD (K := K) rfl hr.units) (pe_slice (ksl_tup (K := K) rfl) (pv 0) po_none (po_some (pe_un un_neg pe_int))) (pe_ix (kx_tup (K := K) rfl) (pv 2) pe_int (fun _ _ => rfl)) (nomark _)))))
      (pss_one (ps_ret pe_bl))
      pss_nil)
    (pss_one (ps_ret (pe_or (pe_cmpR (kop_eqD (K := K) rfl hr.units) (pe_slice (ksl_tup (K := K) rfl) (pv 0) po_none (po_some (pe_un un_neg pe_int))) (pe_tup pa_nil) (nomark _)) (pe_one (pe_cmpR (kop_eqD (K := K) rfl hr.units) (pe_dget1 (units1 hr.units) (pv 3) (pe_slice (ksl_tup (K := K) rfl) (pv 0) po_none (po_some (pe_un un_neg pe_int))) ⟨rfl, rfl, rfl, rfl⟩) (pe_tup (pa_cons pe_str pa_nil)) (nomark _))))))), ?_⟩

  obtain ⟨a, xs, rfl, hS, hts⟩ := hv.tup_inv
  obtain ⟨x1, x2, x3, rfl, h1, h2, h3⟩ := hts.three
  have ls := als.len
  have lpm : (p.map V.str).length = p.length := List.length_map _
  have dpp := deeps_strs p
  -- is one seen at the path, or below it
  refine ⟨_, rfl, S, rfl, ⟨_, SqL.of hSv⟩, fun D hD => ?_⟩
  refine lc_it (walk_list (K := K) (a := S) (xs := sv)) (fun j H' => Same H H' ∧ ∃ acc, H' D = some (.lst acc) ∧ acc.length ≤ j ∧ Al2 (PthV H') acc ((seen.take j).filter fun q => decide (q.take p.length = p))) ⟨same_new hD _, [], upd_same, Nat.le_refl _, .nil⟩ (fun j H' _ h => SqL.of (h.1 _ _ hSv)) ?_ ?_
  · rintro j y H1' H1 hj ⟨s1, acc, eD, la, hacc⟩ ⟨rfl, hy⟩
    obtain ⟨x, ex, xb, rfl, hxb⟩ := als.at hy
    obtain ⟨hj2, ex2⟩ := List.getElem?_eq_some_iff.mp ex
    have hb1 := s1 _ _ hb
    have hxb1 := s1 _ _ hxb
    refine ⟨rfl, _, rfl, _, rfl, b, _, rfl, .inr (SqT.of hb1), _, rfl, slA_of (SqT.of hxb1) fun w1 H2 s2 hw1 => ?_⟩
    rw [cutV_pre (by omega), Int.toNat_natCast, lpm, ← List.map_take] at hw1
    have dtk := deeps_strs (x.take p.length)
    refine ⟨_, rfl, (x.take p.length).map .str, p.map .str, .tup hw1 (DTs.strs _), .tup (SqT.of (s2 _ _ hb1)) (DTs.strs _), by omega, _, rfl, ?_⟩
    rw [eqbs_strs]
    have hT : (seen.take (j + 1)).filter (fun q => decide (q.take p.length = p)) = (seen.take j).filter (fun q => decide (q.take p.length = p)) ++ (if decide (x.take p.length = p) = true then [x] else []) := by
      rw [List.take_succ_eq_append_getElem hj2, ex2, List.filter_append, List.filter_cons, List.filter_nil]
    have eD2 := s2 _ _ eD
    refine ite2 (fun z => ?_) (fun z => ?_)
    · refine ⟨_, rfl, acc, eD2, lt_line (by omega), (s1.trans s2).late hD, acc ++ [.ref xb], upd_same, by rw [List.length_append]; show _ + 1 ≤ _; omega, ?_⟩
      rw [hT, if_pos z]
      exact Al2.app ((s2.pths hacc).mono fun _ _ h => h.mono fun _ _ e => tup_lput eD2 e) (.cons ⟨xb, rfl, tup_lput eD2 (s2 _ _ hxb1)⟩ .nil)
    · refine ⟨s1.trans s2, acc, eD2, by omega, ?_⟩
      rw [hT, if_neg z, List.append_nil]
      exact s2.pths hacc
  rintro H1 ⟨s1, acc, eD, la, hacc⟩
  rw [ls, List.take_length] at hacc
  obtain ⟨hit, hhit⟩ : ∃ hit, hit = seen.filter fun q => decide (q.take p.length = p) := ⟨_, rfl⟩
  rw [← hhit] at hacc
  have lay1 : ∀ {L : List (List Str)}, (∀ q ∈ L, ∀ z ∈ q, SgT z) → Dt.lays (L.map ptD) = true := fun {L} h => lays_of fun dd hdd => by
    obtain ⟨p, hp, rfl⟩ := List.mem_map.mp hdd
    show Dt.lays (p.map .str) = true
    exact lays_of fun d2 hd2 => by
      obtain ⟨z, hz, rfl⟩ := List.mem_map.mp hd2
      exact strOk_sg (h p hp z hz)
  have deep1 : ∀ {L : List (List Str)}, Dt.deeps (L.map ptD) ≤ 60 := fun {L} => deeps_le fun dd hdd => by
    obtain ⟨p, _, rfl⟩ := List.mem_map.mp hdd
    have := deep_path p
    omega
  refine ⟨(by show 0 ≤ sizeLine; decide), fun o ho => ?_⟩
  have s2 := same_new ho (.lst [])
  refine ne_nil (SqL.of (s2 _ _ eD)) (pths_dts (s2.pths hacc)) (lay1 fun q hq => ssg q (by rw [hhit] at hq; exact (List.mem_filter.mp hq).1)) deep1 (SqL.of upd_same) ⟨_, rfl, ?_⟩
  have s02 := s1.trans s2
  generalize upd H1 o (.lst []) = H2 at *
  cases eh : hit with
  | cons h0 hr => exact iteT (iteT (q false _ s02 (fun z => by cases z)))
  | nil =>
  have un1 : ∀ q ∈ seen, q.take p.length ≠ p := fun q hq z => by
    have : q ∈ hit := by rw [hhit]; exact List.mem_filter.mpr ⟨hq, decide_eq_true z⟩
    rw [eh] at this
    cases this
  refine iteF ?_
  obtain ⟨dl, hdl⟩ : ∃ dl, dl = p.dropLast := ⟨_, rfl⟩
  have dsg : ∀ z ∈ dl, SgT z := fun z hz => psg z (by rw [hdl] at hz; exact List.dropLast_subset p hz)
  have cutE : ∀ {xs : List V}, xs = cutV (p.map V.str) none (some (-1)) → xs = dl.map V.str := fun {xs} e => by
    rw [e, cutV_neg1, List.length_map, ← List.map_take, hdl, List.dropLast_eq_take]
  have ddl := deep_path dl
  have hb2 := s02 _ _ hb
  refine ⟨_, rfl, _, rfl, _, rfl, slA_tr hb2 fun w1 H3 s3 hw1 => ?_⟩
  rw [cutE rfl] at hw1
  have s03 := s02.trans s3
  have h13 := (h1.same s03).to (K := K)
  have layc : (ptO r.col).lay = true := by
    cases e : r.col with
    | none => rfl
    | some c => exact lay_path (csg c e)
  have dpc : (ptO r.col).deep ≤ 60 := by
    cases e : r.col with
    | none => show 1 ≤ 60; decide
    | some c => have := deep_path c; show (ptD c).deep ≤ 60; omega
  refine ⟨_, rfl, a, _, 0, _, rfl, rfl, SqT.of (s03 _ _ hS), rfl, _, _, DT.dp _ _ (DT.path (SqT.of hw1)), DT.dp _ _ h13, shaped_dt (lay_path dsg) (by omega), shaped_dt layc dpc, _, rfl, ?_⟩
  rw [eqv_ptO]
  by_cases ec : some dl = r.col
  · rw [decide_eq_true ec]
    exact iteT (q false _ s03 (fun z => by cases z))
  rw [decide_eq_false ec]
  refine iteF ?_
  have un2 : ∀ c, r.col = some c → p.dropLast ≠ c := fun c e z => ec (by rw [e, hdl, z])
  -- what holds it
  refine ⟨_, rfl, _, rfl, _, rfl, slA_tr (s3 _ _ hb2) fun w2 H4 s4 hw2 => ⟨(by show 0 ≤ sizeLine; decide), fun o5 ho5 => ?_⟩⟩
  rw [cutE rfl] at hw2
  have s5 := same_new ho5 (.tup [])
  have s05 := s03.trans (s4.trans s5)
  refine ⟨_, _, DT.dp _ _ (DT.path (SqT.of (s5 _ _ hw2))), DT.dp _ _ (DT.path (p := []) (SqT.of upd_same)), shaped_dt (lay_path dsg) (by omega), shaped_dt (lay_path (p := []) (fun _ h => by cases h)) (by show 1 ≤ 60; decide), ?_⟩
  rw [eqv_path]
  refine ⟨_, rfl, ?_⟩
  by_cases ed : dl = []
  · rw [decide_eq_true ed]
    exact iteT (q true _ s05 (fun _ => ⟨un1, un2, .inl (by rw [← hdl]; exact ed)⟩))
  rw [decide_eq_false ed]
  obtain ⟨kvs, hd, hk⟩ := (hF.same s05).ex
  refine iteF ⟨_, rfl, d, rfl, .inr ⟨kvs, .inl hd⟩, _, rfl, _, rfl, _, rfl, slA_tr (s05 _ _ hb) fun w3 H6 s6 hw3 => ?_⟩
  rw [cutE rfl] at hw3
  obtain ⟨oo, hoo, hcc⟩ := dget_fl ((hF.same s05).same s6) hw3
  refine ⟨oo, hoo, (by show 1 ≤ sizeLine; decide), fun o7 ho7 => ?_⟩
  have s7 := same_new ho7 (.tup [V.str (Str.ofString "record")])
  have drec : DT K (upd H6 o7 (.tup [V.str (Str.ofString "record")])) (.ref o7) (.tup (scD .recd)) := .tup (SqT.of upd_same) (.cons (.str _) .nil)
  have du : DT K H6 (oo.getD .non) (scO (getF fl dl)) := by
    rcases hcc with ⟨rfl, g⟩ | ⟨u, e, rfl, g, du⟩
    · rw [g]; exact .non
    · rw [g]; exact du
  refine ⟨_, _, DT.dp _ _ (du.same s7), DT.dp _ _ drec, shaped_dt (lay_scO fun d hd => sc0 _ d hd) (by have := deep_scO (getF fl dl); omega), by decide +kernel, ?_⟩
  rw [eqv_recd3]
  refine q _ _ (s05.trans (s6.trans s7)) (fun h => ⟨un1, un2, .inr ?_⟩)
  rw [← hdl]
  cases e : getF fl dl with
  | none => rw [e] at h; cases h
  | some c => rw [e] at h; cases c <;> first | rfl | cases h
/-! ### _law_changed -/
theorem sc_law_changed : FnScope ["tape", "world", "rule", "flat", "seen", "keys", "k", "known", "path", "made"] ["tape", "world", "rule", "flat"] (defScope s_law_changed) := ⟨rfl, rfl, rfl, by decide +kernel, rfl, by decide +kernel, by decide +kernel⟩

theorem free_set {us : List Str} {fl : Fl} (wf : Wf us fl) {p q : List Str} {c : Sc} (hq : q ≠ []) (h : q.take p.length ≠ p) (up : p.dropLast = [] ∨ getF fl p.dropLast = some .recd) : getF (setF fl p c) q = getF fl q := by
  have l1 : 1 ≤ q.length := List.length_pos_iff.mpr hq
  rw [getF_set, if_neg (fun z => h (by rw [z]; exact List.take_length))]
  by_cases z : 1 ≤ q.length ∧ q.length < p.length ∧ q = p.take q.length
  · rw [if_pos z]
    have ld : p.dropLast.length = p.length - 1 := List.length_dropLast
    rcases up with e | e
    · rw [e] at ld
      have : ([] : List Str).length = 0 := rfl
      omega
    · have e2 : q = p.dropLast.take q.length := by
        rw [List.dropLast_eq_take, List.take_take, Nat.min_eq_left (by omega)]
        exact z.2.2
      by_cases y : q.length = p.dropLast.length
      · rw [y, List.take_length] at e2
        rw [e2]
        exact e.symm
      · rw [e2]
        exact (wf.up _ _ e q.length l1 (by omega)).symm
  · rw [if_neg z, if_neg h]
theorem free_cut {fl : Fl} {p q : List Str} (h : q.take p.length ≠ p) : getF (cutF fl p) q = getF fl q := by rw [getF_cut, if_neg h]
theorem un_col {seen : List (List Str)} {col : Option (List Str)} {fl : Fl} {p c : List Str} (un : UnS seen col fl p) (hc : col = some c) (hs : c ∈ seen) (k : Str) : (c ++ [k]).take p.length ≠ p := fun z => by
  by_cases l : p.length ≤ c.length
  · rw [List.take_append_of_le_length l] at z
    exact un.1 c hs z
  · rw [List.take_of_length_le (by rw [List.length_append]; show c.length + 1 ≤ _; omega)] at z
    apply un.2.1 c hc
    rw [← z, List.dropLast_concat]
theorem all_cd {P : Pl → Prop} : ∀ {c : Cd}, c.all P → ∀ p ∈ cdPl c, P p
  | .has p, h, q, hq => by rw [List.mem_singleton.mp hq]; exact h
  | .eq p _, h, q, hq => by rw [List.mem_singleton.mp hq]; exact h
  | .lt p _, h, q, hq => by rw [List.mem_singleton.mp hq]; exact h
  | .gt p _, h, q, hq => by rw [List.mem_singleton.mp hq]; exact h
  | .nt c, h, q, hq => all_cd (c := c) h q hq
  | .an c d, h, q, hq => (List.mem_append.mp hq).elim (all_cd (c := c) h.1 q) (all_cd (c := d) h.2 q)
  | .or c d, h, q, hq => (List.mem_append.mp hq).elim (all_cd (c := c) h.1 q) (all_cd (c := d) h.2 q)
theorem pltg_w {us : List Str} {b : Bool} {p : Pl} (h : PlTg us b p) : PlW us b p := by
  cases p with
  | path p => exact ⟨h.2.1, h.2.2.1, h.2.2.2⟩
  | ent p => exact h
theorem RuV.pl {us : List Str} {w : Wd} {r : Ru} (h : RuV us w r) (wo : WdOk us w) : ∃ b : Bool, r.col = (if b = true then some w.col else none) ∧ ∀ p ∈ rulePl r, PlW us b p := by
  obtain ⟨b, h1, h2, h3, h4⟩ := h.ex
  refine ⟨b, h1, fun p hp => ?_⟩
  rcases List.mem_append.mp hp with k | k
  · cases e : r.c with
    | none => rw [e] at k; cases k
    | some c => rw [e] at k; exact all_cd (h2 c e).pl p k
  · obtain ⟨a, ha, k⟩ := List.mem_flatMap.mp k
    have av := h3 a ha
    cases a with
    | set q c => rw [List.mem_singleton.mp k]; exact pltg_w (av.1.tg wo)
    | dflt q c => rw [List.mem_singleton.mp k]; exact pltg_w (av.1.tg wo)
    | rem q => rw [List.mem_singleton.mp k]; exact pltg_w (PlV.tg wo av)
    | rej z => cases k
    | copy q q2 =>
      rcases List.mem_cons.mp k with e | k
      · rw [e]; exact pltg_w (av.1.tg wo)
      · rw [List.mem_singleton.mp k]; exact av.2
theorem flat_len {α β : Type} {f : α → List β} {n : Nat} : ∀ {l : List α}, (∀ a ∈ l, (f a).length ≤ n) → (l.flatMap f).length ≤ n * l.length
  | [], _ => Nat.zero_le _
  | a :: l, h => by
    rw [List.flatMap_cons, List.length_append, List.length_cons, Nat.mul_add, Nat.mul_one]
    have := h a (List.mem_cons.mpr (.inl rfl))
    have := flat_len (f := f) (l := l) fun b hb => h b (List.mem_cons.mpr (.inr hb))
    omega
theorem seen_in {us : List Str} {w : Wd} {r : Ru} {fl : Fl} (h : RuV us w r) (wo : WdOk us w) (wf : Wf us fl) : (∀ s ∈ spotsQ fl r.col, ∀ p ∈ rulePl r, PlOk s p ∧ PlB (s.getD []) p ∧ plAt (s.getD []) p ∈ seenF fl r) ∧ (∀ q ∈ seenF fl r, ∀ z ∈ q, z ∈ us) ∧ ((rulePl r).length ≤ 300 → (seenF fl r).length ≤ 301 * (fl.length + 1) + 1) := by
  obtain ⟨b, h1, h2⟩ := h.pl wo
  have sp : ∀ s ∈ spotsQ fl r.col, SpW us b s := by rw [h1]; exact spots_W wf wo
  have e0 : spotsO fl r.col = (spotsQ fl r.col).map fun s => s.getD [] := spotsO_Q fl r.col (f := fun _ => true)
  have keyP : ∀ p ∈ rulePl r, ∀ z ∈ plP p, z ∈ us := fun p hp z hz => by
    have := h2 p hp
    cases p with
    | path p => exact this.2.2 z hz
    | ent p => exact this.2.2 z hz
  have keyS : ∀ s ∈ spotsQ fl r.col, ∀ z ∈ s.getD [], z ∈ us := fun s hs z hz => by
    have := sp s hs
    cases s with
    | none => cases hz
    | some s => exact this.2.2.2 z hz
  refine ⟨fun s hs p hp => ⟨(PlW.ok (sp s hs) (h2 p hp)).1, (PlW.ok (sp s hs) (h2 p hp)).2, ?_⟩, fun q hq z hz => ?_, ?_⟩
  · unfold seenF
    refine List.mem_append_left _ (List.mem_flatMap.mpr ⟨s.getD [], ?_, List.mem_append_left _ (List.mem_map.mpr ⟨p, hp, rfl⟩)⟩)
    rw [e0]
    exact List.mem_map.mpr ⟨s, hs, rfl⟩
  · unfold seenF at hq
    rcases List.mem_append.mp hq with k | k
    · obtain ⟨s0, hs0, k⟩ := List.mem_flatMap.mp k
      rw [e0] at hs0
      obtain ⟨s, hs, rfl⟩ := List.mem_map.mp hs0
      rcases List.mem_append.mp k with k | k
      · obtain ⟨p, hp, rfl⟩ := List.mem_map.mp k
        cases p with
        | path p => exact keyP _ hp z hz
        | ent p =>
          rcases List.mem_append.mp (show z ∈ s.getD [] ++ p from hz) with y | y
          · exact keyS s hs z y
          · exact keyP _ hp z y
      · rw [List.mem_singleton.mp k] at hz
        exact keyS s hs z hz
    · cases e : r.col with
      | none => rw [e] at k; cases k
      | some c =>
        rw [e] at k
        rw [List.mem_singleton.mp k] at hz
        rw [h1] at e
        cases b with
        | true => cases e; exact wo.cu z hz
        | false => cases e
  · intro l3
    have a3 : (seenF fl r).length ≤ ((spotsO fl r.col).flatMap fun s => (rulePl r).map (plAt s) ++ [s]).length + 1 := by
      unfold seenF
      rw [List.length_append]
      cases r.col
      · exact Nat.add_le_add_left (by show 0 ≤ 1; decide) _
      · exact Nat.le_refl _
    have a1 := flat_len (f := fun s => (rulePl r).map (plAt s) ++ [s]) (n := 301) (l := spotsO fl r.col) fun s _ => by
      rw [List.length_append, List.length_map]
      show _ + 1 ≤ _
      omega
    have a2 : (spotsO fl r.col).length ≤ fl.length + 1 := by
      rw [e0, List.length_map]
      exact spotsQ_len fl r.col
    have a4 := Nat.mul_le_mul_left 301 a2
    omega
theorem tape_ne_pths {H : Hp} {t o : Addr} {xs : List V} {ps : List (List Str)} (hT : Tape H t) (h : H o = some (.lst xs)) (al : Al2 (PthV H) xs ps) : o ≠ t := fun z => by
  obtain ⟨l, ns, x, b, c, h1, h2, h3⟩ := hT.ex
  subst z
  rw [h1] at h
  cases h
  obtain ⟨p, _, b2, e, _⟩ := al.at (i := 1) rfl
  cases e
theorem rulePl_len {r : Ru} (h1 : (cdPlO r.c).length ≤ 100) (h2 : r.as.length ≤ 100) : (rulePl r).length ≤ 300 := by
  unfold rulePl
  rw [List.length_append]
  have := acPl_len r.as
  omega


def sp_law_changed (K : PySem.W.Frag) : Sp := fun vs H Q _ => ∃ (t : Addr) (v x : V) (d : Addr) (w : Wd) (us : List Str) (r : Ru) (fl : Fl), vs = [.ref t, v, x, .ref d] ∧ Tape H t ∧ WdAt H t v w ∧ WdOk us w ∧ (∀ z ∈ us, KeyT z) ∧ Str.ofString "other" ∈ us ∧ Str.ofString "b" ∈ us ∧ TT H x (ruE r) ∧ RuV us w r ∧ FlatAt K H d fl ∧ Wf us fl ∧ fl.length ≤ 40 ∧ (cdPlO r.c).length ≤ 100 ∧ ∀ d2 fl2 H', Go t H H' → FlatAt K H' d2 fl2 → Wf us fl2 → fl2.length ≤ 40 → (∀ q ∈ seenF fl r, q ≠ [] → getF fl2 q = getF fl q) → (∀ c, r.col = some c → ∀ k, getF fl2 (c ++ [k]) = getF fl (c ++ [k])) → Q (.ref d2) H'

theorem ok_law_changed {f : Addr} {fd : FuncData} (F : Fun K "_law_changed" "_law_changed" s_law_changed f fd) (T : Top K w mg) {a_law_draw : Addr} {d_law_draw : FuncData} (C_law_draw : Cal P w K mg base "_law_draw" 1 ["tape", "many"] sp_law_draw a_law_draw d_law_draw) {a_law_pick : Addr} {d_law_pick : FuncData} (C_law_pick : Cal P w K mg base "_law_pick" 2 ["tape", "row"] sp_law_pick a_law_pick d_law_pick) {a_law_scalar : Addr} {d_law_scalar : FuncData} (C_law_scalar : Cal P w K mg base "_law_scalar" 4 ["tape"] sp_law_scalar a_law_scalar d_law_scalar) {a_law_cut : Addr} {d_law_cut : FuncData} (C_law_cut : Cal P w K mg base "_law_cut" 1 ["flat", "path"] sp_law_cut a_law_cut d_law_cut) {a_law_put : Addr} {d_law_put : FuncData} (C_law_put : Cal P w K mg base "_law_put" 2 ["flat", "path", "content"] sp_law_put a_law_put d_law_put) {a_law_ascending : Addr} {d_law_ascending : FuncData} (C_law_ascending : Cal P w K mg base "_law_ascending" 2 ["paths"] sp_law_ascending a_law_ascending d_law_ascending) {a_law_seen : Addr} {d_law_seen : FuncData} (C_law_seen : Cal P w K mg base "_law_seen" 42 ["rule", "flat"] sp_law_seen a_law_seen d_law_seen) {a_law_is_unseen : Addr} {d_law_is_unseen : FuncData} (C_law_is_unseen : Cal P w K mg base "_law_is_unseen" 1 ["path", "seen", "rule", "flat"] sp_law_is_unseen a_law_is_unseen d_law_is_unseen) : FnOk P w K mg base CX0 43 f fd ["tape", "world", "rule", "flat"] (sp_law_changed K) := by
  have sc := sc_law_changed
  refine F.ok sc (fun vs H Q E h => ?_) (fun cdv A outer s H vs Q E hr h => ?_)
  · obtain ⟨t, v, x, d, w', us, r, fl, rfl, _⟩ := h
    rfl
  obtain ⟨t, v, x, d, w', us, r, fl, rfl, hT, hw, wo, hkey, hot, hbb, hx, rv, hF, wf, lf, hl, q⟩ := h
  refine ⟨_, (pss_cons (ps_set (i := 4) sc.nd rfl (Or.inl rfl) (pe_call C_law_seen.ok (hr.mono (by omega)) (by rfl) C_law_seen.m C_law_seen.kp C_law_seen.b .nil pass0 (pa_cons (pv 2) (pa_cons (pv 3) pa_nil))))
    (pss_cons (ps_set (i := 5) sc.nd rfl (Or.inl rfl) (pe_op op_cat (pe_ix (kx_tup (K := K) rfl) (pv 1) pe_int (fun _ _ => rfl)) (pe_lst (pa_cons pe_str (pa_cons pe_str pa_nil)))))
    (pss_cons (ps_for PassesOwn.never rfl (pi_range1 (by rfl) T.z_range (pa_cons pe_int pa_nil)) (pg_name (i := 6) sc.nd rfl (Or.inl rfl))
      (pss_cons (ps_set (i := 7) sc.nd rfl (Or.inl rfl) (pe_op op_cat (pe_call C_law_ascending.ok (hr.mono (by omega)) (by rfl) C_law_ascending.m C_law_ascending.kp C_law_ascending.b .nil pass0 (pa_cons (pe_callTy (call_list_dT rfl) (by rfl) T.z_list (by decide +kernel) (pa_cons (pv 3) pa_nil)) pa_nil)) (pe_lst (pa_cons (pe_tup pa_nil) pa_nil))))
      (pss_cons (ps_set (i := 8) sc.nd rfl (Or.inl rfl) (pe_slice (ksl_tup (K := K) rfl) (pe_call C_law_pick.ok (hr.mono (by omega)) (by rfl) C_law_pick.m C_law_pick.kp C_law_pick.b .nil pass0 (pa_cons (pv 0) (pa_cons (pe_lst (pa_cons (pe_op (kop_catT (K := K) rfl) (pe_call C_law_pick.ok (hr.mono (by omega)) (by rfl) C_law_pick.m C_law_pick.kp C_law_pick.b .nil pass0 (pa_cons (pv 0) (pa_cons (pv 7) pa_nil))) (pe_tup (pa_cons (pe_call C_law_pick.ok (hr.mono (by omega)) (by rfl) C_law_pick.m C_law_pick.kp C_law_pick.b .nil pass0 (pa_cons (pv 0) (pa_cons (pv 5) pa_nil))) pa_nil))) (pa_cons (pe_call C_law_pick.ok (hr.mono (by omega)) (by rfl) C_law_pick.m C_law_pick.kp C_law_pick.b .nil pass0 (pa_cons (pv 0) (pa_cons (pv 7) pa_nil))) pa_nil))) pa_nil))) po_none (po_some pe_int)))
      (pss_one (ps_if (PW.pt (pw_and (pt_cmpR (kop_neD (K := K) rfl hr.units) (pv 8) (pe_tup pa_nil) (nomark _)) (pw_and1 (pt_val (pe_call C_law_is_unseen.ok (hr.mono (by omega)) (by rfl) C_law_is_unseen.m C_law_is_unseen.kp C_law_is_unseen.b .nil pass0 (pa_cons (pv 8) (pa_cons (pv 4) (pa_cons (pv 2) (pa_cons (pv 3) pa_nil)))))))))
        (pss_cons (ps_set (i := 9) sc.nd rfl (Or.inl rfl) (pe_call C_law_put.ok (hr.mono (by omega)) (by rfl) C_law_put.m C_law_put.kp C_law_put.b .nil pass0 (pa_cons (pv 3) (pa_cons (pv 8) (pa_cons (pe_call C_law_pick.ok (hr.mono (by omega)) (by rfl) C_law_pick.m C_law_pick.kp C_law_pick.b .nil pass0 (pa_cons (pv 0) (pa_cons (pe_lst (pa_cons (pe_tup (pa_cons pe_str pa_nil)) (pa_cons (pe_call C_law_scalar.ok (hr.mono (by omega)) (by rfl) C_law_scalar.m C_law_scalar.kp C_law_scalar.b .nil pass0 (pa_cons (pv 0) pa_nil)) pa_nil))) pa_nil))) pa_nil)))))
        (C8.pss_cut (ps_if (PW.pt (pw_or (pt_cmpR op_eq (pe_call C_law_draw.ok (hr.mono (by omega)) (by rfl) C_law_draw.m C_law_draw.kp C_law_draw.b .nil pass0 (pa_cons (pv 0) (pa_cons pe_int pa_nil))) pe_int (nomark _)) (pw_or1 (pt_cmpR op_gt (pe_callB call_len_dT (by rfl) T.z_len (by decide +kernel) (pa_cons (pv 9) pa_nil)) pe_int (nomark _)))))
          (pss_one (ps_set (i := 9) sc.nd rfl (Or.inl rfl) (pe_call C_law_cut.ok (hr.mono (by omega)) (by rfl) C_law_cut.m C_law_cut.kp C_law_cut.b .nil pass0 (pa_cons (pv 3) (pa_cons (pv 8) pa_nil)))))
          pss_nil)
        (pss_one (ps_set (i := 3) sc.nd rfl (Or.inl rfl) (pv 9)))))
        pss_nil)))))
    (pss_one (ps_ret (pv 3)))))), ?_⟩

  have hsg : ∀ z ∈ us, SgT z := fun z hz => (hkey z hz).sg
  have hks : ∀ z ∈ us, z.length ≤ 1000 := fun z hz => by have := (hkey z hz).len; omega
  have hin := seen_in rv wo wf
  obtain ⟨b0, rc, rcd, rac, ral⟩ := rv.ex
  have c2 := wo.c2
  have hpb : ∀ s ∈ spotsO fl r.col, ∀ p ∈ rulePl r, PlB s p := fun s hs p hp => by
    rw [show spotsO fl r.col = (spotsQ fl r.col).map fun s => s.getD [] from spotsO_Q fl r.col (f := fun _ => true)] at hs
    obtain ⟨s', hs', rfl⟩ := List.mem_map.mp hs
    exact (hin.1 s' hs' p hp).2.1
  have csg : ∀ c, r.col = some c → c.length ≤ 50 ∧ ∀ z ∈ c, SgT z := fun c e => by
    rw [rc] at e
    cases b0 with
    | true => cases e; exact ⟨by omega, fun z hz => hsg z (wo.cu z hz)⟩
    | false => cases e
  have dpo : Cd.depO r.c ≤ 38 := by
    cases e : r.c with
    | none => exact Nat.zero_le _
    | some c => exact (rcd c e).dep
  have l300 := rulePl_len (r := r) hl (by omega)
  have lsn := hin.2.2 l300
  have snu := hin.2.1
  refine ⟨_, rfl, _, rfl, x, d, r, fl, us, rfl, hx, hF, wf, hks, by omega, fun p e => (csg p e).1, dpo, hl, by omega, hpb, fun SL sxs H1 s1 eS alS => ?_⟩
  have g1 := Go.same hT s1
  have nSL := tape_ne_pths g1.tp eS alS
  obtain ⟨a, kl, cc, pl, il, xs, ys, rfl, h1, h2, h3, h4, h5, h6, h7, n1, n2, n3⟩ := (hw.same s1).ex
  -- the keys
  have k1 := wo.k1
  have k2 := wo.k2
  refine ⟨_, rfl, a, _, 0, _, rfl, rfl, SqT.of h1, rfl, (by show 2 ≤ sizeLine; decide), fun o ho => ?_⟩
  have g2 := g1.new (o := .lst [.str (Str.ofString "other"), .str (Str.ofString "b")]) ho
  have eo : (upd H1 o (.lst [.str (Str.ofString "other"), .str (Str.ofString "b")])) o = some (.lst [.str (Str.ofString "other"), .str (Str.ofString "b")]) := upd_same
  have h2' := (same_new ho (.lst [.str (Str.ofString "other"), .str (Str.ofString "b")])) _ _ h2
  refine ⟨kl, o, _, _, rfl, rfl, h2', eo, le_line (by rw [List.length_map]; show _ + 2 ≤ _; omega), fun KL hKL => ?_⟩
  obtain ⟨ks, hks2⟩ : ∃ ks, ks = w'.keys ++ [Str.ofString "other", Str.ofString "b"] := ⟨_, rfl⟩
  have g3 := g2.new (o := .lst (w'.keys.map V.str ++ [.str (Str.ofString "other"), .str (Str.ofString "b")])) hKL
  have nKL := g2.tp.ne hKL
  have eKL : (upd (upd H1 o (.lst [.str (Str.ofString "other"), .str (Str.ofString "b")])) KL (.lst (w'.keys.map V.str ++ [.str (Str.ofString "other"), .str (Str.ofString "b")]))) KL = some (.lst (ks.map V.str)) := by rw [hks2, List.map_append]; exact upd_same
  have g13 : Go t H1 (upd (upd H1 o (.lst [.str (Str.ofString "other"), .str (Str.ofString "b")])) KL (.lst (w'.keys.map V.str ++ [.str (Str.ofString "other"), .str (Str.ofString "b")]))) := ((Go.refl g1.tp).new ho).new hKL
  generalize upd (upd H1 o (.lst [.str (Str.ofString "other"), .str (Str.ofString "b")])) KL (.lst (w'.keys.map V.str ++ [.str (Str.ofString "other"), .str (Str.ofString "b")])) = H3 at *
  have ksu : ∀ z ∈ ks, z ∈ us := fun z hz => by
    rw [hks2] at hz
    rcases List.mem_append.mp hz with h | h
    · exact wo.ku z h
    · rcases List.mem_cons.mp h with rfl | h
      · exact hot
      · rw [List.mem_singleton.mp h]; exact hbb
  have lks : ks.length = w'.keys.length + 2 := by rw [hks2, List.length_append]; rfl
  have eSL3 := g13.sm _ _ nSL eS
  have alS3 : Al2 (PthV H3) sxs (seenF fl r) := alS.mono fun _ _ h => h.mono fun _ _ e => tup_go g1.tp g13.sm e
  have hF3 := hF.go hT g3.sm
  have hx3 := hx.go hT g3.sm
  refine ⟨6, rfl, by decide, by decide, ?_⟩
  refine for_it (walk_range (lo := 0) (n := (6 : Int).toNat)) (fun i σ H' => Go t H3 H' ∧ ∃ d2 fl2, FlatAt K H' d2 fl2 ∧ Wf us fl2 ∧ fl2.length ≤ 40 ∧ (∀ q ∈ seenF fl r, q ≠ [] → getF fl2 q = getF fl q) ∧ (∀ c, r.col = some c → ∀ k, getF fl2 (c ++ [k]) = getF fl (c ++ [k])) ∧ ∃ v6 v7 v8 v9, σ = [some (.ref t), some (.ref a), some x, some (.ref d2), some (.ref SL), some (.ref KL), v6, v7, v8, v9])
    ⟨Go.refl g3.tp, d, fl, hF3, wf, lf, fun _ _ _ => rfl, fun _ _ _ => rfl, _, _, _, _, rfl⟩ (fun _ _ _ _ _ => trivial) ?_ ?_
  rotate_left
  · rintro σ H4 ⟨g4, d2, fl2, hF4, wf2, lf2, ag1, ag2, v6, v7, v8, v9, rfl⟩
    exact ⟨_, rfl, q d2 fl2 H4 (g3.trans g4) hF4 wf2 lf2 ag1 ag2⟩
  rintro i y σ H4 H4' hi ⟨g4, d2, fl2, hF4, wf2, lf2, ag1, ag2, v6, v7, v8, v9, rfl⟩ ⟨rfl, rfl⟩
  -- known
  obtain ⟨kvs, hd, hk⟩ := hF4.ex
  refine ⟨_, rfl, d2, kvs, rfl, .inl hd, fun S1 bs hS1 hkeys => ?_⟩
  have g5 := g4.new (o := .lst (bs.map V.ref)) hS1
  have eS1 : (upd H4' S1 (.lst (bs.map V.ref))) S1 = some (.lst (bs.map V.ref)) := upd_same
  have al1 : Al2 (PthV (upd H4' S1 (.lst (bs.map V.ref)))) (bs.map V.ref) (fl2.map (·.1)) := (keys_al hk hkeys).mono fun _ _ h => h.mono fun _ _ e => (same_new hS1 (.lst (bs.map V.ref))) _ _ e
  have hF5 := hF4.same (same_new hS1 (.lst (bs.map V.ref)))
  generalize upd H4' S1 (.lst (bs.map V.ref)) = H5 at *
  refine ⟨S1, _, _, rfl, eS1, al1, by rw [List.length_map]; omega, fun p hp => ?_, fun R ys H6 s6 hR eR alR => ?_⟩
  · obtain ⟨z, hz, rfl⟩ := List.mem_map.mp hp
    have := wf2.pa _ _ (getF_nd wf2.nd hz)
    exact ⟨by omega, fun k hk => hks k (this.2.2.1 k hk)⟩
  have g6 := g5.trans (Go.same g5.tp s6)
  have hF6 := hF5.same s6
  refine ⟨(by show 0 ≤ sizeLine; decide), fun o1 ho1 => ⟨(by show 1 ≤ sizeLine; decide), fun o2 ho2 => ?_⟩⟩
  have s7 := (same_new ho1 (.tup [])).trans (same_new ho2 (.lst [V.ref o1]))
  have eo1 := (same_new ho2 (.lst [V.ref o1])) _ _ (show (upd H6 o1 (.tup [])) o1 = some (.tup []) from upd_same)
  have eo2 : (upd (upd H6 o1 (.tup [])) o2 (.lst [V.ref o1])) o2 = some (.lst [V.ref o1]) := upd_same
  have eR7 := s7 _ _ eR
  have alR7 := s7.pths alR
  have hF7 := hF6.same s7
  have g7 := g6.trans (Go.same g6.tp s7)
  generalize upd (upd H6 o1 (.tup [])) o2 (.lst [V.ref o1]) = H7 at *
  have ly := alR.len
  rw [(show (srtP (fl2.map (·.1))).length = _ from (List.mergeSort_perm _ _).length_eq), List.length_map] at ly
  refine ⟨R, o2, _, _, rfl, rfl, eR7, eo2, le_line (by show _ + 1 ≤ _; omega), fun KN hKN => ?_⟩
  have s8 := same_new hKN (.lst (ys ++ [V.ref o1]))
  have nKN := g7.tp.ne hKN
  have eKN : (upd H7 KN (.lst (ys ++ [V.ref o1]))) KN = some (.lst (ys ++ [V.ref o1])) := upd_same
  obtain ⟨kps, hkps⟩ : ∃ kps, kps = srtP (fl2.map (·.1)) ++ [[]] := ⟨_, rfl⟩
  have alK : Al2 (PthV (upd H7 KN (.lst (ys ++ [V.ref o1])))) (ys ++ [V.ref o1]) kps := by
    rw [hkps]
    exact Al2.app (s8.pths alR7) (.cons ⟨o1, rfl, s8 _ _ eo1⟩ .nil)
  have hF8 := hF7.same s8
  have g8 := g7.trans (Go.same g7.tp s8)
  generalize upd H7 KN (.lst (ys ++ [V.ref o1])) = H8 at *
  have lkn : (ys ++ [V.ref o1]).length = ys.length + 1 := by rw [List.length_append]; rfl
  generalize ys ++ [V.ref o1] = kxs at *
  have kpu : ∀ p ∈ kps, p.length ≤ 5 ∧ ∀ z ∈ p, z ∈ us := fun p hp => by
    rw [hkps] at hp
    rcases List.mem_append.mp hp with h | h
    · obtain ⟨z, hz, rfl⟩ := List.mem_map.mp ((List.mergeSort_perm _ _).mem_iff.mp h)
      have := wf2.pa _ _ (getF_nd wf2.nd hz)
      exact ⟨this.2.1, this.2.2.1⟩
    · rw [List.mem_singleton.mp h]
      exact ⟨by decide, fun z hz => by cases hz⟩
  clear eR eR7 eo2 alR alR7 al1 eS1 hkeys hd hk
  -- the path
  refine ⟨_, rfl, _, rfl, _, rfl, t, _, rfl, g8.tp, .inr ⟨KN, kxs, rfl, nKN, .inl (SqL.of eKN), by omega, by omega, fun u1 H9 hu1 g9 => ?_⟩⟩
  obtain ⟨p1, hp1, b1, rfl, hb1⟩ := alK.mem hu1
  have hb1 := tup_go g8.tp g9.sm hb1
  have g09 := g8.trans g9
  have eKL9 := g09.sm _ _ nKL eKL
  refine ⟨_, rfl, _, rfl, t, _, rfl, g9.tp, .inr ⟨KL, _, rfl, nKL, .inl (SqL.of eKL9), by rw [List.length_map]; omega, by rw [List.length_map]; omega, fun u2 H10 hu2 g10 => ?_⟩⟩
  obtain ⟨k, hk1, rfl⟩ := List.mem_map.mp hu2
  have hb1 := tup_go g9.tp g10.sm hb1
  refine ⟨(by show 1 ≤ sizeLine; decide), fun o3 ho3 => ?_⟩
  have s11 := same_new ho3 (.tup [V.str k])
  refine catA_tt (s11 _ _ hb1) upd_same (le_line (by rw [List.length_map]; have := (kpu p1 hp1).1; show _ + 1 ≤ _; omega)) fun b2 H12 s12 hb2 => ?_
  have g12 := (g9.trans g10).trans (Go.same g10.tp (s11.trans s12))
  have eKN12 := g12.sm _ _ nKN eKN
  have alK12 : Al2 (PthV H12) kxs kps := alK.mono fun _ _ h => h.mono fun _ _ e => tup_go g8.tp g12.sm e
  refine ⟨_, rfl, _, rfl, t, _, rfl, g12.tp, .inr ⟨KN, kxs, rfl, nKN, .inl (SqL.of eKN12), by omega, by omega, fun u3 H13 hu3 g13 => ?_⟩⟩
  obtain ⟨p3, hp3, b3, rfl, hb3⟩ := alK12.mem hu3
  have hb3 := tup_go g12.tp g13.sm hb3
  have hb2 := tup_go g12.tp g13.sm (show H12 b2 = some (.tup ((p1 ++ [k]).map V.str)) by rw [List.map_append]; exact hb2)
  have g13 := g12.trans g13
  refine ⟨(by show 2 ≤ sizeLine; decide), fun PL hPL => ?_⟩
  have s14 := same_new hPL (.lst [V.ref b2, V.ref b3])
  have nPL := g13.tp.ne hPL
  have ePL : (upd H13 PL (.lst [V.ref b2, V.ref b3])) PL = some (.lst [V.ref b2, V.ref b3]) := upd_same
  have hb2 := s14 _ _ hb2
  have hb3 := s14 _ _ hb3
  have g14 := g13.trans (Go.same g13.tp s14)
  generalize upd H13 PL (.lst [V.ref b2, V.ref b3]) = H14 at *
  refine ⟨t, _, rfl, g14.tp, .inr ⟨PL, _, rfl, nPL, .inl (SqL.of ePL), (by show 1 ≤ 2; decide), (by show 2 ≤ 1000000; decide), fun v H15 hv g15 => ?_⟩⟩
  obtain ⟨p4, b4, rfl, hb4, hp4⟩ : ∃ (p4 : List Str) (b4 : Addr), v = .ref b4 ∧ H15 b4 = some (.tup (p4.map V.str)) ∧ ∀ z ∈ p4, z ∈ us := by
    simp only [List.mem_cons, List.not_mem_nil, or_false] at hv
    rcases hv with rfl | rfl
    · refine ⟨p1 ++ [k], b2, rfl, tup_go g14.tp g15.sm hb2, fun z hz => ?_⟩
      rcases List.mem_append.mp hz with h | h
      · exact (kpu p1 hp1).2 z h
      · rw [List.mem_singleton.mp h]; exact ksu k hk1
    · exact ⟨p3, b3, rfl, tup_go g14.tp g15.sm hb3, (kpu p3 hp3).2⟩
  refine ⟨_, rfl, slA_tr hb4 fun b5 H16 s16 hb5 => ?_⟩
  rw [cutV_pre (by decide), show (5 : Int).toNat = 5 from rfl, ← List.map_take] at hb5
  have lp5 : (p4.take 5).length ≤ 5 := by rw [List.length_take]; omega
  have hp5 : ∀ z ∈ p4.take 5, z ∈ us := fun z hz => hp4 z (List.mem_of_mem_take hz)
  have g16 := (g14.trans g15).trans (Go.same g15.tp s16)
  have g80 := g8.trans g16
  generalize p4.take 5 = p5 at *
  clear hu1 hu2 hu3 hb1 hb2 hb3 hb4 ePL alK12 eKN12 s14 s16
  have hF16 := hF8.go g8.tp g16.sm
  refine ⟨_, rfl, (by show 0 ≤ sizeLine; decide), fun o4 ho4 => ?_⟩
  have s17 := same_new ho4 (.tup [])
  have hE : SqT K (upd H16 o4 (.tup [])) o4 (([] : List Str).map V.str) := SqT.of upd_same
  have hb5 := s17 _ _ hb5
  have hF17 := hF16.same s17
  have g17 := g80.trans (Go.same g80.tp s17)
  generalize upd H16 o4 (.tup []) = H17 at *
  refine ne_paths (SqT.of hb5) hE (fun z hz => hsg z (hp5 z hz)) (fun z hz => by cases hz) ?_
  refine ⟨_, rfl, ite2 (fun z => ?_) (fun _ => ?_)⟩
  rotate_left
  · exact ⟨g17, d2, fl2, hF17, wf2, lf2, ag1, ag2, _, _, _, _, rfl⟩
  have ne5 : p5 ≠ [] := fun e => by rw [e] at z; exact absurd z (by decide)
  have l15 : 1 ≤ p5.length := List.length_pos_iff.mpr ne5
  refine ⟨_, rfl, _, rfl, _, rfl, _, rfl, b5, SL, x, d2, p5, sxs, seenF fl r, r, fl2, rfl, hb5, ne5, fun z hz => hsg z (hp5 z hz), g17.sm _ _ nSL eSL3, alS3.mono (fun _ _ h => h.mono fun _ _ e => tup_go g3.tp g17.sm e), by omega, fun q hq z hz => hsg z (snu q hq z hz), hx3.go g3.tp g17.sm, fun c e => (csg c e).2, hF17, fun p c e => (wf2.pa p c e).2.2.2, fun un H18 s18 hun => ?_⟩
  have g18 := g17.trans (Go.same g17.tp s18)
  have hF18 := hF17.same s18
  have hb18 := s18 _ _ hb5
  cases un with
  | false => exact ⟨_, rfl, iteF ⟨g18, d2, fl2, hF18, wf2, lf2, ag1, ag2, _, _, _, _, rfl⟩⟩
  | true =>
  have un := hun rfl
  have cse : ∀ c, r.col = some c → c ∈ seenF fl r := fun c e => by
    unfold seenF
    rw [e]
    exact List.mem_append_right _ (List.mem_singleton.mpr rfl)
  refine ⟨_, rfl, iteT ?_⟩
  have bud : ∀ {fl' : Fl}, (∀ q, q ≠ [] → q.take p5.length ≠ p5 → getF fl' q = getF fl2 q) → (∀ q ∈ seenF fl r, q ≠ [] → getF fl' q = getF fl q) ∧ (∀ c, r.col = some c → ∀ k, getF fl' (c ++ [k]) = getF fl (c ++ [k])) := fun h => ⟨fun q hq hne => (h q hne (un.1 q hq)).trans (ag1 q hq hne), fun c hc k => (h _ (by simp) (un_col un hc (cse c hc) k)).trans (ag2 c hc k)⟩
  refine ⟨_, rfl, _, rfl, _, rfl, (by show 1 ≤ sizeLine; decide), fun o5 ho5 => ?_⟩
  have s19 := same_new ho5 (.tup [V.str (Str.ofString "record")])
  have drec : DT K (upd H18 o5 (.tup [V.str (Str.ofString "record")])) (.ref o5) (.tup (scD .recd)) := .tup (SqT.of upd_same) (.cons (.str _) .nil)
  have g19 := Go.same g18.tp s19
  generalize upd H18 o5 (.tup [V.str (Str.ofString "record")]) = H19 at *
  refine ⟨_, rfl, t, rfl, g19.tp, fun u c1 H20 g20 du ok1 _ => ?_⟩
  refine ⟨(by show 2 ≤ sizeLine; decide), fun o6 ho6 => ?_⟩
  have s21 := same_new ho6 (.lst [V.ref o5, u])
  have drec := (drec.go g19.tp g20.sm).same s21
  have du := du.same s21
  have eo6 : (upd H20 o6 (.lst [V.ref o5, u])) o6 = some (.lst [V.ref o5, u]) := upd_same
  have no6 := g20.tp.ne ho6
  have g21 := (g19.trans g20).trans (Go.same g20.tp s21)
  generalize upd H20 o6 (.lst [V.ref o5, u]) = H21 at *
  refine ⟨t, _, rfl, g21.tp, .inr ⟨o6, _, rfl, no6, .inl (SqL.of eo6), (by show 1 ≤ 2; decide), (by show 2 ≤ 1000000; decide), fun v H22 hv g22 => ?_⟩⟩
  obtain ⟨e, de, oe⟩ : ∃ e, DT K H22 v (.tup (scD e)) ∧ scOk e := by
    simp only [List.mem_cons, List.not_mem_nil, or_false] at hv
    rcases hv with rfl | rfl
    · exact ⟨.recd, drec.go g21.tp g22.sm, trivial⟩
    · exact ⟨_, du.go g21.tp g22.sm, ok1⟩
  have g22 := g21.trans g22
  have hF22 := hF18.go g18.tp g22.sm
  have hb22 := tup_go g18.tp g22.sm hb18
  refine ⟨d2, b5, v, fl2, p5, e, rfl, hF22, wf2.sg hsg, wf2.nd, by omega, hb22, l15, by omega, fun z hz => hsg z (hp5 z hz), de, fun f H23 s23 hf hF23 => ?_⟩
  have g23 := g22.trans (Go.same g22.tp s23)
  have hF2 := hF22.same s23
  have hb23 := s23 _ _ hb22
  have wf3 := wf2.set (c := e) (p := p5) l15 lp5 hp5 oe
  obtain ⟨ag3, ag4⟩ := bud (fl' := setF fl2 p5 e) fun q hq h => free_set wf2 hq h un.2.2
  refine ⟨fun σ H' => Go t H3 H' ∧ ∃ (m : Addr) (fm : Fl), FlatAt K H' m fm ∧ Wf us fm ∧ fm.length ≤ 40 ∧ (∀ q ∈ seenF fl r, q ≠ [] → getF fm q = getF fl q) ∧ (∀ c, r.col = some c → ∀ k, getF fm (c ++ [k]) = getF fl (c ++ [k])) ∧ ∃ v6 v7 v8, σ = [some (.ref t), some (.ref a), some x, some (.ref d2), some (.ref SL), some (.ref KL), v6, v7, v8, some (.ref m)], ?_, ?_⟩
  rotate_left
  · rintro σ H24 ⟨g24, m, fm, hFm, wfm, lfm, ag5, ag6, v6, v7, v8, rfl⟩
    exact ⟨_, rfl, g24, m, fm, hFm, wfm, lfm, ag5, ag6, _, _, _, _, rfl⟩
  have cutIt : ∀ {Hx : Hp} (X : XK), Go t H23 Hx → sp_law_cut K [.ref d2, .ref b5] Hx (fun v H' => ∃ (m : Addr) (fm : Fl), v = .ref m ∧ Go t H3 H' ∧ FlatAt K H' m fm ∧ Wf us fm ∧ fm.length ≤ 40 ∧ (∀ q ∈ seenF fl r, q ≠ [] → getF fm q = getF fl q) ∧ (∀ c, r.col = some c → ∀ k : Str, getF fm (c ++ [k]) = getF fl (c ++ [k]))) X := by
    intro Hx X gx
    have gg := (g18.trans g23).trans gx
    obtain ⟨ag5, ag6⟩ := bud (fl' := cutF fl2 p5) fun q _ h => free_cut h
    refine ⟨d2, b5, fl2, p5, rfl, hF2.go g23.tp gx.sm, wf2.sg hsg, wf2.nd, by omega, SqT.of (tup_go g23.tp gx.sm hb23), by omega, fun z hz => hsg z (hp5 z hz), fun m H' sm hm hFm => ⟨m, _, rfl, gg.trans (Go.same gg.tp sm), hFm, wf2.cut p5, ?_, ag5, ag6⟩⟩
    have := len_cut fl2 p5
    omega
  refine ⟨_, rfl, t, 3, rfl, g23.tp, by decide, by decide, fun r4 H24 _ _ g24 => ⟨rfl, _, rfl, ite2 (fun _ => ?_) (fun _ => ?_)⟩⟩
  · obtain ⟨m', a', fl', p', e1, w1, w2, w3, w4, w5, w6, w7, w8⟩ := cutIt (fun _ _ _ => True) g24
    refine ⟨_, rfl, _, rfl, m', a', fl', p', e1, w1, w2, w3, w4, w5, w6, w7, fun m H' sm hm hFm => ?_⟩
    obtain ⟨m2, fm, e2, y1, y2, y3, y4, y5, y6⟩ := w8 m H' sm hm hFm
    cases e2
    exact ⟨y1, m, fm, y2, y3, y4, y5, y6, _, _, _, rfl⟩
  · have hF24 := hF23.go g23.tp g24.sm
    obtain ⟨kvs24, e24, k24⟩ := hF24.ex
    refine ⟨_, rfl, f, kvs24, rfl, e24, _, _, rfl, rfl, _, rfl, ite2 (fun z => ?_) (fun z => ?_)⟩
    · obtain ⟨m', a', fl', p', e1, w1, w2, w3, w4, w5, w6, w7, w8⟩ := cutIt (fun _ _ _ => True) g24
      refine ⟨_, rfl, _, rfl, m', a', fl', p', e1, w1, w2, w3, w4, w5, w6, w7, fun m H' sm hm hFm => ?_⟩
      obtain ⟨m2, fm, e2, y1, y2, y3, y4, y5, y6⟩ := w8 m H' sm hm hFm
      cases e2
      exact ⟨y1, m, fm, y2, y3, y4, y5, y6, _, _, _, rfl⟩
    · have z' : (kvs24.length : Int) ≤ 40 := Int.not_lt.mp fun h => z (decide_eq_true h)
      have lk := k24.len
      exact ⟨(g18.trans g23).trans g24, f, _, hF24, wf3, by omega, ag3, ag4, _, _, _, rfl⟩
/-! ### law -/
theorem sc_law : FnScope ["script", "tape", "world", "flat", "k", "rule", "other", "first", "second", "reasons", "path", "action"] ["script"] (defScope s_law) := ⟨rfl, rfl, rfl, by decide +kernel, rfl, by decide +kernel, by decide +kernel⟩

def AgR (P : List Str → Prop) : Res → Res → Prop
  | .error a, .error b => a = b
  | .ok s, .ok t => s.2 = t.2 ∧ ∀ q, P q → getF s.1 q = getF t.1 q
  | _, _ => False
theorem eff_agr {f0 g0 f g : Fl} {s : List Str} {a : Ac} (h0 : ∀ p ∈ acPl a, getF f0 (plAt s p) = getF g0 (plAt s p)) (h : ∀ p ∈ acPl a, getF f (plAt s p) = getF g (plAt s p)) : effF f0 f s a = effF g0 g s a := by
  cases a with
  | rej r => rfl
  | set p c => simp only [effF]; rw [h p (List.mem_singleton.mpr rfl)]
  | dflt p c => simp only [effF]; rw [h p (List.mem_singleton.mpr rfl)]
  | rem p => simp only [effF]; rw [h p (List.mem_singleton.mpr rfl)]
  | copy p q => simp only [effF]; rw [h p (List.mem_cons.mpr (.inl rfl)), h0 q (List.mem_cons.mpr (.inr (List.mem_singleton.mpr rfl)))]
theorem acts_agr {P : List Str → Prop} {f0 g0 : Fl} {s : List Str} (h0 : ∀ q, P q → getF f0 q = getF g0 q) : ∀ {as : List Ac} {f g : Fl} {es : List Ef}, (∀ a ∈ as, ∀ p ∈ acPl a, P (plAt s p)) → (∀ q, P q → getF f q = getF g q) → AgR P (actsF f0 s as f es) (actsF g0 s as g es)
  | [], f, g, es, _, h => ⟨rfl, h⟩
  | a :: as, f, g, es, hp, h => by
    have hp' : ∀ x ∈ as, ∀ p ∈ acPl x, P (plAt s p) := fun x hx => hp x (List.mem_cons_of_mem _ hx)
    cases hr : isRej a with
    | true =>
      cases a with
      | rej r => exact (rfl : r = r)
      | _ => cases hr
    | false =>
      rw [actsF_cons hr, actsF_cons hr, eff_agr (f0 := f0) (g0 := g0) (f := f) (g := g) (fun p k => h0 _ (hp a List.mem_cons_self p k)) (fun p k => h _ (hp a List.mem_cons_self p k))]
      cases e : effF g0 g s a with
      | none => exact acts_agr h0 hp' h
      | some e1 => exact acts_agr h0 (f := mkF f e1) (g := mkF g e1) hp' fun q hq => by rw [getF_mk, getF_mk, h q hq]
theorem subs_agr {P : List Str → Prop} {f0 g0 : Fl} {as : List Ac} (h0 : ∀ q, P q → getF f0 q = getF g0 q) : ∀ {L : List (List Str)} {f g : Fl} {es : List Ef}, (∀ s ∈ L, ∀ a ∈ as, ∀ p ∈ acPl a, P (plAt s p)) → (∀ q, P q → getF f q = getF g q) → AgR P (subsF f0 as L f es) (subsF g0 as L g es)
  | [], f, g, es, _, h => ⟨rfl, h⟩
  | s :: L, f, g, es, hp, h => by
    have k := acts_agr (es := es) h0 (hp s List.mem_cons_self) h
    rw [subsF, subsF]
    cases e1 : actsF f0 s as f es with
    | error z =>
      cases e2 : actsF g0 s as g es with
      | error y => rw [e1, e2] at k; exact k
      | ok t => rw [e1, e2] at k; exact k.elim
    | ok t =>
      cases e2 : actsF g0 s as g es with
      | error y => rw [e1, e2] at k; exact k.elim
      | ok u =>
        rw [e1, e2] at k
        show AgR P (subsF f0 as L t.1 t.2) (subsF g0 as L u.1 u.2)
        rw [k.1]
        exact subs_agr h0 (fun x hx => hp x (List.mem_cons_of_mem _ hx)) k.2
theorem cdB_agr {f g : List Str → Option Sc} {s : List Str} : ∀ {c : Cd}, (∀ p ∈ cdPl c, f (plAt s p) = g (plAt s p)) → cdB f s c = cdB g s c
  | .has p, h => by rw [cdB, cdB, h p (List.mem_singleton.mpr rfl)]
  | .eq p _, h => by rw [cdB, cdB, h p (List.mem_singleton.mpr rfl)]
  | .lt p _, h => by rw [cdB, cdB, h p (List.mem_singleton.mpr rfl)]
  | .gt p _, h => by rw [cdB, cdB, h p (List.mem_singleton.mpr rfl)]
  | .nt c, h => by rw [cdB, cdB, cdB_agr (c := c) h]
  | .an c d, h => by rw [cdB, cdB, cdB_agr (c := c) fun p k => h p (List.mem_append_left _ k), cdB_agr (c := d) fun p k => h p (List.mem_append_right _ k)]
  | .or c d, h => by rw [cdB, cdB, cdB_agr (c := c) fun p k => h p (List.mem_append_left _ k), cdB_agr (c := d) fun p k => h p (List.mem_append_right _ k)]
theorem err_rej {f0 : Fl} {s : List Str} {z : Str} : ∀ {as : List Ac} {f : Fl} {es : List Ef}, actsF f0 s as f es = .error z → (rejs as)[0]? = some z
  | [], f, es, h => by cases h
  | a :: as, f, es, h => by
    cases hr : isRej a with
    | true =>
      cases a with
      | rej r => cases h; rfl
      | _ => cases hr
    | false =>
      have e0 : rejs (a :: as) = rejs as := by cases a <;> first | rfl | cases hr
      rw [e0]
      rw [actsF_cons hr] at h
      cases e : effF f0 f s a with
      | none => rw [e] at h; exact err_rej h
      | some e1 => rw [e] at h; exact err_rej (f := mkF f e1) h
theorem sub_rej {f0 : Fl} {as : List Ac} {z : Str} : ∀ {L : List (List Str)} {f : Fl} {es : List Ef}, subsF f0 as L f es = .error z → (rejs as)[0]? = some z
  | [], f, es, h => by cases h
  | s :: L, f, es, h => by
    rw [subsF] at h
    cases e : actsF f0 s as f es with
    | error y => rw [e] at h; cases h; exact err_rej e
    | ok t => rw [e] at h; exact sub_rej (L := L) h
theorem rule_agr {us : List Str} {w : Wd} {r : Ru} {f g : Fl} (h : RuV us w r) (wo : WdOk us w) (wf : Wf us f) (wg : Wf us g) (a1 : ∀ q ∈ seenF f r, q ≠ [] → getF g q = getF f q) (a2 : ∀ c, r.col = some c → ∀ k, getF g (c ++ [k]) = getF f (c ++ [k])) : AgR (fun q => q ∈ seenF f r ∧ q ≠ []) (ruR f r) (ruR g r) := by
  have hin := (seen_in h wo wf).1
  have es : spotsQ f r.col = spotsQ g r.col := by
    cases e : r.col with
    | none => rfl
    | some c =>
      show (below f c).map _ = (below g c).map _
      rw [below_congr wf.nd wg.nd fun k => (a2 c e k).symm]
  have eq : subQ f r.col r.c = subQ g r.col r.c := by
    unfold subQ
    rw [← es]
    refine List.filter_congr fun s hs => ?_
    cases e : r.c with
    | none => rfl
    | some c =>
      refine cdB_agr fun p hp => ?_
      have hr : p ∈ rulePl r := by
        unfold rulePl
        rw [e]
        exact List.mem_append_left _ hp
      obtain ⟨k1, _, k3⟩ := hin s hs p hr
      exact (a1 _ k3 k1.ne).symm
  show AgR _ (ruleF f r.col r.c r.as) (ruleF g r.col r.c r.as)
  unfold ruleF
  rw [← eq]
  refine subs_agr (fun q hq => (a1 q hq.1 hq.2).symm) (fun s hs a ha p hp => ?_) fun q hq => (a1 q hq.1 hq.2).symm
  obtain ⟨s0, hs0, rfl⟩ := List.mem_map.mp hs
  have hr : p ∈ rulePl r := List.mem_append_right _ (List.mem_flatMap.mpr ⟨a, ha, hp⟩)
  obtain ⟨k1, _, k3⟩ := hin s0 (subQ_sub hs0) p hr
  exact ⟨k3, k1.ne⟩
theorem cdPl_len : ∀ c : Cd, (cdPl c).length ≤ 2 ^ c.dep
  | .has p => Nat.one_le_two_pow
  | .eq p _ => Nat.one_le_two_pow
  | .lt p _ => Nat.one_le_two_pow
  | .gt p _ => Nat.one_le_two_pow
  | .nt c => Nat.le_trans (cdPl_len c) (Nat.pow_le_pow_right (by decide) (Nat.le_succ _))
  | .an c d => by
    show (cdPl c ++ cdPl d).length ≤ 2 ^ (max c.dep d.dep + 1)
    rw [List.length_append, Nat.pow_succ]
    have := Nat.le_trans (cdPl_len c) (Nat.pow_le_pow_right (by decide) (Nat.le_max_left c.dep d.dep))
    have := Nat.le_trans (cdPl_len d) (Nat.pow_le_pow_right (by decide) (Nat.le_max_right c.dep d.dep))
    omega
  | .or c d => by
    show (cdPl c ++ cdPl d).length ≤ 2 ^ (max c.dep d.dep + 1)
    rw [List.length_append, Nat.pow_succ]
    have := Nat.le_trans (cdPl_len c) (Nat.pow_le_pow_right (by decide) (Nat.le_max_left c.dep d.dep))
    have := Nat.le_trans (cdPl_len d) (Nat.pow_le_pow_right (by decide) (Nat.le_max_right c.dep d.dep))
    omega
theorem Wf.more {ws vs : List Str} {fl : Fl} (h : Wf ws fl) (k : ∀ z ∈ ws, z ∈ vs) : Wf vs fl := ⟨h.nd, fun p c e => ⟨(h.pa p c e).1, (h.pa p c e).2.1, fun z hz => k z ((h.pa p c e).2.2.1 z hz), (h.pa p c e).2.2.2⟩, h.up⟩
theorem WdOk.more {ws vs : List Str} {w : Wd} (h : WdOk ws w) (k : ∀ z ∈ ws, z ∈ vs) : WdOk vs w := ⟨h.k1, h.k2, fun z hz => k z (h.ku z hz), h.c1, h.c2, fun z hz => k z (h.cu z hz), h.p1, h.p2, fun p hp => ⟨(h.pu p hp).1, (h.pu p hp).2.1, fun z hz => k z ((h.pu p hp).2.2 z hz)⟩, h.i1, h.i2, fun p hp => ⟨(h.iu p hp).1, fun z hz => k z ((h.iu p hp).2 z hz)⟩⟩
theorem seen_args {us : List Str} {w : Wd} {r : Ru} {fl : Fl} (rv : RuV us w r) (wo : WdOk us w) (wf : Wf us fl) : (∀ s ∈ spotsO fl r.col, ∀ p ∈ rulePl r, PlB s p) ∧ (∀ c, r.col = some c → c.length ≤ 50) ∧ Cd.depO r.c ≤ 38 ∧ r.as.length ≤ 100 := by
  obtain ⟨b0, rc, rcd, rac, ral⟩ := rv.ex
  have c2 := wo.c2
  refine ⟨fun s hs p hp => ?_, fun c e => ?_, ?_, by omega⟩
  · rw [show spotsO fl r.col = (spotsQ fl r.col).map fun s => s.getD [] from spotsO_Q fl r.col (f := fun _ => true)] at hs
    obtain ⟨s', hs', rfl⟩ := List.mem_map.mp hs
    exact ((seen_in rv wo wf).1 s' hs' p hp).2.1
  · rw [rc] at e
    cases b0 with
    | true => cases e; omega
    | false => cases e
  · cases e : r.c with
    | none => exact Nat.zero_le _
    | some c => exact (rcd c e).dep
theorem fits_scO' (o : Option Sc) : (scO o).fits = true := by
  cases o with
  | none => rfl
  | some c => cases c <;> rfl


def sp_law (K : PySem.W.Frag) : Sp := fun vs H Q _ => ∃ (a : Addr) (ns : List Int), vs = [.ref a] ∧ SqL K H a (ns.map V.int) ∧ ns.length ≤ 63 ∧ ∀ H', Q (.bl true) H'

theorem ok_law {f : Addr} {fd : FuncData} (F : Fun K "law" "law" s_law f fd) (T : Top K w mg) {a_held : Addr} {d_held : FuncData} (C_held : Cal P w K mg base "held" 3 ["document", "path"] sp_held a_held d_held) {a_apply_rule : Addr} {d_apply_rule : FuncData} (C_apply_rule : Cal P w K mg base "apply_rule" 46 ["rule", "document"] sp_apply_rule a_apply_rule d_apply_rule) {a_law_tape : Addr} {d_law_tape : FuncData} (C_law_tape : Cal P w K mg base "_law_tape" 1 ["script"] sp_law_tape a_law_tape d_law_tape) {a_law_pick : Addr} {d_law_pick : FuncData} (C_law_pick : Cal P w K mg base "_law_pick" 2 ["tape", "row"] sp_law_pick a_law_pick d_law_pick) {a_law_same : Addr} {d_law_same : FuncData} (C_law_same : Cal P w K mg base "_law_same" 40 ["actual", "expected"] sp_law_same a_law_same d_law_same) {a_law_document : Addr} {d_law_document : FuncData} (C_law_document : Cal P w K mg base "_law_document" 11 ["flat", "path"] sp_law_document a_law_document d_law_document) {a_law_world : Addr} {d_law_world : FuncData} (C_law_world : Cal P w K mg base "_law_world" 5 ["tape", "many"] sp_law_world a_law_world d_law_world) {a_law_rule : Addr} {d_law_rule : FuncData} (C_law_rule : Cal P w K mg base "_law_rule" 44 ["tape", "world", "depth"] sp_law_rule a_law_rule d_law_rule) {a_law_near_flat : Addr} {d_law_near_flat : FuncData} (C_law_near_flat : Cal P w K mg base "_law_near_flat" 5 ["tape", "world", "many"] sp_law_near_flat a_law_near_flat d_law_near_flat) {a_law_seen : Addr} {d_law_seen : FuncData} (C_law_seen : Cal P w K mg base "_law_seen" 42 ["rule", "flat"] sp_law_seen a_law_seen d_law_seen) {a_law_changed : Addr} {d_law_changed : FuncData} (C_law_changed : Cal P w K mg base "_law_changed" 43 ["tape", "world", "rule", "flat"] sp_law_changed a_law_changed d_law_changed) : FnOk P w K mg base CX0 47 f fd ["script"] (sp_law K) := by
  have sc := sc_law
  refine F.ok sc (fun vs H Q E h => ?_) (fun cdv A outer s H vs Q E hr h => ?_)
  · obtain ⟨a, ns, rfl, _⟩ := h
    rfl
  obtain ⟨a, ns, rfl, hS, hn, q⟩ := h
  refine ⟨_, (pss_cons (ps_set (i := 1) sc.nd rfl (Or.inl rfl) (pe_call C_law_tape.ok (hr.mono (by omega)) (by rfl) C_law_tape.m C_law_tape.kp C_law_tape.b .nil pass0 (pa_cons (pv 0) pa_nil)))
    (pss_cons (ps_set (i := 2) sc.nd rfl (Or.inl rfl) (pe_call C_law_world.ok (hr.mono (by omega)) (by rfl) C_law_world.m C_law_world.kp C_law_world.b .nil pass0 (pa_cons (pv 1) (pa_cons pe_int pa_nil))))
    (pss_cons (ps_set (i := 3) sc.nd rfl (Or.inl rfl) (pe_call C_law_near_flat.ok (hr.mono (by omega)) (by rfl) C_law_near_flat.m C_law_near_flat.kp C_law_near_flat.b .nil pass0 (pa_cons (pv 1) (pa_cons (pv 2) (pa_cons (pe_call C_law_pick.ok (hr.mono (by omega)) (by rfl) C_law_pick.m C_law_pick.kp C_law_pick.b .nil pass0 (pa_cons (pv 1) (pa_cons (pe_lst (pa_cons pe_int (pa_cons pe_int (pa_cons pe_int (pa_cons pe_int pa_nil))))) pa_nil))) pa_nil)))))
    (pss_cons (ps_for PassesOwn.never rfl (pi_range1 (by rfl) T.z_range (pa_cons pe_int pa_nil)) (pg_name (i := 4) sc.nd rfl (Or.inl rfl))
      (pss_cons (ps_set (i := 5) sc.nd rfl (Or.inl rfl) (pe_call C_law_rule.ok (hr.mono (by omega)) (by rfl) C_law_rule.m C_law_rule.kp C_law_rule.b .nil pass0 (pa_cons (pv 1) (pa_cons (pv 2) (pa_cons pe_int pa_nil)))))
      (pss_cons (ps_set (i := 6) sc.nd rfl (Or.inl rfl) (pe_call C_law_changed.ok (hr.mono (by omega)) (by rfl) C_law_changed.m C_law_changed.kp C_law_changed.b .nil pass0 (pa_cons (pv 1) (pa_cons (pv 2) (pa_cons (pv 5) (pa_cons (pv 3) pa_nil))))))
      (pss_cons (ps_set (i := 7) sc.nd rfl (Or.inl rfl) (pe_call C_apply_rule.ok (hr.mono (by omega)) (by rfl) C_apply_rule.m C_apply_rule.kp C_apply_rule.b .nil pass0 (pa_cons (pv 5) (pa_cons (pe_call C_law_document.ok (hr.mono (by omega)) (by rfl) C_law_document.m C_law_document.kp C_law_document.b .nil pass0 (pa_cons (pv 3) (pa_cons (pe_tup pa_nil) pa_nil))) pa_nil))))
      (pss_cons (ps_set (i := 8) sc.nd rfl (Or.inl rfl) (pe_call C_apply_rule.ok (hr.mono (by omega)) (by rfl) C_apply_rule.m C_apply_rule.kp C_apply_rule.b .nil pass0 (pa_cons (pv 5) (pa_cons (pe_call C_law_document.ok (hr.mono (by omega)) (by rfl) C_law_document.m C_law_document.kp C_law_document.b .nil pass0 (pa_cons (pv 6) (pa_cons (pe_tup pa_nil) pa_nil))) pa_nil))))
      (pss_one (ps_if (pt_cmpR op_eq (pe_ix (kx_tup (K := K) rfl) (pv 7) pe_int (fun _ _ => rfl)) pe_str (nomark _))
        (pss_cons (ps_setLc (i := 9) (own := [("action", 11)]) (g := gName 11) rfl sc.nd rfl rfl (sw_true rfl rfl rfl (by decide +kernel)) (kpi_tup (K := K) rfl (pe_ix (kx_tup (K := K) rfl) (pv 5) pe_int (fun _ _ => rfl))) (blkOk_by (N := ["script", "tape", "world", "flat", "k", "rule", "other", "first", "second", "reasons", "path", "action"]) (sc := defScope s_law) (by decide +kernel)) (fun _ _ _ _ _ => pg_name (i := 11) sc.nd rfl (Or.inl rfl)) (fun _ _ _ _ _ => pts_one (pt_cmpR op_eq (pe_ix (kx_tup (K := K) rfl) (pv 11) pe_int (fun _ _ => rfl)) pe_str (nomark _))) (fun _ _ _ _ _ => (pe_ix (kx_tup (K := K) rfl) (pv 11) pe_int (fun _ _ => rfl))))
        (pss_one (ps_if (PW.pt (pw_or (pt_not (pt_val (pe_call C_law_same.ok (hr.mono (by omega)) (by rfl) C_law_same.m C_law_same.kp C_law_same.b .nil pass0 (pa_cons (pv 8) (pa_cons (pv 7) pa_nil))))) (pw_or1 (pt_not (pt_val (pe_call C_law_same.ok (hr.mono (by omega)) (by rfl) C_law_same.m C_law_same.kp C_law_same.b .nil pass0 (pa_cons (pv 7) (pa_cons (pe_tup (pa_cons pe_str (pa_cons (pe_ix (kx_list (K := K) rfl) (pe_op op_cat (pv 9) (pe_lst (pa_cons pe_str pa_nil))) pe_int (fun _ _ => rfl)) pa_nil))) pa_nil))))))))
          (pss_one (ps_ret pe_bl))
          pss_nil)))
        (pss_cons (ps_if (PW.pt (pw_or (pt_cmpR op_ne (pe_ix (kx_tup (K := K) rfl) (pv 8) pe_int (fun _ _ => rfl)) pe_str (nomark _)) (pw_or1 (pt_not (pt_val (pe_call C_law_same.ok (hr.mono (by omega)) (by rfl) C_law_same.m C_law_same.kp C_law_same.b .nil pass0 (pa_cons (pe_ix (kx_tup (K := K) rfl) (pv 8) pe_int (fun _ _ => rfl)) (pa_cons (pe_ix (kx_tup (K := K) rfl) (pv 7) pe_int (fun _ _ => rfl)) pa_nil))))))))
          (pss_one (ps_ret pe_bl))
          pss_nil)
        (pss_one (ps_for PassesOwn.never rfl (kpi_list (K := K) rfl (pe_call C_law_seen.ok (hr.mono (by omega)) (by rfl) C_law_seen.m C_law_seen.kp C_law_seen.b .nil pass0 (pa_cons (pv 5) (pa_cons (pv 3) pa_nil)))) (pg_name (i := 10) sc.nd rfl (Or.inl rfl))
          (pss_one (ps_if (PW.pt (pw_and (pt_cmpR (kop_neD (K := K) rfl hr.units) (pv 10) (pe_tup pa_nil) (nomark _)) (pw_and1 (pt_not (pt_val (pe_call C_law_same.ok (hr.mono (by omega)) (by rfl) C_law_same.m C_law_same.kp C_law_same.b .nil pass0 (pa_cons (pe_call C_held.ok (hr.mono (by omega)) (by rfl) C_held.m C_held.kp C_held.b .nil pass0 (pa_cons (pe_ix (kx_tup (K := K) rfl) (pv 7) pe_int (fun _ _ => rfl)) (pa_cons (pv 10) pa_nil))) (pa_cons (pe_call C_held.ok (hr.mono (by omega)) (by rfl) C_held.m C_held.kp C_held.b .nil pass0 (pa_cons (pe_ix (kx_tup (K := K) rfl) (pv 8) pe_int (fun _ _ => rfl)) (pa_cons (pv 10) pa_nil))) pa_nil))))))))
            (pss_one (ps_ret pe_bl))
            pss_nil))))))))))))
    (pss_one (ps_ret pe_bl)))))), ?_⟩

  refine ⟨_, rfl, a, ns, rfl, hS, hn, fun t H1 hT ht s1 => ?_⟩
  refine ⟨_, rfl, t, 1, rfl, hT, by decide, fun v w' us0 H2 g2 hw wo0 hkey0 hext0 => ?_⟩
  obtain ⟨us, hus⟩ : ∃ us, us = us0 ++ [Str.ofString "other", Str.ofString "b"] := ⟨_, rfl⟩
  have sub : ∀ z ∈ us0, z ∈ us := fun z hz => by rw [hus]; exact List.mem_append_left _ hz
  have hot : Str.ofString "other" ∈ us := by rw [hus]; exact List.mem_append_right _ (List.mem_cons.mpr (.inl rfl))
  have hbb : Str.ofString "b" ∈ us := by rw [hus]; exact List.mem_append_right _ (List.mem_cons.mpr (.inr (List.mem_singleton.mpr rfl)))
  have wo := wo0.more sub
  have hkey : ∀ z ∈ us, KeyT z := fun z hz => by
    rw [hus] at hz
    rcases List.mem_append.mp hz with h | h
    · exact hkey0 z h
    · rcases List.mem_cons.mp h with rfl | h
      · show isKeyC _ = true
        decide +kernel
      · rw [List.mem_singleton.mp h]
        show isKeyC _ = true
        decide +kernel
  have hext : ∀ z ∈ extraL, z ∈ us := fun z hz => sub z (hext0 z hz)
  have hsg : ∀ z ∈ us, SgT z := fun z hz => (hkey z hz).sg
  have hks : ∀ z ∈ us, z.length ≤ 1000 := fun z hz => by have := (hkey z hz).len; omega
  clear wo0 hkey0 hext0
  -- the table
  refine ⟨_, rfl, _, rfl, _, rfl, (by show 4 ≤ sizeLine; decide), fun p1' hp1 => ?_⟩
  refine ⟨t, _, rfl, g2.tp.new hp1, .inr ⟨p1', _, rfl, g2.tp.ne hp1, .inl (SqL.of upd_same), (by show 1 ≤ 4; decide), (by show 4 ≤ 1000000; decide), fun x H3 hx g3 => ?_⟩⟩
  obtain ⟨m, hm, rfl⟩ := pickN [1, 3, 6, 10] hx (b := 10) (by decide)
  have g3 := ((Go.refl g2.tp).new hp1).trans g3
  have hw3 := hw.go g2.tp g3.sm
  refine ⟨t, v, m, w', us, rfl, g3.tp, hw3, wo, hkey, hext, by omega, fun d fl H4 g4 hF wf lf => ?_⟩
  have hw4 := hw3.go g3.tp g4.sm
  have gT := (g3.trans g4).tp
  clear g3 hw3 g4 hx hw g2
  have fkk : ∀ {f : Fl}, Wf us f → ∀ x ∈ f, x.1.length ≤ 9 ∧ ∀ k ∈ x.1, k.length ≤ 1000 := fun {f} wf x hx => by
    have := wf.pa x.1 x.2 (getF_nd wf.nd hx)
    exact ⟨by omega, fun k hk => hks k (this.2.2.1 k hk)⟩
  obtain ⟨wa, hwa⟩ : ∃ wa, v = .ref wa := by obtain ⟨a, kl, cc, pl, il, xs, ys, e, _⟩ := hw4.ex; exact ⟨a, e⟩
  subst hwa
  refine ⟨2, rfl, by decide, by decide, ?_⟩
  refine for_it (walk_range (lo := 0) (n := (2 : Int).toNat)) (fun i σ H' => Go t H4 H' ∧ ∃ v4 v5 v6 v7 v8 v9 v10, σ = [some (.ref a), some (.ref t), some (.ref wa), some (.ref d), v4, v5, v6, v7, v8, v9, v10, none]) ⟨Go.refl gT, _, _, _, _, _, _, _, rfl⟩ (fun _ _ _ _ _ => trivial) ?_ ?_
  rotate_left
  · rintro σ H5 ⟨g5, v4, v5, v6, v7, v8, v9, v10, rfl⟩
    exact q _
  rintro i y σ H5 H5' hi ⟨g5, v4, v5, v6, v7, v8, v9, v10, rfl⟩ ⟨rfl, rfl⟩
  -- the rule
  refine ⟨_, rfl, _, rfl, t, .ref wa, 2, w', us, rfl, g5.tp, hw4.go gT g5.sm, wo, by decide, fun R r H6 g6 tR rv rdep rsg las => ?_⟩
  have g6 := g5.trans g6
  have hF6 := hF.go gT g6.sm
  have hl : (cdPlO r.c).length ≤ 100 := by
    cases e : r.c with
    | none => show 0 ≤ 100; decide
    | some c =>
      have h1 := cdPl_len c
      have h2 : 2 ^ c.dep ≤ 2 ^ 2 := Nat.pow_le_pow_right (by decide) (rdep c e)
      show (cdPl c).length ≤ 100
      omega
  refine ⟨_, rfl, _, rfl, _, rfl, _, rfl, t, .ref wa, R, d, w', us, r, fl, rfl, g6.tp, hw4.go gT g6.sm, wo, hkey, hot, hbb, tR, rv, hF6, wf, lf, hl, fun d2 fl2 H7 g7 hF7 wf2 lf2 ag1 ag2 => ?_⟩
  have tR7 := tR.go g6.tp g7.sm
  have hFd := hF6.go g6.tp g7.sm
  have g7 := g6.trans g7
  have agr := rule_agr rv wo wf wf2 ag1 ag2
  have ok1 := rv.ok wo hkey wf (by omega)
  have ok2 := rv.ok wo hkey wf2 (by omega)
  -- asked twice
  refine ⟨_, rfl, _, rfl, (by show 0 ≤ sizeLine; decide), fun o1 ho1 => ?_⟩
  have s8 := same_new ho1 (.tup [])
  refine ⟨d, o1, fl, [], rfl, hFd.same s8, wf.nd, by omega, fkk wf, SqT.of upd_same, by decide, by decide, fun D H9 s9 dD => ?_⟩
  have s79 := s8.trans s9
  refine ⟨R, D, r.col, r.c, r.as, fl, us, rfl, (tR7.same s79).to, dD, ok1, fun u1 H10 s10 du1 => ?_⟩
  have s710 := s79.trans s10
  refine ⟨_, rfl, _, rfl, (by show 0 ≤ sizeLine; decide), fun o2 ho2 => ?_⟩
  have s11 := same_new ho2 (.tup [])
  refine ⟨d2, o2, fl2, [], rfl, hF7.same (s710.trans s11), wf2.nd, by omega, fkk wf2, SqT.of upd_same, by decide, by decide, fun D2 H12 s12 dD2 => ?_⟩
  have s1012 := s11.trans s12
  refine ⟨R, D2, r.col, r.c, r.as, fl2, us, rfl, (tR7.same (s710.trans s1012)).to, dD2, ok2, fun u2 H13 s13 du2 => ?_⟩
  have s1013 := s1012.trans s13
  have s713 := s710.trans s1013
  have du1 := du1.same s1013
  have tR13 := tR7.same s713
  have hF13 := hFd.same s713
  have g13 := g7.trans (Go.same g7.tp s713)
  clear s8 s9 s79 s10 s710 s11 s12 s1012 s13 s1013 dD dD2
  obtain ⟨ra, rxs, rfl, hR, hrx⟩ := tR13.tup_inv
  obtain ⟨y1, y2, y3, rfl, t1, t2, t3⟩ := hrx.three
  have du10 := du1
  have du20 := du2
  cases e1 : ruR fl r with
  | error z =>
    cases e2 : ruR fl2 r with
    | ok st => rw [e1, e2] at agr; exact agr.elim
    | error z2 =>
    rw [e1, e2] at agr
    have ez : z = z2 := agr
    subst ez
    have hz0 : subsF fl r.as ((subQ fl r.col r.c).map fun s => s.getD []) fl [] = .error z := e1
    have hz := sub_rej hz0
    rw [show ruleF fl r.col r.c r.as = _ from e1] at du1
    rw [show ruleF fl2 r.col r.c r.as = _ from e2] at du2
    have du10 := du1
    obtain ⟨ua, uxs, rfl, hU, hus⟩ := dt_tup du1
    obtain ⟨w1, w2, rfl, k1, k2⟩ := hus.two
    cases k1; cases k2
    refine ⟨_, rfl, ua, _, 0, _, rfl, rfl, hU, rfl, rfl, _, rfl, iteT ?_⟩
    obtain ⟨ab, axs, rfl, hA, hax⟩ := t3.tup_inv
    have la := hax.length
    rw [List.length_map] at la
    refine ⟨_, rfl, ra, _, 2, _, rfl, rfl, SqT.of hR, rfl, ab, rfl, ⟨_, SqT.of hA⟩, fun W hW => ?_⟩
    refine lc_it (walk_tup (K := K) (a := ab) (xs := axs)) (fun j H' => Same H13 H' ∧ H' W = some (.lst ((rejs (r.as.take j)).map V.str))) ⟨same_new hW _, upd_same⟩ (fun j H' _ h => SqT.of (h.1 _ _ hA)) ?_ ?_
    · rintro j y H14 H15 hj ⟨s14, eW⟩ ⟨rfl, hy⟩
      obtain ⟨dd, ed, dy⟩ := hax.get' hy
      rw [List.getElem?_map] at ed
      obtain ⟨ac, eac, rfl⟩ := Option.map_eq_some_iff.mp ed
      obtain ⟨hj2, eac2⟩ := List.getElem?_eq_some_iff.mp eac
      obtain ⟨ab', axs', rfl, hA', harej⟩ := acD_word ((dy.same s14).to (K := K))
      have hT : rejs (r.as.take (j + 1)) = rejs (r.as.take j) ++ rejs [ac] := by
        rw [List.take_succ_eq_append_getElem hj2, eac2, rejs_app]
      have lw : (rejs (r.as.take j)).length ≤ 15 := by
        have := rejs_len (r.as.take j)
        rw [List.length_take] at this
        omega
      refine ⟨rfl, _, rfl, ab', _, 0, _, rfl, rfl, hA', atI_nat (j := 0) rfl, rfl, _, rfl, ?_⟩
      rw [acW_rej]
      cases hr : isRej ac with
      | false =>
        refine iteF ⟨s14, ?_⟩
        rw [hT, rejs_one, hr, if_neg (by decide), List.append_nil]
        exact eW
      | true =>
        obtain ⟨rr, rfl⟩ : ∃ rr, ac = .rej rr := by
          cases ac with
          | rej rr => exact ⟨rr, rfl⟩
          | _ => cases hr
        have er := harej rr rfl
        subst er
        refine iteT ⟨_, rfl, ab', _, 1, _, rfl, rfl, hA', rfl, _, eW, lt_line (by rw [List.length_map]; omega), s14.late hW, ?_⟩
        rw [upd_same, hT, List.map_append]
        rfl
    rintro H14 ⟨s14, eW⟩
    rw [la, List.take_length] at eW
    have lw : (rejs r.as).length ≤ 15 := by
      have := rejs_len r.as
      omega
    -- the same, and so told
    have dk : (resD (.error z)).deep ≤ 40 := by show 2 ≤ 40; decide
    refine ⟨_, rfl, _, rfl, u2, .ref ua, _, rfl, du2.same s14, du10.same s14, dk, rfl, fun H15 s15 => ⟨_, rfl, iteF ?_⟩⟩
    have s1315 := s14.trans s15
    have eW := s15 _ _ eW
    refine ⟨_, rfl, _, rfl, (by show 1 ≤ sizeLine; decide), fun o3 ho3 => ?_⟩
    have s16 := same_new ho3 (.lst [V.str (Str.ofString "")])
    refine ⟨W, o3, _, _, rfl, rfl, s16 _ _ eW, upd_same, le_line (by rw [List.length_map]; show _ + 1 ≤ _; omega), fun N hN => ?_⟩
    have s17 := same_new hN (.lst ((rejs r.as).map V.str ++ [V.str (Str.ofString "")]))
    have e0 : ((rejs r.as).map V.str ++ [V.str (Str.ofString "")])[0]? = some (.str z) := by
      cases e : rejs r.as with
      | nil => rw [e] at hz; cases hz
      | cons y l => rw [e] at hz; cases hz; rfl
    refine ⟨N, _, 0, _, rfl, rfl, SqL.of upd_same, atI_nat e0, (by show 2 ≤ sizeLine; decide), fun o4 ho4 => ?_⟩
    have s18 := s16.trans (s17.trans (same_new ho4 (.tup [V.str (Str.ofString "rejected"), V.str z])))
    refine ⟨.ref ua, .ref o4, resD (.error z), rfl, (du10.same s1315).same s18, .tup (SqT.of upd_same) (.cons (.str _) (.cons (.str _) .nil)), dk, rfl, fun H19 s19 => ⟨_, rfl, iteF ?_⟩⟩
    exact ⟨g13.trans (Go.same g13.tp (s1315.trans (s18.trans s19))), _, _, _, _, _, _, _, rfl⟩
  | ok st =>
    cases e2 : ruR fl2 r with
    | error z => rw [e1, e2] at agr; exact agr.elim
    | ok st2 =>
    rw [e1, e2] at agr
    obtain ⟨ag3, ag4⟩ := agr
    rw [show ruleF fl r.col r.c r.as = _ from e1] at du1
    rw [show ruleF fl2 r.col r.c r.as = _ from e2] at du2
    obtain ⟨ua, uxs, rfl, hU, hus⟩ := dt_tup du1
    obtain ⟨w1, w2, w3, rfl, k1, k2, k3⟩ := hus.three
    cases k1
    obtain ⟨va, vxs, rfl, hV, hvs⟩ := dt_tup du2
    obtain ⟨x1, x2, x3, rfl, m1, m2, m3⟩ := hvs.three
    cases m1
    rw [← ag3] at m3
    have h0 : ∀ {f : Fl}, Wf us f → ∀ p c, getF f p = some c → scOk c := fun wf p c e => (wf.pa p c e).2.2.2
    have wf3 := (subs_wf (h0 wf) (L := subQ fl r.col r.c) (fun s hs => ok1.ac s (subQ_sub hs)) wf e1).1
    have wf4 := (subs_wf (h0 wf2) (L := subQ fl2 r.col r.c) (fun s hs => ok2.ac s (subQ_sub hs)) wf2 e2).1
    have l := rule_len ok1 e1
    have hl2 := rule_efl ok1 e1
    have d3 : Dt.deeps (st.2.map efD) ≤ 5 := deeps_le fun d hd => by
      obtain ⟨x, hx, rfl⟩ := List.mem_map.mp hd
      have := (efD_ok (hl2 x hx)).1
      omega
    have d4 : Dt.fitss (st.2.map efD) = true := fitss_of fun d hd => by
      obtain ⟨x, hx, rfl⟩ := List.mem_map.mp hd
      exact (efD_ok (hl2 x hx)).2
    refine ⟨_, rfl, ua, _, 0, _, rfl, rfl, hU, rfl, rfl, _, rfl, iteF ?_⟩
    refine ⟨_, rfl, va, _, 0, _, rfl, rfl, hV, rfl, rfl, _, rfl, iteF ?_⟩
    refine ⟨_, rfl, va, _, 2, _, rfl, rfl, hV, rfl, _, rfl, ua, _, 2, _, rfl, rfl, hU, rfl, x3, w3, _, rfl, m3, k3, (by show Dt.deeps (st.2.map efD) + 1 ≤ 40; omega), (by show (decide ((st.2.map efD).length ≤ 1000000) && Dt.fitss (st.2.map efD)) = true; rw [d4, List.length_map, decide_eq_true (by omega : st.2.length ≤ 1000000)]; rfl), fun H14 s14 => ⟨_, rfl, iteF ?_⟩⟩
    obtain ⟨hpb, lcol, dpo, lra⟩ := seen_args rv wo wf
    have l300 := rulePl_len (r := r) hl lra
    obtain ⟨_, snu, lsn⟩ := seen_in rv wo wf
    have lsn := lsn l300
    refine ⟨_, rfl, _, rfl, .ref ra, d, r, fl, us, rfl, tR13.same s14, hF13.same s14, wf, hks, by omega, lcol, dpo, hl, lra, hpb, fun SL sxs H15 s15 eS alS => ⟨SL, rfl, ⟨_, SqL.of eS⟩, ?_⟩⟩
    have s1315 := s14.trans s15
    have ls := alS.len
    refine for_it (walk_list (K := K) (a := SL) (xs := sxs)) (fun j σ H' => Same H15 H' ∧ ∃ w10, σ = [some (.ref a), some (.ref t), some (.ref wa), some (.ref d), some (.int (0 + (i : Int))), some (.ref ra), some (.ref d2), some (.ref ua), some (.ref va), v9, w10, none]) ⟨Same.refl _, _, rfl⟩ (fun j σ H' _ h => SqL.of (h.1 _ _ eS)) ?_ ?_
    rotate_left
    · rintro σ H16 ⟨s16, w10, rfl⟩
      exact ⟨g13.trans (Go.same g13.tp (s1315.trans s16)), _, _, _, _, _, _, _, rfl⟩
    rintro j x σ H16x H16 hj ⟨s16, w10, rfl⟩ ⟨rfl, hx⟩
    obtain ⟨p, ep, b, rfl, hb⟩ := alS.at hx
    have hps := List.mem_of_getElem? ep
    have hb := s16 _ _ hb
    have psg : ∀ z ∈ p, SgT z := fun z hz => hsg z (snu p hps z hz)
    refine ⟨_, rfl, (by show 0 ≤ sizeLine; decide), fun o5 ho5 => ?_⟩
    have s17 := same_new ho5 (.tup [])
    have s1317 := s1315.trans (s16.trans s17)
    have hE : SqT K (upd H16 o5 (.tup [])) o5 (([] : List Str).map V.str) := SqT.of upd_same
    refine ne_paths (SqT.of (s17 _ _ hb)) hE psg (fun z hz => by cases hz) ?_
    refine ⟨_, rfl, ite2 (fun z => ?_) (fun _ => ?_)⟩
    rotate_left
    · exact ⟨s16.trans s17, _, rfl⟩
    have hb := s17 _ _ hb
    generalize upd H16 o5 (.tup []) = H17 at *
    have nep : p ≠ [] := fun e => by rw [e] at z; exact absurd z (by decide)
    have hU17 := s1317.seqT hU
    have hV17 := s1317.seqT hV
    refine ⟨_, rfl, ua, _, 1, _, rfl, rfl, hU17, rfl, _, rfl, w2, b, st.1, p, rfl, k2.same s1317, wf3.toUp, SqT.of hb, fun h1 H18 s18 dh1 => ?_⟩
    refine ⟨_, rfl, va, _, 1, _, rfl, rfl, s18.seqT hV17, rfl, _, rfl, x2, b, st2.1, p, rfl, (m2.same s1317).same s18, wf4.toUp, SqT.of (s18 _ _ hb), fun h2 H19 s19 dh2 => ?_⟩
    rw [hdD_ne nep] at dh1 dh2
    rw [← ag4 p ⟨hps, nep⟩] at dh2
    refine ⟨h1, h2, scO (getF st.1 p), rfl, dh1.same s19, dh2, (by have := deep_scO (getF st.1 p); omega), fits_scO' _, fun H20 s20 => ⟨_, rfl, iteF ?_⟩⟩
    exact ⟨s16.trans (s17.trans (s18.trans (s19.trans s20))), _, rfl⟩
end
set_option maxHeartbeats 4000000 in
theorem all_mk {l : PySem.W.OpenLaw} {w : World} {K : PySem.W.Frag} {h : Heap} {mg : Str → Option Value} {fa : Addr} (X : K.In h) (G : h.Ns mainGlobals mg) (hfa : mg "law" = some (.ref fa))
    {f0 : Addr} {od0 an0 : Option Addr} {sl0 : Array (Option Value)} {oc0 kV0 dc0 pm0 cd0 ct0 : Value}
    {f1 : Addr} {od1 an1 : Option Addr} {sl1 : Array (Option Value)} {oc1 kV1 dc1 pm1 cd1 ct1 : Value}
    {f2 : Addr} {od2 an2 : Option Addr} {sl2 : Array (Option Value)} {oc2 kV2 dc2 pm2 cd2 ct2 : Value}
    {f3 : Addr} {od3 an3 : Option Addr} {sl3 : Array (Option Value)} {oc3 kV3 dc3 pm3 cd3 ct3 : Value}
    {f4 : Addr} {od4 an4 : Option Addr} {sl4 : Array (Option Value)} {oc4 kV4 dc4 pm4 cd4 ct4 : Value}
    {f5 : Addr} {od5 an5 : Option Addr} {sl5 : Array (Option Value)} {oc5 kV5 dc5 pm5 cd5 ct5 : Value}
    {f6 : Addr} {od6 an6 : Option Addr} {sl6 : Array (Option Value)} {oc6 kV6 dc6 pm6 cd6 ct6 : Value}
    {f7 : Addr} {od7 an7 : Option Addr} {sl7 : Array (Option Value)} {oc7 kV7 dc7 pm7 cd7 ct7 : Value}
    {f8 : Addr} {od8 an8 : Option Addr} {sl8 : Array (Option Value)} {oc8 kV8 dc8 pm8 cd8 ct8 : Value}
    {f9 : Addr} {od9 an9 : Option Addr} {sl9 : Array (Option Value)} {oc9 kV9 dc9 pm9 cd9 ct9 : Value}
    {f10 : Addr} {od10 an10 : Option Addr} {sl10 : Array (Option Value)} {oc10 kV10 dc10 pm10 cd10 ct10 : Value}
    {f11 : Addr} {od11 an11 : Option Addr} {sl11 : Array (Option Value)} {oc11 kV11 dc11 pm11 cd11 ct11 : Value}
    {f12 : Addr} {od12 an12 : Option Addr} {sl12 : Array (Option Value)} {oc12 kV12 dc12 pm12 cd12 ct12 : Value}
    {f13 : Addr} {od13 an13 : Option Addr} {sl13 : Array (Option Value)} {oc13 dc13 pm13 cd13 ct13 : Value}
    {D13 : Addr}
    {f14 : Addr} {od14 an14 : Option Addr} {sl14 : Array (Option Value)} {oc14 kV14 dc14 pm14 cd14 ct14 : Value}
    {f15 : Addr} {od15 an15 : Option Addr} {sl15 : Array (Option Value)} {oc15 kV15 dc15 pm15 cd15 ct15 : Value}
    {f16 : Addr} {od16 an16 : Option Addr} {sl16 : Array (Option Value)} {oc16 kV16 dc16 pm16 cd16 ct16 : Value}
    {f17 : Addr} {od17 an17 : Option Addr} {sl17 : Array (Option Value)} {oc17 kV17 dc17 pm17 cd17 ct17 : Value}
    {f18 : Addr} {od18 an18 : Option Addr} {sl18 : Array (Option Value)} {oc18 kV18 dc18 pm18 cd18 ct18 : Value}
    {f19 : Addr} {od19 an19 : Option Addr} {sl19 : Array (Option Value)} {oc19 kV19 dc19 pm19 cd19 ct19 : Value}
    {f20 : Addr} {od20 an20 : Option Addr} {sl20 : Array (Option Value)} {oc20 kV20 dc20 pm20 cd20 ct20 : Value}
    {f21 : Addr} {od21 an21 : Option Addr} {sl21 : Array (Option Value)} {oc21 kV21 dc21 pm21 cd21 ct21 : Value}
    {f22 : Addr} {od22 an22 : Option Addr} {sl22 : Array (Option Value)} {oc22 kV22 dc22 pm22 cd22 ct22 : Value}
    {f23 : Addr} {od23 an23 : Option Addr} {sl23 : Array (Option Value)} {oc23 kV23 dc23 pm23 cd23 ct23 : Value}
    {f24 : Addr} {od24 an24 : Option Addr} {sl24 : Array (Option Value)} {oc24 kV24 dc24 pm24 cd24 ct24 : Value}
    {f25 : Addr} {od25 an25 : Option Addr} {sl25 : Array (Option Value)} {oc25 kV25 dc25 pm25 cd25 ct25 : Value}
    {f26 : Addr} {od26 an26 : Option Addr} {sl26 : Array (Option Value)} {oc26 kV26 dc26 pm26 cd26 ct26 : Value}
    {f27 : Addr} {od27 an27 : Option Addr} {sl27 : Array (Option Value)} {oc27 kV27 dc27 pm27 cd27 ct27 : Value}
    {f28 : Addr} {od28 an28 : Option Addr} {sl28 : Array (Option Value)} {oc28 kV28 dc28 pm28 cd28 ct28 : Value}
    {f29 : Addr} {od29 an29 : Option Addr} {sl29 : Array (Option Value)} {oc29 kV29 dc29 pm29 cd29 ct29 : Value}
    {f30 : Addr} {od30 an30 : Option Addr} {sl30 : Array (Option Value)} {oc30 kV30 dc30 pm30 cd30 ct30 : Value}
    {f31 : Addr} {od31 an31 : Option Addr} {sl31 : Array (Option Value)} {oc31 kV31 dc31 pm31 cd31 ct31 : Value}
    {f32 : Addr} {od32 an32 : Option Addr} {sl32 : Array (Option Value)} {oc32 kV32 dc32 pm32 cd32 ct32 : Value}
    {f33 : Addr} {od33 an33 : Option Addr} {sl33 : Array (Option Value)} {oc33 kV33 dc33 pm33 cd33 ct33 : Value}
    {f34 : Addr} {od34 an34 : Option Addr} {sl34 : Array (Option Value)} {oc34 kV34 dc34 pm34 cd34 ct34 : Value}
    {f35 : Addr} {od35 an35 : Option Addr} {sl35 : Array (Option Value)} {oc35 kV35 dc35 pm35 cd35 ct35 : Value}
    {f36 : Addr} {od36 an36 : Option Addr} {sl36 : Array (Option Value)} {oc36 kV36 dc36 pm36 cd36 ct36 : Value}
    {f37 : Addr} {od37 an37 : Option Addr} {sl37 : Array (Option Value)} {oc37 kV37 dc37 pm37 cd37 ct37 : Value}
    {f38 : Addr} {od38 an38 : Option Addr} {sl38 : Array (Option Value)} {oc38 kV38 dc38 pm38 cd38 ct38 : Value}
    {f39 : Addr} {od39 an39 : Option Addr} {sl39 : Array (Option Value)} {oc39 kV39 dc39 pm39 cd39 ct39 : Value}
    {f40 : Addr} {od40 an40 : Option Addr} {sl40 : Array (Option Value)} {oc40 kV40 dc40 pm40 cd40 ct40 : Value}
    {f41 : Addr} {od41 an41 : Option Addr} {sl41 : Array (Option Value)} {oc41 kV41 dc41 pm41 cd41 ct41 : Value}
    {f42 : Addr} {od42 an42 : Option Addr} {sl42 : Array (Option Value)} {oc42 kV42 dc42 pm42 cd42 ct42 : Value}
    {f43 : Addr} {od43 an43 : Option Addr} {sl43 : Array (Option Value)} {oc43 kV43 dc43 pm43 cd43 ct43 : Value}
    {f44 : Addr} {od44 an44 : Option Addr} {sl44 : Array (Option Value)} {oc44 kV44 dc44 pm44 cd44 ct44 : Value}
    {f45 : Addr} {od45 an45 : Option Addr} {sl45 : Array (Option Value)} {oc45 kV45 dc45 pm45 cd45 ct45 : Value}
    {f46 : Addr} {od46 an46 : Option Addr} {sl46 : Array (Option Value)} {oc46 kV46 dc46 pm46 cd46 ct46 : Value}
    {f47 : Addr} {od47 an47 : Option Addr} {sl47 : Array (Option Value)} {oc47 kV47 dc47 pm47 cd47 ct47 : Value}
    {f48 : Addr} {od48 an48 : Option Addr} {sl48 : Array (Option Value)} {oc48 kV48 dc48 pm48 cd48 ct48 : Value}
    {f49 : Addr} {od49 an49 : Option Addr} {sl49 : Array (Option Value)} {oc49 kV49 dc49 pm49 cd49 ct49 : Value}
    {f50 : Addr} {od50 an50 : Option Addr} {sl50 : Array (Option Value)} {oc50 kV50 dc50 pm50 cd50 ct50 : Value}
    {f51 : Addr} {od51 an51 : Option Addr} {sl51 : Array (Option Value)} {oc51 kV51 dc51 pm51 cd51 ct51 : Value}
    {f52 : Addr} {od52 an52 : Option Addr} {sl52 : Array (Option Value)} {oc52 kV52 dc52 pm52 cd52 ct52 : Value}
    {ad_RECORD : Addr} {dd_RECORD : Option Addr} {n_RECORD : Nat} {sl_RECORD : Array (Option Value)} {t_RECORD_0 : Tok}
    (a0 : PySem.W.nsIn K mainGlobals "text_rank" = some (some (.ref f0))) (l0 : K.lookup f0 = some ⟨oc0, od0, .func (PySem.W.fnOf "text_rank" "text_rank" (defArgs s_text_rank) (defBody s_text_rank) (defScope s_text_rank) .none kV0 dc0 pm0 an0 cd0 ct0), sl0⟩) (c0 : PySem.W.codeIn K cd0 "text_rank" = true) (k0 : PySem.W.keepIn K (.ref f0) = true)
    (a1 : PySem.W.nsIn K mainGlobals "content_of" = some (some (.ref f1))) (l1 : K.lookup f1 = some ⟨oc1, od1, .func (PySem.W.fnOf "content_of" "content_of" (defArgs s_content_of) (defBody s_content_of) (defScope s_content_of) .none kV1 dc1 pm1 an1 cd1 ct1), sl1⟩) (c1 : PySem.W.codeIn K cd1 "content_of" = true) (k1 : PySem.W.keepIn K (.ref f1) = true)
    (a2 : PySem.W.nsIn K mainGlobals "field" = some (some (.ref f2))) (l2 : K.lookup f2 = some ⟨oc2, od2, .func (PySem.W.fnOf "field" "field" (defArgs s_field) (defBody s_field) (defScope s_field) .none kV2 dc2 pm2 an2 cd2 ct2), sl2⟩) (c2 : PySem.W.codeIn K cd2 "field" = true) (k2 : PySem.W.keepIn K (.ref f2) = true)
    (a3 : PySem.W.nsIn K mainGlobals "value_at" = some (some (.ref f3))) (l3 : K.lookup f3 = some ⟨oc3, od3, .func (PySem.W.fnOf "value_at" "value_at" (defArgs s_value_at) (defBody s_value_at) (defScope s_value_at) .none kV3 dc3 pm3 an3 cd3 ct3), sl3⟩) (c3 : PySem.W.codeIn K cd3 "value_at" = true) (k3 : PySem.W.keepIn K (.ref f3) = true)
    (a4 : PySem.W.nsIn K mainGlobals "held" = some (some (.ref f4))) (l4 : K.lookup f4 = some ⟨oc4, od4, .func (PySem.W.fnOf "held" "held" (defArgs s_held) (defBody s_held) (defScope s_held) .none kV4 dc4 pm4 an4 cd4 ct4), sl4⟩) (c4 : PySem.W.codeIn K cd4 "held" = true) (k4 : PySem.W.keepIn K (.ref f4) = true)
    (a5 : PySem.W.nsIn K mainGlobals "fields_of" = some (some (.ref f5))) (l5 : K.lookup f5 = some ⟨oc5, od5, .func (PySem.W.fnOf "fields_of" "fields_of" (defArgs s_fields_of) (defBody s_fields_of) (defScope s_fields_of) .none kV5 dc5 pm5 an5 cd5 ct5), sl5⟩) (c5 : PySem.W.codeIn K cd5 "fields_of" = true) (k5 : PySem.W.keepIn K (.ref f5) = true)
    (a6 : PySem.W.nsIn K mainGlobals "keys_below" = some (some (.ref f6))) (l6 : K.lookup f6 = some ⟨oc6, od6, .func (PySem.W.fnOf "keys_below" "keys_below" (defArgs s_keys_below) (defBody s_keys_below) (defScope s_keys_below) .none kV6 dc6 pm6 an6 cd6 ct6), sl6⟩) (c6 : PySem.W.codeIn K cd6 "keys_below" = true) (k6 : PySem.W.keepIn K (.ref f6) = true)
    (a7 : PySem.W.nsIn K mainGlobals "with_field" = some (some (.ref f7))) (l7 : K.lookup f7 = some ⟨oc7, od7, .func (PySem.W.fnOf "with_field" "with_field" (defArgs s_with_field) (defBody s_with_field) (defScope s_with_field) .none kV7 dc7 pm7 an7 cd7 ct7), sl7⟩) (c7 : PySem.W.codeIn K cd7 "with_field" = true) (k7 : PySem.W.keepIn K (.ref f7) = true)
    (a8 : PySem.W.nsIn K mainGlobals "with_scalar" = some (some (.ref f8))) (l8 : K.lookup f8 = some ⟨oc8, od8, .func (PySem.W.fnOf "with_scalar" "with_scalar" (defArgs s_with_scalar) (defBody s_with_scalar) (defScope s_with_scalar) .none kV8 dc8 pm8 an8 cd8 ct8), sl8⟩) (c8 : PySem.W.codeIn K cd8 "with_scalar" = true) (k8 : PySem.W.keepIn K (.ref f8) = true)
    (a9 : PySem.W.nsIn K mainGlobals "without" = some (some (.ref f9))) (l9 : K.lookup f9 = some ⟨oc9, od9, .func (PySem.W.fnOf "without" "without" (defArgs s_without) (defBody s_without) (defScope s_without) .none kV9 dc9 pm9 an9 cd9 ct9), sl9⟩) (c9 : PySem.W.codeIn K cd9 "without" = true) (k9 : PySem.W.keepIn K (.ref f9) = true)
    (a10 : PySem.W.nsIn K mainGlobals "entries" = some (some (.ref f10))) (l10 : K.lookup f10 = some ⟨oc10, od10, .func (PySem.W.fnOf "entries" "entries" (defArgs s_entries) (defBody s_entries) (defScope s_entries) .none kV10 dc10 pm10 an10 cd10 ct10), sl10⟩) (c10 : PySem.W.codeIn K cd10 "entries" = true) (k10 : PySem.W.keepIn K (.ref f10) = true)
    (a11 : PySem.W.nsIn K mainGlobals "leads_to" = some (some (.ref f11))) (l11 : K.lookup f11 = some ⟨oc11, od11, .func (PySem.W.fnOf "leads_to" "leads_to" (defArgs s_leads_to) (defBody s_leads_to) (defScope s_leads_to) .none kV11 dc11 pm11 an11 cd11 ct11), sl11⟩) (c11 : PySem.W.codeIn K cd11 "leads_to" = true) (k11 : PySem.W.keepIn K (.ref f11) = true)
    (a12 : PySem.W.nsIn K mainGlobals "satisfies" = some (some (.ref f12))) (l12 : K.lookup f12 = some ⟨oc12, od12, .func (PySem.W.fnOf "satisfies" "satisfies" (defArgs s_satisfies) (defBody s_satisfies) (defScope s_satisfies) .none kV12 dc12 pm12 an12 cd12 ct12), sl12⟩) (c12 : PySem.W.codeIn K cd12 "satisfies" = true) (k12 : PySem.W.keepIn K (.ref f12) = true)
    (a13 : PySem.W.nsIn K mainGlobals "holds" = some (some (.ref f13))) (l13 : K.lookup f13 = some ⟨oc13, od13, .func (PySem.W.fnOf "holds" "holds" (defArgs s_holds) (defBody s_holds) (defScope s_holds) .none (.ref D13) dc13 pm13 an13 cd13 ct13), sl13⟩) (c13 : PySem.W.codeIn K cd13 "holds" = true) (k13 : PySem.W.keepIn K (.ref f13) = true) (w13 : PySem.W.nsIn K D13 "entry" = some (some .none))
    (a14 : PySem.W.nsIn K mainGlobals "subjects" = some (some (.ref f14))) (l14 : K.lookup f14 = some ⟨oc14, od14, .func (PySem.W.fnOf "subjects" "subjects" (defArgs s_subjects) (defBody s_subjects) (defScope s_subjects) .none kV14 dc14 pm14 an14 cd14 ct14), sl14⟩) (c14 : PySem.W.codeIn K cd14 "subjects" = true) (k14 : PySem.W.keepIn K (.ref f14) = true)
    (a15 : PySem.W.nsIn K mainGlobals "effect_of" = some (some (.ref f15))) (l15 : K.lookup f15 = some ⟨oc15, od15, .func (PySem.W.fnOf "effect_of" "effect_of" (defArgs s_effect_of) (defBody s_effect_of) (defScope s_effect_of) .none kV15 dc15 pm15 an15 cd15 ct15), sl15⟩) (c15 : PySem.W.codeIn K cd15 "effect_of" = true) (k15 : PySem.W.keepIn K (.ref f15) = true)
    (a16 : PySem.W.nsIn K mainGlobals "with_effect" = some (some (.ref f16))) (l16 : K.lookup f16 = some ⟨oc16, od16, .func (PySem.W.fnOf "with_effect" "with_effect" (defArgs s_with_effect) (defBody s_with_effect) (defScope s_with_effect) .none kV16 dc16 pm16 an16 cd16 ct16), sl16⟩) (c16 : PySem.W.codeIn K cd16 "with_effect" = true) (k16 : PySem.W.keepIn K (.ref f16) = true)
    (a17 : PySem.W.nsIn K mainGlobals "apply_rule" = some (some (.ref f17))) (l17 : K.lookup f17 = some ⟨oc17, od17, .func (PySem.W.fnOf "apply_rule" "apply_rule" (defArgs s_apply_rule) (defBody s_apply_rule) (defScope s_apply_rule) .none kV17 dc17 pm17 an17 cd17 ct17), sl17⟩) (c17 : PySem.W.codeIn K cd17 "apply_rule" = true) (k17 : PySem.W.keepIn K (.ref f17) = true)
    (a18 : PySem.W.nsIn K mainGlobals "_law_tape" = some (some (.ref f18))) (l18 : K.lookup f18 = some ⟨oc18, od18, .func (PySem.W.fnOf "_law_tape" "_law_tape" (defArgs s_law_tape) (defBody s_law_tape) (defScope s_law_tape) .none kV18 dc18 pm18 an18 cd18 ct18), sl18⟩) (c18 : PySem.W.codeIn K cd18 "_law_tape" = true) (k18 : PySem.W.keepIn K (.ref f18) = true)
    (a19 : PySem.W.nsIn K mainGlobals "_law_draw" = some (some (.ref f19))) (l19 : K.lookup f19 = some ⟨oc19, od19, .func (PySem.W.fnOf "_law_draw" "_law_draw" (defArgs s_law_draw) (defBody s_law_draw) (defScope s_law_draw) .none kV19 dc19 pm19 an19 cd19 ct19), sl19⟩) (c19 : PySem.W.codeIn K cd19 "_law_draw" = true) (k19 : PySem.W.keepIn K (.ref f19) = true)
    (a20 : PySem.W.nsIn K mainGlobals "_law_pick" = some (some (.ref f20))) (l20 : K.lookup f20 = some ⟨oc20, od20, .func (PySem.W.fnOf "_law_pick" "_law_pick" (defArgs s_law_pick) (defBody s_law_pick) (defScope s_law_pick) .none kV20 dc20 pm20 an20 cd20 ct20), sl20⟩) (c20 : PySem.W.codeIn K cd20 "_law_pick" = true) (k20 : PySem.W.keepIn K (.ref f20) = true)
    (a21 : PySem.W.nsIn K mainGlobals "_law_same" = some (some (.ref f21))) (l21 : K.lookup f21 = some ⟨oc21, od21, .func (PySem.W.fnOf "_law_same" "_law_same" (defArgs s_law_same) (defBody s_law_same) (defScope s_law_same) .none kV21 dc21 pm21 an21 cd21 ct21), sl21⟩) (c21 : PySem.W.codeIn K cd21 "_law_same" = true) (k21 : PySem.W.keepIn K (.ref f21) = true)
    (a22 : PySem.W.nsIn K mainGlobals "_law_reserved" = some (some (.ref f22))) (l22 : K.lookup f22 = some ⟨oc22, od22, .func (PySem.W.fnOf "_law_reserved" "_law_reserved" (defArgs s_law_reserved) (defBody s_law_reserved) (defScope s_law_reserved) .none kV22 dc22 pm22 an22 cd22 ct22), sl22⟩) (c22 : PySem.W.codeIn K cd22 "_law_reserved" = true) (k22 : PySem.W.keepIn K (.ref f22) = true)
    (a23 : PySem.W.nsIn K mainGlobals "_law_fresh" = some (some (.ref f23))) (l23 : K.lookup f23 = some ⟨oc23, od23, .func (PySem.W.fnOf "_law_fresh" "_law_fresh" (defArgs s_law_fresh) (defBody s_law_fresh) (defScope s_law_fresh) .none kV23 dc23 pm23 an23 cd23 ct23), sl23⟩) (c23 : PySem.W.codeIn K cd23 "_law_fresh" = true) (k23 : PySem.W.keepIn K (.ref f23) = true)
    (a24 : PySem.W.nsIn K mainGlobals "_law_key" = some (some (.ref f24))) (l24 : K.lookup f24 = some ⟨oc24, od24, .func (PySem.W.fnOf "_law_key" "_law_key" (defArgs s_law_key) (defBody s_law_key) (defScope s_law_key) .none kV24 dc24 pm24 an24 cd24 ct24), sl24⟩) (c24 : PySem.W.codeIn K cd24 "_law_key" = true) (k24 : PySem.W.keepIn K (.ref f24) = true)
    (a25 : PySem.W.nsIn K mainGlobals "_law_keys" = some (some (.ref f25))) (l25 : K.lookup f25 = some ⟨oc25, od25, .func (PySem.W.fnOf "_law_keys" "_law_keys" (defArgs s_law_keys) (defBody s_law_keys) (defScope s_law_keys) .none kV25 dc25 pm25 an25 cd25 ct25), sl25⟩) (c25 : PySem.W.codeIn K cd25 "_law_keys" = true) (k25 : PySem.W.keepIn K (.ref f25) = true)
    (a26 : PySem.W.nsIn K mainGlobals "_law_path" = some (some (.ref f26))) (l26 : K.lookup f26 = some ⟨oc26, od26, .func (PySem.W.fnOf "_law_path" "_law_path" (defArgs s_law_path) (defBody s_law_path) (defScope s_law_path) .none kV26 dc26 pm26 an26 cd26 ct26), sl26⟩) (c26 : PySem.W.codeIn K cd26 "_law_path" = true) (k26 : PySem.W.keepIn K (.ref f26) = true)
    (a27 : PySem.W.nsIn K mainGlobals "_law_tight_text" = some (some (.ref f27))) (l27 : K.lookup f27 = some ⟨oc27, od27, .func (PySem.W.fnOf "_law_tight_text" "_law_tight_text" (defArgs s_law_tight_text) (defBody s_law_tight_text) (defScope s_law_tight_text) .none kV27 dc27 pm27 an27 cd27 ct27), sl27⟩) (c27 : PySem.W.codeIn K cd27 "_law_tight_text" = true) (k27 : PySem.W.keepIn K (.ref f27) = true)
    (a28 : PySem.W.nsIn K mainGlobals "_law_scalar" = some (some (.ref f28))) (l28 : K.lookup f28 = some ⟨oc28, od28, .func (PySem.W.fnOf "_law_scalar" "_law_scalar" (defArgs s_law_scalar) (defBody s_law_scalar) (defScope s_law_scalar) .none kV28 dc28 pm28 an28 cd28 ct28), sl28⟩) (c28 : PySem.W.codeIn K cd28 "_law_scalar" = true) (k28 : PySem.W.keepIn K (.ref f28) = true)
    (a29 : PySem.W.nsIn K mainGlobals "_law_cut" = some (some (.ref f29))) (l29 : K.lookup f29 = some ⟨oc29, od29, .func (PySem.W.fnOf "_law_cut" "_law_cut" (defArgs s_law_cut) (defBody s_law_cut) (defScope s_law_cut) .none kV29 dc29 pm29 an29 cd29 ct29), sl29⟩) (c29 : PySem.W.codeIn K cd29 "_law_cut" = true) (k29 : PySem.W.keepIn K (.ref f29) = true)
    (a30 : PySem.W.nsIn K mainGlobals "_law_put" = some (some (.ref f30))) (l30 : K.lookup f30 = some ⟨oc30, od30, .func (PySem.W.fnOf "_law_put" "_law_put" (defArgs s_law_put) (defBody s_law_put) (defScope s_law_put) .none kV30 dc30 pm30 an30 cd30 ct30), sl30⟩) (c30 : PySem.W.codeIn K cd30 "_law_put" = true) (k30 : PySem.W.keepIn K (.ref f30) = true)
    (a31 : PySem.W.nsIn K mainGlobals "_law_rank" = some (some (.ref f31))) (l31 : K.lookup f31 = some ⟨oc31, od31, .func (PySem.W.fnOf "_law_rank" "_law_rank" (defArgs s_law_rank) (defBody s_law_rank) (defScope s_law_rank) .none kV31 dc31 pm31 an31 cd31 ct31), sl31⟩) (c31 : PySem.W.codeIn K cd31 "_law_rank" = true) (k31 : PySem.W.keepIn K (.ref f31) = true)
    (a32 : PySem.W.nsIn K mainGlobals "_law_ascending" = some (some (.ref f32))) (l32 : K.lookup f32 = some ⟨oc32, od32, .func (PySem.W.fnOf "_law_ascending" "_law_ascending" (defArgs s_law_ascending) (defBody s_law_ascending) (defScope s_law_ascending) .none kV32 dc32 pm32 an32 cd32 ct32), sl32⟩) (c32 : PySem.W.codeIn K cd32 "_law_ascending" = true) (k32 : PySem.W.keepIn K (.ref f32) = true)
    (a33 : PySem.W.nsIn K mainGlobals "_law_below" = some (some (.ref f33))) (l33 : K.lookup f33 = some ⟨oc33, od33, .func (PySem.W.fnOf "_law_below" "_law_below" (defArgs s_law_below) (defBody s_law_below) (defScope s_law_below) .none kV33 dc33 pm33 an33 cd33 ct33), sl33⟩) (c33 : PySem.W.codeIn K cd33 "_law_below" = true) (k33 : PySem.W.keepIn K (.ref f33) = true)
    (a34 : PySem.W.nsIn K mainGlobals "_law_document" = some (some (.ref f34))) (l34 : K.lookup f34 = some ⟨oc34, od34, .func (PySem.W.fnOf "_law_document" "_law_document" (defArgs s_law_document) (defBody s_law_document) (defScope s_law_document) .none kV34 dc34 pm34 an34 cd34 ct34), sl34⟩) (c34 : PySem.W.codeIn K cd34 "_law_document" = true) (k34 : PySem.W.keepIn K (.ref f34) = true)
    (a35 : PySem.W.nsIn K mainGlobals "_law_literal" = some (some (.ref f35))) (l35 : K.lookup f35 = some ⟨oc35, od35, .func (PySem.W.fnOf "_law_literal" "_law_literal" (defArgs s_law_literal) (defBody s_law_literal) (defScope s_law_literal) .none kV35 dc35 pm35 an35 cd35 ct35), sl35⟩) (c35 : PySem.W.codeIn K cd35 "_law_literal" = true) (k35 : PySem.W.keepIn K (.ref f35) = true)
    (a36 : PySem.W.nsIn K mainGlobals "_law_place_path" = some (some (.ref f36))) (l36 : K.lookup f36 = some ⟨oc36, od36, .func (PySem.W.fnOf "_law_place_path" "_law_place_path" (defArgs s_law_place_path) (defBody s_law_place_path) (defScope s_law_place_path) .none kV36 dc36 pm36 an36 cd36 ct36), sl36⟩) (c36 : PySem.W.codeIn K cd36 "_law_place_path" = true) (k36 : PySem.W.keepIn K (.ref f36) = true)
    (a37 : PySem.W.nsIn K mainGlobals "_law_world" = some (some (.ref f37))) (l37 : K.lookup f37 = some ⟨oc37, od37, .func (PySem.W.fnOf "_law_world" "_law_world" (defArgs s_law_world) (defBody s_law_world) (defScope s_law_world) .none kV37 dc37 pm37 an37 cd37 ct37), sl37⟩) (c37 : PySem.W.codeIn K cd37 "_law_world" = true) (k37 : PySem.W.keepIn K (.ref f37) = true)
    (a38 : PySem.W.nsIn K mainGlobals "_law_some_place" = some (some (.ref f38))) (l38 : K.lookup f38 = some ⟨oc38, od38, .func (PySem.W.fnOf "_law_some_place" "_law_some_place" (defArgs s_law_some_place) (defBody s_law_some_place) (defScope s_law_some_place) .none kV38 dc38 pm38 an38 cd38 ct38), sl38⟩) (c38 : PySem.W.codeIn K cd38 "_law_some_place" = true) (k38 : PySem.W.keepIn K (.ref f38) = true)
    (a39 : PySem.W.nsIn K mainGlobals "_law_condition" = some (some (.ref f39))) (l39 : K.lookup f39 = some ⟨oc39, od39, .func (PySem.W.fnOf "_law_condition" "_law_condition" (defArgs s_law_condition) (defBody s_law_condition) (defScope s_law_condition) .none kV39 dc39 pm39 an39 cd39 ct39), sl39⟩) (c39 : PySem.W.codeIn K cd39 "_law_condition" = true) (k39 : PySem.W.keepIn K (.ref f39) = true)
    (a40 : PySem.W.nsIn K mainGlobals "_law_action" = some (some (.ref f40))) (l40 : K.lookup f40 = some ⟨oc40, od40, .func (PySem.W.fnOf "_law_action" "_law_action" (defArgs s_law_action) (defBody s_law_action) (defScope s_law_action) .none kV40 dc40 pm40 an40 cd40 ct40), sl40⟩) (c40 : PySem.W.codeIn K cd40 "_law_action" = true) (k40 : PySem.W.keepIn K (.ref f40) = true)
    (a41 : PySem.W.nsIn K mainGlobals "_law_size" = some (some (.ref f41))) (l41 : K.lookup f41 = some ⟨oc41, od41, .func (PySem.W.fnOf "_law_size" "_law_size" (defArgs s_law_size) (defBody s_law_size) (defScope s_law_size) .none kV41 dc41 pm41 an41 cd41 ct41), sl41⟩) (c41 : PySem.W.codeIn K cd41 "_law_size" = true) (k41 : PySem.W.keepIn K (.ref f41) = true)
    (a42 : PySem.W.nsIn K mainGlobals "_law_rule_size" = some (some (.ref f42))) (l42 : K.lookup f42 = some ⟨oc42, od42, .func (PySem.W.fnOf "_law_rule_size" "_law_rule_size" (defArgs s_law_rule_size) (defBody s_law_rule_size) (defScope s_law_rule_size) .none kV42 dc42 pm42 an42 cd42 ct42), sl42⟩) (c42 : PySem.W.codeIn K cd42 "_law_rule_size" = true) (k42 : PySem.W.keepIn K (.ref f42) = true)
    (a43 : PySem.W.nsIn K mainGlobals "_law_rule" = some (some (.ref f43))) (l43 : K.lookup f43 = some ⟨oc43, od43, .func (PySem.W.fnOf "_law_rule" "_law_rule" (defArgs s_law_rule) (defBody s_law_rule) (defScope s_law_rule) .none kV43 dc43 pm43 an43 cd43 ct43), sl43⟩) (c43 : PySem.W.codeIn K cd43 "_law_rule" = true) (k43 : PySem.W.keepIn K (.ref f43) = true)
    (a44 : PySem.W.nsIn K mainGlobals "_law_at" = some (some (.ref f44))) (l44 : K.lookup f44 = some ⟨oc44, od44, .func (PySem.W.fnOf "_law_at" "_law_at" (defArgs s_law_at) (defBody s_law_at) (defScope s_law_at) .none kV44 dc44 pm44 an44 cd44 ct44), sl44⟩) (c44 : PySem.W.codeIn K cd44 "_law_at" = true) (k44 : PySem.W.keepIn K (.ref f44) = true)
    (a45 : PySem.W.nsIn K mainGlobals "_law_spots" = some (some (.ref f45))) (l45 : K.lookup f45 = some ⟨oc45, od45, .func (PySem.W.fnOf "_law_spots" "_law_spots" (defArgs s_law_spots) (defBody s_law_spots) (defScope s_law_spots) .none kV45 dc45 pm45 an45 cd45 ct45), sl45⟩) (c45 : PySem.W.codeIn K cd45 "_law_spots" = true) (k45 : PySem.W.keepIn K (.ref f45) = true)
    (a46 : PySem.W.nsIn K mainGlobals "_law_near_flat" = some (some (.ref f46))) (l46 : K.lookup f46 = some ⟨oc46, od46, .func (PySem.W.fnOf "_law_near_flat" "_law_near_flat" (defArgs s_law_near_flat) (defBody s_law_near_flat) (defScope s_law_near_flat) .none kV46 dc46 pm46 an46 cd46 ct46), sl46⟩) (c46 : PySem.W.codeIn K cd46 "_law_near_flat" = true) (k46 : PySem.W.keepIn K (.ref f46) = true)
    (a47 : PySem.W.nsIn K mainGlobals "_law_uses_of" = some (some (.ref f47))) (l47 : K.lookup f47 = some ⟨oc47, od47, .func (PySem.W.fnOf "_law_uses_of" "_law_uses_of" (defArgs s_law_uses_of) (defBody s_law_uses_of) (defScope s_law_uses_of) .none kV47 dc47 pm47 an47 cd47 ct47), sl47⟩) (c47 : PySem.W.codeIn K cd47 "_law_uses_of" = true) (k47 : PySem.W.keepIn K (.ref f47) = true)
    (a48 : PySem.W.nsIn K mainGlobals "_law_uses" = some (some (.ref f48))) (l48 : K.lookup f48 = some ⟨oc48, od48, .func (PySem.W.fnOf "_law_uses" "_law_uses" (defArgs s_law_uses) (defBody s_law_uses) (defScope s_law_uses) .none kV48 dc48 pm48 an48 cd48 ct48), sl48⟩) (c48 : PySem.W.codeIn K cd48 "_law_uses" = true) (k48 : PySem.W.keepIn K (.ref f48) = true)
    (a49 : PySem.W.nsIn K mainGlobals "_law_seen" = some (some (.ref f49))) (l49 : K.lookup f49 = some ⟨oc49, od49, .func (PySem.W.fnOf "_law_seen" "_law_seen" (defArgs s_law_seen) (defBody s_law_seen) (defScope s_law_seen) .none kV49 dc49 pm49 an49 cd49 ct49), sl49⟩) (c49 : PySem.W.codeIn K cd49 "_law_seen" = true) (k49 : PySem.W.keepIn K (.ref f49) = true)
    (a50 : PySem.W.nsIn K mainGlobals "_law_is_unseen" = some (some (.ref f50))) (l50 : K.lookup f50 = some ⟨oc50, od50, .func (PySem.W.fnOf "_law_is_unseen" "_law_is_unseen" (defArgs s_law_is_unseen) (defBody s_law_is_unseen) (defScope s_law_is_unseen) .none kV50 dc50 pm50 an50 cd50 ct50), sl50⟩) (c50 : PySem.W.codeIn K cd50 "_law_is_unseen" = true) (k50 : PySem.W.keepIn K (.ref f50) = true)
    (a51 : PySem.W.nsIn K mainGlobals "_law_changed" = some (some (.ref f51))) (l51 : K.lookup f51 = some ⟨oc51, od51, .func (PySem.W.fnOf "_law_changed" "_law_changed" (defArgs s_law_changed) (defBody s_law_changed) (defScope s_law_changed) .none kV51 dc51 pm51 an51 cd51 ct51), sl51⟩) (c51 : PySem.W.codeIn K cd51 "_law_changed" = true) (k51 : PySem.W.keepIn K (.ref f51) = true)
    (a52 : PySem.W.nsIn K mainGlobals "law" = some (some (.ref f52))) (l52 : K.lookup f52 = some ⟨oc52, od52, .func (PySem.W.fnOf "law" "law" (defArgs s_law) (defBody s_law) (defScope s_law) .none kV52 dc52 pm52 an52 cd52 ct52), sl52⟩) (c52 : PySem.W.codeIn K cd52 "law" = true) (k52 : PySem.W.keepIn K (.ref f52) = true)
    (z_abs : PySem.W.nsIn K mainGlobals "abs" = some none)
    (z_bool : PySem.W.nsIn K mainGlobals "bool" = some none)
    (z_int : PySem.W.nsIn K mainGlobals "int" = some none)
    (z_isinstance : PySem.W.nsIn K mainGlobals "isinstance" = some none)
    (z_len : PySem.W.nsIn K mainGlobals "len" = some none)
    (z_list : PySem.W.nsIn K mainGlobals "list" = some none)
    (z_max : PySem.W.nsIn K mainGlobals "max" = some none)
    (z_range : PySem.W.nsIn K mainGlobals "range" = some none)
    (z_sorted : PySem.W.nsIn K mainGlobals "sorted" = some none)
    (z_str : PySem.W.nsIn K mainGlobals "str" = some none)
    (z_tuple : PySem.W.nsIn K mainGlobals "tuple" = some none)
    (g_RECORD : PySem.W.nsIn K mainGlobals "RECORD" = some (some (.ref ad_RECORD))) (l_RECORD : K.lookup ad_RECORD = some ⟨.type "tuple", dd_RECORD, .seq #[.str (Str.ofString "record") t_RECORD_0] n_RECORD, sl_RECORD⟩) :
    ∃ fd : FuncData, (∀ (s : Shared) (v : Value), BindsTo s fd ⟨[v], []⟩ [("script", v)]) ∧ ∀ base : Heap, K.In base → base.Ns mainGlobals mg → FnOk l.prog w K mg base CX0 47 fa fd ["script"] (sp_law K) := by
  have e := hfa.symm.trans (PySem.W.mg_of X G a52)
  cases e
  have T : Top K w mg := ⟨PySem.W.mg_none_of X G z_abs, PySem.W.mg_none_of X G z_bool, PySem.W.mg_none_of X G z_int, PySem.W.mg_none_of X G z_isinstance, PySem.W.mg_none_of X G z_len, PySem.W.mg_none_of X G z_list, PySem.W.mg_none_of X G z_max, PySem.W.mg_none_of X G z_range, PySem.W.mg_none_of X G z_sorted, PySem.W.mg_none_of X G z_str, PySem.W.mg_none_of X G z_tuple, ⟨_, PySem.W.mg_of X G g_RECORD, fun _ => .inr ⟨_, _, _, l_RECORD, rfl, rfl, (by show 1 ≤ sizeLine; decide), (.cons ⟨_, rfl⟩ .nil)⟩⟩⟩
  refine ⟨PySem.W.fnOf "law" "law" (defArgs s_law) (defBody s_law) (defScope s_law) .none kV52 dc52 pm52 an52 cd52 ct52, fun s v => .of_eq rfl, fun base _ _ => ?_⟩
  have F0 := fun_mk (st := s_text_rank) l0 c0 k0
  have C_text_rank : Cal l.prog w K mg base "text_rank" 1 ["text"] sp_text_rank _ _ := ⟨ok_text_rank F0 T , F0.binds (ps := ["text"]) fun _ _ _ _ _ _ us hl => match us, hl with | [_], _ => rfl, k0, PySem.W.mg_of X G a0⟩
  have F1 := fun_mk (st := s_content_of) l1 c1 k1
  have C_content_of : Cal l.prog w K mg base "content_of" 1 ["value"] sp_content_of _ _ := ⟨ok_content_of F1 T , F1.binds (ps := ["value"]) fun _ _ _ _ _ _ us hl => match us, hl with | [_], _ => rfl, k1, PySem.W.mg_of X G a1⟩
  have F2 := fun_mk (st := s_field) l2 c2 k2
  have C_field : Cal l.prog w K mg base "field" 1 ["fields", "key"] sp_field _ _ := ⟨ok_field F2 T , F2.binds (ps := ["fields", "key"]) fun _ _ _ _ _ _ us hl => match us, hl with | [_, _], _ => rfl, k2, PySem.W.mg_of X G a2⟩
  have F3 := fun_mk (st := s_value_at) l3 c3 k3
  have C_value_at : Cal l.prog w K mg base "value_at" 2 ["document", "path"] sp_value_at _ _ := ⟨ok_value_at F3 T C_field, F3.binds (ps := ["document", "path"]) fun _ _ _ _ _ _ us hl => match us, hl with | [_, _], _ => rfl, k3, PySem.W.mg_of X G a3⟩
  have F4 := fun_mk (st := s_held) l4 c4 k4
  have C_held : Cal l.prog w K mg base "held" 3 ["document", "path"] sp_held _ _ := ⟨ok_held F4 T C_content_of C_value_at, F4.binds (ps := ["document", "path"]) fun _ _ _ _ _ _ us hl => match us, hl with | [_, _], _ => rfl, k4, PySem.W.mg_of X G a4⟩
  have F5 := fun_mk (st := s_fields_of) l5 c5 k5
  have C_fields_of : Cal l.prog w K mg base "fields_of" 1 ["value"] sp_fields_of _ _ := ⟨ok_fields_of F5 T , F5.binds (ps := ["value"]) fun _ _ _ _ _ _ us hl => match us, hl with | [_], _ => rfl, k5, PySem.W.mg_of X G a5⟩
  have F6 := fun_mk (st := s_keys_below) l6 c6 k6
  have C_keys_below : Cal l.prog w K mg base "keys_below" 3 ["document", "path"] sp_keys_below _ _ := ⟨ok_keys_below F6 T C_value_at C_fields_of, F6.binds (ps := ["document", "path"]) fun _ _ _ _ _ _ us hl => match us, hl with | [_, _], _ => rfl, k6, PySem.W.mg_of X G a6⟩
  have F7 := fun_mk (st := s_with_field) l7 c7 k7
  have C_with_field : Cal l.prog w K mg base "with_field" 2 ["fields", "key", "value"] sp_with_field _ _ := ⟨ok_with_field F7 T C_text_rank, F7.binds (ps := ["fields", "key", "value"]) fun _ _ _ _ _ _ us hl => match us, hl with | [_, _, _], _ => rfl, k7, PySem.W.mg_of X G a7⟩
  have F8 := fun_mk (st := s_with_scalar) l8 c8 k8
  have C_with_scalar : Cal l.prog w K mg base "with_scalar" 12 ["document", "path", "scalar"] sp_with_scalar _ _ := ⟨ok_with_scalar F8 T (PySem.W.mg_of X G a8) C_field C_fields_of C_with_field, F8.binds (ps := ["document", "path", "scalar"]) fun _ _ _ _ _ _ us hl => match us, hl with | [_, _, _], _ => rfl, k8, PySem.W.mg_of X G a8⟩
  have F9 := fun_mk (st := s_without) l9 c9 k9
  have C_without : Cal l.prog w K mg base "without" 12 ["document", "path"] sp_without _ _ := ⟨ok_without F9 T (PySem.W.mg_of X G a9) C_field C_with_field, F9.binds (ps := ["document", "path"]) fun _ _ _ _ _ _ us hl => match us, hl with | [_, _], _ => rfl, k9, PySem.W.mg_of X G a9⟩
  have F10 := fun_mk (st := s_entries) l10 c10 k10
  have C_entries : Cal l.prog w K mg base "entries" 4 ["document", "collection"] sp_entries _ _ := ⟨ok_entries F10 T C_keys_below, F10.binds (ps := ["document", "collection"]) fun _ _ _ _ _ _ us hl => match us, hl with | [_, _], _ => rfl, k10, PySem.W.mg_of X G a10⟩
  have F11 := fun_mk (st := s_leads_to) l11 c11 k11
  have C_leads_to : Cal l.prog w K mg base "leads_to" 1 ["place", "entry"] sp_leads_to _ _ := ⟨ok_leads_to F11 T , F11.binds (ps := ["place", "entry"]) fun _ _ _ _ _ _ us hl => match us, hl with | [_, _], _ => rfl, k11, PySem.W.mg_of X G a11⟩
  have F12 := fun_mk (st := s_satisfies) l12 c12 k12
  have C_satisfies : Cal l.prog w K mg base "satisfies" 1 ["content", "atom"] sp_satisfies _ _ := ⟨ok_satisfies F12 T , F12.binds (ps := ["content", "atom"]) fun _ _ _ _ _ _ us hl => match us, hl with | [_, _], _ => rfl, k12, PySem.W.mg_of X G a12⟩
  have F13 := fun_mk (st := s_holds) l13 c13 k13
  have C_holds : CalE l.prog w K mg base "holds" 44 ["condition", "document", "entry"] ["entry"] 2 .non sp_holds _ _ .none := ⟨ok_holds F13 T (PySem.W.mg_of X G a13) C_held C_leads_to C_satisfies (fun s us X hl => match us, (show us.length = 2 by simpa using hl) with | [_, _], _ => BindsTo.of_looks fun M => KwChain.looks (l := [("entry", .none)]) X (fun q hq => by cases List.mem_singleton.mp hq; exact w13) ⟨_, _, _, _, _, _, rfl, rfl, rfl⟩) rfl ⟨fun s us ws X l1 l2 => match us, l1, ws, l2 with | [_, _], _, [_], _ => .of_eq rfl, fun r1 r2 => r1.append r2⟩, (fun s us X hl => match us, (show us.length = 2 by simpa using hl) with | [_, _], _ => BindsTo.of_looks fun M => KwChain.looks (l := [("entry", .none)]) X (fun q hq => by cases List.mem_singleton.mp hq; exact w13) ⟨_, _, _, _, _, _, rfl, rfl, rfl⟩), rfl, ⟨fun s us ws X l1 l2 => match us, l1, ws, l2 with | [_, _], _, [_], _ => .of_eq rfl, fun r1 r2 => r1.append r2⟩, k13, PySem.W.mg_of X G a13⟩
  have F14 := fun_mk (st := s_subjects) l14 c14 k14
  have C_subjects : Cal l.prog w K mg base "subjects" 45 ["collection", "condition", "document"] sp_subjects _ _ := ⟨ok_subjects F14 T C_entries C_holds, F14.binds (ps := ["collection", "condition", "document"]) fun _ _ _ _ _ _ us hl => match us, hl with | [_, _, _], _ => rfl, k14, PySem.W.mg_of X G a14⟩
  have F15 := fun_mk (st := s_effect_of) l15 c15 k15
  have C_effect_of : Cal l.prog w K mg base "effect_of" 4 ["action", "entry", "current", "before"] sp_effect_of _ _ := ⟨ok_effect_of F15 T C_held C_leads_to, F15.binds (ps := ["action", "entry", "current", "before"]) fun _ _ _ _ _ _ us hl => match us, hl with | [_, _, _, _], _ => rfl, k15, PySem.W.mg_of X G a15⟩
  have F16 := fun_mk (st := s_with_effect) l16 c16 k16
  have C_with_effect : Cal l.prog w K mg base "with_effect" 13 ["document", "effect"] sp_with_effect _ _ := ⟨ok_with_effect F16 T C_with_scalar C_without, F16.binds (ps := ["document", "effect"]) fun _ _ _ _ _ _ us hl => match us, hl with | [_, _], _ => rfl, k16, PySem.W.mg_of X G a16⟩
  have F17 := fun_mk (st := s_apply_rule) l17 c17 k17
  have C_apply_rule : Cal l.prog w K mg base "apply_rule" 46 ["rule", "document"] sp_apply_rule _ _ := ⟨ok_apply_rule F17 T C_subjects C_effect_of C_with_effect, F17.binds (ps := ["rule", "document"]) fun _ _ _ _ _ _ us hl => match us, hl with | [_, _], _ => rfl, k17, PySem.W.mg_of X G a17⟩
  have F18 := fun_mk (st := s_law_tape) l18 c18 k18
  have C_law_tape : Cal l.prog w K mg base "_law_tape" 1 ["script"] sp_law_tape _ _ := ⟨ok_law_tape F18 T , F18.binds (ps := ["script"]) fun _ _ _ _ _ _ us hl => match us, hl with | [_], _ => rfl, k18, PySem.W.mg_of X G a18⟩
  have F19 := fun_mk (st := s_law_draw) l19 c19 k19
  have C_law_draw : Cal l.prog w K mg base "_law_draw" 1 ["tape", "many"] sp_law_draw _ _ := ⟨ok_law_draw F19 T , F19.binds (ps := ["tape", "many"]) fun _ _ _ _ _ _ us hl => match us, hl with | [_, _], _ => rfl, k19, PySem.W.mg_of X G a19⟩
  have F20 := fun_mk (st := s_law_pick) l20 c20 k20
  have C_law_pick : Cal l.prog w K mg base "_law_pick" 2 ["tape", "row"] sp_law_pick _ _ := ⟨ok_law_pick F20 T C_law_draw, F20.binds (ps := ["tape", "row"]) fun _ _ _ _ _ _ us hl => match us, hl with | [_, _], _ => rfl, k20, PySem.W.mg_of X G a20⟩
  have F21 := fun_mk (st := s_law_same) l21 c21 k21
  have C_law_same : Cal l.prog w K mg base "_law_same" 40 ["actual", "expected"] sp_law_same _ _ := ⟨ok_law_same F21 T (PySem.W.mg_of X G a21) , F21.binds (ps := ["actual", "expected"]) fun _ _ _ _ _ _ us hl => match us, hl with | [_, _], _ => rfl, k21, PySem.W.mg_of X G a21⟩
  have F22 := fun_mk (st := s_law_reserved) l22 c22 k22
  have C_law_reserved : Cal l.prog w K mg base "_law_reserved" 1 [] sp_law_reserved _ _ := ⟨ok_law_reserved F22 T , F22.binds (ps := []) fun _ _ _ _ _ _ us hl => match us, hl with | [], _ => rfl, k22, PySem.W.mg_of X G a22⟩
  have F23 := fun_mk (st := s_law_fresh) l23 c23 k23
  have C_law_fresh : Cal l.prog w K mg base "_law_fresh" 2 ["key", "keys"] sp_law_fresh _ _ := ⟨ok_law_fresh F23 T C_law_reserved, F23.binds (ps := ["key", "keys"]) fun _ _ _ _ _ _ us hl => match us, hl with | [_, _], _ => rfl, k23, PySem.W.mg_of X G a23⟩
  have F24 := fun_mk (st := s_law_key) l24 c24 k24
  have C_law_key : Cal l.prog w K mg base "_law_key" 3 ["tape", "stem"] sp_law_key _ _ := ⟨ok_law_key F24 T C_law_draw C_law_pick, F24.binds (ps := ["tape", "stem"]) fun _ _ _ _ _ _ us hl => match us, hl with | [_, _], _ => rfl, k24, PySem.W.mg_of X G a24⟩
  have F25 := fun_mk (st := s_law_keys) l25 c25 k25
  have C_law_keys : Cal l.prog w K mg base "_law_keys" 4 ["tape", "many"] sp_law_keys _ _ := ⟨ok_law_keys F25 T C_law_pick C_law_fresh C_law_key, F25.binds (ps := ["tape", "many"]) fun _ _ _ _ _ _ us hl => match us, hl with | [_, _], _ => rfl, k25, PySem.W.mg_of X G a25⟩
  have F26 := fun_mk (st := s_law_path) l26 c26 k26
  have C_law_path : Cal l.prog w K mg base "_law_path" 3 ["tape", "keys", "most"] sp_law_path _ _ := ⟨ok_law_path F26 T C_law_draw C_law_pick, F26.binds (ps := ["tape", "keys", "most"]) fun _ _ _ _ _ _ us hl => match us, hl with | [_, _, _], _ => rfl, k26, PySem.W.mg_of X G a26⟩
  have F27 := fun_mk (st := s_law_tight_text) l27 c27 k27
  have C_law_tight_text : Cal l.prog w K mg base "_law_tight_text" 3 ["tape", "many"] sp_law_tight_text _ _ := ⟨ok_law_tight_text F27 T C_law_pick, F27.binds (ps := ["tape", "many"]) fun _ _ _ _ _ _ us hl => match us, hl with | [_, _], _ => rfl, k27, PySem.W.mg_of X G a27⟩
  have F28 := fun_mk (st := s_law_scalar) l28 c28 k28
  have C_law_scalar : Cal l.prog w K mg base "_law_scalar" 4 ["tape"] sp_law_scalar _ _ := ⟨ok_law_scalar F28 T C_law_draw C_law_pick C_law_tight_text, F28.binds (ps := ["tape"]) fun _ _ _ _ _ _ us hl => match us, hl with | [_], _ => rfl, k28, PySem.W.mg_of X G a28⟩
  have F29 := fun_mk (st := s_law_cut) l29 c29 k29
  have C_law_cut : Cal l.prog w K mg base "_law_cut" 1 ["flat", "path"] sp_law_cut _ _ := ⟨ok_law_cut F29 T , F29.binds (ps := ["flat", "path"]) fun _ _ _ _ _ _ us hl => match us, hl with | [_, _], _ => rfl, k29, PySem.W.mg_of X G a29⟩
  have F30 := fun_mk (st := s_law_put) l30 c30 k30
  have C_law_put : Cal l.prog w K mg base "_law_put" 2 ["flat", "path", "content"] sp_law_put _ _ := ⟨ok_law_put F30 T C_law_cut, F30.binds (ps := ["flat", "path", "content"]) fun _ _ _ _ _ _ us hl => match us, hl with | [_, _, _], _ => rfl, k30, PySem.W.mg_of X G a30⟩
  have F31 := fun_mk (st := s_law_rank) l31 c31 k31
  have C_law_rank : Cal l.prog w K mg base "_law_rank" 1 ["path"] sp_law_rank _ _ := ⟨ok_law_rank F31 T , F31.binds (ps := ["path"]) fun _ _ _ _ _ _ us hl => match us, hl with | [_], _ => rfl, k31, PySem.W.mg_of X G a31⟩
  have F32 := fun_mk (st := s_law_ascending) l32 c32 k32
  have C_law_ascending : Cal l.prog w K mg base "_law_ascending" 2 ["paths"] sp_law_ascending _ _ := ⟨ok_law_ascending F32 T C_law_rank, F32.binds (ps := ["paths"]) fun _ _ _ _ _ _ us hl => match us, hl with | [_], _ => rfl, k32, PySem.W.mg_of X G a32⟩
  have F33 := fun_mk (st := s_law_below) l33 c33 k33
  have C_law_below : Cal l.prog w K mg base "_law_below" 1 ["flat", "path"] sp_law_below _ _ := ⟨ok_law_below F33 T , F33.binds (ps := ["flat", "path"]) fun _ _ _ _ _ _ us hl => match us, hl with | [_, _], _ => rfl, k33, PySem.W.mg_of X G a33⟩
  have F34 := fun_mk (st := s_law_document) l34 c34 k34
  have C_law_document : Cal l.prog w K mg base "_law_document" 11 ["flat", "path"] sp_law_document _ _ := ⟨ok_law_document F34 T (PySem.W.mg_of X G a34) C_law_below, F34.binds (ps := ["flat", "path"]) fun _ _ _ _ _ _ us hl => match us, hl with | [_, _], _ => rfl, k34, PySem.W.mg_of X G a34⟩
  have F35 := fun_mk (st := s_law_literal) l35 c35 k35
  have C_law_literal : Cal l.prog w K mg base "_law_literal" 4 ["tape"] sp_law_literal _ _ := ⟨ok_law_literal F35 T C_law_draw C_law_pick C_law_tight_text, F35.binds (ps := ["tape"]) fun _ _ _ _ _ _ us hl => match us, hl with | [_], _ => rfl, k35, PySem.W.mg_of X G a35⟩
  have F36 := fun_mk (st := s_law_place_path) l36 c36 k36
  have C_law_place_path : Cal l.prog w K mg base "_law_place_path" 3 ["tape", "keys", "most"] sp_law_place_path _ _ := ⟨ok_law_place_path F36 T C_law_draw C_law_pick, F36.binds (ps := ["tape", "keys", "most"]) fun _ _ _ _ _ _ us hl => match us, hl with | [_, _, _], _ => rfl, k36, PySem.W.mg_of X G a36⟩
  have F37 := fun_mk (st := s_law_world) l37 c37 k37
  have C_law_world : Cal l.prog w K mg base "_law_world" 5 ["tape", "many"] sp_law_world _ _ := ⟨ok_law_world F37 T C_law_draw C_law_pick C_law_keys C_law_place_path, F37.binds (ps := ["tape", "many"]) fun _ _ _ _ _ _ us hl => match us, hl with | [_, _], _ => rfl, k37, PySem.W.mg_of X G a37⟩
  have F38 := fun_mk (st := s_law_some_place) l38 c38 k38
  have C_law_some_place : Cal l.prog w K mg base "_law_some_place" 3 ["tape", "world", "each"] sp_law_some_place _ _ := ⟨ok_law_some_place F38 T C_law_draw C_law_pick, F38.binds (ps := ["tape", "world", "each"]) fun _ _ _ _ _ _ us hl => match us, hl with | [_, _, _], _ => rfl, k38, PySem.W.mg_of X G a38⟩
  have F39 := fun_mk (st := s_law_condition) l39 c39 k39
  have C_law_condition : Cal l.prog w K mg base "_law_condition" 10 ["tape", "world", "each", "depth"] sp_law_condition _ _ := ⟨ok_law_condition F39 T (PySem.W.mg_of X G a39) C_law_draw C_law_pick C_law_literal C_law_some_place, F39.binds (ps := ["tape", "world", "each", "depth"]) fun _ _ _ _ _ _ us hl => match us, hl with | [_, _, _, _], _ => rfl, k39, PySem.W.mg_of X G a39⟩
  have F40 := fun_mk (st := s_law_action) l40 c40 k40
  have C_law_action : Cal l.prog w K mg base "_law_action" 5 ["tape", "world", "each"] sp_law_action _ _ := ⟨ok_law_action F40 T C_law_draw C_law_pick C_law_literal C_law_some_place, F40.binds (ps := ["tape", "world", "each"]) fun _ _ _ _ _ _ us hl => match us, hl with | [_, _, _], _ => rfl, k40, PySem.W.mg_of X G a40⟩
  have F41 := fun_mk (st := s_law_size) l41 c41 k41
  have C_law_size : Cal l.prog w K mg base "_law_size" 42 ["condition", "close"] sp_law_size _ _ := ⟨ok_law_size F41 T (PySem.W.mg_of X G a41) , F41.binds (ps := ["condition", "close"]) fun _ _ _ _ _ _ us hl => match us, hl with | [_, _], _ => rfl, k41, PySem.W.mg_of X G a41⟩
  have F42 := fun_mk (st := s_law_rule_size) l42 c42 k42
  have C_law_rule_size : Cal l.prog w K mg base "_law_rule_size" 43 ["rule"] sp_law_rule_size _ _ := ⟨ok_law_rule_size F42 T C_law_size, F42.binds (ps := ["rule"]) fun _ _ _ _ _ _ us hl => match us, hl with | [_], _ => rfl, k42, PySem.W.mg_of X G a42⟩
  have F43 := fun_mk (st := s_law_rule) l43 c43 k43
  have C_law_rule : Cal l.prog w K mg base "_law_rule" 44 ["tape", "world", "depth"] sp_law_rule _ _ := ⟨ok_law_rule F43 T C_law_draw C_law_pick C_law_condition C_law_action C_law_rule_size, F43.binds (ps := ["tape", "world", "depth"]) fun _ _ _ _ _ _ us hl => match us, hl with | [_, _, _], _ => rfl, k43, PySem.W.mg_of X G a43⟩
  have F44 := fun_mk (st := s_law_at) l44 c44 k44
  have C_law_at : Cal l.prog w K mg base "_law_at" 1 ["place", "spot"] sp_law_at _ _ := ⟨ok_law_at F44 T , F44.binds (ps := ["place", "spot"]) fun _ _ _ _ _ _ us hl => match us, hl with | [_, _], _ => rfl, k44, PySem.W.mg_of X G a44⟩
  have F45 := fun_mk (st := s_law_spots) l45 c45 k45
  have C_law_spots : Cal l.prog w K mg base "_law_spots" 2 ["flat", "collection"] sp_law_spots _ _ := ⟨ok_law_spots F45 T C_law_below, F45.binds (ps := ["flat", "collection"]) fun _ _ _ _ _ _ us hl => match us, hl with | [_, _], _ => rfl, k45, PySem.W.mg_of X G a45⟩
  have F46 := fun_mk (st := s_law_near_flat) l46 c46 k46
  have C_law_near_flat : Cal l.prog w K mg base "_law_near_flat" 5 ["tape", "world", "many"] sp_law_near_flat _ _ := ⟨ok_law_near_flat F46 T C_law_draw C_law_pick C_law_path C_law_scalar C_law_put C_law_literal, F46.binds (ps := ["tape", "world", "many"]) fun _ _ _ _ _ _ us hl => match us, hl with | [_, _, _], _ => rfl, k46, PySem.W.mg_of X G a46⟩
  have F47 := fun_mk (st := s_law_uses_of) l47 c47 k47
  have C_law_uses_of : Cal l.prog w K mg base "_law_uses_of" 40 ["condition"] sp_law_uses_of _ _ := ⟨ok_law_uses_of F47 T (PySem.W.mg_of X G a47) , F47.binds (ps := ["condition"]) fun _ _ _ _ _ _ us hl => match us, hl with | [_], _ => rfl, k47, PySem.W.mg_of X G a47⟩
  have F48 := fun_mk (st := s_law_uses) l48 c48 k48
  have C_law_uses : Cal l.prog w K mg base "_law_uses" 41 ["rule"] sp_law_uses _ _ := ⟨ok_law_uses F48 T C_law_uses_of, F48.binds (ps := ["rule"]) fun _ _ _ _ _ _ us hl => match us, hl with | [_], _ => rfl, k48, PySem.W.mg_of X G a48⟩
  have F49 := fun_mk (st := s_law_seen) l49 c49 k49
  have C_law_seen : Cal l.prog w K mg base "_law_seen" 42 ["rule", "flat"] sp_law_seen _ _ := ⟨ok_law_seen F49 T C_law_at C_law_spots C_law_uses, F49.binds (ps := ["rule", "flat"]) fun _ _ _ _ _ _ us hl => match us, hl with | [_, _], _ => rfl, k49, PySem.W.mg_of X G a49⟩
  have F50 := fun_mk (st := s_law_is_unseen) l50 c50 k50
  have C_law_is_unseen : Cal l.prog w K mg base "_law_is_unseen" 1 ["path", "seen", "rule", "flat"] sp_law_is_unseen _ _ := ⟨ok_law_is_unseen F50 T , F50.binds (ps := ["path", "seen", "rule", "flat"]) fun _ _ _ _ _ _ us hl => match us, hl with | [_, _, _, _], _ => rfl, k50, PySem.W.mg_of X G a50⟩
  have F51 := fun_mk (st := s_law_changed) l51 c51 k51
  have C_law_changed : Cal l.prog w K mg base "_law_changed" 43 ["tape", "world", "rule", "flat"] sp_law_changed _ _ := ⟨ok_law_changed F51 T C_law_draw C_law_pick C_law_scalar C_law_cut C_law_put C_law_ascending C_law_seen C_law_is_unseen, F51.binds (ps := ["tape", "world", "rule", "flat"]) fun _ _ _ _ _ _ us hl => match us, hl with | [_, _, _, _], _ => rfl, k51, PySem.W.mg_of X G a51⟩
  have F52 := fun_mk (st := s_law) l52 c52 k52
  exact ok_law F52 T C_held C_apply_rule C_law_tape C_law_pick C_law_same C_law_document C_law_world C_law_rule C_law_near_flat C_law_seen C_law_changed
theorem walk {l : PySem.W.OpenLaw} {q : Program} {loose : List Str} {XP : (Str → Option Value) → Heap → Prop} {YP : World → Heap → Prop} {d : DefRec} {K : Params → PySem.W.Frag} (hn : l.most = some 63) (hdf : d.params.defaults = [])
    (hY : ∀ (w : World) (h : Heap), YP w h → (K w.params).In h)
    (F : ∀ (w : World) (mg : Str → Option Value) (fa : Addr) (h : Heap), (K w.params).In h → h.Ns mainGlobals mg → mg d.name = some (.ref fa) →
      ∃ fd : FuncData, (∀ (s : Shared) (u : Value), BindsTo s fd ⟨[u], []⟩ [("script", u)]) ∧ ∀ base : Heap, (K w.params).In base → base.Ns mainGlobals mg → FnOk l.prog w (K w.params) mg base CX0 47 fa fd ["script"] (sp_law (K w.params))) :
    PySem.W.WalkO q loose XP YP l.row.toRowW d [] (fun f vs => PySem.call f vs) :=
  L2.walk_of (n := 63) (k := 47) (x := "script") (CX := fun _ => CX0) (sp := fun w => sp_law (K w.params)) hn (by decide) hdf ⟨rfl, by decide, by decide⟩ hY F (fun _ _ a ns hl _ hS => ⟨a, ns, rfl, hS, hl, fun _ => rfl⟩) fun _ _ _ _ _ z => z
end My
open PySem PySem.W PyProof.Rows in
set_option maxRecDepth 100000 in
set_option maxHeartbeats 0 in
theorem PySem.Challenge.cw_hookcheck_k29_what_rules_see_holds : PySem.Challenge.rw_hookcheck_k29_what_rules_see.Holds := by
  w_on; o_law; k_head; (case hw => w_witness2)
  k_fill
  refine My.walk (l := PySem.Challenge.rw_hookcheck_k29_what_rules_see) rfl rfl (fun w h Y => PySem.W.kIn_of Y) ?F
  case F =>
    intro w mg fa h KX G hmg
    refine' My.all_mk KX G hmg ?a0 ?l0 ?c0 ?k0 ?a1 ?l1 ?c1 ?k1 ?a2 ?l2 ?c2 ?k2 ?a3 ?l3 ?c3 ?k3 ?a4 ?l4 ?c4 ?k4 ?a5 ?l5 ?c5 ?k5 ?a6 ?l6 ?c6 ?k6 ?a7 ?l7 ?c7 ?k7 ?a8 ?l8 ?c8 ?k8 ?a9 ?l9 ?c9 ?k9 ?a10 ?l10 ?c10 ?k10 ?a11 ?l11 ?c11 ?k11 ?a12 ?l12 ?c12 ?k12 ?a13 ?l13 ?c13 ?k13 ?w13 ?a14 ?l14 ?c14 ?k14 ?a15 ?l15 ?c15 ?k15 ?a16 ?l16 ?c16 ?k16 ?a17 ?l17 ?c17 ?k17 ?a18 ?l18 ?c18 ?k18 ?a19 ?l19 ?c19 ?k19 ?a20 ?l20 ?c20 ?k20 ?a21 ?l21 ?c21 ?k21 ?a22 ?l22 ?c22 ?k22 ?a23 ?l23 ?c23 ?k23 ?a24 ?l24 ?c24 ?k24 ?a25 ?l25 ?c25 ?k25 ?a26 ?l26 ?c26 ?k26 ?a27 ?l27 ?c27 ?k27 ?a28 ?l28 ?c28 ?k28 ?a29 ?l29 ?c29 ?k29 ?a30 ?l30 ?c30 ?k30 ?a31 ?l31 ?c31 ?k31 ?a32 ?l32 ?c32 ?k32 ?a33 ?l33 ?c33 ?k33 ?a34 ?l34 ?c34 ?k34 ?a35 ?l35 ?c35 ?k35 ?a36 ?l36 ?c36 ?k36 ?a37 ?l37 ?c37 ?k37 ?a38 ?l38 ?c38 ?k38 ?a39 ?l39 ?c39 ?k39 ?a40 ?l40 ?c40 ?k40 ?a41 ?l41 ?c41 ?k41 ?a42 ?l42 ?c42 ?k42 ?a43 ?l43 ?c43 ?k43 ?a44 ?l44 ?c44 ?k44 ?a45 ?l45 ?c45 ?k45 ?a46 ?l46 ?c46 ?k46 ?a47 ?l47 ?c47 ?k47 ?a48 ?l48 ?c48 ?k48 ?a49 ?l49 ?c49 ?k49 ?a50 ?l50 ?c50 ?k50 ?a51 ?l51 ?c51 ?k51 ?a52 ?l52 ?c52 ?k52 ?z_abs ?z_bool ?z_int ?z_isinstance ?z_len ?z_list ?z_max ?z_range ?z_sorted ?z_str ?z_tuple ?g_RECORD ?l_RECORD
    (case a0 => k_is)
    (case l0 => k_is)
    (case c0 => k_is)
    (case k0 => k_is)
    (case a1 => k_is)
    (case l1 => k_is)
    (case c1 => k_is)
    (case k1 => k_is)
    (case a2 => k_is)
    (case l2 => k_is)
    (case c2 => k_is)
    (case k2 => k_is)
    (case a3 => k_is)
    (case l3 => k_is)
    (case c3 => k_is)
    (case k3 => k_is)
    (case a4 => k_is)
    (case l4 => k_is)
    (case c4 => k_is)
    (case k4 => k_is)
    (case a5 => k_is)
    (case l5 => k_is)
    (case c5 => k_is)
    (case k5 => k_is)
    (case a6 => k_is)
    (case l6 => k_is)
    (case c6 => k_is)
    (case k6 => k_is)
    (case a7 => k_is)
    (case l7 => k_is)
    (case c7 => k_is)
    (case k7 => k_is)
    (case a8 => k_is)
    (case l8 => k_is)
    (case c8 => k_is)
    (case k8 => k_is)
    (case a9 => k_is)
    (case l9 => k_is)
    (case c9 => k_is)
    (case k9 => k_is)
    (case a10 => k_is)
    (case l10 => k_is)
    (case c10 => k_is)
    (case k10 => k_is)
    (case a11 => k_is)
    (case l11 => k_is)
    (case c11 => k_is)
    (case k11 => k_is)
    (case a12 => k_is)
    (case l12 => k_is)
    (case c12 => k_is)
    (case k12 => k_is)
    (case a13 => k_is)
    (case l13 => k_is)
    (case c13 => k_is)
    (case k13 => k_is)
    (case w13 => k_is)
    (case a14 => k_is)
    (case l14 => k_is)
    (case c14 => k_is)
    (case k14 => k_is)
    (case a15 => k_is)
    (case l15 => k_is)
    (case c15 => k_is)
    (case k15 => k_is)
    (case a16 => k_is)
    (case l16 => k_is)
    (case c16 => k_is)
    (case k16 => k_is)
    (case a17 => k_is)
    (case l17 => k_is)
    (case c17 => k_is)
    (case k17 => k_is)
    (case a18 => k_is)
    (case l18 => k_is)
    (case c18 => k_is)
    (case k18 => k_is)
    (case a19 => k_is)
    (case l19 => k_is)
    (case c19 => k_is)
    (case k19 => k_is)
    (case a20 => k_is)
    (case l20 => k_is)
    (case c20 => k_is)
    (case k20 => k_is)
    (case a21 => k_is)
    (case l21 => k_is)
    (case c21 => k_is)
    (case k21 => k_is)
    (case a22 => k_is)
    (case l22 => k_is)
    (case c22 => k_is)
    (case k22 => k_is)
    (case a23 => k_is)
    (case l23 => k_is)
    (case c23 => k_is)
    (case k23 => k_is)
    (case a24 => k_is)
    (case l24 => k_is)
    (case c24 => k_is)
    (case k24 => k_is)
    (case a25 => k_is)
    (case l25 => k_is)
    (case c25 => k_is)
    (case k25 => k_is)
    (case a26 => k_is)
    (case l26 => k_is)
    (case c26 => k_is)
    (case k26 => k_is)
    (case a27 => k_is)
    (case l27 => k_is)
    (case c27 => k_is)
    (case k27 => k_is)
    (case a28 => k_is)
    (case l28 => k_is)
    (case c28 => k_is)
    (case k28 => k_is)
    (case a29 => k_is)
    (case l29 => k_is)
    (case c29 => k_is)
    (case k29 => k_is)
    (case a30 => k_is)
    (case l30 => k_is)
    (case c30 => k_is)
    (case k30 => k_is)
    (case a31 => k_is)
    (case l31 => k_is)
    (case c31 => k_is)
    (case k31 => k_is)
    (case a32 => k_is)
    (case l32 => k_is)
    (case c32 => k_is)
    (case k32 => k_is)
    (case a33 => k_is)
    (case l33 => k_is)
    (case c33 => k_is)
    (case k33 => k_is)
    (case a34 => k_is)
    (case l34 => k_is)
    (case c34 => k_is)
    (case k34 => k_is)
    (case a35 => k_is)
    (case l35 => k_is)
    (case c35 => k_is)
    (case k35 => k_is)
    (case a36 => k_is)
    (case l36 => k_is)
    (case c36 => k_is)
    (case k36 => k_is)
    (case a37 => k_is)
    (case l37 => k_is)
    (case c37 => k_is)
    (case k37 => k_is)
    (case a38 => k_is)
    (case l38 => k_is)
    (case c38 => k_is)
    (case k38 => k_is)
    (case a39 => k_is)
    (case l39 => k_is)
    (case c39 => k_is)
    (case k39 => k_is)
    (case a40 => k_is)
    (case l40 => k_is)
    (case c40 => k_is)
    (case k40 => k_is)
    (case a41 => k_is)
    (case l41 => k_is)
    (case c41 => k_is)
    (case k41 => k_is)
    (case a42 => k_is)
    (case l42 => k_is)
    (case c42 => k_is)
    (case k42 => k_is)
    (case a43 => k_is)
    (case l43 => k_is)
    (case c43 => k_is)
    (case k43 => k_is)
    (case a44 => k_is)
    (case l44 => k_is)
    (case c44 => k_is)
    (case k44 => k_is)
    (case a45 => k_is)
    (case l45 => k_is)
    (case c45 => k_is)
    (case k45 => k_is)
    (case a46 => k_is)
    (case l46 => k_is)
    (case c46 => k_is)
    (case k46 => k_is)
    (case a47 => k_is)
    (case l47 => k_is)
    (case c47 => k_is)
    (case k47 => k_is)
    (case a48 => k_is)
    (case l48 => k_is)
    (case c48 => k_is)
    (case k48 => k_is)
    (case a49 => k_is)
    (case l49 => k_is)
    (case c49 => k_is)
    (case k49 => k_is)
    (case a50 => k_is)
    (case l50 => k_is)
    (case c50 => k_is)
    (case k50 => k_is)
    (case a51 => k_is)
    (case l51 => k_is)
    (case c51 => k_is)
    (case k51 => k_is)
    (case a52 => k_is)
    (case l52 => k_is)
    (case c52 => k_is)
    (case k52 => k_is)
    (case z_abs => k_is)
    (case z_bool => k_is)
    (case z_int => k_is)
    (case z_isinstance => k_is)
    (case z_len => k_is)
    (case z_list => k_is)
    (case z_max => k_is)
    (case z_range => k_is)
    (case z_sorted => k_is)
    (case z_str => k_is)
    (case z_tuple => k_is)
    (case g_RECORD => k_is)
    (case l_RECORD => k_is)
#print axioms PySem.Challenge.cw_hookcheck_k29_what_rules_see_holds
