import PyProof.Rows.All
import Wide.All
import OpenK.AllK
import Wide.FinOn
import HandS.ForMost
import HandS.IsInst
import HandS.TupLe
import HandS.Walk
import HandS.Codes
import HandS.Wide
import HandS.TupAny
import PyProof.EqAt
import PyProof.EqKinds
import KE.DataCmp
import KE.SortData
import HandS.More
import HandS.TupLen
import HandS.Conv
import HandS.Defaults
import HandS.Iter
import HandS.ListItems
import KE.KDictZip
import HandS.Deep
import PySem.Challenge.RW_hookcheck_k53_origin_of_a_log
set_option Elab.async false
set_option linter.all false
set_option maxRecDepth 100000
namespace My
open PySem L2

/-! ### a def that is called -/
structure Cal (P : Program) (w : World) (K : PySem.W.Frag) (mg : Str → Option Value) (base : Heap) (x : Str) (k : Nat) (ps : List Str) (sp : PySem.W.Frag → Sp) (f : Addr) (fd : FuncData) : Prop where
  ok : FnOk P w K mg base CX0 k f fd ps (sp K)
  b : Binds K fd ps []
  kp : PySem.W.keepIn K (.ref f) = true
  m : mg x = some (.ref f)

/-! ### heaps: all that was tracked but t is as it was -/
def Sm (t : Addr) (H H' : Hp) : Prop := ∀ b o, b ≠ t → H b = some o → H' b = some o
theorem Sm.refl (t : Addr) (H : Hp) : Sm t H H := fun _ _ _ h => h
theorem Sm.trans {t : Addr} {H H1 H2 : Hp} (a : Sm t H H1) (b : Sm t H1 H2) : Sm t H H2 := fun c o n h => b c o n (a c o n h)
theorem Sm.same {t : Addr} {H H1 : Hp} (a : Same H H1) : Sm t H H1 := fun c o _ h => a c o h
theorem Sm.new {t p : Addr} {H : Hp} {o : HO} (h : H p = none) : Sm t H (upd H p o) := fun c u _ e => by
  rw [upd_ne (ne_of_none e h)]; exact e
theorem Sm.put {t : Addr} {H : Hp} {o : HO} : Sm t H (upd H t o) := fun c u n e => by rw [upd_ne n]; exact e
/-- a change at an address that was not tracked before -/
theorem Sm.late {t p : Addr} {H H1 : Hp} {o : HO} (a : Sm t H H1) (h : H p = none) : Sm t H (upd H1 p o) := fun c u n e => by
  rw [upd_ne (ne_of_none e h)]; exact a c u n e
theorem same_new {H : Hp} {p : Addr} (h : H p = none) (o : HO) : Same H (upd H p o) := fun b u q => by rw [upd_ne (ne_of_none q h)]; exact q
theorem _root_.L2.Same.late {p : Addr} {H H1 : Hp} {o : HO} (a : Same H H1) (h : H p = none) : Same H (upd H1 p o) := fun c u e => by
  rw [upd_ne (ne_of_none e h)]; exact a c u e
theorem Sm.seqL {K : PySem.W.Frag} {t a : Addr} {H H' : Hp} {xs : List V} (e : Sm t H H') (n : a ≠ t) (h : SqL K H a xs) : SqL K H' a xs := by
  rcases h with (h | ⟨o, h⟩) | h
  · exact .inl (.inl (e _ _ n h))
  · exact .inl (.inr ⟨o, e _ _ n h⟩)
  · exact .inr h
theorem Sm.seqT {K : PySem.W.Frag} {t a : Addr} {H H' : Hp} {xs : List V} (e : Sm t H H') (n : a ≠ t) (h : SqT K H a xs) : SqT K H' a xs := by
  rcases h with (h | ⟨o, h⟩) | h
  · exact .inl (.inl (e _ _ n h))
  · exact .inl (.inr ⟨o, e _ _ n h⟩)
  · exact .inr h
theorem _root_.L2.Same.seqT {K : PySem.W.Frag} {a : Addr} {H H' : Hp} {xs : List V} (e : Same H H') (h : SqT K H a xs) : SqT K H' a xs := by
  rcases h with (h | ⟨o, h⟩) | h
  · exact .inl (.inl (e _ _ h))
  · exact .inl (.inr ⟨o, e _ _ h⟩)
  · exact .inr h

/-! ### the tape -/
structure Tape (H : Hp) (t : Addr) : Prop where
  ex : ∃ (l : Addr) (ns : List Int) (a b c : Int), H t = some (.lst [.ref l, .int a, .int b, .int c]) ∧ H l = some (.lst (ns.map V.int)) ∧ l ≠ t ∧ 0 ≤ a ∧ ns.length ≤ 63
theorem Tape.same {H H' : Hp} {t : Addr} (h : Tape H t) (e : Same H H') : Tape H' t := by
  obtain ⟨l, ns, a, b, c, h1, h2, h3⟩ := h.ex
  exact ⟨l, ns, a, b, c, e _ _ h1, e _ _ h2, h3⟩
theorem Tape.new {H : Hp} {t p : Addr} {o : HO} (h : Tape H t) (e : H p = none) : Tape (upd H p o) t := h.same (same_new e o)
theorem Tape.tracked {H : Hp} {t : Addr} (h : Tape H t) : ∃ o, H t = some o := by
  obtain ⟨l, ns, a, b, c, h1, _⟩ := h.ex
  exact ⟨_, h1⟩
/-- a fresh address is not the tape -/
theorem Tape.ne {H : Hp} {t p : Addr} (h : Tape H t) (e : H p = none) : p ≠ t := by
  obtain ⟨o, h⟩ := h.tracked
  exact (ne_of_none h e).symm
/-- the script's copy that the tape holds -/
def tL (H : Hp) (t : Addr) : Option Addr := match H t with
  | some (.lst (.ref l :: _)) => some l
  | _ => none
theorem tL_of {H : Hp} {t l : Addr} {xs : List V} (h : H t = some (.lst (.ref l :: xs))) : tL H t = some l := by
  unfold tL
  rw [h]
/-- the tape goes on, what else was tracked stands -/
structure Go (t : Addr) (H H' : Hp) : Prop where
  tp : Tape H' t
  sm : Sm t H H'
  fx : tL H' t = tL H t
theorem Go.trans {t : Addr} {H H1 H2 : Hp} (a : Go t H H1) (b : Go t H1 H2) : Go t H H2 := ⟨b.tp, a.sm.trans b.sm, b.fx.trans a.fx⟩
theorem Go.refl {t : Addr} {H : Hp} (h : Tape H t) : Go t H H := ⟨h, Sm.refl _ _, rfl⟩
theorem Go.same {t : Addr} {H H1 : Hp} (h : Tape H t) (a : Same H H1) : Go t H H1 := by
  obtain ⟨l, ns, x, b, c, h1, h2, h3⟩ := h.ex
  exact ⟨h.same a, Sm.same a, by rw [tL_of h1, tL_of (a _ _ h1)]⟩
theorem Go.new {t p : Addr} {H H1 : Hp} {o : HO} (a : Go t H H1) (h : H1 p = none) : Go t H (upd H1 p o) := a.trans (Go.same a.tp (same_new h o))
theorem Go.put {t l : Addr} {H H1 : Hp} {xs : List V} {ns : List Int} {a b c : Int} (h1 : H t = some (.lst (.ref l :: xs))) (s : Sm t H H1) (h2 : H1 l = some (.lst (ns.map V.int))) (h3 : l ≠ t) (h4 : 0 ≤ a) (h5 : ns.length ≤ 63) :
    Go t H (upd H1 t (.lst [.ref l, .int a, .int b, .int c])) :=
  ⟨⟨l, ns, a, b, c, upd_same, by rw [upd_ne h3]; exact h2, h3, h4, h5⟩, s.trans Sm.put, by rw [tL_of h1, tL_of upd_same]⟩
/-- a change at an address that was not tracked at first -/
theorem Go.late {t p : Addr} {H H1 : Hp} {o : HO} (h : Tape H t) (a : Go t H H1) (n : H p = none) : Go t H (upd H1 p o) := by
  obtain ⟨l, ns, x, b, c, h1, h2, h3⟩ := h.ex
  obtain ⟨l', ns', x', b', c', k1, k2, k3⟩ := a.tp.ex
  have e := a.fx
  rw [tL_of h1, tL_of k1] at e
  cases e
  have n1 : t ≠ p := ne_of_none h1 n
  have n2 : l ≠ p := ne_of_none h2 n
  exact ⟨⟨l, ns', x', b', c', by rw [upd_ne n1]; exact k1, by rw [upd_ne n2]; exact k2, k3⟩, a.sm.late n, by rw [tL_of h1]; exact tL_of (by rw [upd_ne n1]; exact k1)⟩

/-! ### texts -/
section
variable {X : Cx}
/-- s * n -/
theorem op_mulS : OpR X (binaryOp .Mult) (fun x y H Q => ∃ (z : Str) (n : Int), x = .str z ∧ y = .int n ∧ n ≤ 1000000 ∧ -1000000 ≤ n ∧ z.length * n.toNat ≤ sizeLine ∧ Q (.str (Txt.mul z n)) H) := by
  intro pins s σ H x y u v Q I rx ry h
  obtain ⟨z, n, rfl, rfl, h1, h2, h3, q⟩ := h
  obtain ⟨t, rfl⟩ := rx
  obtain ⟨t', rfl⟩ := ry
  refine PySem.SB.mul ⟨?_, ?_, ?_⟩ fun t' k => ⟨.str _, H, ?_, ⟨_, rfl⟩, q⟩
  · simp only [Bool.or_eq_false_iff, decide_eq_false_iff_not]
    exact ⟨by omega, by omega⟩
  · intro p _ q
    have e : (1000000 : Int) ≤ (2 ^ 63 - 1) / n := by
      rw [Int.le_ediv_iff_mul_le (by omega)]
      omega
    by_cases hz : z.length ≤ 1000000
    · omega
    · have h4 : z.length * 1 ≤ z.length * n.toNat := Nat.mul_le_mul_left _ (by omega)
      have e2 : (sizeLine : Int) ≤ (2 ^ 63 - 1) / n := by
        rw [Int.le_ediv_iff_mul_le (by omega)]
        show (16777216 : Int) * n ≤ _
        omega
      have h5 : (z.length : Int) ≤ (sizeLine : Int) := by
        have := Nat.le_trans h4 h3
        omega
      omega
  · intro _ _
    unfold PySem.Builtin.Str.tooLong
    simp only [decide_eq_false_iff_not]
    show ¬ z.length * n.toNat > 16777216
    have : z.length * n.toNat ≤ 16777216 := h3
    omega
  · exact I.tok k
end

/-! ### rules over a written part that is named -/
section
variable {X : Cx} {K : PySem.W.Frag}
theorem kx_list (h : X.K = K) : IxR X (rIxL K) := h ▸ ix_list
theorem kx_tup (h : X.K = K) : IxR X (rIxT K) := h ▸ ix_tup
theorem kx_seq (h : X.K = K) : IxR X (rIx K) := h ▸ ix_seq
theorem ksl_list (h : X.K = K) : SlR X (rSlL K) := h ▸ sl_list
theorem kop_eqD (h : X.K = K) (hu : X.A.units + 64 < cLine) : OpR X (compareOp .Eq) (rEqD K) := h ▸ op_eqD hu
theorem kop_neD (h : X.K = K) (hu : X.A.units + 64 < cLine) : OpR X (compareOp .NotEq) (rNeD K) := h ▸ op_neD hu
theorem kpt_truth {a : Expr} {ta : TE} (h : X.K = K) (he : PE X a ta) (hi : ∀ (whole : Sem Value), PySem.isTrue a X.env whole = do
      let v ← whole
      standAt a.pos
      holding [v] (truthy v)) : PT X a fun σ H Q => ta σ H fun x H' => ∃ k, TruV K x H' k ∧ Q k H' := h ▸ pt_truth he hi
theorem kop_in (h : X.K = K) : OpR X (compareOp .In) (rIn K false) := h ▸ op_in_seq
theorem kop_notIn (h : X.K = K) : OpR X (compareOp .NotIn) (rIn K true) := h ▸ op_notIn_seq
theorem kop_catT (h : X.K = K) : OpR X (binaryOp .Add) (rCatA K) := h ▸ op_catA
theorem ksl_tup (h : X.K = K) : SlR X (rSlA K) := h ▸ sl_tupA
def rLen (K : PySem.W.Frag) : List V → Hp → VK → Prop := fun xs H Q => ∃ x n, xs = [x] ∧ LenV K x H n ∧ Q (.int n) H
theorem kc_len (h : X.K = K) : CallR X (.builtin "len") (rLen K) := h ▸ call_len
def rLenS (K : PySem.W.Frag) : List V → Hp → VK → Prop := fun xs H Q => ∃ p ys, xs = [.ref p] ∧ (SqL K H p ys ∨ SqT K H p ys) ∧ Q (.int ys.length) H
theorem kc_lenS (h : X.K = K) : CallR X (.builtin "len") (rLenS K) := h ▸ call_len_seq
def rListOf (K : PySem.W.Frag) : List V → Hp → VK → Prop := fun xs H Q => ∃ p ys, xs = [.ref p] ∧ (SqL K H p ys ∨ SqT K H p ys) ∧ ∀ l, H l = none → Q (.ref l) (upd H l (.lst ys))
theorem kc_list (h : X.K = K) : CallR X (.type "list") (rListOf K) := h ▸ call_list_of
def rTupOf (K : PySem.W.Frag) : List V → Hp → VK → Prop := fun xs H Q => ∃ p ys, xs = [.ref p] ∧ ((SqL K H p ys ∧ ∀ l, H l = none → Q (.ref l) (upd H l (.tup ys))) ∨ (SqT K H p ys ∧ Q (.ref p) H))
theorem kc_tuple (h : X.K = K) : CallR X (.type "tuple") (rTupOf K) := h ▸ call_tuple_of
theorem kc_all (h : X.K = K) (hc : X.calm = true) : CallR X (.builtin "all") (rAll K) := h ▸ cr_all hc
theorem kc_any (h : X.K = K) (hc : X.calm = true) : CallR X (.builtin "any") (rAny K) := h ▸ cr_any hc
theorem kc_isi (h : X.K = K) : CallR X (.builtin "isinstance") (rIsi K) := h ▸ call_isi
theorem kpi_list {tg l : Expr} {tl : TE} (h : X.K = K) (hl : PE X l tl) : PI X tg l (iList K tl) := h ▸ pi_list hl
theorem kpi_tup {tg l : Expr} {tl : TE} (h : X.K = K) (hl : PE X l tl) : PI X tg l (iTup K tl) := h ▸ pi_tup hl
def rJoin (K : PySem.W.Frag) : V → List V → Hp → VK → Prop := fun x xs H Q => ∃ a p, ∃ ys : List Str, x = .str a ∧ xs = [.ref p] ∧ (SqL K H p (ys.map V.str) ∨ SqT K H p (ys.map V.str)) ∧ (ys.map (·.length)).sum + ys.length * a.length ≤ 16777216 ∧ Q (.str (Txt.join a ys)) H
end
/-! ### loops -/
section
variable {J : It} {n : Nat} {G : Hp → Prop} {Y : Nat → Hp → V → Hp → Prop}
/-- what is made so far stands at D -/
def AccI (I : Nat → List V → Hp → Prop) (D : Addr) (i : Nat) (H : Hp) : Prop := ∃ acc, H D = some (.lst acc) ∧ acc.length = i ∧ I i acc H
theorem acc_step {I : Nat → List V → Hp → Prop} {D : Addr} {i : Nat} {acc : List V} {y : V} {H4 : Hp} (e : H4 D = some (.lst acc)) (el : acc.length = i) (hi : i ≤ 1000000) (k : I (i + 1) (acc ++ [y]) (upd H4 D (.lst (acc ++ [y])))) :
    ∃ acc, H4 D = some (.lst acc) ∧ acc.length < sizeLine ∧ AccI I D (i + 1) (upd H4 D (.lst (acc ++ [y]))) := by
  refine ⟨acc, e, ?_, acc ++ [y], upd_same, by rw [List.length_append, el]; rfl, k⟩
  show acc.length < 16777216
  omega
/-- a comprehension without a test -/
theorem lc_acc (w : Walk J n G Y) {g : TG} {te : TE} {vs : List Nat} {σ : St} {H1 : Hp} {D : Addr} {Qd : Hp → Prop} (I : Nat → List V → Hp → Prop) (h0 : I 0 [] (upd H1 D (.lst [])))
    (hG : ∀ i acc H, i ≤ n → H D = some (.lst acc) → I i acc H → G H)
    (hs : ∀ i acc x H H', i < n → H D = some (.lst acc) → acc.length = i → I i acc H → Y i H x H' → g x (wipe σ vs) H' fun σ2 H2 => wipe σ2 vs = wipe σ vs ∧ te σ2 H2 fun y H4 => ∃ acc, H4 D = some (.lst acc) ∧ acc.length < sizeLine ∧ AccI I D (i + 1) (upd H4 D (.lst (acc ++ [y]))))
    (hd : ∀ acc H, H D = some (.lst acc) → acc.length = n → I n acc H → Qd H) :
    ∃ W : Nat → Nat → Hp → Prop, (∃ m, W 0 m (upd H1 D (.lst []))) ∧ ∀ i m H, W i m H →
      (J.stop i H ∧ Qd H) ∨ (J.go i H ∧ ∃ Nx : Hp → Prop, (∀ H', Nx H' → ∃ m', m' < m ∧ W (i + 1) m' H') ∧ ∀ x H', J.yld i H x H' → g x (wipe σ vs) H' fun σ2 H2 => wipe σ2 vs = wipe σ vs ∧ tYes σ2 H2 fun b H3 =>
        if b = true then te σ2 H3 fun y H4 => ∃ acc, H4 D = some (.lst acc) ∧ acc.length < sizeLine ∧ Nx (upd H4 D (.lst (acc ++ [y]))) else Nx H3) := by
  refine lc_it w (AccI I D) ⟨[], upd_same, rfl, h0⟩ (fun i H hi ⟨acc, e, _, k⟩ => hG i acc H hi e k) (fun i x H H' hi ⟨acc, e, el, k⟩ hy => ?_) (fun H ⟨acc, e, el, k⟩ => hd acc H e el k)
  exact hs i acc x H H' hi e el k hy
end

theorem take_succ_code {z : Str} {i c : Nat} (h : z.cps[i]? = some c) : z.cps.toList.take (i + 1) = z.cps.toList.take i ++ [c] := by
  have h' : z.cps.toList[i]? = some c := by rw [Array.getElem?_toList]; exact h
  obtain ⟨hl, e⟩ := List.getElem?_eq_some_iff.mp h'
  rw [List.take_succ_eq_append_getElem hl, e]
theorem str_of_list {z : Str} (h : z.cps.toList = []) : z = Str.ofString "" := by
  obtain ⟨⟨l⟩⟩ := z
  have e : l = [] := h
  subst e
  rfl
theorem int_get {ns : List Int} {i : Nat} {y : V} (h : (ns.map V.int)[i]? = some y) : ∃ u, y = V.int u ∧ ns[i]? = some u := by
  rw [List.getElem?_map] at h
  cases e : ns[i]? with
  | none => rw [e] at h; cases h
  | some u => rw [e] at h; exact ⟨u, (Option.some.inj h).symm, rfl⟩
theorem fmod_in {a m : Int} (h : 0 < m) : 0 ≤ a.fmod m ∧ a.fmod m < m := by
  rw [Int.fmod_eq_emod_of_nonneg a (by omega)]
  exact ⟨Int.emod_nonneg _ (by omega), Int.emod_lt_of_pos _ h⟩

/-! ### texts by their codes -/
theorem str_ext {a b : Str} (h : a.cps.toList = b.cps.toList) : a = b := by
  obtain ⟨⟨x⟩⟩ := a
  obtain ⟨⟨y⟩⟩ := b
  have e : x = y := h
  rw [e]
theorem app_codes (a b : Str) : (a ++ b).cps.toList = a.cps.toList ++ b.cps.toList := by
  show (a.cps ++ b.cps).toList = _
  rw [Array.toList_append]
theorem app_len (a b : Str) : (a ++ b).length = a.length + b.length := by
  show (a.cps ++ b.cps).size = _
  rw [Array.size_append]; rfl
theorem len_codes (a : Str) : a.cps.toList.length = a.length := by simp [Str.length]
theorem join_codes : ∀ ys : List Str, (Txt.join (Str.ofString "") ys).cps.toList = (ys.map (·.cps.toList)).flatten := by
  have h : ∀ ys : List Str, (Str.join (Str.ofString "") ys).cps.toList = (ys.map (·.cps.toList)).flatten := by
    intro ys
    induction ys with
    | nil => rfl
    | cons x r ih =>
      cases r with
      | nil =>
        show x.cps.toList = _
        simp
      | cons y r =>
        show (x ++ Str.ofString "" ++ Str.join (Str.ofString "") (y :: r)).cps.toList = _
        rw [app_codes, app_codes, ih]
        show x.cps.toList ++ [] ++ _ = _
        rw [List.append_nil, List.map_cons (l := y :: r), List.flatten_cons]
  intro ys
  have e : Txt.join (Str.ofString "") ys = Str.join (Str.ofString "") ys := StrLaws.glued_eq_join _ ys
  rw [e, h]
/-- a text of drawn signs -/
def Sg (c : Nat) : Prop := 32 ≤ c ∧ c ≤ 126 ∧ c ≠ 37
instance (c : Nat) : Decidable (Sg c) := by unfold Sg; exact inferInstance
def SgT (z : Str) : Prop := ∀ c ∈ z.cps.toList, Sg c
theorem SgT.app {a b : Str} (h : SgT a) (k : SgT b) : SgT (a ++ b) := fun c hc => by
  rw [app_codes] at hc
  rcases List.mem_append.mp hc with q | q
  · exact h c q
  · exact k c q
theorem SgT.one {c : Nat} (h : Sg c) : SgT ⟨#[c]⟩ := fun d hd => by
  have e : d = c := by simpa using hd
  rw [e]; exact h

/-! ### plain data: what is passed and returned -/
inductive Dt where
  | non | bl (b : Bool) | int (i : Int) | str (s : Str) | tup (xs : List Dt)
mutual
inductive DT (K : PySem.W.Frag) (H : Hp) : V → Dt → Prop
  | non : DT K H .non .non
  | bl (b : Bool) : DT K H (.bl b) (.bl b)
  | int (i : Int) : DT K H (.int i) (.int i)
  | str (z : Str) : DT K H (.str z) (.str z)
  | tup {a : Addr} {xs : List V} {ds : List Dt} : SqT K H a xs → DTs K H xs ds → DT K H (.ref a) (.tup ds)
inductive DTs (K : PySem.W.Frag) (H : Hp) : List V → List Dt → Prop
  | nil : DTs K H [] []
  | cons {v : V} {vs : List V} {d : Dt} {ds : List Dt} : DT K H v d → DTs K H vs ds → DTs K H (v :: vs) (d :: ds)
end
mutual
theorem DT.mono {K : PySem.W.Frag} {H H' : Hp} (k : ∀ a xs, SqT K H a xs → SqT K H' a xs) : ∀ (d : Dt) (v : V), DT K H v d → DT K H' v d
  | .non, _, h => by cases h; exact .non
  | .bl b, _, h => by cases h; exact .bl _
  | .int b, _, h => by cases h; exact .int _
  | .str b, _, h => by cases h; exact .str _
  | .tup ds, _, h => by
    cases h with
    | tup h1 h2 => exact .tup (k _ _ h1) (DTs.mono k ds _ h2)
theorem DTs.mono {K : PySem.W.Frag} {H H' : Hp} (k : ∀ a xs, SqT K H a xs → SqT K H' a xs) : ∀ (ds : List Dt) (vs : List V), DTs K H vs ds → DTs K H' vs ds
  | [], _, h => by cases h; exact .nil
  | d :: ds, _, h => by
    cases h with
    | cons h1 h2 => exact .cons (DT.mono k d _ h1) (DTs.mono k ds _ h2)
end
section
variable {K : PySem.W.Frag} {H H' : Hp}
theorem DT.same {v : V} {d : Dt} (h : DT K H v d) (e : Same H H') : DT K H' v d := DT.mono (fun _ _ q => e.seqT q) d v h
theorem DTs.same {v : List V} {d : List Dt} (h : DTs K H v d) (e : Same H H') : DTs K H' v d := DTs.mono (fun _ _ q => e.seqT q) d v h
theorem seqT_go {t a : Addr} {xs : List V} (hT : Tape H t) (e : Sm t H H') (h : SqT K H a xs) : SqT K H' a xs := by
  obtain ⟨l, ns, x, b, c, h1, _⟩ := hT.ex
  rcases h with (h | ⟨o, h⟩) | h
  · exact .inl (.inl (e _ _ (ne_of h h1 (fun z => by cases z)) h))
  · exact .inl (.inr ⟨o, e _ _ (ne_of h h1 (fun z => by cases z)) h⟩)
  · exact .inr h
theorem DT.go {t : Addr} {v : V} {d : Dt} (h : DT K H v d) (hT : Tape H t) (e : Sm t H H') : DT K H' v d := DT.mono (fun _ _ q => seqT_go hT e q) d v h
theorem DTs.go {t : Addr} {v : List V} {d : List Dt} (h : DTs K H v d) (hT : Tape H t) (e : Sm t H H') : DTs K H' v d := DTs.mono (fun _ _ q => seqT_go hT e q) d v h
theorem DTs.length {vs : List V} {ds : List Dt} (h : DTs K H vs ds) : vs.length = ds.length := by
  induction ds generalizing vs with
  | nil => cases h; rfl
  | cons d ds ih =>
    cases h with
    | cons _ h2 => rw [List.length_cons, List.length_cons, ih h2]
theorem DTs.get {vs : List V} {ds : List Dt} (h : DTs K H vs ds) {i : Nat} {d : Dt} (e : ds[i]? = some d) : ∃ v, vs[i]? = some v ∧ DT K H v d := by
  induction ds generalizing vs i with
  | nil => simp at e
  | cons x ds ih =>
    cases h with
    | cons h1 h2 =>
      cases i with
      | zero =>
        have e' : x = d := by simpa using e
        subst e'
        exact ⟨_, rfl, h1⟩
      | succ i => exact ih h2 (by simpa using e)
theorem DTs.get' {vs : List V} {ds : List Dt} (h : DTs K H vs ds) {i : Nat} {v : V} (e : vs[i]? = some v) : ∃ d, ds[i]? = some d ∧ DT K H v d := by
  have hl := h.length
  have hi : i < ds.length := by rw [← hl]; exact (List.getElem?_eq_some_iff.mp e).1
  obtain ⟨w, e2, k⟩ := h.get (List.getElem?_eq_getElem hi)
  rw [e] at e2
  cases e2
  exact ⟨_, List.getElem?_eq_getElem hi, k⟩
theorem DTs.append {vs ws : List V} {ds es : List Dt} (h : DTs K H vs ds) (k : DTs K H ws es) : DTs K H (vs ++ ws) (ds ++ es) := by
  induction ds generalizing vs with
  | nil => cases h; exact k
  | cons x ds ih =>
    cases h with
    | cons h1 h2 => exact .cons h1 (ih h2)
end
/-! ### how deep, how wide -/
mutual
def Dt.deep : Dt → Nat
  | .tup xs => Dt.deeps xs + 1
  | _ => 1
def Dt.deeps : List Dt → Nat
  | [] => 0
  | d :: ds => max d.deep (Dt.deeps ds)
end
mutual
def Dt.fits : Dt → Bool
  | .tup xs => decide (xs.length ≤ 1000000) && Dt.fitss xs
  | _ => true
def Dt.fitss : List Dt → Bool
  | [] => true
  | d :: ds => d.fits && Dt.fitss ds
end
theorem Dt.deeps_mem {d : Dt} : ∀ {ds : List Dt}, d ∈ ds → d.deep ≤ Dt.deeps ds
  | x :: ds, h => by
    unfold Dt.deeps
    rcases List.mem_cons.mp h with rfl | h
    · omega
    · have := Dt.deeps_mem h
      omega
theorem Dt.fitss_mem {d : Dt} : ∀ {ds : List Dt}, d ∈ ds → Dt.fitss ds = true → d.fits = true
  | x :: ds, h, k => by
    unfold Dt.fitss at k
    rw [Bool.and_eq_true] at k
    rcases List.mem_cons.mp h with rfl | h
    · exact k.1
    · exact Dt.fitss_mem h k.2
def Dt.name : Dt → String
  | .non => "NoneType" | .bl _ => "bool" | .int _ => "int" | .str _ => "str" | .tup _ => "tuple"
theorem seqT_ty {K : PySem.W.Frag} {H : Hp} {a : Addr} {xs : List V} (h : SqT K H a xs) : TyX K H (.ref a) (.type "tuple") := by
  rcases h with (h | ⟨o, h⟩) | ⟨o, its, n, h1, h2, _⟩
  · exact .base (.tup h)
  · exact .fTuple h
  · exact .kTuple h1 h2
theorem DT.ty {K : PySem.W.Frag} {H : Hp} {v : V} {d : Dt} (h : DT K H v d) : TyX K H v (.type d.name) := by
  cases h with
  | non => exact .base .non
  | bl b => exact .base (.bl b)
  | int i => exact .base (.int i)
  | str z => exact .base (.str z)
  | tup h1 _ => exact seqT_ty h1

theorem at_any {α : Type} {xs : List α} {z : Int} {j : Nat} {v : α} (e : z = (j : Int)) (h : xs[j]? = some v) : atI xs z = some v := by
  rw [e]
  exact atI_nat h
theorem none_left {P : Program} {w : World} {K : PySem.W.Frag} {mg : Str → Option Value} {base : Heap} {f : Addr} {fd : FuncData} {ps : List Str} {sp : Sp} (no : ∀ vs H Q E, ¬ sp vs H Q E) : FnOk P w K mg base CX0 0 f fd ps sp :=
  ⟨fun vs H Q E h => absurd h (no vs H Q E), fun A outer s H args us vs Q E _ _ _ _ h => absurd h (no vs H Q E)⟩
theorem mul_codes (z : Str) (n : Int) : (Txt.mul z n).cps.toList = (List.replicate n.toNat z.cps.toList).flatten := by
  unfold Txt.mul
  by_cases h1 : n < 1
  · rw [if_pos h1, show n.toNat = 0 by omega]
    rfl
  · rw [if_neg h1]
    have fl : ∀ (k : Nat) (a : Array Nat), ((List.replicate k z.cps).foldl (· ++ ·) a).toList = a.toList ++ (List.replicate k z.cps.toList).flatten := by
      intro k
      induction k with
      | zero => intro a; simp
      | succ k ih =>
        intro a
        rw [List.replicate_succ, List.foldl_cons, ih, List.replicate_succ, List.flatten_cons, Array.toList_append, List.append_assoc]
    by_cases h2 : (n == 1 || z.length == 0) = true
    · rw [if_pos h2]
      rw [Bool.or_eq_true] at h2
      rcases h2 with h2 | h2
      · have e : n = 1 := by simpa using h2
        subst e
        simp
      · have e : z.cps.toList = [] := by
          have : z.cps.toList.length = 0 := by rw [len_codes]; simpa using h2
          exact List.length_eq_zero_iff.mp this
        rw [e]
        simp
    · rw [if_neg h2]
      have e := fl n.toNat #[]
      simpa using e
theorem mul_len (z : Str) (n : Int) : (Txt.mul z n).length = n.toNat * z.length := by
  rw [← len_codes, mul_codes, List.length_flatten, List.map_replicate, List.sum_replicate_nat, len_codes]
/-- a list of texts as data of the model -/
theorem dpa_strs {K : PySem.W.Frag} {H : Hp} : ∀ ws : List Str, DpAll K H (ws.map V.str) (ws.map PyData.str)
  | [] => .nil
  | z :: ws => .cons (.str z) (dpa_strs ws)
theorem shaped_strs {ws : List Str} (h : ∀ z ∈ ws, SgT z) : SeqAt.shaped (.list (ws.map PyData.str)) = true := by
  have l : ∀ ws : List Str, (∀ z ∈ ws, SgT z) → PyData.canLayAll0 (ws.map PyData.str) = true ∧ PyData.depthAll (ws.map PyData.str) = 0 := by
    intro ws
    induction ws with
    | nil => intro _; exact ⟨rfl, rfl⟩
    | cons z ws ih =>
      intro h
      obtain ⟨a, b⟩ := ih fun y hy => h y (List.mem_cons_of_mem _ hy)
      have hz : PyData.strOk z = true := by
        unfold PyData.strOk
        rw [Array.all_eq_true_iff_forall_mem]
        intro c hc
        have := h z List.mem_cons_self c (by simpa using hc)
        have k := this.2.1
        simp
        omega
      refine ⟨?_, ?_⟩
      · rw [List.map_cons, PyData.canLayAll0, PyData.canLay0, hz, a]
        rfl
      · rw [List.map_cons, PyData.depthAll, b, PyData.depth]
        rfl
  obtain ⟨a, b⟩ := l ws h
  unfold SeqAt.shaped
  rw [PyData.canLay0, PyData.depth, a, b]
  rfl
theorem eqv_strs_nil (ws : List Str) : PyData.eqv (.list (ws.map PyData.str)) (.list []) = ws.isEmpty := by
  cases ws <;> simp [PyData.eqv, PyData.eqvAll]
theorem SgT.cut {z : Str} (h : SgT z) (a b : Option Int) : SgT (cutS z a b) := fun c hc => by
  refine h c ?_
  unfold cutS at hc
  exact List.mem_of_mem_drop (List.mem_of_mem_take (by simpa using hc))
theorem SgT.mul {z : Str} (h : SgT z) (n : Int) : SgT (Txt.mul z n) := fun c hc => by
  rw [mul_codes] at hc
  obtain ⟨l, h1, h2⟩ := List.mem_flatten.mp hc
  rw [List.eq_of_mem_replicate h1] at h2
  exact h c h2
/-! ### slices, by take and drop -/
theorem sIx_pos {n d : Nat} {a : Int} (h : 0 ≤ a) : HT.sIx n d (some a) = min a.toNat n := by
  show (if a < 0 then _ else _) = _
  rw [if_neg (by omega)]
theorem cut_pre (z : Str) {a : Int} (h : 0 ≤ a) : (cutS z none (some a)).cps.toList = z.cps.toList.take a.toNat := by
  show ((z.cps.toList.drop 0).take (HT.sIx z.length z.length (some a) - 0)) = _
  rw [sIx_pos h, List.drop_zero, Nat.sub_zero, ← len_codes]
  by_cases c : a.toNat ≤ z.cps.toList.length
  · rw [Nat.min_eq_left c]
  · rw [Nat.min_eq_right (by omega), List.take_of_length_le (Nat.le_refl _), List.take_of_length_le (by omega)]
theorem cut_suf (z : Str) {a : Int} (h : 0 ≤ a) : (cutS z (some a) none).cps.toList = z.cps.toList.drop a.toNat := by
  show ((z.cps.toList.drop (HT.sIx z.length 0 (some a))).take (z.length - HT.sIx z.length 0 (some a))) = _
  rw [sIx_pos h, ← len_codes]
  by_cases c : a.toNat ≤ z.cps.toList.length
  · rw [Nat.min_eq_left c, List.take_of_length_le (by rw [List.length_drop]; exact Nat.le_refl _)]
  · rw [Nat.min_eq_right (by omega), List.drop_of_length_le (Nat.le_refl _), List.drop_of_length_le (by omega), List.take_nil]
theorem cut_pre_len (z : Str) {a : Int} (h : 0 ≤ a) : (cutS z none (some a)).length = min a.toNat z.length := by
  rw [← len_codes, cut_pre z h, List.length_take, len_codes]
theorem cut_suf_len (z : Str) {a : Int} (h : 0 ≤ a) : (cutS z (some a) none).length = z.length - a.toNat := by
  rw [← len_codes, cut_suf z h, List.length_drop, len_codes]
theorem cutV_pre {xs : List V} {a : Int} (h : 0 ≤ a) : cutV xs none (some a) = xs.take a.toNat := by
  show (xs.drop 0).take (HT.sIx xs.length xs.length (some a) - 0) = _
  rw [sIx_pos h, List.drop_zero, Nat.sub_zero]
  by_cases c : a.toNat ≤ xs.length
  · rw [Nat.min_eq_left c]
  · rw [Nat.min_eq_right (by omega), List.take_of_length_le (Nat.le_refl _), List.take_of_length_le (by omega)]
theorem cutV_suf {xs : List V} {a : Int} (h : 0 ≤ a) : cutV xs (some a) none = xs.drop a.toNat := by
  show (xs.drop (HT.sIx xs.length 0 (some a))).take (xs.length - HT.sIx xs.length 0 (some a)) = _
  rw [sIx_pos h]
  by_cases c : a.toNat ≤ xs.length
  · rw [Nat.min_eq_left c, List.take_of_length_le (by rw [List.length_drop]; exact Nat.le_refl _)]
  · rw [Nat.min_eq_right (by omega), List.drop_of_length_le (Nat.le_refl _), List.drop_of_length_le (by omega), List.take_nil]
theorem pickN (l : List Nat) {v : V} (h : v ∈ l.map fun n : Nat => V.int (n : Int)) {b : Nat} (hb : (l.all fun n => decide (n ≤ b)) = true) : ∃ n : Nat, n ≤ b ∧ v = V.int (n : Int) := by
  obtain ⟨n, h1, h2⟩ := List.mem_map.mp h
  exact ⟨n, of_decide_eq_true (List.all_eq_true.mp hb n h1), h2.symm⟩
theorem pickS (l : List Str) {v : V} (h : v ∈ l.map V.str) : ∃ z : Str, z ∈ l ∧ v = V.str z := by
  obtain ⟨n, h1, h2⟩ := List.mem_map.mp h
  exact ⟨n, h1, h2.symm⟩
theorem le_line {n : Nat} (h : n ≤ 1000000) : n ≤ sizeLine := Nat.le_trans h (by decide)
theorem lt_line {n : Nat} (h : n ≤ 1000000) : n < sizeLine := Nat.lt_of_le_of_lt h (by decide)
theorem DTs.strs {K : PySem.W.Frag} {H : Hp} : ∀ ws : List Str, DTs K H (ws.map V.str) (ws.map Dt.str)
  | [] => .nil
  | z :: ws => .cons (.str z) (DTs.strs ws)
theorem deeps_strs : ∀ ws : List Str, Dt.deeps (ws.map Dt.str) ≤ 1
  | [] => by simp [Dt.deeps]
  | z :: ws => by
    have := deeps_strs ws
    have e : Dt.deep (.str z) = 1 := rfl
    rw [List.map_cons, Dt.deeps, e]
    omega
theorem fitss_strs : ∀ ws : List Str, Dt.fitss (ws.map Dt.str) = true
  | [] => rfl
  | z :: ws => by
    have e : Dt.fits (.str z) = true := rfl
    rw [List.map_cons, Dt.fitss, e, fitss_strs ws]
    rfl
theorem fits_strs {ws : List Str} (h : ws.length ≤ 1000000) : Dt.fits (.tup (ws.map Dt.str)) = true := by
  rw [Dt.fits, fitss_strs, List.length_map, decide_eq_true h]
  rfl
theorem flat_ones : ∀ cs : List Nat, ((cs.map fun c => (⟨#[c]⟩ : Str)).map (·.cps.toList)).flatten = cs
  | [] => rfl
  | c :: cs => by
    rw [List.map_cons, List.map_cons, List.flatten_cons, flat_ones cs]
    rfl
theorem sum_ones : ∀ cs : List Nat, ((cs.map fun c => (⟨#[c]⟩ : Str)).map (·.length)).sum = cs.length
  | [] => rfl
  | c :: cs => by
    rw [List.map_cons, List.map_cons, List.sum_cons, sum_ones cs, List.length_cons]
    show 1 + cs.length = _
    omega
theorem sum_lens {b : Nat} : ∀ {ws : List Str}, (∀ w ∈ ws, w.length ≤ b) → (ws.map (·.length)).sum ≤ ws.length * b
  | [], _ => by simp
  | w :: ws, h => by
    have h1 := h w List.mem_cons_self
    have h2 := sum_lens fun x hx => h x (List.mem_cons_of_mem _ hx)
    rw [List.map_cons, List.sum_cons, List.length_cons, Nat.succ_mul]
    omega
theorem join_len_le (sep : Str) (ws : List Str) : (Txt.join sep ws).length ≤ (ws.map (·.length)).sum + ws.length * sep.length := by
  have e : Txt.join sep ws = Str.join sep ws := StrLaws.glued_eq_join _ ws
  rw [e]
  exact StrLaws.join_length_le sep ws
/-! ### comprehensions that change nothing else -/
theorem wipe_back {σ : St} {k : Nat} {v : Option V} : wipe ((wipe σ [k]).set k v) [k] = wipe σ [k] := by
  show ((σ.set k none).set k v).set k none = σ.set k none
  rw [List.set_set, List.set_set]
/-- [f x for x in ..] without a test -/
theorem lc_pure {J : It} {n : Nat} {G : Hp → Prop} {Y : Nat → Hp → V → Hp → Prop} (w : Walk J n G Y) (hn : n ≤ 1000000) {k : Nat} {te : TE} {σ : St} {H1 : Hp} {D : Addr} {Qd : Hp → Prop} (it : Nat → V → Prop) (f : Nat → V)
    (hY : ∀ i H x H', i < n → Y i H x H' → H' = H ∧ it i x) (hG : ∀ acc, G (upd H1 D (.lst acc)))
    (he : ∀ i x acc (R : VK), i < n → it i x → R (f i) (upd H1 D (.lst acc)) → te ((wipe σ [k]).set k (some x)) (upd H1 D (.lst acc)) R)
    (hd : Qd (upd H1 D (.lst ((List.range n).map f)))) :
    ∃ W : Nat → Nat → Hp → Prop, (∃ m, W 0 m (upd H1 D (.lst []))) ∧ ∀ i m H, W i m H →
      (J.stop i H ∧ Qd H) ∨ (J.go i H ∧ ∃ Nx : Hp → Prop, (∀ H', Nx H' → ∃ m', m' < m ∧ W (i + 1) m' H') ∧ ∀ x H', J.yld i H x H' → gName k x (wipe σ [k]) H' fun σ2 H2 => wipe σ2 [k] = wipe σ [k] ∧ tYes σ2 H2 fun b H3 =>
        if b = true then te σ2 H3 fun y H4 => ∃ acc, H4 D = some (.lst acc) ∧ acc.length < sizeLine ∧ Nx (upd H4 D (.lst (acc ++ [y]))) else Nx H3) := by
  refine lc_it w (fun i H => H = upd H1 D (.lst ((List.range i).map f))) rfl (fun i H _ e => e ▸ hG _) (fun i x H H' hi e hy => ?_) (fun H e => e ▸ hd)
  obtain ⟨rfl, hit⟩ := hY i H x H' hi hy
  subst e
  refine ⟨wipe_back, ?_⟩
  refine he i x _ _ hi hit ⟨_, upd_same, ?_, ?_⟩
  · rw [List.length_map, List.length_range]
    exact lt_line (by omega)
  · rw [upd_upd, List.range_succ, List.map_append]
    rfl
/-- [x for x in texts if ..] -/
theorem lc_filterS {K : PySem.W.Frag} {a : Addr} {ws : List Str} {k : Nat} {tt : TT} {σ : St} {H1 : Hp} {D : Addr} {Qd : Hp → Prop} (f : Str → Bool) (hk : k < σ.length) (hS : SqL K H1 a (ws.map V.str)) (hD : H1 D = none) (hn : ws.length ≤ 1000000)
    (ht : ∀ (i : Nat) (w : Str) (acc : List V) (R : Bool → Hp → Prop), ws[i]? = some w → R (f w) (upd H1 D (.lst acc)) → tt ((wipe σ [k]).set k (some (.str w))) (upd H1 D (.lst acc)) R)
    (hd : Qd (upd H1 D (.lst ((ws.filter f).map V.str)))) :
    ∃ W : Nat → Nat → Hp → Prop, (∃ m, W 0 m (upd H1 D (.lst []))) ∧ ∀ i m H, W i m H →
      ((Itl K a).stop i H ∧ Qd H) ∨ ((Itl K a).go i H ∧ ∃ Nx : Hp → Prop, (∀ H', Nx H' → ∃ m', m' < m ∧ W (i + 1) m' H') ∧ ∀ x H', (Itl K a).yld i H x H' → gName k x (wipe σ [k]) H' fun σ2 H2 => wipe σ2 [k] = wipe σ [k] ∧ tt σ2 H2 fun b H3 =>
        if b = true then tVar k σ2 H3 fun y H4 => ∃ acc, H4 D = some (.lst acc) ∧ acc.length < sizeLine ∧ Nx (upd H4 D (.lst (acc ++ [y]))) else Nx H3) := by
  refine lc_it (walk_list (K := K) (a := a) (xs := ws.map V.str)) (fun i H => H = upd H1 D (.lst (((ws.take i).filter f).map V.str))) rfl (fun i H _ e => by rw [e]; exact (same_new hD _).seq hS) (fun i x H H' hi e hy => ?_) (fun H e => ?_)
  · obtain ⟨rfl, hx⟩ := hy
    subst e
    rw [List.getElem?_map] at hx
    obtain ⟨u, hu, rfl⟩ := Option.map_eq_some_iff.mp hx
    obtain ⟨hl2, ew⟩ := List.getElem?_eq_some_iff.mp hu
    refine ⟨wipe_back, ?_⟩
    refine ht i u _ _ hu ?_
    by_cases c : f u = true
    · rw [if_pos c]
      refine ⟨.str u, ?_, _, upd_same, ?_, ?_⟩
      · show ((σ.set k none).set k (some (.str u)))[k]? = _
        rw [List.getElem?_set_self (by rw [List.length_set]; exact hk)]
      · rw [List.length_map]
        exact lt_line (Nat.le_trans (List.length_filter_le _ _) (by rw [List.length_take]; omega))
      · rw [upd_upd, List.take_succ_eq_append_getElem hl2, ew, List.filter_append, List.map_append, List.filter_cons_of_pos c]
        rfl
    · rw [if_neg c, List.take_succ_eq_append_getElem hl2, ew, List.filter_append, List.filter_cons_of_neg c, List.filter_nil, List.append_nil]
  · rw [List.length_map, List.take_length] at e
    rw [e]
    exact hd
theorem inV_strs (z : Str) : ∀ ws : List Str, inV (.str z) (ws.map V.str) = decide (z ∈ ws)
  | [] => rfl
  | w :: ws => by
    have ih := inV_strs z ws
    unfold inV at ih ⊢
    rw [List.map_cons, List.any_cons, ih]
    show ((w == z) || _) = _
    by_cases c : w = z
    · subst c
      simp
    · have e : (w == z) = false := by rw [beq_eq_false_iff_ne]; exact c
      rw [e, Bool.false_or]
      exact decide_eq_decide.mpr ⟨fun h => List.mem_cons_of_mem _ h, fun h => (List.mem_cons.mp h).elim (fun q => absurd q.symm c) id⟩
theorem flat_strs (ws : List Str) : (ws.map V.str).all flatV = true := by
  rw [List.all_map, List.all_eq_true]
  intro x _
  rfl
theorem yint {i : Nat} {H : Hp} {x : V} {H' : Hp} (h : YFn (fun i => V.int (0 + (i : Nat))) i H x H') : H' = H ∧ x = .int (i : Int) := by
  obtain ⟨h1, h2⟩ := h
  refine ⟨h1, h2.trans ?_⟩
  show V.int (0 + (i : Int)) = V.int (i : Int)
  rw [Int.zero_add]
theorem log_small {i : Int} (h : i.natAbs ≤ 1900) : i.natAbs.log2 < 1920 := Nat.lt_of_le_of_lt (Nat.log2_le_self _) (by omega)
theorem Sm.free {t p : Addr} {H H' : Hp} (s : Sm t H H') (n : p ≠ t) (h : H' p = none) : H p = none := by
  cases e : H p with
  | none => rfl
  | some o => rw [s p o n e] at h; cases h
end My

namespace My
open PySem L2
/-! ### == and < of plain data -/
mutual
def Dt.eqb : Dt → Dt → Bool
  | .non, e => match e with | .non => true | _ => false
  | .bl a, e => match e with | .bl b => a == b | .int j => (if a then 1 else 0) == j | _ => false
  | .int i, e => match e with | .bl b => i == (if b then 1 else 0) | .int j => i == j | _ => false
  | .str x, e => match e with | .str y => x == y | _ => false
  | .tup xs, e => match e with | .tup ys => Dt.eqbs xs ys | _ => false
def Dt.eqbs : List Dt → List Dt → Bool
  | [], ys => ys.isEmpty
  | x :: xs, ys => match ys with | [] => false | y :: r => Dt.eqb x y && Dt.eqbs xs r
end
abbrev pairD (xs ys : List Dt) (j : Nat) : Bool := Dt.eqb (xs.getD j .non) (ys.getD j .non)
theorem eqbs_all : ∀ xs ys : List Dt, ((List.range (min xs.length ys.length)).all (pairD xs ys) && xs.length == ys.length) = Dt.eqbs xs ys
  | [], [] => rfl
  | [], _ :: _ => by simp [Dt.eqbs]
  | _ :: _, [] => by simp [Dt.eqbs]
  | x :: xs, y :: ys => by
    have ih := eqbs_all xs ys
    have q1 : min (x :: xs).length (y :: ys).length = min xs.length ys.length + 1 := by rw [List.length_cons, List.length_cons]; omega
    have q2 : ((x :: xs).length == (y :: ys).length) = (xs.length == ys.length) := by simp
    rw [q1, q2, List.range_succ_eq_map, List.all_cons, List.all_map, Dt.eqbs, ← ih, Bool.and_assoc]
    rfl
mutual
theorem eqb_refl : ∀ d : Dt, Dt.eqb d d = true
  | .non => by rw [Dt.eqb]
  | .bl _ => by simp [Dt.eqb]
  | .int _ => by simp [Dt.eqb]
  | .str _ => by simp [Dt.eqb]
  | .tup xs => by
    rw [Dt.eqb]
    exact eqbs_refl xs
theorem eqbs_refl : ∀ ds : List Dt, Dt.eqbs ds ds = true
  | [] => rfl
  | d :: ds => by
    rw [Dt.eqbs, eqb_refl d, eqbs_refl ds]
    rfl
end
section
variable {X : Cx} {pins : List (Addr × Obj)} {σ : St} {H : Hp} {s : Shared}
mutual
theorem DT.inj (I : Inv X pins σ H s) : ∀ (d e : Dt) (v : V), DT X.K H v d → DT X.K H v e → d = e
  | .non, e, v, h, k => by cases h; cases k; rfl
  | .bl b, e, v, h, k => by cases h; cases k; rfl
  | .int b, e, v, h, k => by cases h; cases k; rfl
  | .str b, e, v, h, k => by cases h; cases k; rfl
  | .tup ds, e, v, h, k => by
    cases h with
    | tup h1 h2 =>
      cases k with
      | tup k1 k2 =>
        cases I.tuple_inj h1 k1
        rw [DTs.inj I ds _ _ h2 k2]
theorem DTs.inj (I : Inv X pins σ H s) : ∀ (ds es : List Dt) (vs : List V), DTs X.K H vs ds → DTs X.K H vs es → ds = es
  | [], es, vs, h, k => by cases h; cases k; rfl
  | d :: ds, es, vs, h, k => by
    cases h with
    | cons h1 h2 =>
      cases k with
      | cons k1 k2 => rw [DT.inj I d _ _ h1 k1, DTs.inj I ds _ _ h2 k2]
end
theorem in1_units (A : Around) : A.in1.units = A.units + 1 := rfl
mutual
theorem eqAtD (I : Inv X pins σ H s) : ∀ (d e : Dt) (A : Around) (v u : V) (a b : Value), DT X.K H v d → DT X.K H u e → RelV v a → RelV u b → A.units + d.deep < cLine → SeqAt.EqAt A s a b (Dt.eqb d e)
  | .non, e, A, v, u, a, b, hd, he, ra, rb, hu => by
    cases hd
    cases (show a = Value.none from ra)
    cases he with
    | non => cases (show b = Value.none from rb); exact SeqAt.EqAt.same _
    | bl y => cases (show b = Value.bool y from rb); exact SeqAt.EqAt.none_bool y
    | int y => obtain ⟨t, q⟩ := (show ∃ t, b = Value.int y t from rb); cases q; exact SeqAt.EqAt.none_int y t
    | str y => obtain ⟨t, q⟩ := (show ∃ t, b = Value.str y t from rb); cases q; exact SeqAt.EqAt.none_str y t
    | tup k1 k2 =>
      cases (show b = Value.ref _ from rb)
      obtain ⟨its, _, p, _⟩ := I.tuple k1
      exact SeqAt.EqAt.none_tuple p (by omega)
  | .bl x, e, A, v, u, a, b, hd, he, ra, rb, hu => by
    cases hd
    cases (show a = Value.bool x from ra)
    cases he with
    | non => cases (show b = Value.none from rb); exact SeqAt.EqAt.bool_none x
    | bl y => cases (show b = Value.bool y from rb); exact SeqAt.EqAt.bool_bool x y
    | int y => obtain ⟨t, q⟩ := (show ∃ t, b = Value.int y t from rb); cases q; exact SeqAt.EqAt.bool_int x y t
    | str y => obtain ⟨t, q⟩ := (show ∃ t, b = Value.str y t from rb); cases q; exact SeqAt.EqAt.bool_str x y t
    | tup k1 k2 =>
      cases (show b = Value.ref _ from rb)
      obtain ⟨its, _, p, _⟩ := I.tuple k1
      exact SeqAt.EqAt.bool_tuple x p (by omega)
  | .int x, e, A, v, u, a, b, hd, he, ra, rb, hu => by
    cases hd
    obtain ⟨t0, q0⟩ := (show ∃ t, a = Value.int x t from ra)
    cases q0
    cases he with
    | non => cases (show b = Value.none from rb); exact SeqAt.EqAt.int_none x t0
    | bl y => cases (show b = Value.bool y from rb); exact SeqAt.EqAt.int_bool x t0 y
    | int y => obtain ⟨t, q⟩ := (show ∃ t, b = Value.int y t from rb); cases q; exact SeqAt.EqAt.int_int x t0 y t
    | str y => obtain ⟨t, q⟩ := (show ∃ t, b = Value.str y t from rb); cases q; exact SeqAt.EqAt.int_str x t0 y t
    | tup k1 k2 =>
      cases (show b = Value.ref _ from rb)
      obtain ⟨its, _, p, _⟩ := I.tuple k1
      exact SeqAt.EqAt.int_tuple x t0 p (by omega)
  | .str x, e, A, v, u, a, b, hd, he, ra, rb, hu => by
    cases hd
    obtain ⟨t0, q0⟩ := (show ∃ t, a = Value.str x t from ra)
    cases q0
    cases he with
    | non => cases (show b = Value.none from rb); exact SeqAt.EqAt.str_none x t0
    | bl y => cases (show b = Value.bool y from rb); exact SeqAt.EqAt.str_bool x t0 y
    | int y => obtain ⟨t, q⟩ := (show ∃ t, b = Value.int y t from rb); cases q; exact SeqAt.EqAt.str_int x t0 y t
    | str y => obtain ⟨t, q⟩ := (show ∃ t, b = Value.str y t from rb); cases q; exact SeqAt.EqAt.str_str x t0 y t
    | tup k1 k2 =>
      cases (show b = Value.ref _ from rb)
      obtain ⟨its, _, p, _⟩ := I.tuple k1
      exact SeqAt.EqAt.str_tuple x t0 p (by omega)
  | .tup ds, e, A, v, u, a, b, hd, he, ra, rb, hu => by
    cases hd with
    | @tup l vs _ h1 h2 =>
    cases (show a = Value.ref l from ra)
    obtain ⟨its, r1, p1, _⟩ := I.tuple h1
    cases he with
    | non => cases (show b = Value.none from rb); exact SeqAt.EqAt.tuple_none p1 (by omega)
    | bl y => cases (show b = Value.bool y from rb); exact SeqAt.EqAt.tuple_bool y p1 (by omega)
    | int y => obtain ⟨t, q⟩ := (show ∃ t, b = Value.int y t from rb); cases q; exact SeqAt.EqAt.tuple_int y t p1 (by omega)
    | str y => obtain ⟨t, q⟩ := (show ∃ t, b = Value.str y t from rb); cases q; exact SeqAt.EqAt.tuple_str y t p1 (by omega)
    | @tup l2 us es k1 k2 =>
      cases (show b = Value.ref l2 from rb)
      obtain ⟨its2, r2, p2, _⟩ := I.tuple k1
      by_cases hll : l = l2
      · subst hll
        cases I.tuple_inj h1 k1
        cases DTs.inj I ds es _ h2 k2
        rw [eqb_refl]
        exact SeqAt.EqAt.same _
      · have n1 : its.toArray.size = ds.length := by rw [List.size_toArray, ← r1.length, h2.length]
        have n2 : its2.toArray.size = es.length := by rw [List.size_toArray, ← r2.length, k2.length]
        show SeqAt.EqAt A s (.ref l) (.ref l2) (Dt.eqbs ds es)
        rw [← eqbs_all ds es, ← n1, ← n2]
        have hu' : A.in1.units + Dt.deeps ds < cLine := by
          rw [in1_units]
          unfold Dt.deep at hu
          omega
        refine SeqAt.EqAt.of_refs hll (SeqAt.RcAt.tuples p1 p2 (by unfold Dt.deep at hu; omega) fun j j1 j2 => ?_)
        have q := eqAtDs I ds es A.in1 vs us its its2 h2 k2 r1 r2 hu' j (by simpa using j1) (by simpa using j2)
        simpa using q
theorem eqAtDs (I : Inv X pins σ H s) : ∀ (ds es : List Dt) (A : Around) (vs us : List V) (as bs : List Value), DTs X.K H vs ds → DTs X.K H us es → Vals vs as → Vals us bs → A.units + Dt.deeps ds < cLine →
    ∀ j (h1 : j < as.length) (h2 : j < bs.length), SeqAt.EqAt A s as[j] bs[j] (pairD ds es j)
  | [], es, A, vs, us, as, bs, hd, he, ra, rb, hu, j, h1, h2 => by
    cases hd
    cases ra
    exact absurd h1 (Nat.not_lt_zero _)
  | d :: ds, es, A, vs, us, as, bs, hd, he, ra, rb, hu, j, h1, h2 => by
    cases hd with
    | cons x1 x2 =>
    cases ra with
    | cons r1 r2 =>
    unfold Dt.deeps at hu
    cases he with
    | nil =>
      cases rb
      exact absurd h2 (Nat.not_lt_zero _)
    | cons y1 y2 =>
      cases rb with
      | cons q1 q2 =>
        cases j with
        | zero => exact eqAtD I d _ A _ _ _ _ x1 y1 r1 q1 (by omega)
        | succ j => exact eqAtDs I ds _ A _ _ _ _ x2 y2 r2 q2 (by omega) j (Nat.lt_of_succ_lt_succ h1) (Nat.lt_of_succ_lt_succ h2)
end
end
/-- == of two tuples -/
def rEqT (K : PySem.W.Frag) : R2 := fun x y H Q => ∃ ds es, DT K H x (.tup ds) ∧ DT K H y (.tup es) ∧ Dt.deeps ds ≤ 60 ∧ Q (.bl (Dt.eqbs ds es)) H
theorem op_eqT {X : Cx} {K : PySem.W.Frag} (hK : X.K = K) (hu : X.A.units + 64 < cLine) : OpR X (compareOp .Eq) (rEqT K) := by
  subst hK
  intro pins s σ H x y v u Q I rx ry h
  obtain ⟨ds, es, hd, he, hz, q⟩ := h
  cases hd with
  | @tup l vs _ h1 h2 =>
  cases (show v = Value.ref l from rx)
  obtain ⟨its, r1, p1, _⟩ := I.tuple h1
  cases he with
  | @tup l2 us _ k1 k2 =>
  cases (show u = Value.ref l2 from ry)
  obtain ⟨its2, r2, p2, _⟩ := I.tuple k1
  have n1 : its.toArray.size = ds.length := by rw [List.size_toArray, ← r1.length, h2.length]
  have n2 : its2.toArray.size = es.length := by rw [List.size_toArray, ← r2.length, k2.length]
  have z : SeqAt.RcAt X.A s (.ref l) (.ref l2) (Dt.eqbs ds es) := by
    rw [← eqbs_all ds es, ← n1, ← n2]
    refine SeqAt.RcAt.tuples p1 p2 (by omega) fun j j1 j2 => ?_
    have q := eqAtDs I ds es X.A.in1 vs us its its2 h2 k2 r1 r2 (by rw [in1_units]; omega) j (by simpa using j1) (by simpa using j2)
    simpa using q
  exact z X.prog X.w X.xe _ ⟨.bl _, H, I, rfl, q⟩
end My

namespace My
open PySem L2 PySem.SeqAt
open PySem.AutoSeq1 (wpAny_loadPart')
open PySem.MeetsSeq PySem.MeetsSeq2 PySem.MeetsSeq3
/-- a < b of two tuples, where only the first unequal pair is asked for its order -/
theorem ltFirst (l b : Addr) (xs ys : Array Value) (n n2 : Nat) (dd dd2 : Option Addr) (sl sl2 : Array (Option Value)) (e r : Nat → Bool) :
    Meets (Builtin.«tuple.__lt__» ⟨[.ref l, .ref b], []⟩)
      (fun A R s => s.heap.get? l = some { cls := .type "tuple", dict := dd, data := .seq xs n, slots := sl } ∧ s.heap.get? b = some { cls := .type "tuple", dict := dd2, data := .seq ys n2, slots := sl2 } ∧
        (∀ j (k1 : j < xs.size) (k2 : j < ys.size), EqAt A.in1 s xs[j] ys[j] (e j)) ∧
        (∀ j (k1 : j < xs.size) (k2 : j < ys.size), (∀ i, i < j → e i = true) → e j = false → Ob.RcOp .Lt A.in1 s xs[j] ys[j] (r j)) ∧
        R (.ok (.ret (.bool (Ob.lexAt e r (decide (xs.size < ys.size)) 0 (min xs.size ys.size))))) s) :=
  .of_wp fun prog w A R s h => by
    obtain ⟨hp, g, d, tk, os⟩ := s
    obtain ⟨hl, hb, he, hr, h⟩ := h
    have f2 := AutoSeq1.sub_tuple_tuple
    have hZ : (xs.toList.zip ys.toList).length = min xs.size ys.size := by simp
    wp_walk using wpAny_loadPart' hl, wpAny_loadPart' hb, wpAny_forIn_list _ (fun rest acc s' => acc.1 = none ∧ s' = ⟨hp, g, d, tk, os⟩ ∧ ∃ i, rest = (xs.toList.zip ys.toList).drop i ∧ (∀ i', i' < i → e i' = true) ∧
      R (.ok (.ret (.bool (Ob.lexAt e r (decide (xs.size < ys.size)) i (min xs.size ys.size - i))))) ⟨hp, g, d, tk, os⟩) _
    case turn =>
      rintro ⟨y, x⟩ rest acc s' ⟨hacc, rfl, i, hz, hpre, hR⟩
      have hlt : i < (xs.toList.zip ys.toList).length := by
        apply Nat.lt_of_not_le
        intro hge
        rw [List.drop_of_length_le hge] at hz
        cases hz
      have hmin : i < min xs.size ys.size := by omega
      have k1 : i < xs.size := by omega
      have k2 : i < ys.size := by omega
      rw [List.drop_eq_getElem_cons hlt] at hz
      injection hz with hyx hrest
      have ey : y = xs[i] := by simpa using congrArg Prod.fst hyx
      have ex : x = ys[i] := by simpa using congrArg Prod.snd hyx
      subst ey ex
      rw [show min xs.size ys.size - i = (min xs.size ys.size - (i + 1)) + 1 by omega, Ob.lexAt_succ] at hR
      refine wpAny_bind (he i k1 k2 prog w _ _ ?_)
      cases hei : e i with
      | true =>
        rw [hei, if_pos rfl] at hR
        wp_walk
        refine ⟨rfl, rfl, i + 1, hrest, fun i' hi' => ?_, hR⟩
        by_cases q : i' = i
        · rw [q]; exact hei
        · exact hpre i' (by omega)
      | false =>
        rw [hei, if_neg Bool.false_ne_true] at hR
        have hri := hr i k1 k2 hpre hei prog w
        wp_walk using hri
        exact ⟨_, rfl, by simpa using hR⟩
    case fin =>
      rintro ⟨b1, b2⟩ s' ⟨hacc, rfl, i, hz, hpre, hR⟩
      simp only at hacc
      subst hacc
      have hge : min xs.size ys.size ≤ i := by
        apply Nat.le_of_not_lt
        intro hlt
        rw [List.drop_eq_getElem_cons (by omega)] at hz
        cases hz
      rw [Nat.sub_eq_zero_of_le hge, Ob.lexAt_zero] at hR
      wp_walk
      exact ⟨_, rfl, by simpa [Builtin.Tuple.tupleCompareSizes] using hR⟩
    case h =>
      exact ⟨rfl, rfl, 0, rfl, fun i' hi' => absurd hi' (Nat.not_lt_zero _), by simpa using h⟩
theorem rcFirst {A : Around} {s : Shared} {l b : Addr} {xs ys : Array Value} {e r : Nat → Bool} (hl : s.heap.IsTuple l xs) (hb : s.heap.IsTuple b ys) (hu : A.units < cLine)
    (he : ∀ j (k1 : j < xs.size) (k2 : j < ys.size), EqAt A.in1 s xs[j] ys[j] (e j))
    (hr : ∀ j (k1 : j < xs.size) (k2 : j < ys.size), (∀ i, i < j → e i = true) → e j = false → Ob.RcOp .Lt A.in1 s xs[j] ys[j] (r j)) :
    Ob.RcOp .Lt A s (.ref l) (.ref b) (Ob.lexAt e r (decide (xs.size < ys.size)) 0 (min xs.size ys.size)) := fun prog w E Q h => by
  obtain ⟨⟨c1, d1, t1, s1⟩, o1, z1, n, y1⟩ := id hl
  obtain ⟨⟨c2, d2, t2, s2⟩, o2, z2, n2, y2⟩ := id hb
  simp only at z1 y1 z2 y2
  subst z1 y1 z2 y2
  refine richCompare_meets_room (op := .Lt) ⟨_, o1, rfl⟩ ⟨_, o2, rfl⟩ F.slot_tuple_lt F.entry_tuple_lt (F.args_tuple_lt_2 _ _) (ltFirst l b xs ys n n2 d1 d2 s1 s2 e r) ?_ hu
  exact ⟨o1, o2, he, hr, ⟨(fun x => nomatch x), h⟩⟩

/-! ### the order of plain data -/
mutual
def Dt.lt? : Dt → Dt → Option Bool
  | .int a, e => match e with | .int b => some (decide (a < b)) | _ => none
  | .str a, e => match e with | .str b => some (decide (a.cps.toList < b.cps.toList)) | _ => none
  | .tup xs, e => match e with | .tup ys => Dt.lts? xs ys | _ => none
  | .non, _ => none
  | .bl _, _ => none
def Dt.lts? : List Dt → List Dt → Option Bool
  | [], ys => some (!ys.isEmpty)
  | x :: xs, ys => match ys with | [] => some false | y :: r => if Dt.eqb x y = true then Dt.lts? xs r else Dt.lt? x y
end
abbrev ordD (xs ys : List Dt) (j : Nat) : Bool := (Dt.lt? (xs.getD j .non) (ys.getD j .non)).getD false
theorem lexAt_shift {e r : Nat → Bool} {z : Bool} : ∀ (k i : Nat), Ob.lexAt (fun j => e (j + 1)) (fun j => r (j + 1)) z i k = Ob.lexAt e r z (i + 1) k
  | 0, i => rfl
  | k + 1, i => by
    rw [Ob.lexAt_succ, Ob.lexAt_succ, lexAt_shift k (i + 1)]
theorem lts_lex : ∀ (xs ys : List Dt) (b : Bool), Dt.lts? xs ys = some b → Ob.lexAt (pairD xs ys) (ordD xs ys) (decide (xs.length < ys.length)) 0 (min xs.length ys.length) = b
  | [], [], b, h => by simpa [Dt.lts?, Ob.lexAt_zero] using h
  | [], y :: ys, b, h => by simpa [Dt.lts?, Ob.lexAt_zero] using h
  | x :: xs, [], b, h => by simpa [Dt.lts?, Ob.lexAt_zero] using h
  | x :: xs, y :: ys, b, h => by
    rw [Dt.lts?] at h
    have q1 : min (x :: xs).length (y :: ys).length = min xs.length ys.length + 1 := by rw [List.length_cons, List.length_cons]; omega
    have q2 : decide ((x :: xs).length < (y :: ys).length) = decide (xs.length < ys.length) := by simp
    rw [q1, q2, Ob.lexAt_succ]
    by_cases c : Dt.eqb x y = true
    · rw [if_pos c] at h
      have c' : pairD (x :: xs) (y :: ys) 0 = true := c
      rw [if_pos c', ← lexAt_shift]
      exact lts_lex xs ys b h
    · rw [if_neg c] at h
      have c' : ¬ pairD (x :: xs) (y :: ys) 0 = true := c
      rw [if_neg c']
      show (Dt.lt? x y).getD false = b
      rw [h]
      rfl
section
variable {X : Cx} {pins : List (Addr × Obj)} {σ : St} {H : Hp} {s : Shared}
mutual
theorem ltAtD (I : Inv X pins σ H s) : ∀ (d e : Dt) (A : Around) (v u : V) (a b : Value) (k : Bool), DT X.K H v d → DT X.K H u e → RelV v a → RelV u b → A.units + d.deep < cLine → Dt.lt? d e = some k → Ob.RcOp .Lt A s a b k
  | .non, e, A, v, u, a, b, k, hd, he, ra, rb, hu, hk => by cases hk
  | .bl x, e, A, v, u, a, b, k, hd, he, ra, rb, hu, hk => by cases hk
  | .int x, e, A, v, u, a, b, k, hd, he, ra, rb, hu, hk => by
    cases hd
    obtain ⟨t0, q0⟩ := (show ∃ t, a = Value.int x t from ra)
    cases q0
    cases he with
    | int y =>
      obtain ⟨t, q⟩ := (show ∃ t, b = Value.int y t from rb)
      cases q
      cases (show some (decide (x < y)) = some k from hk)
      exact Ob.RcOp.lt_int x y t0 t
    | _ => cases hk
  | .str x, e, A, v, u, a, b, k, hd, he, ra, rb, hu, hk => by
    cases hd
    obtain ⟨t0, q0⟩ := (show ∃ t, a = Value.str x t from ra)
    cases q0
    cases he with
    | str y =>
      obtain ⟨t, q⟩ := (show ∃ t, b = Value.str y t from rb)
      cases q
      cases (show some (decide (x.cps.toList < y.cps.toList)) = some k from hk)
      exact fun prog w E Q h => PyProof.Rows.lt_str h
    | _ => cases hk
  | .tup ds, e, A, v, u, a, b, k, hd, he, ra, rb, hu, hk => by
    cases hd with
    | @tup l vs _ h1 h2 =>
    cases (show a = Value.ref l from ra)
    obtain ⟨its, r1, p1, _⟩ := I.tuple h1
    cases he with
    | @tup l2 us es k1 k2 =>
      cases (show b = Value.ref l2 from rb)
      obtain ⟨its2, r2, p2, _⟩ := I.tuple k1
      have n1 : its.toArray.size = ds.length := by rw [List.size_toArray, ← r1.length, h2.length]
      have n2 : its2.toArray.size = es.length := by rw [List.size_toArray, ← r2.length, k2.length]
      have hk' : Dt.lts? ds es = some k := hk
      rw [← lts_lex ds es k hk', ← n1, ← n2]
      have hu' : A.in1.units + Dt.deeps ds < cLine := by
        rw [in1_units]
        unfold Dt.deep at hu
        omega
      refine rcFirst p1 p2 (by unfold Dt.deep at hu; omega) (fun j j1 j2 => ?_) (fun j j1 j2 jp jf => ?_)
      · have q := eqAtDs I ds es A.in1 vs us its its2 h2 k2 r1 r2 hu' j (by simpa using j1) (by simpa using j2)
        simpa using q
      · have q := ltAtDs I ds es A.in1 vs us its its2 k h2 k2 r1 r2 hu' hk' j (by simpa using j1) (by simpa using j2) jp jf
        simpa using q
    | _ => cases hk
theorem ltAtDs (I : Inv X pins σ H s) : ∀ (ds es : List Dt) (A : Around) (vs us : List V) (as bs : List Value) (k : Bool), DTs X.K H vs ds → DTs X.K H us es → Vals vs as → Vals us bs → A.units + Dt.deeps ds < cLine → Dt.lts? ds es = some k →
    ∀ j (h1 : j < as.length) (h2 : j < bs.length), (∀ i, i < j → pairD ds es i = true) → pairD ds es j = false → Ob.RcOp .Lt A s as[j] bs[j] (ordD ds es j)
  | [], es, A, vs, us, as, bs, k, hd, he, ra, rb, hu, hk, j, h1, h2, jp, jf => by
    cases hd
    cases ra
    exact absurd h1 (Nat.not_lt_zero _)
  | d :: ds, es, A, vs, us, as, bs, k, hd, he, ra, rb, hu, hk, j, h1, h2, jp, jf => by
    cases hd with
    | cons x1 x2 =>
    cases ra with
    | cons r1 r2 =>
    unfold Dt.deeps at hu
    cases he with
    | nil =>
      cases rb
      exact absurd h2 (Nat.not_lt_zero _)
    | @cons _ _ e es' y1 y2 =>
      cases rb with
      | cons q1 q2 =>
        rw [Dt.lts?] at hk
        cases j with
        | zero =>
          have c : ¬ Dt.eqb d e = true := by
            have : Dt.eqb d e = false := jf
            rw [this]; exact Bool.false_ne_true
          rw [if_neg c] at hk
          have z := ltAtD I d e A _ _ _ _ k x1 y1 r1 q1 (by omega) hk
          have ek : ordD (d :: ds) (e :: es') 0 = k := by
            show (Dt.lt? d e).getD false = k
            rw [hk]; rfl
          rw [ek]
          exact z
        | succ j =>
          have c : Dt.eqb d e = true := jp 0 (Nat.succ_pos _)
          rw [if_pos c] at hk
          exact ltAtDs I ds es' A _ _ _ _ k x2 y2 r2 q2 (by omega) hk j (Nat.lt_of_succ_lt_succ h1) (Nat.lt_of_succ_lt_succ h2) (fun i hi => jp (i + 1) (Nat.succ_lt_succ hi)) jf
end
end
/-- < of two tuples -/
def rLtTD (K : PySem.W.Frag) : R2 := fun x y H Q => ∃ ds es k, DT K H x (.tup ds) ∧ DT K H y (.tup es) ∧ Dt.deeps ds ≤ 60 ∧ Dt.lts? ds es = some k ∧ Q (.bl k) H
theorem op_ltTD {X : Cx} {K : PySem.W.Frag} (hK : X.K = K) (hu : X.A.units + 64 < cLine) : OpR X (compareOp .Lt) (rLtTD K) := by
  subst hK
  intro pins s σ H x y v u Q I rx ry h
  obtain ⟨ds, es, k, hd, he, hz, hk, q⟩ := h
  exact ltAtD I (.tup ds) (.tup es) X.A x y v u k hd he rx ry (by unfold Dt.deep; omega) hk X.prog X.w X.xe _ ⟨.bl _, H, I, rfl, q⟩
end My

namespace My
open PySem L2
/-! ### keys -/
def allIn (cs gs : List Nat) : Bool := cs.all fun c => decide (c ∈ gs)
def firstC : List Nat := (Str.ofString "abcdefghijklmnopqrstuvwxyz").cps.toList
def keyC : List Nat := (Str.ofString "abcdefghijklmnopqrstuvwxyzABCDEFGHIJKLMNOPQRSTUVWXYZ0123456789-").cps.toList
/-- what a key is, by its signs -/
def isKeyC (cs : List Nat) : Bool := decide (cs ≠ []) && decide (cs.length ≤ 16) && decide (cs.headD 0 ∈ firstC) && allIn cs keyC
theorem isKeyC_no {cs : List Nat} (h : cs = [] ∨ 16 < cs.length) : isKeyC cs = false := by
  unfold isKeyC
  rcases h with rfl | h
  · rfl
  · rw [decide_eq_false (p := cs.length ≤ 16) (by omega)]
    simp
theorem isKeyC_yes {cs : List Nat} {c : Nat} (h0 : cs[0]? = some c) (h : cs.length ≤ 16) : isKeyC cs = (decide (c ∈ firstC) && allIn cs keyC) := by
  cases cs with
  | nil => simp at h0
  | cons a r =>
    have e : a = c := by simpa using h0
    subst e
    unfold isKeyC
    rw [decide_eq_true h, decide_eq_true (by simp)]
    simp
theorem isKeyC_iff {cs : List Nat} : isKeyC cs = true ↔ ∃ c r, cs = c :: r ∧ c ∈ firstC ∧ cs.length ≤ 16 ∧ ∀ d ∈ cs, d ∈ keyC := by
  constructor
  · intro h
    unfold isKeyC at h
    simp only [Bool.and_eq_true, decide_eq_true_eq] at h
    obtain ⟨⟨⟨h1, h2⟩, h3⟩, h4⟩ := h
    obtain ⟨c, r, rfl⟩ := List.exists_cons_of_ne_nil h1
    refine ⟨c, r, rfl, h3, h2, fun d hd => ?_⟩
    unfold allIn at h4
    exact of_decide_eq_true (List.all_eq_true.mp h4 d hd)
  · rintro ⟨c, r, rfl, h1, h2, h3⟩
    unfold isKeyC
    simp only [Bool.and_eq_true, decide_eq_true_eq]
    refine ⟨⟨⟨by simp, h2⟩, h1⟩, ?_⟩
    unfold allIn
    rw [List.all_eq_true]
    exact fun d hd => decide_eq_true (h3 d hd)
/-- the key of a text -/
def KeyT (z : Str) : Prop := isKeyC z.cps.toList = true
theorem KeyT.len {z : Str} (h : KeyT z) : z.length ≤ 16 := by
  obtain ⟨c, r, e, _, h2, _⟩ := isKeyC_iff.mp h
  rw [len_codes] at h2
  exact h2
theorem keyC_sg : ∀ c ∈ keyC, Sg c ∧ c ≠ 32 ∧ c ≠ 34 ∧ c ≠ 46 := by decide +kernel
theorem KeyT.sg {z : Str} (h : KeyT z) : SgT z := fun c hc => by
  obtain ⟨_, r, e, _, _, h3⟩ := isKeyC_iff.mp h
  exact (keyC_sg c (h3 c hc)).1
/-- more signs behind a key -/
theorem KeyT.app {z u : Str} (h : KeyT z) (hu : ∀ c ∈ u.cps.toList, c ∈ keyC) (hl : z.length + u.length ≤ 16) : KeyT (z ++ u) := by
  obtain ⟨c, r, e, h1, h2, h3⟩ := isKeyC_iff.mp h
  refine isKeyC_iff.mpr ⟨c, r ++ u.cps.toList, ?_, h1, ?_, fun d hd => ?_⟩
  · rw [app_codes, e]; rfl
  · rw [len_codes, app_len]; exact hl
  · rw [app_codes] at hd
    exact (List.mem_append.mp hd).elim (h3 d) (hu d)
theorem KeyT.cut {z : Str} (h : KeyT z) {n : Int} (h1 : 1 ≤ n) : KeyT (cutS z none (some n)) := by
  obtain ⟨c, r, e, h1', h2, h3⟩ := isKeyC_iff.mp h
  have ec := cut_pre z (a := n) (by omega)
  obtain ⟨m, hm⟩ : ∃ m, n.toNat = m + 1 := ⟨n.toNat - 1, by omega⟩
  refine isKeyC_iff.mpr ⟨c, r.take m, ?_, h1', ?_, fun d hd => h3 d ?_⟩
  · rw [ec, e, hm]; rfl
  · rw [ec, List.length_take]
    omega
  · rw [ec] at hd
    exact List.mem_of_mem_take hd
theorem KeyT.one {c : Nat} (h : c ∈ firstC) : KeyT ⟨#[c]⟩ := isKeyC_iff.mpr ⟨c, [], rfl, h, (by show 1 ≤ 16; decide), fun d hd => by
  have e : d = c := by simpa using hd
  subst e
  have z : ∀ c ∈ firstC, c ∈ keyC := by decide +kernel
  exact z d h⟩
def resL : List Str := [Str.ofString "hook", Str.ofString "each", Str.ofString "when", Str.ofString "then", Str.ofString "and", Str.ofString "or", Str.ofString "not", Str.ofString "has", Str.ofString "set", Str.ofString "default", Str.ofString "from", Str.ofString "remove", Str.ofString "reject", Str.ofString "true", Str.ofString "false"]
end My

namespace My
open PySem L2
/-! ### slices and sums of tuples, one way -/
section
variable {K : PySem.W.Frag} {H : Hp}
theorem slA_of {a : Addr} {xs : List V} {lo hi : Option Int} {Q : VK} (h : SqT K H a xs) (q : ∀ p H', Same H H' → SqT K H' p (cutV xs lo hi) → Q (.ref p) H') : rSlA K (.ref a) lo hi H Q := by
  refine ⟨a, xs, rfl, h, fun e => q a H (Same.refl H) ?_, fun _ p hp => q p _ (same_new hp _) (SqT.of upd_same)⟩
  have ec : cutV xs lo hi = xs := by
    unfold cutV
    rw [e.1, e.2, List.drop_zero, Nat.sub_zero, List.take_length]
  rw [ec]
  exact h
theorem catA_of {a b : Addr} {xs ys : List V} {Q : VK} (h : SqT K H a xs) (k : SqT K H b ys) (hl : xs.length + ys.length ≤ sizeLine) (q : ∀ p H', Same H H' → SqT K H' p (xs ++ ys) → Q (.ref p) H') : rCatA K (.ref a) (.ref b) H Q := by
  refine ⟨a, b, xs, ys, rfl, rfl, h, k, hl, fun e => ?_, fun _ e => ?_, fun _ _ p hp => q p _ (same_new hp _) (SqT.of upd_same)⟩
  · subst e
    exact q b H (Same.refl H) k
  · subst e
    refine q a H (Same.refl H) ?_
    rw [List.append_nil]
    exact h
end
/-! ### data of the model stand as long as nothing changes -/
mutual
theorem Dp.mono {K : PySem.W.Frag} {H H' : Hp} (k : ∀ a xs, SqT K H a xs → SqT K H' a xs) (k2 : ∀ a xs, SqL K H a xs → SqL K H' a xs) : ∀ (d : PyData) (v : V), Dp K H v d → Dp K H' v d
  | .none, _, h => by cases h; exact .non
  | .bool b, _, h => by cases h; exact .bl _
  | .int b, _, h => by cases h; exact .int _
  | .str b, _, h => by cases h; exact .str _
  | .list ds, _, h => by
    cases h with
    | lst h1 h2 => exact .lst (k2 _ _ h1) (DpAll.mono k k2 ds _ h2)
  | .tuple ds, _, h => by
    cases h with
    | tup h1 h2 => exact .tup (k _ _ h1) (DpAll.mono k k2 ds _ h2)
  | .dict _, _, h => by cases h
theorem DpAll.mono {K : PySem.W.Frag} {H H' : Hp} (k : ∀ a xs, SqT K H a xs → SqT K H' a xs) (k2 : ∀ a xs, SqL K H a xs → SqL K H' a xs) : ∀ (ds : List PyData) (vs : List V), DpAll K H vs ds → DpAll K H' vs ds
  | [], _, h => by cases h; exact .nil
  | d :: ds, _, h => by
    cases h with
    | cons h1 h2 => exact .cons (Dp.mono k k2 d _ h1) (DpAll.mono k k2 ds _ h2)
end
theorem _root_.L2.Dp.same {K : PySem.W.Frag} {H H' : Hp} {d : PyData} {v : V} (h : Dp K H v d) (e : Same H H') : Dp K H' v d := Dp.mono (fun _ _ q => e.seqT q) (fun _ _ q => e.seq q) d v h
theorem _root_.L2.DpAll.same {K : PySem.W.Frag} {H H' : Hp} {d : List PyData} {v : List V} (h : DpAll K H v d) (e : Same H H') : DpAll K H' v d := DpAll.mono (fun _ _ q => e.seqT q) (fun _ _ q => e.seq q) d v h
theorem _root_.L2.DpAll.append {K : PySem.W.Frag} {H : Hp} {vs us : List V} {ds es : List PyData} (h : DpAll K H vs ds) (k : DpAll K H us es) : DpAll K H (vs ++ us) (ds ++ es) := by
  induction ds generalizing vs with
  | nil => cases h; exact k
  | cons d ds ih =>
    cases h with
    | cons h1 h2 => exact .cons h1 (ih h2)
/-- the order of alike data -/
def rLtP (K : PySem.W.Frag) : R2 := fun x y H Q => ∃ d e, Dp K H x d ∧ Dp K H y e ∧ PySem.W.alike d e = true ∧ d ≠ .none ∧ d.depth ≤ 60 ∧ Q (.bl (PySem.W.dataLt d e)) H
def rGtP (K : PySem.W.Frag) : R2 := fun x y H Q => ∃ d e, Dp K H x d ∧ Dp K H y e ∧ PySem.W.alike d e = true ∧ d ≠ .none ∧ d.depth ≤ 60 ∧ Q (.bl (PySem.W.dataLt e d)) H
section
variable {X : Cx} {K : PySem.W.Frag}
theorem op_ltP (hK : X.K = K) (hu : X.A.units + 64 < cLine) : OpR X (compareOp .Lt) (rLtP K) := by
  subst hK
  intro pins s σ H x y v u Q I rx ry h
  obtain ⟨d, e, hd, he, ha, hn, hz, q⟩ := h
  obtain ⟨as, r1⟩ := L2.Dp.reads I d x v hd rx
  obtain ⟨bs, r2⟩ := L2.Dp.reads I e y u he ry
  exact PySem.W.lt_data r1 r2 ha hn (by have := Nat.min_le_left d.depth e.depth; omega) ⟨.bl _, H, I, rfl, q⟩
theorem op_gtP (hK : X.K = K) (hu : X.A.units + 64 < cLine) : OpR X (compareOp .Gt) (rGtP K) := by
  subst hK
  intro pins s σ H x y v u Q I rx ry h
  obtain ⟨d, e, hd, he, ha, hn, hz, q⟩ := h
  obtain ⟨as, r1⟩ := L2.Dp.reads I d x v hd rx
  obtain ⟨bs, r2⟩ := L2.Dp.reads I e y u he ry
  exact PySem.W.gt_data r1 r2 ha hn (by have := Nat.min_le_left d.depth e.depth; omega) ⟨.bl _, H, I, rfl, q⟩
end
/-! ### the order of texts -/
def rkT (z : Str) : List Dt := [.int z.length, .str z]
/-- -1, 0, 1 -/
def cmpD (ds es : List Dt) : Int := if Dt.eqbs ds es = true then 0 else if Dt.lts? ds es = some true then -1 else 1
def ltC (a b : List Nat) : Prop := a.length < b.length ∨ (a.length = b.length ∧ a < b)
instance (a b : List Nat) : Decidable (ltC a b) := by unfold ltC; exact inferInstance
def cmpC (a b : List Nat) : Int := if a = b then 0 else if ltC a b then -1 else 1
theorem ltC_irrefl (a : List Nat) : ¬ ltC a a := fun h => h.elim (fun q => Nat.lt_irrefl _ q) (fun q => List.lt_irrefl _ q.2)
theorem ltC_asymm {a b : List Nat} (h : ltC a b) : ¬ ltC b a := fun k => by
  rcases h with h | ⟨h, h'⟩ <;> rcases k with k | ⟨k, k'⟩
  · omega
  · omega
  · omega
  · exact List.lt_asymm h' k'
theorem ltC_total {a b : List Nat} (h : a ≠ b) : ltC a b ∨ ltC b a := by
  rcases Nat.lt_trichotomy a.length b.length with k | k | k
  · exact .inl (.inl k)
  · by_cases c : a < b
    · exact .inl (.inr ⟨k, c⟩)
    · have c' : b ≤ a := List.not_lt.mp c
      rcases List.le_iff_lt_or_eq.mp c' with d | d
      · exact .inr (.inr ⟨k.symm, d⟩)
      · exact absurd d.symm h
  · exact .inr (.inl k)
theorem eqbs_rkT (a b : Str) : Dt.eqbs (rkT a) (rkT b) = decide (a.cps.toList = b.cps.toList) := by
  by_cases c : a.cps.toList = b.cps.toList
  · have e := str_ext c
    subst e
    rw [eqbs_refl, decide_eq_true rfl]
  · rw [decide_eq_false c]
    show (((a.length : Int) == (b.length : Int)) && ((a == b) && true)) = false
    have e : (a == b) = false := by
      rw [beq_eq_false_iff_ne]
      intro q
      exact c (by rw [q])
    rw [e]
    simp
theorem lts_rkT (a b : Str) (h : a.cps.toList ≠ b.cps.toList) : Dt.lts? (rkT a) (rkT b) = some (decide (ltC a.cps.toList b.cps.toList)) := by
  have la := len_codes a
  have lb := len_codes b
  show (if Dt.eqb (.int a.length) (.int b.length) = true then (if Dt.eqb (.str a) (.str b) = true then Dt.lts? [] [] else some (decide (a.cps.toList < b.cps.toList))) else some (decide ((a.length : Int) < (b.length : Int)))) = _
  have e1 : Dt.eqb (.int a.length) (.int b.length) = decide (a.length = b.length) := by
    show ((a.length : Int) == (b.length : Int)) = _
    rw [Bool.beq_eq_decide_eq]
    exact decide_eq_decide.mpr ⟨by omega, by omega⟩
  have e2 : Dt.eqb (.str a) (.str b) = false := by
    show (a == b) = false
    rw [beq_eq_false_iff_ne]
    intro q
    exact h (by rw [q])
  rw [e1, e2]
  by_cases c : a.length = b.length
  · rw [decide_eq_true c, if_pos rfl, if_neg Bool.false_ne_true]
    congr 1
    exact decide_eq_decide.mpr ⟨fun q => .inr ⟨by rw [la, lb]; exact c, q⟩, fun q => Or.elim q (fun z => absurd z (by omega)) (·.2)⟩
  · rw [decide_eq_false c, if_neg Bool.false_ne_true]
    congr 1
    exact decide_eq_decide.mpr ⟨fun q => .inl (by omega), fun q => Or.elim q (fun z => by omega) (fun z => absurd z.1 (by omega))⟩
theorem lts_same (ds : List Dt) : Dt.lts? ds ds = some false := by
  induction ds with
  | nil => rfl
  | cons d ds ih => rw [Dt.lts?, if_pos (eqb_refl d), ih]
theorem lts_rkT_any (a b : Str) : ∃ k, Dt.lts? (rkT a) (rkT b) = some k := by
  by_cases c : a.cps.toList = b.cps.toList
  · rw [str_ext c]
    exact ⟨_, lts_same _⟩
  · exact ⟨_, lts_rkT a b c⟩
theorem cmpD_rkT (a b : Str) : cmpD (rkT a) (rkT b) = cmpC a.cps.toList b.cps.toList := by
  unfold cmpD cmpC
  rw [eqbs_rkT]
  by_cases c : a.cps.toList = b.cps.toList
  · rw [decide_eq_true c, if_pos rfl, if_pos c]
  · rw [decide_eq_false c, if_neg Bool.false_ne_true, if_neg c, lts_rkT a b c]
    by_cases d : ltC a.cps.toList b.cps.toList
    · rw [decide_eq_true d, if_pos rfl, if_pos d]
    · rw [decide_eq_false d, if_neg (by intro z; cases z), if_neg d]
/-! ### the order of paths -/
/-- the path as comes first -/
def ltP : List Str → List Str → Bool
  | [], bs => !bs.isEmpty
  | a :: as, bs => match bs with
    | [] => false
    | b :: bs => if a = b then ltP as bs else decide (ltC a.cps.toList b.cps.toList)
def cmpP (as bs : List Str) : Int := if as = bs then 0 else if ltP as bs = true then -1 else 1
theorem codes_ne {a b : Str} (h : a ≠ b) : a.cps.toList ≠ b.cps.toList := fun q => h (str_ext q)
theorem ltP_irrefl : ∀ as, ltP as as = false
  | [] => rfl
  | a :: as => by rw [ltP, if_pos rfl, ltP_irrefl as]
theorem ltP_asymm : ∀ as bs, ltP as bs = true → ltP bs as = false
  | [], [], h => rfl
  | [], b :: bs, h => rfl
  | a :: as, [], h => by cases h
  | a :: as, b :: bs, h => by
    rw [ltP] at h ⊢
    by_cases c : a = b
    · subst c
      rw [if_pos rfl] at h ⊢
      exact ltP_asymm as bs h
    · rw [if_neg c] at h
      rw [if_neg (fun q => c q.symm)]
      exact decide_eq_false (ltC_asymm (of_decide_eq_true h))
theorem ltP_total : ∀ as bs, as ≠ bs → ltP as bs = true ∨ ltP bs as = true
  | [], [], h => absurd rfl h
  | [], b :: bs, h => .inl rfl
  | a :: as, [], h => .inr rfl
  | a :: as, b :: bs, h => by
    rw [ltP, ltP]
    by_cases c : a = b
    · subst c
      rw [if_pos rfl, if_pos rfl]
      exact ltP_total as bs fun q => h (by rw [q])
    · rw [if_neg c, if_neg (fun q => c q.symm)]
      exact (ltC_total (codes_ne c)).imp decide_eq_true decide_eq_true
theorem cmpP_sign (as bs : List Str) : cmpP as bs = (if ltP bs as = true then (1 : Int) else 0) - (if ltP as bs = true then 1 else 0) := by
  unfold cmpP
  by_cases c : as = bs
  · subst c
    rw [if_pos rfl, ltP_irrefl]
    rfl
  · rw [if_neg c]
    by_cases d : ltP as bs = true
    · rw [if_pos d, if_pos d, ltP_asymm _ _ d]
      rfl
    · have e := (ltP_total as bs c).resolve_left d
      rw [if_neg d, if_neg d, if_pos e]
      rfl
/-- what orders paths -/
def rkP (ks : List Str) : List Dt := ks.map fun k => .tup (rkT k)
theorem eqbs_rkP : ∀ as bs, Dt.eqbs (rkP as) (rkP bs) = decide (as = bs)
  | [], [] => rfl
  | [], b :: bs => rfl
  | a :: as, [] => rfl
  | a :: as, b :: bs => by
    have ih := eqbs_rkP as bs
    show (Dt.eqbs (rkT a) (rkT b) && Dt.eqbs (rkP as) (rkP bs)) = _
    rw [ih, eqbs_rkT, ← Bool.decide_and]
    exact decide_eq_decide.mpr ⟨fun q => by rw [str_ext q.1, q.2], fun q => by cases q; exact ⟨rfl, rfl⟩⟩
theorem lts_rkP : ∀ as bs, Dt.lts? (rkP as) (rkP bs) = some (ltP as bs)
  | [], [] => rfl
  | [], b :: bs => rfl
  | a :: as, [] => rfl
  | a :: as, b :: bs => by
    have ih := lts_rkP as bs
    show (if Dt.eqbs (rkT a) (rkT b) = true then Dt.lts? (rkP as) (rkP bs) else Dt.lts? (rkT a) (rkT b)) = _
    rw [eqbs_rkT, ih, ltP]
    by_cases c : a = b
    · subst c
      rw [decide_eq_true rfl, if_pos rfl, if_pos rfl]
    · rw [decide_eq_false (codes_ne c), if_neg Bool.false_ne_true, if_neg c, lts_rkT a b (codes_ne c)]
theorem cmpD_rkP (as bs : List Str) : cmpD (rkP as) (rkP bs) = cmpP as bs := by
  unfold cmpD cmpP
  rw [eqbs_rkP, lts_rkP]
  by_cases c : as = bs
  · rw [decide_eq_true c, if_pos rfl, if_pos c]
  · rw [decide_eq_false c, if_neg Bool.false_ne_true, if_neg c]
    by_cases d : ltP as bs = true
    · rw [d, if_pos rfl, if_pos rfl]
    · rw [if_neg d, if_neg]
      intro z
      exact d (Option.some.inj z)
theorem deeps_rkP : ∀ ks : List Str, Dt.deeps (rkP ks) ≤ 2
  | [] => by decide
  | k :: ks => by
    have := deeps_rkP ks
    have e : Dt.deep (.tup (rkT k)) = 2 := rfl
    show max (Dt.deep (.tup (rkT k))) (Dt.deeps (rkP ks)) ≤ 2
    omega
/-! ### the same as data of the model -/
def dK (k : Str) : PyData := .tuple [.int k.length, .str k]
theorem alike_dK (a b : Str) : PySem.W.alike (dK a) (dK b) = true := rfl
theorem eqv_dK (a b : Str) : PyData.eqv (dK a) (dK b) = decide (a = b) := by
  show (((a.length : Int) == (b.length : Int)) && ((a == b) && true)) = _
  by_cases c : a = b
  · subst c; simp
  · have e : (a == b) = false := by rw [beq_eq_false_iff_ne]; exact c
    rw [e, decide_eq_false c]
    simp
theorem dataLt_dK (a b : Str) (h : a ≠ b) : PySem.W.dataLt (dK a) (dK b) = decide (ltC a.cps.toList b.cps.toList) := by
  have la := len_codes a
  have lb := len_codes b
  show PySem.W.dataLt (.tuple [.int a.length, .str a]) (.tuple [.int b.length, .str b]) = _
  rw [PySem.W.dataLt_pair rfl rfl, PySem.W.dataLt_int, PySem.W.dataLt_str]
  have e1 : PyData.eqv (.int a.length) (.int b.length) = decide (a.length = b.length) := by
    show ((a.length : Int) == (b.length : Int)) = _
    rw [Bool.beq_eq_decide_eq]
    exact decide_eq_decide.mpr ⟨by omega, by omega⟩
  have e2 : PyData.eqv (.str a) (.str b) = false := by
    show (a == b) = false
    rw [beq_eq_false_iff_ne]
    exact h
  rw [e1, e2, if_neg Bool.false_ne_true]
  by_cases c : a.length = b.length
  · rw [decide_eq_true c, if_pos rfl]
    exact decide_eq_decide.mpr ⟨fun q => .inr ⟨by rw [la, lb]; exact c, q⟩, fun q => Or.elim q (fun z => absurd z (by omega)) (·.2)⟩
  · rw [decide_eq_false c, if_neg Bool.false_ne_true]
    exact decide_eq_decide.mpr ⟨fun q => .inl (by omega), fun q => Or.elim q (fun z => by omega) (fun z => absurd z.1 (by omega))⟩
theorem alike_rows : ∀ as bs : List Str, PySem.W.alikeAll (as.map dK) (bs.map dK) = true
  | [], bs => by cases bs <;> rfl
  | a :: as, [] => rfl
  | a :: as, b :: bs => by
    rw [List.map_cons, List.map_cons, PySem.W.alikeAll, alike_dK, alike_rows as bs]
    rfl
theorem rowLt_rows : ∀ as bs : List Str, PySem.W.dataLt (.list (as.map dK)) (.list (bs.map dK)) = ltP as bs
  | [], [] => rfl
  | [], b :: bs => rfl
  | a :: as, [] => rfl
  | a :: as, b :: bs => by
    have ih := rowLt_rows as bs
    rw [PySem.W.dataLt_list] at ih ⊢
    rw [List.map_cons, List.map_cons, PySem.W.dataLt_cons (alike_dK a b), eqv_dK, ih, ltP]
    by_cases c : a = b
    · rw [decide_eq_true c, if_pos rfl, if_pos c]
    · rw [decide_eq_false c, if_neg Bool.false_ne_true, if_neg c, dataLt_dK a b c]
theorem depth_rows : ∀ as : List Str, PyData.depthAll (as.map dK) ≤ 1
  | [] => by decide
  | a :: as => by
    have := depth_rows as
    rw [List.map_cons, PyData.depthAll]
    have e : PyData.depth (dK a) = 1 := rfl
    omega
theorem depth_list (as : List Str) : PyData.depth (.list (as.map dK)) ≤ 60 := by
  have := depth_rows as
  rw [PyData.depth]
  omega
/-- paths as data -/
def ptD (ks : List Str) : Dt := .tup (ks.map .str)
theorem eqbs_strs : ∀ as bs : List Str, Dt.eqbs (as.map .str) (bs.map .str) = decide (as = bs)
  | [], [] => rfl
  | [], b :: bs => rfl
  | a :: as, [] => rfl
  | a :: as, b :: bs => by
    have ih := eqbs_strs as bs
    show ((a == b) && Dt.eqbs (as.map .str) (bs.map .str)) = _
    rw [ih]
    by_cases c : a = b
    · subst c
      simp
    · have e : (a == b) = false := by rw [beq_eq_false_iff_ne]; exact c
      rw [e, Bool.false_and, decide_eq_false]
      intro q
      cases q
      exact c rfl
theorem DTs.strs_inv {K : PySem.W.Frag} {H : Hp} {vs : List V} {ws : List Str} (h : DTs K H vs (ws.map Dt.str)) : vs = ws.map V.str := by
  induction ws generalizing vs with
  | nil => cases h; rfl
  | cons w ws ih =>
    cases h with
    | cons h1 h2 => cases h1; rw [ih h2]; rfl
/-- rows of a rank hold no list -/
theorem DpAll.rows {K : PySem.W.Frag} {H H' : Hp} (k : ∀ a xs, SqT K H a xs → SqT K H' a xs) : ∀ (ks : List Str) (vs : List V), DpAll K H vs (ks.map dK) → DpAll K H' vs (ks.map dK)
  | [], vs, h => by cases h; exact .nil
  | a :: ks, vs, h => by
    cases h with
    | cons h1 h2 =>
      refine .cons ?_ (DpAll.rows k ks _ h2)
      cases h1 with
      | tup q1 q2 =>
        refine .tup (k _ _ q1) ?_
        cases q2 with
        | cons r1 r2 =>
          cases r1
          cases r2 with
          | cons r3 r4 =>
            cases r3
            cases r4
            exact .cons (.int _) (.cons (.str _) .nil)
end My

namespace My
open PySem L2
theorem kx_dict {X : Cx} {K : PySem.W.Frag} {w : World} (h : X.K = K) (hw : X.w = w) : IxR X (rIxD K w) := by
  subst h
  subst hw
  exact ix_kdict
/-! ### contents -/
inductive Sc where
  | null | fals | tru | num (n : Int) | text (s : Str) | recd
def scD : Sc → List Dt
  | .null => [.str (Str.ofString "null")]
  | .fals => [.str (Str.ofString "false")]
  | .tru => [.str (Str.ofString "true")]
  | .num n => [.str (Str.ofString "number"), .int n]
  | .text s => [.str (Str.ofString "text"), .str s]
  | .recd => [.str (Str.ofString "record")]
/-- what orders contents -/
def scR : Sc → List Dt
  | .null => [.int 0]
  | .fals => [.int 1]
  | .tru => [.int 2]
  | .num n => [.int 3, .int (if n < 0 then -n else n), .int (if n < 0 then 1 else 0)]
  | .text s => [.int 4, .tup (rkT s)]
  | .recd => [.int 5]
/-- within the bounds -/
def scOk : Sc → Prop
  | .num n => -1000000000 ≤ n ∧ n ≤ 1000000000
  | .text s => s.length ≤ 60 ∧ SgT s
  | _ => True
/-- the law's own worth: a number, a number, a text -/
def wA : Sc → Int
  | .null => 0 | .fals => 1 | .tru => 2 | .num _ => 3 | .text _ => 4 | .recd => 5
def wB : Sc → Int
  | .num n => 2 * (if n < 0 then -n else n) - (if n > 0 then 1 else 0)
  | .text s => s.length
  | _ => 0
def wC : Sc → Str
  | .text s => s
  | _ => Str.ofString ""
def wP (c : Sc) : PyData := .tuple [.int (wA c), .int (wB c), .str (wC c)]
def ltS (a b : Sc) : Bool := decide (wA a < wA b) || (decide (wA a = wA b) && (decide (wB a < wB b) || (decide (wB a = wB b) && decide ((wC a).cps.toList < (wC b).cps.toList))))
theorem eqv_int (a b : Int) : PyData.eqv (.int a) (.int b) = decide (a = b) := by
  show (a == b) = _
  rw [Bool.beq_eq_decide_eq]
theorem eqv_str (a b : Str) : PyData.eqv (.str a) (.str b) = decide (a = b) := by
  show (a == b) = _
  rw [Bool.beq_eq_decide_eq]
theorem dataLt_wP (a b : Sc) : PySem.W.dataLt (wP a) (wP b) = ltS a b := by
  unfold wP ltS
  rw [PySem.W.dataLt_tuple, PySem.W.dataLt_cons rfl, PySem.W.dataLt_cons rfl, PySem.W.dataLt_cons rfl, eqv_int, eqv_int, eqv_str, PySem.W.dataLt_int, PySem.W.dataLt_int, PySem.W.dataLt_str]
  by_cases h1 : wA a = wA b
  · rw [decide_eq_true h1, if_pos rfl, decide_eq_false (p := wA a < wA b) (by omega)]
    by_cases h2 : wB a = wB b
    · rw [decide_eq_true h2, if_pos rfl, decide_eq_false (p := wB a < wB b) (by omega)]
      by_cases h3 : wC a = wC b
      · rw [decide_eq_true h3, if_pos rfl, h3, decide_eq_false (List.lt_irrefl _)]
        rfl
      · rw [decide_eq_false h3, if_neg Bool.false_ne_true]
        simp
    · rw [decide_eq_false h2, if_neg Bool.false_ne_true]
      simp
  · rw [decide_eq_false h1, if_neg Bool.false_ne_true]
    simp
theorem alike_wP (a b : Sc) : PySem.W.alike (wP a) (wP b) = true := rfl
/-- the ranks are equal for the same content alone -/
theorem eqbs_scR (a b : Sc) : Dt.eqbs (scR a) (scR b) = true ↔ (wA a = wA b ∧ wB a = wB b ∧ wC a = wC b) := by
  cases a <;> cases b <;> simp [scR, Dt.eqbs, Dt.eqb, wA, wB, wC]
  · rename_i x y
    by_cases h1 : x < 0 <;> by_cases h2 : y < 0 <;> by_cases h3 : 0 < x <;> by_cases h4 : 0 < y <;> simp [h1, h2, h3, h4] <;> omega
  · rename_i x y
    have e := eqbs_rkT x y
    unfold rkT at e ⊢
    rw [e, decide_eq_true_iff]
    exact ⟨fun q => by rw [str_ext q]; exact ⟨rfl, rfl⟩, fun q => by rw [q.2]⟩
theorem lts_scR (a b : Sc) : Dt.lts? (scR a) (scR b) = some (ltS a b) := by
  cases a <;> cases b <;> simp [scR, Dt.lts?, Dt.lt?, Dt.eqbs, Dt.eqb, ltS, wA, wB, wC]
  · rename_i x y
    by_cases h1 : x < 0 <;> by_cases h2 : y < 0 <;> by_cases h3 : 0 < x <;> by_cases h4 : 0 < y <;> simp [h1, h2, h3, h4] <;> (try split) <;> (try simp) <;> (try omega)
    all_goals
      rw [Bool.eq_iff_iff]
      simp
      omega
  · rename_i x y
    have la := len_codes x
    have lb := len_codes y
    rw [eqbs_rkT]
    by_cases c : x.cps.toList = y.cps.toList
    · have e := str_ext c
      subst e
      rw [decide_eq_true rfl, if_pos rfl, decide_eq_false (Nat.lt_irrefl _), decide_eq_false (Array.lt_irrefl _)]
      simp
    · rw [decide_eq_false c, if_neg Bool.false_ne_true, lts_rkT x y c]
      congr 1
      rw [Bool.eq_iff_iff]
      simp only [decide_eq_true_eq, Bool.or_eq_true, Bool.and_eq_true]
      unfold ltC
      rw [la, lb]
      constructor
      · rintro (h | h)
        · exact .inl h
        · exact .inr ⟨decide_eq_true (congrArg Int.ofNat h.1), h.2⟩
      · rintro (h | h)
        · exact .inl h
        · exact .inr ⟨Int.ofNat.inj (of_decide_eq_true h.1), h.2⟩
/-! ### the order of contents -/
theorem ltS_irrefl (a b : Sc) (h : wA a = wA b ∧ wB a = wB b ∧ wC a = wC b) : ltS a b = false := by
  unfold ltS
  rw [h.1, h.2.1, h.2.2]
  simp
theorem ltS_asymm {a b : Sc} (h : ltS a b = true) : ltS b a = false := by
  unfold ltS at h ⊢
  simp only [Bool.or_eq_true, Bool.and_eq_true, decide_eq_true_eq] at h
  rw [Bool.eq_false_iff]
  intro k
  simp only [Bool.or_eq_true, Bool.and_eq_true, decide_eq_true_eq] at k
  rcases h with h | ⟨h, h | ⟨h', h''⟩⟩ <;> rcases k with k | ⟨k, k | ⟨k', k''⟩⟩ <;> first | omega | exact List.lt_asymm h'' k''
theorem ltS_iff (a b : Sc) : ltS a b = true ↔ (wA a < wA b ∨ (wA a = wA b ∧ (wB a < wB b ∨ (wB a = wB b ∧ (wC a).cps.toList < (wC b).cps.toList)))) := by
  unfold ltS
  rw [Bool.or_eq_true, Bool.and_eq_true, Bool.or_eq_true, Bool.and_eq_true, decide_eq_true_iff, decide_eq_true_iff, decide_eq_true_iff, decide_eq_true_iff, decide_eq_true_iff]
theorem ltS_total {a b : Sc} (h : ¬ (wA a = wA b ∧ wB a = wB b ∧ wC a = wC b)) (k : ltS a b = false) : ltS b a = true := by
  have k2 : ¬ (wA a < wA b ∨ (wA a = wA b ∧ (wB a < wB b ∨ (wB a = wB b ∧ (wC a).cps.toList < (wC b).cps.toList)))) := fun q => by
    rw [(ltS_iff a b).mpr q] at k
    cases k
  refine (ltS_iff b a).mpr ?_
  by_cases h1 : wA a = wA b
  · by_cases h2 : wB a = wB b
    · have h3 : wC a ≠ wC b := fun q => h ⟨h1, h2, q⟩
      refine .inr ⟨h1.symm, .inr ⟨h2.symm, ?_⟩⟩
      have n : ¬ (wC a).cps.toList < (wC b).cps.toList := fun q => k2 (.inr ⟨h1, .inr ⟨h2, q⟩⟩)
      rcases List.le_iff_lt_or_eq.mp (List.not_lt.mp n) with d | d
      · exact d
      · exact absurd (str_ext d).symm h3
    · refine .inr ⟨h1.symm, .inl ?_⟩
      have : ¬ wB a < wB b := fun q => k2 (.inr ⟨h1, .inl q⟩)
      omega
  · refine .inl ?_
    have : ¬ wA a < wA b := fun q => k2 (.inl q)
    omega
def cmpSc (a b : Sc) : Int := (if ltS b a = true then (1 : Int) else 0) - (if ltS a b = true then 1 else 0)
theorem cmpD_scR (a b : Sc) : cmpD (scR a) (scR b) = cmpSc a b := by
  unfold cmpD cmpSc
  rw [lts_scR]
  by_cases c : Dt.eqbs (scR a) (scR b) = true
  · have h := (eqbs_scR a b).mp c
    rw [if_pos c, ltS_irrefl a b h, ltS_irrefl b a ⟨h.1.symm, h.2.1.symm, h.2.2.symm⟩]
    rfl
  · have h : ¬ (wA a = wA b ∧ wB a = wB b ∧ wC a = wC b) := fun q => c ((eqbs_scR a b).mpr q)
    rw [if_neg c]
    cases d : ltS a b with
    | true =>
      rw [if_pos rfl, ltS_asymm d]
      rfl
    | false =>
      rw [if_neg (by intro z; cases z), ltS_total h d]
      rfl
theorem deeps_scR (a : Sc) : Dt.deeps (scR a) ≤ 2 := by
  cases a with
  | num n => show 1 ≤ 2; decide
  | text s => show 2 ≤ 2; decide
  | _ => decide
theorem scD_same (a : Sc) : (Dt.tup (scD a)).deep ≤ 40 ∧ (Dt.tup (scD a)).fits = true := by
  cases a with
  | num n => exact ⟨by show 2 ≤ 40; decide, rfl⟩
  | text s => exact ⟨by show 2 ≤ 40; decide, rfl⟩
  | _ => exact ⟨by decide, by decide⟩
/-- the word of a content -/
def scW : Sc → Str
  | .null => Str.ofString "null"
  | .fals => Str.ofString "false"
  | .tru => Str.ofString "true"
  | .num _ => Str.ofString "number"
  | .text _ => Str.ofString "text"
  | .recd => Str.ofString "record"
/-- a content stands as a tuple whose first item is its word -/
theorem sc_tup {K : PySem.W.Frag} {H : Hp} {v : V} {c : Sc} (h : DT K H v (.tup (scD c))) : ∃ a xs, v = .ref a ∧ SqT K H a xs ∧ xs[0]? = some (.str (scW c)) ∧ (∀ n, c = .num n → xs[1]? = some (.int n)) ∧ (∀ s, c = .text s → xs[1]? = some (.str s)) := by
  cases h with
  | @tup a xs _ h1 h2 =>
  refine ⟨a, xs, rfl, h1, ?_⟩
  cases c with
  | null => cases h2 with | cons q r => cases q; exact ⟨rfl, (fun n e => by cases e), (fun n e => by cases e)⟩
  | fals => cases h2 with | cons q r => cases q; exact ⟨rfl, (fun n e => by cases e), (fun n e => by cases e)⟩
  | tru => cases h2 with | cons q r => cases q; exact ⟨rfl, (fun n e => by cases e), (fun n e => by cases e)⟩
  | num m => cases h2 with | cons q r => cases q; cases r with | cons q2 r2 => cases q2; exact ⟨rfl, (fun n e => by cases e; rfl), (fun n e => by cases e)⟩
  | text s => cases h2 with | cons q r => cases q; cases r with | cons q2 r2 => cases q2; exact ⟨rfl, (fun n e => by cases e), (fun n e => by cases e; rfl)⟩
  | recd => cases h2 with | cons q r => cases q; exact ⟨rfl, (fun n e => by cases e), (fun n e => by cases e)⟩
end My

namespace My
open PySem L2
/-! ### numbers as texts -/
theorem ofString_app (a b : String) : Str.ofString (a ++ b) = Str.ofString a ++ Str.ofString b := by
  apply str_ext
  rw [app_codes, Str.ofString_eq_toList, Str.ofString_eq_toList, Str.ofString_eq_toList]
  simp
theorem num_nat_len : ∀ (k n : Nat), n < 10 ^ (k + 1) → (Str.ofString (toString (n : Int))).length ≤ k + 1
  | 0, n, h => by
    have e : (Str.ofString (toString (n : Int))).cps.toList = [48 + n] := by
      have z : TL.tl (Str.ofString (toString (n : Int))) = [48 + n] := by rw [TL.tl_num, TL.numL_lt (by omega)]
      exact z
    rw [← len_codes, e]
    exact Nat.le_refl _
  | k + 1, n, h => by
    by_cases c : n < 10
    · have e : (Str.ofString (toString (n : Int))).cps.toList = [48 + n] := by
        have z : TL.tl (Str.ofString (toString (n : Int))) = [48 + n] := by rw [TL.tl_num, TL.numL_lt c]
        exact z
      rw [← len_codes, e]
      exact Nat.succ_le_succ (Nat.zero_le _)
    · have ih := num_nat_len k (n / 10) (by rw [Nat.div_lt_iff_lt_mul (by decide)]; rw [Nat.pow_succ] at h; exact h)
      have e1 : (Str.ofString (toString (n : Int))).cps.toList = TL.numL n := TL.tl_num n
      have e2 : (Str.ofString (toString ((n / 10 : Nat) : Int))).cps.toList = TL.numL (n / 10) := TL.tl_num (n / 10)
      rw [← len_codes, e2] at ih
      rw [← len_codes, e1, TL.numL_step (by omega), List.length_append, List.length_singleton]
      omega
theorem num_len {n : Int} (h : n.natAbs ≤ 9999999999) : (Str.ofString (toString n)).length ≤ 11 := by
  rcases n with m | m
  · have := num_nat_len 9 m (by show m < 10 ^ 10; have : (Int.ofNat m).natAbs = m := rfl; omega)
    exact Nat.le_trans this (by decide)
  · have e : toString (Int.negSucc m) = "-" ++ toString (m + 1) := rfl
    have k := num_nat_len 9 (m + 1) (by show m + 1 < 10 ^ 10; have : (Int.negSucc m).natAbs = m + 1 := rfl; omega)
    have e3 : toString ((m + 1 : Nat) : Int) = toString (m + 1) := rfl
    rw [e3] at k
    rw [e, ofString_app, app_len]
    have : (Str.ofString "-").length = 1 := by decide +kernel
    omega
end My

namespace My
open PySem L2
/-! ### sorted -/
theorem each_sort {P : Program} {w : World} {X : Cx} {pins : List (Addr × Obj)} {σ : St} {H : Hp} {s : Shared} (I : Inv X pins σ H s) {β : Type} {enc : β → PyData} : ∀ (bs : List β) (xs : List V) (us : List Value), DpAll X.K H xs (bs.map enc) → Vals xs us →
    PySem.W.EachIs (fun (u : Value) (b : V × β) => RelV b.1 u) us (xs.zip bs) ∧ PySem.W.EachIs (fun (u : Value) (b : V × β) => ∃ as, Reads s.heap u (enc b.2) as) us (xs.zip bs)
  | [], xs, us, d, r => by
    cases d
    cases r
    exact ⟨.nil, .nil⟩
  | b :: bs, xs, us, d, r => by
    cases d with
    | cons d1 d2 =>
    cases r with
    | cons r1 r2 =>
      obtain ⟨i1, i2⟩ := each_sort (P := P) (w := w) I bs _ _ d2 r2
      exact ⟨.cons r1 i1, .cons (L2.Dp.reads I _ _ _ d1 r1) i2⟩
theorem vals_out {β : Type} : ∀ {us : List Value} {zs : List (V × β)}, PySem.W.EachIs (fun (u : Value) (b : V × β) => RelV b.1 u) us zs → Vals (zs.map (·.1)) us
  | _, _, .nil => .nil
  | _, _, .cons h t => .cons h (vals_out t)
/-- sorted(xs): each item of xs stands for an item of bs -/
def rSortB {β : Type} (enc : β → PyData) (K : PySem.W.Frag) : List V → Hp → VK → Prop := fun vs H Q => ∃ (a : Addr) (xs : List V) (bs : List β), vs = [.ref a] ∧ SqL K H a xs ∧ DpAll K H xs (bs.map enc) ∧ PySem.W.AllAlike (bs.map enc) ∧ PySem.W.Sortable (bs.map enc) ∧ (∀ b ∈ bs, (enc b).depth ≤ 60) ∧
  ∀ (zs : List (V × β)) p, zs.Perm (xs.zip bs) → zs.map (·.2) = bs.mergeSort (PySem.W.dataLe false enc) → H p = none → Q (.ref p) (upd H p (.lst (zs.map (·.1))))
theorem dpAll_len {K : PySem.W.Frag} {H : Hp} : ∀ {xs : List V} {ds : List PyData}, DpAll K H xs ds → xs.length = ds.length
  | _, [], h => by cases h; rfl
  | _, d :: ds, h => by
    cases h with
    | cons _ h2 => rw [List.length_cons, List.length_cons, dpAll_len h2]
theorem cr_sortB {X : Cx} {K : PySem.W.Frag} {β : Type} {enc : β → PyData} (hK : X.K = K) (hu : X.A.units + 64 < cLine) : CallR X (.builtin "sorted") (rSortB enc K) := by
  subst hK
  intro pins s σ H vs us Q I r h
  obtain ⟨a, xs, bs, rfl, hs, hd, hal, hk, hdep, q⟩ := h
  obtain ⟨its, rv, hl, hz⟩ := I.list hs
  rw [Vals.ref1 r]
  have ln : xs.length = bs.length := by rw [dpAll_len hd, List.length_map]
  obtain ⟨e1, e2⟩ := each_sort (P := X.prog) (w := X.w) I bs xs its hd rv
  have em : (xs.zip bs).map (fun z => enc z.2) = bs.map enc := by
    have e0 : (xs.zip bs).map (fun z => enc z.2) = ((xs.zip bs).map Prod.snd).map enc := by rw [List.map_map]; rfl
    rw [e0, List.map_snd_zip (by omega)]
  refine PySem.W.sorted_data (enc := fun z : V × β => enc z.2) (bs := xs.zip bs) hl.isList e1 e2 (by rw [em]; exact hal) (by rw [em]; exact hk) (by rw [List.length_zip]; have := Nat.min_le_left xs.length bs.length; omega) (fun b hb => ?_) fun out ho eo => ?_
  · have hm : b.2 ∈ bs := (List.of_mem_zip hb).2
    have := hdep _ hm
    omega
  · obtain ⟨ep, he'⟩ := PyProof.Rows.sortedAll_at s.heap its out.toArray
    have hp : ((xs.zip bs).mergeSort (PySem.W.dataLe false fun z : V × β => enc z.2)).Perm (xs.zip bs) := List.mergeSort_perm _ _
    have hlen : (((xs.zip bs).mergeSort (PySem.W.dataLe false fun z : V × β => enc z.2)).map (·.1)).length ≤ sizeLine := by
      rw [List.length_map, hp.length_eq, List.length_zip]
      have := Nat.min_le_left xs.length bs.length
      omega
    refine ⟨.ref _, upd H (s.heap.objs.size + 1) (.lst (((xs.zip bs).mergeSort (PySem.W.dataLe false fun z : V × β => enc z.2)).map (·.1))), I.laid (t' := s.toks) (fun _ _ => PyProof.Rows.sortedAll_old) (Nat.le_succ _) ⟨hlen, out, ep, vals_out eo, he'⟩, rfl, q _ _ hp ?_ (I.hok.fresh (Nat.le_succ _))⟩
    have e3 := List.map_mergeSort (r := PySem.W.dataLe false fun z : V × β => enc z.2) (s := PySem.W.dataLe false enc) (f := Prod.snd) (l := xs.zip bs) (fun _ _ _ _ => rfl)
    rw [List.map_snd_zip (by omega)] at e3
    exact e3
theorem units1 {n : Nat} (h : n + 64 < cLine) : n + 1 < cLine := by omega
/-! ### tables of paths -/
abbrev Fl := List (List Str × Sc)
abbrev kP (p : List Str) : List Key := p.map Sum.inr
theorem kP_V (p : List Str) : (kP p).map kV = p.map V.str := by
  unfold kP
  rw [List.map_map]
  rfl
theorem kP_inj {p q : List Str} : kP p = kP q ↔ p = q := ⟨fun h => by
  have e : (kP p).map kV = (kP q).map kV := by rw [h]
  rw [kP_V, kP_V] at e
  exact (List.map_inj_right (fun a b c => by cases c; rfl)).mp e, fun h => by rw [h]⟩
inductive FlK (K : PySem.W.Frag) (H : Hp) : List (List Key × V) → Fl → Prop
  | nil : FlK K H [] []
  | cons {v : V} {p : List Str} {c : Sc} {kvs : List (List Key × V)} {fl : Fl} : DT K H v (.tup (scD c)) → FlK K H kvs fl → FlK K H ((kP p, v) :: kvs) ((p, c) :: fl)
def getF (fl : Fl) (p : List Str) : Option Sc := (fl.find? fun x => decide (x.1 = p)).map (·.2)
def putF (fl : Fl) (p : List Str) (c : Sc) : Fl := if (fl.any fun x => decide (x.1 = p)) = true then fl.map (fun x => if x.1 = p then (x.1, c) else x) else fl ++ [(p, c)]
def cutF (fl : Fl) (p : List Str) : Fl := fl.filter fun x => !decide (x.1.take p.length = p)
section
variable {K : PySem.W.Frag} {H H' : Hp} {kvs : List (List Key × V)} {fl : Fl}
theorem FlK.mono (k : ∀ a xs, SqT K H a xs → SqT K H' a xs) (h : FlK K H kvs fl) : FlK K H' kvs fl := by
  induction h with
  | nil => exact .nil
  | cons h1 _ ih => exact .cons (DT.mono k _ _ h1) ih
theorem FlK.same (h : FlK K H kvs fl) (e : Same H H') : FlK K H' kvs fl := h.mono fun _ _ q => e.seqT q
theorem FlK.go {t : Addr} (h : FlK K H kvs fl) (hT : Tape H t) (e : Sm t H H') : FlK K H' kvs fl := h.mono fun _ _ q => seqT_go hT e q
theorem FlK.len (h : FlK K H kvs fl) : kvs.length = fl.length := by
  induction h with
  | nil => rfl
  | cons _ _ ih => rw [List.length_cons, List.length_cons, ih]
theorem FlK.at (h : FlK K H kvs fl) {i : Nat} {k : List Key} {v : V} (e : kvs[i]? = some (k, v)) : ∃ p c, fl[i]? = some (p, c) ∧ k = kP p ∧ DT K H v (.tup (scD c)) := by
  induction h generalizing i with
  | nil => simp at e
  | cons h1 _ ih =>
    cases i with
    | zero =>
      have e' := Option.some.inj e
      cases e'
      exact ⟨_, _, rfl, rfl, h1⟩
    | succ i => exact ih (by simpa using e)
theorem FlK.get (h : FlK K H kvs fl) (p : List Str) : (valV kvs (kP p) = none ∧ getF fl p = none) ∨ ∃ v c, valV kvs (kP p) = some v ∧ getF fl p = some c ∧ DT K H v (.tup (scD c)) := by
  induction h with
  | nil => exact .inl ⟨rfl, rfl⟩
  | @cons v q c kvs fl h1 _ ih =>
    by_cases e : q = p
    · subst e
      exact .inr ⟨v, c, valV_pos rfl, by simp [getF], h1⟩
    · have e1 : valV ((kP q, v) :: kvs) (kP p) = valV kvs (kP p) := valV_neg fun z => e (kP_inj.mp z)
      have e2 : getF ((q, c) :: fl) p = getF fl p := by simp [getF, e]
      rw [e1, e2]
      exact ih
theorem FlK.any (h : FlK K H kvs fl) (p : List Str) : (kvs.any fun kv => decide (kv.1 = kP p)) = fl.any fun x => decide (x.1 = p) := by
  induction h with
  | nil => rfl
  | @cons v q c kvs fl h1 _ ih =>
    rw [List.any_cons, List.any_cons, ih]
    congr 1
    exact decide_eq_decide.mpr kP_inj
theorem FlK.app {kvs' : List (List Key × V)} {fl' : Fl} (h : FlK K H kvs fl) (k : FlK K H kvs' fl') : FlK K H (kvs ++ kvs') (fl ++ fl') := by
  induction h with
  | nil => exact k
  | cons h1 _ ih => exact .cons h1 ih
theorem FlK.put (h : FlK K H kvs fl) (p : List Str) {v : V} {c : Sc} (d : DT K H v (.tup (scD c))) : FlK K H (putK kvs (kP p) v) (putF fl p c) := by
  unfold putK putF
  rw [h.any p]
  by_cases e : (fl.any fun x => decide (x.1 = p)) = true
  · rw [if_pos e, if_pos e]
    clear e
    induction h with
    | nil => exact .nil
    | @cons u q c' kvs fl h1 _ ih =>
      rw [List.map_cons, List.map_cons]
      by_cases e : q = p
      · subst e
        rw [if_pos rfl, if_pos rfl]
        exact .cons d ih
      · rw [if_neg e, if_neg (fun z => e (kP_inj.mp z))]
        exact .cons h1 ih
  · rw [if_neg e, if_neg e]
    exact h.app (.cons d .nil)
end
/-! what a table holds -/
theorem getF_cons (q : List Str) (c : Sc) (fl : Fl) (p : List Str) : getF ((q, c) :: fl) p = if q = p then some c else getF fl p := by
  unfold getF
  by_cases e : q = p
  · simp [e]
  · simp [e]
theorem getF_mem {fl : Fl} {p : List Str} {c : Sc} (h : getF fl p = some c) : (p, c) ∈ fl := by
  induction fl with
  | nil => cases h
  | cons x fl ih =>
    obtain ⟨q, d⟩ := x
    rw [getF_cons] at h
    by_cases e : q = p
    · rw [if_pos e] at h
      cases h
      subst e
      exact List.mem_cons_self
    · rw [if_neg e] at h
      exact List.mem_cons_of_mem _ (ih h)
theorem mem_getF {fl : Fl} {p : List Str} {c : Sc} (h : (p, c) ∈ fl) : ∃ d, getF fl p = some d := by
  induction fl with
  | nil => cases h
  | cons x fl ih =>
    obtain ⟨q, d⟩ := x
    rw [getF_cons]
    by_cases e : q = p
    · exact ⟨d, if_pos e⟩
    · rw [if_neg e]
      refine ih ?_
      rcases List.mem_cons.mp h with h | h
      · cases h; exact absurd rfl e
      · exact h
theorem getF_nd {fl : Fl} (nd : (fl.map (·.1)).Nodup) {p : List Str} {c : Sc} (h : (p, c) ∈ fl) : getF fl p = some c := by
  induction fl with
  | nil => cases h
  | cons x fl ih =>
    obtain ⟨q, d⟩ := x
    rw [List.map_cons, List.nodup_cons] at nd
    rw [getF_cons]
    rcases List.mem_cons.mp h with h | h
    · cases h
      exact if_pos rfl
    · rw [if_neg (fun z => nd.1 (by rw [show (q, d).1 = p from z]; exact List.mem_map.mpr ⟨_, h, rfl⟩))]
      exact ih nd.2 h
theorem getF_put (fl : Fl) (p q : List Str) (c : Sc) : getF (putF fl p c) q = if q = p then some c else getF fl q := by
  have hm : ∀ fl : Fl, getF (fl.map (fun x => if x.1 = p then (x.1, c) else x)) q = if q = p then (getF fl q).map fun _ => c else getF fl q := by
    intro fl
    induction fl with
    | nil => by_cases e : q = p <;> simp [getF]
    | cons x fl ih =>
      obtain ⟨r, d⟩ := x
      rw [List.map_cons]
      by_cases e : r = p
      · rw [if_pos e, getF_cons, getF_cons, ih]
        by_cases e2 : r = q
        · have e3 : q = p := e2.symm.trans e
          rw [if_pos e2, if_pos e2, if_pos e3]
          rfl
        · rw [if_neg e2, if_neg e2]
      · rw [if_neg e, getF_cons, getF_cons, ih]
        by_cases e2 : r = q
        · have e3 : ¬ q = p := fun z => e (e2.trans z)
          rw [if_pos e2, if_pos e2, if_neg e3]
        · rw [if_neg e2, if_neg e2]
  have ha : ∀ fl : Fl, (fl.any fun x => decide (x.1 = p)) = (getF fl p).isSome := by
    intro fl
    induction fl with
    | nil => rfl
    | cons x fl ih =>
      obtain ⟨r, d⟩ := x
      rw [List.any_cons, getF_cons, ih]
      by_cases e : r = p <;> simp [e]
  have hs : ∀ fl : Fl, getF (fl ++ [(p, c)]) q = match getF fl q with | some d => some d | none => if p = q then some c else none := by
    intro fl
    induction fl with
    | nil => rw [List.nil_append, getF_cons]; rfl
    | cons x fl ih =>
      obtain ⟨r, d⟩ := x
      rw [List.cons_append, getF_cons, getF_cons, ih]
      by_cases e : r = q
      · rw [if_pos e, if_pos e]
      · rw [if_neg e, if_neg e]
  unfold putF
  by_cases e : (fl.any fun x => decide (x.1 = p)) = true
  · rw [if_pos e, hm]
    by_cases e2 : q = p
    · subst e2
      rw [if_pos rfl, if_pos rfl]
      rw [ha] at e
      obtain ⟨d, hd⟩ := Option.isSome_iff_exists.mp e
      rw [hd]
      rfl
    · rw [if_neg e2, if_neg e2]
  · rw [if_neg e, hs]
    by_cases e2 : q = p
    · subst e2
      rw [if_pos rfl]
      rw [ha] at e
      cases hg : getF fl q with
      | none =>
        exact (if_pos rfl).symm
      | some d => rw [hg] at e; exact absurd rfl e
    · rw [if_neg e2]
      cases hg : getF fl q with
      | none => exact if_neg fun z => e2 z.symm
      | some d => rfl
theorem getF_cut (fl : Fl) (p q : List Str) : getF (cutF fl p) q = if q.take p.length = p then none else getF fl q := by
  unfold cutF
  induction fl with
  | nil => by_cases e : q.take p.length = p <;> simp [getF]
  | cons x fl ih =>
    obtain ⟨r, d⟩ := x
    by_cases e : r.take p.length = p
    · rw [List.filter_cons_of_neg (by simp [e]), ih, getF_cons]
      by_cases e2 : r = q
      · subst e2
        rw [if_pos e, if_pos e]
      · rw [if_neg e2]
    · rw [List.filter_cons_of_pos (by simp [e]), getF_cons, ih, getF_cons]
      by_cases e2 : r = q
      · subst e2
        rw [if_pos rfl, if_neg e, if_pos rfl]
      · rw [if_neg e2, if_neg e2]
theorem nd_put {fl : Fl} (h : (fl.map (·.1)).Nodup) (p : List Str) (c : Sc) : ((putF fl p c).map (·.1)).Nodup := by
  unfold putF
  by_cases e : (fl.any fun x => decide (x.1 = p)) = true
  · rw [if_pos e, List.map_map]
    have e2 : (fun x : List Str × Sc => x.1) ∘ (fun x : List Str × Sc => if x.1 = p then (x.1, c) else x) = fun x => x.1 := by
      funext x
      by_cases z : x.1 = p
      · simp [z]
      · simp [z]
    rw [e2]
    exact h
  · rw [if_neg e, List.map_append, List.nodup_append]
    refine ⟨h, by simp, fun a ha b hb => ?_⟩
    have hb' : b = p := by simpa using hb
    subst hb'
    intro z
    subst z
    obtain ⟨x, hx, rfl⟩ := List.mem_map.mp ha
    exact e (List.any_eq_true.mpr ⟨x, hx, decide_eq_true rfl⟩)
theorem nd_cut {fl : Fl} (h : (fl.map (·.1)).Nodup) (p : List Str) : ((cutF fl p).map (·.1)).Nodup := h.sublist (List.Sublist.map _ List.filter_sublist)
theorem len_put (fl : Fl) (p : List Str) (c : Sc) : (putF fl p c).length ≤ fl.length + 1 := by
  unfold putF
  by_cases e : (fl.any fun x => decide (x.1 = p)) = true
  · rw [if_pos e, List.length_map]; omega
  · rw [if_neg e, List.length_append]; exact Nat.le_refl _
theorem len_cut (fl : Fl) (p : List Str) : (cutF fl p).length ≤ fl.length := List.length_filter_le _ _
/-- the path is set: what is above is a record, what was there is gone -/
def upsF (fl : Fl) (p : List Str) (n : Nat) : Fl := (List.range n).foldl (fun f i => putF f (p.take (i + 1)) .recd) fl
def setF (fl : Fl) (p : List Str) (c : Sc) : Fl := putF (upsF (cutF fl p) p (p.length - 1)) p c
theorem upsF_succ (fl : Fl) (p : List Str) (n : Nat) : upsF fl p (n + 1) = putF (upsF fl p n) (p.take (n + 1)) .recd := by
  unfold upsF
  rw [List.range_succ, List.foldl_append]
  rfl
theorem len_ups (fl : Fl) (p : List Str) (n : Nat) : (upsF fl p n).length ≤ fl.length + n := by
  induction n with
  | zero => exact Nat.le_refl _
  | succ n ih =>
    rw [upsF_succ]
    have := len_put (upsF fl p n) (p.take (n + 1)) .recd
    omega
theorem nd_ups {fl : Fl} (h : (fl.map (·.1)).Nodup) (p : List Str) (n : Nat) : ((upsF fl p n).map (·.1)).Nodup := by
  induction n with
  | zero => exact h
  | succ n ih =>
    rw [upsF_succ]
    exact nd_put ih _ _
theorem getF_ups (fl : Fl) (p q : List Str) (n : Nat) (hn : n ≤ p.length) : getF (upsF fl p n) q = if 1 ≤ q.length ∧ q.length ≤ n ∧ q = p.take q.length then some .recd else getF fl q := by
  induction n with
  | zero =>
    rw [if_neg (fun h => by omega)]
    rfl
  | succ n ih =>
    rw [upsF_succ, getF_put, ih (by omega)]
    have lt : (p.take (n + 1)).length = n + 1 := by rw [List.length_take]; omega
    by_cases e : q = p.take (n + 1)
    · rw [if_pos e, if_pos]
      have lq : q.length = n + 1 := by rw [e, lt]
      exact ⟨by omega, by omega, by rw [lq]; exact e⟩
    · rw [if_neg e]
      by_cases c : 1 ≤ q.length ∧ q.length ≤ n ∧ q = p.take q.length
      · rw [if_pos c, if_pos ⟨c.1, by omega, c.2.2⟩]
      · rw [if_neg c, if_neg]
        rintro ⟨h1, h2, h3⟩
        by_cases z : q.length = n + 1
        · rw [z] at h3
          exact e h3
        · exact c ⟨h1, by omega, h3⟩
theorem getF_set (fl : Fl) (p q : List Str) (c : Sc) : getF (setF fl p c) q = if q = p then some c else if 1 ≤ q.length ∧ q.length < p.length ∧ q = p.take q.length then some .recd else if q.take p.length = p then none else getF fl q := by
  unfold setF
  rw [getF_put, getF_ups _ _ _ _ (by omega), getF_cut]
  by_cases e : q = p
  · rw [if_pos e, if_pos e]
  · rw [if_neg e, if_neg e]
    by_cases z : 1 ≤ q.length ∧ q.length < p.length ∧ q = p.take q.length
    · rw [if_pos z, if_pos ⟨z.1, by omega, z.2.2⟩]
    · rw [if_neg z, if_neg (fun y => z ⟨y.1, by omega, y.2.2⟩)]
/-- a table of a document -/
structure Wf (ws : List Str) (fl : Fl) : Prop where
  nd : (fl.map (·.1)).Nodup
  pa : ∀ p c, getF fl p = some c → 1 ≤ p.length ∧ p.length ≤ 5 ∧ (∀ k ∈ p, k ∈ ws) ∧ scOk c
  up : ∀ p c, getF fl p = some c → ∀ j, 1 ≤ j → j < p.length → getF fl (p.take j) = some .recd
theorem Wf.nil (ws : List Str) : Wf ws [] := ⟨List.nodup_nil, (fun _ _ h => by cases h), (fun _ _ h => by cases h)⟩
theorem take_take_le {p : List Str} {i j : Nat} (h : j ≤ i) : (p.take i).take j = p.take j := by rw [List.take_take, Nat.min_eq_left h]
theorem Wf.set {ws : List Str} {fl : Fl} (h : Wf ws fl) {p : List Str} {c : Sc} (h1 : 1 ≤ p.length) (h5 : p.length ≤ 5) (hk : ∀ k ∈ p, k ∈ ws) (hc : scOk c) : Wf ws (setF fl p c) := by
  refine ⟨nd_put (nd_ups (nd_cut h.nd _) _ _) _ _, fun q d hq => ?_, fun q d hq j j1 j2 => ?_⟩
  · rw [getF_set] at hq
    by_cases e : q = p
    · rw [if_pos e] at hq
      cases hq
      rw [e]
      exact ⟨h1, h5, hk, hc⟩
    · rw [if_neg e] at hq
      by_cases z : 1 ≤ q.length ∧ q.length < p.length ∧ q = p.take q.length
      · rw [if_pos z] at hq
        cases hq
        exact ⟨z.1, by omega, fun k hk' => hk k (by rw [z.2.2] at hk'; exact List.mem_of_mem_take hk'), trivial⟩
      · rw [if_neg z] at hq
        by_cases y : q.take p.length = p
        · rw [if_pos y] at hq; cases hq
        · rw [if_neg y] at hq
          exact h.pa q d hq
  · have lt : (q.take j).length = j := by rw [List.length_take]; omega
    rw [getF_set] at hq ⊢
    by_cases e : q = p
    · subst e
      rw [if_neg (fun z => by have := congrArg List.length z; omega), if_pos ⟨by omega, by omega, by rw [lt]⟩]
    · rw [if_neg e] at hq
      by_cases z : 1 ≤ q.length ∧ q.length < p.length ∧ q = p.take q.length
      · have e3 : q.take j = (p.take q.length).take j := by rw [← z.2.2]
        have e4 : q.take j = p.take j := by rw [e3, take_take_le (by omega)]
        have hw : 1 ≤ (q.take j).length ∧ (q.take j).length < p.length ∧ q.take j = p.take (q.take j).length := ⟨by omega, by omega, by rw [lt]; exact e4⟩
        rw [if_neg (fun y => by have := congrArg List.length y; omega), if_pos hw]
      · rw [if_neg z] at hq
        by_cases y : q.take p.length = p
        · rw [if_pos y] at hq; cases hq
        · rw [if_neg y] at hq
          have up := h.up q d hq j j1 j2
          have n1 : ¬ q.take j = p := fun a => y (by
            have l2 := congrArg List.length a
            rw [lt] at l2
            rw [← l2]
            exact a)
          have n2 : ¬ (q.take j).take p.length = p := fun a => by
            have l2 := congrArg List.length a
            rw [List.length_take, lt] at l2
            refine y ?_
            have : (q.take j).take p.length = q.take p.length := take_take_le (by omega)
            rw [← this]
            exact a
          rw [if_neg n1]
          by_cases w : 1 ≤ (q.take j).length ∧ (q.take j).length < p.length ∧ q.take j = p.take (q.take j).length
          · rw [if_pos w]
          · rw [if_neg w, if_neg n2]
            exact up
theorem len_set (fl : Fl) (p : List Str) (c : Sc) : (setF fl p c).length ≤ fl.length + p.length + 1 := by
  unfold setF
  have h1 := len_put (upsF (cutF fl p) p (p.length - 1)) p c
  have h2 := len_ups (cutF fl p) p (p.length - 1)
  have h3 := len_cut fl p
  omega
/-! ### documents -/
def srtK (ks : List Str) : List Str := ks.mergeSort (PySem.W.dataLe false dK)
theorem srtK_mem {k : Str} {ks : List Str} : k ∈ srtK ks ↔ k ∈ ks := (List.mergeSort_perm ks _).mem_iff
theorem srtK_len (ks : List Str) : (srtK ks).length = ks.length := (List.mergeSort_perm ks _).length_eq
def lastS (p : List Str) : Str := p.getLastD (Str.ofString "")
def isBelow (p : List Str) (x : List Str × Sc) : Bool := decide (x.1.length = p.length + 1) && decide (x.1.take p.length = p)
def keysB (fl : Fl) (p : List Str) : List Str := (fl.filter (isBelow p)).map fun x => lastS x.1
def below (fl : Fl) (p : List Str) : List Str := srtK (keysB fl p)
theorem lastS_snoc (p : List Str) (k : Str) : lastS (p ++ [k]) = k := by
  unfold lastS
  simp
theorem isBelow_iff (p : List Str) (x : List Str × Sc) : isBelow p x = true ↔ ∃ k, x.1 = p ++ [k] := by
  unfold isBelow
  rw [Bool.and_eq_true, decide_eq_true_iff, decide_eq_true_iff]
  constructor
  · rintro ⟨h1, h2⟩
    have h3 : x.1 = x.1.take p.length ++ x.1.drop p.length := (List.take_append_drop _ _).symm
    rw [h2] at h3
    obtain ⟨k, hk⟩ := List.length_eq_one_iff.mp (show (x.1.drop p.length).length = 1 by rw [List.length_drop]; omega)
    exact ⟨k, by rw [h3, hk]⟩
  · rintro ⟨k, e⟩
    rw [e]
    refine ⟨by simp, ?_⟩
    rw [List.take_left]
theorem mem_below {fl : Fl} {p : List Str} {k : Str} : k ∈ below fl p ↔ ∃ c, getF fl (p ++ [k]) = some c := by
  unfold below keysB
  rw [srtK_mem]
  constructor
  · intro h
    obtain ⟨x, hx, rfl⟩ := List.mem_map.mp h
    obtain ⟨h1, h2⟩ := List.mem_filter.mp hx
    obtain ⟨k, e⟩ := (isBelow_iff p x).mp h2
    rw [e, lastS_snoc]
    exact mem_getF (c := x.2) (by rw [← e]; exact h1)
  · rintro ⟨c, h⟩
    exact List.mem_map.mpr ⟨_, List.mem_filter.mpr ⟨getF_mem h, (isBelow_iff _ _).mpr ⟨k, rfl⟩⟩, lastS_snoc p k⟩
theorem below_len (fl : Fl) (p : List Str) : (below fl p).length ≤ fl.length := by
  unfold below keysB
  rw [srtK_len, List.length_map]
  exact List.length_filter_le _ _
def dF : Nat → Fl → List Str → List Dt
  | 0, _, _ => []
  | n + 1, fl, p => (below fl p).map fun k => .tup [.str k, match getF fl (p ++ [k]) with | some .recd => .tup [.str (Str.ofString "record"), .tup (dF n fl (p ++ [k]))] | some c => .tup (scD c) | none => .non]
/-- the fields of the record at the path -/
def doc (fl : Fl) (p : List Str) : List Dt := dF (9 - p.length) fl p
/-- the value at the path; None if it is absent -/
def valD (fl : Fl) (p : List Str) : Dt := match getF fl p with | some .recd => .tup [.str (Str.ofString "record"), .tup (doc fl p)] | some c => .tup (scD c) | none => .non
theorem doc_eq {fl : Fl} (h : ∀ q c, getF fl q = some c → q.length ≤ 9) (p : List Str) : doc fl p = (below fl p).map fun k => .tup [.str k, valD fl (p ++ [k])] := by
  unfold doc
  by_cases hp : p.length < 9
  · obtain ⟨m, hm⟩ : ∃ m, 9 - p.length = m + 1 := ⟨8 - p.length, by omega⟩
    rw [hm, dF]
    refine List.map_congr_left fun k _ => ?_
    unfold valD doc
    rw [show 9 - (p ++ [k]).length = m by rw [List.length_append]; show 9 - (p.length + 1) = m; omega]
  · have e : below fl p = [] := by
      rw [List.eq_nil_iff_forall_not_mem]
      intro k hk
      obtain ⟨c, hc⟩ := mem_below.mp hk
      have := h _ _ hc
      rw [List.length_append] at this
      simp at this
      omega
    rw [e, show 9 - p.length = 0 by omega]
    rfl
theorem Wf.nine {ws : List Str} {fl : Fl} (h : Wf ws fl) : ∀ q c, getF fl q = some c → q.length ≤ 9 := fun q c e => by have := (h.pa q c e).2.1; omega
theorem deeps_le {ds : List Dt} {n : Nat} (h : ∀ d ∈ ds, d.deep ≤ n) : Dt.deeps ds ≤ n := by
  induction ds with
  | nil => exact Nat.zero_le _
  | cons d ds ih =>
    unfold Dt.deeps
    have h1 := h d List.mem_cons_self
    have h2 := ih fun x hx => h x (List.mem_cons_of_mem _ hx)
    omega
theorem fitss_of {ds : List Dt} (h : ∀ d ∈ ds, d.fits = true) : Dt.fitss ds = true := by
  induction ds with
  | nil => rfl
  | cons d ds ih =>
    unfold Dt.fitss
    rw [h d List.mem_cons_self, ih fun x hx => h x (List.mem_cons_of_mem _ hx)]
    rfl
theorem deep_scD (c : Sc) : (Dt.tup (scD c)).deep ≤ 2 := by
  cases c with
  | num n => show 2 ≤ 2; decide
  | text s => show 2 ≤ 2; decide
  | _ => decide
theorem deep_pair (a b : Dt) : (Dt.tup [a, b]).deep = max a.deep b.deep + 1 := by
  show max a.deep (max b.deep 0) + 1 = _
  omega
theorem deep_dF : ∀ (n : Nat) (fl : Fl) (p : List Str), Dt.deeps (dF n fl p) ≤ 3 * n
  | 0, _, _ => Nat.le_refl _
  | n + 1, fl, p => by
    rw [dF]
    refine deeps_le fun d hd => ?_
    obtain ⟨k, _, rfl⟩ := List.mem_map.mp hd
    have ih := deep_dF n fl (p ++ [k])
    have s1 : ∀ z : Str, (Dt.str z).deep = 1 := fun _ => rfl
    rw [deep_pair, s1]
    split
    · rw [deep_pair, s1]
      have : (Dt.tup (dF n fl (p ++ [k]))).deep = Dt.deeps (dF n fl (p ++ [k])) + 1 := rfl
      rw [this]
      omega
    · rename_i c _ _
      have := deep_scD c
      omega
    · have : Dt.non.deep = 1 := rfl
      omega
theorem fits_dF {fl : Fl} (hl : fl.length ≤ 1000000) : ∀ (n : Nat) (p : List Str), (Dt.tup (dF n fl p)).fits = true
  | 0, _ => rfl
  | n + 1, p => by
    rw [dF]
    show (decide _ && _) = true
    rw [decide_eq_true (by rw [List.length_map]; have := below_len fl p; omega), Bool.true_and]
    refine fitss_of fun d hd => ?_
    obtain ⟨k, _, rfl⟩ := List.mem_map.mp hd
    have pr : ∀ a b : Dt, b.fits = true → (Dt.tup [.str (Str.ofString "record"), b]).fits = true ∧ (Dt.tup [.str k, b]).fits = true := fun a b h => by
      constructor
      · show (true && (true && (b.fits && true))) = true
        rw [h]
        rfl
      · show (true && (true && (b.fits && true))) = true
        rw [h]
        rfl
    refine (pr .non _ ?_).2
    split
    · exact (pr .non _ (fits_dF hl n _)).1
    · exact (scD_same _).2
    · rfl
theorem doc_ok {fl : Fl} (hl : fl.length ≤ 1000000) (p : List Str) : (Dt.tup (doc fl p)).deep ≤ 30 ∧ (Dt.tup (doc fl p)).fits = true := by
  refine ⟨?_, fits_dF hl _ _⟩
  have := deep_dF (9 - p.length) fl p
  show Dt.deeps (doc fl p) + 1 ≤ 30
  unfold doc
  omega
/-! ### != of paths -/
theorem strOk_sg {z : Str} (h : SgT z) : PyData.strOk z = true := by
  unfold PyData.strOk
  rw [Array.all_eq_true_iff_forall_mem]
  intro c hc
  have := h c (by simpa using hc)
  have k := this.2.1
  simp
  omega
theorem lay_strs : ∀ ws : List Str, (∀ z ∈ ws, SgT z) → PyData.canLayAll0 (ws.map PyData.str) = true ∧ PyData.depthAll (ws.map PyData.str) = 0
  | [], _ => ⟨rfl, rfl⟩
  | z :: ws, h => by
    obtain ⟨a, b⟩ := lay_strs ws fun y hy => h y (List.mem_cons_of_mem _ hy)
    refine ⟨?_, ?_⟩
    · rw [List.map_cons, PyData.canLayAll0, PyData.canLay0, strOk_sg (h z List.mem_cons_self), a]
      rfl
    · rw [List.map_cons, PyData.depthAll, b, PyData.depth]
      rfl
theorem shaped_tup {ws : List Str} (h : ∀ z ∈ ws, SgT z) : SeqAt.shaped (.tuple (ws.map PyData.str)) = true := by
  obtain ⟨a, b⟩ := lay_strs ws h
  unfold SeqAt.shaped
  rw [PyData.canLay0, PyData.depth, a, b]
  rfl
theorem eqvs_strs : ∀ as bs : List Str, PyData.eqvAll (as.map PyData.str) (bs.map PyData.str) = decide (as = bs)
  | [], [] => rfl
  | [], _ :: _ => rfl
  | _ :: _, [] => rfl
  | a :: as, b :: bs => by
    rw [List.map_cons, List.map_cons, PyData.eqvAll, eqvs_strs as bs, eqv_str]
    by_cases h1 : a = b <;> by_cases h2 : as = bs <;> simp [h1, h2]
theorem ne_paths {K : PySem.W.Frag} {H : Hp} {a b : Addr} {p q : List Str} {Q : VK} (ha : SqT K H a (p.map V.str)) (hb : SqT K H b (q.map V.str)) (hp : ∀ z ∈ p, SgT z) (hq : ∀ z ∈ q, SgT z) (h : Q (.bl (!decide (p = q))) H) : rNeD K (.ref a) (.ref b) H Q := by
  refine ⟨.tuple (p.map .str), .tuple (q.map .str), .tup ha (dpa_strs p), .tup hb (dpa_strs q), shaped_tup hp, shaped_tup hq, ?_⟩
  have e : PyData.eqv (.tuple (p.map .str)) (.tuple (q.map .str)) = decide (p = q) := by
    rw [PyData.eqv]
    exact eqvs_strs p q
  rw [e]
  exact h
/-- the texts of a table -/
def FlS (fl : Fl) : Prop := ∀ x ∈ fl, ∀ k ∈ x.1, SgT k
theorem Wf.sg {ws : List Str} {fl : Fl} (h : Wf ws fl) (hw : ∀ z ∈ ws, SgT z) : FlS fl := fun x hx k hk => hw k ((h.pa x.1 x.2 (getF_nd h.nd hx)).2.2.1 k hk)
/-- a slice that leaves something out is new -/
theorem slA_new {K : PySem.W.Frag} {H : Hp} {a : Addr} {xs : List V} {lo hi : Option Int} {Q : VK} (h : SqT K H a xs) (hw : ¬ (HT.sIx xs.length 0 lo = 0 ∧ HT.sIx xs.length xs.length hi = xs.length)) (q : ∀ p, H p = none → Q (.ref p) (upd H p (.tup (cutV xs lo hi)))) : rSlA K (.ref a) lo hi H Q :=
  ⟨a, xs, rfl, h, fun z => absurd z hw, fun _ => q⟩
/-- a slice of a tracked tuple is tracked -/
theorem slA_tr {K : PySem.W.Frag} {H : Hp} {a : Addr} {xs : List V} {lo hi : Option Int} {Q : VK} (h : H a = some (.tup xs)) (q : ∀ p H', Same H H' → H' p = some (.tup (cutV xs lo hi)) → Q (.ref p) H') : rSlA K (.ref a) lo hi H Q := by
  refine ⟨a, xs, rfl, SqT.of h, fun z => ?_, fun _ p hp => q p _ (same_new hp _) upd_same⟩
  refine q a H (Same.refl H) ?_
  rw [h]
  congr 2
  unfold cutV
  rw [z.1, z.2, List.drop_zero, Nat.sub_zero, List.take_length]
/-! ### for the single defs -/
theorem none_any {P : Program} {w : World} {K : PySem.W.Frag} {mg : Str → Option Value} {base : Heap} {k : Nat} {f : Addr} {fd : FuncData} {ps : List Str} {sp : Sp} (no : ∀ vs H Q E, ¬ sp vs H Q E) : FnOk P w K mg base CX0 k f fd ps sp :=
  ⟨fun vs H Q E h => absurd h (no vs H Q E), fun A outer s H args us vs Q E _ _ _ _ h => absurd h (no vs H Q E)⟩
theorem dt_tup {K : PySem.W.Frag} {H : Hp} {v : V} {ds : List Dt} (h : DT K H v (.tup ds)) : ∃ a xs, v = .ref a ∧ SqT K H a xs ∧ DTs K H xs ds := by
  cases h with
  | tup h1 h2 => exact ⟨_, _, rfl, h1, h2⟩
theorem dt_head {K : PySem.W.Frag} {H : Hp} {v : V} {z : Str} {ds : List Dt} (h : DT K H v (.tup (.str z :: ds))) : ∃ a xs, v = .ref a ∧ SqT K H a (.str z :: xs) ∧ DTs K H xs ds := by
  obtain ⟨a, xs, rfl, h1, h2⟩ := dt_tup h
  cases h2 with
  | cons h3 h4 =>
    cases h3
    exact ⟨_, _, rfl, h1, h4⟩
/-- the word of a scalar is not that of a record -/
theorem sc_word (c : Sc) (h : c ≠ .recd) : ∃ z ds, scD c = .str z :: ds ∧ z ≠ Str.ofString "record" := by
  cases c with
  | null => exact ⟨_, _, rfl, by decide +kernel⟩
  | fals => exact ⟨_, _, rfl, by decide +kernel⟩
  | tru => exact ⟨_, _, rfl, by decide +kernel⟩
  | num n => exact ⟨_, _, rfl, by decide +kernel⟩
  | text s => exact ⟨_, _, rfl, by decide +kernel⟩
  | recd => exact absurd rfl h
/-- a table whose paths stand below records -/
structure Up (fl : Fl) : Prop where
  nine : ∀ q c, getF fl q = some c → q.length ≤ 9
  up : ∀ p c, getF fl p = some c → ∀ j, 1 ≤ j → j < p.length → getF fl (p.take j) = some .recd
theorem Wf.toUp {ws : List Str} {fl : Fl} (h : Wf ws fl) : Up fl := ⟨h.nine, h.up⟩
/-- what the path holds, with all below it -/
def atD (fl : Fl) (p : List Str) : Dt := if p = [] then .tup [.str (Str.ofString "record"), .tup (doc fl [])] else valD fl p
theorem valD_none {fl : Fl} {p : List Str} (h : getF fl p = none) : valD fl p = .non := by unfold valD; rw [h]
theorem valD_recd {fl : Fl} {p : List Str} (h : getF fl p = some .recd) : valD fl p = .tup [.str (Str.ofString "record"), .tup (doc fl p)] := by unfold valD; rw [h]
theorem valD_sc {fl : Fl} {p : List Str} {c : Sc} (h : getF fl p = some c) (n : c ≠ .recd) : valD fl p = .tup (scD c) := by
  unfold valD
  rw [h]
  cases c <;> first | rfl | exact absurd rfl n
/-- a record, a scalar, or nothing -/
theorem atD_cases (fl : Fl) (p : List Str) : (atD fl p = .tup [.str (Str.ofString "record"), .tup (doc fl p)] ∧ (p = [] ∨ getF fl p = some .recd)) ∨ (∃ c, c ≠ .recd ∧ atD fl p = .tup (scD c) ∧ p ≠ [] ∧ getF fl p = some c) ∨ (atD fl p = .non ∧ p ≠ [] ∧ getF fl p = none) := by
  unfold atD
  by_cases e : p = []
  · subst e
    exact .inl ⟨if_pos rfl, .inl rfl⟩
  · rw [if_neg e]
    cases h : getF fl p with
    | none => exact .inr (.inr ⟨valD_none h, e, rfl⟩)
    | some c =>
      by_cases n : c = .recd
      · subst n
        exact .inl ⟨valD_recd h, .inr rfl⟩
      · exact .inr (.inl ⟨c, n, valD_sc h n, e, rfl⟩)
theorem field_valD (fl : Fl) (p : List Str) (k : Str) : (if k ∈ below fl p then valD fl (p ++ [k]) else .non) = valD fl (p ++ [k]) := by
  by_cases h : k ∈ below fl p
  · rw [if_pos h]
  · rw [if_neg h]
    cases g : getF fl (p ++ [k]) with
    | none => exact (valD_none g).symm
    | some c => exact absurd (mem_below.mpr ⟨c, g⟩) h
/-- nothing below what is no record -/
theorem Up.none {fl : Fl} (h : Up fl) {p : List Str} {i : Nat} (hi : i < p.length) (h1 : p.take i ≠ []) (hn : getF fl (p.take i) ≠ some .recd) : atD fl p = .non := by
  have np : p ≠ [] := fun e => by subst e; simp at hi
  unfold atD
  rw [if_neg np]
  cases g : getF fl p with
  | none => exact valD_none g
  | some c =>
    have i1 : 1 ≤ i := by
      cases i with
      | zero => exact absurd rfl h1
      | succ i => omega
    exact absurd (h.up p c g i i1 hi) hn
/-- what the path holds -/
def hdD (fl : Fl) (p : List Str) : Dt := if p = [] then .tup (scD .recd) else match getF fl p with | some c => .tup (scD c) | none => .non
theorem Up.below {fl : Fl} (h : Up fl) {p : List Str} (h1 : p ≠ []) (hn : getF fl p ≠ some .recd) : below fl p = [] := by
  rw [List.eq_nil_iff_forall_not_mem]
  intro k hk
  obtain ⟨c, hc⟩ := mem_below.mp hk
  refine hn ?_
  have := h.up _ c hc p.length (by cases p with | nil => exact absurd rfl h1 | cons a r => simp) (by simp)
  rwa [List.take_left] at this
/-- a table of paths stands at d -/
structure FlatAt (K : PySem.W.Frag) (H : Hp) (d : Addr) (fl : Fl) : Prop where
  ex : ∃ kvs, H d = some (.dT kvs) ∧ FlK K H kvs fl
theorem FlatAt.same {K : PySem.W.Frag} {H H' : Hp} {d : Addr} {fl : Fl} (h : FlatAt K H d fl) (e : Same H H') : FlatAt K H' d fl := by
  obtain ⟨kvs, h1, h2⟩ := h.ex
  exact ⟨kvs, e _ _ h1, h2.same e⟩
theorem FlatAt.go {K : PySem.W.Frag} {H H' : Hp} {t d : Addr} {fl : Fl} (h : FlatAt K H d fl) (hT : Tape H t) (e : Sm t H H') : FlatAt K H' d fl := by
  obtain ⟨kvs, h1, h2⟩ := h.ex
  obtain ⟨l, ns, x, b, c, h3, _⟩ := hT.ex
  exact ⟨kvs, e _ _ (ne_of h1 h3 (fun z => by cases z)) h1, h2.go hT e⟩
/-- what reads as tuples still does where one thing that is no tuple has changed -/
theorem seqT_put {K : PySem.W.Frag} {H : Hp} {b a : Addr} {xs : List V} {o u : HO} (hb : H b = some o) (n1 : ∀ ys, o ≠ .tup ys) (n2 : ∀ z ys, o ≠ .frz z (.tup ys)) (h : SqT K H a xs) : SqT K (upd H b u) a xs := by
  rcases h with (h | ⟨z, h⟩) | h
  · exact .inl (.inl (by rw [upd_ne (ne_of h hb (fun e => n1 _ e.symm))]; exact h))
  · exact .inl (.inr ⟨z, by rw [upd_ne (ne_of h hb (fun e => n2 _ _ e.symm))]; exact h⟩)
  · exact .inr h
theorem seqT_two {K : PySem.W.Frag} {H H' : Hp} {f d a : Addr} {kvs : List (List Key × V)} {xs : List V} (s : ∀ b o, b ≠ f → b ≠ d → H b = some o → H' b = some o) (hf : H f = none) (hd : H d = some (.dT kvs)) (h : SqT K H a xs) : SqT K H' a xs := by
  rcases h with (h | ⟨z, h⟩) | h
  · exact .inl (.inl (s _ _ (ne_of_none h hf) (ne_of h hd (fun e => by cases e)) h))
  · exact .inl (.inr ⟨z, s _ _ (ne_of_none h hf) (ne_of h hd (fun e => by cases e)) h⟩)
  · exact .inr h
theorem cutF_take {fl : Fl} {p q : List Str} {c : Sc} {i : Nat} (h : fl[i]? = some (q, c)) : cutF (fl.take (i + 1)) p = if q.take p.length = p then cutF (fl.take i) p else cutF (fl.take i) p ++ [(q, c)] := by
  obtain ⟨hi, e⟩ := List.getElem?_eq_some_iff.mp h
  unfold cutF
  rw [List.take_succ_eq_append_getElem hi, e, List.filter_append]
  by_cases z : q.take p.length = p
  · rw [if_pos z, List.filter_cons_of_neg (by simp [z]), List.filter_nil, List.append_nil]
  · rw [if_neg z, List.filter_cons_of_pos (by simp [z]), List.filter_nil]
theorem putF_new {fl : Fl} {q : List Str} (c : Sc) (h : getF fl q = none) : putF fl q c = fl ++ [(q, c)] := by
  unfold putF
  rw [if_neg]
  intro z
  obtain ⟨x, hx, e⟩ := List.any_eq_true.mp z
  obtain ⟨d, hd⟩ := mem_getF (fl := fl) (p := q) (c := x.2) (by rw [← of_decide_eq_true e]; exact hx)
  rw [h] at hd
  cases hd
theorem getF_take {fl : Fl} (nd : (fl.map (·.1)).Nodup) {q : List Str} {c : Sc} {i : Nat} (h : fl[i]? = some (q, c)) : getF (fl.take i) q = none := by
  obtain ⟨hi, e⟩ := List.getElem?_eq_some_iff.mp h
  have n2 : ((fl.take (i + 1)).map (·.1)).Nodup := nd.sublist (List.Sublist.map _ (List.take_sublist _ _))
  rw [List.take_succ_eq_append_getElem hi, e, List.map_append, List.nodup_append] at n2
  cases g : getF (fl.take i) q with
  | none => rfl
  | some d => exact absurd rfl (n2.2.2 q (List.mem_map.mpr ⟨_, getF_mem g, rfl⟩) q (by simp))
theorem FlatAt.put {K : PySem.W.Frag} {H : Hp} {f b : Addr} {fl : Fl} {p : List Str} {v : V} {c : Sc} (h : FlatAt K H f fl) (lf : fl.length ≤ 100000) (hb : H b = some (.tup (p.map V.str))) (d : DT K H v (.tup (scD c))) :
    ∃ H', DPut H f (.ref b) v H' ∧ (∀ a o, a ≠ f → H a = some o → H' a = some o) ∧ (∀ a xs, SqT K H a xs → SqT K H' a xs) ∧ FlatAt K H' f (putF fl p c) := by
  obtain ⟨kvs, h1, h2⟩ := h.ex
  have lk := h2.len
  have mo : ∀ a xs, SqT K H a xs → SqT K (upd H f (.dT (putK kvs (kP p) v))) a xs := fun _ _ h => seqT_put h1 (fun _ z => by cases z) (fun _ _ z => by cases z) h
  exact ⟨_, DPut.t h1 (by rw [kP_V]; exact hb) (lt_line (by omega)), fun a o n e => by rw [upd_ne n]; exact e, mo, _, upd_same, (h2.put p d).mono mo⟩
inductive Al2 {α β : Type} (R : α → β → Prop) : List α → List β → Prop
  | nil : Al2 R [] []
  | cons {a : α} {b : β} {l : List α} {m : List β} : R a b → Al2 R l m → Al2 R (a :: l) (b :: m)
section
variable {α β : Type} {R S : α → β → Prop}
theorem Al2.mono (f : ∀ a b, R a b → S a b) {l : List α} {m : List β} (h : Al2 R l m) : Al2 S l m := by
  induction h with
  | nil => exact .nil
  | cons h1 _ ih => exact .cons (f _ _ h1) ih
theorem Al2.len {l : List α} {m : List β} (h : Al2 R l m) : l.length = m.length := by
  induction h with
  | nil => rfl
  | cons _ _ ih => rw [List.length_cons, List.length_cons, ih]
theorem Al2.app {l l' : List α} {m m' : List β} (h : Al2 R l m) (k : Al2 R l' m') : Al2 R (l ++ l') (m ++ m') := by
  induction h with
  | nil => exact k
  | cons h1 _ ih => exact .cons h1 ih
theorem Al2.at {l : List α} {m : List β} (h : Al2 R l m) {i : Nat} {a : α} (e : l[i]? = some a) : ∃ b, m[i]? = some b ∧ R a b := by
  induction h generalizing i with
  | nil => simp at e
  | cons h1 _ ih =>
    cases i with
    | zero =>
      have e' := Option.some.inj e
      cases e'
      exact ⟨_, rfl, h1⟩
    | succ i => exact ih (by simpa using e)
theorem Al2.zip {l : List α} {m : List β} (h : Al2 R l m) : ∀ z ∈ l.zip m, R z.1 z.2 := by
  induction h with
  | nil => intro z hz; cases hz
  | cons h1 _ ih =>
    intro z hz
    rw [List.zip_cons_cons] at hz
    rcases List.mem_cons.mp hz with rfl | hz
    · exact h1
    · exact ih z hz
theorem Al2.maps {zs : List (α × β)} (h : ∀ z ∈ zs, R z.1 z.2) : Al2 R (zs.map (·.1)) (zs.map (·.2)) := by
  induction zs with
  | nil => exact .nil
  | cons z zs ih => exact .cons (h z List.mem_cons_self) (ih fun x hx => h x (List.mem_cons_of_mem _ hx))
end
theorem same_free {H H' : Hp} {p : Addr} (s : Same H H') (h : H' p = none) : H p = none := by
  cases e : H p with
  | none => rfl
  | some o => rw [s p o e] at h; cases h
/-- v is the tracked tuple of the path -/
def PthV (H : Hp) (v : V) (p : List Str) : Prop := ∃ b, v = .ref b ∧ H b = some (.tup (p.map V.str))
def encP (p : List Str) : PyData := .tuple [.list (p.map dK), .tuple (p.map .str)]
def srtP (ps : List (List Str)) : List (List Str) := ps.mergeSort (PySem.W.dataLe false encP)
/-- a row to be sorted -/
def RowP (K : PySem.W.Frag) (D : Addr) (H : Hp) (y : V) (p : List Str) : Prop := ∃ o r b vs, y = .ref o ∧ H o = some (.tup [.ref r, .ref b]) ∧ H b = some (.tup (p.map V.str)) ∧ r ≠ D ∧ SqL K H r vs ∧ DpAll K H vs (p.map dK)
theorem RowP.same {K : PySem.W.Frag} {D : Addr} {H H' : Hp} {y : V} {p : List Str} (h : RowP K D H y p) (e : Same H H') : RowP K D H' y p := by
  obtain ⟨o, r, b, vs, h1, h2, h3, h4, h5, h6⟩ := h
  exact ⟨o, r, b, vs, h1, e _ _ h2, e _ _ h3, h4, e.seq h5, h6.same e⟩
theorem RowP.put {K : PySem.W.Frag} {D : Addr} {H : Hp} {y : V} {p : List Str} {acc acc' : List V} (h : RowP K D H y p) (e : H D = some (.lst acc)) : RowP K D (upd H D (.lst acc')) y p := by
  obtain ⟨o, r, b, vs, h1, h2, h3, h4, h5, h6⟩ := h
  refine ⟨o, r, b, vs, h1, by rw [upd_ne (ne_of h2 e (fun z => by cases z))]; exact h2, by rw [upd_ne (ne_of h3 e (fun z => by cases z))]; exact h3, h4, ?_, DpAll.rows (fun _ _ h => seqT_put e (fun _ z => by cases z) (fun _ _ z => by cases z) h) _ _ h6⟩
  rcases h5 with (h | ⟨z, h⟩) | h
  · exact .inl (.inl (by rw [upd_ne h4]; exact h))
  · exact .inl (.inr ⟨z, by rw [upd_ne h4]; exact h⟩)
  · exact .inr h
theorem RowP.dp {K : PySem.W.Frag} {D : Addr} {H : Hp} {y : V} {p : List Str} (h : RowP K D H y p) : Dp K H y (encP p) := by
  obtain ⟨o, r, b, vs, rfl, h2, h3, h4, h5, h6⟩ := h
  exact .tup (SqT.of h2) (.cons (.lst h5 h6) (.cons (.tup (SqT.of h3) (dpa_strs p)) .nil))
theorem rows_dp {K : PySem.W.Frag} {D : Addr} {H : Hp} {ys : List V} {ps : List (List Str)} (h : Al2 (RowP K D H) ys ps) : DpAll K H ys (ps.map encP) := by
  induction h with
  | nil => exact .nil
  | cons h1 _ ih => exact .cons h1.dp ih
theorem alike_strs : ∀ as bs : List Str, PySem.W.alikeAll (as.map PyData.str) (bs.map PyData.str) = true
  | [], bs => by simp [PySem.W.alikeAll]
  | a :: as, [] => by simp [PySem.W.alikeAll]
  | a :: as, b :: bs => by
    rw [List.map_cons, List.map_cons, PySem.W.alikeAll, alike_strs as bs]
    rfl
theorem alike_encP (a b : List Str) : PySem.W.alike (encP a) (encP b) = true := by
  unfold encP
  rw [PySem.W.alike, PySem.W.alikeAll, PySem.W.alikeAll, PySem.W.alikeAll, PySem.W.alike, PySem.W.alike, alike_rows, alike_strs]
  rfl
theorem depth_encP (p : List Str) : (encP p).depth ≤ 60 := by
  have h1 := depth_rows p
  have h2 : PyData.depthAll (p.map PyData.str) = 0 := by
    induction p with
    | nil => rfl
    | cons z p ih => rw [List.map_cons, PyData.depthAll, ih (depth_rows p), PyData.depth]; rfl
  unfold encP
  rw [PyData.depth, PyData.depthAll, PyData.depthAll, PyData.depthAll, PyData.depth, PyData.depth, h2]
  omega
theorem cutV_neg1 {xs : List V} : cutV xs none (some (-1)) = xs.take (xs.length - 1) := by
  show (xs.drop 0).take (HT.sIx xs.length xs.length (some (-1)) - 0) = _
  rw [List.drop_zero, Nat.sub_zero]
  congr 1
  show (if (-1 : Int) < 0 then ((-1 : Int) + (xs.length : Int)).toNat else min (-1 : Int).toNat xs.length) = _
  rw [if_pos (by decide)]
  omega
/-- a row to be sorted -/
def RowK (H : Hp) (y : V) (k : Str) : Prop := ∃ o, y = .ref o ∧ H o = some (.tup [.int k.length, .str k])
theorem rowks_dp {K : PySem.W.Frag} {H : Hp} {ys : List V} {ks : List Str} (h : Al2 (RowK H) ys ks) : DpAll K H ys (ks.map dK) := by
  induction h with
  | nil => exact .nil
  | cons h1 _ ih =>
    obtain ⟨o, rfl, h2⟩ := h1
    exact .cons (.tup (SqT.of h2) (.cons (.int _) (.cons (.str _) .nil))) ih
theorem depth_dK (k : Str) : (dK k).depth ≤ 60 := by
  show (PyData.tuple [.int k.length, .str k]).depth ≤ 60
  simp [PyData.depth, PyData.depthAll]
theorem catA_tr {K : PySem.W.Frag} {H : Hp} {a b : Addr} {xs ys : List V} {Q : VK} (h : SqT K H a xs) (k : H b = some (.tup ys)) (hy : ys ≠ []) (hl : xs.length + ys.length ≤ sizeLine) (q : ∀ p H', Same H H' → H' p = some (.tup (xs ++ ys)) → Q (.ref p) H') : rCatA K (.ref a) (.ref b) H Q :=
  ⟨a, b, xs, ys, rfl, rfl, h, SqT.of k, hl, (fun e => q b H (Same.refl H) (by rw [e]; exact k)), (fun _ e => absurd e hy), fun _ _ p hp => q p _ (same_new hp _) upd_same⟩
theorem eqbs_recd (c : Sc) : Dt.eqbs (scD c) [.str (Str.ofString "record")] = match c with | .recd => true | _ => false := by
  have f : ∀ (z : Str) (r : List Dt), (z == Str.ofString "record") = false → Dt.eqbs (.str z :: r) [.str (Str.ofString "record")] = false := fun z r h => by
    rw [Dt.eqbs, Dt.eqb, h]
    rfl
  cases c with
  | null => exact f _ _ (by decide +kernel)
  | fals => exact f _ _ (by decide +kernel)
  | tru => exact f _ _ (by decide +kernel)
  | num n => exact f _ _ (by decide +kernel)
  | text s => exact f _ _ (by decide +kernel)
  | recd => exact eqbs_refl _
def prD (fl : Fl) (p : List Str) (k : Str) : Dt := .tup [.str k, valD fl (p ++ [k])]
theorem keys_al {K : PySem.W.Frag} {H H0 : Hp} {kvs : List (List Key × V)} {fl : Fl} (h : FlK K H kvs fl) : ∀ {bs : List Addr}, IsKeys H0 kvs bs → Al2 (PthV H0) (bs.map V.ref) (fl.map (·.1)) := by
  unfold IsKeys
  induction h with
  | nil =>
    intro bs k
    cases k
    exact .nil
  | @cons v p c kvs fl _ _ ih =>
    intro bs k
    cases k with
    | cons k1 k2 => exact .cons ⟨_, rfl, by rw [k1, kP_V]⟩ (ih k2)
/-- a list of paths as data -/
theorem dpa_paths {K : PySem.W.Frag} {H : Hp} {ys : List V} {ps : List (List Str)} (h : Al2 (PthV H) ys ps) : DpAll K H ys (ps.map fun p => PyData.tuple (p.map .str)) := by
  induction h with
  | nil => exact .nil
  | cons h1 _ ih =>
    obtain ⟨b, rfl, h2⟩ := h1
    exact .cons (.tup (SqT.of h2) (dpa_strs _)) ih
theorem lay_paths : ∀ ps : List (List Str), (∀ p ∈ ps, ∀ z ∈ p, SgT z) → PyData.canLayAll0 (ps.map fun p => PyData.tuple (p.map .str)) = true ∧ PyData.depthAll (ps.map fun p => PyData.tuple (p.map .str)) ≤ 1
  | [], _ => ⟨rfl, Nat.zero_le _⟩
  | p :: ps, h => by
    obtain ⟨a, b⟩ := lay_paths ps fun y hy => h y (List.mem_cons_of_mem _ hy)
    obtain ⟨c, d⟩ := lay_strs p (h p List.mem_cons_self)
    refine ⟨?_, ?_⟩
    · rw [List.map_cons, PyData.canLayAll0, PyData.canLay0, c, a]
      rfl
    · rw [List.map_cons, PyData.depthAll, PyData.depth, d]
      omega
theorem shaped_paths {ps : List (List Str)} (h : ∀ p ∈ ps, ∀ z ∈ p, SgT z) : SeqAt.shaped (.list (ps.map fun p => PyData.tuple (p.map .str))) = true := by
  obtain ⟨a, b⟩ := lay_paths ps h
  unfold SeqAt.shaped
  rw [PyData.canLay0, PyData.depth, a, decide_eq_true (by omega)]
  rfl
theorem eqv_paths_nil (ps : List (List Str)) : PyData.eqv (.list (ps.map fun p => PyData.tuple (p.map .str))) (.list []) = ps.isEmpty := by
  cases ps <;> simp [PyData.eqv, PyData.eqvAll]
/-- a tracked path -/
def P5 (H : Hp) (v : V) : Prop := ∃ (b : Addr) (p : List Str), v = .ref b ∧ H b = some (.tup (p.map V.str)) ∧ p.length ≤ 50
theorem P5.go {t : Addr} {H H' : Hp} (hT : Tape H t) (g : Sm t H H') {l : List V} (h : ∀ v ∈ l, P5 H v) : ∀ v ∈ l, P5 H' v := fun v hv => by
  obtain ⟨b, p, h1, h2, h3⟩ := h v hv
  obtain ⟨m, ns, x, b', c, h4, _⟩ := hT.ex
  exact ⟨b, p, h1, g _ _ (ne_of h2 h4 (fun z => by cases z)) h2, h3⟩
theorem P5.same {H H' : Hp} (g : Same H H') {l : List V} (h : ∀ v ∈ l, P5 H v) : ∀ v ∈ l, P5 H' v := fun v hv => by
  obtain ⟨b, p, h1, h2, h3⟩ := h v hv
  exact ⟨b, p, h1, g _ _ h2, h3⟩
theorem P5.snoc {H : Hp} {l : List V} {b : Addr} {p : List Str} (h : ∀ v ∈ l, P5 H v) (e : H b = some (.tup (p.map V.str))) (k : p.length ≤ 50) : ∀ v ∈ l ++ [.ref b], P5 H v := fun v hv => by
  rcases List.mem_append.mp hv with q | q
  · exact h v q
  · exact ⟨b, p, List.mem_singleton.mp q, e, k⟩
/-- the paths directly below -/
def entD (fl : Fl) (p : List Str) : List Dt := (below fl p).map fun k => ptD (p ++ [k])
end My

namespace My
open PySem L2
/-! ### the keys below a path stand in one order alone -/
def LtS (a b : Str) : Prop := ltC a.cps.toList b.cps.toList
instance (a b : Str) : Decidable (LtS a b) := by unfold LtS; exact inferInstance
theorem LtS.irrefl (a : Str) : ¬ LtS a a := ltC_irrefl _
theorem LtS.asymm {a b : Str} (h : LtS a b) : ¬ LtS b a := ltC_asymm h
theorem LtS.total {a b : Str} (h : a ≠ b) : LtS a b ∨ LtS b a := ltC_total (codes_ne h)
theorem LtS.trans {a b c : Str} (h : LtS a b) (k : LtS b c) : LtS a c := by
  unfold LtS ltC at *
  rcases h with h | ⟨h1, h2⟩ <;> rcases k with k | ⟨k1, k2⟩
  · exact .inl (by omega)
  · exact .inl (by omega)
  · exact .inl (by omega)
  · exact .inr ⟨by omega, List.lt_trans h2 k2⟩
theorem leK_eq (a b : Str) : PySem.W.dataLe false dK a b = !decide (LtS b a) := by
  rw [PySem.W.dataLe_eq]
  show (!PySem.W.dataLt (dK b) (dK a)) = _
  by_cases h : b = a
  · subst h
    have e : PySem.W.dataLt (dK b) (dK b) = false := by
      unfold dK
      rw [PySem.W.dataLt_pair rfl rfl, eqv_int, eqv_str, decide_eq_true rfl, decide_eq_true rfl, if_pos rfl, if_pos rfl]
    rw [e, decide_eq_false (LtS.irrefl b)]
  · rw [dataLt_dK _ _ h]
    rfl
theorem srtK_sorted {ks : List Str} (nd : ks.Nodup) : (srtK ks).Pairwise LtS := by
  have h1 : (srtK ks).Pairwise fun a b => PySem.W.dataLe false dK a b = true := by
    refine List.pairwise_mergeSort (fun a b c h k => ?_) (fun a b => ?_) ks
    · rw [leK_eq, Bool.not_eq_true', decide_eq_false_iff_not] at *
      intro z
      by_cases e : a = b
      · subst e; exact k z
      · rcases LtS.total e with y | y
        · exact k (z.trans y)
        · exact h y
    · rw [leK_eq, leK_eq]
      by_cases z : LtS b a
      · rw [decide_eq_false (p := LtS a b) z.asymm]; simp
      · rw [decide_eq_false z]; simp
  have h2 : (srtK ks).Nodup := (List.mergeSort_perm ks _).nodup_iff.mpr nd
  refine (h1.and h2).imp fun {a b} h => ?_
  obtain ⟨h3, h4⟩ := h
  rw [leK_eq, Bool.not_eq_true', decide_eq_false_iff_not] at h3
  exact (LtS.total h4).resolve_right h3
theorem srt_unique : ∀ {l m : List Str}, l.Pairwise LtS → m.Pairwise LtS → (∀ k, k ∈ l ↔ k ∈ m) → l = m
  | [], [], _, _, _ => rfl
  | [], b :: m, _, _, h => absurd ((h b).mpr List.mem_cons_self) (by simp)
  | a :: l, [], _, _, h => absurd ((h a).mp List.mem_cons_self) (by simp)
  | a :: l, b :: m, hl, hm, h => by
    rw [List.pairwise_cons] at hl hm
    have e : a = b := by
      rcases List.mem_cons.mp ((h a).mp List.mem_cons_self) with e | e
      · exact e
      rcases List.mem_cons.mp ((h b).mpr List.mem_cons_self) with e2 | e2
      · exact e2.symm
      · exact absurd (hl.1 b e2) (hm.1 a e).asymm
    subst e
    rw [srt_unique hl.2 hm.2 fun k => ?_]
    have := h k
    rw [List.mem_cons, List.mem_cons] at this
    constructor
    · intro z
      rcases this.mp (.inr z) with e | e
      · subst e; exact absurd (hl.1 _ z) (LtS.irrefl _)
      · exact e
    · intro z
      rcases this.mpr (.inr z) with e | e
      · subst e; exact absurd (hm.1 _ z) (LtS.irrefl _)
      · exact e
theorem keysB_nd {fl : Fl} (nd : (fl.map (·.1)).Nodup) (p : List Str) : (keysB fl p).Nodup := by
  unfold keysB
  have h1 : ((fl.filter (isBelow p)).map (·.1)).Nodup := nd.sublist (List.Sublist.map _ List.filter_sublist)
  rw [List.nodup_iff_pairwise_ne, List.pairwise_map] at h1 ⊢
  refine h1.imp_of_mem fun {x y} hx hy h e => h ?_
  obtain ⟨k, ek⟩ := (isBelow_iff p x).mp (List.mem_filter.mp hx).2
  obtain ⟨j, ej⟩ := (isBelow_iff p y).mp (List.mem_filter.mp hy).2
  rw [ek, ej, lastS_snoc, lastS_snoc] at e
  rw [ek, ej, e]
theorem below_sorted {fl : Fl} (nd : (fl.map (·.1)).Nodup) (p : List Str) : (below fl p).Pairwise LtS := srtK_sorted (keysB_nd nd p)
theorem below_of {fl : Fl} (nd : (fl.map (·.1)).Nodup) {p : List Str} {l : List Str} (hl : l.Pairwise LtS) (h : ∀ k, k ∈ l ↔ ∃ c, getF fl (p ++ [k]) = some c) : below fl p = l :=
  srt_unique (below_sorted nd p) hl fun k => by rw [mem_below, h]
theorem below_congr {fl fl' : Fl} (nd : (fl.map (·.1)).Nodup) (nd' : (fl'.map (·.1)).Nodup) {p : List Str} (h : ∀ k, getF fl (p ++ [k]) = getF fl' (p ++ [k])) : below fl p = below fl' p :=
  below_of nd (below_sorted nd' p) fun k => by rw [mem_below, h]
theorem dF_congr {fl fl' : Fl} (nd : (fl.map (·.1)).Nodup) (nd' : (fl'.map (·.1)).Nodup) : ∀ (n : Nat) (p : List Str), (∀ k r, getF fl (p ++ k :: r) = getF fl' (p ++ k :: r)) → dF n fl p = dF n fl' p
  | 0, _, _ => rfl
  | n + 1, p, h => by
    rw [dF, dF, below_congr nd nd' (fun k => h k [])]
    refine List.map_congr_left fun k _ => ?_
    rw [h k [], dF_congr nd nd' n (p ++ [k]) fun j r => ?_]
    rw [List.append_assoc]
    exact h k (j :: r)
theorem doc_congr {fl fl' : Fl} (nd : (fl.map (·.1)).Nodup) (nd' : (fl'.map (·.1)).Nodup) {p : List Str} (h : ∀ k r, getF fl (p ++ k :: r) = getF fl' (p ++ k :: r)) : doc fl p = doc fl' p := dF_congr nd nd' _ _ h
theorem valD_congr {fl fl' : Fl} (nd : (fl.map (·.1)).Nodup) (nd' : (fl'.map (·.1)).Nodup) {p : List Str} (h0 : getF fl p = getF fl' p) (h : ∀ k r, getF fl (p ++ k :: r) = getF fl' (p ++ k :: r)) : valD fl p = valD fl' p := by
  unfold valD
  rw [h0, doc_congr nd nd' h]
/-! ### one field in its place -/
def insD (ks : List Str) (f : Str → Dt) (k : Str) (d : Dt) : List Dt := (ks.filter fun j => decide (LtS j k)).map f ++ [.tup [.str k, d]] ++ (ks.filter fun j => decide (LtS k j)).map f
theorem ins_sorted {ks : List Str} (h : ks.Pairwise LtS) (k : Str) : ((ks.filter fun j => decide (LtS j k)) ++ [k] ++ (ks.filter fun j => decide (LtS k j))).Pairwise LtS := by
  rw [List.pairwise_append, List.pairwise_append]
  refine ⟨⟨h.sublist List.filter_sublist, List.pairwise_singleton _ _, fun a ha b hb => ?_⟩, h.sublist List.filter_sublist, fun a ha b hb => ?_⟩
  · rw [List.mem_singleton.mp hb]
    exact of_decide_eq_true (List.mem_filter.mp ha).2
  · have hb' : LtS k b := of_decide_eq_true (List.mem_filter.mp hb).2
    rcases List.mem_append.mp ha with ha | ha
    · exact (of_decide_eq_true (List.mem_filter.mp ha).2 : LtS a k).trans hb'
    · rw [List.mem_singleton.mp ha]
      exact hb'
theorem doc_ins {fl fl' : Fl} (nd : (fl.map (·.1)).Nodup) (nd' : (fl'.map (·.1)).Nodup) (h9 : ∀ q c, getF fl' q = some c → q.length ≤ 9) {b : List Str} {k : Str} (hk : ∃ c, getF fl' (b ++ [k]) = some c) (ho : ∀ j r, j ≠ k → getF fl' (b ++ j :: r) = getF fl (b ++ j :: r)) :
    doc fl' b = insD (below fl b) (prD fl b) k (valD fl' (b ++ [k])) := by
  have hb : below fl' b = ((below fl b).filter fun j => decide (LtS j k)) ++ [k] ++ ((below fl b).filter fun j => decide (LtS k j)) := by
    refine below_of nd' (ins_sorted (below_sorted nd b) k) fun j => ?_
    rw [List.mem_append, List.mem_append, List.mem_filter, List.mem_filter, List.mem_singleton, decide_eq_true_iff, decide_eq_true_iff, mem_below]
    by_cases e : j = k
    · subst e
      exact ⟨fun _ => hk, fun _ => .inl (.inr rfl)⟩
    · rw [ho j [] e]
      constructor
      · rintro ((h | h) | h)
        · exact h.1
        · exact absurd h e
        · exact h.1
      · intro h
        rcases LtS.total e with z | z
        · exact .inl (.inl ⟨h, z⟩)
        · exact .inr ⟨h, z⟩
  have pr : ∀ j, j ≠ k → prD fl' b j = prD fl b j := fun j e => by
    unfold prD
    rw [valD_congr nd' nd (ho j [] e) fun i r => by rw [List.append_assoc]; exact ho j (i :: r) e]
  rw [doc_eq h9, hb]
  show List.map (prD fl' b) _ = _
  rw [List.map_append, List.map_append]
  unfold insD
  congr 1
  · congr 1
    exact List.map_congr_left fun j hj => pr j fun e => by
      subst e
      exact LtS.irrefl _ (of_decide_eq_true (List.mem_filter.mp hj).2)
  · exact List.map_congr_left fun j hj => pr j fun e => by
      subst e
      exact LtS.irrefl _ (of_decide_eq_true (List.mem_filter.mp hj).2)
/-! ### set and removed -/
theorem set_other (fl : Fl) (b : List Str) (k : Str) (r : List Str) (c : Sc) (j : Str) (s : List Str) (h : j ≠ k) : getF (setF fl (b ++ k :: r) c) (b ++ j :: s) = getF fl (b ++ j :: s) := by
  have n1 : ¬ b ++ j :: s = b ++ k :: r := fun e => by
    have := List.append_cancel_left e
    injection this with e1
    exact h e1
  have n2 : ∀ n, ¬ (b ++ k :: r).take n = b ++ j :: s := fun n e => by
    have hl : b.length < n := by
      have := congrArg List.length e
      simp at this
      omega
    rw [List.take_append, List.take_of_length_le (by omega)] at e
    have := List.append_cancel_left e
    obtain ⟨m, hm⟩ : ∃ m, n - b.length = m + 1 := ⟨n - b.length - 1, by omega⟩
    rw [hm, List.take_succ_cons] at this
    injection this with e1
    exact h e1.symm
  have n3 : ∀ n, ¬ (b ++ j :: s).take n = b ++ k :: r := fun n e => by
    have hl : b.length < n := by
      have := congrArg List.length e
      simp at this
      omega
    rw [List.take_append, List.take_of_length_le (by omega)] at e
    have := List.append_cancel_left e
    obtain ⟨m, hm⟩ : ∃ m, n - b.length = m + 1 := ⟨n - b.length - 1, by omega⟩
    rw [hm, List.take_succ_cons] at this
    injection this with e1
    exact h e1
  rw [getF_set, if_neg n1, if_neg (fun z => n2 _ z.2.2.symm), if_neg (n3 _)]
theorem cut_other (fl : Fl) (b : List Str) (k : Str) (r : List Str) (j : Str) (s : List Str) (h : j ≠ k) : getF (cutF fl (b ++ k :: r)) (b ++ j :: s) = getF fl (b ++ j :: s) := by
  have n3 : ∀ n, ¬ (b ++ j :: s).take n = b ++ k :: r := fun n e => by
    have hl : b.length < n := by
      have := congrArg List.length e
      simp at this
      omega
    rw [List.take_append, List.take_of_length_le (by omega)] at e
    have := List.append_cancel_left e
    obtain ⟨m, hm⟩ : ∃ m, n - b.length = m + 1 := ⟨n - b.length - 1, by omega⟩
    rw [hm, List.take_succ_cons] at this
    injection this with e1
    exact h e1
  rw [getF_cut, if_neg (n3 _)]
theorem set_first (fl : Fl) (b : List Str) (k : Str) (r : List Str) (c : Sc) : getF (setF fl (b ++ k :: r) c) (b ++ [k]) = some (if r = [] then c else .recd) := by
  rw [getF_set]
  by_cases e : r = []
  · subst e
    rw [if_pos rfl, if_pos rfl]
  · have l1 : 0 < r.length := List.length_pos_iff.mpr e
    rw [if_neg (fun z => e (by have := List.append_cancel_left z; injection this with _ e2; exact e2.symm)), if_neg e, if_pos]
    refine ⟨by simp, by simp; omega, ?_⟩
    rw [List.take_append, List.take_of_length_le (by simp)]
    simp
/-- the fields of what a path holds -/
theorem valD_fields {fl : Fl} (up : Up fl) {p : List Str} (hp : p ≠ []) : valD fl p = .tup [.str (Str.ofString "record"), .tup (doc fl p)] ∨ ((valD fl p = .non ∨ ∃ c, c ≠ .recd ∧ valD fl p = .tup (scD c)) ∧ doc fl p = []) := by
  cases h : getF fl p with
  | none =>
    refine .inr ⟨.inl (valD_none h), ?_⟩
    rw [doc_eq up.nine, up.below hp (by rw [h]; exact fun z => by cases z)]
    rfl
  | some c =>
    by_cases n : c = .recd
    · subst n
      exact .inl (valD_recd h)
    · refine .inr ⟨.inr ⟨c, n, valD_sc h n⟩, ?_⟩
      rw [doc_eq up.nine, up.below hp (by rw [h]; exact fun z => n (Option.some.inj z))]
      rfl
theorem nd_set {fl : Fl} (h : (fl.map (·.1)).Nodup) (p : List Str) (c : Sc) : ((setF fl p c).map (·.1)).Nodup := nd_put (nd_ups (nd_cut h _) _ _) _ _
theorem nine_set {fl : Fl} (h : ∀ q c, getF fl q = some c → q.length ≤ 9) {p : List Str} (hp : p.length ≤ 9) (c : Sc) : ∀ q d, getF (setF fl p c) q = some d → q.length ≤ 9 := fun q d e => by
  rw [getF_set] at e
  by_cases z : q = p
  · rw [z]; exact hp
  · rw [if_neg z] at e
    by_cases y : 1 ≤ q.length ∧ q.length < p.length ∧ q = p.take q.length
    · omega
    · rw [if_neg y] at e
      by_cases x : q.take p.length = p
      · rw [if_pos x] at e; cases e
      · rw [if_neg x] at e
        exact h q d e
theorem nine_cut {fl : Fl} (h : ∀ q c, getF fl q = some c → q.length ≤ 9) (p : List Str) : ∀ q d, getF (cutF fl p) q = some d → q.length ≤ 9 := fun q d e => by
  rw [getF_cut] at e
  by_cases x : q.take p.length = p
  · rw [if_pos x] at e; cases e
  · rw [if_neg x] at e
    exact h q d e
theorem below_lens {fl : Fl} (h : ∀ x ∈ fl, ∀ k ∈ x.1, k.length ≤ 1000) (p : List Str) : ∀ j ∈ below fl p, j.length ≤ 1000 := fun j hj => by
  obtain ⟨c, hc⟩ := mem_below.mp hj
  exact h _ (getF_mem hc) j (by simp)
theorem cut_first {fl : Fl} {b : List Str} {k : Str} {r : List Str} (h : r ≠ []) : getF (cutF fl (b ++ k :: r)) (b ++ [k]) = getF fl (b ++ [k]) := by
  have l1 : 0 < r.length := List.length_pos_iff.mpr h
  rw [getF_cut, if_neg]
  intro e
  have := congrArg List.length e
  rw [List.length_take, List.length_append, List.length_append, List.length_cons, List.length_cons, List.length_nil] at this
  omega
theorem doc_del {fl : Fl} (nd : (fl.map (·.1)).Nodup) (h9 : ∀ q c, getF fl q = some c → q.length ≤ 9) (b : List Str) (k : Str) : doc (cutF fl (b ++ [k])) b = ((below fl b).filter fun j => !decide (j = k)).map (prD fl b) := by
  have nd' := nd_cut nd (b ++ [k])
  have hb : below (cutF fl (b ++ [k])) b = (below fl b).filter fun j => !decide (j = k) := by
    refine below_of nd' ((below_sorted nd b).sublist List.filter_sublist) fun j => ?_
    rw [List.mem_filter, mem_below]
    by_cases e : j = k
    · subst e
      rw [getF_cut, if_pos (by rw [List.take_of_length_le (Nat.le_refl _)])]
      simp
    · rw [cut_other fl b k [] j [] e]
      simp [e]
  rw [doc_eq (nine_cut h9 _), hb]
  refine List.map_congr_left fun j hj => ?_
  have e : j ≠ k := by simpa using (List.mem_filter.mp hj).2
  unfold prD
  rw [valD_congr nd' nd (cut_other fl b k [] j [] e) fun i r => by rw [List.append_assoc]; exact cut_other fl b k [] j (i :: r) e]
theorem doc_kept {fl : Fl} (up : Up fl) (nd : (fl.map (·.1)).Nodup) {b : List Str} {k : Str} {r : List Str} (hr : r ≠ []) (hn : getF fl (b ++ [k]) ≠ some .recd) : doc (cutF fl (b ++ k :: r)) b = doc fl b := by
  refine doc_congr (nd_cut nd _) nd fun j s => ?_
  by_cases e : j = k
  · subst e
    rw [getF_cut]
    by_cases z : (b ++ j :: s).take (b ++ j :: r).length = b ++ j :: r
    · rw [if_pos z]
      cases g : getF fl (b ++ j :: s) with
      | none => rfl
      | some c =>
        have l1 : 0 < r.length := List.length_pos_iff.mpr hr
        have l2 := congrArg List.length z
        rw [List.length_take, List.length_append, List.length_append, List.length_cons, List.length_cons] at l2
        have := up.up _ c g (b.length + 1) (by omega) (by rw [List.length_append, List.length_cons]; omega)
        rw [List.take_append, List.take_of_length_le (by omega), show b.length + 1 - b.length = 1 by omega] at this
        exact absurd this hn
    · rw [if_neg z]
  · exact cut_other fl b k r j s e
theorem Wf.cut {ws : List Str} {fl : Fl} (h : Wf ws fl) (p : List Str) : Wf ws (cutF fl p) := by
  have k : ∀ q c, getF (cutF fl p) q = some c → q.take p.length ≠ p ∧ getF fl q = some c := fun q c e => by
    rw [getF_cut] at e
    by_cases z : q.take p.length = p
    · rw [if_pos z] at e; cases e
    · rw [if_neg z] at e
      exact ⟨z, e⟩
  refine ⟨nd_cut h.nd p, fun q c e => h.pa q c (k q c e).2, fun q c e j j1 j2 => ?_⟩
  obtain ⟨n, g⟩ := k q c e
  rw [getF_cut, if_neg]
  · exact h.up q c g j j1 j2
  · intro z
    have l := congrArg List.length z
    rw [List.length_take, List.length_take] at l
    refine n ?_
    have : (q.take j).take p.length = q.take p.length := take_take_le (by omega)
    rw [← this]
    exact z
end My

namespace My
open PySem L2
/-! ### plain data as data of the model's own == -/
mutual
def Dt.py : Dt → PyData
  | .non => .none
  | .bl b => .bool b
  | .int i => .int i
  | .str s => .str s
  | .tup xs => .tuple (Dt.pys xs)
def Dt.pys : List Dt → List PyData
  | [] => []
  | d :: ds => d.py :: Dt.pys ds
end
mutual
def Dt.lay : Dt → Bool
  | .str s => PyData.strOk s
  | .tup xs => Dt.lays xs
  | _ => true
def Dt.lays : List Dt → Bool
  | [] => true
  | d :: ds => d.lay && Dt.lays ds
end
mutual
theorem DT.dp {K : PySem.W.Frag} {H : Hp} : ∀ (d : Dt) (v : V), DT K H v d → Dp K H v d.py
  | .non, _, h => by cases h; exact .non
  | .bl b, _, h => by cases h; exact .bl _
  | .int b, _, h => by cases h; exact .int _
  | .str b, _, h => by cases h; exact .str _
  | .tup ds, _, h => by
    cases h with
    | tup h1 h2 => exact .tup h1 (DTs.dps ds _ h2)
theorem DTs.dps {K : PySem.W.Frag} {H : Hp} : ∀ (ds : List Dt) (vs : List V), DTs K H vs ds → DpAll K H vs (Dt.pys ds)
  | [], _, h => by cases h; exact .nil
  | d :: ds, _, h => by
    cases h with
    | cons h1 h2 => exact .cons (DT.dp d _ h1) (DTs.dps ds _ h2)
end
mutual
theorem lay_py : ∀ d : Dt, d.lay = true → d.py.canLay0 = true
  | .non, _ => by rw [Dt.py, PyData.canLay0]
  | .bl b, _ => by rw [Dt.py, PyData.canLay0]
  | .int b, _ => by rw [Dt.py, PyData.canLay0]
  | .str b, h => by rw [Dt.py, PyData.canLay0]; exact h
  | .tup ds, h => by
    rw [Dt.py, PyData.canLay0]
    exact lays_py ds (by rw [Dt.lay] at h; exact h)
theorem lays_py : ∀ ds : List Dt, Dt.lays ds = true → PyData.canLayAll0 (Dt.pys ds) = true
  | [], _ => by rw [Dt.pys, PyData.canLayAll0]
  | d :: ds, h => by
    rw [Dt.lays, Bool.and_eq_true] at h
    rw [Dt.pys, PyData.canLayAll0, lay_py d h.1, lays_py ds h.2]
    rfl
end
mutual
theorem depth_py : ∀ d : Dt, d.py.depth ≤ d.deep
  | .non => by rw [Dt.py, PyData.depth]; exact Nat.zero_le _
  | .bl b => by rw [Dt.py, PyData.depth]; exact Nat.zero_le _
  | .int b => by rw [Dt.py, PyData.depth]; exact Nat.zero_le _
  | .str b => by rw [Dt.py, PyData.depth]; exact Nat.zero_le _
  | .tup ds => by
    have := depths_py ds
    rw [Dt.py, PyData.depth, Dt.deep]
    omega
theorem depths_py : ∀ ds : List Dt, PyData.depthAll (Dt.pys ds) ≤ Dt.deeps ds
  | [] => by rw [Dt.pys, PyData.depthAll]; exact Nat.zero_le _
  | d :: ds => by
    have h1 := depth_py d
    have h2 := depths_py ds
    rw [Dt.pys, PyData.depthAll, Dt.deeps]
    omega
end
theorem shaped_dt {d : Dt} (h : d.lay = true) (k : d.deep ≤ 60) : SeqAt.shaped d.py = true := by
  unfold SeqAt.shaped
  rw [lay_py d h, decide_eq_true (by have := depth_py d; omega)]
  rfl
theorem shaped_dts {ds : List Dt} (h : Dt.lays ds = true) (k : Dt.deeps ds ≤ 60) : SeqAt.shaped (.list (Dt.pys ds)) = true := by
  unfold SeqAt.shaped
  have := depths_py ds
  rw [PyData.canLay0, lays_py ds h, PyData.depth, decide_eq_true (by omega)]
  rfl
theorem lays_of {ds : List Dt} (h : ∀ d ∈ ds, d.lay = true) : Dt.lays ds = true := by
  induction ds with
  | nil => rw [Dt.lays]
  | cons d ds ih => rw [Dt.lays, h d List.mem_cons_self, ih fun x hx => h x (List.mem_cons_of_mem _ hx)]; rfl
theorem lay_sc {c : Sc} (h : scOk c) : (Dt.tup (scD c)).lay = true := by
  cases c with
  | num n =>
    have e : PyData.strOk (Str.ofString "number") = true := by decide +kernel
    rw [Dt.lay, scD, Dt.lays, Dt.lays, Dt.lays, Dt.lay, Dt.lay, e]
    · rfl
    all_goals intros; contradiction
  | text z =>
    have e : PyData.strOk (Str.ofString "text") = true := by decide +kernel
    rw [Dt.lay, scD, Dt.lays, Dt.lays, Dt.lays, Dt.lay, Dt.lay, e, strOk_sg h.2]
    rfl
  | _ => decide +kernel
theorem pys_map : ∀ ds : List Dt, Dt.pys ds = ds.map Dt.py
  | [] => rfl
  | d :: ds => by rw [Dt.pys, pys_map ds, List.map_cons]
theorem eqv_nil (ds : List Dt) : PyData.eqv (.list (Dt.pys ds)) (.list []) = ds.isEmpty := by
  cases ds with
  | nil => rfl
  | cons d ds => rfl
section
variable {K : PySem.W.Frag} {H : Hp} {a b : Addr} {vs : List V} {ds : List Dt} {Q : VK}
theorem ne_nil (h : SqL K H a vs) (k : DTs K H vs ds) (hl : Dt.lays ds = true) (hd : Dt.deeps ds ≤ 60) (hb : SqL K H b []) (q : Q (.bl (!ds.isEmpty)) H) : rNeD K (.ref a) (.ref b) H Q :=
  ⟨.list (Dt.pys ds), .list [], .lst h (DTs.dps ds vs k), .lst hb .nil, shaped_dts hl hd, by decide +kernel, by rw [eqv_nil]; exact q⟩
theorem eq_nil (h : SqL K H a vs) (k : DTs K H vs ds) (hl : Dt.lays ds = true) (hd : Dt.deeps ds ≤ 60) (hb : SqL K H b []) (q : Q (.bl ds.isEmpty) H) : rEqD K (.ref a) (.ref b) H Q :=
  ⟨.list (Dt.pys ds), .list [], .lst h (DTs.dps ds vs k), .lst hb .nil, shaped_dts hl hd, by decide +kernel, by rw [eqv_nil]; exact q⟩
end
theorem DTs.lput {K : PySem.W.Frag} {H : Hp} {D : Addr} {acc : List V} {o : HO} {vs : List V} {ds : List Dt} (nb : H D = some (.lst acc)) (h : DTs K H vs ds) : DTs K (upd H D o) vs ds :=
  DTs.mono (fun _ _ h => seqT_put nb (fun _ z => by cases z) (fun _ _ z => by cases z) h) _ _ h
theorem DT.lput {K : PySem.W.Frag} {H : Hp} {D : Addr} {acc : List V} {o : HO} {v : V} {d : Dt} (nb : H D = some (.lst acc)) (h : DT K H v d) : DT K (upd H D o) v d :=
  DT.mono (fun _ _ h => seqT_put nb (fun _ z => by cases z) (fun _ _ z => by cases z) h) _ _ h
/-- an item of data -/
theorem DTs.mem {K : PySem.W.Frag} {H : Hp} {α : Type} {f : α → Dt} {vs : List V} {bs : List α} (h : DTs K H vs (bs.map f)) {v : V} (hv : v ∈ vs) : ∃ b ∈ bs, DT K H v (f b) := by
  obtain ⟨iv, ei⟩ := List.getElem?_of_mem hv
  obtain ⟨d, ed, dv⟩ := h.get' ei
  obtain ⟨c, hm, rfl⟩ := List.mem_map.mp (List.mem_of_getElem? ed)
  exact ⟨c, hm, dv⟩
theorem DTs.perm {K : PySem.W.Frag} {H : Hp} {α : Type} {f : α → Dt} {vs us : List V} (pm : us.Perm vs) : ∀ {bs : List α}, DTs K H vs (bs.map f) → ∃ cs : List α, cs.Perm bs ∧ DTs K H us (cs.map f) := by
  induction pm with
  | nil => exact fun {bs} h => ⟨bs, .refl _, h⟩
  | @cons x l1 l2 _ ih =>
    intro bs h
    cases bs with
    | nil => cases h
    | cons b bs =>
      cases h with
      | cons h1 h2 =>
        obtain ⟨cs, p, k⟩ := ih h2
        exact ⟨b :: cs, p.cons b, .cons h1 k⟩
  | swap x y l =>
    intro bs h
    cases bs with
    | nil => cases h
    | cons b bs =>
      cases bs with
      | nil => cases h with | cons h1 h2 => cases h2
      | cons c bs =>
        cases h with
        | cons h1 h2 => cases h2 with | cons h2 h3 => exact ⟨c :: b :: bs, .swap _ _ _, .cons h2 (.cons h1 h3)⟩
  | trans p1 p2 ih1 ih2 =>
    intro bs h
    obtain ⟨cs, q1, k1⟩ := ih2 h
    obtain ⟨es, q2, k2⟩ := ih1 k1
    exact ⟨es, q2.trans q1, k2⟩
theorem num_sg (n : Int) : SgT (Str.ofString (toString n)) := by
  have nat : ∀ m : Nat, SgT (Str.ofString (toString (m : Int))) := fun m c hc => by
    have e : (Str.ofString (toString (m : Int))).cps.toList = TL.numL m := TL.tl_num m
    rw [e] at hc
    have := TL.numL_digits m c hc
    exact ⟨by omega, by omega, by omega⟩
  rcases n with m | m
  · exact nat m
  · have e : toString (Int.negSucc m) = "-" ++ toString (m + 1) := rfl
    rw [e, ofString_app]
    refine SgT.app (fun c hc => ?_) ?_
    · have : ∀ c ∈ (Str.ofString "-").cps.toList, Sg c := by decide +kernel
      exact this c hc
    have := nat (m + 1)
    exact this
end My

namespace My
open PySem L2
/-! ### effects -/
structure Ef where
  w : Str
  p : List Str
  c : Option Sc
  q : Option (List Str)
def scO : Option Sc → Dt
  | none => .non
  | some c => .tup (scD c)
def ptO : Option (List Str) → Dt
  | none => .non
  | some p => ptD p
def efD (e : Ef) : Dt := .tup [.str e.w, ptD e.p, scO e.c, ptO e.q]
def mkF (fl : Fl) (e : Ef) : Fl := match e.c with
  | none => cutF fl e.p
  | some c => setF fl e.p c
def rmS : Str := Str.ofString "remove"
structure EfOk (e : Ef) : Prop where
  k : (e.c = none ∧ e.w = rmS) ∨ (∃ c, e.c = some c ∧ c ≠ .recd ∧ scOk c ∧ e.w ≠ rmS)
  p1 : 1 ≤ e.p.length
  p5 : e.p.length ≤ 5
/-- what calls of with_scalar and without ask of a table -/
structure Gd (fl : Fl) : Prop where
  up : Up fl
  nd : (fl.map (·.1)).Nodup
  len : fl.length ≤ 100000
  keys : ∀ x ∈ fl, ∀ k ∈ x.1, k.length ≤ 1000
theorem Wf.gd {ws : List Str} {fl : Fl} (h : Wf ws fl) (hw : ∀ z ∈ ws, z.length ≤ 1000) (hl : fl.length ≤ 100000) : Gd fl :=
  ⟨h.toUp, h.nd, hl, fun x hx k hk => hw k ((h.pa x.1 x.2 (getF_nd h.nd hx)).2.2.1 k hk)⟩
theorem Wf.mkE {ws : List Str} {fl : Fl} (h : Wf ws fl) {e : Ef} (ok : EfOk e) (hk : ∀ k ∈ e.p, k ∈ ws) : Wf ws (mkF fl e) := by
  unfold mkF
  rcases ok.k with ⟨h1, _⟩ | ⟨c, h1, _, h3, _⟩
  · rw [h1]; exact h.cut e.p
  · rw [h1]; exact h.set ok.p1 ok.p5 hk h3
/-- no more paths than there are -/
theorem nd_sub {α : Type} [DecidableEq α] : ∀ {l m : List α}, l.Nodup → (∀ x ∈ l, x ∈ m) → l.length ≤ m.length
  | [], _, _, _ => Nat.zero_le _
  | a :: l, m, nd, h => by
    rw [List.nodup_cons] at nd
    have ha : a ∈ m := h a List.mem_cons_self
    have ih := nd_sub (l := l) (m := m.erase a) nd.2 fun x hx => (List.mem_erase_of_ne (fun z => nd.1 (by rw [← z]; exact hx))).mpr (h x (List.mem_cons_of_mem _ hx))
    rw [List.length_erase_of_mem ha] at ih
    have : 0 < m.length := List.length_pos_of_mem ha
    rw [List.length_cons]
    omega
def pre6 (p : List Str) : List (List Str) := (List.range 6).map fun i => p.take i
theorem mk_paths {fl : Fl} {e : Ef} (h5 : e.p.length ≤ 5) {q : List Str} {c : Sc} (h : getF (mkF fl e) q = some c) : (∃ d, getF fl q = some d) ∨ q ∈ pre6 e.p := by
  unfold mkF at h
  cases ec : e.c with
  | none =>
    rw [ec] at h
    simp only at h
    rw [getF_cut] at h
    by_cases z : q.take e.p.length = e.p
    · rw [if_pos z] at h; cases h
    · rw [if_neg z] at h
      exact .inl ⟨c, h⟩
  | some d =>
    rw [ec] at h
    simp only at h
    rw [getF_set] at h
    by_cases z : q = e.p
    · exact .inr (List.mem_map.mpr ⟨e.p.length, List.mem_range.mpr (by omega), by rw [List.take_length, z]⟩)
    · rw [if_neg z] at h
      by_cases z2 : 1 ≤ q.length ∧ q.length < e.p.length ∧ q = e.p.take q.length
      · exact .inr (List.mem_map.mpr ⟨q.length, List.mem_range.mpr (by omega), z2.2.2.symm⟩)
      · rw [if_neg z2] at h
        by_cases z3 : q.take e.p.length = e.p
        · rw [if_pos z3] at h; cases h
        · rw [if_neg z3] at h
          exact .inl ⟨c, h⟩
/-- all paths are among U -/
def InU (U : List (List Str)) (fl : Fl) : Prop := ∀ x ∈ fl, x.1 ∈ U
theorem InU.mk {U : List (List Str)} {fl : Fl} (h : InU U fl) {e : Ef} (h5 : e.p.length ≤ 5) (nd : ((mkF fl e).map (·.1)).Nodup) (hu : ∀ q ∈ pre6 e.p, q ∈ U) : InU U (mkF fl e) := fun x hx => by
  rcases mk_paths h5 (getF_nd nd hx) with ⟨d, g⟩ | g
  · exact h (x.1, d) (getF_mem g)
  · exact hu _ g
theorem InU.len {U : List (List Str)} {fl : Fl} (h : InU U fl) (nd : (fl.map (·.1)).Nodup) : fl.length ≤ U.length := by
  have := nd_sub nd fun q hq => by
    obtain ⟨x, hx, rfl⟩ := List.mem_map.mp hq
    exact h x hx
  rw [List.length_map] at this
  exact this
/-- the table after the first i effects -/
def fldF (fl : Fl) (es : List Ef) (i : Nat) : Fl := (es.take i).foldl mkF fl
theorem fldF_zero (fl : Fl) (es : List Ef) : fldF fl es 0 = fl := rfl
theorem fldF_succ {fl : Fl} {es : List Ef} {i : Nat} {e : Ef} (h : es[i]? = some e) : fldF fl es (i + 1) = mkF (fldF fl es i) e := by
  obtain ⟨hl, ee⟩ := List.getElem?_eq_some_iff.mp h
  unfold fldF
  rw [List.take_succ_eq_append_getElem hl, List.foldl_append, ee]
  rfl
theorem fldF_app (fl : Fl) (es fs : List Ef) {i : Nat} (h : i ≤ es.length) : fldF fl (es ++ fs) i = fldF fl es i := by
  unfold fldF
  rw [List.take_append_of_le_length h]
theorem fldF_snoc (fl : Fl) (es : List Ef) (e : Ef) : fldF fl (es ++ [e]) (es.length + 1) = mkF (fldF fl es es.length) e := by
  unfold fldF
  rw [List.take_of_length_le (by rw [List.length_append]; exact Nat.le_refl _), List.foldl_append, List.take_length]
  rfl
theorem fldF_take (fl : Fl) (es : List Ef) {i n : Nat} (h : i ≤ n) : fldF fl (es.take n) i = fldF fl es i := by
  unfold fldF
  rw [List.take_take, Nat.min_eq_left h]
theorem fldF_drop (fl : Fl) (es : List Ef) (n i : Nat) : fldF (fldF fl es n) (es.drop n) i = fldF fl es (n + i) := by
  unfold fldF
  rw [← List.foldl_append, List.take_add]
theorem Wf.fld {ws : List Str} {fl : Fl} (h : Wf ws fl) {es : List Ef} (ok : ∀ e ∈ es, EfOk e ∧ ∀ k ∈ e.p, k ∈ ws) : ∀ i, i ≤ es.length → Wf ws (fldF fl es i)
  | 0, _ => h
  | i + 1, hi => by
    have k := List.getElem_mem (l := es) (n := i) (by omega)
    rw [fldF_succ (List.getElem?_eq_getElem (by omega))]
    exact (h.fld ok i (by omega)).mkE (ok _ k).1 (ok _ k).2
theorem InU.fld {ws : List Str} {U : List (List Str)} {fl : Fl} (h : Wf ws fl) (hu : InU U fl) {es : List Ef} (ok : ∀ e ∈ es, EfOk e ∧ ∀ k ∈ e.p, k ∈ ws) (he : ∀ e ∈ es, ∀ q ∈ pre6 e.p, q ∈ U) : ∀ i, i ≤ es.length → InU U (fldF fl es i)
  | 0, _ => hu
  | i + 1, hi => by
    have k := List.getElem_mem (l := es) (n := i) (by omega)
    have e := fldF_succ (fl := fl) (List.getElem?_eq_getElem (l := es) (i := i) (by omega))
    have w := h.fld ok (i + 1) hi
    rw [e] at w ⊢
    exact (InU.fld h hu ok he i (by omega)).mk (ok _ k).1.p5 w.nd (he _ k)
/-- an effect that stands in the heap, its path a tracked tuple -/
structure EfAt (K : PySem.W.Frag) (H : Hp) (v : V) (e : Ef) : Prop where
  ex : ∃ a b u s, v = .ref a ∧ SqT K H a [.str e.w, .ref b, u, s] ∧ H b = some (.tup (e.p.map V.str)) ∧ DT K H u (scO e.c) ∧ DT K H s (ptO e.q)
theorem DT.path {K : PySem.W.Frag} {H : Hp} {b : Addr} {p : List Str} (h : SqT K H b (p.map V.str)) : DT K H (.ref b) (ptD p) := .tup h (DTs.strs p)
theorem EfAt.dt {K : PySem.W.Frag} {H : Hp} {v : V} {e : Ef} (h : EfAt K H v e) : DT K H v (efD e) := by
  obtain ⟨a, b, u, s, rfl, h1, h2, h3, h4⟩ := h.ex
  exact .tup h1 (.cons (.str _) (.cons (DT.path (SqT.of h2)) (.cons h3 (.cons h4 .nil))))
theorem EfAt.same {K : PySem.W.Frag} {H H' : Hp} {v : V} {e : Ef} (h : EfAt K H v e) (s : Same H H') : EfAt K H' v e := by
  obtain ⟨a, b, u, x, rfl, h1, h2, h3, h4⟩ := h.ex
  exact ⟨a, b, u, x, rfl, s.seqT h1, s _ _ h2, h3.same s, h4.same s⟩
theorem EfAt.go {K : PySem.W.Frag} {H H' : Hp} {t : Addr} {v : V} {e : Ef} (h : EfAt K H v e) (hT : Tape H t) (s : Sm t H H') : EfAt K H' v e := by
  obtain ⟨a, b, u, x, rfl, h1, h2, h3, h4⟩ := h.ex
  obtain ⟨l, ns, y, b', c, k1, _⟩ := hT.ex
  exact ⟨a, b, u, x, rfl, seqT_go hT s h1, s _ _ (ne_of h2 k1 (fun z => by cases z)) h2, h3.go hT s, h4.go hT s⟩
theorem EfAt.lput {K : PySem.W.Frag} {H : Hp} {D : Addr} {acc : List V} {o : HO} {v : V} {e : Ef} (nb : H D = some (.lst acc)) (h : EfAt K H v e) : EfAt K (upd H D o) v e := by
  obtain ⟨a, b, u, x, rfl, h1, h2, h3, h4⟩ := h.ex
  exact ⟨a, b, u, x, rfl, seqT_put nb (fun _ z => by cases z) (fun _ _ z => by cases z) h1, by rw [upd_ne (ne_of h2 nb (by intro z; cases z))]; exact h2, h3.lput nb, h4.lput nb⟩
theorem FlatAt.lput {K : PySem.W.Frag} {H : Hp} {D d : Addr} {acc : List V} {o : HO} {fl : Fl} (nb : H D = some (.lst acc)) (h : FlatAt K H d fl) : FlatAt K (upd H D o) d fl := by
  obtain ⟨kvs, h1, h2⟩ := h.ex
  exact ⟨kvs, by rw [upd_ne (ne_of h1 nb (by intro z; cases z))]; exact h1, h2.mono fun _ _ q => seqT_put nb (fun _ z => by cases z) (fun _ _ z => by cases z) q⟩
theorem Al2.dts {K : PySem.W.Frag} {H : Hp} {vs : List V} {es : List Ef} (h : Al2 (EfAt K H) vs es) : DTs K H vs (es.map efD) := by
  induction h with
  | nil => exact .nil
  | cons h1 _ ih => exact .cons h1.dt ih
theorem Al2.sub {α β : Type} {R : α → β → Prop} {l : List α} {m : List β} (h : Al2 R l m) (n : Nat) : Al2 R (l.take n) (m.take n) := by
  induction h generalizing n with
  | nil => rw [List.take_nil, List.take_nil]; exact .nil
  | cons h1 _ ih =>
    cases n with
    | zero => exact .nil
    | succ n => exact .cons h1 (ih n)
theorem Al2.off {α β : Type} {R : α → β → Prop} {l : List α} {m : List β} (h : Al2 R l m) (n : Nat) : Al2 R (l.drop n) (m.drop n) := by
  induction h generalizing n with
  | nil => rw [List.drop_nil, List.drop_nil]; exact .nil
  | cons h1 h2 ih =>
    cases n with
    | zero => exact .cons h1 h2
    | succ n => exact ih n
theorem Al2.rep {α β : Type} {R : α → β → Prop} {l : List α} {m : List β} (h : Al2 R l m) : ∀ n, Al2 R (List.replicate n l).flatten (List.replicate n m).flatten
  | 0 => .nil
  | n + 1 => by
    rw [List.replicate_succ, List.replicate_succ, List.flatten_cons, List.flatten_cons]
    exact h.app (h.rep n)
theorem at_end {α : Type} {xs : List α} {v : α} (h : xs[xs.length - 1]? = some v) : atI xs (-1) = some v := by
  have hl := (List.getElem?_eq_some_iff.mp h).1
  unfold atI ixN
  rw [if_neg (by decide), if_pos (by omega)]
  show xs[(-1 + (xs.length : Int)).toNat]? = some v
  rw [show (-1 + (xs.length : Int)).toNat = xs.length - 1 by omega]
  exact h
/-- the tables before and behind each effect, as dicts -/
structure Sts (K : PySem.W.Frag) (H : Hp) (xs : List V) (fl : Fl) (es : List Ef) : Prop where
  len : xs.length = es.length + 1
  at' : ∀ i, i ≤ es.length → ∃ d, xs[i]? = some (.ref d) ∧ FlatAt K H d (fldF fl es i)
section
variable {K : PySem.W.Frag} {H H' : Hp} {xs : List V} {fl : Fl} {es : List Ef}
theorem Sts.same (h : Sts K H xs fl es) (s : Same H H') : Sts K H' xs fl es := ⟨h.len, fun i hi => by obtain ⟨d, a, b⟩ := h.at' i hi; exact ⟨d, a, b.same s⟩⟩
theorem Sts.go {t : Addr} (h : Sts K H xs fl es) (hT : Tape H t) (s : Sm t H H') : Sts K H' xs fl es := ⟨h.len, fun i hi => by obtain ⟨d, a, b⟩ := h.at' i hi; exact ⟨d, a, b.go hT s⟩⟩
theorem Sts.lput {D : Addr} {acc : List V} {o : HO} (nb : H D = some (.lst acc)) (h : Sts K H xs fl es) : Sts K (upd H D o) xs fl es := ⟨h.len, fun i hi => by obtain ⟨d, a, b⟩ := h.at' i hi; exact ⟨d, a, b.lput nb⟩⟩
theorem Sts.last (h : Sts K H xs fl es) : ∃ d, atI xs (-1) = some (.ref d) ∧ FlatAt K H d (fldF fl es es.length) := by
  obtain ⟨d, a, b⟩ := h.at' es.length (Nat.le_refl _)
  exact ⟨d, at_end (by rw [h.len]; exact a), b⟩
theorem Sts.snoc (h : Sts K H xs fl es) {r : Addr} {e : Ef} (hr : FlatAt K H r (mkF (fldF fl es es.length) e)) : Sts K H (xs ++ [.ref r]) fl (es ++ [e]) := by
  refine ⟨by rw [List.length_append, List.length_append, h.len]; rfl, fun i hi => ?_⟩
  rw [List.length_append] at hi
  have hi : i ≤ es.length + 1 := hi
  by_cases z : i = es.length + 1
  · subst z
    refine ⟨r, by rw [List.getElem?_append_right (by rw [h.len]; exact Nat.le_refl _), h.len, Nat.sub_self]; rfl, ?_⟩
    rw [fldF_snoc]
    exact hr
  · obtain ⟨d, a, b⟩ := h.at' i (by omega)
    refine ⟨d, by rw [List.getElem?_append_left (by have := h.len; omega)]; exact a, ?_⟩
    rw [fldF_app fl es [e] (by omega)]
    exact b
end
theorem Sts.one {K : PySem.W.Frag} {H : Hp} {d : Addr} {fl : Fl} (h : FlatAt K H d fl) : Sts K H [.ref d] fl [] := ⟨rfl, fun i hi => by
  have e : i = 0 := Nat.le_zero.mp hi
  subst e
  exact ⟨d, rfl, h⟩⟩
end My

namespace My
open PySem L2
/-! ### a def with a keyword-only parameter that has a default -/
structure CalE (P : Program) (w : World) (K : PySem.W.Frag) (mg : Str → Option Value) (base : Heap) (x : Str) (k : Nat) (ps ks : List Str) (n : Nat) (d : V) (sp : PySem.W.Frag → Sp) (f : Addr) (fd : FuncData) (dv : Value) : Prop where
  ok : FnOk P w K mg base CX0 k f fd ps (sp K)
  b : Binds K fd ps [dv]
  r : RelV d dv
  kb : KBn K fd ps n ks (fun us ws => us ++ ws) (fun vs zs => vs ++ zs)
  kp : PySem.W.keepIn K (.ref f) = true
  m : mg x = some (.ref f)
/-! ### data whose tuples are all tracked -/
mutual
inductive TT (H : Hp) : V → Dt → Prop
  | non : TT H .non .non
  | bl (b : Bool) : TT H (.bl b) (.bl b)
  | int (i : Int) : TT H (.int i) (.int i)
  | str (z : Str) : TT H (.str z) (.str z)
  | tup {a : Addr} {xs : List V} {ds : List Dt} : H a = some (.tup xs) → TTs H xs ds → TT H (.ref a) (.tup ds)
inductive TTs (H : Hp) : List V → List Dt → Prop
  | nil : TTs H [] []
  | cons {v : V} {vs : List V} {d : Dt} {ds : List Dt} : TT H v d → TTs H vs ds → TTs H (v :: vs) (d :: ds)
end
mutual
theorem TT.mono {H H' : Hp} (k : ∀ a xs, H a = some (.tup xs) → H' a = some (.tup xs)) : ∀ (d : Dt) (v : V), TT H v d → TT H' v d
  | .non, _, h => by cases h; exact .non
  | .bl b, _, h => by cases h; exact .bl _
  | .int b, _, h => by cases h; exact .int _
  | .str b, _, h => by cases h; exact .str _
  | .tup ds, _, h => by
    cases h with
    | tup h1 h2 => exact .tup (k _ _ h1) (TTs.mono k ds _ h2)
theorem TTs.mono {H H' : Hp} (k : ∀ a xs, H a = some (.tup xs) → H' a = some (.tup xs)) : ∀ (ds : List Dt) (vs : List V), TTs H vs ds → TTs H' vs ds
  | [], _, h => by cases h; exact .nil
  | d :: ds, _, h => by
    cases h with
    | cons h1 h2 => exact .cons (TT.mono k d _ h1) (TTs.mono k ds _ h2)
end
mutual
theorem TT.dt {K : PySem.W.Frag} {H : Hp} : ∀ (d : Dt) (v : V), TT H v d → DT K H v d
  | .non, _, h => by cases h; exact .non
  | .bl b, _, h => by cases h; exact .bl _
  | .int b, _, h => by cases h; exact .int _
  | .str b, _, h => by cases h; exact .str _
  | .tup ds, _, h => by
    cases h with
    | tup h1 h2 => exact .tup (SqT.of h1) (TTs.dts ds _ h2)
theorem TTs.dts {K : PySem.W.Frag} {H : Hp} : ∀ (ds : List Dt) (vs : List V), TTs H vs ds → DTs K H vs ds
  | [], _, h => by cases h; exact .nil
  | d :: ds, _, h => by
    cases h with
    | cons h1 h2 => exact .cons (TT.dt d _ h1) (TTs.dts ds _ h2)
end
theorem tup_go {t a : Addr} {H H' : Hp} {xs : List V} (hT : Tape H t) (s : Sm t H H') (h : H a = some (.tup xs)) : H' a = some (.tup xs) := by
  obtain ⟨l, ns, y, b', c, k1, _⟩ := hT.ex
  exact s _ _ (ne_of h k1 (fun z => by cases z)) h
theorem tup_lput {D a : Addr} {H : Hp} {acc xs : List V} {o : HO} (nb : H D = some (.lst acc)) (h : H a = some (.tup xs)) : (upd H D o) a = some (.tup xs) := by
  rw [upd_ne (ne_of h nb (by intro z; cases z))]
  exact h
section
variable {H H' : Hp} {v : V} {d : Dt} {vs : List V} {ds : List Dt}
theorem TT.same (h : TT H v d) (s : Same H H') : TT H' v d := TT.mono (fun _ _ q => s _ _ q) d v h
theorem TTs.same (h : TTs H vs ds) (s : Same H H') : TTs H' vs ds := TTs.mono (fun _ _ q => s _ _ q) ds vs h
theorem TT.go {t : Addr} (h : TT H v d) (hT : Tape H t) (s : Sm t H H') : TT H' v d := TT.mono (fun _ _ q => tup_go hT s q) d v h
theorem TTs.go {t : Addr} (h : TTs H vs ds) (hT : Tape H t) (s : Sm t H H') : TTs H' vs ds := TTs.mono (fun _ _ q => tup_go hT s q) ds vs h
theorem TT.lput {D : Addr} {acc : List V} {o : HO} (nb : H D = some (.lst acc)) (h : TT H v d) : TT (upd H D o) v d := TT.mono (fun _ _ q => tup_lput nb q) d v h
theorem TTs.lput {D : Addr} {acc : List V} {o : HO} (nb : H D = some (.lst acc)) (h : TTs H vs ds) : TTs (upd H D o) vs ds := TTs.mono (fun _ _ q => tup_lput nb q) ds vs h
theorem TT.to {K : PySem.W.Frag} (h : TT H v d) : DT K H v d := TT.dt d v h
theorem TTs.to {K : PySem.W.Frag} (h : TTs H vs ds) : DTs K H vs ds := TTs.dts ds vs h
theorem TTs.append {ws : List V} {es : List Dt} (h : TTs H vs ds) (k : TTs H ws es) : TTs H (vs ++ ws) (ds ++ es) := by
  induction ds generalizing vs with
  | nil => cases h; exact k
  | cons x ds ih =>
    cases h with
    | cons h1 h2 => exact .cons h1 (ih h2)
theorem TTs.strs : ∀ ws : List Str, TTs H (ws.map V.str) (ws.map Dt.str)
  | [] => .nil
  | z :: ws => .cons (.str z) (TTs.strs ws)
theorem TTs.strs_inv {ws : List Str} (h : TTs H vs (ws.map Dt.str)) : vs = ws.map V.str := by
  induction ws generalizing vs with
  | nil => cases h; rfl
  | cons w ws ih =>
    cases h with
    | cons h1 h2 => cases h1; rw [ih h2]; rfl
theorem TT.of_path {a : Addr} {p : List Str} (h : H a = some (.tup (p.map V.str))) : TT H (.ref a) (ptD p) := .tup h (TTs.strs p)
theorem TT.path {p : List Str} (h : TT H v (ptD p)) : ∃ a, v = .ref a ∧ H a = some (.tup (p.map V.str)) := by
  cases h with
  | tup h1 h2 => rw [TTs.strs_inv h2] at h1; exact ⟨_, rfl, h1⟩
theorem TT.tup_inv (h : TT H v (.tup ds)) : ∃ a xs, v = .ref a ∧ H a = some (.tup xs) ∧ TTs H xs ds := by
  cases h with
  | tup h1 h2 => exact ⟨_, _, rfl, h1, h2⟩
end
/-- tuples of two, of three -/
theorem TTs.two {H : Hp} {xs : List V} {d e : Dt} (h : TTs H xs [d, e]) : ∃ v u, xs = [v, u] ∧ TT H v d ∧ TT H u e := by
  cases h with | cons h1 h2 => cases h2 with | cons h2 h3 => cases h3; exact ⟨_, _, rfl, h1, h2⟩
theorem TTs.three {H : Hp} {xs : List V} {d e f : Dt} (h : TTs H xs [d, e, f]) : ∃ v u x, xs = [v, u, x] ∧ TT H v d ∧ TT H u e ∧ TT H x f := by
  cases h with | cons h1 h2 => cases h2 with | cons h2 h3 => cases h3 with | cons h3 h4 => cases h4; exact ⟨_, _, _, rfl, h1, h2, h3⟩
theorem DTs.two {K : PySem.W.Frag} {H : Hp} {xs : List V} {d e : Dt} (h : DTs K H xs [d, e]) : ∃ v u, xs = [v, u] ∧ DT K H v d ∧ DT K H u e := by
  cases h with | cons h1 h2 => cases h2 with | cons h2 h3 => cases h3; exact ⟨_, _, rfl, h1, h2⟩
theorem DTs.three {K : PySem.W.Frag} {H : Hp} {xs : List V} {d e f : Dt} (h : DTs K H xs [d, e, f]) : ∃ v u x, xs = [v, u, x] ∧ DT K H v d ∧ DT K H u e ∧ DT K H x f := by
  cases h with | cons h1 h2 => cases h2 with | cons h2 h3 => cases h3 with | cons h3 h4 => cases h4; exact ⟨_, _, _, rfl, h1, h2, h3⟩
/-- tuples joined, both tracked -/
theorem catA_tt {K : PySem.W.Frag} {H : Hp} {a b : Addr} {xs ys : List V} {Q : VK} (h : H a = some (.tup xs)) (k : H b = some (.tup ys)) (hl : xs.length + ys.length ≤ sizeLine) (q : ∀ p H', Same H H' → H' p = some (.tup (xs ++ ys)) → Q (.ref p) H') : rCatA K (.ref a) (.ref b) H Q :=
  ⟨a, b, xs, ys, rfl, rfl, SqT.of h, SqT.of k, hl, (fun e => q b H (Same.refl H) (by rw [e]; exact k)), (fun _ e => q a H (Same.refl H) (by rw [e, List.append_nil]; exact h)), fun _ _ p hp => q p _ (same_new hp _) upd_same⟩
/-! ### places and conditions -/
inductive Pl where | path (p : List Str) | ent (p : List Str)
def plD : Pl → Dt
  | .path p => .tup [.str (Str.ofString "path"), ptD p]
  | .ent p => .tup [.str (Str.ofString "entry"), ptD p]
def plAt (spot : List Str) : Pl → List Str
  | .path p => p
  | .ent p => spot ++ p
def plP : Pl → List Str
  | .path p => p
  | .ent p => p
inductive Cd where
  | has (p : Pl) | eq (p : Pl) (c : Sc) | lt (p : Pl) (n : Int) | gt (p : Pl) (n : Int) | nt (c : Cd) | an (c d : Cd) | or (c d : Cd)
def cdD : Cd → Dt
  | .has p => .tup [.str (Str.ofString "has"), plD p]
  | .eq p c => .tup [.str (Str.ofString "="), plD p, .tup (scD c)]
  | .lt p n => .tup [.str (Str.ofString "<"), plD p, .int n]
  | .gt p n => .tup [.str (Str.ofString ">"), plD p, .int n]
  | .nt c => .tup [.str (Str.ofString "not"), cdD c]
  | .an c d => .tup [.str (Str.ofString "and"), cdD c, cdD d]
  | .or c d => .tup [.str (Str.ofString "or"), cdD c, cdD d]
def Cd.dep : Cd → Nat
  | .nt c => c.dep + 1
  | .an c d => max c.dep d.dep + 1
  | .or c d => max c.dep d.dep + 1
  | _ => 0
/-- the test of an atom, on what the path holds -/
def atB : Cd → Option Sc → Bool
  | _, none => false
  | .has _, some _ => true
  | .eq _ c, some d => Dt.eqbs (scD d) (scD c)
  | .lt _ n, some (.num m) => decide (m < n)
  | .gt _ n, some (.num m) => decide (n < m)
  | _, _ => false
def cdB (f : List Str → Option Sc) (spot : List Str) : Cd → Bool
  | .has p => atB (.has p) (f (plAt spot p))
  | .eq p c => atB (.eq p c) (f (plAt spot p))
  | .lt p n => atB (.lt p n) (f (plAt spot p))
  | .gt p n => atB (.gt p n) (f (plAt spot p))
  | .nt c => !cdB f spot c
  | .an c d => cdB f spot c && cdB f spot d
  | .or c d => cdB f spot c || cdB f spot d
/-- every place of the condition is such -/
def Cd.all (P : Pl → Prop) : Cd → Prop
  | .has p => P p
  | .eq p _ => P p
  | .lt p _ => P p
  | .gt p _ => P p
  | .nt c => c.all P
  | .an c d => c.all P ∧ d.all P
  | .or c d => c.all P ∧ d.all P
/-- .. and every literal -/
def Cd.lit (P : Sc → Prop) : Cd → Prop
  | .eq _ c => P c
  | .nt c => c.lit P
  | .an c d => c.lit P ∧ d.lit P
  | .or c d => c.lit P ∧ d.lit P
  | _ => True
theorem Cd.all_mono {P Q : Pl → Prop} (h : ∀ p, P p → Q p) : ∀ c : Cd, c.all P → c.all Q
  | .has p, k => h p k
  | .eq p _, k => h p k
  | .lt p _, k => h p k
  | .gt p _, k => h p k
  | .nt c, k => Cd.all_mono h c k
  | .an c d, k => ⟨Cd.all_mono h c k.1, Cd.all_mono h d k.2⟩
  | .or c d, k => ⟨Cd.all_mono h c k.1, Cd.all_mono h d k.2⟩
def plW : Pl → Str
  | .path _ => Str.ofString "path"
  | .ent _ => Str.ofString "entry"
theorem pl_eq (p : Pl) : plD p = .tup [.str (plW p), ptD (plP p)] := by cases p <;> rfl
/-- what holds at a path that is not the root -/
theorem hdD_ne {fl : Fl} {p : List Str} (h : p ≠ []) : hdD fl p = scO (getF fl p) := by
  unfold hdD scO
  rw [if_neg h]
  cases getF fl p <;> rfl
/-! ### the worlds of laws -/
structure Wd where
  keys : List Str
  col : List Str
  paths : List (List Str)
  inner : List (List Str)
structure WdAt (H : Hp) (t : Addr) (v : V) (w : Wd) : Prop where
  ex : ∃ a kl c pl il xs ys, v = .ref a ∧ H a = some (.tup [.ref kl, .ref c, .ref pl, .ref il]) ∧ H kl = some (.lst (w.keys.map V.str)) ∧ H c = some (.tup (w.col.map V.str)) ∧ H pl = some (.lst xs) ∧ Al2 (PthV H) xs w.paths ∧ H il = some (.lst ys) ∧ Al2 (PthV H) ys w.inner ∧ kl ≠ t ∧ pl ≠ t ∧ il ≠ t
theorem PthV.mono {H H' : Hp} (k : ∀ a xs, H a = some (.tup xs) → H' a = some (.tup xs)) {v : V} {p : List Str} (h : PthV H v p) : PthV H' v p := by
  obtain ⟨b, h1, h2⟩ := h
  exact ⟨b, h1, k _ _ h2⟩
theorem WdAt.same {H H' : Hp} {t : Addr} {v : V} {w : Wd} (h : WdAt H t v w) (s : Same H H') : WdAt H' t v w := by
  obtain ⟨a, kl, c, pl, il, xs, ys, e, h1, h2, h3, h4, h5, h6, h7, n⟩ := h.ex
  exact ⟨a, kl, c, pl, il, xs, ys, e, s _ _ h1, s _ _ h2, s _ _ h3, s _ _ h4, h5.mono (fun _ _ q => q.mono fun _ _ z => s _ _ z), s _ _ h6, h7.mono (fun _ _ q => q.mono fun _ _ z => s _ _ z), n⟩
theorem WdAt.go {H H' : Hp} {t : Addr} {v : V} {w : Wd} (h : WdAt H t v w) (hT : Tape H t) (s : Sm t H H') : WdAt H' t v w := by
  obtain ⟨a, kl, c, pl, il, xs, ys, e, h1, h2, h3, h4, h5, h6, h7, n1, n2, n3⟩ := h.ex
  exact ⟨a, kl, c, pl, il, xs, ys, e, tup_go hT s h1, s _ _ n1 h2, tup_go hT s h3, s _ _ n2 h4, h5.mono (fun _ _ q => q.mono fun _ _ z => tup_go hT s z), s _ _ n3 h6, h7.mono (fun _ _ q => q.mono fun _ _ z => tup_go hT s z), n1, n2, n3⟩
structure WdOk (us : List Str) (w : Wd) : Prop where
  k1 : 1 ≤ w.keys.length
  k2 : w.keys.length ≤ 1000
  ku : ∀ z ∈ w.keys, z ∈ us
  c1 : 1 ≤ w.col.length
  c2 : w.col.length ≤ 2
  cu : ∀ z ∈ w.col, z ∈ us
  p1 : 1 ≤ w.paths.length
  p2 : w.paths.length ≤ 1000
  pu : ∀ p ∈ w.paths, 1 ≤ p.length ∧ p.length ≤ 5 ∧ ∀ z ∈ p, z ∈ us
  i1 : 1 ≤ w.inner.length
  i2 : w.inner.length ≤ 1000
  iu : ∀ p ∈ w.inner, p.length ≤ 2 ∧ ∀ z ∈ p, z ∈ us
theorem Al2.mem {α β : Type} {R : α → β → Prop} {l : List α} {m : List β} (h : Al2 R l m) {a : α} (ha : a ∈ l) : ∃ b ∈ m, R a b := by
  obtain ⟨i, e⟩ := List.getElem?_of_mem ha
  obtain ⟨b, e2, r⟩ := h.at e
  exact ⟨b, List.mem_of_getElem? e2, r⟩
theorem dget_fl {K : PySem.W.Frag} {H : Hp} {d r : Addr} {fl : Fl} {p : List Str} (hF : FlatAt K H d fl) (hr : H r = some (.tup (p.map V.str))) :
    ∃ o, DGet H d (.ref r) o ∧ ((o = none ∧ getF fl p = none) ∨ ∃ v c, o = some v ∧ getF fl p = some c ∧ DT K H v (.tup (scD c))) := by
  obtain ⟨kvs, hd, hk⟩ := hF.ex
  have hqk : H r = some (.tup ((kP p).map kV)) := by rw [kP_V]; exact hr
  refine ⟨valV kvs (kP p), .inr ⟨kvs, kP p, r, .inl hd, rfl, hqk, rfl⟩, ?_⟩
  rcases hk.get p with ⟨k1, k2⟩ | ⟨v, e, k1, k2, dv⟩
  · exact .inl ⟨k1, k2⟩
  · exact .inr ⟨v, e, k1, k2, dv⟩
def cdO : Option Cd → Dt
  | none => .non
  | some c => cdD c
def actW : List Str := [Str.ofString "set", Str.ofString "default", Str.ofString "copy", Str.ofString "remove", Str.ofString "reject"]
/-- a rule by its parts -/
def ruD (col : Option (List Str)) (c : Option Cd) (acts : List Dt) : Dt := .tup [ptO col, cdO c, .tup acts]
def ActD (d : Dt) : Prop := ∃ w r, d = .tup (.str w :: r) ∧ w ∈ actW
def Cd.depO : Option Cd → Nat
  | none => 0
  | some c => c.dep
theorem ptO_non {K : PySem.W.Frag} {H : Hp} {v : V} {o : Option (List Str)} (h : DT K H v (ptO o)) : (v = .non ∧ o = none) ∨ ∃ a p, v = .ref a ∧ o = some p ∧ SqT K H a (p.map V.str) := by
  cases o with
  | none => cases h; exact .inl ⟨rfl, rfl⟩
  | some p =>
    obtain ⟨a, xs, rfl, h1, h2⟩ := dt_tup h
    rw [DTs.strs_inv h2] at h1
    exact .inr ⟨a, p, rfl, rfl, h1⟩
theorem cd_ref {K : PySem.W.Frag} {H : Hp} {v : V} {c : Cd} (h : DT K H v (cdD c)) : ∃ a, v = .ref a := by
  cases c <;> (obtain ⟨a, xs, rfl, h1, h2⟩ := dt_tup h; exact ⟨a, rfl⟩)
/-- the place of a text among texts -/
theorem first_at {ws : List Str} {w : Str} (h : w ∈ ws) : ∃ j : Nat, ws[j]? = some w ∧ ∀ (m : Nat) (z : Str), m < j → ws[m]? = some z → z ≠ w := by
  induction ws with
  | nil => cases h
  | cons x ws ih =>
    by_cases c : x = w
    · exact ⟨0, by rw [c]; rfl, fun m z hm => by omega⟩
    · have h' : w ∈ ws := (List.mem_cons.mp h).elim (fun e => absurd e.symm c) id
      obtain ⟨j, h1, h2⟩ := ih h'
      refine ⟨j + 1, h1, fun m z hm e => ?_⟩
      cases m with
      | zero =>
        have e' : x = z := by simpa using e
        rw [← e']; exact c
      | succ m => exact h2 m z (by omega) (by simpa using e)
theorem idx_strs {ws : List Str} {w : Str} (hw : w ∈ ws) : ∃ j : Nat, j < ws.length ∧ ws[j]? = some w ∧ (ws.map V.str)[j]? = some (.str w) ∧ eqV (.str w) (.str w) = true ∧ ∀ (m : Nat) (z' : V), m < j → (ws.map V.str)[m]? = some z' → eqV z' (.str w) = false := by
  obtain ⟨j, h1, h2⟩ := first_at hw
  have hj := (List.getElem?_eq_some_iff.mp h1).1
  refine ⟨j, hj, h1, by rw [List.getElem?_map, h1]; rfl, ?_, fun m z hm e => ?_⟩
  · show (w == w) = true
    simp
  · rw [List.getElem?_map] at e
    obtain ⟨u, hu, rfl⟩ := Option.map_eq_some_iff.mp e
    show (u == w) = false
    rw [beq_eq_false_iff_ne]
    exact h2 m u hm hu
/-- the other keys of a law's world -/
def extraL : List Str := [Str.ofString "set", Str.ofString "true", Str.ofString "from", Str.ofString "has", Str.ofString "zz", Str.ofString "b0", Str.ofString "nothing"]
theorem extra_keys : ∀ z ∈ extraL, KeyT z := by
  have h : ∀ z ∈ extraL, isKeyC z.cps.toList = true := by decide +kernel
  exact h
/-- the places that a world gives, with entries or without -/
def PlW (us : List Str) (b : Bool) : Pl → Prop
  | .path p => 1 ≤ p.length ∧ p.length ≤ 5 ∧ ∀ z ∈ p, z ∈ us
  | .ent p => b = true ∧ p.length ≤ 2 ∧ ∀ z ∈ p, z ∈ us
theorem pickL {l : List V} {zs : List Str} (hl : l = zs.map V.str) {v : V} (h : v ∈ l) : ∃ z, z ∈ zs ∧ v = .str z := by
  rw [hl] at h
  exact pickS zs h
theorem deep_path (p : List Str) : (ptD p).deep ≤ 2 := by
  have := deeps_strs p
  show Dt.deeps (p.map .str) + 1 ≤ 2
  omega
/-- a tuple of paths may be compared -/
theorem paths_ok {L : List (List Str)} (h1 : L.length ≤ 1000000) (h2 : ∀ p ∈ L, p.length ≤ 1000000) : (Dt.tup (L.map ptD)).deep ≤ 3 ∧ (Dt.tup (L.map ptD)).fits = true := by
  refine ⟨?_, ?_⟩
  · have : Dt.deeps (L.map ptD) ≤ 2 := deeps_le fun d hd => by
      obtain ⟨p, _, rfl⟩ := List.mem_map.mp hd
      exact deep_path p
    show Dt.deeps _ + 1 ≤ 3
    omega
  · have : Dt.fitss (L.map ptD) = true := fitss_of fun d hd => by
      obtain ⟨p, hp, rfl⟩ := List.mem_map.mp hd
      exact fits_strs (h2 p hp)
    rw [Dt.fits, this, List.length_map, decide_eq_true h1]
    rfl
def PlOk (spot : Option (List Str)) : Pl → Prop
  | .path p => p ≠ [] ∧ p.length ≤ 1000
  | .ent p => ∃ s, spot = some s ∧ s ++ p ≠ [] ∧ s.length + p.length ≤ 1000
theorem PlOk.ne {spot : Option (List Str)} {p : Pl} (h : PlOk spot p) : plAt (spot.getD []) p ≠ [] := by
  cases p with
  | path p => exact h.1
  | ent p => obtain ⟨s, rfl, h, _⟩ := h; exact h
def cdV (f : List Str → Option Sc) (s : List Str) : Option Cd → Bool
  | none => true
  | some c => cdB f s c
/-- a place of a law: not longer than this -/
def PlB (s : List Str) (p : Pl) : Prop := s.length + (plP p).length ≤ 1000
end My

namespace My
open PySem L2
/-! ### tests of scalars -/
inductive Ts where | eq (c : Sc) | lt (n : Int) | gt (n : Int)
def tsD : Ts → List Dt
  | .eq c => [.str (Str.ofString "="), .tup (scD c)]
  | .lt n => [.str (Str.ofString "<"), .int n]
  | .gt n => [.str (Str.ofString ">"), .int n]
def tsT (t : Ts) : Dt := .tup (tsD t)
def passB : Ts → Sc → Bool
  | .eq d, c => Dt.eqbs (scD c) (scD d)
  | .lt n, .num m => decide (m < n)
  | .gt n, .num m => decide (n < m)
  | _, _ => false
/-- within the bounds that are drawn -/
def scN : Sc → Prop
  | .num n => -999999 ≤ n ∧ n ≤ 999999
  | .text s => s.length ≤ 60 ∧ SgT s
  | .recd => False
  | _ => True
def tsN : Ts → Prop
  | .eq c => scN c
  | .lt n => -999999 ≤ n ∧ n ≤ 999999
  | .gt n => -999999 ≤ n ∧ n ≤ 999999
theorem scN.ok {c : Sc} (h : scN c) : scOk c := by
  cases c with
  | num n => exact ⟨by have := h.1; omega, by have := h.2; omega⟩
  | text s => exact h
  | recd => exact trivial
  | _ => trivial
def tsW : Ts → Str
  | .eq _ => Str.ofString "="
  | .lt _ => Str.ofString "<"
  | .gt _ => Str.ofString ">"
theorem ts_tup {K : PySem.W.Frag} {H : Hp} {v : V} {t : Ts} (h : DT K H v (tsT t)) : ∃ a u, v = .ref a ∧ SqT K H a [.str (tsW t), u] ∧ (∀ c, t = .eq c → DT K H u (.tup (scD c))) ∧ (∀ n, t = .lt n → u = .int n) ∧ (∀ n, t = .gt n → u = .int n) := by
  unfold tsT at h
  cases h with
  | @tup a xs _ h1 h2 =>
  cases t with
  | eq c => cases h2 with | cons x1 x2 => cases x1; cases x2 with | cons y1 y2 => cases y2; exact ⟨a, _, rfl, h1, (fun d e => by cases e; exact y1), (fun n e => by cases e), (fun n e => by cases e)⟩
  | lt n => cases h2 with | cons x1 x2 => cases x1; cases x2 with | cons y1 y2 => cases y2; cases y1; exact ⟨a, _, rfl, h1, (fun d e => by cases e), (fun m e => by cases e; rfl), (fun n e => by cases e)⟩
  | gt n => cases h2 with | cons x1 x2 => cases x1; cases x2 with | cons y1 y2 => cases y2; cases y1; exact ⟨a, _, rfl, h1, (fun d e => by cases e), (fun n e => by cases e), (fun m e => by cases e; rfl)⟩
theorem deeps_scD (c : Sc) : Dt.deeps (scD c) ≤ 60 := by
  cases c with
  | num n => show 1 ≤ 60; decide
  | text n => show 1 ≤ 60; decide
  | _ => decide
theorem lay_ts {t : Ts} (h : tsN t) : (tsT t).lay = true := by
  cases t with
  | eq c =>
    have e : PyData.strOk (Str.ofString "=") = true := by decide +kernel
    rw [tsT, tsD, Dt.lay, Dt.lays, Dt.lays, Dt.lays, Dt.lay, e, lay_sc h.ok]
    rfl
  | lt n =>
    have e : PyData.strOk (Str.ofString "<") = true := by decide +kernel
    rw [tsT, tsD, Dt.lay, Dt.lays, Dt.lays, Dt.lays, Dt.lay, e, Dt.lay]
    · rfl
    all_goals intros; contradiction
  | gt n =>
    have e : PyData.strOk (Str.ofString ">") = true := by decide +kernel
    rw [tsT, tsD, Dt.lay, Dt.lays, Dt.lays, Dt.lays, Dt.lay, e, Dt.lay]
    · rfl
    all_goals intros; contradiction
theorem deep_ts (t : Ts) : (tsT t).deep ≤ 3 := by
  cases t with
  | eq c =>
    have := deep_scD c
    rw [tsT, tsD, deep_pair]
    show max 1 _ + 1 ≤ 3
    omega
  | lt n => show 2 ≤ 3; decide
  | gt n => show 2 ≤ 3; decide
theorem DTs.bools {K : PySem.W.Frag} {H : Hp} (f : Ts → Bool) : ∀ us : List Ts, DTs K H (us.map fun t => .bl (f t)) (us.map fun t => .bl (f t))
  | [] => .nil
  | u :: us => .cons (.bl _) (DTs.bools f us)
/-- the same tests are passed -/
def likeB (ts : List Ts) (c d : Sc) : Bool := ts.all fun t => decide (passB t c = passB t d)
theorem likeB_comm (ts : List Ts) (c d : Sc) : likeB ts c d = likeB ts d c := by
  unfold likeB
  congr 1
  funext t
  exact decide_eq_decide.mpr ⟨Eq.symm, Eq.symm⟩
theorem likeB_perm {ts us : List Ts} (h : ts.Perm us) (c d : Sc) : likeB ts c d = likeB us c d := by
  unfold likeB
  rw [Bool.eq_iff_iff, List.all_eq_true, List.all_eq_true]
  exact ⟨fun k t ht => k t (h.mem_iff.mpr ht), fun k t ht => k t (h.mem_iff.mp ht)⟩
theorem bools_eq (f g : Ts → Bool) : ∀ ts : List Ts, PyData.eqvAll (ts.map fun t => .bool (f t)) (ts.map fun t => .bool (g t)) = ts.all fun t => decide (f t = g t)
  | [] => rfl
  | t :: ts => by
    rw [List.map_cons, List.map_cons, PyData.eqvAll, bools_eq f g ts, List.all_cons]
    rfl
end My

namespace My
open PySem L2
/-- a walk over what is a list or a tuple -/
theorem pi_seq {X : Cx} {K : PySem.W.Frag} {tg l : Expr} {tl : TE} (h : X.K = K) (hl : PE X l tl) : PI X tg l (fun σ H R => iList K tl σ H R ∨ iTup K tl σ H R) :=
  ⟨fun pins s σ H R I q => q.elim ((kpi_list h hl).run pins s σ H R I) ((kpi_tup h hl).run pins s σ H R I)⟩
/-! ### actions -/
inductive Ac where | set (p : Pl) (c : Sc) | dflt (p : Pl) (c : Sc) | copy (p q : Pl) | rem (p : Pl) | rej (s : Str)
def acW : Ac → Str
  | .set _ _ => Str.ofString "set"
  | .dflt _ _ => Str.ofString "default"
  | .copy _ _ => Str.ofString "copy"
  | .rem _ => Str.ofString "remove"
  | .rej _ => Str.ofString "reject"
def acD : Ac → Dt
  | .set p c => .tup [.str (Str.ofString "set"), plD p, .tup (scD c)]
  | .dflt p c => .tup [.str (Str.ofString "default"), plD p, .tup (scD c)]
  | .copy p q => .tup [.str (Str.ofString "copy"), plD p, plD q]
  | .rem p => .tup [.str (Str.ofString "remove"), plD p]
  | .rej s => .tup [.str (Str.ofString "reject"), .str s]
theorem acD_act (a : Ac) : ActD (acD a) := by
  cases a with
  | set p c => exact ⟨_, _, rfl, by decide +kernel⟩
  | dflt p c => exact ⟨_, _, rfl, by decide +kernel⟩
  | copy p c => exact ⟨_, _, rfl, by decide +kernel⟩
  | rem p => exact ⟨_, _, rfl, by decide +kernel⟩
  | rej p => exact ⟨_, _, rfl, by decide +kernel⟩
def eqC (o : Option Sc) (c : Sc) : Bool := PyData.eqv (scO o).py (Dt.tup (scD c)).py
/-- the effect of an action, fl the current table, f0 the one before the rule -/
def effF (f0 fl : Fl) (s : List Str) : Ac → Option Ef
  | .set p c => if eqC (getF fl (plAt s p)) c = true then none else some ⟨Str.ofString "set", plAt s p, some c, none⟩
  | .dflt p c => match getF fl (plAt s p) with
    | some _ => none
    | none => some ⟨Str.ofString "default", plAt s p, some c, none⟩
  | .copy p q => match getF fl (plAt s p) with
    | some _ => none
    | none => match getF f0 (plAt s q) with
      | none => none
      | some .recd => none
      | some c => some ⟨Str.ofString "copy", plAt s p, some c, some (plAt s q)⟩
  | .rem p => match getF fl (plAt s p) with
    | none => none
    | some _ => some ⟨rmS, plAt s p, none, none⟩
  | .rej _ => none
abbrev Res := Except Str (Fl × List Ef)
def actsF (f0 : Fl) (s : List Str) : List Ac → Fl → List Ef → Res
  | [], fl, es => .ok (fl, es)
  | .rej r :: _, _, _ => .error r
  | a :: as, fl, es => match effF f0 fl s a with
    | none => actsF f0 s as fl es
    | some e => actsF f0 s as (mkF fl e) (es ++ [e])
def subsF (f0 : Fl) (as : List Ac) : List (List Str) → Fl → List Ef → Res
  | [], fl, es => .ok (fl, es)
  | s :: ss, fl, es => match actsF f0 s as fl es with
    | .error r => .error r
    | .ok st => subsF f0 as ss st.1 st.2
def resD : Res → Dt
  | .error r => .tup [.str (Str.ofString "rejected"), .str r]
  | .ok st => .tup [.str (Str.ofString "done"), .tup (doc st.1 []), .tup (st.2.map efD)]
/-- the entries for which the actions are made -/
def spotsQ (fl : Fl) : Option (List Str) → List (Option (List Str))
  | none => [none]
  | some p => (below fl p).map fun k => some (p ++ [k])
def cdQ (fl : Fl) (s : Option (List Str)) : Option Cd → Bool
  | none => true
  | some c => cdB (getF fl) (s.getD []) c
def subQ (fl : Fl) (col : Option (List Str)) (c : Option Cd) : List (Option (List Str)) := (spotsQ fl col).filter fun s => cdQ fl s c
def ruleF (fl : Fl) (col : Option (List Str)) (c : Option Cd) (as : List Ac) : Res := subsF fl as ((subQ fl col c).map fun s => s.getD []) fl []
/-- places of a rule for an entry -/
def PlT (ws : List Str) (s : Option (List Str)) (p : Pl) : Prop := PlOk s p ∧ 1 ≤ (plAt (s.getD []) p).length ∧ (plAt (s.getD []) p).length ≤ 5 ∧ ∀ k ∈ plAt (s.getD []) p, k ∈ ws
def AcOk (ws : List Str) (s : Option (List Str)) : Ac → Prop
  | .set p c => PlT ws s p ∧ scOk c ∧ c ≠ .recd
  | .dflt p c => PlT ws s p ∧ scOk c ∧ c ≠ .recd
  | .copy p q => PlT ws s p ∧ PlOk s q
  | .rem p => PlT ws s p
  | .rej _ => True
theorem eff_ok {ws us : List Str} {f0 fl : Fl} {s : Option (List Str)} {a : Ac} {e : Ef} (h0 : ∀ p c, getF f0 p = some c → scOk c) (ok : AcOk ws s a) (h : effF f0 fl (s.getD []) a = some e) : EfOk e ∧ ∀ k ∈ e.p, k ∈ ws := by
  cases a with
  | rej r => cases h
  | set p c =>
    obtain ⟨⟨_, p1, p5, pk⟩, o1, o2⟩ := ok
    simp only [effF] at h
    by_cases z : eqC (getF fl (plAt (s.getD []) p)) c = true
    · rw [if_pos z] at h; cases h
    · rw [if_neg z] at h
      cases h
      exact ⟨⟨.inr ⟨c, rfl, o2, o1, by show Str.ofString "set" ≠ Str.ofString "remove"; decide +kernel⟩, p1, p5⟩, pk⟩
  | dflt p c =>
    obtain ⟨⟨_, p1, p5, pk⟩, o1, o2⟩ := ok
    simp only [effF] at h
    cases z : getF fl (plAt (s.getD []) p) with
    | some d => rw [z] at h; cases h
    | none =>
      rw [z] at h
      cases h
      exact ⟨⟨.inr ⟨c, rfl, o2, o1, by show Str.ofString "default" ≠ Str.ofString "remove"; decide +kernel⟩, p1, p5⟩, pk⟩
  | rem p =>
    obtain ⟨_, p1, p5, pk⟩ := ok
    simp only [effF] at h
    cases z : getF fl (plAt (s.getD []) p) with
    | none => rw [z] at h; cases h
    | some d =>
      rw [z] at h
      cases h
      exact ⟨⟨.inl ⟨rfl, rfl⟩, p1, p5⟩, pk⟩
  | copy p q =>
    obtain ⟨⟨_, p1, p5, pk⟩, _⟩ := ok
    simp only [effF] at h
    cases z : getF fl (plAt (s.getD []) p) with
    | some d => rw [z] at h; cases h
    | none =>
      rw [z] at h
      cases z2 : getF f0 (plAt (s.getD []) q) with
      | none => rw [z2] at h; cases h
      | some c =>
        rw [z2] at h
        have o := h0 _ _ z2
        have ne : Str.ofString "copy" ≠ rmS := by show Str.ofString "copy" ≠ Str.ofString "remove"; decide +kernel
        cases c with
        | recd => cases h
        | null => cases h; exact ⟨⟨.inr ⟨_, rfl, (by intro z; cases z), o, ne⟩, p1, p5⟩, pk⟩
        | fals => cases h; exact ⟨⟨.inr ⟨_, rfl, (by intro z; cases z), o, ne⟩, p1, p5⟩, pk⟩
        | tru => cases h; exact ⟨⟨.inr ⟨_, rfl, (by intro z; cases z), o, ne⟩, p1, p5⟩, pk⟩
        | num n => cases h; exact ⟨⟨.inr ⟨_, rfl, (by intro z; cases z), o, ne⟩, p1, p5⟩, pk⟩
        | text n => cases h; exact ⟨⟨.inr ⟨_, rfl, (by intro z; cases z), o, ne⟩, p1, p5⟩, pk⟩
theorem mk_len (fl : Fl) {e : Ef} (h : e.p.length ≤ 5) : (mkF fl e).length ≤ fl.length + 6 := by
  unfold mkF
  cases e.c with
  | none => have := len_cut fl e.p; show (cutF fl e.p).length ≤ _; omega
  | some c => have := len_set fl e.p c; show (setF fl e.p c).length ≤ _; omega
theorem lay_scO {o : Option Sc} (h : ∀ c, o = some c → scOk c) : (scO o).lay = true := by
  cases o with
  | none => rfl
  | some c => exact lay_sc (h c rfl)
theorem deep_scO (o : Option Sc) : (scO o).deep ≤ 2 := by
  cases o with
  | none => show 1 ≤ 2; decide
  | some c => exact deep_scD c
def efO : Option Ef → Dt
  | none => .non
  | some e => efD e
def isRej : Ac → Bool
  | .rej _ => true
  | _ => false
/-- the condition of a rule may be looked at for each of its entries -/
def CoOk (fl : Fl) (col : Option (List Str)) : Option Cd → Prop
  | none => True
  | some c => c.dep ≤ 40 ∧ ∀ s ∈ spotsQ fl col, c.all (PlOk s)
theorem spotsQ_len (fl : Fl) (col : Option (List Str)) : (spotsQ fl col).length ≤ fl.length + 1 := by
  cases col with
  | none => exact Nat.succ_le_succ (Nat.zero_le _)
  | some p => have := below_len fl p; show ((below fl p).map _).length ≤ _; rw [List.length_map]; omega
theorem subQ_sub {fl : Fl} {col : Option (List Str)} {c : Option Cd} {s : Option (List Str)} (h : s ∈ subQ fl col c) : s ∈ spotsQ fl col := (List.mem_filter.mp h).1
theorem dac_three {K : PySem.W.Frag} {H : Hp} {v : V} {z : Str} {d e : Dt} (h : DT K H v (.tup [.str z, d, e])) : ∃ a x y, v = .ref a ∧ SqT K H a [.str z, x, y] ∧ DT K H x d ∧ DT K H y e := by
  obtain ⟨a, xs, rfl, h1, h2⟩ := dt_tup h
  obtain ⟨x1, x2, x3, rfl, k1, k2, k3⟩ := h2.three
  cases k1
  exact ⟨a, x2, x3, rfl, h1, k2, k3⟩
theorem dac_two {K : PySem.W.Frag} {H : Hp} {v : V} {z : Str} {d : Dt} (h : DT K H v (.tup [.str z, d])) : ∃ a x, v = .ref a ∧ SqT K H a [.str z, x] ∧ DT K H x d := by
  obtain ⟨a, xs, rfl, h1, h2⟩ := dt_tup h
  obtain ⟨x1, x2, rfl, k1, k2⟩ := h2.two
  cases k1
  exact ⟨a, x2, rfl, h1, k2⟩
theorem scO_cases {K : PySem.W.Frag} {H : Hp} {v : V} {o : Option Sc} (h : DT K H v (scO o)) : (v = .non ∧ o = none) ∨ ∃ a c, v = .ref a ∧ o = some c := by
  cases o with
  | none => cases h; exact .inl ⟨rfl, rfl⟩
  | some c => obtain ⟨a, xs, rfl, _⟩ := dt_tup h; exact .inr ⟨a, c, rfl, rfl⟩
theorem actsF_cons {f0 fl : Fl} {s : List Str} {a : Ac} {as : List Ac} {es : List Ef} (h : isRej a = false) : actsF f0 s (a :: as) fl es = match effF f0 fl s a with
    | none => actsF f0 s as fl es
    | some e => actsF f0 s as (mkF fl e) (es ++ [e]) := by
  cases a <;> first | rfl | cases h
/-- the rest of a rule: the actions that are left for this entry, then the entries that are left -/
def restF (f0 : Fl) (as : List Ac) (s : List Str) (more : List Ac) (ss : List (List Str)) (fl : Fl) (es : List Ef) : Res := match actsF f0 s more fl es with
  | .error r => .error r
  | .ok st => subsF f0 as ss st.1 st.2
theorem acD_word {K : PySem.W.Frag} {H : Hp} {v : V} {a : Ac} (h : DT K H v (acD a)) : ∃ b xs, v = .ref b ∧ SqT K H b (.str (acW a) :: xs) ∧ (∀ r, a = .rej r → xs = [.str r]) := by
  cases a with
  | rej r => obtain ⟨b, x, rfl, h1, h2⟩ := dac_two h; cases h2; exact ⟨b, _, rfl, h1, fun r e => by cases e; rfl⟩
  | rem p => obtain ⟨b, x, rfl, h1, h2⟩ := dac_two h; exact ⟨b, _, rfl, h1, fun r e => by cases e⟩
  | set p c => obtain ⟨b, x, y, rfl, h1, h2⟩ := dac_three h; exact ⟨b, _, rfl, h1, fun r e => by cases e⟩
  | dflt p c => obtain ⟨b, x, y, rfl, h1, h2⟩ := dac_three h; exact ⟨b, _, rfl, h1, fun r e => by cases e⟩
  | copy p c => obtain ⟨b, x, y, rfl, h1, h2⟩ := dac_three h; exact ⟨b, _, rfl, h1, fun r e => by cases e⟩
theorem acW_rej (a : Ac) : decide (V.str (acW a) = V.str (Str.ofString "reject")) = isRej a := by
  cases a with
  | rej r => exact decide_eq_true rfl
  | rem p => exact decide_eq_false (by show ¬ V.str (Str.ofString "remove") = V.str (Str.ofString "reject"); intro z; exact absurd (V.str.inj z) (by decide +kernel))
  | set p c => exact decide_eq_false (by show ¬ V.str (Str.ofString "set") = V.str (Str.ofString "reject"); intro z; exact absurd (V.str.inj z) (by decide +kernel))
  | dflt p c => exact decide_eq_false (by show ¬ V.str (Str.ofString "default") = V.str (Str.ofString "reject"); intro z; exact absurd (V.str.inj z) (by decide +kernel))
  | copy p c => exact decide_eq_false (by show ¬ V.str (Str.ofString "copy") = V.str (Str.ofString "reject"); intro z; exact absurd (V.str.inj z) (by decide +kernel))
theorem seqT_sm {K : PySem.W.Frag} {E a : Addr} {H H' : Hp} {acc xs : List V} (s : Sm E H H') (e : H E = some (.lst acc)) (h : SqT K H a xs) : SqT K H' a xs := by
  rcases h with (h | ⟨o, h⟩) | h
  · exact .inl (.inl (s _ _ (ne_of h e (fun z => by cases z)) h))
  · exact .inl (.inr ⟨o, s _ _ (ne_of h e (fun z => by cases z)) h⟩)
  · exact .inr h
theorem DT.smL {K : PySem.W.Frag} {E : Addr} {H H' : Hp} {acc : List V} {v : V} {d : Dt} (h : DT K H v d) (s : Sm E H H') (e : H E = some (.lst acc)) : DT K H' v d := DT.mono (fun _ _ q => seqT_sm s e q) d v h
theorem DTs.smL {K : PySem.W.Frag} {E : Addr} {H H' : Hp} {acc : List V} {v : List V} {d : List Dt} (h : DTs K H v d) (s : Sm E H H') (e : H E = some (.lst acc)) : DTs K H' v d := DTs.mono (fun _ _ q => seqT_sm s e q) d v h
/-- the first reason of a rule -/
def rejF : List Ac → Option Str
  | [] => none
  | .rej r :: _ => some r
  | _ :: as => rejF as
theorem rejF_cons {a : Ac} {as : List Ac} (h : isRej a = false) : rejF (a :: as) = rejF as := by cases a <;> first | rfl | cases h
theorem acts_rej {f0 : Fl} {s : List Str} {r : Str} : ∀ {as : List Ac} {fl : Fl} {es : List Ef}, rejF as = some r → actsF f0 s as fl es = .error r
  | [], _, _, h => by cases h
  | a :: as, fl, es, h => by
    cases hr : isRej a with
    | true =>
      cases a with
      | rej z => cases h; rfl
      | _ => cases hr
    | false =>
      rw [rejF_cons hr] at h
      rw [actsF_cons hr]
      cases effF f0 fl s a with
      | none => exact acts_rej h
      | some e => exact acts_rej h
theorem rule_rej {fl : Fl} {col : Option (List Str)} {c : Option Cd} {as : List Ac} {r : Str} (h : rejF as = some r) : ruleF fl col c as = if subQ fl col c = [] then .ok (fl, []) else .error r := by
  unfold ruleF
  cases e : subQ fl col c with
  | nil => rfl
  | cons s ss =>
    rw [if_neg (by intro z; cases z)]
    rw [List.map_cons, subsF, acts_rej h]
/-- the reasons of a rule, in order -/
def rejs (as : List Ac) : List Str := as.filterMap fun a => match a with | .rej r => some r | _ => none
theorem rejs_head {as : List Ac} {r : Str} (h : (rejs as)[0]? = some r) : rejF as = some r := by
  induction as with
  | nil => cases h
  | cons a as ih =>
    cases a with
    | rej z => simpa [rejs, rejF] using h
    | set p c => exact ih (by simpa [rejs] using h)
    | dflt p c => exact ih (by simpa [rejs] using h)
    | copy p c => exact ih (by simpa [rejs] using h)
    | rem p => exact ih (by simpa [rejs] using h)
/-- an action as a law draws it, with entries or without -/
def PlTg (us : List Str) (b : Bool) : Pl → Prop
  | .path p => b = false ∧ 1 ≤ p.length ∧ p.length ≤ 5 ∧ ∀ z ∈ p, z ∈ us
  | .ent p => b = true ∧ p.length ≤ 2 ∧ ∀ z ∈ p, z ∈ us
def AcW (us : List Str) (b : Bool) : Ac → Prop
  | .set p c => PlTg us b p ∧ scN c
  | .dflt p c => PlTg us b p ∧ scN c
  | .copy p q => PlTg us b p ∧ PlW us b q
  | .rem p => PlTg us b p
  | .rej _ => True
theorem scN.nr {c : Sc} (h : scN c) : c ≠ .recd := fun e => by subst e; exact h
/-- places of a world for an entry of its collection, or for the document -/
def SpW (us : List Str) (b : Bool) : Option (List Str) → Prop
  | none => b = false
  | some s => b = true ∧ 1 ≤ s.length ∧ s.length ≤ 3 ∧ ∀ z ∈ s, z ∈ us
theorem PlW.ok {us : List Str} {b : Bool} {s : Option (List Str)} {p : Pl} (hs : SpW us b s) (h : PlW us b p) : PlOk s p ∧ PlB (s.getD []) p := by
  cases p with
  | path p =>
    refine ⟨⟨fun z => by rw [z] at h; exact absurd h.1 (by decide), by have := h.2.1; omega⟩, ?_⟩
    have h2 := h.2.1
    cases s with
    | none => show 0 + p.length ≤ 1000; omega
    | some s => have := hs.2.2.1; show s.length + p.length ≤ 1000; omega
  | ent p =>
    have h2 := h.2.1
    cases s with
    | none => have e : b = false := hs; rw [e] at h; exact absurd h.1 (by decide)
    | some s =>
      have h3 := hs.2.1
      have h4 := hs.2.2.1
      exact ⟨⟨s, rfl, fun z => by have := (List.append_eq_nil_iff.mp z).1; rw [this] at h3; exact absurd h3 (by decide), by omega⟩, by show s.length + p.length ≤ 1000; omega⟩
theorem PlTg.ok {us : List Str} {b : Bool} {s : Option (List Str)} {p : Pl} (hs : SpW us b s) (h : PlTg us b p) : PlT us s p := by
  cases p with
  | path p =>
    exact ⟨⟨fun z => by rw [z] at h; exact absurd h.2.1 (by decide), by have := h.2.2.1; omega⟩, h.2.1, h.2.2.1, h.2.2.2⟩
  | ent p =>
    have h2 := h.2.1
    cases s with
    | none => have e : b = false := hs; rw [e] at h; exact absurd h.1 (by decide)
    | some s =>
      have h3 := hs.2.1
      have h4 := hs.2.2.1
      refine ⟨⟨s, rfl, fun z => by have := (List.append_eq_nil_iff.mp z).1; rw [this] at h3; exact absurd h3 (by decide), by omega⟩, by show 1 ≤ (s ++ p).length; rw [List.length_append]; omega, by show (s ++ p).length ≤ 5; rw [List.length_append]; omega, fun z hz => ?_⟩
      rcases List.mem_append.mp (show z ∈ s ++ p from hz) with k | k
      · exact hs.2.2.2 z k
      · exact h.2.2 z k
theorem AcW.ok {us : List Str} {b : Bool} {s : Option (List Str)} {a : Ac} (hs : SpW us b s) (h : AcW us b a) : AcOk us s a := by
  cases a with
  | rej r => trivial
  | rem p => exact PlTg.ok hs h
  | set p c => exact ⟨PlTg.ok hs h.1, h.2.ok, h.2.nr⟩
  | dflt p c => exact ⟨PlTg.ok hs h.1, h.2.ok, h.2.nr⟩
  | copy p q => exact ⟨PlTg.ok hs h.1, (PlW.ok hs h.2).1⟩
/-- the entries of a world's collection -/
theorem spots_W {us : List Str} {fl : Fl} {w : Wd} {b : Bool} (wf : Wf us fl) (wo : WdOk us w) : ∀ s ∈ spotsQ fl (if b = true then some w.col else none), SpW us b s := fun s hs => by
  cases b with
  | false => rw [List.mem_singleton.mp hs]; rfl
  | true =>
    obtain ⟨k, hk, rfl⟩ := List.mem_map.mp hs
    have c1 := wo.c1
    have c2 := wo.c2
    refine ⟨rfl, by rw [List.length_append]; show 1 ≤ _ + 1; omega, by rw [List.length_append]; show _ + 1 ≤ 3; omega, fun z hz => ?_⟩
    rcases List.mem_append.mp hz with h | h
    · exact wo.cu z h
    · obtain ⟨c, hc⟩ := mem_below.mp hk
      rw [List.mem_singleton.mp h]
      exact (wf.pa _ c hc).2.2.1 k (List.mem_append_right _ List.mem_cons_self)
theorem rej_ex : ∀ {as : List Ac}, (∃ a ∈ as, isRej a = true) → ∃ r, (rejs as)[0]? = some r
  | [], h => by obtain ⟨a, h, _⟩ := h; cases h
  | a :: as, h => by
    have step : (rejs (a :: as)) = (match a with | .rej r => [r] | _ => []) ++ rejs as := by cases a <;> simp [rejs]
    cases a with
    | rej r => exact ⟨r, by rw [step]; rfl⟩
    | set p c =>
      obtain ⟨x, hx, hr⟩ := h
      rcases List.mem_cons.mp hx with e | hx
      · rw [e] at hr; cases hr
      · rw [step]; exact rej_ex ⟨x, hx, hr⟩
    | dflt p c =>
      obtain ⟨x, hx, hr⟩ := h
      rcases List.mem_cons.mp hx with e | hx
      · rw [e] at hr; cases hr
      · rw [step]; exact rej_ex ⟨x, hx, hr⟩
    | copy p c =>
      obtain ⟨x, hx, hr⟩ := h
      rcases List.mem_cons.mp hx with e | hx
      · rw [e] at hr; cases hr
      · rw [step]; exact rej_ex ⟨x, hx, hr⟩
    | rem p =>
      obtain ⟨x, hx, hr⟩ := h
      rcases List.mem_cons.mp hx with e | hx
      · rw [e] at hr; cases hr
      · rw [step]; exact rej_ex ⟨x, hx, hr⟩
theorem rejs_len (as : List Ac) : (rejs as).length ≤ as.length := List.length_filterMap_le _ _
theorem rejs_app (as bs : List Ac) : rejs (as ++ bs) = rejs as ++ rejs bs := List.filterMap_append
theorem rejs_one (a : Ac) : rejs [a] = if isRej a = true then (match a with | .rej r => [r] | _ => []) else [] := by cases a <;> rfl
theorem spotsO_Q (fl : Fl) (col : Option (List Str)) : ∀ {f : List Str → Bool}, (match col with | none => [[]] | some p => (below fl p).map fun k => p ++ [k]) = (spotsQ fl col).map fun s => s.getD [] := by
  intro f
  cases col with
  | none => rfl
  | some p =>
    show _ = ((below fl p).map fun k => some (p ++ [k])).map _
    rw [List.map_map]
    rfl
theorem TTs.take {H : Hp} {vs : List V} {ds : List Dt} (h : TTs H vs ds) (n : Nat) : TTs H (vs.take n) (ds.take n) := by
  induction ds generalizing vs n with
  | nil => cases h; rw [List.take_nil, List.take_nil]; exact .nil
  | cons d ds ih =>
    cases h with
    | cons h1 h2 =>
      cases n with
      | zero => exact .nil
      | succ n => exact .cons h1 (ih h2 n)
theorem TTs.drop {H : Hp} {vs : List V} {ds : List Dt} (h : TTs H vs ds) (n : Nat) : TTs H (vs.drop n) (ds.drop n) := by
  induction ds generalizing vs n with
  | nil => cases h; rw [List.drop_nil, List.drop_nil]; exact .nil
  | cons d ds ih =>
    cases h with
    | cons h1 h2 =>
      cases n with
      | zero => exact .cons h1 h2
      | succ n => exact ih h2 n
theorem TTs.length {H : Hp} {vs : List V} {ds : List Dt} (h : TTs H vs ds) : vs.length = ds.length := by
  induction ds generalizing vs with
  | nil => cases h; rfl
  | cons d ds ih =>
    cases h with
    | cons _ h2 => rw [List.length_cons, List.length_cons, ih h2]
theorem TTs.get' {H : Hp} {vs : List V} {ds : List Dt} (h : TTs H vs ds) {i : Nat} {v : V} (e : vs[i]? = some v) : ∃ d, ds[i]? = some d ∧ TT H v d := by
  induction ds generalizing vs i with
  | nil => cases h; simp at e
  | cons d ds ih =>
    cases h with
    | cons h1 h2 =>
      cases i with
      | zero =>
        rw [List.getElem?_cons_zero] at e
        cases e
        exact ⟨d, rfl, h1⟩
      | succ i => exact ih h2 (by simpa using e)
/-- what a rule with a reason does, is alike deep and wide -/
theorem resD_ok {r : Str} {fl : Fl} (hl : fl.length ≤ 1000000) : ((resD (.ok (fl, []))).deep ≤ 40 ∧ (resD (.ok (fl, []))).fits = true) ∧ ((resD (.error r)).deep ≤ 40 ∧ (resD (.error r)).fits = true) := by
  obtain ⟨d1, d2⟩ := doc_ok hl []
  refine ⟨⟨?_, ?_⟩, ⟨by show 2 ≤ 40; decide, rfl⟩⟩
  · show max 1 (max (Dt.tup (doc fl [])).deep (max 1 0)) + 1 ≤ 40
    omega
  · show (decide (3 ≤ 1000000) && (true && ((Dt.tup (doc fl [])).fits && _))) = true
    rw [d2]
    rfl
end My

namespace My
open PySem L2
/-! ### alternatives -/
abbrev Alt := List (Cd × Bool)
def prodF (xs ys : List Alt) : List Alt := xs.flatMap fun x => ys.map fun y => x ++ y
def altF : Cd → Bool → List Alt
  | .nt c, t => altF c (!t)
  | .an c d, true => prodF (altF c true) (altF d true)
  | .an c d, false => altF c false ++ altF d false
  | .or c d, true => altF c true ++ altF d true
  | .or c d, false => prodF (altF c false) (altF d false)
  | c, t => [[(c, t)]]
def cpD (p : Cd × Bool) : Dt := .tup [cdD p.1, .bl p.2]
def altD (a : Alt) : Dt := .tup (a.map cpD)
def altsD (as : List Alt) : Dt := .tup (as.map altD)
/-- the number of its atoms -/
def Cd.lvs : Cd → Nat
  | .nt c => c.lvs
  | .an c d => c.lvs + d.lvs
  | .or c d => c.lvs + d.lvs
  | _ => 1
theorem lvs_pos : ∀ c : Cd, 1 ≤ c.lvs
  | .nt c => lvs_pos c
  | .an c d => by have := lvs_pos c; show 1 ≤ c.lvs + d.lvs; omega
  | .or c d => by have := lvs_pos c; show 1 ≤ c.lvs + d.lvs; omega
  | .has _ => Nat.le_refl _
  | .eq _ _ => Nat.le_refl _
  | .lt _ _ => Nat.le_refl _
  | .gt _ _ => Nat.le_refl _
theorem prod_len (xs ys : List Alt) : (prodF xs ys).length = xs.length * ys.length := by
  induction xs with
  | nil => simp [prodF]
  | cons x xs ih =>
    show (((x :: xs).flatMap fun x => ys.map fun y => x ++ y)).length = _
    rw [List.flatMap_cons, List.length_append, List.length_map, List.length_cons, Nat.succ_mul]
    have : (xs.flatMap fun x => ys.map fun y => x ++ y).length = xs.length * ys.length := ih
    omega
theorem prod_mem {xs ys : List Alt} {z : Alt} (h : z ∈ prodF xs ys) : ∃ x ∈ xs, ∃ y ∈ ys, z = x ++ y := by
  obtain ⟨x, hx, h⟩ := List.mem_flatMap.mp h
  obtain ⟨y, hy, rfl⟩ := List.mem_map.mp h
  exact ⟨x, hx, y, hy, rfl⟩
theorem two_pow_sum {a b m n : Nat} (ha : a ≤ 2 ^ m) (hb : b ≤ 2 ^ n) (hm : 1 ≤ m) (hn : 1 ≤ n) : a + b ≤ 2 ^ (m + n) := by
  rw [Nat.pow_add]
  have h1 : 2 ≤ 2 ^ m := by calc 2 = 2 ^ 1 := rfl
    _ ≤ 2 ^ m := Nat.pow_le_pow_right (by decide) hm
  have h2 : 2 ≤ 2 ^ n := by calc 2 = 2 ^ 1 := rfl
    _ ≤ 2 ^ n := Nat.pow_le_pow_right (by decide) hn
  have h3 : 2 ^ m + 2 ^ n ≤ 2 ^ m * 2 ^ n := by
    generalize 2 ^ m = x at *
    generalize 2 ^ n = y at *
    have : x * 2 ≤ x * y := Nat.mul_le_mul_left x h2
    have : 2 * y ≤ x * y := Nat.mul_le_mul_right y h1
    omega
  omega
theorem alt_len : ∀ (c : Cd) (t : Bool), (altF c t).length ≤ 2 ^ c.lvs
  | .nt c, t => alt_len c (!t)
  | .an c d, true => by
    show (prodF _ _).length ≤ 2 ^ (c.lvs + d.lvs)
    rw [prod_len, Nat.pow_add]
    exact Nat.mul_le_mul (alt_len c true) (alt_len d true)
  | .an c d, false => by
    show (altF c false ++ altF d false).length ≤ 2 ^ (c.lvs + d.lvs)
    rw [List.length_append]
    exact two_pow_sum (alt_len c false) (alt_len d false) (lvs_pos c) (lvs_pos d)
  | .or c d, true => by
    show (altF c true ++ altF d true).length ≤ 2 ^ (c.lvs + d.lvs)
    rw [List.length_append]
    exact two_pow_sum (alt_len c true) (alt_len d true) (lvs_pos c) (lvs_pos d)
  | .or c d, false => by
    show (prodF _ _).length ≤ 2 ^ (c.lvs + d.lvs)
    rw [prod_len, Nat.pow_add]
    exact Nat.mul_le_mul (alt_len c false) (alt_len d false)
  | .has _, t => by show 1 ≤ 2 ^ 1; decide
  | .eq _ _, t => by show 1 ≤ 2 ^ 1; decide
  | .lt _ _, t => by show 1 ≤ 2 ^ 1; decide
  | .gt _ _, t => by show 1 ≤ 2 ^ 1; decide
/-- what is in an alternative: no more than its atoms, each an atom of the condition -/
theorem alt_mem (P : Pl → Prop) : ∀ (c : Cd) (t : Bool), c.all P → ∀ z ∈ altF c t, z.length ≤ c.lvs ∧ ∀ p ∈ z, p.1.dep = 0 ∧ p.1.all P
  | .nt c, t, h, z, hz => alt_mem P c (!t) h z hz
  | .an c d, true, h, z, hz => by
    obtain ⟨x, hx, y, hy, rfl⟩ := prod_mem (show z ∈ prodF _ _ from hz)
    have a := alt_mem P c true h.1 x hx
    have b := alt_mem P d true h.2 y hy
    refine ⟨by rw [List.length_append]; have := a.1; have := b.1; show _ ≤ c.lvs + d.lvs; omega, fun p hp => (List.mem_append.mp hp).elim (a.2 p) (b.2 p)⟩
  | .or c d, false, h, z, hz => by
    obtain ⟨x, hx, y, hy, rfl⟩ := prod_mem (show z ∈ prodF _ _ from hz)
    have a := alt_mem P c false h.1 x hx
    have b := alt_mem P d false h.2 y hy
    refine ⟨by rw [List.length_append]; have := a.1; have := b.1; show _ ≤ c.lvs + d.lvs; omega, fun p hp => (List.mem_append.mp hp).elim (a.2 p) (b.2 p)⟩
  | .an c d, false, h, z, hz => by
    rcases List.mem_append.mp (show z ∈ altF c false ++ altF d false from hz) with k | k
    · have a := alt_mem P c false h.1 z k
      exact ⟨by have := a.1; show _ ≤ c.lvs + d.lvs; omega, a.2⟩
    · have a := alt_mem P d false h.2 z k
      exact ⟨by have := a.1; show _ ≤ c.lvs + d.lvs; omega, a.2⟩
  | .or c d, true, h, z, hz => by
    rcases List.mem_append.mp (show z ∈ altF c true ++ altF d true from hz) with k | k
    · have a := alt_mem P c true h.1 z k
      exact ⟨by have := a.1; show _ ≤ c.lvs + d.lvs; omega, a.2⟩
    · have a := alt_mem P d true h.2 z k
      exact ⟨by have := a.1; show _ ≤ c.lvs + d.lvs; omega, a.2⟩
  | .has p, t, h, z, hz => by rw [List.mem_singleton.mp (show z ∈ [[(Cd.has p, t)]] from hz)]; exact ⟨Nat.le_refl _, fun q hq => by rw [List.mem_singleton.mp hq]; exact ⟨rfl, h⟩⟩
  | .eq p s, t, h, z, hz => by rw [List.mem_singleton.mp (show z ∈ [[(Cd.eq p s, t)]] from hz)]; exact ⟨Nat.le_refl _, fun q hq => by rw [List.mem_singleton.mp hq]; exact ⟨rfl, h⟩⟩
  | .lt p s, t, h, z, hz => by rw [List.mem_singleton.mp (show z ∈ [[(Cd.lt p s, t)]] from hz)]; exact ⟨Nat.le_refl _, fun q hq => by rw [List.mem_singleton.mp hq]; exact ⟨rfl, h⟩⟩
  | .gt p s, t, h, z, hz => by rw [List.mem_singleton.mp (show z ∈ [[(Cd.gt p s, t)]] from hz)]; exact ⟨Nat.le_refl _, fun q hq => by rw [List.mem_singleton.mp hq]; exact ⟨rfl, h⟩⟩
/-- all atoms of an alternative are as they should be -/
def agF (f : List Str → Option Sc) (s : List Str) (z : Alt) : Bool := z.all fun p => decide (cdB f s p.1 = p.2)
theorem ag_prod (f : List Str → Option Sc) (s : List Str) (xs ys : List Alt) : (prodF xs ys).any (agF f s) = (xs.any (agF f s) && ys.any (agF f s)) := by
  rw [Bool.eq_iff_iff, Bool.and_eq_true, List.any_eq_true, List.any_eq_true, List.any_eq_true]
  constructor
  · rintro ⟨z, hz, h⟩
    obtain ⟨x, hx, y, hy, rfl⟩ := prod_mem hz
    unfold agF at h ⊢
    rw [List.all_append, Bool.and_eq_true] at h
    exact ⟨⟨x, hx, h.1⟩, ⟨y, hy, h.2⟩⟩
  · rintro ⟨⟨x, hx, h1⟩, ⟨y, hy, h2⟩⟩
    refine ⟨x ++ y, List.mem_flatMap.mpr ⟨x, hx, List.mem_map.mpr ⟨y, hy, rfl⟩⟩, ?_⟩
    unfold agF at h1 h2 ⊢
    rw [List.all_append, h1, h2]
    rfl
/-- the alternatives tell when the condition holds -/
theorem alt_holds (f : List Str → Option Sc) (s : List Str) : ∀ (c : Cd) (t : Bool), (altF c t).any (agF f s) = decide (cdB f s c = t)
  | .nt c, t => by
    show (altF c (!t)).any (agF f s) = decide ((!cdB f s c) = t)
    rw [alt_holds f s c (!t)]
    cases cdB f s c <;> cases t <;> rfl
  | .an c d, true => by
    show (prodF _ _).any _ = decide ((cdB f s c && cdB f s d) = true)
    rw [ag_prod, alt_holds f s c true, alt_holds f s d true]
    cases cdB f s c <;> cases cdB f s d <;> rfl
  | .an c d, false => by
    show (altF c false ++ altF d false).any _ = decide ((cdB f s c && cdB f s d) = false)
    rw [List.any_append, alt_holds f s c false, alt_holds f s d false]
    cases cdB f s c <;> cases cdB f s d <;> rfl
  | .or c d, true => by
    show (altF c true ++ altF d true).any _ = decide ((cdB f s c || cdB f s d) = true)
    rw [List.any_append, alt_holds f s c true, alt_holds f s d true]
    cases cdB f s c <;> cases cdB f s d <;> rfl
  | .or c d, false => by
    show (prodF _ _).any _ = decide ((cdB f s c || cdB f s d) = false)
    rw [ag_prod, alt_holds f s c false, alt_holds f s d false]
    cases cdB f s c <;> cases cdB f s d <;> rfl
  | .has p, t => by show ([[(Cd.has p, t)]].any _) = _; simp [agF]
  | .eq p q, t => by show ([[(Cd.eq p q, t)]].any _) = _; simp [agF]
  | .lt p q, t => by show ([[(Cd.lt p q, t)]].any _) = _; simp [agF]
  | .gt p q, t => by show ([[(Cd.gt p q, t)]].any _) = _; simp [agF]
theorem alt_ne : ∀ (c : Cd) (t : Bool), altF c t ≠ []
  | .nt c, t => alt_ne c (!t)
  | .an c d, true => fun h => by
    have := congrArg List.length (show prodF (altF c true) (altF d true) = [] from h)
    rw [prod_len] at this
    have a := List.length_pos_iff.mpr (alt_ne c true)
    have b := List.length_pos_iff.mpr (alt_ne d true)
    have := Nat.mul_pos a b
    simp only [List.length_nil] at *
    omega
  | .an c d, false => fun h => alt_ne c false (List.append_eq_nil_iff.mp h).1
  | .or c d, true => fun h => alt_ne c true (List.append_eq_nil_iff.mp h).1
  | .or c d, false => fun h => by
    have := congrArg List.length (show prodF (altF c false) (altF d false) = [] from h)
    rw [prod_len] at this
    have a := List.length_pos_iff.mpr (alt_ne c false)
    have b := List.length_pos_iff.mpr (alt_ne d false)
    have := Nat.mul_pos a b
    simp only [List.length_nil] at *
    omega
  | .has _, _ => List.cons_ne_nil _ _
  | .eq _ _, _ => List.cons_ne_nil _ _
  | .lt _ _, _ => List.cons_ne_nil _ _
  | .gt _ _, _ => List.cons_ne_nil _ _

/-! ### two clauses in one comprehension -/
section
variable {J J1 : It} {n : Nat} {G : Hp → Prop} {Y : Nat → Hp → V → Hp → Prop} {g g1 : TG} {tt tt1 : L2.TT} {te : TE} {wi1 : TI} {vs vs1 : List Nat} {σ : St}
/-- the loop of the second clause, from which the first one's next turn is reached -/
abbrev InLp (J1 : It) (g1 : TG) (tt1 : L2.TT) (te : TE) (vs1 : List Nat) (D : Addr) (σ : St) (Nx : Hp → Prop) (H4 : Hp) : Prop := ∃ W1 : Nat → Nat → Hp → Prop, (∃ m, W1 0 m H4) ∧ ∀ j k H, W1 j k H →
  (J1.stop j H ∧ Nx H) ∨ (J1.go j H ∧ ∃ Nx1 : Hp → Prop, (∀ H', Nx1 H' → ∃ k', k' < k ∧ W1 (j + 1) k' H') ∧ ∀ x H', J1.yld j H x H' → g1 x (wipe σ vs1) H' fun σ3 H5 => wipe σ3 vs1 = wipe σ vs1 ∧ tt1 σ3 H5 fun b H6 =>
    if b = true then te σ3 H6 fun y H7 => ∃ acc, H7 D = some (.lst acc) ∧ acc.length < sizeLine ∧ Nx1 (upd H7 D (.lst (acc ++ [y]))) else Nx1 H6)
theorem in_lp (w : Walk J1 n G Y) {D : Addr} {Nx : Hp → Prop} {H4 : Hp} (Pv : Nat → Hp → Prop) (h0 : Pv 0 H4) (hG : ∀ i H, i ≤ n → Pv i H → G H)
    (hs : ∀ i x H H', i < n → Pv i H → Y i H x H' → g1 x (wipe σ vs1) H' fun σ3 H5 => wipe σ3 vs1 = wipe σ vs1 ∧ tt1 σ3 H5 fun b H6 =>
      if b = true then te σ3 H6 fun y H7 => ∃ acc, H7 D = some (.lst acc) ∧ acc.length < sizeLine ∧ Pv (i + 1) (upd H7 D (.lst (acc ++ [y]))) else Pv (i + 1) H6) (hd : ∀ H, Pv n H → Nx H) : InLp J1 g1 tt1 te vs1 D σ Nx H4 := by
  refine ⟨fun j k H => k + j = n ∧ Pv j H, ⟨n, rfl, h0⟩, fun j k H hW => ?_⟩
  have gg := hG j H (by omega) hW.2
  cases k with
  | zero =>
    have e : j = n := by omega
    rw [e] at hW ⊢
    exact .inl ⟨w.stops H gg, hd H hW.2⟩
  | succ k =>
    have lt : j < n := by omega
    exact .inr ⟨w.goes j H lt gg, Pv (j + 1), fun H' p => ⟨k, Nat.lt_succ_self k, by omega, p⟩, fun x H' y => hs j x H H' lt hW.2 (w.yields j H x H' lt gg y)⟩
theorem lc2_it (w : Walk J n G Y) {H1 : Hp} {D : Addr} {Qd : Hp → Prop} (Pv : Nat → Hp → Prop) (h0 : Pv 0 (upd H1 D (.lst []))) (hG : ∀ i H, i ≤ n → Pv i H → G H)
    (hs : ∀ i x H H', i < n → Pv i H → Y i H x H' → g x (wipe σ vs) H' fun σ2 H2 => wipe σ2 vs = wipe σ vs ∧ tt σ2 H2 fun b H3 =>
      if b = true then wi1 σ2 H3 fun J1 H4 => InLp J1 g1 tt1 te vs1 D σ2 (Pv (i + 1)) H4 else Pv (i + 1) H3) (hd : ∀ H, Pv n H → Qd H) :
    ∃ W : Nat → Nat → Hp → Prop, (∃ m, W 0 m (upd H1 D (.lst []))) ∧ ∀ i m H, W i m H →
      (J.stop i H ∧ Qd H) ∨ (J.go i H ∧ ∃ Nx : Hp → Prop, (∀ H', Nx H' → ∃ m', m' < m ∧ W (i + 1) m' H') ∧ ∀ x H', J.yld i H x H' → g x (wipe σ vs) H' fun σ2 H2 => wipe σ2 vs = wipe σ vs ∧ tt σ2 H2 fun b H3 =>
        if b = true then wi1 σ2 H3 fun J1 H4 => InLp J1 g1 tt1 te vs1 D σ2 Nx H4 else Nx H3) := by
  refine ⟨fun j k H => k + j = n ∧ Pv j H, ⟨n, rfl, h0⟩, fun j k H hW => ?_⟩
  have gg := hG j H (by omega) hW.2
  cases k with
  | zero =>
    have e : j = n := by omega
    rw [e] at hW ⊢
    exact .inl ⟨w.stops H gg, hd H hW.2⟩
  | succ k =>
    have lt : j < n := by omega
    exact .inr ⟨w.goes j H lt gg, Pv (j + 1), fun H' p => ⟨k, Nat.lt_succ_self k, by omega, p⟩, fun x H' y => hs j x H H' lt hW.2 (w.yields j H x H' lt gg y)⟩
end
/-! ### the products -/
theorem ret_cb {r : List V → Hp → VK → Prop} {t : TE} {D : Ends} {σ : St} {H : Hp} (h : t σ H fun x H1 => r [x] H1 D.rt) : tRet (tCB r (tCons t tNil)) D σ H := h
theorem yesT {σ : St} {H : Hp} {A : Hp → Prop} {B : Hp → Prop} (h : A H) : tYes σ H fun b H3 => if b = true then A H3 else B H3 := iteT (B := B H) h
theorem Cd.all_triv : ∀ c : Cd, c.all fun _ => True
  | .nt c => Cd.all_triv c
  | .an c d => ⟨Cd.all_triv c, Cd.all_triv d⟩
  | .or c d => ⟨Cd.all_triv c, Cd.all_triv d⟩
  | .has _ => trivial
  | .eq _ _ => trivial
  | .lt _ _ => trivial
  | .gt _ _ => trivial
theorem alt_small {c : Cd} {t : Bool} (h : c.lvs ≤ 8) : (altF c t).length ≤ 256 ∧ ∀ z ∈ altF c t, z.length ≤ 8 :=
  ⟨Nat.le_trans (alt_len c t) (Nat.le_trans (Nat.pow_le_pow_right (by decide) h) (by decide)), fun z hz => Nat.le_trans (alt_mem _ c t (Cd.all_triv c) z hz).1 h⟩
theorem prod_take {xs ys : List Alt} {i : Nat} (h : i < xs.length) : prodF (xs.take (i + 1)) ys = prodF (xs.take i) ys ++ ys.map fun y => xs[i] ++ y := by
  unfold prodF
  rw [List.take_succ_eq_append_getElem h, List.flatMap_append]
  congr 1
  simp
theorem TTs.get {H : Hp} {xs : List V} {ds : List Dt} {i : Nat} {v : V} (h : TTs H xs ds) (e : xs[i]? = some v) : ∃ d, ds[i]? = some d ∧ TT H v d := by
  induction ds generalizing xs i with
  | nil => cases h; cases e
  | cons d ds ih =>
    cases h with
    | cons h1 h2 =>
      cases i with
      | zero => cases e; exact ⟨d, rfl, h1⟩
      | succ i => exact ih h2 e

theorem prod_lc {K : PySem.W.Frag} {H : Hp} {x0 x1 x2 : Option V} {u u' : V} {A B : List Alt} {R : VK} (hu : TT H u (altsD A)) (hu' : TT H u' (altsD B)) (la : A.length ≤ 256) (lb : B.length ≤ 256) (ma : ∀ z ∈ A, z.length ≤ 8) (mb : ∀ z ∈ B, z.length ≤ 8)
    (q : ∀ D acc H', Same H H' → H' D = some (.lst acc) → TTs H' acc ((prodF A B).map altD) → R (.ref D) H') :
    tLc2 (iTup K (tVar 3)) (gName 5) tYes (iTup K (tVar 4)) (gName 6) tYes (tOp (rCatA K) (tVar 5) (tVar 6)) [5, 6] [6] [x0, x1, x2, some u, some u', none, none] H R := by
  obtain ⟨p, ys, rfl, hp, hys⟩ := hu.tup_inv
  obtain ⟨p', ys', rfl, hp', hys'⟩ := hu'.tup_inv
  have l1 := hys.length
  have l2 := hys'.length
  rw [List.length_map] at l1 l2
  refine ⟨_, rfl, p, rfl, ⟨_, SqT.of hp⟩, fun D hD => ?_⟩
  refine lc2_it (walk_tup (K := K) (a := p) (xs := ys)) (fun i H' => Same H H' ∧ ∃ acc, H' D = some (.lst acc) ∧ TTs H' acc ((prodF (A.take i) B).map altD)) ⟨same_new hD _, [], upd_same, .nil⟩ (fun i H' _ h => SqT.of (h.1 _ _ hp)) ?_ ?_
  · rintro i x H1 H2 hi ⟨s1, acc, eD, hacc⟩ ⟨rfl, hx⟩
    obtain ⟨d, ed, dx⟩ := hys.get hx
    rw [List.getElem?_map] at ed
    obtain ⟨za, eza, rfl⟩ := Option.map_eq_some_iff.mp ed
    obtain ⟨hi2, eza2⟩ := List.getElem?_eq_some_iff.mp eza
    have la2 := ma za (List.mem_of_getElem? eza)
    obtain ⟨b1, xs1, rfl, hb1, ht1⟩ := dx.tup_inv
    refine ⟨rfl, ?_⟩
    refine yesT ?_
    refine ⟨_, rfl, p', rfl, ⟨_, SqT.of (s1 _ _ hp')⟩, ?_⟩
    refine in_lp (walk_tup (K := K) (a := p') (xs := ys')) (fun j H' => Same H H' ∧ ∃ acc, H' D = some (.lst acc) ∧ TTs H' acc ((prodF (A.take i) B ++ (B.take j).map fun y => za ++ y).map altD)) ⟨s1, acc, eD, by rw [List.take_zero, List.map_nil, List.append_nil]; exact hacc⟩ (fun j H' _ h => SqT.of (h.1 _ _ hp')) ?_ ?_
    · rintro j y H3 H4 hj ⟨s3, acc3, eD3, hacc3⟩ ⟨rfl, hy⟩
      obtain ⟨d, ed, dy⟩ := hys'.get hy
      rw [List.getElem?_map] at ed
      obtain ⟨zb, ezb, rfl⟩ := Option.map_eq_some_iff.mp ed
      obtain ⟨hj2, ezb2⟩ := List.getElem?_eq_some_iff.mp ezb
      have lb2 := mb zb (List.mem_of_getElem? ezb)
      obtain ⟨b2, xs2, rfl, hb2, ht2⟩ := dy.tup_inv
      have k1 := ht1.length
      have k2 := ht2.length
      rw [List.length_map] at k1 k2
      refine ⟨rfl, ?_⟩
      refine yesT ?_
      refine ⟨_, rfl, _, rfl, ?_⟩
      refine catA_tt (s3 _ _ hb1) (s3 _ _ hb2) (le_line (by omega)) fun q H5 s5 hq => ?_
      have eD5 := s5 _ _ eD3
      have k3 := hacc3.length
      have k4 : (A.take i).length * B.length ≤ 256 * 256 := Nat.mul_le_mul (by rw [List.length_take]; omega) lb
      rw [List.length_map, List.length_append, List.length_map, prod_len, List.length_take (l := B)] at k3
      refine ⟨acc3, eD5, lt_line (by omega), (s3.trans s5).late hD, acc3 ++ [.ref q], upd_same, ?_⟩
      rw [List.take_succ_eq_append_getElem hj2, ezb2, List.map_append (l₁ := B.take j), ← List.append_assoc, List.map_append]
      have h5 : TT H5 (.ref q) (altD (za ++ zb)) := .tup hq (by rw [List.map_append]; exact (ht1.same (s3.trans s5)).append (ht2.same (s3.trans s5)))
      exact ((hacc3.same s5).append (.cons h5 .nil)).lput eD5
    · rintro H3 ⟨s3, acc3, eD3, h3⟩
      rw [l2, List.take_length] at h3
      exact ⟨s3, acc3, eD3, by rw [prod_take hi2, eza2]; exact h3⟩
  · rintro H1 ⟨s1, acc, eD, hacc⟩
    rw [l1, List.take_length] at hacc
    exact q D acc H1 s1 eD hacc
theorem one_tt {H : Hp} {v : V} {z : Cd} {t : Bool} (hv : TT H v (cdD z)) {o1 o2 o3 : Addr} (h1 : H o1 = none) (h2 : (upd H o1 (.tup [v, .bl t])) o2 = none) (h3 : (upd (upd H o1 (.tup [v, .bl t])) o2 (.tup [.ref o1])) o3 = none) :
    TT (upd (upd (upd H o1 (.tup [v, .bl t])) o2 (.tup [.ref o1])) o3 (.tup [.ref o2])) (.ref o3) (altsD [[(z, t)]]) := by
  have s2 := same_new h2 (.tup [.ref o1])
  have s3 := same_new h3 (.tup [.ref o2])
  refine .tup upd_same (.cons (.tup (s3 _ _ upd_same) (.cons (.tup (s3 _ _ (s2 _ _ upd_same)) (.cons (hv.same ((same_new h1 _).trans (s2.trans s3))) (.cons (.bl t) .nil))) .nil)) .nil)
theorem cat_tt {K : PySem.W.Frag} {H : Hp} {u u' : V} {A B : List Alt} {Q : VK} (hu : TT H u (altsD A)) (hu' : TT H u' (altsD B)) (la : A.length ≤ 256) (lb : B.length ≤ 256) (q : ∀ u H', Same H H' → TT H' u (altsD (A ++ B)) → Q u H') : rCatA K u u' H Q := by
  obtain ⟨p, ys, rfl, hp, hys⟩ := hu.tup_inv
  obtain ⟨p', ys', rfl, hp', hys'⟩ := hu'.tup_inv
  have l1 := hys.length
  have l2 := hys'.length
  rw [List.length_map] at l1 l2
  refine catA_tt hp hp' (le_line (by omega)) fun r H1 s1 hr => q _ _ s1 (.tup hr ?_)
  rw [List.map_append]
  exact (hys.same s1).append (hys'.same s1)
theorem one_tts {H : Hp} {v : V} {z : Cd} {t : Bool} (hv : TT H v (cdD z)) {o1 o2 o3 : Addr} (h1 : H o1 = none) (h2 : (upd H o1 (.tup [v, .bl t])) o2 = none) (h3 : (upd (upd H o1 (.tup [v, .bl t])) o2 (.tup [.ref o1])) o3 = none) :
    TTs (upd (upd (upd H o1 (.tup [v, .bl t])) o2 (.tup [.ref o1])) o3 (.lst [.ref o2])) [.ref o2] ([[(z, t)]].map altD) := by
  have s2 := same_new h2 (.tup [.ref o1])
  have s3 := same_new h3 (.lst [.ref o2])
  refine (.cons (.tup (s3 _ _ upd_same) (.cons (.tup (s3 _ _ (s2 _ _ upd_same)) (.cons (hv.same ((same_new h1 _).trans (s2.trans s3))) (.cons (.bl t) .nil))) .nil)) .nil)
theorem row_lc {K : PySem.W.Frag} {H : Hp} {x0 x1 x2 x3 x5 x7 : Option V} {b1 r2 : Addr} {xs1 as2 : List V} {za : Alt} {B : List Alt} {R : VK} (hb1 : H b1 = some (.tup xs1)) (ht1 : TTs H xs1 (za.map cpD)) (e2 : H r2 = some (.lst as2)) (h2 : TTs H as2 (B.map altD)) (la : za.length ≤ 8) (lb : B.length ≤ 256) (mb : ∀ z ∈ B, z.length ≤ 8)
    (q : ∀ D acc H', Same H H' → H' D = some (.lst acc) → TTs H' acc ((B.map fun y => za ++ y).map altD) → R (.ref D) H') :
    tLc (iList K (tVar 4)) (gName 7) tYes (tOp (rCatA K) (tVar 6) (tVar 7)) [7] [x0, x1, x2, x3, some (.ref r2), x5, some (.ref b1), x7] H R := by
  have l2 := h2.length
  have k1 := ht1.length
  rw [List.length_map] at l2 k1
  refine ⟨_, rfl, r2, rfl, ⟨_, SqL.of e2⟩, fun D hD => ?_⟩
  refine lc_acc (walk_list (K := K) (a := r2) (xs := as2)) (fun i acc H' => Same H H' ∧ TTs H' acc (((B.take i).map fun y => za ++ y).map altD)) ⟨same_new hD _, .nil⟩ (fun i acc H' _ _ h => SqL.of (h.1 _ _ e2)) ?_ ?_
  · rintro j acc y H3 H4 hj eD3 el ⟨s3, hacc3⟩ ⟨rfl, hy⟩
    obtain ⟨d, ed, dy⟩ := h2.get hy
    rw [List.getElem?_map] at ed
    obtain ⟨zb, ezb, rfl⟩ := Option.map_eq_some_iff.mp ed
    obtain ⟨hj2, ezb2⟩ := List.getElem?_eq_some_iff.mp ezb
    have lb2 := mb zb (List.mem_of_getElem? ezb)
    obtain ⟨b2, xs2, rfl, hb2, ht2⟩ := dy.tup_inv
    have k2 := ht2.length
    rw [List.length_map] at k2
    refine ⟨rfl, ?_⟩
    refine ⟨_, rfl, _, rfl, ?_⟩
    refine catA_tt (s3 _ _ hb1) (s3 _ _ hb2) (le_line (by omega)) fun q H5 s5 hq => ?_
    have eD5 := s5 _ _ eD3
    refine acc_step eD5 el (by omega) ⟨(s3.trans s5).late hD, ?_⟩
    rw [List.take_succ_eq_append_getElem hj2, ezb2, List.map_append (l₁ := B.take j), List.map_append]
    have h5 : TT H5 (.ref q) (altD (za ++ zb)) := .tup hq (by rw [List.map_append]; exact (ht1.same (s3.trans s5)).append (ht2.same (s3.trans s5)))
    exact ((hacc3.same s5).append (.cons h5 .nil)).lput eD5
  · rintro acc H1 eD el ⟨s1, hacc⟩
    rw [l2, List.take_length] at hacc
    exact q D acc H1 s1 eD hacc
theorem lvs_dep : ∀ c : Cd, c.lvs ≤ 2 ^ c.dep
  | .nt c => Nat.le_trans (lvs_dep c) (Nat.pow_le_pow_right (by decide) (by show c.dep ≤ c.dep + 1; omega))
  | .an c d => by
    show c.lvs + d.lvs ≤ 2 ^ (max c.dep d.dep + 1)
    have h1 := Nat.le_trans (lvs_dep c) (Nat.pow_le_pow_right (show 2 > 0 by decide) (Nat.le_max_left c.dep d.dep))
    have h2 := Nat.le_trans (lvs_dep d) (Nat.pow_le_pow_right (show 2 > 0 by decide) (Nat.le_max_right c.dep d.dep))
    rw [Nat.pow_succ]
    omega
  | .or c d => by
    show c.lvs + d.lvs ≤ 2 ^ (max c.dep d.dep + 1)
    have h1 := Nat.le_trans (lvs_dep c) (Nat.pow_le_pow_right (show 2 > 0 by decide) (Nat.le_max_left c.dep d.dep))
    have h2 := Nat.le_trans (lvs_dep d) (Nat.pow_le_pow_right (show 2 > 0 by decide) (Nat.le_max_right c.dep d.dep))
    rw [Nat.pow_succ]
    omega
  | .has _ => Nat.le_refl _
  | .eq _ _ => Nat.le_refl _
  | .lt _ _ => Nat.le_refl _
  | .gt _ _ => Nat.le_refl _
theorem alt_lit (R : Sc → Prop) : ∀ (c : Cd) (t : Bool), c.lit R → ∀ z ∈ altF c t, ∀ p ∈ z, p.1.lit R
  | .nt c, t, h, z, hz => alt_lit R c (!t) h z hz
  | .an c d, true, h, z, hz => by
    obtain ⟨x, hx, y, hy, rfl⟩ := prod_mem (show z ∈ prodF _ _ from hz)
    exact fun p hp => (List.mem_append.mp hp).elim (alt_lit R c true h.1 x hx p) (alt_lit R d true h.2 y hy p)
  | .or c d, false, h, z, hz => by
    obtain ⟨x, hx, y, hy, rfl⟩ := prod_mem (show z ∈ prodF _ _ from hz)
    exact fun p hp => (List.mem_append.mp hp).elim (alt_lit R c false h.1 x hx p) (alt_lit R d false h.2 y hy p)
  | .an c d, false, h, z, hz => (List.mem_append.mp (show z ∈ altF c false ++ altF d false from hz)).elim (alt_lit R c false h.1 z) (alt_lit R d false h.2 z)
  | .or c d, true, h, z, hz => (List.mem_append.mp (show z ∈ altF c true ++ altF d true from hz)).elim (alt_lit R c true h.1 z) (alt_lit R d true h.2 z)
  | .has q, t, h, z, hz => fun p hp => by rw [List.mem_singleton.mp (show z ∈ [[(Cd.has q, t)]] from hz)] at hp; rw [List.mem_singleton.mp hp]; exact h
  | .eq q r, t, h, z, hz => fun p hp => by rw [List.mem_singleton.mp (show z ∈ [[(Cd.eq q r, t)]] from hz)] at hp; rw [List.mem_singleton.mp hp]; exact h
  | .lt q r, t, h, z, hz => fun p hp => by rw [List.mem_singleton.mp (show z ∈ [[(Cd.lt q r, t)]] from hz)] at hp; rw [List.mem_singleton.mp hp]; exact h
  | .gt q r, t, h, z, hz => fun p hp => by rw [List.mem_singleton.mp (show z ∈ [[(Cd.gt q r, t)]] from hz)] at hp; rw [List.mem_singleton.mp hp]; exact h
/-! ### what may be compared, either way -/
def DOk (n : Nat) (d : Dt) : Prop := d.deep ≤ n ∧ d.fits = true ∧ d.lay = true
theorem DOk.up {n m : Nat} {d : Dt} (h : DOk n d) (k : n ≤ m) : DOk m d := ⟨Nat.le_trans h.1 k, h.2⟩
theorem tup_ok {ds : List Dt} {n : Nat} (hl : ds.length ≤ 1000000) (h : ∀ d ∈ ds, DOk n d) : DOk (n + 1) (.tup ds) := by
  refine ⟨?_, ?_, ?_⟩
  · have : Dt.deeps ds ≤ n := deeps_le fun d hd => (h d hd).1
    show Dt.deeps ds + 1 ≤ n + 1
    omega
  · rw [Dt.fits, fitss_of fun d hd => (h d hd).2.1, decide_eq_true hl]
    rfl
  · rw [Dt.lay]
    exact lays_of fun d hd => (h d hd).2.2
theorem str_ok {z : Str} (h : PyData.strOk z = true) : DOk 2 (.str z) := ⟨Nat.le_of_ble_eq_true rfl, rfl, by rw [Dt.lay]; exact h⟩
theorem int_ok (i : Int) : DOk 2 (.int i) := ⟨Nat.le_of_ble_eq_true rfl, rfl, by rw [Dt.lay]; all_goals intros; contradiction⟩
theorem bl_ok (b : Bool) : DOk 2 (.bl b) := ⟨Nat.le_of_ble_eq_true rfl, rfl, by rw [Dt.lay]; all_goals intros; contradiction⟩
theorem path_ok {p : List Str} (h1 : p.length ≤ 1000) (h2 : ∀ z ∈ p, SgT z) : DOk 3 (ptD p) := tup_ok (by rw [List.length_map]; omega) fun d hd => by
  obtain ⟨z, hz, rfl⟩ := List.mem_map.mp hd
  exact str_ok (strOk_sg (h2 z hz))
theorem two_ok {d e : Dt} {n : Nat} (h : DOk n d) (k : DOk n e) : DOk (n + 1) (.tup [d, e]) := tup_ok (by show 2 ≤ 1000000; decide) fun x hx => by
  simp only [List.mem_cons, List.not_mem_nil, or_false] at hx
  rcases hx with rfl | rfl
  · exact h
  · exact k
theorem three_ok {d e f : Dt} {n : Nat} (h : DOk n d) (k : DOk n e) (l : DOk n f) : DOk (n + 1) (.tup [d, e, f]) := tup_ok (by show 3 ≤ 1000000; decide) fun x hx => by
  simp only [List.mem_cons, List.not_mem_nil, or_false] at hx
  rcases hx with rfl | rfl | rfl
  · exact h
  · exact k
  · exact l
theorem place_ok {p : Pl} (h1 : (plP p).length ≤ 1000) (h2 : ∀ z ∈ plP p, SgT z) : DOk 4 (plD p) := by
  cases p with
  | path q => exact two_ok ((str_ok (by decide +kernel)).up (by decide)) (path_ok h1 h2)
  | ent q => exact two_ok ((str_ok (by decide +kernel)).up (by decide)) (path_ok h1 h2)
theorem sc_ok {c : Sc} (h : scOk c) : DOk 4 (.tup (scD c)) := by
  refine ⟨?_, (scD_same c).2, lay_sc h⟩
  cases c <;> first | decide | exact Nat.le_of_ble_eq_true rfl
def PlU (p : Pl) : Prop := (plP p).length ≤ 1000 ∧ ∀ z ∈ plP p, SgT z
theorem atom_ok {a : Cd} (hd : a.dep = 0) (hp : a.all PlU) (hl : a.lit scN) : DOk 5 (cdD a) := by
  have nz : ∀ {n : Nat}, ¬ n + 1 = 0 := by omega
  cases a with
  | nt c => exact absurd hd nz
  | an c d => exact absurd hd nz
  | or c d => exact absurd hd nz
  | has p => exact two_ok ((str_ok (by decide +kernel)).up (by decide)) (place_ok hp.1 hp.2)
  | eq p c => exact three_ok ((str_ok (by decide +kernel)).up (by decide)) (place_ok hp.1 hp.2) (sc_ok (scN.ok hl))
  | lt p m => exact three_ok ((str_ok (by decide +kernel)).up (by decide)) (place_ok hp.1 hp.2) ((int_ok m).up (by decide))
  | gt p m => exact three_ok ((str_ok (by decide +kernel)).up (by decide)) (place_ok hp.1 hp.2) ((int_ok m).up (by decide))
theorem alts_ok {c : Cd} {t : Bool} (hl : c.lvs ≤ 8) (hp : c.all PlU) (h : c.lit scN) : DOk 8 (altsD (altF c t)) := by
  have sm := alt_small (t := t) hl
  refine tup_ok (by rw [List.length_map]; have := sm.1; omega) fun d hd => ?_
  obtain ⟨z, hz, rfl⟩ := List.mem_map.mp hd
  refine tup_ok (by rw [List.length_map]; have := sm.2 z hz; omega) fun d hd => ?_
  obtain ⟨p, hm, rfl⟩ := List.mem_map.mp hd
  have a := (alt_mem PlU c t hp z hz).2 p hm
  exact two_ok (atom_ok a.1 a.2 (alt_lit scN c t h z hz p hm)) ((bl_ok _).up (by decide))
/-- not the empty tuple -/
theorem ne_tup {K : PySem.W.Frag} {H : Hp} {u : V} {b : Addr} {as : List Alt} {Q : VK} (h : TT H u (altsD as)) (ok : DOk 60 (altsD as)) (hb : H b = some (.tup [])) (q : Q (.bl (!as.isEmpty)) H) : rNeD K u (.ref b) H Q := by
  refine ⟨(altsD as).py, .tuple [], DT.dp _ _ h.to, ?_, shaped_dt ok.2.2 ok.1, by decide +kernel, ?_⟩
  · exact DT.dp (.tup []) _ (.tup (SqT.of hb) .nil)
  · have e : PyData.eqv (altsD as).py (.tuple []) = as.isEmpty := by
      cases as with
      | nil => rfl
      | cons a as => rfl
    rw [e]
    exact q
end My

namespace My
open PySem L2

/-! ### iterators over tuples -/
theorem meets_enum_tup (l : Addr) (items : Array Value) (n : Nat) (dct : Option Addr) (sl : Array (Option Value)) :
    Meets (Builtin.«enumerate.__new__» { pos := [Value.type "enumerate", Value.ref l] }) fun _ R s =>
      s.heap.get? l = some { cls := .type "tuple", dict := dct, data := .seq items n, slots := sl } ∧
      R (.ok (.ret (.ref (s.heap.push { cls := .type "tuple_iterator", data := .fields #[.ref l, .int 0 0] }).objs.size)))
        { s with heap := (s.heap.push { cls := .type "tuple_iterator", data := .fields #[.ref l, .int 0 0] }).push { cls := .type "enumerate", data := .fields #[.none, .bool false, .ref s.heap.objs.size, rawInt 0, .none, .none] } } :=
  Meets.of_wp fun prog w A R s h => by
    obtain ⟨hp, g, d, tk, os⟩ := s
    obtain ⟨hl, h⟩ := h
    have hT : hp.IsTuple l items := ⟨_, hl, rfl, n, rfl⟩
    unfold Builtin.«enumerate.__new__»
    refine wpAny_bind ?_
    unfold Builtin.SmallTypes.newClass
    refine wpAny_bind ?_
    refine wpAny_pure ?_
    refine wpAny_ite_false (by decide) ?_
    refine wpAny_bind (wpAny_of_eq sub_enumerate ?_)
    refine wpAny_ite_false (by decide) ?_
    refine wpAny_pure ?_
    refine wpAny_ite_true (by decide) ?_
    refine wpAny_bind ?_
    unfold Builtin.SmallTypes.calledThroughType
    refine wpAny_bind ?_
    refine wpAny_stack_any fun st => ?_
    refine wpAny_pure ?_
    generalize Builtin.SmallTypes.calledThroughType.match_1 _ _ _ _ = sh
    have go : wpAny (model prog w) A.in1 (do
        let i ← pyIter (Value.ref l)
        let o ← Builtin.SmallTypes.newRecord (Value.type "enumerate") (Builtin.SmallTypes.ownedTupleFields ++ [i, rawInt 0, Value.none, Value.none])
        ret o) (fun fin s' => ∃ v, fin = Fin.done (Flow.ret v) ∧ R (Except.ok (Flow.ret v)) s') (fun e s' => R (Except.error e) s') { heap := hp, gens := g, drawn := d, toks := tk, os := os } := by
      refine wpAny_bind (wpAny_pyIter_tuple hT ?_)
      refine wpAny_bind ?_
      unfold Builtin.SmallTypes.newRecord
      dsimp only
      unfold newObj
      dsimp only
      rw [if_neg (by show ¬ (6 > sizeLine + 2); decide)]
      unfold newObjAsIs
      refine wpAny_bind (wpAny_alloc' ?_)
      refine wpAny_pure ?_
      refine wpAny_pure ?_
      exact ⟨_, rfl, h⟩
    cases sh
    · refine wpAny_ite_false (by decide) ?_
      refine wpAny_bind (wpAny_of_eq (a := (Value.ref l, none)) rfl ?_)
      exact go
    · refine wpAny_ite_true (by decide) ?_
      refine wpAny_bind ?_
      refine wpAny_pure ?_
      exact go
theorem nextOf_tup_item {prog : Program} {w : World} {A : Around} {E : Value → Shared → Prop} {s : Shared} {it l : Addr} {i : Nat} {items : Array Value} {x : Value} {Q : Value → Shared → Prop}
    (hit : s.heap.IsTupleIter it l i) (hl : s.heap.IsTuple l items) (hx : items[i]? = some x)
    (hQ : ∀ h' : Heap, h'.IsTupleIter it l (i + 1) → Heap.SameBut it s.heap h' → Q x { s with heap := h' }) :
    wpAny (model prog w) A (Builtin.SmallTypes.nextOf (Value.ref it)) Q E s := by
  obtain ⟨o, ho, hc, hd⟩ := id hit
  obtain ⟨ol, hol, _, nl, hdl⟩ := hl
  unfold Builtin.SmallTypes.nextOf
  refine wpAny_bind ?_
  refine wpAny_callSpecial?_slot (Heap.IsTupleIter.typeIs hit) F.slot_tuple_iterator_next ?_
  refine wpAny_call_entry F.slot_tuple_iterator_next (Heap.IsTupleIter.typeIs hit) F.entry_tuple_iterator_next ?_ (F.args_tuple_iterator_next_1 _)
  unfold Builtin.«tuple_iterator.__next__»
  refine wpAny_bind (wpAny_of_eq (a := (Value.ref it, [])) rfl ?_)
  refine wpAny_bind (wpAny_field ho hd rfl ?_)
  refine wpAny_ite_false rfl ?_
  refine wpAny_bind (wpAny_field ho hd rfl ?_)
  refine wpAny_bind (wpAny_seqItems hol hdl ?_)
  have e : items[((i : Int)).toNat]? = some x := by rw [Int.toNat_natCast]; exact hx
  show wpAny _ _ (match items[((i : Int)).toNat]? with | some x => _ | none => _) _ _ _
  rw [e]
  refine wpAny_bind (wpAny_setField ho hd (by show (1 : Nat) < 2; decide) ?_)
  refine wpAny_pure ⟨_, rfl, wpAny_pure (hQ _ ?_ (Heap.SameBut.update s.heap it _))⟩
  refine ⟨_, Heap.get?_update_self _ ho (Obj.isFreed_of_fields (Obj.data_mapFields hd _)), (Obj.cls_mapFields o _).trans hc, ?_⟩
  rw [Obj.data_mapFields hd]
  rfl
theorem nextOf_tup_end {prog : Program} {w : World} {A : Around} {E : Value → Shared → Prop} {s : Shared} {it l : Addr} {i : Nat} {items : Array Value} {Q : Value → Shared → Prop}
    (hh : A.handled = none) (hit : s.heap.IsTupleIter it l i) (hl : s.heap.IsTuple l items) (hx : items[i]? = none)
    (hE : ∀ (h' : Heap) (e : Addr), Heap.ExtBut it s.heap h' → (∃ o, h'.get? e = some o ∧ o.cls = Value.type "StopIteration") → E (Value.ref e) { s with heap := h' }) :
    wpAny (model prog w) A (Builtin.SmallTypes.nextOf (Value.ref it)) Q E s := by
  obtain ⟨o, ho, hc, hd⟩ := id hit
  obtain ⟨ol, hol, _, nl, hdl⟩ := hl
  unfold Builtin.SmallTypes.nextOf
  refine wpAny_bind ?_
  refine wpAny_callSpecial?_slot (Heap.IsTupleIter.typeIs hit) F.slot_tuple_iterator_next ?_
  refine wpAny_call_entry F.slot_tuple_iterator_next (Heap.IsTupleIter.typeIs hit) F.entry_tuple_iterator_next ?_ (F.args_tuple_iterator_next_1 _)
  unfold Builtin.«tuple_iterator.__next__»
  refine wpAny_bind (wpAny_of_eq (a := (Value.ref it, [])) rfl ?_)
  refine wpAny_bind (wpAny_field ho hd rfl ?_)
  refine wpAny_ite_false rfl ?_
  refine wpAny_bind (wpAny_field ho hd rfl ?_)
  refine wpAny_bind (wpAny_seqItems hol hdl ?_)
  have e : items[((i : Int)).toNat]? = none := by rw [Int.toNat_natCast]; exact hx
  show wpAny _ _ (match items[((i : Int)).toNat]? with | some x => _ | none => _) _ _ _
  rw [e]
  refine wpAny_bind (wpAny_rule ?_)
  refine wpAny_bind (wpAny_setField ho hd (by show (0 : Nat) < 2; decide) ?_)
  refine wpAny_bind ?_
  refine wpAny_bind ?_
  refine wpAny_newObj_type ?_
  refine wpAny_bind (wpAny_of_eq (a := Value.none) rfl ?_)
  refine wpAny_newObj_type ?_
  unfold raiseNew
  refine wpAny_bind (wpAny_handled ?_)
  have hh' : A.in1.handled = none := hh
  rw [hh']
  refine wpAny_throw (hE _ _ ?_ ?_)
  · exact Heap.ExtBut.push (Heap.ExtBut.push (Heap.SameBut.extBut (Heap.SameBut.update s.heap it _)) _) _
  · exact ⟨_, Heap.get?_push_size _ rfl, rfl⟩
/-- an iterator over a tuple gives its items in order -/
theorem draws_tup {prog : Program} {w : World} {A : Around} (hh : A.handled = none) (it l : Addr) (hne : l ≠ it) (items : Array Value) :
    Draws prog w A it [it, l] items.size (fun i v => items[i]? = some v) fun i h => h.IsTupleIter it l i ∧ h.IsTuple l items where
  live := fun _ _ st => by
    obtain ⟨⟨o, ho, _⟩, _⟩ := st
    exact ⟨o, ho⟩
  frame := fun i h h' st hk => by
    refine ⟨Heap.IsTupleIter.at st.1 fun o e => hk it (by simp) o e, ?_⟩
    obtain ⟨o, ho, r⟩ := st.2
    exact ⟨o, hk l (by simp) o ho, r⟩
  item := fun i s Q E hi st hQ => by
    have hx : items[i]? = some items[i] := by simp [hi]
    refine nextOf_tup_item st.1 st.2 hx fun h' hit sb => hQ _ _ s.toks hx ⟨hit, ?_⟩ sb
    obtain ⟨o, ho, r⟩ := st.2
    exact ⟨o, (sb.2 l hne).trans ho, r⟩
  done := fun s Q E st hE => nextOf_tup_end hh st.1 st.2 (by simp) hE

theorem call_enum_tup {prog : Program} {w : World} {A : Around} {E : Value → Shared → Prop} {s : Shared} {l : Addr} {items : Array Value} {Q : Value → Shared → Prop}
    (hT : s.heap.IsTuple l items)
    (h : ∀ h' : Heap, IsEnum h' (s.heap.objs.size + 1) s.heap.objs.size 0 Value.none → h'.IsTupleIter s.heap.objs.size l 0 → (∀ (b : Addr) (o : Obj), s.heap.get? b = some o → h'.get? b = some o) → Q (Value.ref (s.heap.objs.size + 1)) { s with heap := h' }) :
    wpAny (model prog w) A (call (Value.type "enumerate") [Value.ref l]) Q E s := by
  obtain ⟨⟨c, dct, dt, sl⟩, hl, hc, n, hd⟩ := hT
  cases hc
  cases hd
  refine callType_new F.called_enumerate (by decide) (F.typeCall_enumerate_1 _) (F.newCall_enumerate_1 _) (fun obj => F.args_object_init_2 obj _) F.entry_enumerate_new (meets_enum_tup l items n dct sl) ⟨hl, ?_⟩
  have hz := Heap.size_push s.heap { cls := .type "tuple_iterator", data := .fields #[.ref l, .int 0 0] }
  have he := Heap.get?_push_size (s.heap.push { cls := .type "tuple_iterator", data := .fields #[.ref l, .int 0 0] }) (o := { cls := .type "enumerate", data := .fields #[.none, .bool false, .ref s.heap.objs.size, rawInt 0, .none, .none] }) rfl
  show Shared.TypeIs _ _ _ ∧ _
  rw [hz] at he ⊢
  refine ⟨⟨_, he, rfl⟩, h _ he ?_ ?_⟩
  · exact ⟨_, Heap.get?_push_of_some _ (Heap.get?_push_size _ rfl), rfl, rfl⟩
  · exact fun b o y => Heap.get?_push_of_some _ (Heap.get?_push_of_some _ y)
/-! ### enumerate of a tuple -/
def Itet (K : PySem.W.Frag) (a : Addr) : It where
  go := fun i H => ∃ xs x, SqT K H a xs ∧ xs[i]? = some x
  yld := fun i H v H' => ∃ T x, v = V.ref T ∧ H T = none ∧ H' = upd H T (.tup [.int (i : Int), x]) ∧ ∀ xs, SqT K H a xs → xs[i]? = some x
  stop := fun i H => ∃ xs, SqT K H a xs ∧ xs.length = i
theorem ti_ne {h : Heap} {it a : Addr} {i : Nat} {items : Array Value} (h1 : h.IsTupleIter it a i) (h2 : h.IsTuple a items) : a ≠ it := by
  rintro rfl
  obtain ⟨o, e1, c1, _⟩ := h1
  obtain ⟨o2, e2, c2, _⟩ := h2
  rw [e1] at e2
  cases e2
  rw [c1] at c2
  exact absurd c2 (by decide)
theorem te_ne {h : Heap} {e it a : Addr} {i : Int} {old : Value} {items : Array Value} (h1 : IsEnum h e it i old) (h2 : h.IsTuple a items) : e ≠ a := by
  rintro rfl
  obtain ⟨o2, e2, c2, _⟩ := h2
  rw [h1] at e2
  cases e2
  exact absurd (show Value.type "enumerate" = Value.type "tuple" from c2) (by decide)
theorem turn_enumT {P : Program} {w : World} {K : PySem.W.Frag} {elts : List Expr} {kk : Nat} {tpos : Pos} (a e it : Addr) :
    Turn P w K (Expr.Tuple elts kk tpos) (Itet K a) [e, it] e fun i h => (∃ old, IsEnum h e it (i : Int) old) ∧ h.IsTupleIter it a i ∧ e ≠ it where
  mem := by simp
  obj := fun i h st b hb => by
    obtain ⟨⟨old, he⟩, ⟨o, ho, hc, hd⟩, hne⟩ := st
    rcases List.mem_cons.mp hb with rfl | hb
    · exact ⟨_, he, fun v z => by cases z⟩
    · rw [List.mem_singleton.mp hb]
      exact ⟨o, ho, fun v z => by rw [hd] at z; cases z⟩
  keep := fun i h h' st k => by
    obtain ⟨⟨old, he⟩, hit, hne⟩ := st
    exact ⟨⟨old, k e (by simp) _ he⟩, Heap.IsTupleIter.at hit fun o q => k it (by simp) o q, hne⟩
  item := fun X hP hw hK hc i pins s σ H E I hf st hg => by
    subst hP; subst hw; subst hK
    obtain ⟨⟨old, he⟩, hit, hne⟩ := st
    obtain ⟨xs, x, hq, hx⟩ := hg
    obtain ⟨its, rv, p, hz⟩ := Inv.tuple I hq
    obtain ⟨u, hu, ru⟩ := Vals.get rv hx
    have pT : s.heap.IsTuple a its.toArray := p
    have hel := Heap.lt_size he
    have hil : it < s.heap.objs.size := by obtain ⟨o, q, _⟩ := hit; exact Heap.lt_size q
    have hi : i < its.toArray.size := by
      have := (List.getElem?_eq_some_iff.mp hu).1
      simpa using this
    refine wpAny_pyNext_enum_itemD (draws_tup (show X.A.in1.handled = none from I.ok.hd hc) it a (ti_ne hit pT) its.toArray) he ⟨hit, pT⟩ hi hne ?_ fun x' h' tk hpx ho hst hT hsz hk => ?_
    · have := te_ne he pT
      simp [hne, this]
    refine ⟨_, rfl, wpAny_letOwnedTupleGo_enum ho fun h'' he' sb => ?_⟩
    have hx' : x' = u := by
      rw [List.getElem?_toArray, hu] at hpx
      exact (Option.some.inj hpx).symm
    subst hx'
    have hT2 := (sb.2 s.heap.objs.size (Nat.ne_of_gt hel)).trans hT
    refine ⟨.ref s.heap.objs.size, upd H s.heap.objs.size (.tup [.int (i : Int), x]), ?_, rfl, ⟨_, x, rfl, HOk.fresh I.hok (Nat.le_refl _), rfl, fun ys hy => ?_⟩, ⟨⟨x', ?_⟩, ?_, hne⟩, fun b hb => ?_⟩
    · show L2.Inv X pins σ (upd H s.heap.objs.size (.tup [.int (i : Int), x])) { heap := h'', gens := s.gens, drawn := s.drawn, toks := tk + 1, os := s.os }
      refine Inv.turnedNew (s := s) (ch := [e, it]) I (fun b ob hb q => ?_) hf (Nat.le_refl _) ?_
      · have h1 : b ≠ e := fun z => hb (by simp [z])
        have h2 : b ≠ it := fun z => hb (by simp [z])
        exact (sb.2 b h1).trans (hk b ob h1 h2 q)
      · exact ⟨by show 2 ≤ sizeLine; decide, _, .cons ⟨tk, rfl⟩ (.cons ru .nil), _, hT2, rfl, 0, rfl⟩
    · rw [Inv.tuple_inj I hy hq]
      exact hx
    · rw [show ((i + 1 : Nat) : Int) = (i : Int) + 1 by omega]
      exact he'
    · exact Heap.IsTupleIter.at hst.1 fun o q => (sb.2 it (Ne.symm hne)).trans q
    · have hb' : b < s.heap.objs.size := by
        rcases List.mem_cons.mp hb with rfl | hb
        · exact hel
        · rw [List.mem_singleton.mp hb]; exact hil
      rw [upd_ne (Nat.ne_of_lt hb')]
      exact (hf b hb).1
  done := fun X hP hw hK hc i pins s σ H E I hf st hg => by
    subst hP; subst hw; subst hK
    obtain ⟨⟨old, he⟩, hit, hne⟩ := st
    obtain ⟨xs, hq, hx⟩ := hg
    obtain ⟨its, rv, p, hz⟩ := Inv.tuple I hq
    have pT : s.heap.IsTuple a its.toArray := p
    have hl := Vals.length rv
    obtain ⟨f0, f1, f2, f3, f4, f5⟩ := hf it (by simp)
    have hi : i = its.toArray.size := by simp; omega
    subst hi
    exact wpAny_pyNext_enum_endD (draws_tup (show X.A.in1.handled = none from I.ok.hd hc) it a (ti_ne hit pT) its.toArray) he ⟨hit, pT⟩ fun h' eb => ⟨rfl, Inv.turned I (fun b o hb q => eb b o hb q) f0 f1 f3 f4 f5⟩
  self := fun A i s Q E st h => by
    obtain ⟨⟨old, he⟩, _⟩ := st
    exact wpAny_pyIter_enum he h
def iEnumT (K : PySem.W.Frag) (ta : TA) : TI := fun σ H R => ta σ H fun vs H1 => ∃ a xs, vs = [V.ref a] ∧ SqT K H1 a xs ∧ R (Itet K a) H1
theorem pi_enumT {X : Cx} {K : PySem.W.Frag} (hK : X.K = K) {e : Expr} {ta : TA} {p pos tpos : Pos} {elts : List Expr} {kk : Nat} (hg : Gl X (Str.ofString "enumerate")) (hm : X.mg (Str.ofString "enumerate") = none) (ha : PA X [e] ta) (hs : starEach [e] X.env = [(false, eval e X.env)] := by rfl) :
    PI X (Expr.Tuple elts kk tpos) ((Expr.Name (Str.ofString "enumerate") p).Call [e] [] pos) (iEnumT K ta) where
  run := fun pins s σ H R I h => by
    subst hK
    refine PyProof.Rows.Call_ (ld_blt I hg hm PyProof.Rows.boot_enumerate (PyProof.Rows.callWith_type1 (thn (ha.run pos pins s σ H _ I h) fun us s1 x => ?_) hs rfl) (by decide) (by decide)) rfl
    obtain ⟨vs, H1, I1, r1, a, xs, rfl, hq, q⟩ := x
    cases r1 with
    | cons r rr =>
    cases rr
    cases r
    obtain ⟨its, rv, p', hz⟩ := Inv.tuple I1 hq
    have pT : s1.heap.IsTuple a its.toArray := p'
    refine call_enum_tup pT fun h' he hit hk => wpAny_pyIter_enum he ?_
    refine ⟨s1.heap.objs.size + 1, [s1.heap.objs.size + 1, s1.heap.objs.size], _, _, H1, rfl, Inv.kept I1 hk, turn_enumT a _ s1.heap.objs.size, ⟨⟨_, he⟩, hit, Nat.succ_ne_self _⟩, fun b hb => ?_, q⟩
    have hle : s1.heap.objs.size ≤ b := by
      rcases List.mem_cons.mp hb with rfl | hb
      · omega
      · rw [List.mem_singleton.mp hb]; omega
    exact Inv.fpOk I1 hle (HOk.fresh I1.hok hle)
theorem walk_enumT {K : PySem.W.Frag} {a : Addr} {xs : List V} : Walk (Itet K a) xs.length (fun H => SqT K H a xs) (YPair (fun i => some (V.int (i : Int))) fun i => xs[i]?) where
  goes := fun i _ hi q => ⟨xs, xs[i], q, by simp [hi]⟩
  stops := fun _ q => ⟨xs, q, rfl⟩
  yields := fun i H v H' hi q y => by
    obtain ⟨T, x, h1, h2, h3, h4⟩ := y
    exact ⟨T, _, x, h1, h2, h3, rfl, h4 xs q⟩
/-! ### a tuple turned about -/
theorem slice_back {prog : Program} {w : World} {A : Around} {E : Value → Shared → Prop} {s : Shared} {sl : Addr} {vs : Value} {n : Nat} {Q : Int × Int × Nat → Shared → Prop}
    (hs : s.heap.IsSliceOf sl Value.none Value.none vs) (ps : IsPart vs (some (-1))) (h : Q ((n : Int) - 1, -1, n) s) :
    wpAny (model prog w) A (Builtin.Slice.sliceApplied (Value.ref sl) (pure (n : Int))) Q E s := by
  obtain ⟨os, hos, hcs, hds⟩ := id hs
  unfold Builtin.Slice.sliceApplied
  refine wpAny_bind ?_
  unfold Builtin.Slice.sliceFields
  refine wpAny_bind (wpAny_field hos hds rfl (wpAny_bind (wpAny_field hos hds rfl (wpAny_bind (wpAny_field hos hds rfl (wpAny_pure ?_))))))
  refine wpAny_bind (HT.slicePart_ ps ?_)
  refine wpAny_ite_false rfl ?_
  refine wpAny_bind (PyProof.Rows.slicePart_none ?_)
  refine wpAny_bind (PyProof.Rows.slicePart_none ?_)
  refine wpAny_bind (wpAny_pure ?_)
  have e1 : Builtin.Slice.sliceAdjust none none (-1) (n : Int) = ((n : Int) - 1, -1) := by
    simp [Builtin.Slice.sliceAdjust]
  have e2 : Builtin.Slice.slicePlaces ((n : Int) - 1) (-1) (-1) = n := by
    simp [Builtin.Slice.slicePlaces]
    omega
  show wpAny _ _ (match Builtin.Slice.sliceAdjust none none (-1) (n : Int) with | (lo, hi) => pure (lo, -1, Builtin.Slice.slicePlaces lo hi (-1))) _ _ _
  rw [e1]
  show wpAny _ _ (pure ((n : Int) - 1, -1, Builtin.Slice.slicePlaces ((n : Int) - 1) (-1) (-1))) _ _ _
  rw [e2]
  exact wpAny_pure h
theorem fm_map {α β : Type} {f : α → Option β} {g : α → β} : ∀ l : List α, (∀ k ∈ l, f k = some (g k)) → l.filterMap f = l.map g
  | [], _ => rfl
  | a :: l, h => by
    rw [List.filterMap_cons, h a (by simp), List.map_cons, fm_map l fun k hk => h k (by simp [hk])]
theorem pick_back (items : Array Value) : (List.filterMap (fun k : Nat => items[(((items.size : Int) - 1) + (k : Int) * (-1)).toNat]?) (List.range items.size)).toArray = items.toList.reverse.toArray := by
  congr 1
  have h : ∀ k ∈ List.range items.size, items[(((items.size : Int) - 1) + (k : Int) * (-1)).toNat]? = some ((items.toList.reverse[k]?).getD .none) := fun k hk => by
    have hk := List.mem_range.mp hk
    rw [← Array.getElem?_toList, show (((items.size : Int) - 1) + (k : Int) * (-1)).toNat = items.toList.length - 1 - k by rw [Array.length_toList]; omega, ← List.getElem?_reverse (by rw [Array.length_toList]; exact hk)]
    rw [List.getElem?_eq_getElem (by rw [List.length_reverse, Array.length_toList]; exact hk)]
    rfl
  rw [fm_map _ h]
  refine List.ext_getElem (by simp) fun i h1 h2 => ?_
  rw [List.getElem_map, List.getElem_range, List.getElem?_eq_getElem h2]
  rfl
theorem getItem_tuple_back {prog : Program} {w : World} {A : Around} {E : Value → Shared → Prop} {s : Shared} {t sl : Addr} {items : Array Value} {vs : Value} {Q : Value → Shared → Prop}
    (ht : PyProof.Rows.IsTup s.heap t items) (hs : s.heap.IsSliceOf sl Value.none Value.none vs) (ps : IsPart vs (some (-1)))
    (h : Q (Value.ref s.heap.objs.size) { s with heap := s.heap.push { cls := .type "tuple", data := .seq items.toList.reverse.toArray } }) (hz : items.size ≤ sizeLine) :
    wpAny (model prog w) A (getItem (Value.ref t) (Value.ref sl)) Q E s := by
  obtain ⟨os, hos, hcs, hds⟩ := id hs
  have hTs : s.TypeIs (Value.ref sl) "slice" := ⟨os, hos, hcs⟩
  unfold getItem
  refine wpAny_holding (wpAny_bind (wpAny_sequenceKey (PyProof.Rows.IsTup.typeIs ht) (by decide) (wpAny_bind (wpAny_callSpecial?_slot (PyProof.Rows.IsTup.typeIs ht) PyProof.Rows.slot_tuple_getitem (wpAny_call_entry PyProof.Rows.slot_tuple_getitem (PyProof.Rows.IsTup.typeIs ht) PyProof.Rows.entry_tuple_getitem ?_ (PyProof.Rows.args_tuple_getitem _ _))))))
  unfold Builtin.«tuple.__getitem__»
  refine wpAny_bind (wpAny_of_eq (a := (Value.ref t, [Value.ref sl])) rfl ?_)
  refine wpAny_bind (PyProof.Rows.tupleItemsOf_ ht ?_)
  refine wpAny_bind (wpAny_typeOf hTs ?_)
  refine wpAny_ite_true rfl ?_
  refine wpAny_bind (slice_back hs ps ?_)
  have hno : ((((items.size : Int) - 1) == 0 && (-1 : Int) == 1 && items.size == items.size) = true) = False := by simp
  show wpAny _ _ (if ((((items.size : Int) - 1) == 0 && (-1 : Int) == 1 && items.size == items.size) = true) then _ else _) _ _ _
  rw [if_neg (by rw [hno]; exact not_false)]
  show wpAny _ _ (bind (Builtin.Tuple.tupleExact (List.filterMap (fun k : Nat => items[(((items.size : Int) - 1) + (k : Int) * (-1)).toNat]?) (List.range items.size)).toArray) _) _ _ _
  rw [pick_back]
  refine wpAny_bind ?_
  unfold Builtin.Tuple.tupleExact
  refine wpAny_newObj_type (wpAny_pure ⟨_, rfl, wpAny_pure h⟩) ?_
  show items.toList.reverse.toArray.size ≤ sizeLine
  rw [List.size_toArray, List.length_reverse, Array.length_toList]
  exact hz
/-! ### t[::-1] of a tuple -/
def tRevT (K : PySem.W.Frag) (te : TE) : TE := fun σ H Q => te σ H fun x H1 => ∃ a xs, x = .ref a ∧ SqT K H1 a xs ∧ ∀ p, H1 p = none → Q (.ref p) (upd H1 p (.tup xs.reverse))
theorem pe_revT {X : Cx} {K : PySem.W.Frag} (hK : X.K = K) {e : Expr} {te : TE} {k : Nat} {p1 p2 p3 pos : Pos} (he : PE X e te) :
    PE X (e.Subscript (Expr.Slice none none (some (Expr.UnaryOp UnaryOp.USub (Expr.Constant (Const.int 1) k p1) p2)) p3) pos) (tRevT K te) where
  run := fun pins s σ H Q I h => by
    subst hK
    refine PyProof.Rows.Subscript_ (thn (he.run pins s σ H _ I h) fun v s1 x => ?_)
    obtain ⟨x, H1, I1, r1, a, xs, rfl, hx, q⟩ := x
    cases r1
    have hst : PO X (some (Expr.UnaryOp UnaryOp.USub (Expr.Constant (Const.int 1) k p1) p2)) _ := po_some (pe_un un_neg pe_int)
    refine wpAny_Slice (thn (po_none.run pins s1 σ H1 (fun o H2 => o = none ∧ H2 = H1) I1 ⟨rfl, rfl⟩) fun vl s2 x2 => ?_)
    obtain ⟨l, H2, I2, pl, rfl, rfl⟩ := x2
    refine thn (po_none.run pins s2 σ H2 (fun o H3 => o = none ∧ H3 = H2) I2 ⟨rfl, rfl⟩) fun vu s3 x3 => ?_
    obtain ⟨u, H3, I3, pu, rfl, rfl⟩ := x3
    refine thn (hst.run pins s3 σ H3 (fun o H4 => o = some (-1) ∧ H4 = H3) I3 ⟨1, rfl, -1, rfl, rfl, rfl⟩) fun vs s4 x4 => ?_
    obtain ⟨o, H4, I4, ps, rfl, rfl⟩ := x4
    cases pl
    cases pu
    have I5 := Inv.kept (t' := s4.toks) I4 fun b ob q => Heap.get?_push_of_some { cls := .type "slice", data := .fields #[.none, .none, vs] } q
    obtain ⟨its, r, ht, hz⟩ := Inv.tuple I5 hx
    have hlen := Vals.length r
    refine PyProof.Rows.tail_any (PyProof.Rows.IsTup.typeIs ht) PyProof.Rows.slot_tuple_getitem.lookup (getItem_tuple_back ht (Heap.IsSliceOf.new s4.1 _ _ vs) ps ?_ ?_) rfl
    · refine ⟨.ref _, upd H4 _ (.tup xs.reverse), ?_, rfl, q _ (HOk.fresh I5.hok (Nat.le_refl _))⟩
      refine Inv.laid (t' := s4.toks) I5 (fun b ob q => Heap.get?_push_of_some _ q) (Nat.le_refl _) ?_
      refine ⟨by rw [List.length_reverse]; exact hz, its.reverse, Vals.reverse r, ?_⟩
      exact ⟨_, Heap.get?_push_size _ rfl, rfl, 0, rfl⟩
    · rw [List.size_toArray]
      omega
end My

set_option maxHeartbeats 2000000
namespace My
open PySem L2
/-! ### list(enumerate(t)) of a tuple -/
section
variable {prog : Program} {w : World} {A : Around} {E : Value → Shared → Prop} {s : Shared}
theorem en_len : typeLookup (.type "enumerate") "__len__" = pure none := by rw [typeLookup_type, builtinLookup_eq_fast]; kernel_rfl
theorem en_hint : typeLookup (.type "enumerate") "__length_hint__" = pure none := by rw [typeLookup_type, builtinLookup_eq_fast]; kernel_rfl
/-- the next pair, while one of before is kept -/
theorem held_pair {e it l T : Addr} {i : Nat} {items : Array Value} {x old : Value} {f : Bool} {oT : Obj} {Q : Option Value → Shared → Prop}
    (he : IsEnumHeld s.heap e it i old T f) (hT : s.heap.get? T = some oT) (hTe : T ≠ e) (hTi : T ≠ it) (hit : s.heap.IsTupleIter it l i) (hl : s.heap.IsTuple l items) (hx : items[i]? = some x) (hne : e ≠ it)
    (hQ : ∀ h' tk, IsEnumHeld h' e it ((i : Int) + 1) old T true → h'.IsTupleIter it l (i + 1) → h'.get? s.heap.objs.size = some { cls := .type "tuple", data := .seq #[.int i tk, x] } →
      (∀ b o, b ≠ e → b ≠ it → s.heap.get? b = some o → h'.get? b = some o) → Q (some (.ref s.heap.objs.size)) { s with heap := h', toks := tk + 1 }) :
    wpAny (model prog w) A (pyNext (.ref e)) Q E s := by
  have ty : s.TypeIs (.ref e) "enumerate" := ⟨_, he, rfl⟩
  unfold pyNext
  refine wpAny_bind (wpAny_attempt (wpAny_callSpecial?_slot (name := Str.ofString "__next__") ty F.slot_enumerate_next (wpAny_call_entry F.slot_enumerate_next ty F.entry_enumerate_next ?_ (F.args_enumerate_next_1 _))))
  obtain ⟨hp, g, d, tk, os⟩ := s
  have hel : e < hp.objs.size := Heap.lt_size he
  show wpAny _ _ (field (.ref e) 2 >>= _) _ _ _
  refine wpAny_bind (wpAny_field he rfl (x := .ref it) rfl (wpAny_bind (nextOf_tup_item hit hl hx fun a hita sa => ?_)))
  have sa : Heap.SameBut it hp a := sa
  have hea : IsEnumHeld a e it i old T f := (sa.2 e hne).trans he
  show wpAny _ _ (field (.ref e) 3 >>= _) _ _ ⟨a, g, d, tk, os⟩
  refine wpAny_bind (wpAny_field hea rfl (x := rawInt i) rfl ?_)
  show wpAny _ _ (field (.ref e) 4 >>= _) _ _ ⟨a, g, d, tk, os⟩
  refine wpAny_bind (wpAny_field hea rfl (x := .none) rfl ?_)
  show wpAny _ _ (mkInt i >>= _) _ _ ⟨a, g, d, tk, os⟩
  refine wpAny_bind (wpAny_mkInt ?_)
  show wpAny _ _ (setField (.ref e) 3 (rawInt ((i : Int) + 1)) >>= _) _ _ ⟨a, g, d, tk + 1, os⟩
  refine wpAny_bind (wpAny_setField_rec hea (by simp) fun b heb sb => ?_)
  have heb : IsEnumHeld b e it ((i : Int) + 1) old T f := heb
  have sb : Heap.SameBut e a b := sb
  show wpAny _ _ (setField (.ref e) 4 .none >>= _) _ _ ⟨b, g, d, tk + 1, os⟩
  refine wpAny_bind (wpAny_setField_rec heb (by simp) fun c hec sc => ?_)
  have hec : IsEnumHeld c e it ((i : Int) + 1) old T f := hec
  have sc : Heap.SameBut e b c := sc
  have zc : c.objs.size = hp.objs.size := by rw [sc.1, sb.1, sa.1]
  have kc : ∀ q o, q ≠ e → q ≠ it → hp.get? q = some o → c.get? q = some o := fun q o h1 h2 h => sc.extBut q o h1 (sb.extBut q o h1 (sa.extBut q o h2 h))
  have itc : c.IsTupleIter it l (i + 1) := Heap.IsTupleIter.at hita fun o h => sc.extBut it o (Ne.symm hne) (sb.extBut it o (Ne.symm hne) h)
  show wpAny _ _ (newTuple [.int i tk, x] >>= _) _ _ ⟨c, g, d, tk + 1, os⟩
  refine wpAny_bind (wpAny_newTuple ?_)
  show wpAny _ _ (Builtin.SmallTypes.ownedTupleIsFree (.ref e) >>= _) _ _ ⟨c.push { cls := .type "tuple", data := .seq #[.int i tk, x] }, g, d, tk + 1, os⟩
  have nw := Heap.get?_push_size c (o := { cls := .type "tuple", data := .seq #[.int i tk, x] }) rfl
  rw [zc] at nw
  rw [zc]
  refine wpAny_bind (wpAny_tupleHeld_enum (s := ⟨c.push { cls := .type "tuple", data := .seq #[.int i tk, x] }, g, d, tk + 1, os⟩) (Heap.get?_push_of_some _ hec) (Heap.get?_push_of_some _ (kc T oT hTe hTi hT)) fun v hev sv => ?_)
  have sv : Heap.SameBut e (c.push { cls := .type "tuple", data := .seq #[.int i tk, x] }) v := sv
  simp only [Bool.false_eq_true, if_false]
  exact wpAny_pure ⟨_, rfl, wpAny_pure (hQ v tk hev (Heap.IsTupleIter.at itc fun o h => sv.extBut it o (Ne.symm hne) (Heap.get?_push_of_some _ h)) (sv.extBut _ _ (Nat.ne_of_gt hel) nw) fun q o h1 h2 h => sv.extBut q o h1 (Heap.get?_push_of_some _ (kc q o h1 h2 h)))⟩
theorem held_end {e it l T : Addr} {i : Nat} {items : Array Value} {old : Value} {f : Bool} {Q : Option Value → Shared → Prop} (hh : A.handled = none)
    (he : IsEnumHeld s.heap e it i old T f) (hit : s.heap.IsTupleIter it l i) (hl : s.heap.IsTuple l items) (hx : items[i]? = none)
    (hQ : ∀ h', Heap.ExtBut it s.heap h' → Q none { s with heap := h' }) : wpAny (model prog w) A (pyNext (.ref e)) Q E s := by
  have ty : s.TypeIs (.ref e) "enumerate" := ⟨_, he, rfl⟩
  unfold pyNext
  refine wpAny_bind (wpAny_attempt (wpAny_callSpecial?_slot (name := Str.ofString "__next__") ty F.slot_enumerate_next (wpAny_call_entry F.slot_enumerate_next ty F.entry_enumerate_next ?_ (F.args_enumerate_next_1 _))))
  show wpAny _ _ (field (.ref e) 2 >>= _) _ _ _
  refine wpAny_bind (wpAny_field he rfl (x := .ref it) rfl (wpAny_bind (nextOf_tup_end hh hit hl hx fun a y sa ⟨o, ho, hc⟩ => ?_)))
  exact wpAny_bind (wpAny_isInstance (T := "StopIteration") (b := true) ⟨o, ho, hc⟩ isSubtype_stop (wpAny_pure (hQ _ sa)))
/-- the enumeration, seen from a list S that grows -/
def EnSt (h : Heap) (e it l S : Addr) (items : Array Value) (i : Nat) : Prop :=
  h.IsTupleIter it l i ∧ h.IsTuple l items ∧ ((∃ old, IsEnum h e it i old) ∨ ∃ old T f oT, IsEnumHeld h e it i old T f ∧ h.get? T = some oT ∧ T ≠ e ∧ T ≠ it ∧ T ≠ S)
/-- the pairs that were made -/
def PrG (items : Array Value) (lo : Addr) (h : Heap) (as : List Addr) : Prop :=
  as.Pairwise (· < ·) ∧ (∀ a ∈ as, lo < a) ∧ ∀ (j : Nat) (a : Addr), as[j]? = some a → ∃ t x, items[j]? = some x ∧ h.get? a = some { cls := .type "tuple", data := .seq #[.int (j : Int) t, x] }
theorem EnSt.keep {h h' : Heap} {e it l S : Addr} {items : Array Value} {i : Nat} (st : EnSt h e it l S items i) (he : e ≠ S) (hi : it ≠ S) (hl : l ≠ S) (k : ∀ b o, b ≠ S → h.get? b = some o → h'.get? b = some o) : EnSt h' e it l S items i := by
  obtain ⟨h1, ⟨o, h2, r⟩, h3⟩ := st
  refine ⟨Heap.IsTupleIter.at h1 fun o q => k it o hi q, ⟨o, k l o hl h2, r⟩, ?_⟩
  rcases h3 with ⟨old, h3⟩ | ⟨old, T, f, oT, h3, h4, h5, h6, h7⟩
  · exact .inl ⟨old, k e _ he h3⟩
  · exact .inr ⟨old, T, f, oT, k e _ he h3, k T _ h7 h4, h5, h6, h7⟩
theorem en_step {e it l S : Addr} {items : Array Value} {i : Nat} {x : Value} {Q : Option Value → Shared → Prop} (hh : A.handled = none) (st : EnSt s.heap e it l S items i) (hS : S < s.heap.objs.size) (hne : e ≠ it) (hel : e ≠ l) (hx : items[i]? = some x)
    (hQ : ∀ h' tk t, EnSt h' e it l S items (i + 1) → h'.get? s.heap.objs.size = some { cls := .type "tuple", data := .seq #[.int (i : Int) t, x] } → (∀ b o, b ≠ e → b ≠ it → s.heap.get? b = some o → h'.get? b = some o) → Q (some (.ref s.heap.objs.size)) { s with heap := h', toks := tk }) :
    wpAny (model prog w) A (pyNext (.ref e)) Q E s := by
  obtain ⟨hit, hl, h3⟩ := st
  have hli := ti_ne hit hl
  have zi : it < s.heap.objs.size := by obtain ⟨o, q, _⟩ := hit; exact Heap.lt_size q
  rcases h3 with ⟨old, he⟩ | ⟨old, T, f, oT, he, hT, h5, h6, h7⟩
  · have ze : e < s.heap.objs.size := Heap.lt_size he
    have hi : i < items.size := (Array.getElem?_eq_some_iff.mp hx).1
    refine wpAny_pyNext_enum_itemD (draws_tup (show A.in1.handled = none from hh) it l hli items) he ⟨hit, hl⟩ hi hne (by simp [hne, hel]) fun x' h' tk hpx ho hst hT hsz hk => ?_
    have ex : x' = x := by
      have hpx : items[i]? = some x' := hpx
      rw [hx] at hpx
      exact (Option.some.inj hpx).symm
    subst ex
    exact hQ h' (tk + 1) tk ⟨hst.1, hst.2, .inr ⟨_, _, _, _, ho, hT, Nat.ne_of_gt ze, Nat.ne_of_gt zi, Nat.ne_of_gt hS⟩⟩ hT hk
  · refine held_pair he hT h5 h6 hit hl hx hne fun h' tk ho hit' hn hk => ?_
    obtain ⟨o, hl1, r⟩ := hl
    exact hQ h' (tk + 1) tk ⟨hit', ⟨o, hk l o hel.symm hli hl1, r⟩, .inr ⟨_, _, _, _, ho, hk T oT h5 h6 hT, h5, h6, h7⟩⟩ hn hk
theorem en_done {e it l S : Addr} {items : Array Value} {Q : Option Value → Shared → Prop} (hh : A.handled = none) (st : EnSt s.heap e it l S items items.size)
    (hQ : ∀ h', Heap.ExtBut it s.heap h' → Q none { s with heap := h' }) : wpAny (model prog w) A (pyNext (.ref e)) Q E s := by
  obtain ⟨hit, hl, h3⟩ := st
  rcases h3 with ⟨old, he⟩ | ⟨old, T, f, oT, he, hT, h5, h6, h7⟩
  · exact wpAny_pyNext_enum_endD (draws_tup (show A.in1.handled = none from hh) it l (ti_ne hit hl) items) he ⟨hit, hl⟩ hQ
  · exact held_end hh he hit hl (by simp) hQ
theorem en_loop {S e it l : Addr} {items : Array Value} {R : Result → Shared → Prop} (hh : A.handled = none) (heS : e < S) (hiS : it < S) (hlS : l < S) (hne : e ≠ it) (hel : e ≠ l) (hn : items.size ≤ sizeLine) (res : Value) {h₁ : Heap}
    (hR : ∀ h' tk acc c as, (∀ b o, b ≠ S → b ≠ e → b ≠ it → h₁.get? b = some o → h'.get? b = some o) → h'.get? S = some { cls := .type "list", dict := none, data := .seq acc c, slots := #[] } → as.length = items.size → PrG items S h' as →
      acc.toList = as.map Value.ref → R (.ok (.ret res)) { s with heap := h', toks := tk }) :
    ∀ (k i : Nat) (h : Heap) (tk c : Nat) (acc : Array Value) (as : List Addr), items.size - i = k → i ≤ items.size → EnSt h e it l S items i → (∀ b o, b ≠ S → b ≠ e → b ≠ it → h₁.get? b = some o → h.get? b = some o) →
      h.get? S = some { cls := .type "list", dict := none, data := .seq acc c, slots := #[] } → acc.toList = as.map Value.ref → as.length = i → PrG items S h as →
      codeAny (model prog w) A (.builtin "list.extend.loop" ⟨[.ref S, .ref e, res], []⟩) R { s with heap := h, toks := tk } := by
  intro k
  have nSe : S ≠ e := Nat.ne_of_gt heS
  have nSi : S ≠ it := Nat.ne_of_gt hiS
  have nSl : S ≠ l := Nat.ne_of_gt hlS
  induction k with
  | zero =>
    intro i h tk c acc as hk hi st hkp hS hacc hal hG
    have hin : i = items.size := by omega
    subst hin
    refine codeAny_builtin F.entry_extend_loop ?_
    rw [Around.under_plainId F.plain_extend_loop _]
    show wpAny _ A.in1 (pyNext (.ref e) >>= _) _ _ _
    refine wpAny_bind (en_done (s := { s with heap := h, toks := tk }) (A := A.in1) hh st fun h' eb => ?_)
    refine wpAny_pure (hR h' tk acc c as (fun b o h1 h2 h3 q => eb b o h3 (hkp b o h1 h2 h3 q)) (eb S _ nSi hS) hal ⟨hG.1, hG.2.1, fun j a hj => ?_⟩ hacc)
    obtain ⟨t, x, e1, e2⟩ := hG.2.2 j a hj
    exact ⟨t, x, e1, eb a _ (Nat.ne_of_gt (Nat.lt_trans hiS (hG.2.1 a (List.mem_of_getElem? hj)))) e2⟩
  | succ k ih =>
    intro i h tk c acc as hk hi st hkp hS hacc hal hG
    have hlt : i < items.size := by omega
    have hx : items[i]? = some items[i] := Array.getElem?_eq_getElem hlt
    have hsz : acc.size = i := by rw [← Array.length_toList, hacc, List.length_map, hal]
    have hSl : S < h.objs.size := Heap.lt_size hS
    refine codeAny_builtin F.entry_extend_loop ?_
    rw [Around.under_plainId F.plain_extend_loop _]
    show wpAny _ A.in1 (pyNext (.ref e) >>= _) _ _ _
    refine wpAny_bind (en_step (s := { s with heap := h, toks := tk }) (A := A.in1) hh st hSl hne hel hx fun h' tk' t st' nw hk' => ?_)
    have hS' := hk' S _ nSe nSi hS
    have nw : h'.get? h.objs.size = some { cls := .type "tuple", data := .seq #[.int (i : Int) t, items[i]] } := nw
    have up : ∀ b o, b ≠ S → h'.get? b = some o → (h'.update S (Obj.mapSeq (·.push (Value.ref h.objs.size)))).get? b = some o := fun b o hb q => (Heap.get?_update_other _ _ (Ne.symm hb)).trans q
    have old : ∀ a ∈ as, a < h.objs.size := fun a ha => by
      obtain ⟨j, hj⟩ := List.mem_iff_getElem?.mp ha
      obtain ⟨_, _, _, q⟩ := hG.2.2 j a hj
      exact Heap.lt_size q
    show wpAny _ A.in1 (updateSeq S (·.push (Value.ref h.objs.size)) >>= _) _ _ _
    refine wpAny_bind (wpAny_updateSeq hS' rfl (wpAny_pure ⟨plainId_quiet F.plain_extend_loop _, ih (i + 1) _ tk' _ (acc.push (Value.ref h.objs.size)) (as ++ [h.objs.size]) (by omega) hlt (st'.keep nSe.symm nSi.symm nSl.symm up)
      (fun b o h1 h2 h3 q => up b o h1 (hk' b o h2 h3 (hkp b o h1 h2 h3 q))) (Heap.get?_update_self _ hS' rfl) (by rw [Array.toList_push, hacc, List.map_append]; rfl) (by rw [List.length_append, hal]; rfl) ⟨?_, ?_, ?_⟩⟩) (by rw [hsz]; omega) (by show (acc.push (Value.ref h.objs.size)).size ≤ sizeLine + 1; rw [Array.size_push, hsz]; omega))
    · refine List.pairwise_append.mpr ⟨hG.1, List.pairwise_singleton _ _, fun a ha b hb => ?_⟩
      rw [List.mem_singleton.mp hb]
      exact old a ha
    · intro a ha
      rcases List.mem_append.mp ha with ha | ha
      · exact hG.2.1 a ha
      · rw [List.mem_singleton.mp ha]; exact hSl
    · intro j a hj
      by_cases h1 : j < as.length
      · rw [List.getElem?_append_left h1] at hj
        obtain ⟨u, x, e1, e2⟩ := hG.2.2 j a hj
        have ha := hG.2.1 a (List.mem_of_getElem? hj)
        exact ⟨u, x, e1, up a _ (Nat.ne_of_gt ha) (hk' a _ (Nat.ne_of_gt (Nat.lt_trans heS ha)) (Nat.ne_of_gt (Nat.lt_trans hiS ha)) e2)⟩
      · have hj2 := (List.getElem?_eq_some_iff.mp hj).1
        rw [List.length_append, List.length_singleton] at hj2
        have ej : j = i := by omega
        subst ej
        rw [← hal, List.getElem?_concat_length] at hj
        cases hj
        exact ⟨t, _, hx, up _ _ (Nat.ne_of_gt hSl) nw⟩
theorem en_list {e it l : Addr} {items : Array Value} {Q : Value → Shared → Prop} (hh : A.handled = none) (hn : items.size ≤ sizeLine) (he : IsEnum s.heap e it 0 Value.none) (hit : s.heap.IsTupleIter it l 0) (hl : s.heap.IsTuple l items) (hne : e ≠ it) (hel : e ≠ l)
    (hQ : ∀ h' tk acc c as, (∀ b o, b ≠ e → b ≠ it → s.heap.get? b = some o → h'.get? b = some o) → h'.get? s.heap.objs.size = some { cls := .type "list", dict := none, data := .seq acc c, slots := #[] } → as.length = items.size → PrG items s.heap.objs.size h' as →
      acc.toList = as.map Value.ref → Q (.ref s.heap.objs.size) { s with heap := h', toks := tk }) :
    wpAny (model prog w) A (call (.type "list") [.ref e]) Q E s := by
  have ze : e < s.heap.objs.size := Heap.lt_size he
  have zi : it < s.heap.objs.size := by obtain ⟨o, q, _⟩ := hit; exact Heap.lt_size q
  have zl : l < s.heap.objs.size := by obtain ⟨o, q, _⟩ := hl; exact Heap.lt_size q
  refine callType_codes (Q₁ := fun obj s₁ => obj = .ref s.heap.objs.size ∧ s₁ = { s with heap := s.heap.push { cls := .type "list", data := .seq #[] } }) F.called_list (F.typeCall_list_1 _) F.entry_list_init (code_list_new _ ⟨rfl, rfl⟩) fun obj s₁ h₁ => ?_
  obtain ⟨rfl, rfl⟩ := h₁
  have hS := Heap.get?_push_size s.heap (o := { cls := .type "list", data := .seq #[] }) rfl
  refine ⟨⟨_, hS, rfl⟩, F.args_list_init_2 _ _, ?_⟩
  show wpAny _ A.in1.in1 (do let old ← Builtin.List.listItems (.ref s.heap.objs.size); Builtin.List.listUpdate (.ref s.heap.objs.size) (fun _ => #[]); letGo old.toList.reverse; Builtin.List.listExtendWith (.ref s.heap.objs.size) (.ref e) .none) _ _ _
  refine wpAny_bind ?_
  unfold Builtin.List.listItems
  refine wpAny_bind (wpAny_seqItems hS rfl (wpAny_pure ?_))
  show wpAny _ _ (updateSeq s.heap.objs.size (fun _ => #[]) >>= fun _ => letGo (#[] : Array Value).toList.reverse >>= fun _ => Builtin.List.listExtendWith (.ref s.heap.objs.size) (.ref e) .none) _ _ _
  refine wpAny_bind (wpAny_updateSeq hS rfl ?_)
  have hS2 := Heap.get?_update_self (Obj.mapSeq (fun _ => (#[] : Array Value))) hS rfl
  have oth : ∀ b o, b ≠ s.heap.objs.size → s.heap.get? b = some o → ((s.heap.push { cls := .type "list", data := .seq #[] }).update s.heap.objs.size (Obj.mapSeq (fun _ => (#[] : Array Value)))).get? b = some o :=
    fun b o hb q => (Heap.get?_update_other _ _ (Ne.symm hb)).trans (Heap.get?_push_of_some _ q)
  refine wpAny_bind (wpAny_letGo ?_)
  have he2 := oth e _ (Nat.ne_of_lt ze) he
  have hit2 := Heap.IsTupleIter.at hit fun o q => oth it o (Nat.ne_of_lt zi) q
  have ty2 : Shared.TypeIs { s with heap := (s.heap.push { cls := .type "list", data := .seq #[] }).update s.heap.objs.size (Obj.mapSeq (fun _ => (#[] : Array Value))) } (.ref e) "enumerate" := ⟨_, he2, rfl⟩
  have hl2 : ((s.heap.push { cls := .type "list", data := .seq #[] }).update s.heap.objs.size (Obj.mapSeq (fun _ => (#[] : Array Value)))).IsTuple l items := by
    obtain ⟨o, q, r⟩ := hl
    exact ⟨o, oth l o (Nat.ne_of_lt zl) q, r⟩
  unfold Builtin.List.listExtendWith
  refine wpAny_bind (wpAny_typeOf ty2 ?_)
  have h1 : Builtin.List.listSameRef (.ref s.heap.objs.size) (.ref e) = false := by simp [Builtin.List.listSameRef, (Nat.ne_of_gt ze)]
  have h2 : (Value.type "enumerate" == Value.type "list") = false := by decide
  have h3 : (Value.type "enumerate" == Value.type "tuple") = false := by decide
  simp only [h1, h2, h3, Bool.or_false, Bool.false_eq_true, if_false]
  refine wpAny_bind (wpAny_pyIter_enum he2 ?_)
  refine wpAny_bind (wpAny_holding ?_)
  unfold Builtin.List.listLengthHint
  refine wpAny_bind (wpAny_specialOf ty2 en_len ?_)
  show wpAny _ _ (specialOf (Value.ref e) (Str.ofString "__length_hint__") >>= _) _ _ _
  refine wpAny_bind (wpAny_specialOf ty2 en_hint ?_)
  refine wpAny_pure ?_
  show wpAny _ _ (rule "list.extend.makes-room" >>= fun _ => Builtin.List.listTouch (.ref s.heap.objs.size) >>= fun _ => again (.builtin "list.extend.loop" ⟨[.ref s.heap.objs.size, .ref e, .none], []⟩)) _ _ _
  refine wpAny_bind (wpAny_rule (wpAny_bind ?_))
  show wpAny _ _ (updateSeq s.heap.objs.size (·.push .none) >>= fun _ => updateSeq s.heap.objs.size (·.pop)) _ _ _
  refine wpAny_bind (wpAny_updateSeq hS2 rfl ?_)
  have hS3 := Heap.get?_update_self (Obj.mapSeq (·.push Value.none)) hS2 rfl
  refine wpAny_updateSeq (hz := by seq_fits) hS3 rfl ?_
  have hS4 := Heap.get?_update_self (Obj.mapSeq (·.pop)) hS3 rfl
  have up : ∀ b o, b ≠ s.heap.objs.size → s.heap.get? b = some o → ((((s.heap.push { cls := .type "list", data := .seq #[] }).update s.heap.objs.size (Obj.mapSeq (fun _ => (#[] : Array Value)))).update s.heap.objs.size (Obj.mapSeq (·.push Value.none))).update s.heap.objs.size (Obj.mapSeq (·.pop))).get? b = some o :=
    fun b o hb q => (Heap.get?_update_other _ _ (Ne.symm hb)).trans ((Heap.get?_update_other _ _ (Ne.symm hb)).trans (oth b o hb q))
  refine wpAny_pure ⟨plainId_quiet F.plain_extend_loop _, ?_⟩
  refine en_loop (A := A.in1) (items := items) (l := l) (it := it) (h₁ := s.heap) hh ze zi zl hne hel hn .none (fun h' tk acc c as hk hS' hal hG hacc => ?_) items.size 0 _ _ _ #[] [] (Nat.sub_zero _) (Nat.zero_le _) ⟨?_, ?_, .inl ⟨_, up e _ (Nat.ne_of_lt ze) he⟩⟩ (fun b o hb _ _ q => up b o hb q) hS4 rfl rfl ⟨List.Pairwise.nil, (fun _ ha => nomatch ha), (fun j a hj => by simp at hj)⟩
  · exact ⟨rfl, hQ h' tk acc c as (fun b o h1 h2 q => hk b o (Nat.ne_of_lt (Heap.lt_size q)) h1 h2 q) hS' hal hG hacc⟩
  · exact Heap.IsTupleIter.at hit fun o q => up it o (Nat.ne_of_lt zi) q
  · obtain ⟨o, q, r⟩ := hl
    exact ⟨o, up l o (Nat.ne_of_lt zl) q, r⟩
end
/-- the pairs tracked at their addresses -/
def putE : Hp → List Addr → List V → Nat → Hp
  | H, a :: as, x :: xs, i => putE (upd H a (.tup [.int (i : Int), x])) as xs (i + 1)
  | H, _, _, _ => H
theorem putE_off {b : Addr} : ∀ (as : List Addr) (xs : List V) (i : Nat) (H : Hp), b ∉ as → putE H as xs i b = H b
  | [], _, _, _, _ => rfl
  | _ :: _, [], _, _, _ => rfl
  | a :: as, x :: xs, i, H, h => by
    show putE (upd H a (.tup [.int (i : Int), x])) as xs (i + 1) b = H b
    rw [putE_off as xs (i + 1) _ fun z => h (List.mem_cons_of_mem _ z), upd_ne fun z => h (by rw [z]; exact List.mem_cons_self)]
theorem putE_at : ∀ (as : List Addr) (xs : List V) (i : Nat) (H : Hp), as.length = xs.length → as.Nodup → ∀ (j : Nat) (a : Addr), as[j]? = some a → ∃ x, xs[j]? = some x ∧ putE H as xs i a = some (.tup [.int ((i + j : Nat) : Int), x])
  | [], _, _, _, _, _, _, _, h => by cases h
  | _ :: _, [], _, _, h, _, _, _, _ => by cases h
  | b :: as, x :: xs, i, H, hl, hn, j, a, h => by
    have hn' := List.nodup_cons.mp hn
    cases j with
    | zero =>
      cases h
      refine ⟨x, rfl, ?_⟩
      show putE (upd H b (.tup [.int (i : Int), x])) as xs (i + 1) b = _
      rw [putE_off as xs (i + 1) _ hn'.1, upd_same]
      rfl
    | succ j =>
      obtain ⟨y, e1, e2⟩ := putE_at as xs (i + 1) (upd H b (.tup [.int (i : Int), x])) (Nat.succ.inj hl) hn'.2 j a h
      refine ⟨y, e1, ?_⟩
      show putE (upd H b (.tup [.int (i : Int), x])) as xs (i + 1) a = _
      rw [e2, show i + 1 + j = i + (j + 1) by omega]
section
variable {X : Cx}
theorem en_laid {pins : List (Addr × Obj)} {σ : L2.St} {H : Hp} {s : Shared} {h' : Heap} {tk c S : Nat} {its : List Value} {xs : List V} {acc : Array Value} {as : List Addr} (I : Inv X pins σ H s) (rv : Vals xs its) (hz : its.length ≤ sizeLine)
    (hk : ∀ b o, s.heap.get? b = some o → h'.get? b = some o) (hSs : s.heap.objs.size ≤ S) (hS : h'.get? S = some { cls := .type "list", dict := none, data := .seq acc c, slots := #[] }) (hal : as.length = its.length) (hG : PrG its.toArray S h' as) (hacc : acc.toList = as.map Value.ref) :
    ∃ H' : Hp, (∀ b o, H b = some o → H' b = some o) ∧ H S = none ∧ H' S = some (.lst (as.map V.ref)) ∧ (∀ (j : Nat) (a : Addr), as[j]? = some a → ∃ x, xs[j]? = some x ∧ H a = none ∧ H' a = some (.tup [.int (j : Int), x])) ∧ Inv X pins σ H' { s with heap := h', toks := tk } := by
  have lx := Vals.length rv
  have hSn : S ∉ as := fun z => Nat.lt_irrefl _ (hG.2.1 _ z)
  have nd : as.Nodup := List.Pairwise.imp (fun {a b} (h : a < b) => Nat.ne_of_lt h) hG.1
  have new : ∀ t ∈ as, H t = none := fun t ht => I.hok.fresh (Nat.le_trans hSs (Nat.le_of_lt (hG.2.1 t ht)))
  have newS : H S = none := I.hok.fresh hSs
  have atP := putE_at as xs 0 (upd H S (.lst (as.map V.ref))) (by omega) nd
  have off : ∀ b, b ∉ as → b ≠ S → putE (upd H S (.lst (as.map V.ref))) as xs 0 b = H b := fun b h1 h2 => by rw [putE_off as xs 0 _ h1, upd_ne h2]
  have low : ∀ b o, s.heap.get? b = some o → b ∉ as ∧ b ≠ S := fun b o q => by
    have hb := Heap.lt_size q
    refine ⟨fun z => ?_, fun z => ?_⟩
    · have := hG.2.1 b z
      exact absurd hb (Nat.not_lt.mpr (Nat.le_trans hSs (Nat.le_of_lt this)))
    · rw [z] at hb
      exact absurd hb (Nat.not_lt.mpr hSs)
  have kp : ∀ b u, H b = some u → (putE (upd H S (.lst (as.map V.ref))) as xs 0) b = some u := fun b u q => by
    rw [off b (fun z => by rw [new b z] at q; cases q) (fun z => by rw [z, newS] at q; cases q)]
    exact q
  have eS : putE (upd H S (.lst (as.map V.ref))) as xs 0 S = some (.lst (as.map V.ref)) := by rw [putE_off as xs 0 _ hSn, upd_same]
  refine ⟨putE (upd H S (.lst (as.map V.ref))) as xs 0, kp, newS, eS, fun j a hj => ?_, ?_⟩
  · obtain ⟨x, e1, e2⟩ := atP j a hj
    rw [Nat.zero_add] at e2
    exact ⟨x, e1, new a (List.mem_of_getElem? hj), e2⟩
  refine I.call' (ch := []) rfl ⟨fun b o q _ _ _ => hk b o q, fun b o q _ _ _ => ⟨o.slots, hk b o q⟩, fun b o q n _ => ?_, fun b o q _ => ⟨o, hk b o q⟩, fun b xs q => kp b _ q, fun b o u q => kp b _ q, fun b ps q => ⟨#[], by rw [kp b _ q]; simp⟩⟩ (fun b u q => ?_) I.bare fun b z => by simp at z
  · obtain ⟨z1, z2⟩ := low b o q
    rw [off b z1 z2]
    exact n
  · by_cases hb : b ∈ as
    · obtain ⟨j, hj⟩ := List.mem_iff_getElem?.mp hb
      obtain ⟨x, e1, e2⟩ := atP j b hj
      rw [e2] at q
      cases q
      obtain ⟨t, y, f1, f2⟩ := hG.2.2 j b hj
      obtain ⟨u, g1, g2⟩ := Vals.get rv e1
      have ey : y = u := by
        rw [List.getElem?_toArray, g1] at f1
        exact (Option.some.inj f1).symm
      subst ey
      exact ⟨by show 2 ≤ sizeLine; decide, [.int (j : Int) t, y], .cons ⟨t, by rw [Nat.zero_add]⟩ (.cons g2 .nil), ⟨_, f2, rfl, _, rfl⟩⟩
    · by_cases hb2 : b = S
      · subst hb2
        rw [eS] at q
        cases q
        refine ⟨by rw [List.length_map]; omega, acc.toList, c, by rw [hacc]; exact LiI.vals_refs as, ?_⟩
        rw [Array.toArray_toList]
        exact hS
      · rw [off b hb hb2] at q
        exact (I.hok b u q).stay (fun d v _ y => hk d v y) (fun d y => kp d _ y) fun d xs y => kp d _ y
/-- list(enumerate(t)) -/
def tEnL (K : PySem.W.Frag) (ta : TA) : TE := fun σ H Q => ta σ H fun vs H1 => ∃ a xs, vs = [V.ref a] ∧ SqT K H1 a xs ∧ ∀ (p : Addr) (H' : Hp) (ts : List Addr), Same H1 H' → H1 p = none → H' p = some (.lst (ts.map V.ref)) → ts.length = xs.length → (∀ (j : Nat) (t : Addr), ts[j]? = some t → ∃ x, xs[j]? = some x ∧ H1 t = none ∧ H' t = some (.tup [.int (j : Int), x])) → Q (.ref p) H'
theorem pe_listEnum {K : PySem.W.Frag} (hK : X.K = K) (hc : X.calm = true) {e : Expr} {ta : TA} {p p2 p3 pos : Pos} (ha : PA X [e] ta) (hg : Gl X (Str.ofString "list")) (hm : X.mg (Str.ofString "list") = none) (hv : bootBuiltins (Str.ofString "list") = some (.type "list")) (hg2 : Gl X (Str.ofString "enumerate")) (hm2 : X.mg (Str.ofString "enumerate") = none)
    (hs : starEach [(Expr.Name (Str.ofString "enumerate") p2).Call [e] [] p3] X.env = (false, eval ((Expr.Name (Str.ofString "enumerate") p2).Call [e] [] p3) X.env) :: starEach [] X.env := by rfl) (hs2 : starEach [e] X.env = [(false, eval e X.env)] := by rfl) :
    PE X ((Expr.Name (Str.ofString "list") p).Call [(Expr.Name (Str.ofString "enumerate") p2).Call [e] [] p3] [] pos) (tEnL K ta) := by
  refine ⟨fun pins s σ H Q I hq => ?_⟩
  subst hK
  refine wpAny_Call_Name_kw (ld_blt I hg hm hv ?_)
  refine PyProof.Rows.callWith_type1 ?_ hs rfl
  rw [hs]
  show wpAny _ _ (spliced ((false, eval ((Expr.Name (Str.ofString "enumerate") p2).Call [e] [] p3) X.env) :: backTo pos (starEach [] X.env))) _ _ s
  refine Calls.spliced_cons ?_
  refine PyProof.Rows.Call_ (ld_blt I hg2 hm2 PyProof.Rows.boot_enumerate (PyProof.Rows.callWith_type1 (thn (ha.run p3 pins s σ H _ I hq) fun us s1 x => ?_) hs2 rfl) (by decide) (by decide)) rfl
  obtain ⟨vs, H1, I1, r1, a, xs, rfl, hx, q⟩ := x
  cases r1 with
  | cons r rr =>
  cases rr
  cases r
  obtain ⟨its, rv, pt, hz⟩ := Inv.tuple I1 hx
  have lx := Vals.length rv
  have pT : s1.heap.IsTuple a its.toArray := pt
  have za : a < s1.heap.objs.size := by obtain ⟨o, q1, _⟩ := pT; exact Heap.lt_size q1
  refine call_enum_tup pT fun h1 he hit hk => ?_
  refine Calls.spliced_nil ?_
  have hz2 : its.length ≤ sizeLine := by omega
  refine en_list (s := { s1 with heap := h1 }) (I1.ok.hd hc) (by rw [List.size_toArray]; exact hz2) he hit ⟨_, hk _ _ pT.choose_spec.1, pT.choose_spec.2⟩ (Nat.succ_ne_self _) (Nat.ne_of_gt (Nat.lt_succ_of_lt za)) fun h' tk acc c as hk2 hS hal hG hacc => ?_
  have kk : ∀ b o, s1.heap.get? b = some o → h'.get? b = some o := fun b o z => by
    have zb := Heap.lt_size z
    exact hk2 b o (Nat.ne_of_lt (Nat.lt_succ_of_lt zb)) (Nat.ne_of_lt zb) (hk b o z)
  have zS : s1.heap.objs.size ≤ h1.objs.size := Nat.le_of_lt (Nat.lt_of_succ_lt (Heap.lt_size he))
  obtain ⟨H', k1, k2, k3, k4, J⟩ := en_laid (tk := tk) (S := h1.objs.size) I1 rv hz2 kk zS hS (by rw [hal, List.size_toArray]) hG hacc
  exact ⟨.ref h1.objs.size, H', J, rfl, q _ H' as k1 k2 k3 (by rw [hal, List.size_toArray]; omega) k4⟩
end
end My

namespace My
open PySem L2
/-! ### rules and calls of hooks -/
structure Ru where
  col : Option (List Str)
  c : Option Cd
  as : List Ac
def ruE (r : Ru) : Dt := ruD r.col r.c (r.as.map acD)
abbrev ruR (fl : Fl) (r : Ru) : Res := ruleF fl r.col r.c r.as
abbrev Cres := Except (Nat × Str) (Fl × List (Nat × Ef))
def callF : List Ru → Nat → Fl → List (Nat × Ef) → Cres
  | [], _, fl, es => .ok (fl, es)
  | r :: rs, k, fl, es => match ruR fl r with
    | .error z => .error (k, z)
    | .ok st => callF rs (k + 1) st.1 (es ++ st.2.map fun e => (k, e))
def neD (x : Nat × Ef) : Dt := .tup [.int (x.1 : Int), efD x.2]
def cresD : Cres → Dt
  | .error x => .tup [.str (Str.ofString "rejected"), .int (x.1 : Int), .str x.2]
  | .ok st => .tup [.str (Str.ofString "done"), .tup (doc st.1 []), .tup (st.2.map neD)]
structure RuOk (ws : List Str) (fl : Fl) (col : Option (List Str)) (c : Option Cd) (as : List Ac) : Prop where
  wf : Wf ws fl
  ks : ∀ z ∈ ws, z.length ≤ 1000
  lf : fl.length ≤ 1000
  la : as.length ≤ 15
  lc : ∀ p, col = some p → p.length ≤ 900
  co : CoOk fl col c
  ac : ∀ s ∈ spotsQ fl col, ∀ a ∈ as, AcOk ws s a
/-- the rules may be applied, each to the result of the one before -/
def CallOk (ws : List Str) : List Ru → Fl → Prop
  | [], _ => True
  | r :: rs, fl => RuOk ws fl r.col r.c r.as ∧ ∀ st, ruR fl r = .ok st → CallOk ws rs st.1
/-! ### what a rule leaves -/
def preU (e : Ef) (U : List (List Str)) : Prop := ∀ q ∈ pre6 e.p, q ∈ U
section
variable {ws : List Str} {U : List (List Str)} {f0 : Fl} {s : Option (List Str)}
theorem acts_fit : ∀ {as : List Ac} {fl : Fl} {es : List Ef} {st : Fl × List Ef} (h0 : ∀ p c, getF f0 p = some c → scOk c) (ok : ∀ a ∈ as, AcOk ws s a) (cv : ∀ a ∈ as, ∀ fl e, effF f0 fl (s.getD []) a = some e → preU e U) (wf : Wf ws fl) (iu : InU U fl) (he : ∀ e ∈ es, EfOk e ∧ ∀ k ∈ e.p, k ∈ ws),
    actsF f0 (s.getD []) as fl es = .ok st → Wf ws st.1 ∧ InU U st.1 ∧ st.2.length ≤ es.length + as.length ∧ ∀ e ∈ st.2, EfOk e ∧ ∀ k ∈ e.p, k ∈ ws
  | [], fl, es, st, h0, ok, cv, wf, iu, he, h => by cases h; exact ⟨wf, iu, Nat.le_refl _, he⟩
  | a :: as, fl, es, st, h0, ok, cv, wf, iu, he, h => by
    have ok' : ∀ a ∈ as, AcOk ws s a := fun x hx => ok x (List.mem_cons_of_mem _ hx)
    have cv' : ∀ a ∈ as, ∀ fl e, effF f0 fl (s.getD []) a = some e → preU e U := fun x hx => cv x (List.mem_cons_of_mem _ hx)
    cases hr : isRej a with
    | true =>
      cases a with
      | rej r => cases h
      | _ => cases hr
    | false =>
      rw [actsF_cons hr] at h
      cases e1 : effF f0 fl (s.getD []) a with
      | none =>
        rw [e1] at h
        obtain ⟨k1, k2, k3, k4⟩ := acts_fit h0 ok' cv' wf iu he h
        exact ⟨k1, k2, by rw [List.length_cons]; omega, k4⟩
      | some e =>
        rw [e1] at h
        have eo := eff_ok (us := ws) h0 (ok a List.mem_cons_self) e1
        have w2 := wf.mkE eo.1 eo.2
        have i2 := iu.mk eo.1.p5 w2.nd (cv a List.mem_cons_self fl e e1)
        obtain ⟨k1, k2, k3, k4⟩ := acts_fit h0 ok' cv' w2 i2 (fun x hx => (List.mem_append.mp hx).elim (he x) fun q => by rw [List.mem_singleton.mp q]; exact eo) h
        refine ⟨k1, k2, ?_, k4⟩
        rw [List.length_append] at k3
        rw [List.length_cons]
        have : [e].length = 1 := rfl
        omega
theorem subs_fit {as : List Ac} (h0 : ∀ p c, getF f0 p = some c → scOk c) : ∀ {L : List (Option (List Str))} {fl : Fl} {es : List Ef} {st : Fl × List Ef} (ok : ∀ s ∈ L, ∀ a ∈ as, AcOk ws s a) (cv : ∀ s ∈ L, ∀ a ∈ as, ∀ fl e, effF f0 fl (s.getD []) a = some e → preU e U) (wf : Wf ws fl) (iu : InU U fl) (he : ∀ e ∈ es, EfOk e ∧ ∀ k ∈ e.p, k ∈ ws),
    subsF f0 as (L.map fun s => s.getD []) fl es = .ok st → Wf ws st.1 ∧ InU U st.1 ∧ st.2.length ≤ es.length + as.length * L.length ∧ ∀ e ∈ st.2, EfOk e ∧ ∀ k ∈ e.p, k ∈ ws
  | [], fl, es, st, ok, cv, wf, iu, he, h => by cases h; exact ⟨wf, iu, Nat.le_add_right _ _, he⟩
  | s :: L, fl, es, st, ok, cv, wf, iu, he, h => by
    rw [List.map_cons, subsF] at h
    cases e1 : actsF f0 (s.getD []) as fl es with
    | error r => rw [e1] at h; cases h
    | ok s1 =>
      rw [e1] at h
      obtain ⟨k1, k2, k3, k4⟩ := acts_fit h0 (ok s List.mem_cons_self) (cv s List.mem_cons_self) wf iu he e1
      obtain ⟨m1, m2, m3, m4⟩ := subs_fit h0 (fun x hx => ok x (List.mem_cons_of_mem _ hx)) (fun x hx => cv x (List.mem_cons_of_mem _ hx)) k1 k2 k4 h
      refine ⟨m1, m2, ?_, m4⟩
      rw [List.length_cons, Nat.mul_add, Nat.mul_one]
      omega
end
theorem acts_len {f0 : Fl} {s : List Str} : ∀ {as : List Ac} {fl : Fl} {es : List Ef} {st : Fl × List Ef}, actsF f0 s as fl es = .ok st → st.2.length ≤ es.length + as.length
  | [], fl, es, st, h => by cases h; exact Nat.le_refl _
  | a :: as, fl, es, st, h => by
    rw [List.length_cons]
    cases hr : isRej a with
    | true =>
      cases a with
      | rej r => cases h
      | _ => cases hr
    | false =>
      rw [actsF_cons hr] at h
      cases e1 : effF f0 fl s a with
      | none => rw [e1] at h; have := acts_len h; omega
      | some e =>
        rw [e1] at h
        have := acts_len (f0 := f0) (show actsF f0 s as (mkF fl e) (es ++ [e]) = _ from h)
        rw [List.length_append] at this
        have : [e].length = 1 := rfl
        omega
theorem subs_len {f0 : Fl} {as : List Ac} : ∀ {L : List (List Str)} {fl : Fl} {es : List Ef} {st : Fl × List Ef}, subsF f0 as L fl es = .ok st → st.2.length ≤ es.length + as.length * L.length
  | [], fl, es, st, h => by cases h; exact Nat.le_add_right _ _
  | s :: L, fl, es, st, h => by
    rw [subsF] at h
    cases e1 : actsF f0 s as fl es with
    | error r => rw [e1] at h; cases h
    | ok s1 =>
      rw [e1] at h
      have k1 := acts_len e1
      have k2 := subs_len (f0 := f0) (show subsF f0 as L s1.1 s1.2 = _ from h)
      rw [List.length_cons, Nat.mul_add, Nat.mul_one]
      omega
theorem rule_len {ws : List Str} {fl : Fl} {r : Ru} {st : Fl × List Ef} (ok : RuOk ws fl r.col r.c r.as) (h : ruR fl r = .ok st) : st.2.length ≤ 16000 := by
  have k := subs_len (f0 := fl) h
  have l1 := spotsQ_len fl r.col
  have l2 : (subQ fl r.col r.c).length ≤ (spotsQ fl r.col).length := List.length_filter_le _ _
  have l3 := ok.lf
  have l5 : r.as.length * ((subQ fl r.col r.c).map fun s => s.getD []).length ≤ 15 * 1001 := Nat.mul_le_mul ok.la (by rw [List.length_map]; omega)
  rw [List.length_nil] at k
  omega
theorem rule_fit {ws : List Str} {U : List (List Str)} {fl : Fl} {r : Ru} {st : Fl × List Ef} (ok : RuOk ws fl r.col r.c r.as) (iu : InU U fl) (cv : ∀ s ∈ spotsQ fl r.col, ∀ a ∈ r.as, ∀ f1 e, effF fl f1 (s.getD []) a = some e → preU e U) (h : ruR fl r = .ok st) : Wf ws st.1 ∧ InU U st.1 ∧ st.2.length ≤ 16000 ∧ ∀ e ∈ st.2, EfOk e ∧ ∀ k ∈ e.p, k ∈ ws := by
  have h0 : ∀ p c, getF fl p = some c → scOk c := fun p c e => (ok.wf.pa p c e).2.2.2
  obtain ⟨k1, k2, k3, k4⟩ := subs_fit (es := []) h0 (L := subQ fl r.col r.c) (fun s hs => ok.ac s (subQ_sub hs)) (fun s hs => cv s (subQ_sub hs)) ok.wf iu (fun _ h => by cases h) h
  refine ⟨k1, k2, ?_, k4⟩
  have l1 := spotsQ_len fl r.col
  have l2 : (subQ fl r.col r.c).length ≤ (spotsQ fl r.col).length := List.length_filter_le _ _
  have l3 := ok.lf
  have l4 := ok.la
  have l5 : r.as.length * (subQ fl r.col r.c).length ≤ 15 * 1001 := Nat.mul_le_mul l4 (by omega)
  rw [List.length_nil] at k3
  omega
/-! ### rules of a law's world -/
/-- conditions with their places -/
structure CdV (us : List Str) (b : Bool) (c : Cd) : Prop where
  pl : c.all (PlW us b)
  dep : c.dep ≤ 38
  lit : c.lit scN
def PlV (w : Wd) (b : Bool) : Pl → Prop
  | .path p => b = false ∧ p ∈ w.paths
  | .ent p => b = true ∧ p ∈ w.inner
def AcV (us : List Str) (w : Wd) (b : Bool) : Ac → Prop
  | .set p c => PlV w b p ∧ scN c
  | .dflt p c => PlV w b p ∧ scN c
  | .copy p q => PlV w b p ∧ PlW us b q
  | .rem p => PlV w b p
  | .rej _ => True
theorem PlV.tg {us : List Str} {w : Wd} {b : Bool} {p : Pl} (wo : WdOk us w) (h : PlV w b p) : PlTg us b p := by
  cases p with
  | path p => exact ⟨h.1, wo.pu p h.2⟩
  | ent p => exact ⟨h.1, wo.iu p h.2⟩
theorem AcV.w {us : List Str} {w : Wd} {b : Bool} {a : Ac} (wo : WdOk us w) (h : AcV us w b a) : AcW us b a := by
  cases a with
  | set p c => exact ⟨h.1.tg wo, h.2⟩
  | dflt p c => exact ⟨h.1.tg wo, h.2⟩
  | copy p q => exact ⟨h.1.tg wo, h.2⟩
  | rem p => exact h.tg wo
  | rej r => trivial
/-- the paths that rules of a world may bring -/
structure Cov (us : List Str) (w : Wd) (U : List (List Str)) : Prop where
  p : ∀ p ∈ w.paths, ∀ q ∈ pre6 p, q ∈ U
  e : ∀ k ∈ us, ∀ p ∈ w.inner, ∀ q ∈ pre6 (w.col ++ [k] ++ p), q ∈ U
structure RuV (us : List Str) (w : Wd) (r : Ru) : Prop where
  ex : ∃ b : Bool, r.col = (if b = true then some w.col else none) ∧ (∀ c, r.c = some c → CdV us b c) ∧ (∀ a ∈ r.as, AcV us w b a) ∧ r.as.length ≤ 15
theorem eff_p {f0 fl : Fl} {s : List Str} {a : Ac} {e : Ef} (h : effF f0 fl s a = some e) : ∃ p, e.p = plAt s p ∧ (∀ us w b, AcV us w b a → PlV w b p) := by
  cases a with
  | rej r => cases h
  | set p c =>
    simp only [effF] at h
    split at h
    · cases h
    · cases h; exact ⟨p, rfl, fun _ _ _ h => h.1⟩
  | dflt p c =>
    simp only [effF] at h
    split at h
    · cases h
    · cases h; exact ⟨p, rfl, fun _ _ _ h => h.1⟩
  | rem p =>
    simp only [effF] at h
    split at h
    · cases h
    · cases h; exact ⟨p, rfl, fun _ _ _ h => h⟩
  | copy p q =>
    simp only [effF] at h
    split at h
    · cases h
    · split at h
      · cases h
      · cases h
      · cases h; exact ⟨p, rfl, fun _ _ _ h => h.1⟩
theorem RuV.ok {us : List Str} {w : Wd} {r : Ru} {fl : Fl} (h : RuV us w r) (wo : WdOk us w) (ku : ∀ z ∈ us, KeyT z) (wf : Wf us fl) (lf : fl.length ≤ 1000) : RuOk us fl r.col r.c r.as := by
  obtain ⟨b, h1, h2, h3, h4⟩ := h.ex
  have sp : ∀ s ∈ spotsQ fl r.col, SpW us b s := by rw [h1]; exact spots_W wf wo
  refine ⟨wf, fun z hz => by have := (ku z hz).len; omega, lf, h4, fun p e => ?_, ?_, fun s hs a ha => AcW.ok (sp s hs) ((h3 a ha).w wo)⟩
  · rw [h1] at e
    have := wo.c2
    cases b with
    | true => cases e; omega
    | false => cases e
  · cases e : r.c with
    | none => trivial
    | some c => exact ⟨by have := (h2 c e).dep; omega, fun s hs => Cd.all_mono (fun p h => (PlW.ok (sp s hs) h).1) c (h2 c e).pl⟩
theorem RuV.cov {us : List Str} {w : Wd} {r : Ru} {fl : Fl} {U : List (List Str)} (h : RuV us w r) (wo : WdOk us w) (wf : Wf us fl) (cv : Cov us w U) : ∀ s ∈ spotsQ fl r.col, ∀ a ∈ r.as, ∀ f1 e, effF fl f1 (s.getD []) a = some e → preU e U := fun s hs a ha f1 e he q hq => by
  obtain ⟨b, h1, h2, h3, h4⟩ := h.ex
  obtain ⟨p, e1, hp⟩ := eff_p he
  have hp := hp us w b (h3 a ha)
  rw [e1] at hq
  cases p with
  | path p => exact cv.p p hp.2 q hq
  | ent p =>
    rw [h1, hp.1] at hs
    obtain ⟨k, hk, rfl⟩ := List.mem_map.mp (show s ∈ (below fl w.col).map _ from hs)
    obtain ⟨c, hc⟩ := mem_below.mp hk
    exact cv.e k ((wf.pa _ c hc).2.2.1 k (List.mem_append_right _ List.mem_cons_self)) p hp.2 q hq
theorem RuV.call {us : List Str} {w : Wd} {U : List (List Str)} (wo : WdOk us w) (ku : ∀ z ∈ us, KeyT z) (lu : U.length ≤ 1000) (cv : Cov us w U) : ∀ {rs : List Ru} {fl : Fl}, (∀ r ∈ rs, RuV us w r) → Wf us fl → InU U fl → CallOk us rs fl
  | [], _, _, _, _ => trivial
  | r :: rs, fl, h, wf, iu => by
    have hr := h r List.mem_cons_self
    have ok := hr.ok wo ku wf (by have := iu.len wf.nd; omega)
    refine ⟨ok, fun st e => ?_⟩
    obtain ⟨k1, k2, _⟩ := rule_fit ok iu (hr.cov wo wf cv) e
    exact RuV.call wo ku lu cv (fun x hx => h x (List.mem_cons_of_mem _ hx)) k1 k2
theorem call_fit {us : List Str} {w : Wd} {U : List (List Str)} (wo : WdOk us w) (ku : ∀ z ∈ us, KeyT z) (lu : U.length ≤ 1000) (cv : Cov us w U) : ∀ {rs : List Ru} {fl : Fl} {k : Nat} {es : List (Nat × Ef)} {st : Fl × List (Nat × Ef)}, (∀ r ∈ rs, RuV us w r) → Wf us fl → InU U fl → (∀ e ∈ es, EfOk e.2 ∧ ∀ k ∈ e.2.p, k ∈ us) → callF rs k fl es = .ok st → Wf us st.1 ∧ InU U st.1 ∧ st.2.length ≤ es.length + 16000 * rs.length ∧ (∀ e ∈ st.2, EfOk e.2 ∧ ∀ k ∈ e.2.p, k ∈ us)
  | [], _, _, _, _, _, wf, iu, he, h => by cases h; exact ⟨wf, iu, Nat.le_refl _, he⟩
  | r :: rs, fl, k, es, st, h, wf, iu, he, e => by
    have hr := h r List.mem_cons_self
    have ok := hr.ok wo ku wf (by have := iu.len wf.nd; omega)
    unfold callF at e
    cases e1 : ruR fl r with
    | error z => rw [e1] at e; cases e
    | ok s1 =>
      rw [e1] at e
      obtain ⟨k1, k2, k3, k4⟩ := rule_fit ok iu (hr.cov wo wf cv) e1
      obtain ⟨m1, m2, m3, m4⟩ := call_fit wo ku lu cv (fun x hx => h x (List.mem_cons_of_mem _ hx)) k1 k2 (fun x hx => (List.mem_append.mp hx).elim (he x) fun q => by
        obtain ⟨y, hy, rfl⟩ := List.mem_map.mp q
        exact k4 y hy) e
      refine ⟨m1, m2, ?_, m4⟩
      rw [List.length_append, List.length_map] at m3
      rw [List.length_cons, Nat.mul_add, Nat.mul_one]
      omega
/-- rules behind one another -/
def shiftE (n : Nat) (es : List (Nat × Ef)) : List (Nat × Ef) := es.map fun e => (e.1 + n, e.2)
theorem callF_acc : ∀ (rs : List Ru) (k : Nat) (fl : Fl) (es : List (Nat × Ef)), callF rs k fl es = match callF rs 0 fl [] with
    | .error x => .error (x.1 + k, x.2)
    | .ok st => .ok (st.1, es ++ shiftE k st.2)
  | [], k, fl, es => by simp [callF, shiftE]
  | r :: rs, k, fl, es => by
    unfold callF
    cases ruR fl r with
    | error z => simp
    | ok st =>
      simp only
      rw [callF_acc rs (k + 1), callF_acc rs (0 + 1)]
      cases callF rs 0 st.1 [] with
      | error x => simp only; congr 2; omega
      | ok s2 =>
        simp only
        congr 2
        simp only [shiftE, List.map_append, List.map_map, List.nil_append, List.append_assoc]
        congr 2
        · apply List.map_congr_left
          intro e _
          simp
        · apply List.map_congr_left
          intro e _
          simp only [Function.comp]
          congr 1
          omega
theorem callF_cons (r : Ru) (rs : List Ru) (k : Nat) (fl : Fl) (es : List (Nat × Ef)) : callF (r :: rs) k fl es = match ruR fl r with
    | .error z => .error (k, z)
    | .ok st => callF rs (k + 1) st.1 (es ++ st.2.map fun e => (k, e)) := rfl
theorem callF_app : ∀ (rs qs : List Ru) (k : Nat) (fl : Fl) (es : List (Nat × Ef)), callF (rs ++ qs) k fl es = match callF rs k fl es with
    | .error x => .error x
    | .ok st => callF qs (k + rs.length) st.1 st.2
  | [], qs, k, fl, es => rfl
  | r :: rs, qs, k, fl, es => by
    rw [List.cons_append, callF_cons, callF_cons]
    cases ruR fl r with
    | error z => rfl
    | ok st =>
      simp only
      rw [callF_app rs qs, List.length_cons, show k + 1 + rs.length = k + (rs.length + 1) by omega]
end My

namespace My
open PySem L2
/-! ### entries apart -/
theorem getF_mk {fl : Fl} {e : Ef} (q : List Str) : getF (mkF fl e) q = match e.c with
    | none => if q.take e.p.length = e.p then none else getF fl q
    | some c => if q = e.p then some c else if 1 ≤ q.length ∧ q.length < e.p.length ∧ q = e.p.take q.length then some .recd else if q.take e.p.length = e.p then none else getF fl q := by
  unfold mkF
  cases e.c with
  | none => exact getF_cut _ _ _
  | some c => exact getF_set _ _ _ _
/-- the target of an action is inside of the entry -/
def AcE : Ac → Prop
  | .set (.ent _) _ => True
  | .dflt (.ent _) _ => True
  | .copy (.ent _) _ => True
  | .rem (.ent _) => True
  | .rej _ => True
  | _ => False
theorem eff_ent {f0 fl : Fl} {s : List Str} {a : Ac} {e : Ef} (ha : AcE a) (h : effF f0 fl s a = some e) : ∃ p, e.p = s ++ p := by
  obtain ⟨p, h1, _⟩ := eff_p h
  cases a with
  | rej r => cases h
  | set q c =>
    cases q with
    | path q => exact ha.elim
    | ent q =>
      simp only [effF] at h
      split at h
      · cases h
      · cases h; exact ⟨q, rfl⟩
  | dflt q c =>
    cases q with
    | path q => exact ha.elim
    | ent q =>
      simp only [effF] at h
      split at h
      · cases h
      · cases h; exact ⟨q, rfl⟩
  | rem q =>
    cases q with
    | path q => exact ha.elim
    | ent q =>
      simp only [effF] at h
      split at h
      · cases h
      · cases h; exact ⟨q, rfl⟩
  | copy q r =>
    cases q with
    | path q => exact ha.elim
    | ent q =>
      simp only [effF] at h
      split at h
      · cases h
      · split at h
        · cases h
        · cases h
        · cases h; exact ⟨q, rfl⟩
/-- the effect looks at the target alone -/
theorem eff_same {f0 fl f : Fl} {s : List Str} {a : Ac} (ha : AcE a) (h : ∀ p, getF fl (s ++ p) = getF f (s ++ p)) : effF f0 fl s a = effF f0 f s a := by
  cases a with
  | rej r => rfl
  | set q c =>
    cases q with
    | path q => exact ha.elim
    | ent q => simp only [effF, plAt, h]; try rfl
  | dflt q c =>
    cases q with
    | path q => exact ha.elim
    | ent q => simp only [effF, plAt, h]
  | rem q =>
    cases q with
    | path q => exact ha.elim
    | ent q => simp only [effF, plAt, h]
  | copy q r =>
    cases q with
    | path q => exact ha.elim
    | ent q => simp only [effF, plAt, h]
structure InE (s : List Str) (fl f : Fl) : Prop where
  i : ∀ p, getF fl (s ++ p) = getF f (s ++ p)
  up : ∀ j, 1 ≤ j → j < s.length → getF fl (s.take j) = some .recd
theorem take_pre {s p : List Str} : (s ++ p).take s.length = s := by rw [List.take_left']; rfl
theorem mk_in {fl f : Fl} {s : List Str} {e : Ef} (h : ∀ p, getF fl (s ++ p) = getF f (s ++ p)) : ∀ p, getF (mkF fl e) (s ++ p) = getF (mkF f e) (s ++ p) := fun p => by
  rw [getF_mk, getF_mk, h p]
theorem mk_out {fl : Fl} {s : List Str} {e : Ef} {r : List Str} (hr : e.p = s ++ r) (up : ∀ j, 1 ≤ j → j < s.length → getF fl (s.take j) = some .recd) {q : List Str} (hq : q.take s.length ≠ s) : getF (mkF fl e) q = getF fl q := by
  rw [getF_mk, hr]
  have n1 : ¬ q.take (s ++ r).length = s ++ r := fun z => by
    apply hq
    have : (q.take (s ++ r).length).take s.length = (s ++ r).take s.length := by rw [z]
    rw [take_pre, List.take_take, List.length_append, Nat.min_eq_left (by omega)] at this
    exact this
  cases e.c with
  | none => simp only; rw [if_neg n1]
  | some c =>
    simp only
    rw [if_neg (fun z => n1 (by rw [z]; exact List.take_length)), if_neg n1]
    by_cases z : 1 ≤ q.length ∧ q.length < (s ++ r).length ∧ q = (s ++ r).take q.length
    · rw [if_pos z]
      have lq : q.length < s.length := by
        by_cases h : q.length < s.length
        · exact h
        · exact absurd (by rw [z.2.2, List.take_take, Nat.min_eq_left (by omega), take_pre]) hq
      have : q = s.take q.length := by
        rw [List.take_append_of_le_length (by omega)] at z
        exact z.2.2
      rw [this]
      exact (up _ z.1 lq).symm
    · rw [if_neg z]
theorem acts_apart {f0 : Fl} {s : List Str} : ∀ {as : List Ac} {fl f : Fl} {es E : List Ef}, (∀ a ∈ as, AcE a) → rejF as = none → InE s fl f → (∀ j, 1 ≤ j → j < s.length → getF f (s.take j) = some .recd) →
    ∃ fl' f' D, actsF f0 s as fl es = .ok (fl', es ++ D) ∧ actsF f0 s as f E = .ok (f', E ++ D) ∧ InE s fl' f' ∧ (∀ q, q.take s.length ≠ s → getF fl' q = getF fl q) ∧ (∀ q, q.take s.length ≠ s → getF f' q = getF f q)
  | [], fl, f, es, E, ha, hr, h, up => ⟨fl, f, [], by rw [List.append_nil]; rfl, by rw [List.append_nil]; rfl, h, fun _ _ => rfl, fun _ _ => rfl⟩
  | a :: as, fl, f, es, E, ha, hr, h, up => by
    have h1 := ha a List.mem_cons_self
    have ha' : ∀ a ∈ as, AcE a := fun x hx => ha x (List.mem_cons_of_mem _ hx)
    cases rj : isRej a with
    | true =>
      cases a with
      | rej r => cases hr
      | _ => cases rj
    | false =>
      rw [rejF_cons rj] at hr
      rw [actsF_cons rj, actsF_cons rj, eff_same h1 h.i]
      cases e1 : effF f0 f s a with
      | none =>
        obtain ⟨fl', f', D, k⟩ := acts_apart (f0 := f0) (es := es) (E := E) ha' hr h up
        exact ⟨fl', f', D, k⟩
      | some e =>
        obtain ⟨r, er⟩ := eff_ent h1 e1
        have sj : ∀ j, 1 ≤ j → j < s.length → (s.take j).take s.length ≠ s := fun j h1 h2 z => by
          have := congrArg List.length z
          rw [List.length_take, List.length_take] at this
          omega
        have up1 : ∀ j, 1 ≤ j → j < s.length → getF (mkF fl e) (s.take j) = some .recd := fun j h1 h2 => by rw [mk_out er h.up (sj j h1 h2)]; exact h.up j h1 h2
        have up2 : ∀ j, 1 ≤ j → j < s.length → getF (mkF f e) (s.take j) = some .recd := fun j h1 h2 => by rw [mk_out er up (sj j h1 h2)]; exact up j h1 h2
        obtain ⟨fl', f', D, k1, k2, k3, k4, k5⟩ := acts_apart (f0 := f0) (es := es ++ [e]) (E := E ++ [e]) ha' hr ⟨mk_in h.i, up1⟩ up2
        refine ⟨fl', f', e :: D, by show actsF f0 s as (mkF fl e) (es ++ [e]) = _; rw [k1, List.append_assoc]; rfl, by show actsF f0 s as (mkF f e) (E ++ [e]) = _; rw [k2, List.append_assoc]; rfl, k3, fun q hq => by rw [k4 q hq, mk_out er h.up hq], fun q hq => by rw [k5 q hq, mk_out er up hq]⟩
/-- what the actions leave for an entry alone -/
def aloneF (f0 : Fl) (as : List Ac) (s : List Str) : Fl × List Ef := match actsF f0 s as f0 [] with
  | .ok st => st
  | .error _ => (f0, [])
theorem subs_apart {f0 : Fl} {as : List Ac} (ha : ∀ a ∈ as, AcE a) (hr : rejF as = none) {n : Nat} : ∀ {L : List (List Str)} {fl : Fl} {es : List Ef}, (∀ s ∈ L, s.length = n) → L.Nodup → (∀ s ∈ L, ∀ p, getF fl (s ++ p) = getF f0 (s ++ p)) → (∀ s ∈ L, ∀ j, 1 ≤ j → j < n → getF fl (s.take j) = some .recd) → (∀ s ∈ L, ∀ j, 1 ≤ j → j < n → getF f0 (s.take j) = some .recd) →
    ∃ fl', subsF f0 as L fl es = .ok (fl', es ++ L.flatMap fun s => (aloneF f0 as s).2) ∧ (∀ q, q.take n ∉ L → getF fl' q = getF fl q) ∧ (∀ s ∈ L, ∀ p, getF fl' (s ++ p) = getF (aloneF f0 as s).1 (s ++ p))
  | [], fl, es, _, _, _, _, _ => ⟨fl, by rw [List.flatMap_nil, List.append_nil]; rfl, fun _ _ => rfl, fun _ h => by cases h⟩
  | s :: L, fl, es, hl, nd, hi, up, up0 => by
    have ls : s.length = n := hl s List.mem_cons_self
    rw [List.nodup_cons] at nd
    obtain ⟨fl1, f1, D, k1, k2, k3, k4, k5⟩ := acts_apart (f0 := f0) (es := es) (E := []) ha hr ⟨hi s List.mem_cons_self, fun j h1 h2 => up s List.mem_cons_self j h1 (by omega)⟩ (fun j h1 h2 => up0 s List.mem_cons_self j h1 (by omega))
    rw [List.nil_append] at k2
    have al : aloneF f0 as s = (f1, D) := by unfold aloneF; rw [k2]
    have ne : ∀ x ∈ L, x ≠ s := fun x hx z => nd.1 (by rw [← z]; exact hx)
    obtain ⟨fl', m1, m2, m3⟩ := subs_apart (es := es ++ D) ha hr (fun x hx => hl x (List.mem_cons_of_mem _ hx)) nd.2 (fl := fl1) (fun x hx p => by
      rw [k4 _ (fun z => ne x hx (by rw [ls, ← hl x (List.mem_cons_of_mem _ hx), take_pre] at z; exact z))]
      exact hi x (List.mem_cons_of_mem _ hx) p) (fun x hx j h1 h2 => by
      rw [k4 _ (fun z => by have := congrArg List.length z; rw [List.length_take, List.length_take] at this; omega)]
      exact up x (List.mem_cons_of_mem _ hx) j h1 h2) (fun x hx => up0 x (List.mem_cons_of_mem _ hx))
    refine ⟨fl', ?_, fun q hq => ?_, fun x hx p => ?_⟩
    · rw [subsF, k1]
      simp only
      rw [m1, List.flatMap_cons, al, List.append_assoc]
    · rw [m2 q (fun z => hq (List.mem_cons_of_mem _ z)), k4 q (fun z => hq (by rw [ls] at z; rw [z]; exact List.mem_cons_self))]
    · rcases List.mem_cons.mp hx with rfl | hx
      · rw [m2 _ (by rw [← ls, take_pre]; exact nd.1), k3.i p, al]
      · exact m3 x hx p
/-- the table that is left: what is inside of no entry, then what is left for each -/
def putsF (fl : Fl) (f : Fl) (s : List Str) (n : Nat) : Fl := (f.take n).foldl (fun g x => if x.1.take s.length = s then putF g x.1 x.2 else g) fl
theorem putsF_zero (fl f : Fl) (s : List Str) : putsF fl f s 0 = fl := rfl
theorem putsF_succ {fl f : Fl} {s : List Str} {i : Nat} {x : List Str × Sc} (h : f[i]? = some x) : putsF fl f s (i + 1) = if x.1.take s.length = s then putF (putsF fl f s i) x.1 x.2 else putsF fl f s i := by
  obtain ⟨hl, ee⟩ := List.getElem?_eq_some_iff.mp h
  unfold putsF
  rw [List.take_succ_eq_append_getElem hl, List.foldl_append, ee]
  rfl
theorem putsF_nd {fl : Fl} (h : (fl.map (·.1)).Nodup) (f : Fl) (s : List Str) : ∀ n, n ≤ f.length → ((putsF fl f s n).map (·.1)).Nodup
  | 0, _ => h
  | n + 1, hn => by
    rw [putsF_succ (List.getElem?_eq_getElem (by omega))]
    split
    · exact nd_put (putsF_nd h f s n (by omega)) _ _
    · exact putsF_nd h f s n (by omega)
theorem putsF_len (fl f : Fl) (s : List Str) : ∀ n, n ≤ f.length → (putsF fl f s n).length ≤ fl.length + n
  | 0, _ => Nat.le_refl _
  | n + 1, hn => by
    have ih := putsF_len fl f s n (by omega)
    rw [putsF_succ (List.getElem?_eq_getElem (by omega))]
    split
    · have := len_put (putsF fl f s n) (f[n]'(by omega)).1 (f[n]'(by omega)).2; omega
    · omega
theorem putsF_get {fl f : Fl} (nd : (f.map (·.1)).Nodup) {s : List Str} (no : ∀ q, q.take s.length = s → getF fl q = none) : ∀ n, n ≤ f.length → ∀ q, getF (putsF fl f s n) q = if q.take s.length = s then getF (f.take n) q else getF fl q
  | 0, _, q => by
    show getF fl q = _
    split
    · rw [no q (by assumption)]; rfl
    · rfl
  | n + 1, hn, q => by
    have ih := putsF_get nd no n (by omega) q
    have e : f[n]? = some (f[n]'(by omega)) := List.getElem?_eq_getElem (by omega)
    have ht : f.take (n + 1) = f.take n ++ [f[n]'(by omega)] := List.take_succ_eq_append_getElem (by omega)
    have gt : getF (f.take (n + 1)) q = if q = (f[n]'(by omega)).1 then some (f[n]'(by omega)).2 else getF (f.take n) q := by
      have := getF_put (f.take n) (f[n]'(by omega)).1 q (f[n]'(by omega)).2
      rw [putF_new _ (getF_take nd (by rw [e]))] at this
      rw [ht, ← this]
    rw [putsF_succ e, gt]
    by_cases z : (f[n]'(by omega)).1.take s.length = s
    · rw [if_pos z, getF_put, ih]
      by_cases z2 : q = (f[n]'(by omega)).1
      · rw [if_pos z2, if_pos (by rw [z2]; exact z), if_pos z2]
      · rw [if_neg z2, if_neg z2]
    · rw [if_neg z, ih]
      by_cases z2 : q = (f[n]'(by omega)).1
      · rw [if_neg (by rw [z2]; exact z), if_neg (by rw [z2]; exact z)]
      · rw [if_neg z2]
def outF (f0 : Fl) (L : List (List Str)) (n : Nat) : Fl := f0.filter fun x => !decide (x.1.take n ∈ L)
def leftF (f0 : Fl) (as : List Ac) (fl : Fl) : List (List Str) → Fl
  | [] => fl
  | s :: L => leftF f0 as (putsF fl (aloneF f0 as s).1 s (aloneF f0 as s).1.length) L
theorem getF_filter {fl : Fl} {f : List Str → Bool} {q : List Str} : getF (fl.filter fun x => f x.1) q = if f q = true then getF fl q else none := by
  induction fl with
  | nil => simp [getF]
  | cons x fl ih =>
    obtain ⟨p, c⟩ := x
    rw [List.filter_cons]
    by_cases z : f p = true
    · rw [if_pos z, getF_cons, getF_cons, ih]
      by_cases y : p = q
      · rw [if_pos y, if_pos y, if_pos (by rw [← y]; exact z)]
      · rw [if_neg y, if_neg y]
    · rw [if_neg z, getF_cons, ih]
      by_cases y : p = q
      · rw [if_neg (by rw [← y]; exact z), if_neg (by rw [← y]; exact z)]
      · rw [if_neg y]
theorem getF_out {f0 : Fl} {L : List (List Str)} {n : Nat} {q : List Str} : getF (outF f0 L n) q = if q.take n ∈ L then none else getF f0 q := by
  unfold outF
  rw [getF_filter (f := fun p => !decide (p.take n ∈ L))]
  by_cases z : q.take n ∈ L
  · rw [if_pos z, if_neg (by simp [z])]
  · rw [if_neg z, if_pos (by simp [z])]
theorem leftF_nd {f0 : Fl} {as : List Ac} : ∀ {L : List (List Str)} {fl : Fl}, (fl.map (·.1)).Nodup → ((leftF f0 as fl L).map (·.1)).Nodup
  | [], _, h => h
  | s :: L, fl, h => leftF_nd (L := L) (putsF_nd h _ _ _ (Nat.le_refl _))
theorem leftF_len {f0 : Fl} {as : List Ac} {m : Nat} : ∀ {L : List (List Str)} {fl : Fl}, (∀ s ∈ L, (aloneF f0 as s).1.length ≤ m) → (leftF f0 as fl L).length ≤ fl.length + m * L.length
  | [], _, _ => Nat.le_refl _
  | s :: L, fl, h => by
    have k := leftF_len (L := L) (fl := putsF fl (aloneF f0 as s).1 s (aloneF f0 as s).1.length) (fun x hx => h x (List.mem_cons_of_mem _ hx))
    have k2 := putsF_len fl (aloneF f0 as s).1 s _ (Nat.le_refl _)
    have k3 := h s List.mem_cons_self
    rw [List.length_cons, Nat.mul_add, Nat.mul_one]
    show (leftF f0 as _ L).length ≤ _
    omega
theorem leftF_get {f0 : Fl} {as : List Ac} {n : Nat} : ∀ {L : List (List Str)} {fl : Fl}, L.Nodup → (∀ s ∈ L, s.length = n) → (∀ s ∈ L, ((aloneF f0 as s).1.map (·.1)).Nodup) → (∀ s ∈ L, ∀ q, q.take n = s → getF fl q = none) → ∀ q, getF (leftF f0 as fl L) q = if q.take n ∈ L then getF (aloneF f0 as (q.take n)).1 q else getF fl q
  | [], fl, _, _, _, _, q => by rw [if_neg (by intro z; cases z)]; rfl
  | s :: L, fl, nd, hl, hn, no, q => by
    have ls : s.length = n := hl s List.mem_cons_self
    rw [List.nodup_cons] at nd
    have g : ∀ q, getF (putsF fl (aloneF f0 as s).1 s (aloneF f0 as s).1.length) q = if q.take n = s then getF (aloneF f0 as s).1 q else getF fl q := fun q => by
      have := putsF_get (hn s List.mem_cons_self) (fl := fl) (s := s) (fun q h => no s List.mem_cons_self q (by rw [← ls]; exact h)) _ (Nat.le_refl _) q
      rw [List.take_length, ls] at this
      exact this
    show getF (leftF f0 as _ L) q = _
    rw [leftF_get nd.2 (fun x hx => hl x (List.mem_cons_of_mem _ hx)) (fun x hx => hn x (List.mem_cons_of_mem _ hx)) (fun x hx q hq => by
      rw [g q, if_neg (fun z => nd.1 (by rw [← z, hq]; exact hx))]
      exact no x (List.mem_cons_of_mem _ hx) q hq) q, g q]
    by_cases z : q.take n = s
    · rw [if_neg (by rw [z]; exact nd.1), if_pos z, if_pos (by rw [z]; exact List.mem_cons_self), z]
    · rw [if_neg z]
      by_cases y : q.take n ∈ L
      · rw [if_pos y, if_pos (List.mem_cons_of_mem _ y)]
      · rw [if_neg y, if_neg (fun h => (List.mem_cons.mp h).elim z y)]
/-! ### rules of entries -/
structure RuE (us : List Str) (w : Wd) (r : Ru) : Prop where
  col : r.col = some w.col
  c : ∀ c, r.c = some c → CdV us true c
  a : ∀ a ∈ r.as, AcW us true a
  l : r.as.length ≤ 15
theorem RuE.ok {us : List Str} {w : Wd} {r : Ru} {fl : Fl} (h : RuE us w r) (wo : WdOk us w) (ku : ∀ z ∈ us, KeyT z) (wf : Wf us fl) (lf : fl.length ≤ 1000) : RuOk us fl r.col r.c r.as := by
  have sp : ∀ s ∈ spotsQ fl r.col, SpW us true s := by rw [h.col]; exact spots_W (b := true) wf wo
  refine ⟨wf, fun z hz => by have := (ku z hz).len; omega, lf, h.l, fun p e => ?_, ?_, fun s hs a ha => AcW.ok (sp s hs) (h.a a ha)⟩
  · rw [h.col] at e
    have := wo.c2
    cases e
    omega
  · cases e : r.c with
    | none => trivial
    | some c => exact ⟨by have := (h.c c e).dep; omega, fun s hs => Cd.all_mono (fun p h => (PlW.ok (sp s hs) h).1) c (h.c c e).pl⟩
theorem AcW.ent {us : List Str} {a : Ac} (h : AcW us true a) : AcE a := by
  cases a with
  | rej r => trivial
  | set p c => cases p with | path p => exact absurd h.1.1 (by decide) | ent p => trivial
  | dflt p c => cases p with | path p => exact absurd h.1.1 (by decide) | ent p => trivial
  | rem p => cases p with | path p => exact absurd h.1 (by decide) | ent p => trivial
  | copy p q => cases p with | path p => exact absurd h.1.1 (by decide) | ent p => trivial
theorem rej_none : ∀ {as : List Ac}, rejs as = [] → rejF as = none ∧ ∀ a ∈ as, isRej a = false
  | [], _ => ⟨rfl, fun _ h => by cases h⟩
  | a :: as, h => by
    have step : (rejs (a :: as)) = (match a with | .rej r => [r] | _ => []) ++ rejs as := by cases a <;> simp [rejs]
    rw [step] at h
    obtain ⟨h1, h2⟩ := List.append_eq_nil_iff.mp h
    obtain ⟨k1, k2⟩ := rej_none h2
    cases a with
    | rej r => cases h1
    | set p c => exact ⟨k1, fun x hx => (List.mem_cons.mp hx).elim (fun e => by rw [e]; rfl) (k2 x)⟩
    | dflt p c => exact ⟨k1, fun x hx => (List.mem_cons.mp hx).elim (fun e => by rw [e]; rfl) (k2 x)⟩
    | copy p c => exact ⟨k1, fun x hx => (List.mem_cons.mp hx).elim (fun e => by rw [e]; rfl) (k2 x)⟩
    | rem p => exact ⟨k1, fun x hx => (List.mem_cons.mp hx).elim (fun e => by rw [e]; rfl) (k2 x)⟩
section
variable {ws : List Str} {f0 : Fl}
theorem acts_wf {s : Option (List Str)} : ∀ {as : List Ac} {fl : Fl} {es : List Ef} {st : Fl × List Ef} (h0 : ∀ p c, getF f0 p = some c → scOk c) (ok : ∀ a ∈ as, AcOk ws s a) (wf : Wf ws fl), actsF f0 (s.getD []) as fl es = .ok st → Wf ws st.1 ∧ st.1.length ≤ fl.length + 6 * as.length ∧ st.2.length ≤ es.length + as.length
  | [], fl, es, st, h0, ok, wf, h => by cases h; exact ⟨wf, Nat.le_refl _, Nat.le_refl _⟩
  | a :: as, fl, es, st, h0, ok, wf, h => by
    have ok' : ∀ a ∈ as, AcOk ws s a := fun x hx => ok x (List.mem_cons_of_mem _ hx)
    rw [List.length_cons]
    cases hr : isRej a with
    | true =>
      cases a with
      | rej r => cases h
      | _ => cases hr
    | false =>
      rw [actsF_cons hr] at h
      cases e1 : effF f0 fl (s.getD []) a with
      | none =>
        rw [e1] at h
        obtain ⟨k1, k2, k3⟩ := acts_wf h0 ok' wf h
        exact ⟨k1, by omega, by omega⟩
      | some e =>
        rw [e1] at h
        have eo := eff_ok (us := ws) h0 (ok a List.mem_cons_self) e1
        have ml := mk_len fl eo.1.p5
        obtain ⟨k1, k2, k3⟩ := acts_wf (s := s) h0 ok' (wf.mkE eo.1 eo.2) h
        rw [List.length_append] at k3
        have : [e].length = 1 := rfl
        exact ⟨k1, by omega, by omega⟩
theorem subs_wf {as : List Ac} (h0 : ∀ p c, getF f0 p = some c → scOk c) : ∀ {L : List (Option (List Str))} {fl : Fl} {es : List Ef} {st : Fl × List Ef} (ok : ∀ s ∈ L, ∀ a ∈ as, AcOk ws s a) (wf : Wf ws fl), subsF f0 as (L.map fun s => s.getD []) fl es = .ok st → Wf ws st.1 ∧ st.1.length ≤ fl.length + 6 * as.length * L.length
  | [], fl, es, st, ok, wf, h => by cases h; exact ⟨wf, Nat.le_refl _⟩
  | s :: L, fl, es, st, ok, wf, h => by
    rw [List.map_cons, subsF] at h
    cases e1 : actsF f0 (s.getD []) as fl es with
    | error r => rw [e1] at h; cases h
    | ok s1 =>
      rw [e1] at h
      obtain ⟨k1, k2, _⟩ := acts_wf h0 (ok s List.mem_cons_self) wf e1
      obtain ⟨m1, m2⟩ := subs_wf h0 (fun x hx => ok x (List.mem_cons_of_mem _ hx)) k1 h
      refine ⟨m1, ?_⟩
      rw [List.length_cons, Nat.mul_add, Nat.mul_one]
      omega
end
/-- entries apart: what the rule leaves is what is left for each -/
theorem rule_apart {us : List Str} {w : Wd} {r : Ru} {fl : Fl} (h : RuE us w r) (wo : WdOk us w) (ku : ∀ z ∈ us, KeyT z) (wf : Wf us fl) (lf : fl.length ≤ 1000) {L : List (List Str)} (hL : L = (subQ fl r.col r.c).map fun s => s.getD []) (hr : L = [] ∨ rejs r.as = []) :
    ∃ fl', ruR fl r = .ok (fl', L.flatMap fun s => (aloneF fl r.as s).2) ∧ Wf us fl' ∧ (∀ q, getF fl' q = getF (leftF fl r.as (outF fl L (w.col.length + 1)) L) q) ∧ ((leftF fl r.as (outF fl L (w.col.length + 1)) L).map (·.1)).Nodup ∧ (leftF fl r.as (outF fl L (w.col.length + 1)) L).length ≤ fl.length + (fl.length + 90) * L.length ∧ (∀ s ∈ L, Wf us (aloneF fl r.as s).1 ∧ (aloneF fl r.as s).1.length ≤ fl.length + 90 ∧ (aloneF fl r.as s).2.length ≤ 15) := by
  have ok := h.ok wo ku wf lf
  have h0 : ∀ p c, getF fl p = some c → scOk c := fun p c e => (wf.pa p c e).2.2.2
  have ms : ∀ s ∈ L, ∃ k ∈ below fl w.col, s = w.col ++ [k] ∧ some s ∈ spotsQ fl r.col := fun s hs => by
    rw [hL] at hs
    obtain ⟨s0, hs0, rfl⟩ := List.mem_map.mp hs
    have hs1 := subQ_sub hs0
    have hs2 := hs1
    rw [h.col] at hs2
    obtain ⟨k, hk, rfl⟩ := List.mem_map.mp (show s0 ∈ (below fl w.col).map _ from hs2)
    exact ⟨k, hk, rfl, hs1⟩
  have hl : ∀ s ∈ L, s.length = w.col.length + 1 := fun s hs => by
    obtain ⟨k, _, rfl, _⟩ := ms s hs
    rw [List.length_append]
    rfl
  have nd : L.Nodup := by
    have n1 : ((below fl w.col).map fun k => w.col ++ [k]).Nodup := by
      refine List.Pairwise.map _ (fun a b hab z => ?_) (below_sorted wf.nd w.col)
      have := List.append_cancel_left z
      cases this
      exact LtS.irrefl _ hab
    have e : L = ((below fl w.col).map fun k => w.col ++ [k]).filter fun s => cdQ fl (some s) r.c := by
      rw [hL]
      unfold subQ
      rw [h.col]
      show List.map _ (List.filter _ ((below fl w.col).map fun k => some (w.col ++ [k]))) = _
      rw [List.filter_map, List.filter_map, List.map_map]
      rfl
    rw [e]
    exact n1.filter _
  have up : ∀ s ∈ L, ∀ j, 1 ≤ j → j < w.col.length + 1 → getF fl (s.take j) = some .recd := fun s hs j h1 h2 => by
    obtain ⟨k, hk, e, _⟩ := ms s hs
    obtain ⟨c, hc⟩ := mem_below.mp hk
    rw [← e] at hc
    exact wf.up s c hc j h1 (by rw [hl s hs]; exact h2)
  have alw : ∀ s ∈ L, Wf us (aloneF fl r.as s).1 ∧ (aloneF fl r.as s).1.length ≤ fl.length + 90 ∧ (aloneF fl r.as s).2.length ≤ 15 := fun s hs => by
    obtain ⟨_, _, _, hsp⟩ := ms s hs
    have la := h.l
    unfold aloneF
    cases e : actsF fl s r.as fl [] with
    | error z => exact ⟨wf, by show fl.length ≤ _; omega, Nat.zero_le _⟩
    | ok st =>
      obtain ⟨k1, k2, k3⟩ := acts_wf (s := some s) h0 (ok.ac _ hsp) wf e
      rw [List.length_nil] at k3
      exact ⟨k1, by show st.1.length ≤ _; omega, by show st.2.length ≤ _; omega⟩
  have ndo : ((outF fl L (w.col.length + 1)).map (·.1)).Nodup := wf.nd.sublist (List.Sublist.map _ List.filter_sublist)
  have lg := leftF_get (f0 := fl) (as := r.as) (n := w.col.length + 1) (L := L) (fl := outF fl L (w.col.length + 1)) nd hl (fun s hs => (alw s hs).1.nd) (fun s hs q hq => by rw [getF_out, hq, if_pos hs])
  have ll := leftF_len (f0 := fl) (as := r.as) (m := fl.length + 90) (L := L) (fl := outF fl L (w.col.length + 1)) (fun s hs => (alw s hs).2.1)
  have lo : (outF fl L (w.col.length + 1)).length ≤ fl.length := List.length_filter_le _ _
  have fin : ∀ {fl' : Fl}, subsF fl r.as L fl [] = .ok (fl', L.flatMap fun s => (aloneF fl r.as s).2) → (∀ q, q.take (w.col.length + 1) ∉ L → getF fl' q = getF fl q) → (∀ s ∈ L, ∀ p, getF fl' (s ++ p) = getF (aloneF fl r.as s).1 (s ++ p)) → _ := fun {fl'} e h1 h2 => by
    have er : ruR fl r = .ok (fl', L.flatMap fun s => (aloneF fl r.as s).2) := by show subsF fl r.as _ fl [] = _; rw [← hL]; exact e
    have wf' : Wf us fl' := (subs_wf h0 (L := subQ fl r.col r.c) (fun s hs => ok.ac s (subQ_sub hs)) wf (by rw [← hL]; exact e)).1
    refine (⟨fl', er, wf', fun q => ?_, leftF_nd ndo, by omega, alw⟩ : ∃ fl', ruR fl r = .ok (fl', L.flatMap fun s => (aloneF fl r.as s).2) ∧ Wf us fl' ∧ (∀ q, getF fl' q = getF (leftF fl r.as (outF fl L (w.col.length + 1)) L) q) ∧ ((leftF fl r.as (outF fl L (w.col.length + 1)) L).map (·.1)).Nodup ∧ (leftF fl r.as (outF fl L (w.col.length + 1)) L).length ≤ fl.length + (fl.length + 90) * L.length ∧ (∀ s ∈ L, Wf us (aloneF fl r.as s).1 ∧ (aloneF fl r.as s).1.length ≤ fl.length + 90 ∧ (aloneF fl r.as s).2.length ≤ 15))
    rw [lg q]
    by_cases z : q.take (w.col.length + 1) ∈ L
    · rw [if_pos z]
      have := h2 _ z (q.drop (w.col.length + 1))
      rw [List.take_append_drop] at this
      exact this
    · rw [if_neg z, getF_out, if_neg z]
      exact h1 q z
  rcases hr with e | hr
  · subst e
    exact fin (fl' := fl) rfl (fun _ _ => rfl) (fun _ h => by cases h)
  · obtain ⟨fl', k1, k2, k3⟩ := subs_apart (f0 := fl) (as := r.as) (fun a ha => (h.a a ha).ent) (rej_none hr).1 (n := w.col.length + 1) (L := L) (fl := fl) (es := []) hl nd (fun _ _ _ => rfl) up up
    exact fin k1 k2 k3
/-! ### a path among paths -/
theorem room65 {k : Nat} {A : Around} (r : Room k A) : A.units + 65 < cLine := by have := r.un; omega
theorem kop_notInD {X : Cx} {K : PySem.W.Frag} (h : X.K = K) (hu : X.A.units + 65 < cLine) : OpR X (compareOp .NotIn) (rNotInD K) := h ▸ op_notInD hu
theorem kop_inD {X : Cx} {K : PySem.W.Frag} (h : X.K = K) (hu : X.A.units + 65 < cLine) : OpR X (compareOp .In) (rInD K) := h ▸ op_inD hu
theorem any_path (L : List (List Str)) (p : List Str) : ((Dt.pys (L.map ptD)).any fun z => PyData.eqv z (ptD p).py) = decide (p ∈ L) := by
  rw [pys_map]
  induction L with
  | nil => rfl
  | cons q L ih =>
    rw [List.map_cons, List.map_cons, List.any_cons, ih]
    have e : PyData.eqv (ptD q).py (ptD p).py = decide (q = p) := by
      show PyData.eqv (.tuple (Dt.pys (q.map .str))) (.tuple (Dt.pys (p.map .str))) = _
      rw [pys_map, pys_map, List.map_map, List.map_map]
      exact eqvs_strs q p
    rw [e]
    by_cases z : q = p
    · simp [z]
    · simp [z, Ne.symm z]
theorem notIn_paths {K : PySem.W.Frag} {H : Hp} {a b : Addr} {p : List Str} {L : List (List Str)} {vs : List V} {Q : VK} (ha : SqT K H a (p.map V.str)) (hb : SqL K H b vs) (hv : DTs K H vs (L.map ptD)) (hp : ∀ z ∈ p, SgT z) (hl : ∀ q ∈ L, ∀ z ∈ q, SgT z) (q : Q (.bl (!decide (p ∈ L))) H) : rNotInD K (.ref a) (.ref b) H Q := by
  have lp : ∀ q : List Str, (∀ z ∈ q, SgT z) → (ptD q).lay = true := fun q h => by
    show Dt.lays (q.map .str) = true
    exact lays_of fun d2 hd2 => by
      obtain ⟨z, hz, rfl⟩ := List.mem_map.mp hd2
      exact strOk_sg (h z hz)
  refine ⟨(ptD p).py, Dt.pys (L.map ptD), DT.dp _ _ (DT.path ha), .lst hb (DTs.dps _ _ hv), shaped_dt (lp p hp) (by have := deep_path p; omega), shaped_dts (lays_of fun d hd => ?_) (deeps_le fun d hd => ?_), ?_⟩
  · obtain ⟨q, hq, rfl⟩ := List.mem_map.mp hd
    exact lp q (hl q hq)
  · obtain ⟨q, _, rfl⟩ := List.mem_map.mp hd
    have := deep_path q
    omega
  · rw [any_path]
    exact q
theorem _root_.L2.Same.pths {H H' : Hp} {vs : List V} {ps : List (List Str)} (s : Same H H') (h : Al2 (PthV H) vs ps) : Al2 (PthV H') vs ps := h.mono fun _ _ h => h.mono fun _ _ e => s _ _ e
theorem pths_dts {K : PySem.W.Frag} {H : Hp} {vs : List V} {ps : List (List Str)} (h : Al2 (PthV H) vs ps) : DTs K H vs (ps.map ptD) := by
  induction h with
  | nil => exact .nil
  | cons h1 _ ih => obtain ⟨b, rfl, hb⟩ := h1; exact .cons (DT.path (SqT.of hb)) ih
end My

namespace My
open PySem L2
/-! ### effects may be compared -/
section
variable {R : Ef → Prop}
theorem acts_all {f0 : Fl} {s : List Str} : ∀ {as : List Ac} {fl : Fl} {es : List Ef} {st : Fl × List Ef}, (∀ a ∈ as, ∀ f e, (∀ p c, getF f p = some c → scOk c) → effF f0 f s a = some e → EfOk e ∧ (∀ p c, getF (mkF f e) p = some c → scOk c) ∧ R e) → (∀ p c, getF fl p = some c → scOk c) → (∀ e ∈ es, R e) → actsF f0 s as fl es = .ok st → (∀ p c, getF st.1 p = some c → scOk c) ∧ ∀ e ∈ st.2, R e
  | [], fl, es, st, _, w, he, h => by cases h; exact ⟨w, he⟩
  | a :: as, fl, es, st, ha, w, he, h => by
    have ha' : ∀ x ∈ as, _ := fun x hx => ha x (List.mem_cons_of_mem _ hx)
    cases hr : isRej a with
    | true =>
      cases a with
      | rej r => cases h
      | _ => cases hr
    | false =>
      rw [actsF_cons hr] at h
      cases e1 : effF f0 fl s a with
      | none => rw [e1] at h; exact acts_all ha' w he h
      | some e =>
        rw [e1] at h
        obtain ⟨k1, k2, k3⟩ := ha a List.mem_cons_self fl e w e1
        exact acts_all ha' k2 (fun x hx => (List.mem_append.mp hx).elim (he x) fun q => by rw [List.mem_singleton.mp q]; exact k3) (show actsF f0 s as (mkF fl e) (es ++ [e]) = _ from h)
theorem subs_all {f0 : Fl} {as : List Ac} : ∀ {L : List (List Str)} {fl : Fl} {es : List Ef} {st : Fl × List Ef}, (∀ s ∈ L, ∀ a ∈ as, ∀ f e, (∀ p c, getF f p = some c → scOk c) → effF f0 f s a = some e → EfOk e ∧ (∀ p c, getF (mkF f e) p = some c → scOk c) ∧ R e) → (∀ p c, getF fl p = some c → scOk c) → (∀ e ∈ es, R e) → subsF f0 as L fl es = .ok st → ∀ e ∈ st.2, R e
  | [], fl, es, st, _, w, he, h => by cases h; exact he
  | s :: L, fl, es, st, ha, w, he, h => by
    rw [subsF] at h
    cases e1 : actsF f0 s as fl es with
    | error r => rw [e1] at h; cases h
    | ok s1 =>
      rw [e1] at h
      obtain ⟨k1, k2⟩ := acts_all (ha s List.mem_cons_self) w he e1
      exact subs_all (fun x hx => ha x (List.mem_cons_of_mem _ hx)) k1 k2 (show subsF f0 as L s1.1 s1.2 = _ from h)
end
/-- an effect may be compared -/
structure EfL (e : Ef) : Prop where
  p : e.p.length ≤ 5
  q : ∀ q, e.q = some q → q.length ≤ 1000
theorem mk_sc {fl : Fl} {e : Ef} (w : ∀ p c, getF fl p = some c → scOk c) (ok : EfOk e) : ∀ p c, getF (mkF fl e) p = some c → scOk c := fun p c h => by
  unfold mkF at h
  rcases ok.k with ⟨h1, _⟩ | ⟨d, h1, _, h3, _⟩
  · rw [h1] at h
    simp only at h
    rw [getF_cut] at h
    split at h
    · cases h
    · exact w p c h
  · rw [h1] at h
    simp only at h
    rw [getF_set] at h
    split at h
    · cases h; exact h3
    · split at h
      · cases h; trivial
      · split at h
        · cases h
        · exact w p c h
theorem rule_efl {ws : List Str} {fl : Fl} {r : Ru} {st : Fl × List Ef} (ok : RuOk ws fl r.col r.c r.as) (h : ruR fl r = .ok st) : ∀ e ∈ st.2, EfL e := by
  have w0 : ∀ p c, getF fl p = some c → scOk c := fun p c e => (ok.wf.pa p c e).2.2.2
  refine subs_all (R := EfL) (f0 := fl) (fun s hs a ha f e w he => ?_) w0 (fun _ h => by cases h) h
  obtain ⟨s0, hs0, rfl⟩ := List.mem_map.mp hs
  have aok := ok.ac s0 (subQ_sub hs0) a ha
  have eo := (eff_ok (us := ws) w0 aok he).1
  refine ⟨eo, mk_sc w eo, eo.p5, fun q hq => ?_⟩
  cases a with
  | rej r => cases he
  | set p c =>
    simp only [effF] at he
    split at he
    · cases he
    · cases he; cases hq
  | dflt p c =>
    simp only [effF] at he
    split at he
    · cases he
    · cases he; cases hq
  | rem p =>
    simp only [effF] at he
    split at he
    · cases he
    · cases he; cases hq
  | copy p p2 =>
    have k := aok.2
    simp only [effF] at he
    split at he
    · cases he
    · split at he
      · cases he
      · cases he
      · cases he
        cases hq
        cases p2 with
        | path p2 => exact k.2
        | ent p2 => obtain ⟨z, rfl, _, k3⟩ := k; show (z ++ p2).length ≤ 1000; rw [List.length_append]; exact k3
theorem efD_ok {e : Ef} (h : EfL e) : (efD e).deep ≤ 4 ∧ (efD e).fits = true := by
  have h1 := deep_path e.p
  have h2 := deep_scO e.c
  have h3 : (ptO e.q).deep ≤ 2 := by
    cases e.q with
    | none => show 1 ≤ 2; decide
    | some q => exact deep_path q
  have f1 : (ptD e.p).fits = true := fits_strs (by have := h.p; omega)
  have f2 : (scO e.c).fits = true := by
    cases e.c with
    | none => rfl
    | some c => cases c <;> rfl
  have f3 : (ptO e.q).fits = true := by
    cases hq : e.q with
    | none => rfl
    | some q => exact fits_strs (by have := h.q q hq; omega)
  refine ⟨?_, ?_⟩
  · show max 1 (max (ptD e.p).deep (max (scO e.c).deep (max (ptO e.q).deep 0))) + 1 ≤ 4
    omega
  · show (decide (4 ≤ 1000000) && (true && ((ptD e.p).fits && ((scO e.c).fits && ((ptO e.q).fits && true))))) = true
    rw [f1, f2, f3]
    rfl
end My

namespace My
open PySem L2
def topS (i : Nat) : Stmt := PySem.Challenge.pw_hookcheck_k53_origin_of_a_log.main.body.getD i (.Pass ⟨0, 0, 0, 0⟩)
abbrev s_last_gift : Stmt := topS 2
abbrev s_start_of : Stmt := topS 3
abbrev s_origin_of : Stmt := topS 1
abbrev s_law_tape : Stmt := topS 5
abbrev s_law_draw : Stmt := topS 6
abbrev s_law_same : Stmt := topS 7
abbrev s_law_keys : Stmt := topS 8
abbrev s_law_origin : Stmt := topS 9
abbrev s_law_logged : Stmt := topS 10
abbrev s_law : Stmt := topS 11
structure Top (K : PySem.W.Frag) (w : World) (mg : Str → Option Value) : Prop where
  z_abs : mg "abs" = none
  z_bool : mg "bool" = none
  z_enumerate : mg "enumerate" = none
  z_int : mg "int" = none
  z_isinstance : mg "isinstance" = none
  z_len : mg "len" = none
  z_list : mg "list" = none
  z_max : mg "max" = none
  z_range : mg "range" = none
  z_reversed : mg "reversed" = none
  z_str : mg "str" = none
  z_tuple : mg "tuple" = none
section
variable {P : Program} {w : World} {K : PySem.W.Frag} {mg : Str → Option Value} {base : Heap}
/-! ### last_gift -/
theorem sc_last_gift : FnScope ["log", "path", "number", "entry", "word", "target", "_"] ["log", "path"] (defScope s_last_gift) := ⟨rfl, rfl, rfl, by decide +kernel, rfl, by decide +kernel, by decide +kernel⟩

/-- an entry of a log -/
structure Le where
  c : Int
  h : Str
  r : Int
  e : Ef
def leD (x : Le) : Dt := .tup [.int x.c, .str x.h, .int x.r, efD x.e]
/-- an entry that gives the path something -/
def giveB (p : List Str) (x : Le) : Bool := decide (x.e.p = p) && !decide (x.e.w = rmS)
/-- the last of the first n entries that gives something -/
def giveN (L : List Le) (p : List Str) : Nat → Option Nat
  | 0 => none
  | n + 1 => match L[n]? with
    | none => none
    | some x => if giveB p x = true then some n else giveN L p n
def nuV : Option Nat → V
  | none => .non
  | some k => .int (k : Int)
/-- what may stand in a log -/
structure LeOk (x : Le) : Prop where
  p : ∀ z ∈ x.e.p, SgT z
  l : x.e.p.length ≤ 1000
  q : ∀ q, x.e.q = some q → (∀ z ∈ q, SgT z) ∧ q.length ≤ 1000
  w : SgT x.e.w
theorem giveN_take {L : List Le} {p : List Str} : ∀ {n m : Nat}, n ≤ m → giveN (L.take m) p n = giveN L p n
  | 0, _, _ => rfl
  | n + 1, m, h => by
    rw [giveN, giveN, List.getElem?_take, if_pos (by omega), giveN_take (by omega)]
theorem eqv_pp (p q : List Str) : PyData.eqv (ptD p).py (ptD q).py = decide (p = q) := by
  show PyData.eqv (.tuple (Dt.pys (p.map .str))) (.tuple (Dt.pys (q.map .str))) = _
  rw [pys_map, pys_map, List.map_map, List.map_map]
  exact eqvs_strs p q
theorem lay_pp {p : List Str} (h : ∀ z ∈ p, SgT z) : (ptD p).lay = true := by
  show Dt.lays (p.map .str) = true
  exact lays_of fun d2 hd2 => by
    obtain ⟨z, hz, rfl⟩ := List.mem_map.mp hd2
    exact strOk_sg (h z hz)


def sp_last_gift (K : PySem.W.Frag) : Sp := fun vs H Q _ => ∃ (v x : V) (L : List Le) (p : List Str), vs = [v, x] ∧ DT K H v (.tup (L.map leD)) ∧ DT K H x (ptD p) ∧ (∀ y ∈ L, LeOk y) ∧ (∀ z ∈ p, SgT z) ∧ p.length ≤ 1000 ∧ L.length ≤ 100 ∧ ∀ H', Same H H' → Q (nuV (giveN L p L.length)) H'

theorem ok_last_gift {f : Addr} {fd : FuncData} (F : Fun K "last_gift" "last_gift" s_last_gift f fd) (T : Top K w mg) : FnOk P w K mg base CX0 1 f fd ["log", "path"] (sp_last_gift K) := by
  have sc := sc_last_gift
  refine F.ok sc (fun vs H Q E h => ?_) (fun cdv A outer s H vs Q E hr h => ?_)
  · obtain ⟨v, x, L, p, rfl, _⟩ := h
    rfl
  obtain ⟨v, x, L, p, rfl, hv, hx, ok, psg, lp, lL, q⟩ := h
  refine ⟨_, (pss_cons (ps_for PassesOwn.never rfl (pi_reversed (by rfl) T.z_reversed (pa_cons (pe_listEnum (K := K) rfl rfl (pa_cons (pv 0) pa_nil) (by rfl) T.z_list (by decide +kernel) (by rfl) T.z_enumerate) pa_nil)) (pg_tup rfl (pgs_cons (pg_name (i := 2) sc.nd rfl (Or.inl rfl)) (pgs_cons (pg_name (i := 3) sc.nd rfl (Or.inl rfl)) pgs_nil)))
      (pss_cons (ps_asg (pe_ix (kx_tup (K := K) rfl) (pv 3) pe_int (fun _ _ => rfl)) (pg_tup rfl (pgs_cons (pg_name (i := 4) sc.nd rfl (Or.inl rfl)) (pgs_cons (pg_name (i := 5) sc.nd rfl (Or.inl rfl)) (pgs_cons (pg_name (i := 6) sc.nd rfl (Or.inl rfl)) (pgs_cons (pg_name (i := 6) sc.nd rfl (Or.inl rfl)) pgs_nil))))))
      (pss_one (ps_if (PW.pt (pw_and (pt_cmpR (kop_eqD (K := K) rfl hr.units) (pv 5) (pv 1) (nomark _)) (pw_and1 (pt_cmpR op_ne (pv 4) pe_str (nomark _)))))
        (pss_one (ps_ret (pv 2)))
        pss_nil))))
    (pss_one (ps_ret pe_non))), ?_⟩

  obtain ⟨a, xs, rfl, hS, hts⟩ := dt_tup hv
  have lxs := hts.length
  rw [List.length_map] at lxs
  refine ⟨_, rfl, a, xs, rfl, hS, fun N H1 ts s1 hN eN lts hat => ?_⟩
  refine ⟨N, ts.map V.ref, rfl, SqL.of eN, ?_⟩
  have ll : (ts.map V.ref).length = ts.length := List.length_map _
  refine for_it (walk_rev (K := K) (a := N) (xs := ts.map V.ref)) (fun i σ H' => H' = H1 ∧ giveN L p (L.length - i) = giveN L p L.length ∧ ∃ v2 v3 v4 v5 v6, σ = [some (.ref a), some x, v2, v3, v4, v5, v6])
    ⟨rfl, rfl, _, _, _, _, _, rfl⟩ (fun i σ H' _ h => by rw [h.1]; exact SqL.of eN) ?_ ?_
  · rintro i y σ H2' H2 hi ⟨rfl, hg, v2, v3, v4, v5, v6, rfl⟩ ⟨rfl, hy⟩
    have hi2 : i < L.length := by omega
    rw [List.getElem?_map] at hy
    obtain ⟨tt, htt, rfl⟩ := Option.map_eq_some_iff.mp hy
    rw [ll, lts, lxs] at htt
    obtain ⟨z, hz, _, hT⟩ := hat _ _ htt
    obtain ⟨dd, ed, dz⟩ := hts.get' hz
    rw [List.getElem?_map] at ed
    obtain ⟨le, ele, rfl⟩ := Option.map_eq_some_iff.mp ed
    refine ⟨tt, _, rfl, SqT.of hT, rfl, _, _, rfl, _, _, rfl, rfl, ?_⟩
    obtain ⟨ea, exs, rfl, hE, hes⟩ := dt_tup (dz.same s1)
    cases hes with
    | cons g1 hes =>
    cases hes with
    | cons g2 hes =>
    cases hes with
    | cons g3 hes =>
    cases hes with
    | cons g4 hes =>
    cases hes
    cases g1; cases g2; cases g3
    obtain ⟨fa, fxs, rfl, hF, hfs⟩ := dt_tup g4
    cases hfs with
    | cons k1 hfs =>
    cases hfs with
    | cons k2 hfs =>
    cases hfs with
    | cons k3 hfs =>
    cases hfs with
    | cons k4 hfs =>
    cases hfs
    cases k1
    have lok := ok le (List.mem_of_getElem? ele)
    obtain ⟨n, hn⟩ : ∃ n, n = L.length - 1 - i := ⟨_, rfl⟩
    have ele : L[n]? = some le := by rw [hn]; exact ele
    rw [show L.length - i = n + 1 by omega, giveN, ele] at hg
    have en : ((ts.map V.ref).length - 1 - i : Nat) = n := by rw [ll, lts, lxs, hn]
    refine ⟨_, rfl, ea, _, 3, _, rfl, rfl, hE, rfl, fa, _, rfl, hF, rfl, _, _, rfl, _, _, rfl, _, _, rfl, _, _, rfl, rfl, ?_⟩
    have dp1 := deep_path le.e.p
    have dp2 := deep_path p
    refine ⟨_, rfl, _, rfl, _, _, DT.dp _ _ k2, DT.dp _ _ (hx.same s1), shaped_dt (lay_pp lok.p) (by omega), shaped_dt (lay_pp psg) (by omega), _, rfl, ?_⟩
    rw [eqv_pp]
    have hg : (if giveB p le = true then some n else giveN L p n) = giveN L p L.length := hg
    have nx : giveB p le ≠ true → giveN L p (L.length - (i + 1)) = giveN L p L.length := fun h => by
      rw [if_neg h] at hg
      rw [show L.length - (i + 1) = n by omega]
      exact hg
    by_cases ep : le.e.p = p
    · rw [decide_eq_true ep]
      refine iteT ⟨_, rfl, rfl, _, rfl, ?_⟩
      by_cases ew : le.e.w = rmS
      · have hb : giveB p le ≠ true := fun h => by
          unfold giveB at h
          rw [decide_eq_true ew, Bool.and_comm] at h
          cases h
        rw [decide_eq_true (show V.str le.e.w = V.str (Str.ofString "remove") from congrArg V.str ew)]
        exact iteF ⟨rfl, nx hb, _, _, _, _, _, rfl⟩
      · have hb : giveB p le = true := by
          unfold giveB
          rw [decide_eq_true ep, decide_eq_false ew]
          rfl
        rw [decide_eq_false (show ¬ V.str le.e.w = V.str (Str.ofString "remove") from fun h => ew (V.str.inj h))]
        rw [if_pos hb] at hg
        have := q H2 s1
        rw [← hg] at this
        refine iteT ⟨_, rfl, ?_⟩
        rw [← hn]
        exact this
    · rw [decide_eq_false ep]
      have hb : giveB p le ≠ true := fun h => by
        unfold giveB at h
        rw [decide_eq_false ep] at h
        cases h
      exact iteF (iteF ⟨rfl, nx hb, _, _, _, _, _, rfl⟩)
  · rintro σ H2 ⟨rfl, hg, v2, v3, v4, v5, v6, rfl⟩
    rw [ll, lts, lxs, Nat.sub_self] at hg
    have := q H2 s1
    rw [← hg] at this
    exact this
/-! ### start_of -/
theorem sc_start_of : FnScope ["log", "call", "rule", "entry"] ["log", "call", "rule"] (defScope s_start_of) := ⟨rfl, rfl, rfl, by decide +kernel, rfl, by decide +kernel, by decide +kernel⟩

def sameB (c r : Int) (x : Le) : Bool := decide (x.c = c ∧ x.r = r)
def firstF (L : List Le) (c r : Int) : Nat := L.findIdx (sameB c r)
def prF (x : Le) : Dt := .tup [.int x.c, .int x.r]
theorem eqv_pr (x : Le) (c r : Int) : PyData.eqv (prF x).py (Dt.tup [.int c, .int r]).py = sameB c r x := by
  show PyData.eqv (.tuple [.int x.c, .int x.r]) (.tuple [.int c, .int r]) = _
  by_cases h1 : x.c = c <;> by_cases h2 : x.r = r <;> simp [PyData.eqv, PyData.eqvAll, sameB, h1, h2]
theorem first_lt {L : List Le} {c r : Int} (h : ∃ y ∈ L, y.c = c ∧ y.r = r) : firstF L c r < L.length := by
  obtain ⟨y, hy, h1, h2⟩ := h
  exact List.findIdx_lt_length_of_exists ⟨y, hy, by simp [sameB, h1, h2]⟩


def sp_start_of (K : PySem.W.Frag) : Sp := fun vs H Q _ => ∃ (v : V) (c r : Int) (L : List Le), vs = [v, .int c, .int r] ∧ DT K H v (.tup (L.map leD)) ∧ (∃ y ∈ L, y.c = c ∧ y.r = r) ∧ L.length ≤ 100 ∧ ∀ H', Same H H' → Q (.int (firstF L c r : Int)) H'

theorem ok_start_of {f : Addr} {fd : FuncData} (F : Fun K "start_of" "start_of" s_start_of f fd) (T : Top K w mg) : FnOk P w K mg base CX0 1 f fd ["log", "call", "rule"] (sp_start_of K) := by
  have sc := sc_start_of
  refine F.ok sc (fun vs H Q E h => ?_) (fun cdv A outer s H vs Q E hr h => ?_)
  · obtain ⟨v, c, r, L, rfl, _⟩ := h
    rfl
  obtain ⟨v, c, r, L, rfl, hv, hex, lL, q⟩ := h
  refine ⟨_, (pss_one (ps_ret (pe_bm PySem.F.plainAttrs_list PySem.F.slot_list_index PySem.F.type_list_index (mt_indexD (room65 hr)) (pe_lc (own := [("entry", 3)]) (g := gName 3) (tt := tYes) rfl sc.nd (kpi_tup (K := K) rfl (pv 0)) (blkOk_by (N := ["log", "call", "rule", "entry"]) (sc := defScope s_start_of) (by decide +kernel)) (fun _ _ _ _ _ => pg_name (i := 3) sc.nd rfl (Or.inl rfl)) (fun _ _ _ _ _ => pts_nil) (fun _ _ _ _ _ => (pe_tup (pa_cons (pe_ix (kx_tup (K := K) rfl) (pv 3) pe_int (fun _ _ => rfl)) (pa_cons (pe_ix (kx_tup (K := K) rfl) (pv 3) pe_int (fun _ _ => rfl)) pa_nil))))) (pa_cons (pe_tup (pa_cons (pv 1) (pa_cons (pv 2) pa_nil))) pa_nil)))), ?_⟩

  obtain ⟨a, xs, rfl, hS, hts⟩ := dt_tup hv
  have lxs := hts.length
  rw [List.length_map] at lxs
  refine ⟨_, rfl, a, rfl, ⟨_, hS⟩, fun W hW => ?_⟩
  refine lc_acc (walk_tup (K := K) (a := a) (xs := xs)) (fun j acc H' => Same H H' ∧ DTs K H' acc ((L.take j).map prF)) ⟨same_new hW _, .nil⟩ (fun j acc H' _ _ h => h.1.seqT hS) ?_ ?_
  · rintro j acc y H1' H1 hj eW el ⟨s1, d1⟩ ⟨rfl, hy⟩
    obtain ⟨dd, ed, dz⟩ := hts.get' hy
    rw [List.getElem?_map] at ed
    obtain ⟨le, ele, rfl⟩ := Option.map_eq_some_iff.mp ed
    obtain ⟨hj2, ele2⟩ := List.getElem?_eq_some_iff.mp ele
    obtain ⟨ea, exs, rfl, hE, hes⟩ := dt_tup (dz.same s1)
    cases hes with
    | cons g1 hes =>
    cases hes with
    | cons g2 hes =>
    cases hes with
    | cons g3 hes =>
    cases hes with
    | cons g4 hes =>
    cases hes
    cases g1; cases g2; cases g3
    refine ⟨rfl, _, rfl, ea, _, 0, _, rfl, rfl, hE, rfl, _, rfl, ea, _, 2, _, rfl, rfl, hE, rfl, (by show 2 ≤ sizeLine; decide), fun o6 ho6 => ?_⟩
    have s6 := same_new ho6 (.tup [V.int le.c, V.int le.r])
    have eW6 := s6 _ _ eW
    refine acc_step eW6 el (by omega) ⟨(s1.trans s6).late hW, ?_⟩
    rw [List.take_succ_eq_append_getElem hj2, ele2, List.map_append]
    exact ((d1.same s6).append (.cons (.tup (SqT.of upd_same) (.cons (.int _) (.cons (.int _) .nil))) .nil)).lput eW6
  rintro acc H1 eW el ⟨s1, d1⟩
  rw [lxs, List.take_length] at d1
  refine ⟨.inl ⟨rfl, _, SqL.of eW⟩, _, rfl, _, rfl, (by show 2 ≤ sizeLine; decide), fun o ho => ?_⟩
  have s2 := same_new ho (.tup [V.int c, V.int r])
  have dy : DT K (upd H1 o (.tup [V.int c, V.int r])) (.ref o) (.tup [.int c, .int r]) := .tup (SqT.of upd_same) (.cons (.int _) (.cons (.int _) .nil))
  have hlt := first_lt hex
  have lay1 : ∀ x : Le, (prF x).lay = true := fun x => rfl
  have dep1 : ∀ x : Le, (prF x).deep ≤ 60 := fun x => by show max 1 (max 1 0) + 1 ≤ 60; decide
  have gt : ∀ (m : Nat) (z : PyData), (Dt.pys (L.map prF))[m]? = some z → ∃ x, L[m]? = some x ∧ z = (prF x).py := fun m z h => by
    rw [pys_map, List.map_map, List.getElem?_map] at h
    obtain ⟨x, hx, rfl⟩ := Option.map_eq_some_iff.mp h
    exact ⟨x, hx, rfl⟩
  refine ⟨W, .ref o, (Dt.tup [.int c, .int r]).py, Dt.pys (L.map prF), firstF L c r, (prF L[firstF L c r]).py, rfl, rfl, .lst (SqL.of (s2 _ _ eW)) (DTs.dps _ _ (d1.same s2)), DT.dp _ _ dy, shaped_dts (lays_of fun d hd => ?_) (deeps_le fun d hd => ?_), shaped_dt rfl (by show max 1 (max 1 0) + 1 ≤ 60; decide), ?_, ?_, fun m z hm hz => ?_, ?_⟩
  · obtain ⟨x, _, rfl⟩ := List.mem_map.mp hd
    exact lay1 x
  · obtain ⟨x, _, rfl⟩ := List.mem_map.mp hd
    exact dep1 x
  · rw [pys_map, List.map_map, List.getElem?_map, List.getElem?_eq_getElem hlt]
    rfl
  · rw [eqv_pr]
    exact List.findIdx_getElem (w := hlt)
  · obtain ⟨x, hx, rfl⟩ := gt m z hz
    obtain ⟨hm2, ex⟩ := List.getElem?_eq_some_iff.mp hx
    rw [eqv_pr]
    have := List.not_of_lt_findIdx (p := sameB c r) (xs := L) hm
    rw [← ex]
    simpa using this
  · exact q _ (s1.trans s2)
/-! ### origin_of -/
theorem sc_origin_of : FnScope ["log", "path", "current", "number", "call", "_", "rule", "effect"] ["log", "path"] (defScope s_origin_of) := ⟨rfl, rfl, rfl, by decide +kernel, rfl, by decide +kernel, by decide +kernel⟩

def copS : Str := Str.ofString "copy"
/-- where the content of a path comes from, by the first n entries -/
def origF (L : List Le) : Nat → Nat → List Str → Dt
  | 0, _, p => .tup [.str (Str.ofString "field"), ptD p]
  | m + 1, n, p => match giveN L p n with
    | none => .tup [.str (Str.ofString "field"), ptD p]
    | some k => match L[k]? with
      | none => .non
      | some x => if x.e.w = copS then origF L m (firstF L x.c x.r) (x.e.q.getD []) else .tup [.str (Str.ofString "literal"), .int x.c]
theorem giveN_some {L : List Le} {p : List Str} {k : Nat} : ∀ {n : Nat}, giveN L p n = some k → k < n ∧ ∃ x, L[k]? = some x ∧ giveB p x = true
  | 0, h => by cases h
  | n + 1, h => by
    rw [giveN] at h
    cases e : L[n]? with
    | none => rw [e] at h; cases h
    | some x =>
      rw [e] at h
      have h : (if giveB p x = true then some n else giveN L p n) = some k := h
      by_cases hb : giveB p x = true
      · rw [if_pos hb] at h
        cases h
        exact ⟨Nat.lt_succ_self _, x, e, hb⟩
      · rw [if_neg hb] at h
        obtain ⟨h1, h2⟩ := giveN_some h
        exact ⟨by omega, h2⟩
theorem first_le {L : List Le} {k : Nat} {x : Le} (h : L[k]? = some x) : firstF L x.c x.r ≤ k := by
  obtain ⟨hk, e⟩ := List.getElem?_eq_some_iff.mp h
  rcases Nat.lt_or_ge k (firstF L x.c x.r) with z | z
  · have := List.not_of_lt_findIdx (p := sameB x.c x.r) (xs := L) z
    rw [e] at this
    exact absurd (show sameB x.c x.r x = true by simp [sameB]) (by simpa using this)
  · exact z
theorem four {K : PySem.W.Frag} {H : Hp} {v : V} {d1 d2 d3 d4 : Dt} (h : DT K H v (.tup [d1, d2, d3, d4])) : ∃ a x1 x2 x3 x4, v = .ref a ∧ SqT K H a [x1, x2, x3, x4] ∧ DT K H x1 d1 ∧ DT K H x2 d2 ∧ DT K H x3 d3 ∧ DT K H x4 d4 := by
  obtain ⟨a, xs, rfl, hS, hts⟩ := dt_tup h
  cases hts with
  | cons k1 hts =>
  cases hts with
  | cons k2 hts =>
  cases hts with
  | cons k3 hts =>
  cases hts with
  | cons k4 hts =>
  cases hts
  exact ⟨a, _, _, _, _, rfl, hS, k1, k2, k3, k4⟩
theorem dts_take {K : PySem.W.Frag} {H : Hp} {vs : List V} {ds : List Dt} (h : DTs K H vs ds) (n : Nat) : DTs K H (vs.take n) (ds.take n) := by
  induction ds generalizing vs n with
  | nil => cases h; rw [List.take_nil, List.take_nil]; exact .nil
  | cons d ds ih =>
    cases h with
    | cons h1 h2 =>
      cases n with
      | zero => exact .nil
      | succ n => exact .cons h1 (ih h2 n)


def sp_origin_of (K : PySem.W.Frag) : Sp := fun vs H Q _ => ∃ (v x : V) (L : List Le) (p : List Str), vs = [v, x] ∧ DT K H v (.tup (L.map leD)) ∧ DT K H x (ptD p) ∧ (∀ y ∈ L, LeOk y ∧ (y.e.w = copS → y.e.q ≠ none)) ∧ (∀ z ∈ p, SgT z) ∧ p.length ≤ 1000 ∧ L.length ≤ 100 ∧ ∀ u H', Same H H' → DT K H' u (origF L (L.length + 1) L.length p) → Q u H'

theorem ok_origin_of {f : Addr} {fd : FuncData} (F : Fun K "origin_of" "origin_of" s_origin_of f fd) (T : Top K w mg) {a_last_gift : Addr} {d_last_gift : FuncData} (C_last_gift : Cal P w K mg base "last_gift" 1 ["log", "path"] sp_last_gift a_last_gift d_last_gift) {a_start_of : Addr} {d_start_of : FuncData} (C_start_of : Cal P w K mg base "start_of" 1 ["log", "call", "rule"] sp_start_of a_start_of d_start_of) : FnOk P w K mg base CX0 2 f fd ["log", "path"] (sp_origin_of K) := by
  have sc := sc_origin_of
  refine F.ok sc (fun vs H Q E h => ?_) (fun cdv A outer s H vs Q E hr h => ?_)
  · obtain ⟨v, x, L, p, rfl, _⟩ := h
    rfl
  obtain ⟨v, x, L, p, rfl, hv, hx, ok, psg, lp, lL, q⟩ := h
  refine ⟨_, (pss_cons (ps_set (i := 2) sc.nd rfl (Or.inl rfl) (pv 1))
    (pss_cons (ps_set (i := 3) sc.nd rfl (Or.inl rfl) (pe_call C_last_gift.ok (hr.mono (by omega)) (by rfl) C_last_gift.m C_last_gift.kp C_last_gift.b .nil pass0 (pa_cons (pv 0) (pa_cons (pv 2) pa_nil))))
    (pss_cons (ps_while PassesOwn.never (pt_cmpR op_notN (pv 3) pe_non (nomark _))
      (pss_cons (ps_asg (pe_ix (kx_tup (K := K) rfl) (pv 0) (pv 3) (fun _ _ => rfl)) (pg_tup rfl (pgs_cons (pg_name (i := 4) sc.nd rfl (Or.inl rfl)) (pgs_cons (pg_name (i := 5) sc.nd rfl (Or.inl rfl)) (pgs_cons (pg_name (i := 6) sc.nd rfl (Or.inl rfl)) (pgs_cons (pg_name (i := 7) sc.nd rfl (Or.inl rfl)) pgs_nil))))))
      (pss_cons (ps_if (pt_cmpR op_ne (pe_ix (kx_tup (K := K) rfl) (pv 7) pe_int (fun _ _ => rfl)) pe_str (nomark _))
        (pss_one (ps_ret (pe_tup (pa_cons pe_str (pa_cons (pv 4) pa_nil)))))
        pss_nil)
      (pss_cons (ps_set (i := 2) sc.nd rfl (Or.inl rfl) (pe_ix (kx_tup (K := K) rfl) (pv 7) pe_int (fun _ _ => rfl)))
      (pss_one (ps_set (i := 3) sc.nd rfl (Or.inl rfl) (pe_call C_last_gift.ok (hr.mono (by omega)) (by rfl) C_last_gift.m C_last_gift.kp C_last_gift.b .nil pass0 (pa_cons (pe_slice (ksl_tup (K := K) rfl) (pv 0) po_none (po_some (pe_call C_start_of.ok (hr.mono (by omega)) (by rfl) C_start_of.m C_start_of.kp C_start_of.b .nil pass0 (pa_cons (pv 0) (pa_cons (pv 4) (pa_cons (pv 6) pa_nil)))))) (pa_cons (pv 2) pa_nil)))))))))
    (pss_one (ps_ret (pe_tup (pa_cons pe_str (pa_cons (pv 2) pa_nil)))))))), ?_⟩

  obtain ⟨a, xs, rfl, hS, hts⟩ := dt_tup hv
  have lxs := hts.length
  rw [List.length_map] at lxs
  have okl : ∀ y ∈ L, LeOk y := fun y hy => (ok y hy).1
  refine ⟨_, rfl, ?_⟩
  refine ⟨_, rfl, _, rfl, .ref a, x, L, p, rfl, hv, hx, okl, psg, lp, lL, fun H1 s1 => ?_⟩
  obtain ⟨tot, htot⟩ : ∃ tot, tot = origF L (L.length + 1) L.length p := ⟨_, rfl⟩
  rw [← htot] at q
  refine ⟨fun m σ H' => Same H H' ∧ ∃ (n : Nat) (cv : V) (p1 : List Str) (v4 v5 v6 v7 : Option V), DT K H' cv (ptD p1) ∧ (∀ z ∈ p1, SgT z) ∧ p1.length ≤ 1000 ∧ n ≤ L.length ∧ n < m ∧ origF L m n p1 = tot ∧ σ = [some (.ref a), some x, some cv, some (nuV (giveN L p1 n)), v4, v5, v6, v7],
    ⟨L.length + 1, s1, L.length, x, p, _, _, _, _, hx.same s1, psg, lp, Nat.le_refl _, Nat.lt_succ_self _, htot.symm, rfl⟩, ?_⟩
  rintro m σ H2 ⟨s2, n, cv, p1, v4, v5, v6, v7, hcv, psg1, lp1, hn, hm, ho, rfl⟩
  obtain ⟨m, rfl⟩ : ∃ m', m = m' + 1 := ⟨m - 1, by omega⟩
  rw [origF] at ho
  refine ⟨_, rfl, rfl, ?_⟩
  cases eg : giveN L p1 n with
  | none =>
    rw [eg] at ho
    have ho : (Dt.tup [.str (Str.ofString "field"), ptD p1]) = tot := ho
    refine ⟨_, rfl, iteF ?_⟩
    refine ⟨_, rfl, (by show 2 ≤ sizeLine; decide), fun o ho2 => ?_⟩
    refine q _ _ (s2.trans (same_new ho2 _)) ?_
    rw [← ho]
    exact .tup (SqT.of upd_same) (.cons (.str _) (.cons (hcv.same (same_new ho2 _)) .nil))
  | some k =>
    obtain ⟨hk, le, ele, hgb⟩ := giveN_some eg
    rw [eg] at ho
    have ho : (match L[k]? with
      | none => Dt.non
      | some x => if x.e.w = copS then origF L m (firstF L x.c x.r) (x.e.q.getD []) else .tup [.str (Str.ofString "literal"), .int x.c]) = tot := ho
    rw [ele] at ho
    have ho : (if le.e.w = copS then origF L m (firstF L le.c le.r) (le.e.q.getD []) else .tup [.str (Str.ofString "literal"), .int le.c]) = tot := ho
    have hkl : k < L.length := by omega
    have hxk : xs[k]? = some xs[k] := List.getElem?_eq_getElem (by omega)
    obtain ⟨dd, ed, dz⟩ := hts.get' hxk
    rw [List.getElem?_map, ele] at ed
    cases ed
    obtain ⟨ea, x1, x2, x3, x4, exk, hE, g1, g2, g3, g4⟩ := four (dz.same s2)
    cases g1; cases g2; cases g3
    obtain ⟨fa, y1, y2, y3, y4, rfl, hF, k1, k2, k3, k4⟩ := four g4
    cases k1
    rw [exk] at hxk
    refine ⟨_, rfl, iteT ?_⟩
    refine ⟨_, fun σ' H' h => ⟨m, Nat.lt_succ_self m, h⟩, ?_⟩
    refine ⟨_, rfl, _, rfl, a, xs, _, _, rfl, rfl, s2.seqT hS, at_any (j := k) rfl hxk, ea, _, rfl, hE, rfl, _, _, rfl, _, _, rfl, _, _, rfl, _, _, rfl, rfl, ?_⟩
    refine ⟨_, rfl, fa, _, 0, _, rfl, rfl, hF, rfl, rfl, _, rfl, ?_⟩
    by_cases ec : le.e.w = copS
    · rw [if_pos ec] at ho
      rw [decide_eq_true (show V.str le.e.w = V.str (Str.ofString "copy") from congrArg V.str ec)]
      refine iteF ?_
      obtain ⟨lok, lq⟩ := ok le (List.mem_of_getElem? ele)
      obtain ⟨qq, eqq⟩ : ∃ qq, le.e.q = some qq := by
        cases e : le.e.q with
        | none => exact absurd e (lq ec)
        | some qq => exact ⟨qq, rfl⟩
      rw [eqq] at ho k4
      obtain ⟨qsg, lqq⟩ := lok.q qq eqq
      have k4 : DT K H2 y4 (ptD qq) := k4
      have hfl := first_le ele
      refine ⟨_, rfl, fa, _, 3, _, rfl, rfl, hF, rfl, ?_⟩
      refine ⟨_, rfl, _, rfl, _, rfl, _, rfl, .ref a, le.c, le.r, L, rfl, hv.same s2, ⟨le, List.mem_of_getElem? ele, rfl, rfl⟩, lL, fun H3 s3 => ?_⟩
      obtain ⟨n2, hn2⟩ : ∃ n2, n2 = firstF L le.c le.r := ⟨_, rfl⟩
      rw [← hn2] at hfl ho ⊢
      have s23 := s2.trans s3
      refine ⟨_, rfl, slA_of (s23.seqT hS) fun b H4 s4 hb => ?_⟩
      rw [cutV_pre (by omega), Int.toNat_natCast] at hb
      have s24 := s23.trans s4
      have dtk : DT K H4 (.ref b) (.tup ((L.take n2).map leD)) := .tup hb (by rw [List.map_take]; exact dts_take (hts.same s24) n2)
      have e5 : giveN (L.take n2) qq (L.take n2).length = giveN L qq n2 := by
        rw [List.length_take, Nat.min_eq_left (by omega), giveN_take (Nat.le_refl _)]
      refine ⟨_, rfl, .ref b, y4, L.take n2, qq, rfl, dtk, (k4.same s3).same s4, (fun y hy => okl y (List.mem_of_mem_take hy)), qsg, lqq, (by rw [List.length_take]; omega), fun H5 s5 => ?_⟩
      rw [e5]
      exact ⟨s24.trans s5, n2, y4, qq, _, _, _, _, ((k4.same s3).same s4).same s5, qsg, lqq, by omega, by omega, ho, rfl⟩
    · rw [if_neg ec] at ho
      rw [decide_eq_false (show ¬ V.str le.e.w = V.str (Str.ofString "copy") from fun h => ec (V.str.inj h))]
      refine iteT ?_
      refine ⟨_, rfl, (by show 2 ≤ sizeLine; decide), fun o ho2 => ?_⟩
      refine q _ _ (s2.trans (same_new ho2 _)) ?_
      rw [← ho]
      exact .tup (SqT.of upd_same) (.cons (.str _) (.cons (.int _) .nil))
/-! ### _law_tape -/
theorem sc_law_tape : FnScope ["script", "mixed", "cell"] ["script"] (defScope s_law_tape) := ⟨rfl, rfl, rfl, by decide +kernel, rfl, by decide +kernel, by decide +kernel⟩



def sp_law_tape (K : PySem.W.Frag) : Sp := fun vs H Q _ => ∃ (a : Addr) (ns : List Int), vs = [.ref a] ∧ SqL K H a (ns.map V.int) ∧ ns.length ≤ 63 ∧ ∀ t H', Tape H' t → H t = none → Same H H' → Q (.ref t) H'

theorem ok_law_tape {f : Addr} {fd : FuncData} (F : Fun K "_law_tape" "_law_tape" s_law_tape f fd) (T : Top K w mg) : FnOk P w K mg base CX0 1 f fd ["script"] (sp_law_tape K) := by
  have sc := sc_law_tape
  refine F.ok sc (fun vs H Q E h => ?_) (fun cdv A outer s H vs Q E hr h => ?_)
  · obtain ⟨a, ns, rfl, _⟩ := h
    rfl
  obtain ⟨a, ns, rfl, hS, hn, q⟩ := h
  refine ⟨_, (pss_cons (ps_set (i := 1) sc.nd rfl (Or.inl rfl) pe_int)
    (pss_cons (ps_for PassesOwn.never rfl (kpi_list (K := K) rfl (pv 0)) (pg_name (i := 2) sc.nd rfl (Or.inl rfl))
      (pss_one (ps_set (i := 1) sc.nd rfl (Or.inl rfl) (pe_op op_modN (pe_callTy call_int1 (by rfl) T.z_int (by decide +kernel) (pa_cons (pe_op op_add (pe_op op_mul (pv 1) pe_int) (pe_callB call_abs (by rfl) T.z_abs (by decide +kernel) (pa_cons (pe_callTy call_int1 (by rfl) T.z_int (by decide +kernel) (pa_cons (pv 2) pa_nil)) pa_nil))) pa_nil)) pe_int))))
    (pss_one (ps_ret (pe_lst (pa_cons (pe_callTy (kc_list (K := K) rfl) (by rfl) T.z_list (by decide +kernel) (pa_cons (pv 0) pa_nil)) (pa_cons pe_int (pa_cons pe_int (pa_cons (pv 1) pa_nil))))))))), ?_⟩

  have hlen : (ns.map V.int).length = ns.length := List.length_map _
  refine ⟨_, rfl, a, rfl, ⟨_, hS⟩, for_list (K := K) (a := a) (xs := ns.map V.int) (fun i σ H' => H' = H ∧ ∃ (z : Int) (v : Option V), σ = [some (.ref a), some (.int z), v]) ⟨rfl, 7, none, rfl⟩ (fun i σ H' _ ⟨e, _⟩ => e ▸ hS) ?_ ?_⟩
  · rintro i y σ H' hi ⟨rfl, z, v, rfl⟩
    obtain ⟨u, rfl, _⟩ := int_get hi
    refine ⟨_, rfl, _, _, rfl, rfl, .inr ⟨by decide, by decide⟩, ?_⟩
    refine ⟨_, rfl, .inl ⟨_, rfl, _, rfl, ?_⟩⟩
    refine ⟨_, _, rfl, rfl, .inl ⟨_, rfl, _, _, rfl, rfl, (by show (2147483647 : Int) ≠ 0; decide), rfl, _, _, rfl⟩⟩
  · rintro σ H' ⟨rfl, z, v, rfl⟩
    refine ⟨_, rfl, a, _, rfl, .inl hS, fun l hl => ⟨_, rfl, ?_⟩⟩
    refine ⟨(by show 4 ≤ sizeLine; decide), fun t ht => ?_⟩
    have e1 : l ≠ t := ne_of_none upd_same ht
    refine q t _ ⟨l, ns, 0, 0, z, upd_same, by rw [upd_ne e1]; exact upd_same, e1, by omega, hn⟩ ?_ (Same.late (same_new hl _) (by rw [upd_ne e1.symm] at ht; exact ht))
    rw [upd_ne e1.symm] at ht
    exact ht
/-! ### _law_draw -/
theorem sc_law_draw : FnScope ["tape", "many", "number", "place"] ["tape", "many"] (defScope s_law_draw) := ⟨rfl, rfl, rfl, by decide +kernel, rfl, by decide +kernel, by decide +kernel⟩

def sp_law_draw (K : PySem.W.Frag) : Sp := fun vs H Q _ => ∃ (t : Addr) (m : Int), vs = [.ref t, .int m] ∧ Tape H t ∧ -(2 ^ 62) < m ∧ m < 2 ^ 62 ∧ ∀ r H', 0 ≤ r → (r < m ∨ r = 0) → Go t H H' → Q (.int r) H'

theorem ok_law_draw {f : Addr} {fd : FuncData} (F : Fun K "_law_draw" "_law_draw" s_law_draw f fd) (T : Top K w mg) : FnOk P w K mg base CX0 1 f fd ["tape", "many"] (sp_law_draw K) := by
  have sc := sc_law_draw
  refine F.ok sc (fun vs H Q E h => ?_) (fun cdv A outer s H vs Q E hr h => ?_)
  · obtain ⟨t, m, rfl, _⟩ := h
    rfl
  obtain ⟨t, m, rfl, hT, hm0, hm, q⟩ := h
  refine ⟨_, (C8.pss_cut (ps_if (pt_cmpR op_eq (pe_ix (kx_list (K := K) rfl) (pv 0) pe_int (fun _ _ => rfl)) pe_int (nomark _))
      (pss_cons (ps_set (i := 3) sc.nd rfl (Or.inl rfl) (pe_ix (kx_list (K := K) rfl) (pv 0) pe_int (fun _ _ => rfl)))
      (pss_cons (ps_set (i := 2) sc.nd rfl (Or.inl rfl) pe_int)
      (C8.pss_cut (ps_if (pt_cmpR op_lt (pv 3) (pe_callB (kc_lenS (K := K) rfl) (by rfl) T.z_len (by decide +kernel) (pa_cons (pe_ix (kx_list (K := K) rfl) (pv 0) pe_int (fun _ _ => rfl)) pa_nil)) (nomark _))
        (pss_one (ps_set (i := 2) sc.nd rfl (Or.inl rfl) (pe_callB call_abs (by rfl) T.z_abs (by decide +kernel) (pa_cons (pe_callTy call_int1 (by rfl) T.z_int (by decide +kernel) (pa_cons (pe_ix (kx_list (K := K) rfl) (pe_ix (kx_list (K := K) rfl) (pv 0) pe_int (fun _ _ => rfl)) (pv 3) (fun _ _ => rfl)) pa_nil)) pa_nil))))
        (pss_cons (ps_asg (pe_op op_modN (pe_callTy call_int1 (by rfl) T.z_int (by decide +kernel) (pa_cons (pe_op op_add (pe_op op_add (pe_op op_mul (pe_ix (kx_list (K := K) rfl) (pv 0) pe_int (fun _ _ => rfl)) pe_int) (pv 3)) pe_int) pa_nil)) pe_int) (pg_sub (pv 0) pe_int set_list))
        (pss_one (ps_set (i := 2) sc.nd rfl (Or.inl rfl) (pe_ix (kx_list (K := K) rfl) (pv 0) pe_int (fun _ _ => rfl))))))
      (pss_cons (ps_asg (pe_op op_add (pv 3) pe_int) (pg_sub (pv 0) pe_int set_list))
      (pss_cons (ps_if (pt_cmpR op_lt (pv 2) (pe_op op_pow pe_int pe_int) (nomark _))
        (pss_cons (ps_set (i := 2) sc.nd rfl (Or.inl rfl) (pe_op op_modN (pe_callTy call_int1 (by rfl) T.z_int (by decide +kernel) (pa_cons (pe_op op_add (pe_op op_add (pe_op op_mul (pv 2) pe_int) (pe_op op_mul (pv 3) pe_int)) pe_int) pa_nil)) pe_int))
        (pss_cons (ps_set (i := 2) sc.nd rfl (Or.inl rfl) (pe_op op_modN (pe_callTy call_int1 (by rfl) T.z_int (by decide +kernel) (pa_cons (pe_op op_mul (pv 2) pe_int) pa_nil)) pe_int))
        (pss_one (ps_ret (pe_op op_modN (pe_callTy call_int1 (by rfl) T.z_int (by decide +kernel) (pa_cons (pv 2) pa_nil)) (pe_callB (call_max2 rfl) (by rfl) T.z_max (by decide +kernel) (pa_cons (pv 1) (pa_cons pe_int pa_nil))))))))
        pss_nil)
      (pss_one (ps_asg (pv 2) (pg_sub (pv 0) pe_int set_list))))))))
      pss_nil)
    (pss_cons (ps_set (i := 2) sc.nd rfl (Or.inl rfl) (pe_ix (kx_list (K := K) rfl) (pv 0) pe_int (fun _ _ => rfl)))
    (pss_cons (ps_asg (pe_op op_fdivW (pv 2) (pe_callB (call_max2 rfl) (by rfl) T.z_max (by decide +kernel) (pa_cons (pv 1) (pa_cons pe_int pa_nil)))) (pg_sub (pv 0) pe_int set_list))
    (pss_one (ps_ret (pe_op op_modN (pe_callTy call_int1 (by rfl) T.z_int (by decide +kernel) (pa_cons (pv 2) pa_nil)) (pe_callB (call_max2 rfl) (by rfl) T.z_max (by decide +kernel) (pa_cons (pv 1) (pa_cons pe_int pa_nil))))))))), ?_⟩

  obtain ⟨l, ns, a, b, c, h1, h2, h3, h4, h5⟩ := hT.ex
  have hlen : (ns.map V.int).length = ns.length := List.length_map _
  have hmax : (if (1 : Int) > m then 1 else m) ≠ 0 := by split <;> omega
  have last : ∀ (n : Int) (H' : Hp), Go t H H' → Q (.int (n.fmod (if (1 : Int) > m then 1 else m))) H' := fun n H' g => by
    have e := fmod_in (a := n) (m := if (1 : Int) > m then 1 else m) (by split <;> omega)
    refine q _ _ e.1 ?_ g
    have e2 := e.2
    split at e2 <;> omega
  refine ⟨fun σ H' => Go t H H' ∧ ∃ v1 v2, σ = [some (.ref t), some (.int m), v1, v2], ?_, ?_⟩
  · refine ⟨_, rfl, t, _, 2, _, rfl, rfl, SqL.of h1, rfl, rfl, _, rfl, ite2 (fun c1 => ?_) (fun c1 => ⟨Go.refl hT, _, _, rfl⟩)⟩
    refine ⟨_, rfl, t, _, 1, _, rfl, rfl, SqL.of h1, rfl, ?_⟩
    refine ⟨fun σ H' => (∃ c', H' t = some (.lst [.ref l, .int a, .int b, .int c']) ∧ Sm t H H') ∧ ∃ n : Int, σ = [some (.ref t), some (.int m), some (.int n), some (.int a)], ?_, ?_⟩
    · refine ⟨_, rfl, _, rfl, t, _, 0, _, rfl, rfl, SqL.of h1, rfl, l, _, rfl, .inl (SqL.of h2), _, _, rfl, rfl, _, rfl, ite2 (fun c2 => ?_) (fun c2 => ?_)⟩
      · have c2' : a < ((ns.map V.int).length : Int) := of_decide_eq_true c2
        rw [hlen] at c2'
        have hx : (ns.map V.int)[a.toNat]? = some (.int ns[a.toNat]) := by
          rw [List.getElem?_map, List.getElem?_eq_getElem (by omega)]; rfl
        refine ⟨_, rfl, t, _, 0, _, rfl, rfl, SqL.of h1, rfl, _, rfl, l, _, a, _, rfl, rfl, SqL.of h2, at_of (by omega) hx, ?_⟩
        exact .inl ⟨_, rfl, _, rfl, ⟨c, h1, Sm.refl _ _⟩, _, rfl⟩
      · refine ⟨_, rfl, t, _, 3, _, rfl, rfl, SqL.of h1, rfl, ?_⟩
        refine ⟨_, _, rfl, rfl, .inr ⟨by decide, by decide⟩, _, rfl, _, _, rfl, rfl, _, _, rfl, rfl, .inl ⟨_, rfl, ?_⟩⟩
        refine ⟨_, _, rfl, rfl, (by show (2147483647 : Int) ≠ 0; decide), _, rfl, t, _, 3, 3, rfl, rfl, h1, rfl, ?_⟩
        refine ⟨_, rfl, t, _, 3, _, rfl, rfl, SqL.of upd_same, rfl, ⟨_, upd_same, Sm.put⟩, _, rfl⟩
    · rintro σ H1 ⟨⟨c', e1, s1⟩, n, rfl⟩
      refine ⟨_, rfl, _, _, rfl, rfl, _, rfl, t, _, 1, 1, rfl, rfl, e1, rfl, ?_⟩
      have g1 : Go t H (upd H1 t (.lst [.ref l, .int (a + 1), .int b, .int c'])) := Go.put h1 s1 (s1 _ _ h3 h2) h3 (by omega) h5
      refine ⟨_, rfl, _, _, rfl, rfl, ⟨by decide, by decide, by decide⟩, _, _, rfl, rfl, _, rfl, ite2 (fun c2 => ?_) (fun c2 => ?_)⟩
      · refine ⟨_, rfl, _, _, rfl, rfl, .inr ⟨by decide, by decide⟩, _, rfl, _, _, rfl, rfl, .inr ⟨by decide, by decide⟩, _, _, rfl, rfl, _, _, rfl, rfl, .inl ⟨_, rfl, ?_⟩⟩
        refine ⟨_, _, rfl, rfl, (by show (2147483647 : Int) ≠ 0; decide), _, rfl, _, _, rfl, rfl, .inr ⟨by decide, by decide⟩, .inl ⟨_, rfl, ?_⟩⟩
        refine ⟨_, _, rfl, rfl, (by show (2147483629 : Int) ≠ 0; decide), _, rfl, .inl ⟨_, rfl, _, rfl, _, _, rfl, _, _, rfl, rfl, hmax, ?_⟩⟩
        exact last _ _ g1
      · refine ⟨_, rfl, _, rfl, t, _, 2, 2, rfl, rfl, upd_same, rfl, ?_⟩
        rw [upd_upd]
        exact ⟨Go.put h1 s1 (s1 _ _ h3 h2) h3 (by omega) h5, _, _, rfl⟩
  · rintro σ H1 ⟨g0, v1, v2, rfl⟩
    obtain ⟨l', ns', a', b', c', k1, k2, k3, k4, k5⟩ := g0.tp.ex
    refine ⟨_, rfl, t, _, 2, _, rfl, rfl, SqL.of k1, rfl, _, rfl, _, rfl, _, _, rfl, _, _, rfl, rfl, ?_, ?_⟩
    · exact wide_div (b := 63) (by split <;> omega) (by split <;> omega) (by decide) (by decide)
    refine ⟨_, rfl, t, _, 2, 2, rfl, rfl, k1, rfl, ?_⟩
    refine ⟨_, rfl, .inl ⟨_, rfl, _, rfl, _, _, rfl, _, _, rfl, rfl, hmax, ?_⟩⟩
    exact last _ _ (g0.trans (Go.put k1 (Sm.refl _ _) k2 k3 k4 k5))
/-! ### _law_same -/
theorem sc_law_same : FnScope ["told", "due", "k"] ["told", "due"] (defScope s_law_same) := ⟨rfl, rfl, rfl, by decide +kernel, rfl, by decide +kernel, by decide +kernel⟩

theorem kit_tuple {K : PySem.W.Frag} {d : Dt} : PySem.W.kitOne K (.type d.name) (.type "tuple") = some (match d with | .tup _ => true | _ => false) := by
  cases d with
  | non => exact kit_ty (a := "NoneType") (b := "tuple") (r := false) (by decide +kernel)
  | bl b => exact kit_ty (a := "bool") (b := "tuple") (r := false) (by decide +kernel)
  | int i => exact kit_ty (a := "int") (b := "tuple") (r := false) (by decide +kernel)
  | str s => exact kit_ty (a := "str") (b := "tuple") (r := false) (by decide +kernel)
  | tup xs => exact kit_ty (a := "tuple") (b := "tuple") (r := true) (by decide +kernel)
theorem kit_bool {K : PySem.W.Frag} {d : Dt} : PySem.W.kitOne K (.type d.name) (.type "bool") = some (match d with | .bl _ => true | _ => false) := by
  cases d with
  | non => exact kit_ty (a := "NoneType") (b := "bool") (r := false) (by decide +kernel)
  | bl b => exact kit_ty (a := "bool") (b := "bool") (r := true) (by decide +kernel)
  | int i => exact kit_ty (a := "int") (b := "bool") (r := false) (by decide +kernel)
  | str s => exact kit_ty (a := "str") (b := "bool") (r := false) (by decide +kernel)
  | tup xs => exact kit_ty (a := "tuple") (b := "bool") (r := false) (by decide +kernel)
theorem kit_str {K : PySem.W.Frag} {d : Dt} : PySem.W.kitOne K (.type d.name) (.type "str") = some (match d with | .str _ => true | _ => false) := by
  cases d with
  | non => exact kit_ty (a := "NoneType") (b := "str") (r := false) (by decide +kernel)
  | bl b => exact kit_ty (a := "bool") (b := "str") (r := false) (by decide +kernel)
  | int i => exact kit_ty (a := "int") (b := "str") (r := false) (by decide +kernel)
  | str s => exact kit_ty (a := "str") (b := "str") (r := true) (by decide +kernel)
  | tup xs => exact kit_ty (a := "tuple") (b := "str") (r := false) (by decide +kernel)
theorem kit_int {K : PySem.W.Frag} {d : Dt} : PySem.W.kitOne K (.type d.name) (.type "int") = some (match d with | .int _ => true | .bl _ => true | _ => false) := by
  cases d with
  | non => exact kit_ty (a := "NoneType") (b := "int") (r := false) (by decide +kernel)
  | bl b => exact kit_ty (a := "bool") (b := "int") (r := true) (by decide +kernel)
  | int i => exact kit_ty (a := "int") (b := "int") (r := true) (by decide +kernel)
  | str s => exact kit_ty (a := "str") (b := "int") (r := false) (by decide +kernel)
  | tup xs => exact kit_ty (a := "tuple") (b := "int") (r := false) (by decide +kernel)


def spSame (n : Nat) (K : PySem.W.Frag) : Sp := fun vs H Q _ => ∃ (x y : V) (d : Dt), vs = [x, y] ∧ DT K H x d ∧ DT K H y d ∧ d.deep ≤ n ∧ d.fits = true ∧ ∀ H', Same H H' → Q (.bl true) H'
abbrev sp_law_same : PySem.W.Frag → Sp := spSame 40


theorem ok_law_same_n {n : Nat} {f : Addr} {fd : FuncData} (F : Fun K "_law_same" "_law_same" s_law_same f fd) (T : Top K w mg) (C_law_same : Cal P w K mg base "_law_same" n ["told", "due"] (spSame n) f fd) : FnOk P w K mg base CX0 (n + 1) f fd ["told", "due"] (spSame (n + 1) K) := by
  have sc := sc_law_same
  refine F.ok sc (fun vs H Q E h => ?_) (fun cdv A outer s H vs Q E hr h => ?_)
  · obtain ⟨x, y, d, rfl, _⟩ := h
    rfl
  obtain ⟨x, y, d, rfl, hx, hy, hd, hf, q⟩ := h
  refine ⟨_, (pss_cons (ps_if (pt_cmpR op_isN (pv 1) pe_non (nomark _))
      (pss_one (ps_ret (pe_cmpR op_isN (pv 0) pe_non (nomark _))))
      pss_nil)
    (pss_cons (ps_if (pt_val (pe_callB (kc_isi (K := K) rfl) (by rfl) T.z_isinstance (by decide +kernel) (pa_cons (pv 1) (pa_cons (pe_bltn (v := .ty "tuple") (by rfl) T.z_tuple (by decide +kernel) rfl) pa_nil))))
      (pss_cons (ps_if (PW.pt (pw_or (pt_not (pt_val (pe_callB (kc_isi (K := K) rfl) (by rfl) T.z_isinstance (by decide +kernel) (pa_cons (pv 0) (pa_cons (pe_bltn (v := .ty "tuple") (by rfl) T.z_tuple (by decide +kernel) rfl) pa_nil))))) (pw_or1 (pt_cmpR op_ne (pe_callB (kc_len (K := K) rfl) (by rfl) T.z_len (by decide +kernel) (pa_cons (pv 0) pa_nil)) (pe_callB (kc_len (K := K) rfl) (by rfl) T.z_len (by decide +kernel) (pa_cons (pv 1) pa_nil)) (nomark _)))))
        (pss_one (ps_ret pe_bl))
        pss_nil)
      (pss_cons (ps_for PassesOwn.never rfl (pi_range1 (by rfl) T.z_range (pa_cons (pe_callB (kc_len (K := K) rfl) (by rfl) T.z_len (by decide +kernel) (pa_cons (pv 1) pa_nil)) pa_nil)) (pg_name (i := 2) sc.nd rfl (Or.inl rfl))
        (pss_one (ps_if (pt_not (pt_val (pe_call C_law_same.ok hr (by rfl) C_law_same.m C_law_same.kp C_law_same.b .nil pass0 (pa_cons (pe_ix (kx_seq (K := K) rfl) (pv 0) (pv 2) (fun _ _ => rfl)) (pa_cons (pe_ix (kx_seq (K := K) rfl) (pv 1) (pv 2) (fun _ _ => rfl)) pa_nil)))))
          (pss_one (ps_ret pe_bl))
          pss_nil)))
      (pss_one (ps_ret pe_bl))))
      pss_nil)
    (pss_cons (ps_if (pt_val (pe_callB (kc_isi (K := K) rfl) (by rfl) T.z_isinstance (by decide +kernel) (pa_cons (pv 1) (pa_cons (pe_bltn (v := .ty "str") (by rfl) T.z_str (by decide +kernel) rfl) pa_nil))))
      (pss_one (ps_ret (pe_and (pe_callB (kc_isi (K := K) rfl) (by rfl) T.z_isinstance (by decide +kernel) (pa_cons (pv 0) (pa_cons (pe_bltn (v := .ty "str") (by rfl) T.z_str (by decide +kernel) rfl) pa_nil))) (pe_one (pe_cmpR op_eq (pv 0) (pv 1) (nomark _))))))
      pss_nil)
    (pss_one (ps_ret (pe_and (pe_callB (kc_isi (K := K) rfl) (by rfl) T.z_isinstance (by decide +kernel) (pa_cons (pv 0) (pa_cons (pe_bltn (v := .ty "int") (by rfl) T.z_int (by decide +kernel) rfl) pa_nil))) (pe_and (pe_cmpR op_eq (pe_callB (kc_isi (K := K) rfl) (by rfl) T.z_isinstance (by decide +kernel) (pa_cons (pv 0) (pa_cons (pe_bltn (v := .ty "bool") (by rfl) T.z_bool (by decide +kernel) rfl) pa_nil))) (pe_callB (kc_isi (K := K) rfl) (by rfl) T.z_isinstance (by decide +kernel) (pa_cons (pv 1) (pa_cons (pe_bltn (v := .ty "bool") (by rfl) T.z_bool (by decide +kernel) rfl) pa_nil))) (nomark _)) (pe_one (pe_cmpR op_eq (pv 0) (pv 1) (nomark _)))))))))), ?_⟩
  have tx := hx.ty
  have ty := hy.ty
  cases d with
  | non =>
    cases hx; cases hy
    exact ⟨_, rfl, rfl, _, rfl, iteT ⟨_, rfl, rfl, q H (Same.refl H)⟩⟩
  | bl b =>
    cases hx; cases hy
    refine ⟨_, rfl, rfl, _, rfl, iteF ⟨_, rfl, _, _, _, _, _, rfl, .ty _, ty, kit_tuple, _, rfl, iteF ⟨_, rfl, _, _, _, _, _, rfl, .ty _, ty, kit_str, _, rfl, iteF ?_⟩⟩⟩
    refine ⟨_, rfl, _, _, _, _, _, rfl, .ty _, tx, kit_int, _, rfl, iteT ⟨_, rfl, _, _, _, _, _, rfl, .ty _, tx, kit_bool, _, rfl, _, _, _, _, _, rfl, .ty _, ty, kit_bool, rfl, _, rfl, iteT ⟨_, rfl, _, rfl, rfl, ?_⟩⟩⟩
    rw [decide_eq_true rfl]
    exact q H (Same.refl H)
  | int i =>
    cases hx; cases hy
    refine ⟨_, rfl, rfl, _, rfl, iteF ⟨_, rfl, _, _, _, _, _, rfl, .ty _, ty, kit_tuple, _, rfl, iteF ⟨_, rfl, _, _, _, _, _, rfl, .ty _, ty, kit_str, _, rfl, iteF ?_⟩⟩⟩
    refine ⟨_, rfl, _, _, _, _, _, rfl, .ty _, tx, kit_int, _, rfl, iteT ⟨_, rfl, _, _, _, _, _, rfl, .ty _, tx, kit_bool, _, rfl, _, _, _, _, _, rfl, .ty _, ty, kit_bool, rfl, _, rfl, iteT ⟨_, rfl, _, rfl, rfl, ?_⟩⟩⟩
    rw [decide_eq_true rfl]
    exact q H (Same.refl H)
  | str i =>
    cases hx; cases hy
    refine ⟨_, rfl, rfl, _, rfl, iteF ⟨_, rfl, _, _, _, _, _, rfl, .ty _, ty, kit_tuple, _, rfl, iteF ⟨_, rfl, _, _, _, _, _, rfl, .ty _, ty, kit_str, _, rfl, iteT ?_⟩⟩⟩
    refine ⟨_, rfl, _, _, _, _, _, rfl, .ty _, tx, kit_str, _, rfl, iteT ⟨_, rfl, _, rfl, rfl, ?_⟩⟩
    rw [decide_eq_true rfl]
    exact q H (Same.refl H)
  | tup ds =>
    have hx' := hx
    have hy' := hy
    cases hx with
    | @tup a xs _ ha ax =>
    cases hy with
    | @tup b ys _ hb by' =>
    have l1 := ax.length
    have l2 := by'.length
    have hfit : ds.length ≤ 1000000 ∧ Dt.fitss ds = true := by
      unfold Dt.fits at hf
      rw [Bool.and_eq_true] at hf
      exact ⟨of_decide_eq_true hf.1, hf.2⟩
    refine ⟨_, rfl, rfl, _, rfl, iteF ⟨_, rfl, _, _, _, _, _, rfl, .ty _, ty, kit_tuple, _, rfl, iteT ⟨_, rfl, _, _, _, _, _, rfl, .ty _, tx, kit_tuple, _, rfl, iteF ?_⟩⟩⟩
    refine ⟨_, rfl, _, _, rfl, .inr ⟨xs, ha, rfl⟩, _, rfl, _, _, rfl, .inr ⟨ys, hb, rfl⟩, rfl, _, rfl, ?_⟩
    rw [decide_eq_true (show V.int (xs.length : Int) = V.int (ys.length : Int) by rw [l1, l2])]
    refine iteF ?_
    refine ⟨_, rfl, _, _, rfl, .inr ⟨ys, hb, rfl⟩, _, rfl, by omega, by omega, ?_⟩
    refine for_it (walk_range (lo := 0) (n := (ys.length : Int).toNat)) (fun i σ H' => Same H H' ∧ ∃ v2, σ = [some (.ref a), some (.ref b), v2]) ⟨Same.refl _, _, rfl⟩ (fun _ _ _ _ _ => trivial) ?_ ?_
    · rintro i x σ H1 H2 hi ⟨s1, v2, rfl⟩ ⟨rfl, rfl⟩
      have hi2 : i < ds.length := by omega
      obtain ⟨u, eu, du⟩ := ax.get (List.getElem?_eq_getElem hi2)
      obtain ⟨v, ev, dv⟩ := by'.get (List.getElem?_eq_getElem hi2)
      have hm : ds[i] ∈ ds := List.getElem_mem _
      refine ⟨_, rfl, _, rfl, .inr (.inl ⟨a, xs, _, u, rfl, rfl, s1.seqT ha, at_any (j := i) (by omega) eu, ?_⟩)⟩
      refine ⟨_, rfl, _, rfl, .inr (.inl ⟨b, ys, _, v, rfl, rfl, s1.seqT hb, at_any (j := i) (by omega) ev, ?_⟩)⟩
      refine ⟨u, v, ds[i], rfl, du.same s1, dv.same s1, ?_, Dt.fitss_mem hm hfit.2, fun H3 s3 => ⟨_, rfl, iteF ⟨s1.trans s3, _, rfl⟩⟩⟩
      have h1 := Dt.deeps_mem hm
      unfold Dt.deep at hd
      omega
    · rintro σ H1 ⟨s1, v2, rfl⟩
      exact q _ s1
theorem ok_law_same {f : Addr} {fd : FuncData} (F : Fun K "_law_same" "_law_same" s_law_same f fd) (T : Top K w mg) (M : mg "_law_same" = some (.ref f)) : FnOk P w K mg base CX0 40 f fd ["told", "due"] (sp_law_same K) := by
  have b := F.binds (ps := ["told", "due"]) fun _ _ _ _ _ _ us hl => match us, hl with | [_, _], _ => rfl
  have h : ∀ n, FnOk P w K mg base CX0 n f fd ["told", "due"] (spSame n K) := fun n => by
    induction n with
    | zero =>
      refine none_left fun vs H Q E h => ?_
      obtain ⟨x, y, d, _, _, _, hd, _⟩ := h
      cases d <;> simp [Dt.deep] at hd
    | succ n ih => exact ok_law_same_n F T ⟨ih, b, F.kp, M⟩
  exact h 40

/-! ### _law_keys -/
theorem sc_law_keys : FnScope ["tape", "many", "letters", "stem", "signs", "first", "step", "keys", "k", "key", "j"] ["tape", "many"] (defScope s_law_keys) := ⟨rfl, rfl, rfl, by decide +kernel, rfl, by decide +kernel, by decide +kernel⟩

def KyS (z : Str) : Prop := SgT z ∧ z.length ≤ 20
theorem pick_at {α : Type} {xs : List α} {r : Int} (h0 : 0 ≤ r) (h1 : r < (xs.length : Int)) : ∃ v, atI xs r = some v ∧ v ∈ xs := by
  obtain ⟨n, rfl⟩ := Int.eq_ofNat_of_zero_le h0
  have hn : n < xs.length := by omega
  exact ⟨xs[n], atI_nat (List.getElem?_eq_getElem hn), List.getElem_mem _⟩
theorem len_cat (a b : Str) : (a ++ b).length = a.length + b.length := by
  show (a.cps ++ b.cps).size = _
  rw [Array.size_append]
  rfl


def sp_law_keys (K : PySem.W.Frag) : Sp := fun vs H Q _ => ∃ (t : Addr), vs = [.ref t, .int 5] ∧ Tape H t ∧ ∀ (p : Addr) (ws : List Str) (H' : Hp), Go t H H' → H p = none → H' p = some (.lst (ws.map V.str)) → ws.length = 5 → (∀ z ∈ ws, KyS z) → Q (.ref p) H'

theorem ok_law_keys {f : Addr} {fd : FuncData} (F : Fun K "_law_keys" "_law_keys" s_law_keys f fd) (T : Top K w mg) {a_law_draw : Addr} {d_law_draw : FuncData} (C_law_draw : Cal P w K mg base "_law_draw" 1 ["tape", "many"] sp_law_draw a_law_draw d_law_draw) : FnOk P w K mg base CX0 2 f fd ["tape", "many"] (sp_law_keys K) := by
  have sc := sc_law_keys
  refine F.ok sc (fun vs H Q E h => ?_) (fun cdv A outer s H vs Q E hr h => ?_)
  · obtain ⟨t, rfl, _⟩ := h
    rfl
  obtain ⟨t, rfl, hT, q⟩ := h
  refine ⟨_, (pss_cons (ps_set (i := 2) sc.nd rfl (Or.inl rfl) pe_str)
    (pss_cons (ps_set (i := 3) sc.nd rfl (Or.inl rfl) (pe_ix (kx_list (K := K) rfl) (pe_lst (pa_cons pe_str (pa_cons pe_str (pa_cons pe_str (pa_cons pe_str (pa_cons pe_str pa_nil)))))) (pe_call C_law_draw.ok (hr.mono (by omega)) (by rfl) C_law_draw.m C_law_draw.kp C_law_draw.b .nil pass0 (pa_cons (pv 0) (pa_cons pe_int pa_nil))) (fun _ _ => rfl)))
    (pss_cons (ps_set (i := 4) sc.nd rfl (Or.inl rfl) (pv 2))
    (C8.pss_cut (ps_if (pt_cmpR op_ne (pv 3) pe_str (nomark _))
      (pss_one (ps_set (i := 4) sc.nd rfl (Or.inl rfl) (pe_op op_add_str (pv 2) pe_str)))
      pss_nil)
    (pss_cons (ps_set (i := 5) sc.nd rfl (Or.inl rfl) (pe_op op_mul (pe_call C_law_draw.ok (hr.mono (by omega)) (by rfl) C_law_draw.m C_law_draw.kp C_law_draw.b .nil pass0 (pa_cons (pv 0) (pa_cons pe_int pa_nil))) (pe_call C_law_draw.ok (hr.mono (by omega)) (by rfl) C_law_draw.m C_law_draw.kp C_law_draw.b .nil pass0 (pa_cons (pv 0) (pa_cons (pe_callB call_len_str (by rfl) T.z_len (by decide +kernel) (pa_cons (pv 4) pa_nil)) pa_nil)))))
    (pss_cons (ps_set (i := 6) sc.nd rfl (Or.inl rfl) (pe_ix (kx_list (K := K) rfl) (pe_lst (pa_cons pe_int (pa_cons pe_int (pa_cons pe_int pa_nil)))) (pe_call C_law_draw.ok (hr.mono (by omega)) (by rfl) C_law_draw.m C_law_draw.kp C_law_draw.b .nil pass0 (pa_cons (pv 0) (pa_cons pe_int pa_nil))) (fun _ _ => rfl)))
    (pss_cons (ps_set (i := 7) sc.nd rfl (Or.inl rfl) (pe_lst pa_nil))
    (pss_cons (ps_for PassesOwn.never rfl (pi_range1 (by rfl) T.z_range (pa_cons (pv 1) pa_nil)) (pg_name (i := 8) sc.nd rfl (Or.inl rfl))
      (pss_cons (ps_set (i := 9) sc.nd rfl (Or.inl rfl) (pe_op op_add_str (pv 3) (pe_ix ix_str (pv 4) (pe_op op_modN (pe_callTy call_int1 (by rfl) T.z_int (by decide +kernel) (pa_cons (pe_op op_add (pv 5) (pe_op op_mul (pv 8) (pv 6))) pa_nil)) (pe_callB call_len_str (by rfl) T.z_len (by decide +kernel) (pa_cons (pv 4) pa_nil))) (fun _ _ => rfl))))
      (pss_cons (ps_for PassesOwn.never rfl (pi_range1 (by rfl) T.z_range (pa_cons (pe_ix (kx_list (K := K) rfl) (pe_lst (pa_cons pe_int (pa_cons pe_int (pa_cons pe_int (pa_cons pe_int (pa_cons pe_int pa_nil)))))) (pe_call C_law_draw.ok (hr.mono (by omega)) (by rfl) C_law_draw.m C_law_draw.kp C_law_draw.b .nil pass0 (pa_cons (pv 0) (pa_cons pe_int pa_nil))) (fun _ _ => rfl)) pa_nil)) (pg_name (i := 10) sc.nd rfl (Or.inl rfl))
        (pss_one (ps_set (i := 9) sc.nd rfl (Or.inl rfl) (pe_op op_add_str (pv 9) (pe_ix ix_str pe_str (pe_call C_law_draw.ok (hr.mono (by omega)) (by rfl) C_law_draw.m C_law_draw.kp C_law_draw.b .nil pass0 (pa_cons (pv 0) (pa_cons pe_int pa_nil))) (fun _ _ => rfl))))))
      (pss_one (ps_expr (pe_bm PySem.F.plainAttrs_list PySem.F.slot_list_append PySem.F.type_list_append mt_append (pv 7) (pa_cons (pv 9) pa_nil)))))))
    (pss_one (ps_ret (pv 7))))))))))), ?_⟩

  refine ⟨(by show 5 ≤ sizeLine; decide), fun o1 ho1 => ?_⟩
  have g1 := (Go.refl hT).new (o := .lst ([Str.ofString "", Str.ofString "", Str.ofString "", Str.ofString "ab", Str.ofString "team-config-"].map V.str)) ho1
  have n1 := hT.ne ho1
  refine ⟨_, rfl, t, 5, rfl, g1.tp, by decide, by decide, fun r1 H1 r10 r11 g2 => ?_⟩
  obtain ⟨v1, a1, m1⟩ := pick_at (xs := [Str.ofString "", Str.ofString "", Str.ofString "", Str.ofString "ab", Str.ofString "team-config-"].map V.str) r10 (by show r1 < 5; omega)
  obtain ⟨st, hst, rfl⟩ := List.mem_map.mp m1
  have all : ∀ z ∈ [Str.ofString "", Str.ofString "", Str.ofString "", Str.ofString "ab", Str.ofString "team-config-"], z.length ≤ 12 ∧ ∀ c ∈ z.cps.toList, Sg c := by decide +kernel
  refine ⟨o1, _, r1, _, rfl, rfl, SqL.of (g2.sm _ _ n1 upd_same), a1, ?_⟩
  obtain ⟨lst, sst⟩ := all st hst
  have g2 := g1.trans g2
  refine ⟨_, rfl, ?_⟩
  refine ⟨fun σ H' => H' = H1 ∧ ∃ sg : Str, SgT sg ∧ 1 ≤ sg.length ∧ sg.length ≤ 100 ∧ σ = [some (.ref t), some (.int 5), some (.str (Str.ofString "abcdefghijklmnopqrstuvwxyz")), some (.str st), some (.str sg), none, none, none, none, none, none], ?_, ?_⟩
  · refine ⟨_, rfl, rfl, _, rfl, ite2 (fun _ => ?_) (fun _ => ?_)⟩
    · exact ⟨_, rfl, _, _, rfl, rfl, by decide +kernel, rfl, Str.ofString "abcdefghijklmnopqrstuvwxyz" ++ Str.ofString "ABCDEFGHIJKLMNOPQRSTUVWXYZ0123456789-", (show ∀ c ∈ (Str.ofString "abcdefghijklmnopqrstuvwxyz" ++ Str.ofString "ABCDEFGHIJKLMNOPQRSTUVWXYZ0123456789-").cps.toList, Sg c by decide +kernel), by decide +kernel, by decide +kernel, rfl⟩
    · exact ⟨rfl, Str.ofString "abcdefghijklmnopqrstuvwxyz", (show ∀ c ∈ (Str.ofString "abcdefghijklmnopqrstuvwxyz").cps.toList, Sg c by decide +kernel), by decide +kernel, by decide +kernel, rfl⟩
  rintro σ H2' ⟨rfl, sg, ssg, l1, l100, rfl⟩
  -- where to begin, and how far apart
  refine ⟨_, rfl, t, 2, rfl, g2.tp, by decide, by decide, fun r2 H3 r20 r21 g3 => ?_⟩
  refine ⟨_, rfl, _, rfl, sg, rfl, le_line (by omega), t, sg.length, rfl, g3.tp, by omega, by omega, fun r3 H4 r30 r31 g4 => ?_⟩
  have g4 := g2.trans (g3.trans g4)
  refine ⟨_, _, rfl, rfl, .inl ⟨by omega, by omega⟩, ?_⟩
  refine ⟨(by show 3 ≤ sizeLine; decide), fun o2 ho2 => ?_⟩
  have g5 := (Go.refl g4.tp).new (o := .lst [V.int 1, V.int 5, V.int 11]) ho2
  have n2 := g4.tp.ne ho2
  refine ⟨_, rfl, t, 3, rfl, g5.tp, by decide, by decide, fun r4 H5 r40 r41 g6 => ?_⟩
  obtain ⟨v2, a2, m2⟩ := pick_at (xs := [V.int 1, V.int 5, V.int 11]) r40 (by show r4 < 3; omega)
  obtain ⟨sp, hsp, rfl⟩ : ∃ sp : Int, (0 ≤ sp ∧ sp ≤ 11) ∧ v2 = .int sp := by
    simp only [List.mem_cons, List.not_mem_nil, or_false] at m2
    rcases m2 with rfl | rfl | rfl
    · exact ⟨1, by decide, rfl⟩
    · exact ⟨5, by decide, rfl⟩
    · exact ⟨11, by decide, rfl⟩
  refine ⟨o2, _, r4, _, rfl, rfl, SqL.of (g6.sm _ _ n2 upd_same), a2, ?_⟩
  have g6 := g4.trans (g5.trans g6)
  refine ⟨(by show 0 ≤ sizeLine; decide), fun W hW => ?_⟩
  have nW := g6.tp.ne hW
  have hWH : H W = none := g6.sm.free nW hW
  refine ⟨_, rfl, 5, rfl, by decide, by decide, ?_⟩
  refine for_it (walk_range (lo := 0) (n := (5 : Int).toNat)) (fun i σ H' => Go t H5 H' ∧ ∃ (ws : List Str) (v8 v9 v10 : Option V), H' W = some (.lst (ws.map V.str)) ∧ ws.length = i ∧ (∀ z ∈ ws, KyS z) ∧ σ = [some (.ref t), some (.int 5), some (.str (Str.ofString "abcdefghijklmnopqrstuvwxyz")), some (.str st), some (.str sg), some (.int (r2 * r3)), some (.int sp), some (.ref W), v8, v9, v10])
    ⟨(Go.refl g6.tp).new hW, [], _, _, _, upd_same, rfl, (fun _ h => by cases h), rfl⟩ (fun _ _ _ _ _ => trivial) ?_ ?_
  rotate_left
  · rintro σ H6 ⟨g7, ws, v8, v9, v10, eW, lw, hws, rfl⟩
    exact ⟨_, rfl, q W ws H6 (g6.trans g7) hWH eW lw hws⟩
  rintro i x σ H6x H6 hi ⟨g7, ws, v8, v9, v10, eW, lw, hws, rfl⟩ ⟨rfl, rfl⟩
  have hi5 : i < 5 := hi
  have fm := fmod_in (a := r2 * r3 + (0 + (i : Int)) * sp) (m := (sg.length : Int)) (by omega)
  obtain ⟨c, ac, mc⟩ := pick_at (xs := sg.cps.toList) fm.1 (by rw [Array.length_toList]; exact fm.2)
  refine ⟨_, rfl, _, rfl, _, rfl, _, rfl, _, rfl, _, _, rfl, rfl, .inl ⟨by omega, by omega⟩, _, _, rfl, rfl, .inl ⟨_, rfl, ?_⟩⟩
  refine ⟨_, rfl, sg, rfl, le_line (by omega), _, _, rfl, rfl, by omega, sg, _, c, rfl, rfl, le_line (by omega), ac, ?_⟩
  refine ⟨_, _, rfl, rfl, le_line (by show st.length + 1 ≤ _; omega), ?_⟩
  have k0 : SgT (st ++ ⟨#[c]⟩) ∧ (st ++ ⟨#[c]⟩ : Str).length ≤ 13 + 0 := ⟨SgT.app sst (SgT.one (ssg c mc)), by rw [len_cat]; show st.length + 1 ≤ _; omega⟩
  generalize (st ++ ⟨#[c]⟩ : Str) = key0 at *
  refine ⟨(by show 5 ≤ sizeLine; decide), fun o3 ho3 => ?_⟩
  have g8 := (Go.refl g7.tp).new (o := .lst [V.int 0, V.int 0, V.int 0, V.int 1, V.int 2]) ho3
  have n3 := g7.tp.ne ho3
  refine ⟨_, rfl, t, 5, rfl, g8.tp, by decide, by decide, fun r5 H7 r50 r51 g9 => ?_⟩
  obtain ⟨v5, a5, m5⟩ := pick_at (xs := [V.int 0, V.int 0, V.int 0, V.int 1, V.int 2]) r50 (by show r5 < 5; omega)
  obtain ⟨nn, hnn, rfl⟩ : ∃ nn : Nat, nn ≤ 2 ∧ v5 = .int (nn : Int) := by
    simp only [List.mem_cons, List.not_mem_nil, or_false] at m5
    rcases m5 with rfl | rfl | rfl | rfl | rfl
    · exact ⟨0, by decide, rfl⟩
    · exact ⟨0, by decide, rfl⟩
    · exact ⟨0, by decide, rfl⟩
    · exact ⟨1, by decide, rfl⟩
    · exact ⟨2, by decide, rfl⟩
  refine ⟨o3, _, r5, _, rfl, rfl, SqL.of (g9.sm _ _ n3 upd_same), a5, nn, rfl, by omega, by omega, ?_⟩
  have g9 := g8.trans g9
  have eW7 := g9.sm _ _ nW eW
  refine for_it (walk_range (lo := 0) (n := (nn : Int).toNat)) (fun jj σ H' => Go t H7 H' ∧ ∃ (key : Str) (v10 : Option V), SgT key ∧ key.length ≤ 13 + jj ∧ σ = [some (.ref t), some (.int 5), some (.str (Str.ofString "abcdefghijklmnopqrstuvwxyz")), some (.str st), some (.str sg), some (.int (r2 * r3)), some (.int sp), some (.ref W), some (.int (0 + (i : Int))), some (.str key), v10])
    ⟨Go.refl g9.tp, key0, _, k0.1, k0.2, rfl⟩ (fun _ _ _ _ _ => trivial) ?_ ?_
  · rintro jj y σ H8x H8 hjj ⟨g10, key, w10, ksg, klen, rfl⟩ ⟨rfl, rfl⟩
    refine ⟨_, rfl, _, rfl, t, 4, rfl, g10.tp, by decide, by decide, fun r6 H9 r60 r61 g11 => ?_⟩
    have m4 : ∀ c ∈ (Str.ofString "0-9X").cps.toList, Sg c := by decide +kernel
    obtain ⟨d, ad, md⟩ := pick_at (xs := (Str.ofString "0-9X").cps.toList) r60 (by show r6 < 4; omega)
    refine ⟨Str.ofString "0-9X", r6, d, rfl, rfl, by decide +kernel, ad, _, _, rfl, rfl, le_line (by show key.length + 1 ≤ _; omega), ?_⟩
    exact ⟨g10.trans g11, key ++ ⟨#[d]⟩, _, SgT.app ksg (SgT.one (m4 d md)), by rw [len_cat]; show key.length + 1 ≤ _; omega, rfl⟩
  · rintro σ H8 ⟨g10, key, w10, ksg, klen, rfl⟩
    have klen : key.length ≤ 13 + nn := by simpa using klen
    have eW8 := g10.sm _ _ nW eW7
    refine ⟨_, rfl, .inl ⟨rfl, _, SqL.of eW8⟩, _, rfl, W, _, _, rfl, rfl, eW8, lt_line (by rw [List.length_map]; omega), ?_⟩
    refine ⟨Go.late g6.tp (g7.trans (g9.trans g10)) hW, ws ++ [key], _, _, _, by rw [upd_same, List.map_append]; rfl, by rw [List.length_append, lw]; rfl, fun z hz => ?_, rfl⟩
    rcases List.mem_append.mp hz with h | h
    · exact hws z h
    · rw [List.mem_singleton.mp h]; exact ⟨ksg, by omega⟩
/-! ### _law_origin -/
theorem sc_law_origin : FnScope ["log", "path", "turn", "givers", "entry", "firsts", "k"] ["log", "path"] (defScope s_law_origin) := ⟨rfl, rfl, rfl, by decide +kernel, rfl, by decide +kernel, by decide +kernel⟩

def gB (L : List Le) (f : Le → Bool) (k : Nat) : Bool := match L[k]? with
  | some x => f x
  | none => false
/-- the first n places of which it is true -/
def gvF (L : List Le) (f : Le → Bool) (n : Nat) : List Nat := (List.range n).filter (gB L f)
theorem gvF_succ {L : List Le} {f : Le → Bool} {n : Nat} {x : Le} (h : L[n]? = some x) : gvF L f (n + 1) = gvF L f n ++ (if f x = true then [n] else []) := by
  unfold gvF
  rw [List.range_succ, List.filter_append, List.filter_cons, List.filter_nil]
  have e : gB L f n = f x := by unfold gB; rw [h]
  rw [e]
theorem gv_len {L : List Le} {f : Le → Bool} {n : Nat} : (gvF L f n).length ≤ n := by
  have := List.length_filter_le (gB L f) (List.range n)
  rw [List.length_range] at this
  exact this
theorem gv_last {L : List Le} {p : List Str} : ∀ {n : Nat}, n ≤ L.length → giveN L p n = (gvF L (giveB p) n).getLast?
  | 0, _ => rfl
  | n + 1, h => by
    have e : L[n]? = some L[n] := List.getElem?_eq_getElem (by omega)
    rw [giveN, gvF_succ e, e]
    show (if giveB p L[n] = true then some n else giveN L p n) = _
    by_cases z : giveB p L[n] = true
    · rw [if_pos z, if_pos z, List.getLast?_concat]
    · rw [if_neg z, if_neg z, List.append_nil, gv_last (by omega)]
theorem gv_first {L : List Le} {c r : Int} : ∀ {n : Nat}, n ≤ L.length → (gvF L (sameB c r) n = [] ∧ n ≤ firstF L c r) ∨ ((gvF L (sameB c r) n)[0]? = some (firstF L c r))
  | 0, _ => .inl ⟨rfl, Nat.zero_le _⟩
  | n + 1, h => by
    have hn : n < L.length := by omega
    have e : L[n]? = some L[n] := List.getElem?_eq_getElem hn
    rw [gvF_succ e]
    rcases gv_first (L := L) (c := c) (r := r) (n := n) (by omega) with ⟨k1, k2⟩ | k
    · rw [k1]
      by_cases z : sameB c r L[n] = true
      · rw [if_pos z]
        refine .inr ?_
        have : firstF L c r = n := by
          rcases Nat.lt_or_ge n (firstF L c r) with y | y
          · have := List.not_of_lt_findIdx (p := sameB c r) (xs := L) y
            exact absurd z (by simpa using this)
          · omega
        rw [this]
        rfl
      · rw [if_neg z]
        refine .inl ⟨rfl, ?_⟩
        rcases Nat.lt_or_ge n (firstF L c r) with y | y
        · exact y
        · have e2 : firstF L c r = n := by omega
          have := List.findIdx_getElem (p := sameB c r) (xs := L) (w := by show firstF L c r < L.length; omega)
          have e3 : L[firstF L c r]'(by omega) = L[n] := by congr 1
          exact absurd (show sameB c r L[n] = true by rw [← e3]; exact this) z
    · refine .inr ?_
      have hl : 0 < (gvF L (sameB c r) n).length := by
        rcases Nat.eq_zero_or_pos (gvF L (sameB c r) n).length with y | y
        · rw [List.eq_nil_of_length_eq_zero y] at k; cases k
        · exact y
      rw [List.getElem?_append_left hl]
      exact k


def sp_law_origin (K : PySem.W.Frag) : Sp := fun vs H Q _ => ∃ (v x : V) (L : List Le) (p : List Str), vs = [v, x] ∧ DT K H v (.tup (L.map leD)) ∧ DT K H x (ptD p) ∧ (∀ y ∈ L, LeOk y ∧ (y.e.w = copS → y.e.q ≠ none)) ∧ (∀ z ∈ p, SgT z) ∧ p.length ≤ 1000 ∧ L.length ≤ 100 ∧ ∀ u H', Same H H' → DT K H' u (origF L (L.length + 1) L.length p) → Q u H'

theorem ok_law_origin {f : Addr} {fd : FuncData} (F : Fun K "_law_origin" "_law_origin" s_law_origin f fd) (T : Top K w mg) : FnOk P w K mg base CX0 1 f fd ["log", "path"] (sp_law_origin K) := by
  have sc := sc_law_origin
  refine F.ok sc (fun vs H Q E h => ?_) (fun cdv A outer s H vs Q E hr h => ?_)
  · obtain ⟨v, x, L, p, rfl, _⟩ := h
    rfl
  obtain ⟨v, x, L, p, rfl, hv, hx, ok, psg, lp, lL, q⟩ := h
  refine ⟨_, (pss_cons (ps_for PassesOwn.never rfl (pi_range1 (by rfl) T.z_range (pa_cons (pe_op op_add (pe_callB (kc_lenS (K := K) rfl) (by rfl) T.z_len (by decide +kernel) (pa_cons (pv 0) pa_nil)) pe_int) pa_nil)) (pg_name (i := 2) sc.nd rfl (Or.inl rfl))
      (pss_cons (ps_setLc (i := 3) (own := [("k", 6)]) (g := gName 6) rfl sc.nd rfl rfl (sw_true rfl rfl rfl (by decide +kernel)) (pi_range1 (by rfl) T.z_range (pa_cons (pe_callB (kc_lenS (K := K) rfl) (by rfl) T.z_len (by decide +kernel) (pa_cons (pv 0) pa_nil)) pa_nil)) (blkOk_by (N := ["log", "path", "turn", "givers", "entry", "firsts", "k"]) (sc := defScope s_law_origin) (by decide +kernel)) (fun _ _ _ _ _ => pg_name (i := 6) sc.nd rfl (Or.inl rfl)) (fun _ _ _ _ _ => pts_one (PW.pt (pw_and (pt_cmpR (kop_eqD (K := K) rfl hr.units) (pe_ix (kx_tup (K := K) rfl) (pe_ix (kx_tup (K := K) rfl) (pe_ix (kx_tup (K := K) rfl) (pv 0) (pv 6) (fun _ _ => rfl)) pe_int (fun _ _ => rfl)) pe_int (fun _ _ => rfl)) (pv 1) (nomark _)) (pw_and1 (pt_cmpR op_ne (pe_ix (kx_tup (K := K) rfl) (pe_ix (kx_tup (K := K) rfl) (pe_ix (kx_tup (K := K) rfl) (pv 0) (pv 6) (fun _ _ => rfl)) pe_int (fun _ _ => rfl)) pe_int (fun _ _ => rfl)) pe_str (nomark _)))))) (fun _ _ _ _ _ => (pv 6)))
      (pss_cons (ps_if (pt_cmpR op_eq (pe_callB (kc_lenS (K := K) rfl) (by rfl) T.z_len (by decide +kernel) (pa_cons (pv 3) pa_nil)) pe_int (nomark _))
        (pss_one (ps_ret (pe_tup (pa_cons pe_str (pa_cons (pv 1) pa_nil)))))
        pss_nil)
      (pss_cons (ps_set (i := 4) sc.nd rfl (Or.inr rfl) (pe_ix (kx_tup (K := K) rfl) (pv 0) (pe_ix (kx_list (K := K) rfl) (pv 3) (pe_op op_sub (pe_callB (kc_lenS (K := K) rfl) (by rfl) T.z_len (by decide +kernel) (pa_cons (pv 3) pa_nil)) pe_int) (fun _ _ => rfl)) (fun _ _ => rfl)))
      (pss_cons (ps_if (pt_cmpR op_ne (pe_ix (kx_tup (K := K) rfl) (pe_ix (kx_tup (K := K) rfl) (pv 4) pe_int (fun _ _ => rfl)) pe_int (fun _ _ => rfl)) pe_str (nomark _))
        (pss_one (ps_ret (pe_tup (pa_cons pe_str (pa_cons (pe_ix (kx_tup (K := K) rfl) (pv 4) pe_int (fun _ _ => rfl)) pa_nil)))))
        pss_nil)
      (pss_cons (ps_set (i := 1) sc.nd rfl (Or.inr rfl) (pe_ix (kx_tup (K := K) rfl) (pe_ix (kx_tup (K := K) rfl) (pv 4) pe_int (fun _ _ => rfl)) pe_int (fun _ _ => rfl)))
      (pss_cons (ps_setLc (i := 5) (own := [("k", 6)]) (g := gName 6) rfl sc.nd rfl rfl (sw_true rfl rfl rfl (by decide +kernel)) (pi_range1 (by rfl) T.z_range (pa_cons (pe_callB (kc_lenS (K := K) rfl) (by rfl) T.z_len (by decide +kernel) (pa_cons (pv 0) pa_nil)) pa_nil)) (blkOk_by (N := ["log", "path", "turn", "givers", "entry", "firsts", "k"]) (sc := defScope s_law_origin) (by decide +kernel)) (fun _ _ _ _ _ => pg_name (i := 6) sc.nd rfl (Or.inl rfl)) (fun _ _ _ _ _ => pts_one (PW.pt (pw_and (pt_cmpR op_eq (pe_ix (kx_tup (K := K) rfl) (pe_ix (kx_tup (K := K) rfl) (pv 0) (pv 6) (fun _ _ => rfl)) pe_int (fun _ _ => rfl)) (pe_ix (kx_tup (K := K) rfl) (pv 4) pe_int (fun _ _ => rfl)) (nomark _)) (pw_and1 (pt_cmpR op_eq (pe_ix (kx_tup (K := K) rfl) (pe_ix (kx_tup (K := K) rfl) (pv 0) (pv 6) (fun _ _ => rfl)) pe_int (fun _ _ => rfl)) (pe_ix (kx_tup (K := K) rfl) (pv 4) pe_int (fun _ _ => rfl)) (nomark _)))))) (fun _ _ _ _ _ => (pv 6)))
      (pss_one (ps_set (i := 0) sc.nd rfl (Or.inr rfl) (pe_slice (ksl_tup (K := K) rfl) (pv 0) po_none (po_some (pe_ix (kx_list (K := K) rfl) (pv 5) pe_int (fun _ _ => rfl)))))))))))))
    (pss_one (ps_ret pe_non))), ?_⟩

  obtain ⟨a, xs, rfl, hS, hts⟩ := dt_tup hv
  have lxs := hts.length
  rw [List.length_map] at lxs
  obtain ⟨tot, htot⟩ : ∃ tot, tot = origF L (L.length + 1) L.length p := ⟨_, rfl⟩
  rw [← htot] at q
  refine ⟨_, rfl, a, xs, rfl, .inr hS, _, _, rfl, rfl, _, rfl, by omega, by omega, ?_⟩
  refine for_it (walk_range (lo := 0) (n := ((xs.length : Int) + 1).toNat)) (fun i σ H' => Same H H' ∧ ∃ (n : Nat) (b : Addr) (bxs : List V) (cv : V) (p1 : List Str) (v2 v3 v4 v5 : Option V), SqT K H' b bxs ∧ DTs K H' bxs ((L.take n).map leD) ∧ DT K H' cv (ptD p1) ∧ (∀ z ∈ p1, SgT z) ∧ p1.length ≤ 1000 ∧ n ≤ L.length ∧ n + i < L.length + 1 ∧ origF L (L.length + 1 - i) n p1 = tot ∧ σ = [some (.ref b), some cv, v2, v3, v4, v5, none])
    ⟨Same.refl _, L.length, a, xs, x, p, _, _, _, _, hS, by rw [List.take_length]; exact hts, hx, psg, lp, Nat.le_refl _, by omega, htot.symm, rfl⟩ (fun _ _ _ _ _ => trivial) ?_ ?_
  rotate_left
  · rintro σ H1 ⟨s1, n, b, bxs, cv, p1, v2, v3, v4, v5, hB, hbx, hcv, psg1, lp1, hn, hm, ho, rfl⟩
    omega
  rintro i y σ H1x H1 hi ⟨s1, n, b, bxs, cv, p1, v2, v3, v4, v5, hB, hbx, hcv, psg1, lp1, hn, hm, ho, rfl⟩ ⟨rfl, rfl⟩
  obtain ⟨m, em⟩ : ∃ m, L.length + 1 - i = m + 1 := ⟨L.length - i, by omega⟩
  have em2 : L.length + 1 - (i + 1) = m := by omega
  rw [em, origF] at ho
  have lbx := hbx.length
  rw [List.length_map, List.length_take, Nat.min_eq_left hn] at lbx
  -- an entry of the log
  have ent : ∀ {H' : Hp} {j : Nat}, Same H1 H' → j < n → ∃ le ea y2 fa z3 z4, bxs[j]? = some (V.ref ea) ∧ L[j]? = some le ∧ SqT K H' ea [.int le.c, y2, .int le.r, .ref fa] ∧ ∃ z2, SqT K H' fa [.str le.e.w, z2, z3, z4] ∧ DT K H' z2 (ptD le.e.p) ∧ DT K H' z4 (ptO le.e.q) := by
    intro H' j s hj
    have hxk : bxs[j]? = some bxs[j] := List.getElem?_eq_getElem (by omega)
    obtain ⟨dd, ed, dz⟩ := hbx.get' hxk
    rw [List.getElem?_map, List.getElem?_take, if_pos hj] at ed
    obtain ⟨le, ele, rfl⟩ := Option.map_eq_some_iff.mp ed
    obtain ⟨ea, x1, x2, x3, x4, exk, hE, g1, g2, g3, g4⟩ := four (dz.same s)
    cases g1; cases g3
    obtain ⟨fa, y1, y2, y3, y4, rfl, hF, k1, k2, k3, k4⟩ := four g4
    cases k1
    rw [exk] at hxk
    exact ⟨le, ea, _, fa, _, _, hxk, ele, hE, _, hF, k2, k4⟩
  have dp2 := deep_path p1
  refine ⟨_, rfl, b, bxs, rfl, .inr hB, _, rfl, by omega, by omega, fun D hD => ?_⟩
  refine lc_it (walk_range (lo := 0) (n := (bxs.length : Int).toNat)) (fun j H' => Same H1 H' ∧ H' D = some (.lst ((gvF L (giveB p1) j).map fun k : Nat => V.int (k : Int)))) ⟨same_new hD _, upd_same⟩ (fun _ _ _ _ => trivial) ?_ ?_
  · rintro j y H2x H2 hj ⟨s2, eD⟩ ⟨rfl, rfl⟩
    have hjn : j < n := by omega
    obtain ⟨le, ea, y2, fa, z3, z4, hxk, ele, hE, z2, hF, k2, k4⟩ := ent s2 hjn
    have lok := (ok le (List.mem_of_getElem? ele)).1
    have dp1 := deep_path le.e.p
    have gl := gv_len (L := L) (f := giveB p1) (n := j)
    have gs := gvF_succ (f := giveB p1) ele
    have hB2 := s2.seqT hB
    refine ⟨rfl, _, rfl, _, rfl, b, bxs, _, _, rfl, rfl, hB2, at_any (j := j) (by omega) hxk, ea, _, 3, _, rfl, rfl, hE, rfl, fa, _, 1, _, rfl, rfl, hF, rfl, _, rfl, _, _, DT.dp _ _ k2, DT.dp _ _ (hcv.same s2), shaped_dt (lay_pp lok.p) (by omega), shaped_dt (lay_pp psg1) (by omega), _, rfl, ?_⟩
    rw [eqv_pp]
    by_cases ep : le.e.p = p1
    · rw [decide_eq_true ep]
      refine iteT ⟨_, rfl, _, rfl, b, bxs, _, _, rfl, rfl, hB2, at_any (j := j) (by omega) hxk, ea, _, 3, _, rfl, rfl, hE, rfl, fa, _, 0, _, rfl, rfl, hF, rfl, rfl, _, rfl, ?_⟩
      by_cases ew : le.e.w = rmS
      · have hb : giveB p1 le ≠ true := fun h => by
          unfold giveB at h
          rw [decide_eq_true ew, Bool.and_comm] at h
          cases h
        rw [decide_eq_true (show V.str le.e.w = V.str (Str.ofString "remove") from congrArg V.str ew)]
        refine iteF ⟨s2, ?_⟩
        rw [gs, if_neg hb, List.append_nil]
        exact eD
      · have hb : giveB p1 le = true := by
          unfold giveB
          rw [decide_eq_true ep, decide_eq_false ew]
          rfl
        rw [decide_eq_false (show ¬ V.str le.e.w = V.str (Str.ofString "remove") from fun h => ew (V.str.inj h))]
        refine iteT ⟨_, rfl, _, eD, lt_line (by rw [List.length_map]; omega), s2.late hD, ?_⟩
        rw [upd_same, gs, if_pos hb, List.map_append]
        show some (HO.lst (_ ++ [V.int (0 + (j : Int))])) = _
        rw [Int.zero_add]
        rfl
    · rw [decide_eq_false ep]
      have hb : giveB p1 le ≠ true := fun h => by
        unfold giveB at h
        rw [decide_eq_false ep] at h
        cases h
      refine iteF (iteF ⟨s2, ?_⟩)
      rw [gs, if_neg hb, List.append_nil]
      exact eD
  rintro H2 ⟨s2, eD⟩
  rw [show (bxs.length : Int).toNat = n by omega] at eD
  obtain ⟨G, hG⟩ : ∃ G, G = gvF L (giveB p1) n := ⟨_, rfl⟩
  rw [← hG] at eD
  have gl : G.length ≤ n := by rw [hG]; exact gv_len
  have hgl := gv_last (p := p1) hn
  rw [← hG] at hgl
  have lGm : (G.map fun k : Nat => V.int (k : Int)).length = G.length := List.length_map _
  refine ⟨_, rfl, D, _, rfl, .inl (SqL.of eD), rfl, _, rfl, ?_⟩
  rw [lGm]
  cases eg : giveN L p1 n with
  | none =>
    rw [eg] at ho hgl
    have ho : (Dt.tup [.str (Str.ofString "field"), ptD p1]) = tot := ho
    have e0 : G = [] := List.getLast?_eq_none_iff.mp hgl.symm
    subst e0
    refine iteT ⟨_, rfl, (by show 2 ≤ sizeLine; decide), fun o ho2 => ?_⟩
    refine q _ _ (s1.trans (s2.trans (same_new ho2 _))) ?_
    rw [← ho]
    exact .tup (SqT.of upd_same) (.cons (.str _) (.cons (hcv.same (s2.trans (same_new ho2 _))) .nil))
  | some k =>
    rw [eg] at ho hgl
    obtain ⟨hk, _⟩ := giveN_some eg
    obtain ⟨le, ea, y2, fa, z3, z4, hxk, ele, hE, z2, hF, k2, k4⟩ := ent s2 hk
    have ho : (match L[k]? with
      | none => Dt.non
      | some x => if x.e.w = copS then origF L m (firstF L x.c x.r) (x.e.q.getD []) else .tup [.str (Str.ofString "literal"), .int x.c]) = tot := ho
    rw [ele] at ho
    have ho : (if le.e.w = copS then origF L m (firstF L le.c le.r) (le.e.q.getD []) else .tup [.str (Str.ofString "literal"), .int le.c]) = tot := ho
    have lG1 : 1 ≤ G.length := by
      cases G with
      | nil => cases hgl
      | cons g G => exact Nat.le_add_left 1 _
    have hlast : (G.map fun k : Nat => V.int (k : Int))[G.length - 1]? = some (.int (k : Int)) := by
      rw [List.getElem?_map, ← List.getLast?_eq_getElem?, ← hgl]
      rfl
    refine ite2 (fun z => ?_) (fun _ => ?_)
    · exfalso
      have := of_decide_eq_true z
      injection this with this
      omega
    refine ⟨_, rfl, _, rfl, _, rfl, D, _, rfl, .inl (SqL.of eD), _, _, rfl, rfl, D, _, _, _, rfl, rfl, SqL.of eD, at_any (j := G.length - 1) (by rw [lGm]; omega) hlast, b, bxs, _, _, rfl, rfl, s2.seqT hB, at_any (j := k) rfl hxk, ?_⟩
    refine ⟨_, rfl, ea, _, 3, _, rfl, rfl, hE, rfl, fa, _, 0, _, rfl, rfl, hF, rfl, rfl, _, rfl, ?_⟩
    by_cases ec : le.e.w = copS
    rotate_left
    · rw [if_neg ec] at ho
      rw [decide_eq_false (show ¬ V.str le.e.w = V.str (Str.ofString "copy") from fun h => ec (V.str.inj h))]
      refine iteT ⟨_, rfl, ea, _, 0, _, rfl, rfl, hE, rfl, (by show 2 ≤ sizeLine; decide), fun o ho2 => ?_⟩
      refine q _ _ (s1.trans (s2.trans (same_new ho2 _))) ?_
      rw [← ho]
      exact .tup (SqT.of upd_same) (.cons (.str _) (.cons (.int _) .nil))
    rw [if_pos ec] at ho
    rw [decide_eq_true (show V.str le.e.w = V.str (Str.ofString "copy") from congrArg V.str ec)]
    refine iteF ?_
    obtain ⟨lok, lq⟩ := ok le (List.mem_of_getElem? ele)
    obtain ⟨qq, eqq⟩ : ∃ qq, le.e.q = some qq := by
      cases e : le.e.q with
      | none => exact absurd e (lq ec)
      | some qq => exact ⟨qq, rfl⟩
    rw [eqq] at ho k4
    obtain ⟨qsg, lqq⟩ := lok.q qq eqq
    have k4 : DT K H2 z4 (ptD qq) := k4
    have hfl := first_le ele
    refine ⟨_, rfl, ea, _, 3, _, rfl, rfl, hE, rfl, fa, _, 3, _, rfl, rfl, hF, rfl, ?_⟩
    refine ⟨_, rfl, b, bxs, rfl, .inr (s2.seqT hB), _, rfl, by omega, by omega, fun D2 hD2 => ?_⟩
    refine lc_it (walk_range (lo := 0) (n := (bxs.length : Int).toNat)) (fun j H' => Same H2 H' ∧ H' D2 = some (.lst ((gvF L (sameB le.c le.r) j).map fun k : Nat => V.int (k : Int)))) ⟨same_new hD2 _, upd_same⟩ (fun _ _ _ _ => trivial) ?_ ?_
    · rintro j y H3x H3 hj ⟨s3, eD2⟩ ⟨rfl, rfl⟩
      have hjn : j < n := by omega
      have s13 := s2.trans s3
      obtain ⟨le2, ea2, y22, fa2, z32, z42, hxk2, ele2, hE2, z22, hF2, _, _⟩ := ent s13 hjn
      have gl2 := gv_len (L := L) (f := sameB le.c le.r) (n := j)
      have gs := gvF_succ (f := sameB le.c le.r) ele2
      have hB3 := s13.seqT hB
      have hE3 := s3.seqT hE
      refine ⟨rfl, _, rfl, _, rfl, b, bxs, _, _, rfl, rfl, hB3, at_any (j := j) (by omega) hxk2, ea2, _, 0, _, rfl, rfl, hE2, rfl, _, rfl, ea, _, 0, _, rfl, rfl, hE3, rfl, rfl, _, rfl, ?_⟩
      have no : sameB le.c le.r le2 ≠ true → some (HO.lst ((gvF L (sameB le.c le.r) j).map fun k : Nat => V.int (k : Int))) = some (HO.lst ((gvF L (sameB le.c le.r) (j + 1)).map fun k : Nat => V.int (k : Int))) := fun z => by rw [gs, if_neg z, List.append_nil]
      refine ite2 (fun z1 => ?_) (fun z1 => ?_)
      · refine ⟨_, rfl, _, rfl, b, bxs, _, _, rfl, rfl, hB3, at_any (j := j) (by omega) hxk2, ea2, _, 2, _, rfl, rfl, hE2, rfl, _, rfl, ea, _, 2, _, rfl, rfl, hE3, rfl, rfl, _, rfl, ?_⟩
        refine ite2 (fun z2 => ?_) (fun z2 => ?_)
        · have hb : sameB le.c le.r le2 = true := decide_eq_true ⟨V.int.inj (of_decide_eq_true z1), V.int.inj (of_decide_eq_true z2)⟩
          refine ⟨_, rfl, _, eD2, lt_line (by rw [List.length_map]; omega), s3.late hD2, ?_⟩
          rw [upd_same, gs, if_pos hb, List.map_append]
          show some (HO.lst (_ ++ [V.int (0 + (j : Int))])) = _
          rw [Int.zero_add]
          rfl
        · exact ⟨s3, eD2.trans (no fun h => z2 (decide_eq_true (congrArg V.int (of_decide_eq_true h).2)))⟩
      · exact iteF ⟨s3, eD2.trans (no fun h => z1 (decide_eq_true (congrArg V.int (of_decide_eq_true h).1)))⟩
    rintro H3 ⟨s3, eD2⟩
    rw [show (bxs.length : Int).toNat = n by omega] at eD2
    obtain ⟨n2, hn2⟩ : ∃ n2, n2 = firstF L le.c le.r := ⟨_, rfl⟩
    rw [← hn2] at hfl ho
    have hfirst : ((gvF L (sameB le.c le.r) n).map fun k : Nat => V.int (k : Int))[0]? = some (.int (n2 : Int)) := by
      rcases gv_first (L := L) (c := le.c) (r := le.r) hn with ⟨_, y⟩ | y
      · omega
      · rw [List.getElem?_map, y, hn2]; rfl
    have s23 := s2.trans s3
    refine ⟨_, rfl, _, rfl, D2, _, 0, _, rfl, rfl, SqL.of eD2, atI_nat hfirst, _, rfl, slA_of (s23.seqT hB) fun b2 H4 s4 hb2 => ?_⟩
    rw [cutV_pre (by omega), Int.toNat_natCast] at hb2
    have s24 := s23.trans s4
    refine ⟨s1.trans s24, n2, b2, bxs.take n2, z4, qq, _, _, _, _, hb2, ?_, (k4.same s3).same s4, qsg, lqq, by omega, by omega, by rw [em2]; exact ho, rfl⟩
    have := dts_take (hbx.same s24) n2
    rw [← List.map_take, List.take_take, Nat.min_eq_left (by omega)] at this
    exact this
/-! ### _law_logged -/
theorem sc_law_logged : FnScope ["tape", "paths", "last", "scale", "word", "path", "scalar", "source", "number"] ["tape", "paths", "last", "scale"] (defScope s_law_logged) := ⟨rfl, rfl, rfl, by decide +kernel, rfl, by decide +kernel, by decide +kernel⟩

def sp_law_logged (K : PySem.W.Frag) : Sp := fun vs H Q _ => ∃ (t PL : Addr) (pxs : List V) (ps : List (List Str)) (lv : V) (sk : Int), vs = [.ref t, .ref PL, lv, .int sk] ∧ Tape H t ∧ PL ≠ t ∧ H PL = some (.lst pxs) ∧ Al2 (PthV H) pxs ps ∧ 1 ≤ ps.length ∧ ps.length ≤ 10 ∧ (∀ p ∈ ps, p.length ≤ 5 ∧ ∀ z ∈ p, SgT z) ∧ (lv = .non ∨ ∃ z, lv = .int z) ∧ (0 ≤ sk ∧ sk ≤ 100) ∧ ∀ v le H', Go t H H' → DT K H' v (leD le) → LeOk le ∧ (le.e.w = copS → le.e.q ≠ none) → Q v H'

theorem ok_law_logged {f : Addr} {fd : FuncData} (F : Fun K "_law_logged" "_law_logged" s_law_logged f fd) (T : Top K w mg) {a_law_draw : Addr} {d_law_draw : FuncData} (C_law_draw : Cal P w K mg base "_law_draw" 1 ["tape", "many"] sp_law_draw a_law_draw d_law_draw) : FnOk P w K mg base CX0 2 f fd ["tape", "paths", "last", "scale"] (sp_law_logged K) := by
  have sc := sc_law_logged
  refine F.ok sc (fun vs H Q E h => ?_) (fun cdv A outer s H vs Q E hr h => ?_)
  · obtain ⟨t, PL, pxs, ps, lv, sk, rfl, _⟩ := h
    rfl
  obtain ⟨t, PL, pxs, ps, lv, sk, rfl, hT, nP, hP, alP, l1, l10, pok, hlv, hsc, q⟩ := h
  refine ⟨_, (pss_cons (ps_set (i := 4) sc.nd rfl (Or.inl rfl) (pe_ix (kx_list (K := K) rfl) (pe_lst (pa_cons pe_str (pa_cons pe_str (pa_cons pe_str (pa_cons pe_str (pa_cons pe_str (pa_cons pe_str pa_nil))))))) (pe_call C_law_draw.ok (hr.mono (by omega)) (by rfl) C_law_draw.m C_law_draw.kp C_law_draw.b .nil pass0 (pa_cons (pv 0) (pa_cons pe_int pa_nil))) (fun _ _ => rfl)))
    (pss_cons (ps_set (i := 5) sc.nd rfl (Or.inl rfl) (pe_ix (kx_list (K := K) rfl) (pv 1) (pe_call C_law_draw.ok (hr.mono (by omega)) (by rfl) C_law_draw.m C_law_draw.kp C_law_draw.b .nil pass0 (pa_cons (pv 0) (pa_cons (pe_callB (kc_lenS (K := K) rfl) (by rfl) T.z_len (by decide +kernel) (pa_cons (pv 1) pa_nil)) pa_nil))) (fun _ _ => rfl)))
    (pss_cons (ps_set (i := 6) sc.nd rfl (Or.inl rfl) (pe_ix (kx_list (K := K) rfl) (pe_lst (pa_cons (pe_tup (pa_cons pe_str pa_nil)) (pa_cons (pe_tup (pa_cons pe_str pa_nil)) (pa_cons (pe_tup (pa_cons pe_str (pa_cons pe_int pa_nil))) (pa_cons (pe_tup (pa_cons pe_str (pa_cons pe_str pa_nil))) pa_nil))))) (pe_call C_law_draw.ok (hr.mono (by omega)) (by rfl) C_law_draw.m C_law_draw.kp C_law_draw.b .nil pass0 (pa_cons (pv 0) (pa_cons pe_int pa_nil))) (fun _ _ => rfl)))
    (pss_cons (ps_set (i := 7) sc.nd rfl (Or.inl rfl) pe_non)
    (C8.pss_cut (ps_if (pt_cmpR op_eq (pv 4) pe_str (nomark _))
      (pss_one (ps_set (i := 7) sc.nd rfl (Or.inl rfl) (pe_ix (kx_list (K := K) rfl) (pv 1) (pe_call C_law_draw.ok (hr.mono (by omega)) (by rfl) C_law_draw.m C_law_draw.kp C_law_draw.b .nil pass0 (pa_cons (pv 0) (pa_cons (pe_callB (kc_lenS (K := K) rfl) (by rfl) T.z_len (by decide +kernel) (pa_cons (pv 1) pa_nil)) pa_nil))) (fun _ _ => rfl))))
      pss_nil)
    (C8.pss_cut (ps_if (pt_cmpR op_eq (pv 4) pe_str (nomark _))
      (pss_one (ps_set (i := 6) sc.nd rfl (Or.inl rfl) pe_non))
      pss_nil)
    (pss_cons (ps_set (i := 8) sc.nd rfl (Or.inl rfl) (pe_call C_law_draw.ok (hr.mono (by omega)) (by rfl) C_law_draw.m C_law_draw.kp C_law_draw.b .nil pass0 (pa_cons (pv 0) (pa_cons pe_int pa_nil))))
    (C8.pss_cut (ps_if (pt_cmpR op_notN (pv 2) pe_non (nomark _))
      (pss_one (ps_set (i := 8) sc.nd rfl (Or.inl rfl) (pe_op op_add (pv 2) (pe_call C_law_draw.ok (hr.mono (by omega)) (by rfl) C_law_draw.m C_law_draw.kp C_law_draw.b .nil pass0 (pa_cons (pv 0) (pa_cons pe_int pa_nil))))))
      pss_nil)
    (pss_one (ps_ret (pe_tup (pa_cons (pv 8) (pa_cons (pe_ix (kx_list (K := K) rfl) (pe_lst (pa_cons pe_str (pa_cons pe_str pa_nil))) (pe_call C_law_draw.ok (hr.mono (by omega)) (by rfl) C_law_draw.m C_law_draw.kp C_law_draw.b .nil pass0 (pa_cons (pv 0) (pa_cons pe_int pa_nil))) (fun _ _ => rfl)) (pa_cons (pe_op op_mul (pv 3) (pe_call C_law_draw.ok (hr.mono (by omega)) (by rfl) C_law_draw.m C_law_draw.kp C_law_draw.b .nil pass0 (pa_cons (pv 0) (pa_cons pe_int pa_nil)))) (pa_cons (pe_tup (pa_cons (pv 4) (pa_cons (pv 5) (pa_cons (pv 6) (pa_cons (pv 7) pa_nil))))) pa_nil))))))))))))))), ?_⟩

  have lp := alP.len
  -- the word
  refine ⟨(by show 6 ≤ sizeLine; decide), fun o1 ho1 => ?_⟩
  have g1 := (Go.refl hT).new (o := .lst ([Str.ofString "set", Str.ofString "default", Str.ofString "copy", Str.ofString "copy", Str.ofString "copy", rmS].map V.str)) ho1
  have n1 := hT.ne ho1
  refine ⟨_, rfl, t, 6, rfl, g1.tp, by decide, by decide, fun r1 H1 r10 r11 g2 => ?_⟩
  obtain ⟨v1, a1, m1⟩ := pick_at (xs := [Str.ofString "set", Str.ofString "default", Str.ofString "copy", Str.ofString "copy", Str.ofString "copy", rmS].map V.str) r10 (by show r1 < 6; omega)
  obtain ⟨wd, hwd, rfl⟩ := List.mem_map.mp m1
  have all : ∀ z ∈ [Str.ofString "set", Str.ofString "default", Str.ofString "copy", Str.ofString "copy", Str.ofString "copy", rmS], ∀ c ∈ z.cps.toList, Sg c := by decide +kernel
  have swd := all wd hwd
  refine ⟨o1, _, r1, _, rfl, rfl, SqL.of (g2.sm _ _ n1 upd_same), a1, ?_⟩
  have g2 := g1.trans g2
  -- the path
  have hP2 := g2.sm _ _ nP hP
  have alx : ∀ {Hx : Hp}, Go t H Hx → Al2 (PthV Hx) pxs ps := fun g => alP.mono fun _ _ h => h.mono fun _ _ e => tup_go hT g.sm e
  refine ⟨_, rfl, _, rfl, _, rfl, PL, pxs, rfl, .inl (SqL.of hP2), t, pxs.length, rfl, g2.tp, by omega, by omega, fun r2 H3 r20 r21 g3 => ?_⟩
  have g3 := g2.trans g3
  obtain ⟨v2, a2, m2⟩ := pick_at (xs := pxs) r20 (by omega)
  obtain ⟨p, hp, b, rfl, hb⟩ := (alx g3).mem m2
  refine ⟨PL, _, r2, _, rfl, rfl, SqL.of (g3.sm _ _ nP hP), a2, ?_⟩
  -- the scalar
  refine ⟨(by show 1 ≤ sizeLine; decide), fun oa hoa => ⟨(by show 1 ≤ sizeLine; decide), fun ob hob => ⟨(by show 2 ≤ sizeLine; decide), fun oc hoc => ⟨(by show 2 ≤ sizeLine; decide), fun od hod => ⟨(by show 4 ≤ sizeLine; decide), fun ol hol => ?_⟩⟩⟩⟩⟩
  have sa := same_new hoa (.tup [V.str (Str.ofString "null")])
  have sb := same_new hob (.tup [V.str (Str.ofString "true")])
  have sc := same_new hoc (.tup [V.str (Str.ofString "number"), V.int 7])
  have sd := same_new hod (.tup [V.str (Str.ofString "text"), V.str (Str.ofString "x")])
  have sl := same_new hol (.lst [V.ref oa, V.ref ob, V.ref oc, V.ref od])
  have da : DT K _ (.ref oa) (.tup (scD .null)) := (DT.tup (SqT.of (show (upd H3 oa (.tup [V.str (Str.ofString "null")])) oa = _ from upd_same)) (.cons (.str _) .nil)).same (sb.trans (sc.trans (sd.trans sl)))
  have db : DT K _ (.ref ob) (.tup (scD .tru)) := (DT.tup (SqT.of (show (upd (upd H3 oa (.tup [V.str (Str.ofString "null")])) ob (.tup [V.str (Str.ofString "true")])) ob = _ from upd_same)) (.cons (.str _) .nil)).same (sc.trans (sd.trans sl))
  have dc := (DT.tup (K := K) (SqT.of (show (upd (upd (upd H3 oa (.tup [V.str (Str.ofString "null")])) ob (.tup [V.str (Str.ofString "true")])) oc (.tup [V.str (Str.ofString "number"), V.int 7])) oc = _ from upd_same)) (.cons (.str _) (.cons (.int _) .nil))).same (sd.trans sl)
  have dd := (DT.tup (K := K) (SqT.of (show (upd (upd (upd (upd H3 oa (.tup [V.str (Str.ofString "null")])) ob (.tup [V.str (Str.ofString "true")])) oc (.tup [V.str (Str.ofString "number"), V.int 7])) od (.tup [V.str (Str.ofString "text"), V.str (Str.ofString "x")])) od = _ from upd_same)) (.cons (.str _) (.cons (.str _) .nil))).same sl
  have g34 := Go.same g3.tp (sa.trans (sb.trans (sc.trans (sd.trans sl))))
  have gd := Go.same g3.tp (sa.trans (sb.trans (sc.trans sd)))
  have nl := gd.tp.ne hol
  have el : (upd (upd (upd (upd (upd H3 oa (.tup [V.str (Str.ofString "null")])) ob (.tup [V.str (Str.ofString "true")])) oc (.tup [V.str (Str.ofString "number"), V.int 7])) od (.tup [V.str (Str.ofString "text"), V.str (Str.ofString "x")])) ol (.lst [V.ref oa, V.ref ob, V.ref oc, V.ref od])) ol = some (.lst [V.ref oa, V.ref ob, V.ref oc, V.ref od]) := upd_same
  generalize upd (upd (upd (upd (upd H3 oa (.tup [V.str (Str.ofString "null")])) ob (.tup [V.str (Str.ofString "true")])) oc (.tup [V.str (Str.ofString "number"), V.int 7])) od (.tup [V.str (Str.ofString "text"), V.str (Str.ofString "x")])) ol (.lst [V.ref oa, V.ref ob, V.ref oc, V.ref od]) = H4 at *
  refine ⟨_, rfl, t, 4, rfl, g34.tp, by decide, by decide, fun r3 H5 r30 r31 g45 => ?_⟩
  obtain ⟨v3, a3, m3⟩ := pick_at (xs := [V.ref oa, V.ref ob, V.ref oc, V.ref od]) r30 (by show r3 < 4; omega)
  obtain ⟨s0, ds0⟩ : ∃ s0 : Sc, DT K H5 v3 (.tup (scD s0)) := by
    simp only [List.mem_cons, List.not_mem_nil, or_false] at m3
    rcases m3 with rfl | rfl | rfl | rfl
    · exact ⟨.null, da.go g34.tp g45.sm⟩
    · exact ⟨.tru, db.go g34.tp g45.sm⟩
    · exact ⟨.num 7, dc.go g34.tp g45.sm⟩
    · exact ⟨.text (Str.ofString "x"), dd.go g34.tp g45.sm⟩
  refine ⟨ol, _, r3, _, rfl, rfl, SqL.of (g45.sm _ _ nl el), a3, ?_⟩
  have g35 := g34.trans g45
  have g5 := g3.trans g35
  have hb5 := tup_go g3.tp g35.sm hb
  clear da db dc dd sa sb sc sd sl g34 g45 el
  -- the source
  refine ⟨fun σ H' => Go t H5 H' ∧ ∃ (sv : V) (src : Option (List Str)), DT K H' sv (ptO src) ∧ (wd = copS → src ≠ none) ∧ (∀ q, src = some q → q ∈ ps) ∧ σ = [some (.ref t), some (.ref PL), some lv, some (.int sk), some (.str wd), some (.ref b), some v3, some sv, none], ?_, ?_⟩
  · refine ⟨_, rfl, rfl, _, rfl, ite2 (fun z => ?_) (fun z => ?_)⟩
    · refine ⟨_, rfl, _, rfl, _, rfl, PL, pxs, rfl, .inl (SqL.of (g5.sm _ _ nP hP)), t, pxs.length, rfl, g5.tp, by omega, by omega, fun r4 H6 r40 r41 g6 => ?_⟩
      obtain ⟨v4, a4, m4⟩ := pick_at (xs := pxs) r40 (by omega)
      obtain ⟨p4, hp4, b4, rfl, hb4⟩ := (alx (g5.trans g6)).mem m4
      exact ⟨PL, _, r4, _, rfl, rfl, SqL.of ((g5.trans g6).sm _ _ nP hP), a4, g6, .ref b4, some p4, DT.path (SqT.of hb4), (fun _ h => by cases h), (fun q e => by cases e; exact hp4), rfl⟩
    · exact ⟨Go.refl g5.tp, .non, none, .non, (fun e => absurd (decide_eq_true (congrArg V.str e)) z), (fun _ e => by cases e), rfl⟩
  rintro σ H6 ⟨g6, sv, src, dsv, hcs, hin, rfl⟩
  have g06 := g5.trans g6
  have hb6 := tup_go g5.tp g6.sm hb5
  refine ⟨fun σ H' => H' = H6 ∧ ∃ (uv : V) (c : Option Sc), DT K H6 uv (scO c) ∧ σ = [some (.ref t), some (.ref PL), some lv, some (.int sk), some (.str wd), some (.ref b), some uv, some sv, none], ?_, ?_⟩
  · refine ⟨_, rfl, rfl, _, rfl, ite2 (fun _ => ?_) (fun _ => ?_)⟩
    · exact ⟨rfl, .non, none, .non, rfl⟩
    · exact ⟨rfl, v3, some s0, ds0.go g5.tp g6.sm, rfl⟩
  rintro σ H6' ⟨rfl, uv, c, duv, rfl⟩
  -- the number
  refine ⟨_, rfl, t, 5, rfl, g6.tp, by decide, by decide, fun r5 H7 _ _ g7 => ?_⟩
  refine ⟨fun σ H' => Go t H7 H' ∧ ∃ n : Int, σ = [some (.ref t), some (.ref PL), some lv, some (.int sk), some (.str wd), some (.ref b), some uv, some sv, some (.int n)], ?_, ?_⟩
  · rcases hlv with rfl | ⟨z, rfl⟩
    · exact ⟨_, rfl, rfl, _, rfl, iteF ⟨Go.refl g7.tp, r5, rfl⟩⟩
    · exact ⟨_, rfl, rfl, _, rfl, iteT ⟨_, rfl, _, rfl, t, 2, rfl, g7.tp, by decide, by decide, fun r6 H8 _ _ g8 => ⟨_, _, rfl, rfl, g8, _, rfl⟩⟩⟩
  rintro σ H8 ⟨g8, n, rfl⟩
  have g08 := g7.trans g8
  refine ⟨_, rfl, (by show 2 ≤ sizeLine; decide), fun o5 ho5 => ?_⟩
  have g9 := (Go.refl g8.tp).new (o := .lst ([Str.ofString "h", Str.ofString "k"].map V.str)) ho5
  have n5 := g8.tp.ne ho5
  refine ⟨_, rfl, t, 2, rfl, g9.tp, by decide, by decide, fun r7 H9 r70 r71 g10 => ?_⟩
  obtain ⟨v7, a7, m7⟩ := pick_at (xs := [Str.ofString "h", Str.ofString "k"].map V.str) r70 (by show r7 < 2; omega)
  obtain ⟨hs, _, rfl⟩ := List.mem_map.mp m7
  refine ⟨o5, _, r7, _, rfl, rfl, SqL.of (g10.sm _ _ n5 upd_same), a7, ?_⟩
  have g10 := g9.trans g10
  refine ⟨_, rfl, _, rfl, t, 3, rfl, g10.tp, by decide, by decide, fun r8 H10 r80 r81 g11 => ⟨_, _, rfl, rfl, .inl ⟨by omega, by omega⟩, ?_⟩⟩
  refine ⟨_, rfl, _, rfl, _, rfl, _, rfl, (by show 4 ≤ sizeLine; decide), fun o6 ho6 => ⟨(by show 4 ≤ sizeLine; decide), fun o7 ho7 => ?_⟩⟩
  have g12 := g10.trans g11
  have g612 := g08.trans g12
  have s6 := same_new ho6 (.tup [V.str wd, V.ref b, uv, sv])
  have s7 := same_new ho7 (.tup [V.int n, V.str hs, V.int (sk * r8), V.ref o6])
  have dE : DT K (upd H10 o6 (.tup [V.str wd, V.ref b, uv, sv])) (.ref o6) (efD ⟨wd, p, c, src⟩) := .tup (SqT.of upd_same) (.cons (.str _) (.cons ((DT.path (SqT.of (tup_go g6.tp g612.sm hb6))).same s6) (.cons ((duv.go g6.tp g612.sm).same s6) (.cons ((dsv.go g6.tp g612.sm).same s6) .nil))))
  refine q (.ref o7) ⟨n, hs, sk * r8, ⟨wd, p, c, src⟩⟩ _ ((g06.trans g612).trans (Go.same g612.tp (s6.trans s7))) (.tup (SqT.of upd_same) (.cons (.int _) (.cons (.str _) (.cons (.int _) (.cons (dE.same s7) .nil))))) ⟨⟨(pok p hp).2, ?_, fun q e => ?_, swd⟩, hcs⟩
  · have := (pok p hp).1
    show p.length ≤ 1000
    omega
  · have := pok q (hin q e)
    exact ⟨this.2, by omega⟩
/-! ### law -/
theorem sc_law : FnScope ["script", "tape", "keys", "paths", "many", "rising", "scale", "log", "k", "cut", "path", "last", "one"] ["script"] (defScope s_law) := ⟨rfl, rfl, rfl, by decide +kernel, rfl, by decide +kernel, by decide +kernel⟩

theorem orig_ok {L : List Le} (ok : ∀ y ∈ L, LeOk y) : ∀ (m n : Nat) (p : List Str), p.length ≤ 1000 → (origF L m n p).deep ≤ 40 ∧ (origF L m n p).fits = true := by
  have fld : ∀ p : List Str, p.length ≤ 1000 → (Dt.tup [.str (Str.ofString "field"), ptD p]).deep ≤ 40 ∧ (Dt.tup [.str (Str.ofString "field"), ptD p]).fits = true := fun p h => by
    have h1 := deep_path p
    have h2 : (ptD p).fits = true := fits_strs (by omega)
    refine ⟨by show max 1 (max (ptD p).deep 0) + 1 ≤ 40; omega, ?_⟩
    show (decide (2 ≤ 1000000) && (true && ((ptD p).fits && true))) = true
    rw [h2]
    rfl
  intro m
  induction m with
  | zero => intro n p h; exact fld p h
  | succ m ih =>
    intro n p h
    rw [origF]
    cases giveN L p n with
    | none => exact fld p h
    | some k =>
      show (match L[k]? with
        | none => Dt.non
        | some x => if x.e.w = copS then origF L m (firstF L x.c x.r) (x.e.q.getD []) else .tup [.str (Str.ofString "literal"), .int x.c]).deep ≤ 40 ∧ (match L[k]? with
        | none => Dt.non
        | some x => if x.e.w = copS then origF L m (firstF L x.c x.r) (x.e.q.getD []) else .tup [.str (Str.ofString "literal"), .int x.c]).fits = true
      cases e : L[k]? with
      | none => exact ⟨by show 1 ≤ 40; decide, rfl⟩
      | some x =>
        show (if x.e.w = copS then origF L m (firstF L x.c x.r) (x.e.q.getD []) else .tup [.str (Str.ofString "literal"), .int x.c]).deep ≤ 40 ∧ (if x.e.w = copS then origF L m (firstF L x.c x.r) (x.e.q.getD []) else .tup [.str (Str.ofString "literal"), .int x.c]).fits = true
        by_cases z : x.e.w = copS
        · rw [if_pos z]
          refine ih _ _ ?_
          cases eq : x.e.q with
          | none => exact Nat.zero_le _
          | some q => exact ((ok x (List.mem_of_getElem? e)).q q eq).2
        · rw [if_neg z]
          exact ⟨by show max 1 (max 1 0) + 1 ≤ 40; decide, rfl⟩


def sp_law (K : PySem.W.Frag) : Sp := fun vs H Q _ => ∃ (a : Addr) (ns : List Int), vs = [.ref a] ∧ SqL K H a (ns.map V.int) ∧ ns.length ≤ 63 ∧ ∀ H', Q (.bl true) H'

theorem ok_law {f : Addr} {fd : FuncData} (F : Fun K "law" "law" s_law f fd) (T : Top K w mg) {a_origin_of : Addr} {d_origin_of : FuncData} (C_origin_of : Cal P w K mg base "origin_of" 2 ["log", "path"] sp_origin_of a_origin_of d_origin_of) {a_law_tape : Addr} {d_law_tape : FuncData} (C_law_tape : Cal P w K mg base "_law_tape" 1 ["script"] sp_law_tape a_law_tape d_law_tape) {a_law_draw : Addr} {d_law_draw : FuncData} (C_law_draw : Cal P w K mg base "_law_draw" 1 ["tape", "many"] sp_law_draw a_law_draw d_law_draw) {a_law_same : Addr} {d_law_same : FuncData} (C_law_same : Cal P w K mg base "_law_same" 40 ["told", "due"] sp_law_same a_law_same d_law_same) {a_law_keys : Addr} {d_law_keys : FuncData} (C_law_keys : Cal P w K mg base "_law_keys" 2 ["tape", "many"] sp_law_keys a_law_keys d_law_keys) {a_law_origin : Addr} {d_law_origin : FuncData} (C_law_origin : Cal P w K mg base "_law_origin" 1 ["log", "path"] sp_law_origin a_law_origin d_law_origin) {a_law_logged : Addr} {d_law_logged : FuncData} (C_law_logged : Cal P w K mg base "_law_logged" 2 ["tape", "paths", "last", "scale"] sp_law_logged a_law_logged d_law_logged) : FnOk P w K mg base CX0 41 f fd ["script"] (sp_law K) := by
  have sc := sc_law
  refine F.ok sc (fun vs H Q E h => ?_) (fun cdv A outer s H vs Q E hr h => ?_)
  · obtain ⟨a, ns, rfl, _⟩ := h
    rfl
  obtain ⟨a, ns, rfl, hS, hn, q⟩ := h
  refine ⟨_, (pss_cons (ps_set (i := 1) sc.nd rfl (Or.inl rfl) (pe_call C_law_tape.ok (hr.mono (by omega)) (by rfl) C_law_tape.m C_law_tape.kp C_law_tape.b .nil pass0 (pa_cons (pv 0) pa_nil)))
    (pss_cons (ps_set (i := 2) sc.nd rfl (Or.inl rfl) (pe_call C_law_keys.ok (hr.mono (by omega)) (by rfl) C_law_keys.m C_law_keys.kp C_law_keys.b .nil pass0 (pa_cons (pv 1) (pa_cons pe_int pa_nil))))
    (pss_cons (ps_set (i := 3) sc.nd rfl (Or.inl rfl) (pe_lst (pa_cons (pe_tup (pa_cons (pe_ix (kx_list (K := K) rfl) (pv 2) pe_int (fun _ _ => rfl)) pa_nil)) (pa_cons (pe_tup (pa_cons (pe_ix (kx_list (K := K) rfl) (pv 2) pe_int (fun _ _ => rfl)) pa_nil)) (pa_cons (pe_tup (pa_cons (pe_ix (kx_list (K := K) rfl) (pv 2) pe_int (fun _ _ => rfl)) (pa_cons (pe_ix (kx_list (K := K) rfl) (pv 2) pe_int (fun _ _ => rfl)) pa_nil))) (pa_cons (pe_tup (pa_cons (pe_ix (kx_list (K := K) rfl) (pv 2) pe_int (fun _ _ => rfl)) (pa_cons (pe_ix (kx_list (K := K) rfl) (pv 2) pe_int (fun _ _ => rfl)) (pa_cons (pe_ix (kx_list (K := K) rfl) (pv 2) pe_int (fun _ _ => rfl)) pa_nil)))) (pa_cons (pe_tup (pa_cons (pe_ix (kx_list (K := K) rfl) (pv 2) pe_int (fun _ _ => rfl)) pa_nil)) pa_nil)))))))
    (pss_cons (ps_set (i := 4) sc.nd rfl (Or.inl rfl) (pe_call C_law_draw.ok (hr.mono (by omega)) (by rfl) C_law_draw.m C_law_draw.kp C_law_draw.b .nil pass0 (pa_cons (pv 1) (pa_cons pe_int pa_nil))))
    (C8.pss_cut (ps_if (pt_cmpR op_eq (pe_call C_law_draw.ok (hr.mono (by omega)) (by rfl) C_law_draw.m C_law_draw.kp C_law_draw.b .nil pass0 (pa_cons (pv 1) (pa_cons pe_int pa_nil))) pe_int (nomark _))
      (pss_one (ps_set (i := 4) sc.nd rfl (Or.inl rfl) pe_int))
      pss_nil)
    (pss_cons (ps_set (i := 5) sc.nd rfl (Or.inl rfl) (pe_cmpR op_eq (pe_call C_law_draw.ok (hr.mono (by omega)) (by rfl) C_law_draw.m C_law_draw.kp C_law_draw.b .nil pass0 (pa_cons (pv 1) (pa_cons pe_int pa_nil))) pe_int (nomark _)))
    (pss_cons (ps_set (i := 6) sc.nd rfl (Or.inl rfl) (pe_ix (kx_list (K := K) rfl) (pe_lst (pa_cons pe_int (pa_cons pe_int (pa_cons pe_int (pa_cons pe_int (pa_cons pe_int pa_nil)))))) (pe_call C_law_draw.ok (hr.mono (by omega)) (by rfl) C_law_draw.m C_law_draw.kp C_law_draw.b .nil pass0 (pa_cons (pv 1) (pa_cons pe_int pa_nil))) (fun _ _ => rfl)))
    (pss_cons (ps_set (i := 7) sc.nd rfl (Or.inl rfl) (pe_tup pa_nil))
    (pss_cons (ps_for PassesOwn.never rfl (pi_range1 (by rfl) T.z_range (pa_cons (pv 4) pa_nil)) (pg_name (i := 8) sc.nd rfl (Or.inl rfl))
      (pss_cons (ps_set (i := 11) sc.nd rfl (Or.inl rfl) pe_non)
      (C8.pss_cut (ps_if (pt_val (pv 5))
        (pss_cons (ps_set (i := 11) sc.nd rfl (Or.inl rfl) pe_int)
        (pss_one (ps_if (pt_cmpR op_gt (pv 8) pe_int (nomark _))
          (pss_one (ps_set (i := 11) sc.nd rfl (Or.inl rfl) (pe_ix (kx_tup (K := K) rfl) (pe_ix (kx_tup (K := K) rfl) (pv 7) (pe_op op_sub (pv 8) pe_int) (fun _ _ => rfl)) pe_int (fun _ _ => rfl))))
          pss_nil)))
        pss_nil)
      (pss_one (ps_set (i := 7) sc.nd rfl (Or.inl rfl) (pe_op (kop_catT (K := K) rfl) (pv 7) (pe_tup (pa_cons (pe_call C_law_logged.ok (hr.mono (by omega)) (by rfl) C_law_logged.m C_law_logged.kp C_law_logged.b .nil pass0 (pa_cons (pv 1) (pa_cons (pv 3) (pa_cons (pv 11) (pa_cons (pv 6) pa_nil))))) pa_nil))))))))
    (pss_cons (ps_set (i := 9) sc.nd rfl (Or.inl rfl) (pe_call C_law_draw.ok (hr.mono (by omega)) (by rfl) C_law_draw.m C_law_draw.kp C_law_draw.b .nil pass0 (pa_cons (pv 1) (pa_cons (pe_op op_add (pv 4) pe_int) pa_nil))))
    (pss_cons (ps_for PassesOwn.never rfl (kpi_list (K := K) rfl (pe_op op_cat (pv 3) (pe_lst (pa_cons (pe_tup (pa_cons (pe_ix (kx_list (K := K) rfl) (pv 2) pe_int (fun _ _ => rfl)) (pa_cons (pe_ix (kx_list (K := K) rfl) (pv 2) pe_int (fun _ _ => rfl)) pa_nil))) pa_nil)))) (pg_name (i := 10) sc.nd rfl (Or.inl rfl))
      (pss_one (ps_for PassesOwn.never rfl (kpi_list (K := K) rfl (pe_lst (pa_cons (pv 7) (pa_cons (pe_slice (ksl_tup (K := K) rfl) (pv 7) po_none (po_some (pv 9))) pa_nil)))) (pg_name (i := 12) sc.nd rfl (Or.inl rfl))
        (pss_one (ps_if (pt_not (pt_val (pe_call C_law_same.ok (hr.mono (by omega)) (by rfl) C_law_same.m C_law_same.kp C_law_same.b .nil pass0 (pa_cons (pe_call C_origin_of.ok (hr.mono (by omega)) (by rfl) C_origin_of.m C_origin_of.kp C_origin_of.b .nil pass0 (pa_cons (pv 12) (pa_cons (pv 10) pa_nil))) (pa_cons (pe_call C_law_origin.ok (hr.mono (by omega)) (by rfl) C_law_origin.m C_law_origin.kp C_law_origin.b .nil pass0 (pa_cons (pv 12) (pa_cons (pv 10) pa_nil))) pa_nil)))))
          (pss_one (ps_ret pe_bl))
          pss_nil)))))
    (pss_one (ps_ret pe_bl))))))))))))), ?_⟩

  refine ⟨_, rfl, a, ns, rfl, hS, hn, fun t H1 hT ht s1 => ?_⟩
  refine ⟨_, rfl, t, rfl, hT, fun kp ws H2 g2 fkp ekp lws hws => ?_⟩
  have nkp := hT.ne fkp
  obtain ⟨z0, z1, z2, z3, z4, rfl⟩ : ∃ z0 z1 z2 z3 z4, ws = [z0, z1, z2, z3, z4] := by
    match ws, lws with
    | [a, b, c, d, e], _ => exact ⟨a, b, c, d, e, rfl⟩
  have y0 := hws z0 (by simp)
  have y1 := hws z1 (by simp)
  have y2 := hws z2 (by simp)
  have y3 := hws z3 (by simp)
  have y4 := hws z4 (by simp)
  refine ⟨_, rfl, kp, _, 0, _, rfl, rfl, SqL.of ekp, rfl, (by show 1 ≤ sizeLine; decide), fun oa hoa => ?_⟩
  have soa := same_new hoa (.tup [V.str z0])
  have ekp := soa _ _ ekp
  have goa := Go.same g2.tp soa
  have poa : (upd H2 oa (.tup [V.str z0])) oa = some (.tup [V.str z0]) := upd_same
  generalize upd H2 oa (.tup [V.str z0]) = H2a at *
  refine ⟨_, rfl, kp, _, 1, _, rfl, rfl, SqL.of ekp, rfl, (by show 1 ≤ sizeLine; decide), fun ob hob => ?_⟩
  have sob := same_new hob (.tup [V.str z1])
  have ekp := sob _ _ ekp
  have gob := Go.same goa.tp sob
  have pob : (upd H2a ob (.tup [V.str z1])) ob = some (.tup [V.str z1]) := upd_same
  have poa := sob _ _ poa
  generalize upd H2a ob (.tup [V.str z1]) = H2b at *
  refine ⟨_, rfl, kp, _, 0, _, rfl, rfl, SqL.of ekp, rfl, _, rfl, kp, _, 2, _, rfl, rfl, SqL.of ekp, rfl, (by show 2 ≤ sizeLine; decide), fun oc hoc => ?_⟩
  have soc := same_new hoc (.tup [V.str z0, V.str z2])
  have ekp := soc _ _ ekp
  have goc := Go.same gob.tp soc
  have poc : (upd H2b oc (.tup [V.str z0, V.str z2])) oc = some (.tup [V.str z0, V.str z2]) := upd_same
  have poa := soc _ _ poa
  have pob := soc _ _ pob
  generalize upd H2b oc (.tup [V.str z0, V.str z2]) = H2c at *
  refine ⟨_, rfl, kp, _, 3, _, rfl, rfl, SqL.of ekp, rfl, _, rfl, kp, _, 1, _, rfl, rfl, SqL.of ekp, rfl, _, rfl, kp, _, 4, _, rfl, rfl, SqL.of ekp, rfl, (by show 3 ≤ sizeLine; decide), fun od hod => ?_⟩
  have sod := same_new hod (.tup [V.str z3, V.str z1, V.str z4])
  have ekp := sod _ _ ekp
  have god := Go.same goc.tp sod
  have pod : (upd H2c od (.tup [V.str z3, V.str z1, V.str z4])) od = some (.tup [V.str z3, V.str z1, V.str z4]) := upd_same
  have poa := sod _ _ poa
  have pob := sod _ _ pob
  have poc := sod _ _ poc
  generalize upd H2c od (.tup [V.str z3, V.str z1, V.str z4]) = H2d at *
  refine ⟨_, rfl, kp, _, 2, _, rfl, rfl, SqL.of ekp, rfl, (by show 1 ≤ sizeLine; decide), fun oe hoe => ?_⟩
  have soe := same_new hoe (.tup [V.str z2])
  have ekp := soe _ _ ekp
  have goe := Go.same god.tp soe
  have poe : (upd H2d oe (.tup [V.str z2])) oe = some (.tup [V.str z2]) := upd_same
  have poa := soe _ _ poa
  have pob := soe _ _ pob
  have poc := soe _ _ poc
  have pod := soe _ _ pod
  generalize upd H2d oe (.tup [V.str z2]) = H2e at *
  refine ⟨(by show 5 ≤ sizeLine; decide), fun PL hPL => ?_⟩
  have sPL := same_new hPL (.lst [V.ref oa, V.ref ob, V.ref oc, V.ref od, V.ref oe])
  have ekp := sPL _ _ ekp
  have ePL : (upd H2e PL (.lst [V.ref oa, V.ref ob, V.ref oc, V.ref od, V.ref oe])) PL = some (.lst [V.ref oa, V.ref ob, V.ref oc, V.ref od, V.ref oe]) := upd_same
  have poa := sPL _ _ poa
  have pob := sPL _ _ pob
  have poc := sPL _ _ poc
  have pod := sPL _ _ pod
  have poe := sPL _ _ poe
  have nPL := goe.tp.ne hPL
  have g3 := (goa.trans (gob.trans (goc.trans (god.trans goe)))).trans (Go.same goe.tp sPL)
  have g3 := g2.trans g3
  generalize upd H2e PL (.lst [V.ref oa, V.ref ob, V.ref oc, V.ref od, V.ref oe]) = H3 at *
  clear soa sob soc sod soe sPL goa gob goc god goe
  obtain ⟨ps, hps⟩ : ∃ ps : List (List Str), ps = [[z0], [z1], [z0, z2], [z3, z1, z4], [z2]] := ⟨_, rfl⟩
  have alP : Al2 (PthV H3) [V.ref oa, V.ref ob, V.ref oc, V.ref od, V.ref oe] ps := by
    rw [hps]
    exact .cons ⟨oa, rfl, poa⟩ (.cons ⟨ob, rfl, pob⟩ (.cons ⟨oc, rfl, poc⟩ (.cons ⟨od, rfl, pod⟩ (.cons ⟨oe, rfl, poe⟩ .nil))))
  have pok : ∀ p ∈ ps, p.length ≤ 5 ∧ ∀ z ∈ p, SgT z := fun p hp => by
    rw [hps] at hp
    simp only [List.mem_cons, List.not_mem_nil, or_false] at hp
    rcases hp with rfl | rfl | rfl | rfl | rfl
    all_goals
      refine ⟨by simp, fun z hz => ?_⟩
      simp only [List.mem_cons, List.not_mem_nil, or_false] at hz
      rcases hz with rfl | rfl | rfl <;> first | exact y0.1 | exact y1.1 | exact y2.1 | exact y3.1 | exact y4.1
  have l5 : ps.length = 5 := by rw [hps]; rfl
  -- how many
  refine ⟨_, rfl, t, 13, rfl, g3.tp, by decide, by decide, fun r1 H4 r10 r11 g4 => ?_⟩
  obtain ⟨m1, rfl⟩ : ∃ m1 : Nat, r1 = (m1 : Int) := ⟨r1.toNat, by omega⟩
  have k4 := g4
  have g4 := g3.trans g4
  refine ⟨fun σ H' => Go t H4 H' ∧ ∃ m : Nat, m ≤ 60 ∧ σ = [some (.ref a), some (.ref t), some (.ref kp), some (.ref PL), some (.int (m : Int)), none, none, none, none, none, none, none, none], ?_, ?_⟩
  · exact ⟨_, rfl, t, 16, rfl, g4.tp, by decide, by decide, fun r2 H5 _ _ g5 => ⟨rfl, _, rfl, ite2 (fun _ => ⟨g5, 60, by decide, rfl⟩) (fun _ => ⟨g5, m1, by omega, rfl⟩)⟩⟩
  rintro σ H5 ⟨g5, m, hm, rfl⟩
  have k5 := k4.trans g5
  have g5 := g4.trans g5
  refine ⟨_, rfl, t, 2, rfl, g5.tp, by decide, by decide, fun r3 H6 _ _ g6 => ⟨rfl, ?_⟩⟩
  have k6 := k5.trans g6
  have g6 := g5.trans g6
  obtain ⟨rs, hrs⟩ : ∃ rs, rs = decide (V.int r3 = V.int 0) := ⟨_, rfl⟩
  rw [← hrs]
  refine ⟨(by show 5 ≤ sizeLine; decide), fun o1 ho1 => ?_⟩
  have g7 := (Go.refl g6.tp).new (o := .lst [V.int 1, V.int 1, V.int 1, V.int 10, V.int 49]) ho1
  have n1 := g6.tp.ne ho1
  refine ⟨_, rfl, t, 5, rfl, g7.tp, by decide, by decide, fun r4 H7 r40 r41 g8 => ?_⟩
  obtain ⟨v4, a4, m4⟩ := pick_at (xs := [V.int 1, V.int 1, V.int 1, V.int 10, V.int 49]) r40 (by show r4 < 5; omega)
  obtain ⟨sk, hsk, rfl⟩ : ∃ sk : Int, (0 ≤ sk ∧ sk ≤ 100) ∧ v4 = .int sk := by
    simp only [List.mem_cons, List.not_mem_nil, or_false] at m4
    rcases m4 with rfl | rfl | rfl | rfl | rfl
    · exact ⟨1, by decide, rfl⟩
    · exact ⟨1, by decide, rfl⟩
    · exact ⟨1, by decide, rfl⟩
    · exact ⟨10, by decide, rfl⟩
    · exact ⟨49, by decide, rfl⟩
  refine ⟨o1, _, r4, _, rfl, rfl, SqL.of (g8.sm _ _ n1 upd_same), a4, ?_⟩
  have k8 := k6.trans (g7.trans g8)
  have g8 := g6.trans (g7.trans g8)
  refine ⟨(by show 0 ≤ sizeLine; decide), fun ol hol => ?_⟩
  have s9 := same_new hol (.tup [])
  have dl0 : DT K (upd H7 ol (.tup [])) (.ref ol) (.tup (([] : List Le).map leD)) := .tup (SqT.of upd_same) .nil
  have k9 := k8.trans (Go.same g8.tp s9)
  have g9 := g8.trans (Go.same g8.tp s9)
  generalize upd H7 ol (.tup []) = H9 at *
  refine ⟨_, rfl, m, rfl, by omega, by omega, ?_⟩
  refine for_it (walk_range (lo := 0) (n := (m : Int).toNat)) (fun i σ H' => Go t H9 H' ∧ ∃ (b : Addr) (L : List Le) (v8 v11 : Option V), DT K H' (.ref b) (.tup (L.map leD)) ∧ L.length = i ∧ (∀ y ∈ L, LeOk y ∧ (y.e.w = copS → y.e.q ≠ none)) ∧ σ = [some (.ref a), some (.ref t), some (.ref kp), some (.ref PL), some (.int (m : Int)), some (.bl rs), some (.int sk), some (.ref b), v8, none, none, v11, none])
    ⟨Go.refl g9.tp, ol, [], _, _, dl0, rfl, (fun _ h => by cases h), rfl⟩ (fun _ _ _ _ _ => trivial) ?_ ?_
  · rintro i y σ H10x H10 hi ⟨g10, b, L, v8, v11, dL, lL, okL, rfl⟩ ⟨rfl, rfl⟩
    have him : i < m := by omega
    have g010 := g9.trans g10
    obtain ⟨b', bxs, eb, hB, hbx⟩ := dt_tup dL
    cases eb
    have lbx := hbx.length
    rw [List.length_map] at lbx
    refine ⟨fun σ H' => H' = H10 ∧ ∃ lv : V, (lv = .non ∨ ∃ z, lv = .int z) ∧ σ = [some (.ref a), some (.ref t), some (.ref kp), some (.ref PL), some (.int (m : Int)), some (.bl rs), some (.int sk), some (.ref b), some (.int (0 + (i : Int))), none, none, some lv, none], ?_, ?_⟩
    · refine ⟨_, rfl, rs, rfl, ite2 (fun _ => ?_) (fun _ => ⟨rfl, .non, .inl rfl, rfl⟩)⟩
      refine ⟨_, rfl, _, _, rfl, rfl, _, rfl, ite2 (fun z => ?_) (fun _ => ⟨rfl, .int 0, .inr ⟨_, rfl⟩, rfl⟩)⟩
      have z' : (0 : Int) < 0 + (i : Int) := of_decide_eq_true z
      have hxk : bxs[i - 1]? = some bxs[i - 1] := List.getElem?_eq_getElem (by omega)
      obtain ⟨dd, ed, dz⟩ := hbx.get' hxk
      rw [List.getElem?_map] at ed
      obtain ⟨le, ele, rfl⟩ := Option.map_eq_some_iff.mp ed
      obtain ⟨ea, x1, x2, x3, x4, exk, hE, q1, q2, q3, q4⟩ := four dz
      cases q1
      rw [exk] at hxk
      exact ⟨_, rfl, _, rfl, _, _, rfl, rfl, b, bxs, _, _, rfl, rfl, hB, at_any (j := i - 1) (by omega) hxk, ea, _, 0, _, rfl, rfl, hE, rfl, rfl, .int le.c, .inr ⟨_, rfl⟩, rfl⟩
    rintro σ H10' ⟨rfl, lv, hlv, rfl⟩
    refine ⟨_, rfl, _, rfl, _, rfl, _, rfl, _, rfl, t, PL, _, ps, lv, sk, rfl, g10.tp, nPL, (k9.trans g10).sm _ _ nPL ePL, alP.mono (fun _ _ h => h.mono fun _ _ e => tup_go g3.tp (k9.trans g10).sm e), by omega, by omega, pok, hlv, hsk, fun v le H11 g11 dv okv => ?_⟩
    refine ⟨(by show 1 ≤ sizeLine; decide), fun o2 ho2 => ?_⟩
    have s12 := same_new ho2 (.tup [v])
    have dL11 := (dL.go g10.tp g11.sm).same s12
    obtain ⟨b'', bxs2, eb2, hB2, hbx2⟩ := dt_tup dL11
    cases eb2
    have lbx2 := hbx2.length
    rw [List.length_map] at lbx2
    refine catA_tr hB2 upd_same (by simp) (le_line (by show _ + 1 ≤ _; omega)) fun b2 H13 s13 hb2 => ?_
    refine ⟨g10.trans (g11.trans (Go.same g11.tp (s12.trans s13))), b2, L ++ [le], _, _, .tup (SqT.of hb2) ?_, by rw [List.length_append, lL]; rfl, fun y hy => ?_, rfl⟩
    · rw [List.map_append]
      exact (hbx2.same s13).append (.cons ((dv.same s12).same s13) .nil)
    · rcases List.mem_append.mp hy with h | h
      · exact okL y h
      · rw [List.mem_singleton.mp h]; exact okv
  rintro σ H10 ⟨g10, b, L, v8, v11, dL, lL, okL, rfl⟩
  have k10 := k9.trans g10
  have g10 := g9.trans g10
  have lL : L.length ≤ 60 := by
    have : (m : Int).toNat = m := rfl
    omega
  refine ⟨_, rfl, _, rfl, _, _, rfl, rfl, t, (m : Int) + 1, rfl, g10.tp, by omega, by omega, fun rc H11 rc0 rc1 g11 => ?_⟩
  have k11 := k10.trans g11
  have dL11 := dL.go g10.tp g11.sm
  have ekp11 := k11.sm _ _ nkp ekp
  have ePL11 := k11.sm _ _ nPL ePL
  have alP11 : Al2 (PthV H11) _ ps := alP.mono fun _ _ h => h.mono fun _ _ e => tup_go g3.tp k11.sm e
  clear k4 k5 k6 k8 k9 k10 k11
  refine ⟨_, rfl, _, rfl, kp, _, 4, _, rfl, rfl, SqL.of ekp11, rfl, _, rfl, kp, _, 3, _, rfl, rfl, SqL.of ekp11, rfl, (by show 2 ≤ sizeLine; decide), fun o6 ho6 => ⟨(by show 1 ≤ sizeLine; decide), fun o7 ho7 => ?_⟩⟩
  have s6 := same_new ho6 (.tup [V.str z4, V.str z3])
  have s7 := same_new ho7 (.lst [V.ref o6])
  have e6 := s7 _ _ (show (upd H11 o6 (.tup [V.str z4, V.str z3])) o6 = some (.tup ([z4, z3].map V.str)) from upd_same)
  have e7 : (upd (upd H11 o6 (.tup [V.str z4, V.str z3])) o7 (.lst [V.ref o6])) o7 = some (.lst [V.ref o6]) := upd_same
  have s67 := s6.trans s7
  refine ⟨PL, o7, _, _, rfl, rfl, s67 _ _ ePL11, e7, le_line (by show 5 + 1 ≤ _; decide), fun N hN => ?_⟩
  have s8' := same_new hN (.lst ([V.ref oa, V.ref ob, V.ref oc, V.ref od, V.ref oe] ++ [V.ref o6]))
  have eN : (upd (upd (upd H11 o6 (.tup [V.str z4, V.str z3])) o7 (.lst [V.ref o6])) N (.lst ([V.ref oa, V.ref ob, V.ref oc, V.ref od, V.ref oe] ++ [V.ref o6]))) N = some (.lst ([V.ref oa, V.ref ob, V.ref oc, V.ref od, V.ref oe] ++ [V.ref o6])) := upd_same
  have s68 := s67.trans s8'
  have alN : Al2 (PthV (upd (upd (upd H11 o6 (.tup [V.str z4, V.str z3])) o7 (.lst [V.ref o6])) N (.lst ([V.ref oa, V.ref ob, V.ref oc, V.ref od, V.ref oe] ++ [V.ref o6])))) ([V.ref oa, V.ref ob, V.ref oc, V.ref od, V.ref oe] ++ [V.ref o6]) (ps ++ [[z4, z3]]) := Al2.app (alP11.mono fun _ _ h => h.mono fun _ _ e => s68 _ _ e) (.cons ⟨o6, rfl, s8' _ _ e6⟩ .nil)
  have dL12 := dL11.same s68
  have pok2 : ∀ p ∈ ps ++ [[z4, z3]], p.length ≤ 5 ∧ ∀ z ∈ p, SgT z := fun p hp => by
    rcases List.mem_append.mp hp with h | h
    · exact pok p h
    · rw [List.mem_singleton.mp h]
      refine ⟨by simp, fun z hz => ?_⟩
      simp only [List.mem_cons, List.not_mem_nil, or_false] at hz
      rcases hz with rfl | rfl
      · exact y4.1
      · exact y3.1
  generalize upd (upd (upd H11 o6 (.tup [V.str z4, V.str z3])) o7 (.lst [V.ref o6])) N (.lst ([V.ref oa, V.ref ob, V.ref oc, V.ref od, V.ref oe] ++ [V.ref o6])) = H12 at *
  generalize [V.ref oa, V.ref ob, V.ref oc, V.ref od, V.ref oe] ++ [V.ref o6] = nxs at *
  refine ⟨N, rfl, ⟨_, SqL.of eN⟩, ?_⟩
  refine for_it (walk_list (K := K) (a := N) (xs := nxs)) (fun j σ H' => Same H12 H' ∧ ∃ w10 w12, σ = [some (.ref a), some (.ref t), some (.ref kp), some (.ref PL), some (.int (m : Int)), some (.bl rs), some (.int sk), some (.ref b), v8, some (.int rc), w10, v11, w12]) ⟨Same.refl _, _, _, rfl⟩ (fun j σ H' _ h => SqL.of (h.1 _ _ eN)) ?_ ?_
  rotate_left
  · rintro σ H13 ⟨_, w10, w12, rfl⟩
    exact q _
  rintro j x H13x H13 H14 hj ⟨s13, w10, w12, rfl⟩ ⟨rfl, hx⟩
  obtain ⟨p, ep, pb, rfl, hpb⟩ := alN.at hx
  obtain ⟨pl, psg⟩ := pok2 p (List.mem_of_getElem? ep)
  have hpb := s13 _ _ hpb
  have dL14 := dL12.same s13
  obtain ⟨nc, rfl⟩ : ∃ nc : Nat, rc = (nc : Int) := ⟨rc.toNat, by omega⟩
  obtain ⟨b', bxs, eb, hB, hbx⟩ := dt_tup dL14
  cases eb
  refine ⟨_, rfl, _, rfl, _, rfl, _, rfl, slA_of hB fun b2 H15 s15 hb2 => ⟨(by show 2 ≤ sizeLine; decide), fun o8 ho8 => ?_⟩⟩
  rw [cutV_pre (by omega), Int.toNat_natCast] at hb2
  have s16 := same_new ho8 (.lst [V.ref b, V.ref b2])
  have s1416 := s15.trans s16
  have e8 : (upd H15 o8 (.lst [V.ref b, V.ref b2])) o8 = some (.lst [V.ref b, V.ref b2]) := upd_same
  have both : ∀ v ∈ [V.ref b, V.ref b2], ∃ Lx : List Le, DT K (upd H15 o8 (.lst [V.ref b, V.ref b2])) v (.tup (Lx.map leD)) ∧ (∀ y ∈ Lx, LeOk y ∧ (y.e.w = copS → y.e.q ≠ none)) ∧ Lx.length ≤ 100 := fun v hv => by
    simp only [List.mem_cons, List.not_mem_nil, or_false] at hv
    rcases hv with rfl | rfl
    · exact ⟨L, dL14.same s1416, okL, by omega⟩
    · refine ⟨L.take nc, (DT.tup hb2 ?_).same s16, (fun y hy => okL y (List.mem_of_mem_take hy)), by rw [List.length_take]; omega⟩
      rw [List.map_take]
      exact dts_take (hbx.same s15) nc
  have hpb := s1416 _ _ hpb
  generalize upd H15 o8 (.lst [V.ref b, V.ref b2]) = H16 at *
  refine ⟨o8, rfl, ⟨_, SqL.of e8⟩, ?_⟩
  refine for_it (walk_list (K := K) (a := o8) (xs := [V.ref b, V.ref b2])) (fun jj σ H' => Same H16 H' ∧ ∃ w12, σ = [some (.ref a), some (.ref t), some (.ref kp), some (.ref PL), some (.int (m : Int)), some (.bl rs), some (.int sk), some (.ref b), v8, some (.int (nc : Int)), some (.ref pb), v11, w12]) ⟨Same.refl _, _, rfl⟩ (fun jj σ H' _ h => SqL.of (h.1 _ _ e8)) ?_ ?_
  rotate_left
  · rintro σ H17 ⟨s17, w12, rfl⟩
    exact ⟨s13.trans (s1416.trans s17), _, _, rfl⟩
  rintro jj v σ H17x H17 hjj ⟨s17, w12, rfl⟩ ⟨rfl, hv⟩
  obtain ⟨Lx, dx, okx, lx⟩ := both v (List.mem_of_getElem? hv)
  have dx := dx.same s17
  have dp : DT K H17 (.ref pb) (ptD p) := DT.path (SqT.of (s17 _ _ hpb))
  obtain ⟨od1, od2⟩ := orig_ok (fun y hy => (okx y hy).1) (Lx.length + 1) Lx.length p (by omega)
  refine ⟨_, rfl, _, rfl, v, .ref pb, Lx, p, rfl, dx, dp, okx, psg, by omega, lx, fun u1 H18 s18 du1 => ?_⟩
  refine ⟨_, rfl, _, rfl, v, .ref pb, Lx, p, rfl, dx.same s18, dp.same s18, okx, psg, by omega, lx, fun u2 H19 s19 du2 => ?_⟩
  exact ⟨u1, u2, _, rfl, du1.same s19, du2, od1, od2, fun H20 s20 => ⟨_, rfl, iteF ⟨s17.trans (s18.trans (s19.trans s20)), _, rfl⟩⟩⟩
end
set_option maxHeartbeats 4000000 in
theorem all_mk {l : PySem.W.OpenLaw} {w : World} {K : PySem.W.Frag} {h : Heap} {mg : Str → Option Value} {fa : Addr} (X : K.In h) (G : h.Ns mainGlobals mg) (hfa : mg "law" = some (.ref fa))
    {f0 : Addr} {od0 an0 : Option Addr} {sl0 : Array (Option Value)} {oc0 kV0 dc0 pm0 cd0 ct0 : Value}
    {f1 : Addr} {od1 an1 : Option Addr} {sl1 : Array (Option Value)} {oc1 kV1 dc1 pm1 cd1 ct1 : Value}
    {f2 : Addr} {od2 an2 : Option Addr} {sl2 : Array (Option Value)} {oc2 kV2 dc2 pm2 cd2 ct2 : Value}
    {f3 : Addr} {od3 an3 : Option Addr} {sl3 : Array (Option Value)} {oc3 kV3 dc3 pm3 cd3 ct3 : Value}
    {f4 : Addr} {od4 an4 : Option Addr} {sl4 : Array (Option Value)} {oc4 kV4 dc4 pm4 cd4 ct4 : Value}
    {f5 : Addr} {od5 an5 : Option Addr} {sl5 : Array (Option Value)} {oc5 kV5 dc5 pm5 cd5 ct5 : Value}
    {f6 : Addr} {od6 an6 : Option Addr} {sl6 : Array (Option Value)} {oc6 kV6 dc6 pm6 cd6 ct6 : Value}
    {f7 : Addr} {od7 an7 : Option Addr} {sl7 : Array (Option Value)} {oc7 kV7 dc7 pm7 cd7 ct7 : Value}
    {f8 : Addr} {od8 an8 : Option Addr} {sl8 : Array (Option Value)} {oc8 kV8 dc8 pm8 cd8 ct8 : Value}
    {f9 : Addr} {od9 an9 : Option Addr} {sl9 : Array (Option Value)} {oc9 kV9 dc9 pm9 cd9 ct9 : Value}
    (a0 : PySem.W.nsIn K mainGlobals "last_gift" = some (some (.ref f0))) (l0 : K.lookup f0 = some ⟨oc0, od0, .func (PySem.W.fnOf "last_gift" "last_gift" (defArgs s_last_gift) (defBody s_last_gift) (defScope s_last_gift) .none kV0 dc0 pm0 an0 cd0 ct0), sl0⟩) (c0 : PySem.W.codeIn K cd0 "last_gift" = true) (k0 : PySem.W.keepIn K (.ref f0) = true)
    (a1 : PySem.W.nsIn K mainGlobals "start_of" = some (some (.ref f1))) (l1 : K.lookup f1 = some ⟨oc1, od1, .func (PySem.W.fnOf "start_of" "start_of" (defArgs s_start_of) (defBody s_start_of) (defScope s_start_of) .none kV1 dc1 pm1 an1 cd1 ct1), sl1⟩) (c1 : PySem.W.codeIn K cd1 "start_of" = true) (k1 : PySem.W.keepIn K (.ref f1) = true)
    (a2 : PySem.W.nsIn K mainGlobals "origin_of" = some (some (.ref f2))) (l2 : K.lookup f2 = some ⟨oc2, od2, .func (PySem.W.fnOf "origin_of" "origin_of" (defArgs s_origin_of) (defBody s_origin_of) (defScope s_origin_of) .none kV2 dc2 pm2 an2 cd2 ct2), sl2⟩) (c2 : PySem.W.codeIn K cd2 "origin_of" = true) (k2 : PySem.W.keepIn K (.ref f2) = true)
    (a3 : PySem.W.nsIn K mainGlobals "_law_tape" = some (some (.ref f3))) (l3 : K.lookup f3 = some ⟨oc3, od3, .func (PySem.W.fnOf "_law_tape" "_law_tape" (defArgs s_law_tape) (defBody s_law_tape) (defScope s_law_tape) .none kV3 dc3 pm3 an3 cd3 ct3), sl3⟩) (c3 : PySem.W.codeIn K cd3 "_law_tape" = true) (k3 : PySem.W.keepIn K (.ref f3) = true)
    (a4 : PySem.W.nsIn K mainGlobals "_law_draw" = some (some (.ref f4))) (l4 : K.lookup f4 = some ⟨oc4, od4, .func (PySem.W.fnOf "_law_draw" "_law_draw" (defArgs s_law_draw) (defBody s_law_draw) (defScope s_law_draw) .none kV4 dc4 pm4 an4 cd4 ct4), sl4⟩) (c4 : PySem.W.codeIn K cd4 "_law_draw" = true) (k4 : PySem.W.keepIn K (.ref f4) = true)
    (a5 : PySem.W.nsIn K mainGlobals "_law_same" = some (some (.ref f5))) (l5 : K.lookup f5 = some ⟨oc5, od5, .func (PySem.W.fnOf "_law_same" "_law_same" (defArgs s_law_same) (defBody s_law_same) (defScope s_law_same) .none kV5 dc5 pm5 an5 cd5 ct5), sl5⟩) (c5 : PySem.W.codeIn K cd5 "_law_same" = true) (k5 : PySem.W.keepIn K (.ref f5) = true)
    (a6 : PySem.W.nsIn K mainGlobals "_law_keys" = some (some (.ref f6))) (l6 : K.lookup f6 = some ⟨oc6, od6, .func (PySem.W.fnOf "_law_keys" "_law_keys" (defArgs s_law_keys) (defBody s_law_keys) (defScope s_law_keys) .none kV6 dc6 pm6 an6 cd6 ct6), sl6⟩) (c6 : PySem.W.codeIn K cd6 "_law_keys" = true) (k6 : PySem.W.keepIn K (.ref f6) = true)
    (a7 : PySem.W.nsIn K mainGlobals "_law_origin" = some (some (.ref f7))) (l7 : K.lookup f7 = some ⟨oc7, od7, .func (PySem.W.fnOf "_law_origin" "_law_origin" (defArgs s_law_origin) (defBody s_law_origin) (defScope s_law_origin) .none kV7 dc7 pm7 an7 cd7 ct7), sl7⟩) (c7 : PySem.W.codeIn K cd7 "_law_origin" = true) (k7 : PySem.W.keepIn K (.ref f7) = true)
    (a8 : PySem.W.nsIn K mainGlobals "_law_logged" = some (some (.ref f8))) (l8 : K.lookup f8 = some ⟨oc8, od8, .func (PySem.W.fnOf "_law_logged" "_law_logged" (defArgs s_law_logged) (defBody s_law_logged) (defScope s_law_logged) .none kV8 dc8 pm8 an8 cd8 ct8), sl8⟩) (c8 : PySem.W.codeIn K cd8 "_law_logged" = true) (k8 : PySem.W.keepIn K (.ref f8) = true)
    (a9 : PySem.W.nsIn K mainGlobals "law" = some (some (.ref f9))) (l9 : K.lookup f9 = some ⟨oc9, od9, .func (PySem.W.fnOf "law" "law" (defArgs s_law) (defBody s_law) (defScope s_law) .none kV9 dc9 pm9 an9 cd9 ct9), sl9⟩) (c9 : PySem.W.codeIn K cd9 "law" = true) (k9 : PySem.W.keepIn K (.ref f9) = true)
    (z_abs : PySem.W.nsIn K mainGlobals "abs" = some none)
    (z_bool : PySem.W.nsIn K mainGlobals "bool" = some none)
    (z_enumerate : PySem.W.nsIn K mainGlobals "enumerate" = some none)
    (z_int : PySem.W.nsIn K mainGlobals "int" = some none)
    (z_isinstance : PySem.W.nsIn K mainGlobals "isinstance" = some none)
    (z_len : PySem.W.nsIn K mainGlobals "len" = some none)
    (z_list : PySem.W.nsIn K mainGlobals "list" = some none)
    (z_max : PySem.W.nsIn K mainGlobals "max" = some none)
    (z_range : PySem.W.nsIn K mainGlobals "range" = some none)
    (z_reversed : PySem.W.nsIn K mainGlobals "reversed" = some none)
    (z_str : PySem.W.nsIn K mainGlobals "str" = some none)
    (z_tuple : PySem.W.nsIn K mainGlobals "tuple" = some none) :
    ∃ fd : FuncData, (∀ (s : Shared) (v : Value), BindsTo s fd ⟨[v], []⟩ [("script", v)]) ∧ ∀ base : Heap, K.In base → base.Ns mainGlobals mg → FnOk l.prog w K mg base CX0 41 fa fd ["script"] (sp_law K) := by
  have e := hfa.symm.trans (PySem.W.mg_of X G a9)
  cases e
  have T : Top K w mg := ⟨PySem.W.mg_none_of X G z_abs, PySem.W.mg_none_of X G z_bool, PySem.W.mg_none_of X G z_enumerate, PySem.W.mg_none_of X G z_int, PySem.W.mg_none_of X G z_isinstance, PySem.W.mg_none_of X G z_len, PySem.W.mg_none_of X G z_list, PySem.W.mg_none_of X G z_max, PySem.W.mg_none_of X G z_range, PySem.W.mg_none_of X G z_reversed, PySem.W.mg_none_of X G z_str, PySem.W.mg_none_of X G z_tuple⟩
  refine ⟨PySem.W.fnOf "law" "law" (defArgs s_law) (defBody s_law) (defScope s_law) .none kV9 dc9 pm9 an9 cd9 ct9, fun s v => .of_eq rfl, fun base _ _ => ?_⟩
  have F0 := fun_mk (st := s_last_gift) l0 c0 k0
  have C_last_gift : Cal l.prog w K mg base "last_gift" 1 ["log", "path"] sp_last_gift _ _ := ⟨ok_last_gift F0 T , F0.binds (ps := ["log", "path"]) fun _ _ _ _ _ _ us hl => match us, hl with | [_, _], _ => rfl, k0, PySem.W.mg_of X G a0⟩
  have F1 := fun_mk (st := s_start_of) l1 c1 k1
  have C_start_of : Cal l.prog w K mg base "start_of" 1 ["log", "call", "rule"] sp_start_of _ _ := ⟨ok_start_of F1 T , F1.binds (ps := ["log", "call", "rule"]) fun _ _ _ _ _ _ us hl => match us, hl with | [_, _, _], _ => rfl, k1, PySem.W.mg_of X G a1⟩
  have F2 := fun_mk (st := s_origin_of) l2 c2 k2
  have C_origin_of : Cal l.prog w K mg base "origin_of" 2 ["log", "path"] sp_origin_of _ _ := ⟨ok_origin_of F2 T C_last_gift C_start_of, F2.binds (ps := ["log", "path"]) fun _ _ _ _ _ _ us hl => match us, hl with | [_, _], _ => rfl, k2, PySem.W.mg_of X G a2⟩
  have F3 := fun_mk (st := s_law_tape) l3 c3 k3
  have C_law_tape : Cal l.prog w K mg base "_law_tape" 1 ["script"] sp_law_tape _ _ := ⟨ok_law_tape F3 T , F3.binds (ps := ["script"]) fun _ _ _ _ _ _ us hl => match us, hl with | [_], _ => rfl, k3, PySem.W.mg_of X G a3⟩
  have F4 := fun_mk (st := s_law_draw) l4 c4 k4
  have C_law_draw : Cal l.prog w K mg base "_law_draw" 1 ["tape", "many"] sp_law_draw _ _ := ⟨ok_law_draw F4 T , F4.binds (ps := ["tape", "many"]) fun _ _ _ _ _ _ us hl => match us, hl with | [_, _], _ => rfl, k4, PySem.W.mg_of X G a4⟩
  have F5 := fun_mk (st := s_law_same) l5 c5 k5
  have C_law_same : Cal l.prog w K mg base "_law_same" 40 ["told", "due"] sp_law_same _ _ := ⟨ok_law_same F5 T (PySem.W.mg_of X G a5) , F5.binds (ps := ["told", "due"]) fun _ _ _ _ _ _ us hl => match us, hl with | [_, _], _ => rfl, k5, PySem.W.mg_of X G a5⟩
  have F6 := fun_mk (st := s_law_keys) l6 c6 k6
  have C_law_keys : Cal l.prog w K mg base "_law_keys" 2 ["tape", "many"] sp_law_keys _ _ := ⟨ok_law_keys F6 T C_law_draw, F6.binds (ps := ["tape", "many"]) fun _ _ _ _ _ _ us hl => match us, hl with | [_, _], _ => rfl, k6, PySem.W.mg_of X G a6⟩
  have F7 := fun_mk (st := s_law_origin) l7 c7 k7
  have C_law_origin : Cal l.prog w K mg base "_law_origin" 1 ["log", "path"] sp_law_origin _ _ := ⟨ok_law_origin F7 T , F7.binds (ps := ["log", "path"]) fun _ _ _ _ _ _ us hl => match us, hl with | [_, _], _ => rfl, k7, PySem.W.mg_of X G a7⟩
  have F8 := fun_mk (st := s_law_logged) l8 c8 k8
  have C_law_logged : Cal l.prog w K mg base "_law_logged" 2 ["tape", "paths", "last", "scale"] sp_law_logged _ _ := ⟨ok_law_logged F8 T C_law_draw, F8.binds (ps := ["tape", "paths", "last", "scale"]) fun _ _ _ _ _ _ us hl => match us, hl with | [_, _, _, _], _ => rfl, k8, PySem.W.mg_of X G a8⟩
  have F9 := fun_mk (st := s_law) l9 c9 k9
  exact ok_law F9 T C_origin_of C_law_tape C_law_draw C_law_same C_law_keys C_law_origin C_law_logged
theorem walk {l : PySem.W.OpenLaw} {q : Program} {loose : List Str} {XP : (Str → Option Value) → Heap → Prop} {YP : World → Heap → Prop} {d : DefRec} {K : Params → PySem.W.Frag} (hn : l.most = some 63) (hdf : d.params.defaults = [])
    (hY : ∀ (w : World) (h : Heap), YP w h → (K w.params).In h)
    (F : ∀ (w : World) (mg : Str → Option Value) (fa : Addr) (h : Heap), (K w.params).In h → h.Ns mainGlobals mg → mg d.name = some (.ref fa) →
      ∃ fd : FuncData, (∀ (s : Shared) (u : Value), BindsTo s fd ⟨[u], []⟩ [("script", u)]) ∧ ∀ base : Heap, (K w.params).In base → base.Ns mainGlobals mg → FnOk l.prog w (K w.params) mg base CX0 41 fa fd ["script"] (sp_law (K w.params))) :
    PySem.W.WalkO q loose XP YP l.row.toRowW d [] (fun f vs => PySem.call f vs) :=
  L2.walk_of (n := 63) (k := 41) (x := "script") (CX := fun _ => CX0) (sp := fun w => sp_law (K w.params)) hn (by decide) hdf ⟨rfl, by decide, by decide⟩ hY F (fun _ _ a ns hl _ hS => ⟨a, ns, rfl, hS, hl, fun _ => rfl⟩) fun _ _ _ _ _ z => z
end My
open PySem PySem.W PyProof.Rows in
set_option maxRecDepth 100000 in
set_option maxHeartbeats 0 in
theorem PySem.Challenge.cw_hookcheck_k53_origin_of_a_log_holds : PySem.Challenge.rw_hookcheck_k53_origin_of_a_log.Holds := by
  w_on; o_law; k_head; (case hw => w_witness2)
  k_fill
  refine My.walk (l := PySem.Challenge.rw_hookcheck_k53_origin_of_a_log) rfl rfl (fun w h Y => PySem.W.kIn_of Y) ?F
  case F =>
    intro w mg fa h KX G hmg
    refine' My.all_mk KX G hmg ?a0 ?l0 ?c0 ?k0 ?a1 ?l1 ?c1 ?k1 ?a2 ?l2 ?c2 ?k2 ?a3 ?l3 ?c3 ?k3 ?a4 ?l4 ?c4 ?k4 ?a5 ?l5 ?c5 ?k5 ?a6 ?l6 ?c6 ?k6 ?a7 ?l7 ?c7 ?k7 ?a8 ?l8 ?c8 ?k8 ?a9 ?l9 ?c9 ?k9 ?z_abs ?z_bool ?z_enumerate ?z_int ?z_isinstance ?z_len ?z_list ?z_max ?z_range ?z_reversed ?z_str ?z_tuple
    (case a0 => k_is)
    (case l0 => k_is)
    (case c0 => k_is)
    (case k0 => k_is)
    (case a1 => k_is)
    (case l1 => k_is)
    (case c1 => k_is)
    (case k1 => k_is)
    (case a2 => k_is)
    (case l2 => k_is)
    (case c2 => k_is)
    (case k2 => k_is)
    (case a3 => k_is)
    (case l3 => k_is)
    (case c3 => k_is)
    (case k3 => k_is)
    (case a4 => k_is)
    (case l4 => k_is)
    (case c4 => k_is)
    (case k4 => k_is)
    (case a5 => k_is)
    (case l5 => k_is)
    (case c5 => k_is)
    (case k5 => k_is)
    (case a6 => k_is)
    (case l6 => k_is)
    (case c6 => k_is)
    (case k6 => k_is)
    (case a7 => k_is)
    (case l7 => k_is)
    (case c7 => k_is)
    (case k7 => k_is)
    (case a8 => k_is)
    (case l8 => k_is)
    (case c8 => k_is)
    (case k8 => k_is)
    (case a9 => k_is)
    (case l9 => k_is)
    (case c9 => k_is)
    (case k9 => k_is)
    (case z_abs => k_is)
    (case z_bool => k_is)
    (case z_enumerate => k_is)
    (case z_int => k_is)
    (case z_isinstance => k_is)
    (case z_len => k_is)
    (case z_list => k_is)
    (case z_max => k_is)
    (case z_range => k_is)
    (case z_reversed => k_is)
    (case z_str => k_is)
    (case z_tuple => k_is)
#print axioms PySem.Challenge.cw_hookcheck_k53_origin_of_a_log_holds
