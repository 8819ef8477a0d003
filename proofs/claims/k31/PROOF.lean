import PyProof.Rows.All
import Wide.All
import OpenK.AllK
import Wide.FinOn
import PyProof.RulesMatch
import PyProof.ListMulRoad
import PyProof.FactsAll.tuple_2
import HandS.ForMost
import HandS.IsInst
import HandS.TupMul
import HandS.Codes
import HandS.Gcd
import HandS.Sort
import HandS.Star
import HandS.TupAny
import HandS.Walk
import HandS.Steps
import HandS.LawCells
import HandS.Text
import KE.GoesEnum
import HandS.FStr
import HandS.RaiseMore
import HandS.ForExc
import HandS.IsInst
import KE.KExcIs
import HandS.Deep
import HandS.SortKw
import KE.DataMinMax
import PyProof.EqAt
import PyProof.EqKinds
import PyProof.TupleCall
import Open.SpecLaws
import KE.OsGo
import PySem.Challenge.RW_anyworth_k31_first_fault_of_a_question
set_option Elab.async false
set_option maxRecDepth 100000
namespace A1
open PySem L2 PySem.Spec PyProof.Rows
/-! a match over a text, by cases whose patterns are texts -/
structure PPt (X : Cx) (p : Pattern) (f : Str → Bool) : Prop where
  run : ∀ (pins : List (Addr × Obj)) (s : Shared) (σ : L2.St) (H : Hp) (z : Str) (t : Tok) (Q : Option (List (Str × Value)) → Shared → Prop), Inv X pins σ H s →
    (∀ s', Inv X pins σ H s' → Q (if f z = true then some [] else none) s') → wpAny (model X.prog X.w) X.A (matchPattern p X.env (.str z t)) Q X.xe s
structure PPs (X : Cx) (ps : List Pattern) (f : Str → Bool) : Prop where
  run : ∀ (pins : List (Addr × Obj)) (s : Shared) (σ : L2.St) (H : Hp) (z : Str) (t : Tok) (Q : Option (List (Str × Value)) → Shared → Prop), Inv X pins σ H s →
    (∀ s', Inv X pins σ H s' → Q (if f z = true then some [] else none) s') → wpAny (model X.prog X.w) X.A (matchFirst ps X.env (.str z t)) Q X.xe s
section
variable {X : Cx}
theorem pp_val {x : Str} {j} {pos pos' : Pos} : PPt X (.MatchValue (.Constant (.str x) j pos) pos') (fun z => decide (z = x)) := by
  refine ⟨fun pins s σ H z t Q I h => ?_⟩
  refine wpAny_matchPattern_Value ?_
  refine thn ((pe_str (X := X) (x := x) (j := j) (pos := pos)).run pins s σ H (fun v H' => v = .str x ∧ H' = H) I ⟨rfl, rfl⟩) fun u s1 ⟨v, H1, I1, r1, e1, e2⟩ => ?_
  subst e1 e2
  refine thn (op_eq pins s1 σ H1 (.str z) (.str x) (.str z t) u (fun v H' => v = .bl (decide (V.str z = V.str x)) ∧ H' = H1) I1 ⟨t, rfl⟩ r1 ⟨rfl, rfl, rfl⟩) fun c s2 ⟨v, H2, I2, r2, e1, e2⟩ => ?_
  subst e1 e2
  cases r2
  refine wpAny_truthy_bool ?_
  have q := h s2 I2
  by_cases e : z = x
  · subst e
    simpa using q
  · have e' : ¬ V.str z = V.str x := fun k => e (V.str.inj k)
    simpa [e, e'] using q
theorem pps_nil' : PPs X [] (fun _ => false) := by
  refine ⟨fun pins s σ H z t Q I h => ?_⟩
  exact wpAny_matchFirst_nil (by simpa using h s I)
theorem pps_cons' {p : Pattern} {ps : List Pattern} {f g : Str → Bool} (h1 : PPt X p f) (h2 : PPs X ps g) : PPs X (p :: ps) (fun z => f z || g z) := by
  refine ⟨fun pins s σ H z t Q I h => ?_⟩
  refine wpAny_matchFirst_cons (h1.run pins s σ H z t _ I fun s' I' => ?_)
  cases e : f z with
  | true =>
    have q := h s' I'
    simpa [e] using q
  | false =>
    have q : ∀ s', Inv X pins σ H s' → Q (if g z = true then some [] else none) s' := fun s' I' => by simpa [e] using h s' I'
    simpa [e] using h2.run pins s' σ H z t Q I' q
theorem pp_or {ps : List Pattern} {pos : Pos} {f : Str → Bool} (h : PPs X ps f) (hn : namesOfAll (ps.take 1) = [] := by rfl) : PPt X (.MatchOr ps pos) f := by
  refine ⟨fun pins s σ H z t Q I q => ?_⟩
  refine wpAny_matchPattern_Or (h.run pins s σ H z t _ I fun s' I' => ?_)
  rw [hn]
  have q' := q s' I'
  cases e : f z with
  | true => simpa [e] using q'
  | false => simpa [e] using q'
structure PM (X : Cx) (cs : List MatchCase) (t : Str → TS) : Prop where
  run : ∀ (pins : List (Addr × Obj)) (s : Shared) (σ : L2.St) (H : Hp) (z : Str) (k : Tok) (b : Bool) (D : Ends), Inv X pins σ H s → t z D σ H →
    wpAny (model X.prog X.w) X.A (matchCases cs X.env (.str z k) b) (SP X pins D) X.xe s
def tCase (f : Str → Bool) (t : TS) (u : Str → TS) : Str → TS := fun z D σ H => if f z = true then t D σ H else u z D σ H
theorem pm_nil : PM X [] (fun _ => tNext) := ⟨fun _ _ σ H _ _ _ _ I h => wpAny_matchCases_nil ⟨σ, H, I, h⟩⟩
theorem pm_cons {p : Pattern} {body : List Stmt} {rest : List MatchCase} {f : Str → Bool} {t : TS} {u : Str → TS} (hp : PPt X p f) (hb : PSs X body t) (hr : PM X rest u) : PM X (⟨p, none, body⟩ :: rest) (tCase f t u) := by
  refine ⟨fun pins s σ H z k b D I h => ?_⟩
  refine wpAny_matchCases_cons (hp.run pins s σ H z k _ I fun s' I' => ?_)
  unfold tCase at h
  cases e : f z with
  | true =>
    rw [e, if_pos rfl] at h
    exact wpAny_assignInOrder_none (hb.run pins s' σ H D I' h)
  | false =>
    rw [e, if_neg Bool.false_ne_true] at h
    exact hr.run pins s' σ H z k false D I' h
def tMatch (te : TE) (t : Str → TS) : TS := fun D σ H => te σ H fun v H1 => ∃ z, v = .str z ∧ t z D σ H1
theorem ps_match {e : Expr} {cs : List MatchCase} {pos : Pos} {te : TE} {t : Str → TS} (he : PE X e te) (hm : PM X cs t) : PS X (.Match e cs pos) (tMatch te t) := by
  refine ⟨fun pins s σ H D I h => ?_⟩
  refine wpAny_Match (thn (he.run pins s σ H _ I h) fun v s1 ⟨x, H1, I1, r1, q1⟩ => ?_)
  obtain ⟨z, rfl, q⟩ := q1
  obtain ⟨k, rfl⟩ := r1
  exact hm.run pins s1 σ H1 z k true D I1 q
end
end A1

namespace A1
open PySem L2 PySem.Spec PyProof.Rows
/-! data that never changes, and how a value stands for it -/
inductive TD where
  | non | bl (b : Bool) | int (i : Int) | str (x : Str) | tup (ds : List TD)
mutual
inductive Rp (K : PySem.W.Frag) (H : Hp) : V → TD → Prop
  | non : Rp K H .non .non
  | bl (b : Bool) : Rp K H (.bl b) (.bl b)
  | int (i : Int) : Rp K H (.int i) (.int i)
  | str (x : Str) : Rp K H (.str x) (.str x)
  | tup {a : Addr} {xs : List V} {ds : List TD} : SqT K H a xs → RpA K H xs ds → Rp K H (.ref a) (.tup ds)
inductive RpA (K : PySem.W.Frag) (H : Hp) : List V → List TD → Prop
  | nil : RpA K H [] []
  | cons {v : V} {vs : List V} {d : TD} {ds : List TD} : Rp K H v d → RpA K H vs ds → RpA K H (v :: vs) (d :: ds)
end
section
variable {K : PySem.W.Frag} {H H' H1 H2 : Hp} {d p : Addr}
mutual
theorem Rp.mono (h : ∀ a xs, SqT K H a xs → SqT K H' a xs) : ∀ (t : TD) (v : V), Rp K H v t → Rp K H' v t
  | .non, _, r => by cases r; exact .non
  | .bl b, _, r => by cases r; exact .bl b
  | .int i, _, r => by cases r; exact .int i
  | .str x, _, r => by cases r; exact .str x
  | .tup ds, _, r => by
    cases r with
    | tup s a => exact .tup (h _ _ s) (RpA.mono h ds _ a)
theorem RpA.mono (h : ∀ a xs, SqT K H a xs → SqT K H' a xs) : ∀ (ts : List TD) (vs : List V), RpA K H vs ts → RpA K H' vs ts
  | [], _, r => by cases r; exact .nil
  | t :: ts, _, r => by
    cases r with
    | cons a b => exact .cons (Rp.mono h t _ a) (RpA.mono h ts _ b)
end
theorem RpA.length : ∀ {ts : List TD} {vs : List V}, RpA K H vs ts → vs.length = ts.length
  | [], _, r => by cases r; rfl
  | _ :: _, _, r => by
    cases r with
    | cons _ b => exact congrArg (· + 1) (RpA.length b)
theorem RpA.get : ∀ {ts : List TD} {vs : List V} {i : Nat} {t : TD}, RpA K H vs ts → ts[i]? = some t → ∃ v, vs[i]? = some v ∧ Rp K H v t
  | [], _, i, t, r, e => by simp at e
  | t :: ts, _, 0, t', r, e => by
    cases r with
    | cons a b =>
      have e' : t = t' := Option.some.inj e
      subst e'
      exact ⟨_, rfl, a⟩
  | t :: ts, _, i + 1, t', r, e => by
    cases r with
    | cons a b =>
      obtain ⟨v, h1, h2⟩ := RpA.get (i := i) b (by simpa using e)
      exact ⟨v, by simpa using h1, h2⟩
theorem RpA.app : ∀ {ts us : List TD} {vs ws : List V}, RpA K H vs ts → RpA K H ws us → RpA K H (vs ++ ws) (ts ++ us)
  | [], _, _, _, r, s => by cases r; exact s
  | _ :: _, _, _, _, r, s => by
    cases r with
    | cons a b => exact .cons a (RpA.app b s)
/-- d is a list of ints that a call may change; all else stays -/
structure Dr (d : Addr) (H H' : Hp) : Prop where
  st : ∃ ds : List Int, H d = some (.lst (ds.map V.int))
  en : ∃ ds : List Int, H' d = some (.lst (ds.map V.int))
  kp : ∀ b u, b ≠ d → H b = some u → H' b = some u
theorem Dr.refl (h : ∃ ds : List Int, H d = some (.lst (ds.map V.int))) : Dr d H H := ⟨h, h, fun _ _ _ q => q⟩
theorem Dr.trans (a : Dr d H H1) (b : Dr d H1 H2) : Dr d H H2 := ⟨a.st, b.en, fun c u n q => b.kp c u n (a.kp c u n q)⟩
theorem Dr.ne_new (a : Dr d H H1) (h : H1 p = none) : p ≠ d := fun e => by
  obtain ⟨ds, q⟩ := a.en
  rw [e, q] at h; cases h
theorem Dr.fresh (a : Dr d H H1) (h : H1 p = none) : H p = none := by
  cases q : H p with
  | none => rfl
  | some u =>
    have := a.kp p u (a.ne_new h) q
    rw [h] at this; cases this
/-- an object that was not there at the start is written -/
theorem Dr.own (a : Dr d H H1) (h : H p = none) {o : HO} : Dr d H (upd H1 p o) := by
  have np : d ≠ p := fun e => by
    obtain ⟨ds, q⟩ := a.st
    rw [e, h] at q; cases q
  obtain ⟨ds, q⟩ := a.en
  exact ⟨a.st, ⟨ds, by rw [upd_ne np]; exact q⟩, fun b u n e => by rw [upd_ne (ne_of_none e h)]; exact a.kp b u n e⟩
theorem Dr.new (a : Dr d H H1) (h : H1 p = none) {o : HO} : Dr d H (upd H1 p o) := a.own (a.fresh h)
theorem Dr.put (a : Dr d H H1) (ds : List Int) : Dr d H (upd H1 d (.lst (ds.map V.int))) :=
  ⟨a.st, ⟨ds, upd_same⟩, fun b u n e => by rw [upd_ne n]; exact a.kp b u n e⟩
theorem Dr.same (a : Dr d H H1) (s : Same H1 H2) : Dr d H H2 := by
  obtain ⟨ds, q⟩ := a.en
  exact ⟨a.st, ⟨ds, s _ _ q⟩, fun b u n e => s _ _ (a.kp b u n e)⟩
theorem Dr.sqt (g : Dr d H H') {a : Addr} {xs : List V} (h : SqT K H a xs) : SqT K H' a xs := by
  have nd : ∀ {u : HO}, (∀ ys, u ≠ .lst ys) → H a = some u → a ≠ d := fun hu q e => by
    obtain ⟨ds, z⟩ := g.st
    rw [e, z] at q; cases q
    exact hu _ rfl
  rcases h with (h | ⟨o, h⟩) | h
  · exact .inl (.inl (g.kp _ _ (nd (fun _ z => by cases z) h) h))
  · exact .inl (.inr ⟨o, g.kp _ _ (nd (fun _ z => by cases z) h) h⟩)
  · exact .inr h
theorem Dr.rp (g : Dr d H H') {v : V} {t : TD} (h : Rp K H v t) : Rp K H' v t := Rp.mono (fun _ _ => g.sqt) t v h
theorem Dr.rpa (g : Dr d H H') {v : List V} {t : List TD} (h : RpA K H v t) : RpA K H' v t := RpA.mono (fun _ _ => g.sqt) t v h
theorem same_sqt (g : Same H H') {a : Addr} {xs : List V} (h : SqT K H a xs) : SqT K H' a xs := by
  rcases h with (h | ⟨o, h⟩) | h
  · exact .inl (.inl (g _ _ h))
  · exact .inl (.inr ⟨o, g _ _ h⟩)
  · exact .inr h
theorem same_rp (g : Same H H') {v : V} {t : TD} (h : Rp K H v t) : Rp K H' v t := Rp.mono (fun _ _ => same_sqt g) t v h
theorem same_rpa (g : Same H H') {v : List V} {t : List TD} (h : RpA K H v t) : RpA K H' v t := RpA.mono (fun _ _ => same_sqt g) t v h
theorem same_new {o : HO} (h : H p = none) : Same H (upd H p o) := fun b u q => by rw [upd_ne (ne_of_none q h)]; exact q
/-- an object that was not there at the start is written -/
theorem same_own {o : HO} (g : Same H H1) (h : H p = none) : Same H (upd H1 p o) := fun b u q => by rw [upd_ne (ne_of_none q h)]; exact g b u q
/-- the script, whatever is drawn -/
def Sc (K : PySem.W.Frag) (H : Hp) (d a : Addr) (ns : List Int) : Prop := ∀ H', Dr d H H' → SqL K H' a (ns.map V.int)
theorem Sc.dr {a : Addr} {ns : List Int} (s : Sc K H d a ns) (g : Dr d H H') : Sc K H' d a ns := fun H2 g2 => s H2 (g.trans g2)
theorem Sc.now {a : Addr} {ns : List Int} (s : Sc K H d a ns) (h : ∃ ds : List Int, H d = some (.lst (ds.map V.int))) : SqL K H a (ns.map V.int) := s H (.refl h)
end
/-! ## the reading, step by step -/
def rNew (c : List V → HO) (xs : List V) (H : Hp) (Q : VK) : Prop := xs.length ≤ sizeLine ∧ ∀ p, H p = none → Q (.ref p) (upd H p (c xs))
def rInt : List V → Hp → VK → Prop := fun xs H Q => (∃ i, xs = [.int i] ∧ Q (.int i) H) ∨ ∃ k, xs = [.bl k] ∧ Q (.int (if k = true then 1 else 0)) H
def rLen (K : PySem.W.Frag) : List V → Hp → VK → Prop := fun xs H Q => ∃ p ys, xs = [.ref p] ∧ (SqL K H p ys ∨ SqT K H p ys) ∧ Q (.int ys.length) H
def rList (K : PySem.W.Frag) : List V → Hp → VK → Prop := fun xs H Q => ∃ p ys, xs = [.ref p] ∧ (SqL K H p ys ∨ SqT K H p ys) ∧ ∀ l, H l = none → Q (.ref l) (upd H l (.lst ys))
def rTuple (K : PySem.W.Frag) : List V → Hp → VK → Prop := fun xs H Q => ∃ p ys, xs = [.ref p] ∧ ((SqL K H p ys ∧ ∀ l, H l = none → Q (.ref l) (upd H l (.tup ys))) ∨ (SqT K H p ys ∧ Q (.ref p) H))
def rAbs : List V → Hp → VK → Prop := fun xs H Q => ∃ i, xs = [.int i] ∧ Q (.int (if i < 0 then -i else i)) H
def rMax2 : List V → Hp → VK → Prop := fun xs H Q => ∃ i j, xs = [.int i, .int j] ∧ Q (.int (if j > i then j else i)) H
def rMin2 : List V → Hp → VK → Prop := fun xs H Q => ∃ i j, xs = [.int i, .int j] ∧ Q (.int (if j < i then j else i)) H
def tForJ (J : It) (g : TG) (tb : TS) : TS := tFor (fun _ H R => R J H) g tb
def tLcJ (J : It) (g : TG) (tt : TT) (te : TE) (vs : List Nat) : TE := tLc (fun _ H R => R J H) g tt te vs
def rRng1 (R : It → Hp → Prop) (vs : List V) (H : Hp) : Prop := ∃ j : Int, vs = [.int j] ∧ -(2 ^ 62) ≤ j ∧ j < 2 ^ 62 ∧ R (Itr 0 j.toNat) H
def rRng2 (R : It → Hp → Prop) (vs : List V) (H : Hp) : Prop := ∃ i j : Int, vs = [.int i, .int j] ∧ (-(2 ^ 62) ≤ i ∧ i < 2 ^ 62 ∧ -(2 ^ 62) ≤ j ∧ j < 2 ^ 62) ∧ R (Itr i (j - i).toNat) H
def rIl (K : PySem.W.Frag) (R : It → Hp → Prop) (x : V) (H : Hp) : Prop := ∃ a, x = .ref a ∧ (∃ xs, SqL K H a xs) ∧ R (Itl K a) H
def rIsN : R2 := fun x y H Q => y = .non ∧ Q (.bl (decide (x = .non))) H
section
variable {X : Cx}
theorem c_int : CallR X (.type "int") rInt := call_int1
theorem c_len : CallR X (.builtin "len") (rLen X.K) := call_len_seq
theorem c_list : CallR X (.type "list") (rList X.K) := call_list_of
theorem c_tuple : CallR X (.type "tuple") (rTuple X.K) := call_tuple_of
theorem c_abs : CallR X (.builtin "abs") rAbs := call_abs
theorem c_max (hc : X.calm = true) : CallR X (.builtin "max") rMax2 := call_max2 hc
theorem c_min (hc : X.calm = true) : CallR X (.builtin "min") rMin2 := call_min2 hc
theorem o_isN : OpR X (compareOp .Is) rIsN := op_isN
end
section
variable {σ : L2.St} {H : Hp} {Q : VK} {D : Ends}
theorem rd_seq {t u : TS} (q : t { D with nx := u D } σ H) : tSeq t u D σ H := q
theorem rd_asg {te : TE} {g : TG} (q : te σ H fun x H1 => g x σ H1 D.nx) : tAsg te g D σ H := q
theorem rd_name {i : Nat} {v : V} {R : L2.St → Hp → Prop} (q : R (σ.set i (some v)) H) : gName i v σ H R := q
theorem rd_var {i : Nat} {v : V} (e : σ[i]? = some (some v)) (q : Q v H) : tVar i σ H Q := ⟨v, e, q⟩
theorem rd_c {v : V} (q : Q v H) : tC v σ H Q := q
theorem rd_op {r : R2} {ta tb : TE} (q : ta σ H fun x H1 => tb σ H1 fun y H2 => r x y H2 Q) : tOp r ta tb σ H Q := q
theorem rd_un {r : V → Hp → VK → Prop} {ta : TE} (q : ta σ H fun x H1 => r x H1 Q) : tUn r ta σ H Q := q
theorem rd_i0 {g : Int → Int → V} {i j : Int} (q : Q (g i j) H) : rI0 g (.int i) (.int j) H Q := ⟨i, j, rfl, rfl, q⟩
theorem rd_i {C : Int → Int → Prop} {g : Int → Int → V} {i j : Int} (c : C i j) (q : Q (g i j) H) : rI C g (.int i) (.int j) H Q := ⟨i, j, rfl, rfl, c, q⟩
theorem rd_u {g : Int → V} {i : Int} (q : Q (g i) H) : rU g (.int i) H Q := ⟨i, rfl, q⟩
theorem rd_eq {x y : V} (c : scal x y = true) (q : Q (.bl (decide (x = y))) H) : rEq x y H Q := ⟨c, q⟩
theorem rd_ne {x y : V} (c : scal x y = true) (q : Q (.bl (!decide (x = y))) H) : rNe x y H Q := ⟨c, q⟩
theorem rd_test {t : TE} {R : Bool → Hp → Prop} (q : t σ H fun x H' => ∃ k, x = .bl k ∧ R k H') : tTest t σ H R := q
theorem rd_tb {t : TE} {R : Bool → Hp → Prop} (q : t σ H fun x H' => ∃ k, x = .bl k ∧ R k H') : tB t σ H R := q
theorem rd_bl {b : Bool} {R : Bool → Prop} (q : R b) : ∃ k, V.bl b = .bl k ∧ R k := ⟨b, rfl, q⟩
theorem rd_if {c : TT} {t u : TS} (q : c σ H fun b H1 => if b = true then t D σ H1 else u D σ H1) : tIfS c t u D σ H := q
theorem rd_ret {te : TE} (q : te σ H D.rt) : tRet te D σ H := q
theorem rd_next (q : D.nx σ H) : tNext D σ H := q
theorem rd_drop {te : TE} (q : te σ H fun _ H1 => D.nx σ H1) : tDrop te D σ H := q
theorem rd_nil {R : List V → Hp → Prop} (q : R [] H) : tNil σ H R := q
theorem rd_cons {ta : TE} {tr : TA} {R : List V → Hp → Prop} (q : ta σ H fun x H1 => tr σ H1 fun xs H2 => R (x :: xs) H2) : tCons ta tr σ H R := q
theorem rd_cb {r : List V → Hp → VK → Prop} {t : TA} (q : t σ H fun vs H1 => r vs H1 Q) : tCB r t σ H Q := q
theorem rd_call {sp : Sp} {dvs : List V} {E : XK} {t : TA} (q : t σ H fun vs H1 => sp (vs ++ dvs) H1 Q E) : tCall sp dvs E t σ H Q := q
theorem rd_tup {t : TA} (q : t σ H fun xs H1 => rNew .tup xs H1 Q) : tTup t σ H Q := q
theorem rd_lst {t : TA} (q : t σ H fun xs H1 => rNew .lst xs H1 Q) : tLst t σ H Q := q
theorem rd_new {c : List V → HO} {xs : List V} (z : xs.length ≤ sizeLine) (q : ∀ p, H p = none → Q (.ref p) (upd H p (c xs))) : rNew c xs H Q := ⟨z, q⟩
theorem rd_andV {ta tb : TE} (q : ta σ H fun x H1 => ∃ c, x = .bl c ∧ if c = true then tb σ H1 Q else Q (.bl false) H1) : tAndV ta tb σ H Q := q
theorem rd_orV {ta tb : TE} (q : ta σ H fun x H1 => ∃ c, x = .bl c ∧ if c = true then Q (.bl true) H1 else tb σ H1 Q) : tOrV ta tb σ H Q := q
theorem rd_and {t u : TT} {R : Bool → Hp → Prop} (q : t σ H fun c H1 => if c = true then u σ H1 R else R false H1) : tAnd t u σ H R := q
theorem rd_or {t u : TT} {R : Bool → Hp → Prop} (q : t σ H fun c H1 => if c = true then R true H1 else u σ H1 R) : tOr t u σ H R := q
theorem rd_not {t : TT} {R : Bool → Hp → Prop} (q : t σ H fun c H1 => R (!c) H1) : tNot t σ H R := q
theorem rd_ifE {t : TT} {ta tb : TE} (q : t σ H fun c H1 => if c = true then ta σ H1 Q else tb σ H1 Q) : tIf t ta tb σ H Q := q
theorem rd_ixT {K : PySem.W.Frag} {p : Addr} {xs : List V} {i : Int} {v : V} (s : SqT K H p xs) (a : atI xs i = some v) (q : Q v H) : rIxT K (.ref p) (.int i) H Q := ⟨p, xs, i, v, rfl, rfl, s, a, q⟩
theorem rd_ixL {K : PySem.W.Frag} {p : Addr} {xs : List V} {i : Int} {v : V} (s : SqL K H p xs) (a : atI xs i = some v) (q : Q v H) : rIxL K (.ref p) (.int i) H Q := ⟨p, xs, i, v, rfl, rfl, s, a, q⟩
theorem rd_bm0 {K : PySem.W.Frag} {T : String} {r : V → List V → Hp → VK → Prop} {to : TE} (q : to σ H fun x H1 => tyV K T x H1 ∧ r x [] H1 Q) : tBM0 K T r to σ H Q := q
theorem rd_bm {K : PySem.W.Frag} {T : String} {r : V → List V → Hp → VK → Prop} {to : TE} {t : TA} (q : to σ H fun x H1 => tyV K T x H1 ∧ t σ H1 fun xs H2 => r x xs H2 Q) : tBM K T r to t σ H Q := q
theorem rd_match {te : TE} {t : Str → TS} (q : te σ H fun v H1 => ∃ z, v = .str z ∧ t z D σ H1) : tMatch te t D σ H := q
theorem rd_str {z : Str} {R : Str → Prop} (q : R z) : ∃ z', V.str z = .str z' ∧ R z' := ⟨z, rfl, q⟩
theorem rd_caseT {f : Str → Bool} {t : TS} {u : Str → TS} {z : Str} (c : f z = true) (q : t D σ H) : tCase f t u z D σ H := by
  unfold tCase; rw [if_pos c]; exact q
theorem rd_caseF {f : Str → Bool} {t : TS} {u : Str → TS} {z : Str} (c : f z = false) (q : u z D σ H) : tCase f t u z D σ H := by
  unfold tCase; rw [if_neg (by rw [c]; exact Bool.false_ne_true)]; exact q
theorem rd_isN {x : V} (q : Q (.bl (decide (x = .non))) H) : rIsN x .non H Q := ⟨rfl, q⟩
theorem rd_int {i : Int} (q : Q (.int i) H) : rInt [.int i] H Q := .inl ⟨i, rfl, q⟩
theorem rd_intB {k : Bool} (q : Q (.int (if k = true then 1 else 0)) H) : rInt [.bl k] H Q := .inr ⟨k, rfl, q⟩
theorem rd_len {K : PySem.W.Frag} {p : Addr} {ys : List V} (h : SqL K H p ys) (q : Q (.int ys.length) H) : rLen K [.ref p] H Q := ⟨p, ys, rfl, .inl h, q⟩
theorem rd_lenT {K : PySem.W.Frag} {p : Addr} {ys : List V} (h : SqT K H p ys) (q : Q (.int ys.length) H) : rLen K [.ref p] H Q := ⟨p, ys, rfl, .inr h, q⟩
theorem rd_list {K : PySem.W.Frag} {p : Addr} {ys : List V} (h : SqL K H p ys) (q : ∀ l, H l = none → Q (.ref l) (upd H l (.lst ys))) : rList K [.ref p] H Q := ⟨p, ys, rfl, .inl h, q⟩
theorem rd_tuple {K : PySem.W.Frag} {p : Addr} {ys : List V} (h : SqL K H p ys) (q : ∀ l, H l = none → Q (.ref l) (upd H l (.tup ys))) : rTuple K [.ref p] H Q := ⟨p, ys, rfl, .inl ⟨h, q⟩⟩
theorem rd_abs {i : Int} (q : Q (.int (if i < 0 then -i else i)) H) : rAbs [.int i] H Q := ⟨i, rfl, q⟩
theorem rd_max {i j : Int} (q : Q (.int (if j > i then j else i)) H) : rMax2 [.int i, .int j] H Q := ⟨i, j, rfl, q⟩
theorem rd_min {i j : Int} (q : Q (.int (if j < i then j else i)) H) : rMin2 [.int i, .int j] H Q := ⟨i, j, rfl, q⟩
theorem rd_append {l : Addr} {xs : List V} {y : V} (h : H l = some (.lst xs)) (z : xs.length < sizeLine) (q : Q .non (upd H l (.lst (xs ++ [y])))) : rAppend (.ref l) [y] H Q := ⟨l, xs, y, rfl, rfl, h, z, q⟩
theorem rd_pop {l : Addr} {xs : List V} {y : V} (h : H l = some (.lst xs)) (z : xs[xs.length - 1]? = some y) (q : Q y (upd H l (.lst xs.dropLast))) : rPop (.ref l) [] H Q := ⟨l, xs, y, rfl, rfl, h, z, q⟩
theorem rd_ty {K : PySem.W.Frag} {p : Addr} {ys : List V} {R : Prop} (h : SqL K H p ys) (q : R) : tyV K "list" (.ref p) H ∧ R := ⟨.inl ⟨rfl, _, h⟩, q⟩
theorem rd_for {wi : TI} {g : TG} {tb : TS} (q : wi σ H fun J H1 => tForJ J g tb D σ H1) : tFor wi g tb D σ H := q
theorem rd_lc {wi : TI} {g : TG} {tt : TT} {te : TE} {vs : List Nat} (q : wi σ H fun J H1 => tLcJ J g tt te vs σ H1 Q) : tLc wi g tt te vs σ H Q := q
theorem rd_rng1 {ta : TA} {R : It → Hp → Prop} (q : ta σ H fun vs H1 => rRng1 R vs H1) : iRng1 ta σ H R := q
theorem rd_rng2 {ta : TA} {R : It → Hp → Prop} (q : ta σ H fun vs H1 => rRng2 R vs H1) : iRng2 ta σ H R := q
theorem rd_ilist {K : PySem.W.Frag} {ta : TE} {R : It → Hp → Prop} (q : ta σ H fun x H1 => rIl K R x H1) : iList K ta σ H R := q
theorem rd_r1 {j : Int} {R : It → Hp → Prop} (h : -1000000 ≤ j ∧ j < 1000000) (q : R (Itr 0 j.toNat) H) : rRng1 R [.int j] H := ⟨_, rfl, by omega, by omega, q⟩
theorem rd_r2 {i j : Int} {R : It → Hp → Prop} (h : -1000000 ≤ i ∧ i < 1000000) (h' : -1000000 ≤ j ∧ j < 1000000) (q : R (Itr i (j - i).toNat) H) : rRng2 R [.int i, .int j] H := ⟨_, _, rfl, ⟨by omega, by omega, by omega, by omega⟩, q⟩
theorem rd_il {K : PySem.W.Frag} {a : Addr} {xs : List V} {R : It → Hp → Prop} (h : SqL K H a xs) (q : R (Itl K a) H) : rIl K R (.ref a) H := ⟨a, rfl, ⟨xs, h⟩, q⟩
theorem len_ok {n : Nat} (h : n.ble sizeLine = true) : n ≤ sizeLine := Nat.le_of_ble_eq_true h
theorem iteB {b : Bool} {A B : Prop} (h1 : b = true → A) (h2 : b = false → B) : if b = true then A else B := by
  cases b with
  | true => rw [if_pos rfl]; exact h1 rfl
  | false => rw [if_neg Bool.false_ne_true]; exact h2 rfl
theorem iteD {p : Prop} [Decidable p] {A B : Prop} (h1 : p → A) (h2 : ¬ p → B) : if decide p = true then A else B := by
  by_cases h : p
  · rw [decide_eq_true h, if_pos rfl]; exact h1 h
  · rw [decide_eq_false h, if_neg Bool.false_ne_true]; exact h2 h
theorem iteDT {p : Prop} [Decidable p] {A B : Prop} (h : p) (q : A) : if decide p = true then A else B := by rw [decide_eq_true h, if_pos rfl]; exact q
theorem iteDF {p : Prop} [Decidable p] {A B : Prop} (h : ¬ p) (q : B) : if decide p = true then A else B := by rw [decide_eq_false h, if_neg Bool.false_ne_true]; exact q
end
end A1
namespace A1
open PySem L2 PySem.Spec PyProof.Rows
section
variable {σ : L2.St} {H : Hp} {Q : VK} {D : Ends}
theorem rd_yes {R : Bool → Hp → Prop} (q : R true H) : tYes σ H R := q
theorem at_ints {ns : List Int} {z : Int} (h0 : 0 ≤ z) (h1 : z < ns.length) : atI (ns.map V.int) z = some (.int (ns.getD z.toNat 0)) := by
  obtain ⟨k, rfl⟩ : ∃ k : Nat, z = (k : Int) := ⟨z.toNat, by omega⟩
  have hz : k < ns.length := by omega
  refine atI_nat ?_
  rw [List.getElem?_map, List.getElem?_eq_getElem hz]
  simp [List.getD_eq_getElem?_getD, hz]
theorem map_get {ns : List Int} {i : Nat} {x : V} (h : (ns.map V.int)[i]? = some x) : ∃ z, x = .int z ∧ ns[i]? = some z := by
  rw [List.getElem?_map] at h
  cases e : ns[i]? with
  | none => rw [e] at h; cases h
  | some z => rw [e] at h; exact ⟨z, (Option.some.inj h).symm, rfl⟩
theorem take_snoc {α : Type} {ns : List α} {i : Nat} {z : α} (h : ns[i]? = some z) : ns.take (i + 1) = ns.take i ++ [z] := by
  rw [List.take_add_one, h]; rfl
end
end A1
namespace A1
open PySem L2 PySem.Spec PyProof.Rows
/-- a list of draws stands at d -/
def DrAt (d : Addr) (H : Hp) : Prop := ∃ ds : List Int, H d = some (.lst (ds.map V.int))
theorem Dr.isD {d : Addr} {H H' : Hp} (g : Dr d H H') : DrAt d H' := g.en
/-! ## houses -/
inductive Hs where
  | counts | yes | least | sums | families | formulas
  | capped (n : Int) | modulo (n : Int) | chain (n : Int) | divisors (n : Int) | prices (n : Int)
  | table (o : Int) (p t : List (List Int))
  | pair (h k : Hs)
  deriving DecidableEq
def rowsT (p : List (List Int)) : TD := .tup (p.map fun r => .tup (r.map .int))
def Hs.td : Hs → TD
  | .counts => .tup [.str "counts"]
  | .yes => .tup [.str "yes"]
  | .least => .tup [.str "least"]
  | .sums => .tup [.str "sums"]
  | .families => .tup [.str "families"]
  | .formulas => .tup [.str "formulas"]
  | .capped n => .tup [.str "capped", .int n]
  | .modulo n => .tup [.str "modulo", .int n]
  | .chain n => .tup [.str "chain", .int n]
  | .divisors n => .tup [.str "divisors", .int n]
  | .prices n => .tup [.str "prices", .int n]
  | .table o p t => .tup [.str "table", .int o, rowsT p, rowsT t]
  | .pair h k => .tup [.str "pair", h.td, k.td]
def Hs.name : Hs → Str
  | .counts => "counts"
  | .yes => "yes"
  | .least => "least"
  | .sums => "sums"
  | .families => "families"
  | .formulas => "formulas"
  | .capped _ => "capped"
  | .modulo _ => "modulo"
  | .chain _ => "chain"
  | .divisors _ => "divisors"
  | .prices _ => "prices"
  | .table _ _ _ => "table"
  | .pair _ _ => "pair"
def Hs.rest : Hs → List TD
  | .capped n | .modulo n | .chain n | .divisors n | .prices n => [.int n]
  | .table o p t => [.int o, rowsT p, rowsT t]
  | .pair h k => [h.td, k.td]
  | _ => []
theorem Hs.td_eq (h : Hs) : h.td = .tup (.str h.name :: h.rest) := by cases h <;> rfl
/-- the small houses that tables are made of -/
def smalls : List Hs := [.modulo 1, .modulo 2, .modulo 3, .modulo 4, .modulo 5, .capped 1, .capped 2, .capped 3, .capped 4, .capped 5, .chain 1, .chain 2, .chain 3, .chain 4, .chain 5,
  .divisors 6, .divisors 4, .divisors 8, .divisors 5, .divisors 12, .yes]
def Hs.wsI : Hs → List Int
  | .modulo n => (List.range n.toNat).map Int.ofNat
  | .capped n | .chain n => (List.range (n + 1).toNat).map Int.ofNat
  | .yes => [0, 1]
  | .divisors n => ((List.range (n + 1).toNat).map Int.ofNat).filter fun k => decide (1 ≤ k) && decide (n % k = 0)
  | _ => []
def Hs.oneI : Hs → Int
  | .modulo n => 1 % n
  | .chain n | .divisors n => n
  | _ => 1
def Hs.plusI : Hs → Int → Int → Int
  | .modulo n, a, b => (a + b) % n
  | .capped n, a, b => if a + b < n then a + b else n
  | .divisors _, a, b => a * b / (Int.gcd a b : Int)
  | _, a, b => if b > a then b else a
def Hs.timesI : Hs → Int → Int → Int
  | .modulo n, a, b => (a * b) % n
  | .capped n, a, b => if a * b < n then a * b else n
  | .divisors _, a, b => (Int.gcd a b : Int)
  | _, a, b => if b < a then b else a
def idxI (ns : List Int) (v : Int) : Int := ((ns.idxOf v : Nat) : Int)
/-- the tables that are drawn: a small house with its worths named anew, zero first -/
def TOk (o : Int) (p t : List (List Int)) : Prop := ∃ (h : Hs) (ns : List Int), h ∈ smalls ∧ ns.Perm h.wsI ∧ ns.head? = h.wsI.head? ∧ o = idxI ns h.oneI ∧
  p = (ns.map fun a => ns.map fun b => idxI ns (h.plusI a b)) ∧ t = (ns.map fun a => ns.map fun b => idxI ns (h.timesI a b))
def Hs.ok : Hs → Prop
  | .capped n | .modulo n | .chain n | .divisors n => 1 ≤ n
  | .prices n => 1 ≤ n ∧ n ≤ 40
  | .table o p t => TOk o p t
  | .pair h k => h.ok ∧ k.ok
  | _ => True
def Hs.depth : Hs → Nat
  | .pair h k => max h.depth k.depth + 1
  | _ => 1
def Hs.smallB : Hs → Bool
  | .capped n | .modulo n | .chain n | .divisors n => decide (1 ≤ n)
  | .yes => true
  | _ => false
theorem small_b : ∀ h ∈ smalls, h.smallB = true := by decide
theorem small_ok {h : Hs} (hh : h ∈ smalls) : h.ok ∧ h.depth = 1 := by
  have q := small_b h hh
  cases h <;> first | exact ⟨trivial, rfl⟩ | exact ⟨of_decide_eq_true (p := 1 ≤ _) q, rfl⟩ | exact Bool.noConfusion q
/-- the parts of a house's tuple -/
theorem Rp.house {K : PySem.W.Frag} {H : Hp} {v : V} {h : Hs} (r : Rp K H v h.td) : ∃ a xs, v = .ref a ∧ SqT K H a (.str h.name :: xs) ∧ RpA K H xs h.rest := by
  rw [h.td_eq] at r
  cases r with
  | tup s ra =>
    cases ra with
    | cons r1 r2 =>
      cases r1
      exact ⟨_, _, rfl, s, r2⟩
end A1
namespace A1
open PySem L2 PySem.Spec PyProof.Rows
theorem sm_rng : ∀ h ∈ smalls, ∀ a ∈ h.wsI, 0 ≤ a ∧ a ≤ 12 := by decide +kernel
theorem sm_div : ∀ n ∈ [(6 : Int), 4, 8, 5, 12], ∀ a ∈ (Hs.divisors n).wsI, 1 ≤ a := by decide +kernel
theorem sm_plus : ∀ h ∈ smalls, ∀ a ∈ h.wsI, ∀ b ∈ h.wsI, h.plusI a b ∈ h.wsI := by decide +kernel
theorem sm_times : ∀ h ∈ smalls, ∀ a ∈ h.wsI, ∀ b ∈ h.wsI, h.timesI a b ∈ h.wsI := by decide +kernel
theorem sm_one : ∀ h ∈ smalls, h.oneI ∈ h.wsI := by decide +kernel
theorem sm_len : ∀ h ∈ smalls, 1 ≤ h.wsI.length ∧ h.wsI.length ≤ 6 := by decide +kernel
theorem sm_num : ∀ h ∈ smalls, (match h with | .capped n | .modulo n | .chain n | .divisors n => decide (1 ≤ n ∧ n ≤ 12) | .yes => true | _ => false) = true := by decide +kernel
theorem sm_dv : ∀ h ∈ smalls, (match h with | .divisors n => decide (n ∈ [(6 : Int), 4, 8, 5, 12]) | _ => true) = true := by decide +kernel
theorem sm_divs {n : Int} (h : Hs.divisors n ∈ smalls) : n ∈ [(6 : Int), 4, 8, 5, 12] := of_decide_eq_true (sm_dv _ h)
/-- what a drawn small house is -/
theorem small_is {h : Hs} (hh : h ∈ smalls) : (∃ n, h = .capped n ∧ 1 ≤ n ∧ n ≤ 12) ∨ (∃ n, h = .modulo n ∧ 1 ≤ n ∧ n ≤ 12) ∨ (∃ n, h = .chain n ∧ 1 ≤ n ∧ n ≤ 12) ∨ (∃ n, h = .divisors n ∧ 1 ≤ n ∧ n ≤ 12) ∨ h = .yes := by
  have q := sm_num h hh
  cases h with
  | capped n => exact .inl ⟨n, rfl, of_decide_eq_true q⟩
  | modulo n => exact .inr (.inl ⟨n, rfl, of_decide_eq_true q⟩)
  | chain n => exact .inr (.inr (.inl ⟨n, rfl, of_decide_eq_true q⟩))
  | divisors n => exact .inr (.inr (.inr (.inl ⟨n, rfl, of_decide_eq_true q⟩)))
  | yes => exact .inr (.inr (.inr (.inr rfl)))
  | counts => exact Bool.noConfusion q
  | least => exact Bool.noConfusion q
  | sums => exact Bool.noConfusion q
  | families => exact Bool.noConfusion q
  | formulas => exact Bool.noConfusion q
  | prices n => exact Bool.noConfusion q
  | table o p t => exact Bool.noConfusion q
  | pair h k => exact Bool.noConfusion q
section
variable {K : PySem.W.Frag} {H : Hp} {v : V}
theorem Rp.one {z : Str} {n : Int} (r : Rp K H v (.tup [.str z, .int n])) : ∃ a, v = .ref a ∧ SqT K H a [.str z, .int n] := by
  cases r with
  | tup s ra =>
    cases ra with
    | cons r1 r2 =>
      cases r2 with
      | cons r3 r4 =>
        cases r1; cases r3; cases r4
        exact ⟨_, rfl, s⟩
theorem Rp.nul {z : Str} (r : Rp K H v (.tup [.str z])) : ∃ a, v = .ref a ∧ SqT K H a [.str z] := by
  cases r with
  | tup s ra =>
    cases ra with
    | cons r1 r2 =>
      cases r1; cases r2
      exact ⟨_, rfl, s⟩
theorem Rp.two {z : Str} {x y : TD} (r : Rp K H v (.tup [.str z, x, y])) : ∃ a u w, v = .ref a ∧ SqT K H a [.str z, u, w] ∧ Rp K H u x ∧ Rp K H w y := by
  cases r with
  | tup s ra =>
    cases ra with
    | cons r1 r2 =>
      cases r2 with
      | cons r3 r4 =>
        cases r4 with
        | cons r5 r6 =>
          cases r1; cases r6
          exact ⟨_, _, _, rfl, s, r3, r5⟩
theorem Rp.three {z : Str} {o : Int} {x y : TD} (r : Rp K H v (.tup [.str z, .int o, x, y])) : ∃ a u w, v = .ref a ∧ SqT K H a [.str z, .int o, u, w] ∧ Rp K H u x ∧ Rp K H w y := by
  cases r with
  | tup s ra =>
    cases ra with
    | cons r1 r2 =>
      cases r2 with
      | cons r0 r2 =>
        cases r2 with
        | cons r3 r4 =>
          cases r4 with
          | cons r5 r6 =>
            cases r1; cases r0; cases r6
            exact ⟨_, _, _, rfl, s, r3, r5⟩
theorem rp_one {z : Str} {n : Int} {a : Addr} (s : SqT K H a [.str z, .int n]) : Rp K H (.ref a) (.tup [.str z, .int n]) := .tup s (.cons (.str z) (.cons (.int n) .nil))
theorem rp_nul {z : Str} {a : Addr} (s : SqT K H a [.str z]) : Rp K H (.ref a) (.tup [.str z]) := .tup s (.cons (.str z) .nil)
theorem rp_two {z : Str} {a : Addr} {u w : V} {x y : TD} (s : SqT K H a [.str z, u, w]) (r : Rp K H u x) (r' : Rp K H w y) : Rp K H (.ref a) (.tup [.str z, x, y]) := .tup s (.cons (.str z) (.cons r (.cons r' .nil)))
theorem rp_three {z : Str} {o : Int} {a : Addr} {u w : V} {x y : TD} (s : SqT K H a [.str z, .int o, u, w]) (r : Rp K H u x) (r' : Rp K H w y) : Rp K H (.ref a) (.tup [.str z, .int o, x, y]) := .tup s (.cons (.str z) (.cons (.int o) (.cons r (.cons r' .nil))))
end
end A1
namespace A1
open PySem L2 PySem.Spec PyProof.Rows
/-! the same rules, with the written part named (within a comprehension) -/
section
variable {X : Cx} (K : PySem.W.Frag) (h : X.K = K)
include h
theorem k_ixT : IxR X (rIxT K) := by subst h; exact ix_tup
theorem k_ixL : IxR X (rIxL K) := by subst h; exact ix_list
theorem k_len : CallR X (.builtin "len") (rLen K) := by subst h; exact c_len
theorem k_list : CallR X (.type "list") (rList K) := by subst h; exact c_list
theorem k_tuple : CallR X (.type "tuple") (rTuple K) := by subst h; exact c_tuple
theorem k_in : OpR X (compareOp .In) (rIn K false) := by subst h; exact op_in_seq
theorem k_notIn : OpR X (compareOp .NotIn) (rIn K true) := by subst h; exact op_notIn_seq
theorem k_index : MtR X "list.index" (rIndex K) := by subst h; exact mt_index
theorem k_isi : CallR X (.builtin "isinstance") (rIsi K) := by subst h; exact call_isi
theorem k_isiT : CallR X (.builtin "isinstance") (rIsiT K) := by subst h; exact call_isiT
theorem k_slL : SlR X (rSlL K) := by subst h; exact sl_list
theorem k_pil {tg l : Expr} {tl : TE} (hl : PE X l tl) : PI X tg l (iList K tl) := by subst h; exact pi_list hl
end
section
variable {X : Cx} (K : PySem.W.Frag) (h : X.K = K)
include h
theorem k_bm0 {e : Expr} {T : String} {r : V → List V → Hp → VK → Prop} {to : TE} (p : PE X e (tBM0 X.K T r to)) : PE X e (tBM0 K T r to) := by subst h; exact p
theorem k_bm {e : Expr} {T : String} {r : V → List V → Hp → VK → Prop} {to : TE} {t : TA} (p : PE X e (tBM X.K T r to t)) : PE X e (tBM K T r to t) := by subst h; exact p
end
end A1
namespace A1
open PySem L2 PySem.Spec PyProof.Rows
/-- data of a depth below n, no tuple too long -/
def TD.fit : Nat → TD → Prop
  | 0, _ => False
  | n + 1, .tup ds => ds.length ≤ 20000 ∧ ∀ d ∈ ds, d.fit n
  | _ + 1, _ => True
theorem TD.fit_mono {n m : Nat} (h : n ≤ m) : ∀ {t : TD}, t.fit n → t.fit m := by
  induction n generalizing m with
  | zero => intro t q; exact q.elim
  | succ n ih =>
    intro t q
    obtain ⟨m, rfl⟩ : ∃ k, m = k + 1 := ⟨m - 1, by omega⟩
    cases t with
    | tup ds => exact ⟨q.1, fun d hd => ih (by omega) (q.2 d hd)⟩
    | non => trivial
    | bl b => trivial
    | int i => trivial
    | str x => trivial
section
variable {K : PySem.W.Frag} {H : Hp} {Q : VK}
theorem rd_isi {x c : V} {t u : Value} {b : Bool} (k : ClsV c u) (ty : TyX K H x t) (e : PySem.W.kitOne K t u = some b) (q : Q (.bl b) H) : rIsi K [x, c] H Q := ⟨x, c, t, u, b, rfl, k, ty, e, q⟩
theorem rd_isiT {x : V} {tp : Addr} {cs : List V} {t : Value} {us : List Value} {b : Bool} (hT : H tp = some (.tup cs)) (k : Paired ClsV cs us) (ty : TyX K H x t) (e : PySem.W.kitAny K t us = some b) (q : Q (.bl b) H) : rIsiT K [x, .ref tp] H Q :=
  ⟨x, tp, cs, t, us, b, rfl, hT, k, ty, e, q⟩
theorem iteNF {p : Prop} [Decidable p] {A B : Prop} (h : p) (q : B) : if (!decide p) = true then A else B := by rw [decide_eq_true h]; exact iteF q
theorem iteNT {p : Prop} [Decidable p] {A B : Prop} (h : ¬ p) (q : A) : if (!decide p) = true then A else B := by rw [decide_eq_false h]; exact iteT q
theorem sqt_ty {a : Addr} {xs : List V} (h : SqT K H a xs) : TyX K H (.ref a) (.type "tuple") := by
  rcases h with (h | ⟨o, h⟩) | ⟨o, its, n, e, c, _⟩
  · exact .base (.tup h)
  · exact .fTuple h
  · exact .kTuple e c
theorem kt_tup : PySem.W.kitAny K (.type "tuple") [.type "tuple", .type "list"] = some true := kitAny_cons (b := true) (kit_ty (by decide +kernel)) (fun z => nomatch z) (fun _ => rfl)
theorem kt_no {a : String} (h1 : kitB a "tuple" = some false) (h2 : kitB a "list" = some false) : PySem.W.kitAny K (.type a) [.type "tuple", .type "list"] = some false :=
  kitAny_cons (b := false) (kit_ty h1) (fun _ => kitAny_cons (b := false) (kit_ty h2) (fun _ => kitAny_nil) (fun z => z)) (fun z => z)
theorem rd_notIn {x : V} {p : Addr} {xs : List V} (h : SqL K H p xs) (f : flatV x = true) (fs : xs.all flatV = true) (q : Q (.bl (!inV x xs)) H) : rIn K true x (.ref p) H Q := ⟨p, xs, rfl, .inl h, f, fs, q⟩
theorem rd_in {x : V} {p : Addr} {xs : List V} (h : SqL K H p xs) (f : flatV x = true) (fs : xs.all flatV = true) (q : Q (.bl (inV x xs)) H) : rIn K false x (.ref p) H Q := ⟨p, xs, rfl, .inl h, f, fs, q⟩
theorem trues_flat (n : Nat) : (List.replicate n (V.bl true)).all flatV = true := by
  induction n with
  | zero => rfl
  | succ n ih => rw [List.replicate_succ, List.all_cons, ih]; rfl
theorem trues_no (n : Nat) : inV (.bl false) (List.replicate n (V.bl true)) = false := by
  unfold inV
  induction n with
  | zero => rfl
  | succ n ih => rw [List.replicate_succ, List.any_cons, ih]; rfl
end
end A1
namespace A1
open PySem L2 PySem.Spec PyProof.Rows
def Hs.zeroT : Hs → TD
  | .divisors _ => .int 1
  | .least => .non
  | .prices _ | .sums | .families | .formulas => .tup []
  | .pair h k => .tup [h.zeroT, k.zeroT]
  | _ => .int 0
def Hs.oneT : Hs → TD
  | .modulo n => .int (1 % n)
  | .chain n | .divisors n => .int n
  | .table o _ _ => .int o
  | .least => .int 0
  | .prices n => .tup [.tup (List.replicate n.toNat (.int 0))]
  | .sums | .families => .tup [.int 0]
  | .formulas => .tup [.tup [.tup [], .int 1]]
  | .pair h k => .tup [h.oneT, k.oneT]
  | _ => .int 1
theorem iteVT {b : Bool} {A B : Prop} (h : b = true) (q : A) : if b = true then A else B := by rw [if_pos h]; exact q
theorem iteVF {b : Bool} {A B : Prop} (h : b = false) (q : B) : if b = true then A else B := by rw [h]; exact iteF q
theorem depth_pos (h : Hs) : 1 ≤ h.depth := by cases h <;> simp [Hs.depth]
theorem zero_fit : ∀ (h : Hs) (n : Nat), h.ok → h.depth ≤ n → h.zeroT.fit (n + 3)
  | .pair h k, n + 1, ho, hd => by
    have hd' : max h.depth k.depth ≤ n := Nat.le_of_succ_le_succ hd
    refine ⟨by simp, fun d hm => ?_⟩
    simp only [List.mem_cons, List.not_mem_nil, or_false] at hm
    rcases hm with rfl | rfl
    · exact zero_fit h n ho.1 (by omega)
    · exact zero_fit k n ho.2 (by omega)
  | .pair h k, 0, _, hd => absurd hd (by simp [Hs.depth])
  | .counts, _, _, _ => trivial
  | .yes, _, _, _ => trivial
  | .least, _, _, _ => trivial
  | .capped _, _, _, _ => trivial
  | .modulo _, _, _, _ => trivial
  | .chain _, _, _, _ => trivial
  | .divisors _, _, _, _ => trivial
  | .table _ _ _, _, _, _ => trivial
  | .prices _, _, _, _ => ⟨by simp, fun _ h => nomatch h⟩
  | .sums, _, _, _ => ⟨by simp, fun _ h => nomatch h⟩
  | .families, _, _, _ => ⟨by simp, fun _ h => nomatch h⟩
  | .formulas, _, _, _ => ⟨by simp, fun _ h => nomatch h⟩
theorem one_fit : ∀ (h : Hs) (n : Nat), h.ok → h.depth ≤ n → h.oneT.fit (n + 4)
  | .pair h k, n + 1, ho, hd => by
    have hd' : max h.depth k.depth ≤ n := Nat.le_of_succ_le_succ hd
    refine ⟨by simp, fun d hm => ?_⟩
    simp only [List.mem_cons, List.not_mem_nil, or_false] at hm
    rcases hm with rfl | rfl
    · exact one_fit h n ho.1 (by omega)
    · exact one_fit k n ho.2 (by omega)
  | .pair h k, 0, _, hd => absurd hd (by simp [Hs.depth])
  | .counts, _, _, _ => trivial
  | .yes, _, _, _ => trivial
  | .least, _, _, _ => trivial
  | .capped _, _, _, _ => trivial
  | .modulo _, _, _, _ => trivial
  | .chain _, _, _, _ => trivial
  | .divisors _, _, _, _ => trivial
  | .table _ _ _, _, _, _ => trivial
  | .prices m, _, ho, _ => by
    have h1 : 1 ≤ m := ho.1
    have h2 : m ≤ 40 := ho.2
    refine ⟨by simp, fun d hm => ?_⟩
    simp only [List.mem_cons, List.not_mem_nil, or_false] at hm
    subst hm
    refine ⟨by rw [List.length_replicate]; omega, fun d hm => ?_⟩
    rw [List.eq_of_mem_replicate hm]
    trivial
  | .sums, _, _, _ => ⟨by simp, fun d hm => by simp only [List.mem_cons, List.not_mem_nil, or_false] at hm; subst hm; trivial⟩
  | .families, _, _, _ => ⟨by simp, fun d hm => by simp only [List.mem_cons, List.not_mem_nil, or_false] at hm; subst hm; trivial⟩
  | .formulas, _, _, _ => ⟨by simp, fun d hm => by
      simp only [List.mem_cons, List.not_mem_nil, or_false] at hm
      subst hm
      refine ⟨by simp, fun d hm => ?_⟩
      simp only [List.mem_cons, List.not_mem_nil, or_false] at hm
      rcases hm with rfl | rfl
      · exact ⟨by simp, fun _ h => nomatch h⟩
      · trivial⟩
theorem rpa_rep {K : PySem.W.Frag} {H : Hp} (n : Nat) : RpA K H (List.replicate n (V.int 0)) (List.replicate n (TD.int 0)) := by
  induction n with
  | zero => exact .nil
  | succ n ih => rw [List.replicate_succ, List.replicate_succ]; exact .cons (.int 0) ih
theorem flat_single {α : Type} (n : Nat) (x : α) : (List.replicate n [x]).flatten = List.replicate n x := by
  induction n with
  | zero => rfl
  | succ n ih => rw [List.replicate_succ, List.flatten_cons, ih, List.replicate_succ]; rfl
end A1

namespace A1
open PySem L2 PySem.Spec PyProof.Rows
theorem tup_mul_one {a : Addr} {its : Array Value} {n : Nat} {dd : Option Addr} {sl : Array (Option Value)} {k : Tok} :
    Meets (Builtin.«tuple.__mul__» ⟨[.ref a, .int 1 k], []⟩)
      (fun _ R s => s.heap.get? a = some { cls := .type "tuple", dict := dd, data := .seq its n, slots := sl } ∧ R (.ok (.ret (Value.ref a))) s) :=
  .of_wp fun prog w A R s h => by
    obtain ⟨hp, g, d, tk, os⟩ := s
    obtain ⟨ha, h⟩ := h
    have f1 := AutoSeq1.idx_int
    wp_walk using wpAny_loadPart' ha
    exact ⟨_, rfl, h⟩
/-- a tuple taken once is itself -/
def rOnce (K : PySem.W.Frag) : R2 := fun x y H Q => ∃ a xs, x = .ref a ∧ y = .int 1 ∧ SqT K H a xs ∧ Q (.ref a) H
section
variable {X : Cx}
theorem op_once : OpR X (binaryOp .Mult) (rOnce X.K) := by
  rintro pins s σ H _ _ v u Q I rx ry ⟨a, xs, rfl, rfl, hT, q⟩
  cases rx
  obtain ⟨tk, rfl⟩ := ry
  obtain ⟨its, _, ⟨⟨oc, od, ot, osl⟩, hg, e1, m, e2⟩, _⟩ := I.tuple hT
  dsimp only at e1 e2
  subst e1 e2
  have mulI := @call_meets
  refine wpAny_binaryOp_repeat_ref (T := "tuple") (U := "int") (by decide) ⟨_, hg, rfl⟩
    (fun s' => typeIs_int s' 1 tk) noFill_tuple_mul F.fills_int_mul F.slot_int_rmul repeat_tuple F.slot_int_index.lookup ?_
  refine call_meets F.slot_int_rmul (typeIs_int s 1 tk) F.entry_int_rmul (F.args_int_rmul_2 _ _)
    (int_rmul_tuple 1 tk a its.toArray m od osl) ⟨hg, rfl, ⟨_, hg, rfl⟩, ?_⟩
  exact call_meets F.slot_tuple_mul ⟨_, hg, rfl⟩ F.entry_tuple_mul (F.args_tuple_mul_2 _ _)
    (tup_mul_one (a := a) (k := tk)) ⟨hg, .ref a, H, I, rfl, q⟩
def rRepAny (K : PySem.W.Frag) : R2 := fun x y H Q => rRepT K x y H Q ∨ rOnce K x y H Q
theorem k_rep (K : PySem.W.Frag) (h : X.K = K) : OpR X (binaryOp .Mult) (rRepAny K) := by subst h; exact op_repT.or op_once
end
end A1

namespace A1
open PySem L2 PySem.Spec PyProof.Rows
section
variable {K : PySem.W.Frag} {σ : L2.St} {H : Hp} {Q : VK} {D : Ends}
theorem rd_mk {c : List V → HO} {xs : List V} (z : xs.length ≤ sizeLine) (q : ∀ (p : Addr) (H' : Hp), H p = none → H' p = some (c xs) → Same H H' → Q (.ref p) H') : rNew c xs H Q :=
  ⟨z, fun p hp => q p _ hp upd_same (same_new hp)⟩
theorem eqV_int (a b : Int) : eqV (.int a) (.int b) = (a == b) := rfl
theorem flat_ints (ns : List Int) : (ns.map V.int).all flatV = true := by
  rw [List.all_map]
  exact List.all_eq_true.mpr fun _ _ => rfl
theorem rd_index {p : Addr} {ns : List Int} {v : Int} (h : SqL K H p (ns.map V.int)) (m : v ∈ ns) (q : Q (.int (idxI ns v)) H) : rIndex K (.ref p) [.int v] H Q := by
  have hj : ns.idxOf v < ns.length := List.idxOf_lt_length_of_mem m
  refine ⟨p, _, .int v, ns.idxOf v, .int v, rfl, rfl, h, rfl, flat_ints ns, ?_, by rw [eqV_int, beq_self_eq_true], fun k z' hk hz => ?_, q⟩
  · rw [List.getElem?_map, List.getElem?_eq_getElem hj, List.getElem_idxOf hj]; rfl
  · rw [List.getElem?_map] at hz
    have hk' : k < ns.length := Nat.lt_trans hk hj
    rw [List.getElem?_eq_getElem hk'] at hz
    cases hz
    rw [eqV_int]
    exact List.not_of_lt_findIdx (p := fun x => x == v) (xs := ns) hk
theorem erase_map {α β : Type} (f : α → β) : ∀ (l : List α) (k : Nat), (l.map f).eraseIdx k = (l.eraseIdx k).map f
  | [], _ => by simp
  | _ :: _, 0 => rfl
  | a :: r, k + 1 => congrArg (f a :: ·) (erase_map f r k)
theorem rd_popAt {l : Addr} {xs : List Int} {i : Int} (h : H l = some (.lst (xs.map V.int))) (h0 : 0 ≤ i) (h1 : i < xs.length) (h2 : xs.length ≤ 1000)
    (q : ∀ y, xs[i.toNat]? = some y → Q (.int y) (upd H l (.lst ((xs.eraseIdx i.toNat).map V.int)))) : rPopAt (.ref l) [.int i] H Q := by
  have hi : i.toNat < xs.length := by omega
  refine ⟨l, _, i, i.toNat, .int xs[i.toNat], rfl, rfl, h, by omega, by omega, ?_, ?_, ?_⟩
  · unfold seqIndex?
    rw [List.length_map]
    rw [if_neg (by omega : ¬ i < 0)]
    simp only [Bool.and_eq_true, decide_eq_true_eq]
    rw [if_pos ⟨h0, h1⟩]
  · rw [List.getElem?_map, List.getElem?_eq_getElem hi]; rfl
  · rw [erase_map]
    exact q _ (List.getElem?_eq_getElem hi)
theorem erase_perm : ∀ {l : List Int} {k : Nat} {y : Int}, l[k]? = some y → (y :: l.eraseIdx k).Perm l
  | [], _, _, h => by simp at h
  | a :: r, 0, y, h => by
    have e : a = y := Option.some.inj h
    subst e
    exact .refl _
  | a :: r, k + 1, y, h => by
    have ih := erase_perm (l := r) (k := k) (y := y) (by simpa using h)
    exact (List.Perm.swap a y _).trans (ih.cons a)
/-- a slice's parts -/
def rPart (R : Option Int → Hp → Prop) (x : V) (H : Hp) : Prop := ∃ i, x = .int i ∧ R (some i) H
theorem rd_sl {r : V → Option Int → Option Int → Hp → VK → Prop} {te : TE} {tl th : TO} (q : te σ H fun x H1 => tl σ H1 fun l H2 => th σ H2 fun u H3 => r x l u H3 Q) : tSl r te tl th σ H Q := q
theorem rd_po0 {R : Option Int → Hp → Prop} (q : R none H) : tNoPart σ H R := q
theorem rd_po1 {t : TE} {R : Option Int → Hp → Prop} (q : t σ H fun x H1 => rPart R x H1) : tPart t σ H R := q
theorem rd_poI {R : Option Int → Hp → Prop} {i : Int} (q : R (some i) H) : rPart R (.int i) H := ⟨i, rfl, q⟩
theorem rd_cut {a : Addr} {xs : List V} {lo hi : Option Int} (h : SqL K H a xs) (q : ∀ p, H p = none → Q (.ref p) (upd H p (.lst (cutV xs lo hi)))) : rSlL K (.ref a) lo hi H Q := ⟨a, xs, rfl, h, q⟩
theorem cut_from {xs : List V} (h : 1 ≤ xs.length) : cutV xs (some 1) none = xs.drop 1 := by
  have e1 : HT.sIx xs.length 0 (some 1) = 1 := by
    have := HT.sIx_nat xs.length 0 1
    rw [show ((1 : Nat) : Int) = 1 from rfl] at this
    rw [this]; omega
  unfold cutV
  rw [e1, HT.sIx_none]
  exact List.take_of_length_le (by rw [List.length_drop]; exact Nat.le_refl _)
theorem cut_to {xs : List V} (h : 1 ≤ xs.length) : cutV xs none (some 1) = xs.take 1 := by
  have e1 : HT.sIx xs.length xs.length (some 1) = 1 := by
    have := HT.sIx_nat xs.length xs.length 1
    rw [show ((1 : Nat) : Int) = 1 from rfl] at this
    rw [this]; omega
  unfold cutV
  rw [e1, HT.sIx_none]
  rfl
theorem atI_mem {xs : List V} {r : Int} (h0 : 0 ≤ r) (h1 : r < xs.length) : ∃ v, atI xs r = some v ∧ v ∈ xs := by
  obtain ⟨k, rfl⟩ : ∃ k : Nat, r = (k : Int) := ⟨r.toNat, by omega⟩
  have hk : k < xs.length := by omega
  exact ⟨xs[k], atI_nat (List.getElem?_eq_getElem hk), List.getElem_mem hk⟩
theorem sm_pick {r : Int} (h0 : 0 ≤ r) (h1 : r < 5) : Hs.modulo (r + 1) ∈ smalls ∧ Hs.capped (r + 1) ∈ smalls ∧ Hs.chain (r + 1) ∈ smalls ∧ ∃ z : Int, atI [V.int 6, V.int 4, V.int 8, V.int 5, V.int 12] r = some (.int z) ∧ Hs.divisors z ∈ smalls := by
  have : r = 0 ∨ r = 1 ∨ r = 2 ∨ r = 3 ∨ r = 4 := by omega
  rcases this with rfl | rfl | rfl | rfl | rfl
  · exact ⟨by decide, by decide, by decide, 6, rfl, by decide⟩
  · exact ⟨by decide, by decide, by decide, 4, rfl, by decide⟩
  · exact ⟨by decide, by decide, by decide, 8, rfl, by decide⟩
  · exact ⟨by decide, by decide, by decide, 5, rfl, by decide⟩
  · exact ⟨by decide, by decide, by decide, 12, rfl, by decide⟩
theorem rpa_ints : ∀ (ns : List Int), RpA K H (ns.map V.int) (ns.map TD.int)
  | [] => .nil
  | n :: r => .cons (.int n) (rpa_ints r)
theorem sqt_put {a b : Addr} {xs ys : List V} {o : HO} (h : H a = some (.lst ys)) (s : SqT K H b xs) : SqT K (upd H a o) b xs := by
  rcases s with (s | ⟨u, s⟩) | s
  · exact .inl (.inl (by rw [upd_ne (ne_of s h (fun z => by cases z))]; exact s))
  · exact .inl (.inr ⟨u, by rw [upd_ne (ne_of s h (fun z => by cases z))]; exact s⟩)
  · exact .inr s
theorem rp_put {a : Addr} {ys : List V} {o : HO} (h : H a = some (.lst ys)) {v : V} {t : TD} (r : Rp K H v t) : Rp K (upd H a o) v t := Rp.mono (fun _ _ => sqt_put h) t v r
theorem rpa_put {a : Addr} {ys : List V} {o : HO} (h : H a = some (.lst ys)) {v : List V} {t : List TD} (r : RpA K H v t) : RpA K (upd H a o) v t := RpA.mono (fun _ _ => sqt_put h) t v r
theorem small_oneT {h : Hs} (hh : h ∈ smalls) : h.oneT = .int h.oneI := by
  rcases small_is hh with ⟨n, rfl, _⟩ | ⟨n, rfl, _⟩ | ⟨n, rfl, _⟩ | ⟨n, rfl, _⟩ | rfl <;> rfl
theorem rd_cat {l b : Addr} {xs zs : List V} (h1 : H l = some (.lst xs)) (h2 : H b = some (.lst zs)) (z : xs.length + zs.length ≤ sizeLine) (q : ∀ (p : Addr) (H' : Hp), H p = none → H' p = some (.lst (xs ++ zs)) → Same H H' → Q (.ref p) H') : rCat (.ref l) (.ref b) H Q :=
  ⟨l, b, xs, zs, rfl, rfl, h1, h2, z, fun p hp => q p _ hp upd_same (same_new hp)⟩
theorem pick6 {r : Int} (h0 : 1 ≤ r) (h1 : r ≤ 6) : ∃ z : Int, atI [V.int 1, V.int 12, V.int 30, V.int 7, V.int 16, V.int 36] (r - 1) = some (.int z) ∧ 1 ≤ z := by
  have : r = 1 ∨ r = 2 ∨ r = 3 ∨ r = 4 ∨ r = 5 ∨ r = 6 := by omega
  rcases this with rfl | rfl | rfl | rfl | rfl | rfl
  · exact ⟨1, rfl, by decide⟩
  · exact ⟨12, rfl, by decide⟩
  · exact ⟨30, rfl, by decide⟩
  · exact ⟨7, rfl, by decide⟩
  · exact ⟨16, rfl, by decide⟩
  · exact ⟨36, rfl, by decide⟩
theorem pick40 (n r : Int) : ∃ z : Int, atI [V.int (1 + n.fmod 7), V.int 40] (if decide (V.int r = V.int 0) = true then 1 else 0) = some (.int z) ∧ 1 ≤ z ∧ z ≤ 40 := by
  rw [Int.fmod_eq_emod_of_nonneg _ (by decide)]
  have h0 := Int.emod_nonneg n (show (7 : Int) ≠ 0 by decide)
  have h1 := Int.emod_lt_of_pos n (show (0 : Int) < 7 by decide)
  by_cases e : V.int r = V.int 0
  · rw [decide_eq_true e, if_pos rfl]
    exact ⟨40, rfl, by decide, by decide⟩
  · rw [decide_eq_false e, if_neg Bool.false_ne_true]
    exact ⟨_, rfl, by omega, by omega⟩
theorem sc_of {d a : Addr} {ns : List Int} {H1 : Hp} (h : SqL K H a (ns.map V.int)) (hd : H d = none) (s : Same H H1) : Sc K H1 d a ns := fun H2 g => by
  rcases h with (h | ⟨o, h⟩) | h
  · exact .inl (.inl (g.kp _ _ (ne_of_none h hd) (s _ _ h)))
  · exact .inl (.inr ⟨o, g.kp _ _ (ne_of_none h hd) (s _ _ h)⟩)
  · exact .inr h
theorem sm_head : ∀ h ∈ smalls, ∃ z, h.wsI.head? = some z := by
  intro h hh
  have := (sm_len h hh).1
  cases e : h.wsI with
  | nil => rw [e] at this; exact absurd this (by decide)
  | cons a r => exact ⟨a, rfl⟩
end
end A1

namespace A1
open PySem L2 PySem.Spec PyProof.Rows
/-! ranges that are kept, unpacked tuples, starred items -/
def rRngV : List V → Hp → VK → Prop := fun vs H Q => ∃ j, vs = [.int j] ∧ ∀ p, H p = none → Q (.ref p) (upd H p (.rng 0 j))
def rRngW (R : It → Hp → Prop) (x : V) (H : Hp) : Prop := ∃ a lo hi, x = .ref a ∧ H a = some (.rng lo hi) ∧ (-(2 ^ 62) ≤ lo ∧ lo < 2 ^ 62 ∧ -(2 ^ 62) ≤ hi ∧ hi < 2 ^ 62) ∧ R (Itr lo (hi - lo).toNat) H
def iRngW (tl : TE) : TI := fun σ H R => tl σ H fun x H1 => rRngW R x H1
section
variable {X : Cx} {tg : Expr}
theorem c_range : CallR X (.type "range") rRngV := by
  rintro pins s σ H vs us Q I r ⟨j, rfl, q⟩
  obtain ⟨u, rfl, r1⟩ := vals1 r
  obtain ⟨t, rfl⟩ := r1
  refine call_range_1 ?_
  refine ⟨.ref s.heap.objs.size, upd H s.heap.objs.size (.rng 0 j), I.laid (t' := s.toks + 1 + 1) (fun b o e => Heap.get?_push_of_some _ e) (Nat.le_refl _) ?_, rfl, q _ (I.hok.fresh (Nat.le_refl _))⟩
  exact ⟨_, _, _, Heap.get?_push_size _ rfl⟩
theorem pi_rng {l : Expr} {tl : TE} (hl : PE X l tl) : PI X tg l (iRngW tl) := by
  refine ⟨fun pins s σ H R I h => ?_⟩
  refine thn (hl.run pins s σ H _ I h) fun v s1 ⟨x, H1, I1, r1, q1⟩ => ?_
  obtain ⟨a, lo, hi, rfl, ha, ⟨h1, h2, h3, h4⟩, q⟩ := q1
  cases r1
  obtain ⟨t, u, w, hg⟩ := (show ObjOk X.prog X.w H1 s1.heap a (.rng lo hi) from I1.hok a _ ha)
  refine wpAny_pyIter_range (t := t) (u := u) (v := w) (show IsRange _ _ _ _ _ _ _ _ from hg) (small_one h1 h2 h3 h4) ?_
  refine ⟨s1.heap.objs.size, [s1.heap.objs.size], _, _, H1, rfl, I1.kept (t' := s1.toks) fun b o e => Heap.get?_push_of_some _ e, turn_range _ lo (hi - lo).toNat, ?_, fun b hb => ?_, q⟩
  · have e1 : lo + ((0 : Nat) : Int) * 1 = lo := by simp
    have e2 : (((hi - lo).toNat : Nat) : Int) - ((0 : Nat) : Int) = Builtin.Range.rangeSize lo hi 1 := by rw [rangeSize_one]; split <;> omega
    show IsRangeIter _ _ (lo + ((0 : Nat) : Int) * 1) _ 1
    rw [e1, e2]
    exact Heap.get?_push_size _ rfl
  · have e : b = s1.heap.objs.size := by simpa using hb
    subst e
    exact I1.fpOk (Nat.le_refl _) (I1.hok.fresh (Nat.le_refl _))
end
section
variable {X : Cx} (K : PySem.W.Frag) (h : X.K = K)
include h
theorem k_pit {tg l : Expr} {tl : TE} (hl : PE X l tl) : PI X tg l (iTup K tl) := by subst h; exact pi_tup hl
theorem k_all (hc : X.calm = true) : CallR X (.builtin "all") (rAll K) := by subst h; exact cr_all hc
theorem k_slT : SlR X (rSlT K) := by subst h; exact sl_tup
theorem k_slA : SlR X (rSlA K) := by subst h; exact sl_tupA
theorem k_star {e : Expr} {es : List Expr} {te : TE} {t : TA} {p : Pos} (he : PE X e te) (hr : PA X es t) (hs : starEach (.Starred e p :: es) X.env = (true, eval e X.env) :: starEach es X.env := by rfl) : PA X (.Starred e p :: es) (StX.tStar K te t) := by
  subst h; exact StX.pa_star he hr hs
end
section
variable {K : PySem.W.Frag} {σ : L2.St} {H : Hp} {Q : VK} {D : Ends}
def rNotN : R2 := fun x y H Q => y = .non ∧ Q (.bl (!decide (x = .non))) H
theorem o_notN {X : Cx} : OpR X (compareOp .IsNot) rNotN := op_notN
theorem rd_notN {x : V} (q : Q (.bl (!decide (x = .non))) H) : rNotN x .non H Q := ⟨rfl, q⟩
theorem rd_chain {r r' : R2} {ta tb tc : TE} (q : ta σ H fun x H1 => tb σ H1 fun y H2 => r x y H2 fun z H3 => ∃ k, z = .bl k ∧ if k = true then (tc σ H3 fun w H4 => r' y w H4 Q) else Q (.bl false) H3) : tChain r r' ta tb tc σ H Q := q
def rStar (K : PySem.W.Frag) (R : List V → Hp → Prop) (t : TA) (σ : L2.St) (x : V) (H : Hp) : Prop := ∃ a xs, x = .ref a ∧ (SqT K H a xs ∨ SqL K H a xs) ∧ t σ H fun vs H2 => R (xs ++ vs) H2
theorem rd_star {te : TE} {t : TA} {R : List V → Hp → Prop} (q : te σ H fun x H1 => rStar K R t σ x H1) : StX.tStar K te t σ H R := q
theorem rd_starT {a : Addr} {xs : List V} {t : TA} {R : List V → Hp → Prop} (h : SqT K H a xs) (q : t σ H fun vs H2 => R (xs ++ vs) H2) : rStar K R t σ (.ref a) H := ⟨a, xs, rfl, .inl h, q⟩
theorem rd_rngv {j : Int} (q : ∀ (p : Addr) (H' : Hp), H p = none → H' p = some (.rng 0 j) → Same H H' → Q (.ref p) H') : rRngV [.int j] H Q := ⟨j, rfl, fun p hp => q p _ hp upd_same (same_new hp)⟩
theorem rd_irng {tl : TE} {R : It → Hp → Prop} (q : tl σ H fun x H1 => rRngW R x H1) : iRngW tl σ H R := q
theorem rd_rw {a : Addr} {j : Int} {R : It → Hp → Prop} (h : H a = some (.rng 0 j)) (hj : 0 ≤ j ∧ j < 1000000) (q : R (Itr 0 j.toNat) H) : rRngW R (.ref a) H :=
  ⟨a, 0, j, rfl, h, ⟨by omega, by omega, by omega, by omega⟩, by rw [Int.sub_zero]; exact q⟩
def rTw (K : PySem.W.Frag) (R : It → Hp → Prop) (x : V) (H : Hp) : Prop := ∃ a, x = .ref a ∧ (∃ xs, SqT K H a xs) ∧ R (Itt K a) H
theorem rd_itup {tl : TE} {R : It → Hp → Prop} (q : tl σ H fun x H1 => rTw K R x H1) : iTup K tl σ H R := q
theorem rd_it {a : Addr} {xs : List V} {R : It → Hp → Prop} (h : SqT K H a xs) (q : R (Itt K a) H) : rTw K R (.ref a) H := ⟨a, rfl, ⟨xs, h⟩, q⟩
theorem rd_gtup {a : Addr} {xs : List V} {n : Nat} {t : TGs} {R : L2.St → Hp → Prop} (h : SqT K H a xs) (e : xs.length = n) (q : t xs σ H R) : gTup K n t (.ref a) σ H R := ⟨a, xs, rfl, h, e, q⟩
theorem rd_gcons {v : V} {r : List V} {t : TG} {u : TGs} {R : L2.St → Hp → Prop} (q : t v σ H fun σ' H' => u r σ' H' R) : gCons t u (v :: r) σ H R := ⟨v, r, rfl, q⟩
theorem rd_gnil {R : L2.St → Hp → Prop} (q : R σ H) : gNil [] σ H R := ⟨rfl, q⟩
theorem rd_all {a : Addr} {bs : List Bool} (h : SqL K H a (bs.map V.bl)) (q : Q (.bl (bs.all id)) H) : rAll K [.ref a] H Q := ⟨a, bs, rfl, h, q⟩
def rSub (o i : TE) (t : TSet) (v : V) (σ : L2.St) (R : L2.St → Hp → Prop) (H : Hp) : Prop := o σ H fun x H1 => i σ H1 fun y H2 => t x y v H2 fun H3 => R σ H3
theorem rd_gsub {o i : TE} {t : TSet} {v : V} {R : L2.St → Hp → Prop} (q : o σ H fun x H1 => i σ H1 fun y H2 => t x y v H2 fun H3 => R σ H3) : gSub o i t v σ H R := q
theorem rd_setL {p : Addr} {xs : List V} {i : Int} {v : V} {R : Hp → Prop} (h : H p = some (.lst xs)) (h0 : 0 ≤ i) (h1 : i < xs.length) (q : R (upd H p (.lst (xs.set i.toNat v)))) : rSetL (.ref p) (.int i) v H R := by
  refine ⟨p, xs, i, i.toNat, rfl, rfl, h, ?_, q⟩
  unfold ixN
  rw [if_pos h0, if_pos h1]
theorem rd_listT {p : Addr} {ys : List V} (h : SqT K H p ys) (q : ∀ l, H l = none → Q (.ref l) (upd H l (.lst ys))) : rList K [.ref p] H Q := ⟨p, ys, rfl, .inr h, q⟩
/-- all but the first item of a table's tuple -/
theorem rd_tab {a : Addr} {z v1 v2 v3 : V} (hs : SqT K H a [z, v1, v2, v3]) (q : ∀ (c : Addr) (H' : Hp), H' c = some (.tup [v1, v2, v3]) → Same H H' → Q (.ref c) H') : rSlT K (.ref a) (some 1) none H Q := by
  refine ⟨a, _, rfl, hs, ?_, fun c hc => ?_⟩
  · show ¬ (HT.sIx 4 0 (some 1) = 0 ∧ HT.sIx 4 4 none = 4)
    decide
  · have e : cutV [z, v1, v2, v3] (some 1) none = [v1, v2, v3] := cut_from (xs := [z, v1, v2, v3]) (by show 1 ≤ 4; decide)
    rw [e]
    exact q c _ upd_same (same_new hc)
end
end A1

namespace A1
open PySem L2 PySem.Spec PyProof.Rows
/-! ## tables and their faults -/
def at2 (p : List (List Int)) (x y : Int) : Int := (p.getD x.toNat []).getD y.toNat 0
/-- the eight equations of a table -/
def eqn (o : Int) (p t : List (List Int)) : Nat → Int → Int → Int → Bool
  | 0, a, b, _ => decide (at2 p a b = at2 p b a)
  | 1, a, b, c => decide (at2 p (at2 p a b) c = at2 p a (at2 p b c))
  | 2, a, _, _ => decide (at2 p 0 a = a)
  | 3, a, b, _ => decide (at2 t a b = at2 t b a)
  | 4, a, b, c => decide (at2 t (at2 t a b) c = at2 t a (at2 t b c))
  | 5, a, _, _ => decide (at2 t o a = a)
  | 6, a, b, c => decide (at2 t a (at2 p b c) = at2 p (at2 t a b) (at2 t a c))
  | _, a, _, _ => decide (at2 t 0 a = 0)
def rowB (s : Nat) (r : List Int) : Bool := decide (r.length = s) && r.all fun z => decide (0 ≤ z ∧ z < (s : Int))
def sqB (p : List (List Int)) (s : Nat) : Bool := decide (p.length = s) && p.all (rowB s)
def formB (o : Int) (p t : List (List Int)) : Bool := decide (1 ≤ p.length ∧ p.length ≤ 6) && sqB p p.length && sqB t p.length && decide (0 ≤ o ∧ o < (p.length : Int))
def nums (n : Nat) : List Int := (List.range n).map Int.ofNat
theorem nums_succ (i : Nat) : nums (i + 1) = nums i ++ [(i : Int)] := by
  unfold nums
  rw [List.range_succ, List.map_append]; rfl
theorem nums_split {i n : Nat} (h : i < n) : ∃ r, nums n = nums i ++ (i : Int) :: r := by
  induction n with
  | zero => omega
  | succ n ih =>
    by_cases e : i = n
    · subst e
      exact ⟨[], by rw [nums_succ]⟩
    · obtain ⟨r, hr⟩ := ih (by omega)
      exact ⟨r ++ [(n : Int)], by rw [nums_succ, hr, List.append_assoc]; rfl⟩
theorem fs_app {α β : Type} (f : α → Option β) : ∀ (l m : List α), (l ++ m).findSome? f = match l.findSome? f with | some x => some x | none => m.findSome? f
  | [], m => rfl
  | a :: r, m => by
    rw [List.cons_append, List.findSome?_cons, List.findSome?_cons]
    cases f a with
    | some x => rfl
    | none => exact fs_app f r m
theorem fs_step {β : Type} {f : Int → Option β} {i : Nat} (h : (nums i).findSome? f = none) (h2 : f i = none) : (nums (i + 1)).findSome? f = none := by
  rw [nums_succ, fs_app, h, List.findSome?_cons, h2]; rfl
theorem fs_hit {β : Type} {f : Int → Option β} {i n : Nat} {x : β} (hi : i < n) (h : (nums i).findSome? f = none) (h2 : f i = some x) : (nums n).findSome? f = some x := by
  obtain ⟨r, hr⟩ := nums_split hi
  rw [hr, fs_app, h, List.findSome?_cons, h2]
abbrev T3 : Type := Int × Int × Int
def hit (P : Int → Int → Int → Bool) (a b c : Int) : Option T3 := if P a b c = true then none else some (a, b, c)
def in3 (n : Nat) (P : Int → Int → Int → Bool) (a b : Int) : Option T3 := (nums n).findSome? fun c => hit P a b c
def in2 (m n : Nat) (P : Int → Int → Int → Bool) (a : Int) : Option T3 := (nums m).findSome? fun b => in3 n P a b
/-- the first triple for which P does not hold -/
def fst3 (l m n : Nat) (P : Int → Int → Int → Bool) : Option T3 := (nums l).findSome? fun a => in2 m n P a
theorem nums_pos {n : Nat} (h : 1 ≤ n) : ∃ r, nums n = 0 :: r := by
  obtain ⟨r, hr⟩ := nums_split (i := 0) (n := n) h
  exact ⟨r, hr⟩
theorem fs_none {β : Type} (l : List Int) : l.findSome? (fun _ => (none : Option β)) = none := by
  induction l with
  | nil => rfl
  | cons a r ih => rw [List.findSome?_cons]; exact ih
theorem in3_one {n : Nat} (h : 1 ≤ n) {P : Int → Int → Int → Bool} (hP : ∀ a b c, P a b c = P a b 0) (a b : Int) : in3 n P a b = in3 1 P a b := by
  obtain ⟨r, hr⟩ := nums_pos h
  unfold in3
  rw [hr, show nums 1 = [0] from rfl, List.findSome?_cons, List.findSome?_cons]
  unfold hit
  by_cases e : P a b 0 = true
  · rw [if_pos e]
    show r.findSome? _ = none
    have : (fun c => if P a b c = true then none else some (a, b, c)) = fun _ => (none : Option T3) := by
      funext c; rw [hP, if_pos e]
    rw [this, fs_none]
  · rw [if_neg e]
theorem in2_one {m n : Nat} (h : 1 ≤ m) {P : Int → Int → Int → Bool} (hP : ∀ a b c, P a b c = P a 0 c) (hP2 : ∀ a b c, P a b c = P a b 0) (hn : 1 ≤ n) (a : Int) : in2 m n P a = in2 1 1 P a := by
  unfold in2
  obtain ⟨r, hr⟩ := nums_pos h
  rw [show (fun b => in3 n P a b) = fun b => in3 1 P a b from funext fun b => in3_one hn hP2 a b]
  rw [hr, show nums 1 = [0] from rfl, List.findSome?_cons, List.findSome?_cons]
  have e0 : in3 1 P a 0 = hit P a 0 0 := by
    unfold in3
    rw [show nums 1 = [0] from rfl, List.findSome?_cons]
    cases hit P a 0 0 <;> rfl
  rw [e0]
  unfold hit
  by_cases e : P a 0 0 = true
  · rw [if_pos e]
    show r.findSome? _ = none
    have : (fun b => in3 1 P a b) = fun _ => (none : Option T3) := by
      funext b
      unfold in3
      rw [show nums 1 = [0] from rfl, List.findSome?_cons]
      unfold hit
      rw [hP, if_pos e]; rfl
    rw [this, fs_none]
  · rw [if_neg e]
/-- how many worths stand in an equation -/
def many : Nat → Nat
  | 0 | 3 => 2
  | 1 | 4 | 6 => 3
  | _ => 1
def fstOf (o : Int) (p t : List (List Int)) (k : Nat) : Option T3 := fst3 p.length p.length p.length (eqn o p t k)
/-- the law asks fewer triples -/
def fstLaw (o : Int) (p t : List (List Int)) (k : Nat) : Option T3 := fst3 p.length (if many k > 1 then p.length else 1) (if many k > 2 then p.length else 1) (eqn o p t k)
theorem fst_same {o : Int} {p t : List (List Int)} (hp : 1 ≤ p.length) (k : Nat) : fstOf o p t k = fstLaw o p t k := by
  unfold fstOf fstLaw fst3
  have one : many k = 1 → (∀ a b c, eqn o p t k a b c = eqn o p t k a 0 c) ∧ ∀ a b c, eqn o p t k a b c = eqn o p t k a b 0 := by
    intro h
    match k, h with
    | 2, _ => exact ⟨fun _ _ _ => rfl, fun _ _ _ => rfl⟩
    | 5, _ => exact ⟨fun _ _ _ => rfl, fun _ _ _ => rfl⟩
    | k + 7, _ => exact ⟨fun _ _ _ => rfl, fun _ _ _ => rfl⟩
    | 0, h => exact absurd h (by decide)
    | 1, h => exact absurd h (by decide)
    | 3, h => exact absurd h (by decide)
    | 4, h => exact absurd h (by decide)
    | 6, h => exact absurd h (by decide)
  have two : many k = 2 → ∀ a b c, eqn o p t k a b c = eqn o p t k a b 0 := by
    intro h
    match k, h with
    | 0, _ => exact fun _ _ _ => rfl
    | 3, _ => exact fun _ _ _ => rfl
    | 1, h => exact absurd h (by decide)
    | 2, h => exact absurd h (by decide)
    | 4, h => exact absurd h (by decide)
    | 5, h => exact absurd h (by decide)
    | 6, h => exact absurd h (by decide)
    | k + 7, h => exact absurd h (by simp [many])
  have cs : many k = 1 ∨ many k = 2 ∨ many k = 3 := by
    match k with
    | 0 => exact .inr (.inl rfl)
    | 1 => exact .inr (.inr rfl)
    | 2 => exact .inl rfl
    | 3 => exact .inr (.inl rfl)
    | 4 => exact .inr (.inr rfl)
    | 5 => exact .inl rfl
    | 6 => exact .inr (.inr rfl)
    | k + 7 => exact .inl rfl
  rcases cs with h | h | h
  · rw [h]
    congr 1
    funext a
    exact in2_one hp (one h).1 (one h).2 hp a
  · rw [h]
    have e1 : (if 2 > 1 then p.length else 1) = p.length := if_pos (by decide)
    have e2 : (if 2 > 2 then p.length else 1) = 1 := if_neg (by decide)
    rw [e1, e2]
    congr 1
    funext a
    unfold in2
    congr 1
    funext b
    exact in3_one hp (two h) a b
  · rw [h]
    congr 1
/-- the names of the equations -/
def nmS : Nat → Str
  | 0 => "plus turns"
  | 1 => "plus joins"
  | 2 => "zero adds"
  | 3 => "times turns"
  | 4 => "times joins"
  | 5 => "one keeps"
  | 6 => "spreads"
  | _ => "zero kills"
def fltT (k : Nat) (x : T3) : TD := .tup [.str (nmS k), .int x.1, .int x.2.1, .int x.2.2]
/-- the fault of a table, as data -/
def faultT (o : Int) (p t : List (List Int)) : TD :=
  if formB o p t = true then (match (List.range 8).findSome? fun k => (fstOf o p t k).map (fltT k) with | none => .non | some d => d) else .tup [.str "form"]
theorem fsr_step {β : Type} {f : Nat → Option β} {i : Nat} (h : (List.range i).findSome? f = none) (h2 : f i = none) : (List.range (i + 1)).findSome? f = none := by
  rw [List.range_succ, fs_app, h, List.findSome?_cons, h2]; rfl
theorem range_split {i n : Nat} (h : i < n) : ∃ r, List.range n = List.range i ++ i :: r := by
  induction n with
  | zero => omega
  | succ n ih =>
    by_cases e : i = n
    · subst e
      exact ⟨[], by rw [List.range_succ]⟩
    · obtain ⟨r, hr⟩ := ih (by omega)
      exact ⟨r ++ [n], by rw [List.range_succ, hr, List.append_assoc]; rfl⟩
theorem fsr_hit {β : Type} {f : Nat → Option β} {i n : Nat} {x : β} (hi : i < n) (h : (List.range i).findSome? f = none) (h2 : f i = some x) : (List.range n).findSome? f = some x := by
  obtain ⟨r, hr⟩ := range_split hi
  rw [hr, fs_app, h, List.findSome?_cons, h2]
/-! ### a table as it stands -/
section
variable {K : PySem.W.Frag} {H H' : Hp} {v : V} {p : List (List Int)} {Q : VK}
theorem rpa_rows : ∀ {p : List (List Int)} {xs : List V}, RpA K H xs (p.map fun r => TD.tup (r.map TD.int)) → ∀ (i : Nat) (r : List Int), p[i]? = some r → ∃ b, xs[i]? = some (.ref b) ∧ SqT K H b (r.map V.int)
  | [], _, _, _, _, h => by simp at h
  | r :: p, _, ra, 0, r', h => by
    cases ra with
    | cons r1 r2 =>
      have e : r = r' := Option.some.inj h
      subst e
      cases r1 with
      | tup s a =>
        refine ⟨_, rfl, ?_⟩
        have : ∀ {ys : List V} {ns : List Int}, RpA K H ys (ns.map TD.int) → ys = ns.map V.int := by
          intro ys ns
          induction ns generalizing ys with
          | nil => intro q; cases q; rfl
          | cons n ns ih => intro q; cases q with | cons q1 q2 => cases q1; rw [ih q2]; rfl
        rw [← this a]; exact s
  | r :: p, _, ra, i + 1, r', h => by
    cases ra with
    | cons r1 r2 =>
      obtain ⟨b, h1, h2⟩ := rpa_rows r2 i r' (by simpa using h)
      exact ⟨b, by simpa using h1, h2⟩
theorem Rp.rows (r : Rp K H v (rowsT p)) : ∃ a xs, v = .ref a ∧ SqT K H a xs ∧ xs.length = p.length ∧ ∀ (i : Nat) (r : List Int), p[i]? = some r → ∃ b, xs[i]? = some (.ref b) ∧ SqT K H b (r.map V.int) := by
  cases r with
  | tup s ra => exact ⟨_, _, rfl, s, by rw [ra.length, List.length_map], rpa_rows ra⟩
/-- an index of the table -/
def InS (s : Nat) (x : Int) : Prop := 0 ≤ x ∧ x < s
structure Tab (K : PySem.W.Frag) (H : Hp) (v : V) (p : List (List Int)) (s : Nat) : Prop where
  rp : Rp K H v (rowsT p)
  sq : sqB p s = true
def RowOf (K : PySem.W.Frag) (H : Hp) (b : Addr) (p : List (List Int)) (s : Nat) (x : Int) : Prop := SqT K H b ((p.getD x.toNat []).map V.int) ∧ (p.getD x.toNat []).length = s
theorem sq_row {s : Nat} (h : sqB p s = true) {x : Int} (hx : InS s x) : p[x.toNat]? = some (p.getD x.toNat []) ∧ (p.getD x.toNat []).length = s ∧ ∀ z ∈ p.getD x.toNat [], InS s z := by
  unfold sqB at h
  rw [Bool.and_eq_true, decide_eq_true_eq, List.all_eq_true] at h
  obtain ⟨x0, x1⟩ := hx
  have hl : x.toNat < p.length := by omega
  have e : p[x.toNat]? = some (p.getD x.toNat []) := by rw [List.getElem?_eq_getElem hl, List.getD_eq_getElem?_getD, List.getElem?_eq_getElem hl]; rfl
  have m := h.2 _ (List.mem_of_getElem? e)
  unfold rowB at m
  rw [Bool.and_eq_true, decide_eq_true_eq, List.all_eq_true] at m
  exact ⟨e, m.1, fun z hz => of_decide_eq_true (p := 0 ≤ z ∧ z < (s : Int)) (m.2 z hz)⟩
theorem Tab.rng {s : Nat} (T : Tab K H v p s) {x y : Int} (hx : InS s x) (hy : InS s y) : InS s (at2 p x y) := by
  obtain ⟨_, l, m⟩ := sq_row T.sq hx
  obtain ⟨y0, y1⟩ := hy
  have hl : y.toNat < (p.getD x.toNat []).length := by omega
  unfold at2
  rw [List.getD_eq_getElem?_getD, List.getElem?_eq_getElem hl]
  exact m _ (List.getElem_mem hl)
theorem rd_row {s : Nat} (T : Tab K H v p s) {x : Int} (hx : InS s x) (q : ∀ b, RowOf K H b p s x → Q (.ref b) H) : rIxT K v (.int x) H Q := by
  obtain ⟨e, l, _⟩ := sq_row T.sq hx
  obtain ⟨a, xs, rfl, hs, hl, hr⟩ := T.rp.rows
  obtain ⟨b, hb, sb⟩ := hr _ _ e
  refine rd_ixT hs ?_ (q b ⟨sb, l⟩)
  obtain ⟨x0, x1⟩ := hx
  have ex : x = ((x.toNat : Nat) : Int) := by omega
  rw [ex]
  exact atI_nat hb
theorem rd_item {s : Nat} {b : Addr} {x y : Int} (R : RowOf K H b p s x) (hy : InS s y) (q : Q (.int (at2 p x y)) H) : rIxT K (.ref b) (.int y) H Q := by
  obtain ⟨sb, l⟩ := R
  obtain ⟨y0, y1⟩ := hy
  exact rd_ixT sb (at_ints y0 (by omega)) q
theorem Tab.mono {s : Nat} (T : Tab K H v p s) (h : Same H H') : Tab K H' v p s := ⟨same_rp h T.rp, T.sq⟩
end
end A1
namespace A1
open PySem L2 PySem.Spec PyProof.Rows
theorem dec_len {a b : Nat} : decide (V.int (a : Int) = V.int (b : Int)) = decide (a = b) := by
  by_cases h : a = b
  · subst h; simp
  · have : ¬ V.int (a : Int) = V.int (b : Int) := fun e => h (by have := V.int.inj e; omega)
    rw [decide_eq_false this, decide_eq_false h]
/-- 0 <= z < s, as it is asked -/
def inB (s : Nat) (z : Int) : Bool := decide (0 ≤ z ∧ z < (s : Int))
theorem rowB_eq (s : Nat) (r : List Int) : rowB s r = (decide (r.length = s) && (r.map (inB s)).all id) := by
  unfold rowB
  rw [List.all_map]
  rfl
theorem sqB_eq (p : List (List Int)) (s : Nat) : sqB p s = (decide (p.length = s) && (p.map (rowB s)).all id) := by
  unfold sqB
  rw [List.all_map]
  rfl
/-- a small table -/
def Few (p : List (List Int)) : Prop := p.length ≤ 100 ∧ ∀ r ∈ p, r.length ≤ 100
section
variable {K : PySem.W.Frag} {H : Hp} {Q : VK} {σ : L2.St}
theorem blist {α : Type} {l : List α} (f : α → Bool) {i : Nat} {z : α} (h : l[i]? = some z) : ((l.take i).map f).map V.bl ++ [V.bl (f z)] = ((l.take (i + 1)).map f).map V.bl := by
  rw [take_snoc h, List.map_append, List.map_append]; rfl
end
end A1
namespace A1
open PySem L2 PySem.Spec PyProof.Rows
theorem decI (x y : Int) : decide (V.int x = V.int y) = decide (x = y) := by
  by_cases h : x = y
  · subst h; simp
  · rw [decide_eq_false h, decide_eq_false fun e => h (V.int.inj e)]
theorem form_of {o : Int} {p t : List (List Int)} (h : formB o p t = true) : 1 ≤ p.length ∧ p.length ≤ 6 ∧ sqB p p.length = true ∧ sqB t p.length = true ∧ InS p.length o := by
  unfold formB at h
  simp only [Bool.and_eq_true, decide_eq_true_eq] at h
  exact ⟨h.1.1.1.1, h.1.1.1.2, h.1.1.2, h.1.2, h.2⟩
end A1

namespace A1
open PySem L2 PySem.Spec PyProof.Rows
theorem inV_no (bs : List Bool) : inV (.bl false) (bs.map V.bl) = !(bs.all id) := by
  unfold inV
  induction bs with
  | nil => rfl
  | cons b r ih =>
    rw [List.map_cons, List.any_cons, ih, List.all_cons]
    cases b <;> rfl
theorem flat_bl (bs : List Bool) : (bs.map V.bl).all flatV = true := by
  rw [List.all_map]
  exact List.all_eq_true.mpr fun _ _ => rfl
def eqNames : List V := [.str "plus turns", .str "plus joins", .str "zero adds", .str "times turns", .str "times joins", .str "one keeps", .str "spreads", .str "zero kills"]
theorem nm_at {i : Nat} (h : i < 8) : atI eqNames (i : Int) = some (.str (nmS i)) := by
  have : i = 0 ∨ i = 1 ∨ i = 2 ∨ i = 3 ∨ i = 4 ∨ i = 5 ∨ i = 6 ∨ i = 7 := by omega
  rcases this with rfl | rfl | rfl | rfl | rfl | rfl | rfl | rfl <;> rfl
theorem many_at {i : Nat} (h : i < 8) : atI [V.int 2, V.int 3, V.int 1, V.int 2, V.int 3, V.int 1, V.int 3, V.int 1] (i : Int) = some (.int (many i : Nat)) := by
  have : i = 0 ∨ i = 1 ∨ i = 2 ∨ i = 3 ∨ i = 4 ∨ i = 5 ∨ i = 6 ∨ i = 7 := by omega
  rcases this with rfl | rfl | rfl | rfl | rfl | rfl | rfl | rfl <;> rfl
/-- so many turns -/
theorem turns_eq {n m x : Nat} (hn : 1 ≤ n) : (if (n : Int) * (if decide ((x : Int) < (m : Int)) = true then 1 else 0) > 1 then (n : Int) * (if decide ((x : Int) < (m : Int)) = true then 1 else 0) else 1) = (((if m > x then n else 1) : Nat) : Int) := by
  by_cases h : m > x
  · have e : (x : Int) < (m : Int) := by omega
    rw [decide_eq_true e, if_pos rfl, if_pos h, Int.mul_one]
    split <;> omega
  · have e : ¬ (x : Int) < (m : Int) := by omega
    rw [decide_eq_false e, if_neg Bool.false_ne_true, if_neg h, Int.mul_zero]
    rfl
theorem turns_1 {n m : Nat} (hn : 1 ≤ n) : (if (n : Int) * (if decide ((1 : Int) < (m : Int)) = true then 1 else 0) > 1 then (n : Int) * (if decide ((1 : Int) < (m : Int)) = true then 1 else 0) else 1) = (((if m > 1 then n else 1) : Nat) : Int) := turns_eq (x := 1) hn
theorem turns_2 {n m : Nat} (hn : 1 ≤ n) : (if (n : Int) * (if decide ((2 : Int) < (m : Int)) = true then 1 else 0) > 1 then (n : Int) * (if decide ((2 : Int) < (m : Int)) = true then 1 else 0) else 1) = (((if m > 2 then n else 1) : Nat) : Int) := turns_eq (x := 2) hn
/-- a list of lists of ints, each s long, all made behind H0 -/
def Grid (H0 H : Hp) (b : Addr) (s : Nat) : Prop := H0 b = none ∧ ∃ as : List Addr, H b = some (.lst (as.map V.ref)) ∧ as.length = s ∧ ∀ a ∈ as, H0 a = none ∧ ∃ r : List Int, H a = some (.lst (r.map V.int)) ∧ r.length = s
/-- .. or not much more -/
def GridW (H0 H : Hp) (b : Addr) (s : Nat) : Prop := H0 b = none ∧ ∃ as : List Addr, H b = some (.lst (as.map V.ref)) ∧ as.length ≤ s + 1 ∧ ∀ a ∈ as, H0 a = none ∧ ∃ r : List Int, H a = some (.lst (r.map V.int)) ∧ r.length ≤ s + 1
theorem Grid.weak {H0 H : Hp} {b : Addr} {s : Nat} (g : Grid H0 H b s) : GridW H0 H b s := by
  obtain ⟨h0, as, h1, h2, h3⟩ := g
  refine ⟨h0, as, h1, by omega, fun a ha => ?_⟩
  obtain ⟨q0, r, q1, q2⟩ := h3 a ha
  exact ⟨q0, r, q1, by omega⟩
theorem refs_ints {as : List Addr} {r : List Int} (h : as.map V.ref = r.map V.int) : as = [] := by
  cases as with
  | nil => rfl
  | cons a as => cases r with
    | nil => cases h
    | cons n r => cases h
/-- a row is written -/
theorem Grid.put {H0 H : Hp} {b c : Addr} {s : Nat} {r' : List Int} {r0 : List Int} (hs : 1 ≤ s) (g : Grid H0 H b s) (hc : H c = some (.lst (r0.map V.int))) (hl : r'.length = s) : Grid H0 (upd H c (.lst (r'.map V.int))) b s := by
  obtain ⟨h0, as, h1, h2, h3⟩ := g
  have nbc : b ≠ c := fun e => by
    rw [e, hc] at h1
    have : as = [] := refs_ints (r := r0) (by injection h1 with h1; injection h1 with h1; exact h1.symm)
    subst this
    simp at h2; omega
  refine ⟨h0, as, by rw [upd_ne nbc]; exact h1, h2, fun a ha => ?_⟩
  obtain ⟨q0, r, q1, q2⟩ := h3 a ha
  by_cases e : a = c
  · subst e; exact ⟨q0, r', upd_same, hl⟩
  · exact ⟨q0, r, by rw [upd_ne e]; exact q1, q2⟩
theorem GridW.put {H0 H : Hp} {b c : Addr} {s : Nat} {r' : List Int} {r0 : List Int} (hs : 1 ≤ s) (g : Grid H0 H b s) (hc : H c = some (.lst (r0.map V.int))) (hl : r'.length ≤ s + 1) : GridW H0 (upd H c (.lst (r'.map V.int))) b s := by
  obtain ⟨h0, as, h1, h2, h3⟩ := g
  have nbc : b ≠ c := fun e => by
    rw [e, hc] at h1
    have : as = [] := refs_ints (r := r0) (by injection h1 with h1; injection h1 with h1; exact h1.symm)
    subst this
    simp at h2; omega
  refine ⟨h0, as, by rw [upd_ne nbc]; exact h1, by omega, fun a ha => ?_⟩
  obtain ⟨q0, r, q1, q2⟩ := h3 a ha
  by_cases e : a = c
  · subst e; exact ⟨q0, r', upd_same, hl⟩
  · exact ⟨q0, r, by rw [upd_ne e]; exact q1, by omega⟩
theorem Grid.row {H0 H : Hp} {b : Addr} {s : Nat} (g : Grid H0 H b s) {x : Int} (hx : InS s x) : ∃ (as : List Addr) (c : Addr) (r : List Int), H b = some (.lst (as.map V.ref)) ∧ atI (as.map V.ref) x = some (.ref c) ∧ H0 c = none ∧ H c = some (.lst (r.map V.int)) ∧ r.length = s := by
  obtain ⟨h0, as, h1, h2, h3⟩ := g
  obtain ⟨x0, x1⟩ := hx
  have hl : x.toNat < as.length := by omega
  obtain ⟨q0, r, q1, q2⟩ := h3 as[x.toNat] (List.getElem_mem hl)
  refine ⟨as, as[x.toNat], r, h1, ?_, q0, q1, q2⟩
  have ex : x = ((x.toNat : Nat) : Int) := by omega
  have : atI (as.map V.ref) ((x.toNat : Nat) : Int) = some (.ref as[x.toNat]) := atI_nat (by rw [List.getElem?_map, List.getElem?_eq_getElem hl]; rfl)
  rw [← ex] at this
  exact this
theorem Grid.dr {H0 H H' : Hp} {b d : Addr} {s : Nat} (g : Grid H0 H b s) (hd : DrAt d H0) (q : Dr d H H') : Grid H0 H' b s := by
  obtain ⟨h0, as, h1, h2, h3⟩ := g
  have nd : ∀ a, H0 a = none → a ≠ d := fun a n e => by
    obtain ⟨_, w⟩ := hd
    rw [← e, n] at w; cases w
  refine ⟨h0, as, q.kp _ _ (nd b h0) h1, h2, fun a ha => ?_⟩
  obtain ⟨q0, r, q1, q2⟩ := h3 a ha
  exact ⟨q0, r, q.kp _ _ (nd a q0) q1, q2⟩
theorem Grid.same {H0 H H' : Hp} {b : Addr} {s : Nat} (g : Grid H0 H b s) (q : Same H H') : Grid H0 H' b s := by
  obtain ⟨h0, as, h1, h2, h3⟩ := g
  refine ⟨h0, as, q _ _ h1, h2, fun a ha => ?_⟩
  obtain ⟨q0, r, q1, q2⟩ := h3 a ha
  exact ⟨q0, r, q _ _ q1, q2⟩
theorem GridW.dr {H0 H H' : Hp} {b d : Addr} {s : Nat} (g : GridW H0 H b s) (hd : DrAt d H0) (q : Dr d H H') : GridW H0 H' b s := by
  obtain ⟨h0, as, h1, h2, h3⟩ := g
  have nd : ∀ a, H0 a = none → a ≠ d := fun a n e => by
    obtain ⟨_, w⟩ := hd
    rw [← e, n] at w; cases w
  refine ⟨h0, as, q.kp _ _ (nd b h0) h1, h2, fun a ha => ?_⟩
  obtain ⟨q0, r, q1, q2⟩ := h3 a ha
  exact ⟨q0, r, q.kp _ _ (nd a q0) q1, q2⟩
theorem GridW.same {H0 H H' : Hp} {b : Addr} {s : Nat} (g : GridW H0 H b s) (q : Same H H') : GridW H0 H' b s := by
  obtain ⟨h0, as, h1, h2, h3⟩ := g
  refine ⟨h0, as, q _ _ h1, h2, fun a ha => ?_⟩
  obtain ⟨q0, r, q1, q2⟩ := h3 a ha
  exact ⟨q0, r, q _ _ q1, q2⟩
/-- square, s by s -/
def SqN (p : List (List Int)) (s : Nat) : Prop := p.length = s ∧ ∀ r ∈ p, r.length = s
theorem TOk.square {o : Int} {p t : List (List Int)} (h : TOk o p t) : ∃ s, 1 ≤ s ∧ s ≤ 6 ∧ SqN p s ∧ SqN t s ∧ InS s o := by
  obtain ⟨h, ns, hs, pm, _, ho, rfl, rfl⟩ := h
  have hl := pm.length_eq
  have h2 := sm_len h hs
  refine ⟨ns.length, by omega, by omega, ⟨by rw [List.length_map], fun r hr => ?_⟩, ⟨by rw [List.length_map], fun r hr => ?_⟩, ?_⟩
  · obtain ⟨a, _, rfl⟩ := List.mem_map.mp hr
    rw [List.length_map]
  · obtain ⟨a, _, rfl⟩ := List.mem_map.mp hr
    rw [List.length_map]
  · subst ho
    have := List.idxOf_lt_length_of_mem (pm.mem_iff.mpr (sm_one h hs))
    unfold idxI
    exact ⟨by omega, by omega⟩
theorem SqN.few {p : List (List Int)} {s : Nat} (h : SqN p s) (hs : s ≤ 7) : Few p := ⟨by rw [h.1]; omega, fun r hr => by rw [h.2 r hr]; omega⟩
section
variable {K : PySem.W.Frag} {H : Hp} {Q : VK}
theorem rpa_take : ∀ {ts : List TD} {vs : List V} (n : Nat), RpA K H vs ts → RpA K H (vs.take n) (ts.take n)
  | [], _, n, r => by cases r; cases n <;> exact .nil
  | _ :: _, _, 0, _ => .nil
  | t :: ts, _, n + 1, r => by
    cases r with
    | cons a b => exact .cons a (rpa_take n b)
theorem cut_upto {xs : List V} {k : Nat} : cutV xs none (some (k : Int)) = xs.take k := by
  unfold cutV
  rw [HT.sIx_none, HT.sIx_nat]
  show (xs.drop 0).take (min k xs.length - 0) = xs.take k
  rw [List.drop_zero, Nat.sub_zero]
  rcases Nat.le_total k xs.length with h | h
  · rw [Nat.min_eq_left h]
  · rw [Nat.min_eq_right h, List.take_of_length_le (Nat.le_refl _), List.take_of_length_le h]
/-- the first rows of a table -/
theorem rd_upto {v : V} {p : List (List Int)} {k : Nat} (r : Rp K H v (rowsT p)) (q : ∀ u H', Same H H' → Rp K H' u (rowsT (p.take k)) → Q u H') : rSlA K v none (some (k : Int)) H Q := by
  cases r with
  | @tup a xs _ s ra =>
    refine ⟨a, xs, rfl, s, fun w => ?_, fun _ c hc => ?_⟩
    · have hl : xs.length ≤ k := by
        have := w.2
        rw [HT.sIx_nat] at this
        omega
      have e : p.take k = p := List.take_of_length_le (by rw [ra.length, List.length_map] at hl; exact hl)
      refine q _ _ (.refl _) ?_
      rw [e]
      exact .tup s ra
    · rw [cut_upto]
      refine q _ _ (same_new hc) ?_
      refine .tup (SqT.of upd_same) ?_
      rw [List.map_take]
      exact same_rpa (same_new hc) (rpa_take k ra)
end
end A1

namespace A1
open PySem L2 PySem.Spec PyProof.Rows
/-! ## kinds -/
def five : List Str := ["all", "once", "sets", "prices", "yes"]
def tabOnce (p : List (List Int)) : Bool := (nums p.length).all fun a => decide (at2 p a a = a)
def tabSq (p t : List (List Int)) : Bool := (nums p.length).all fun a => decide (at2 t a a = a)
def tabTop (o : Int) (p : List (List Int)) : Bool := (nums p.length).all fun a => decide (at2 p o a = o)
def kindsB (once sq top : Bool) : List Str := [("all" : Str)] ++ (if once = true then [("once" : Str)] else []) ++ (if (once && sq) = true then [("sets" : Str)] else []) ++ (if top = true then [("prices" : Str)] else []) ++ (if (top && sq) = true then [("yes" : Str)] else [])
def Hs.kinds : Hs → List Str
  | .counts | .formulas => ["all"]
  | .yes | .chain _ | .divisors _ => five
  | .capped n | .modulo n => if n = 1 then five else ["all"]
  | .least | .prices _ => ["all", "once", "prices"]
  | .sums => ["all", "once"]
  | .families => ["all", "once", "sets"]
  | .table o p t => kindsB (tabOnce p) (tabSq p t) (tabTop o p)
  | .pair h k => h.kinds.filter fun z => decide (z ∈ k.kinds)
def strsT (l : List Str) : TD := .tup (l.map .str)
theorem kindsB_len (a b c : Bool) : (kindsB a b c).length ≤ 5 := by cases a <;> cases b <;> cases c <;> decide
theorem kinds_len : ∀ h : Hs, h.kinds.length ≤ 5
  | .counts | .formulas | .yes | .chain _ | .divisors _ | .least | .prices _ | .sums | .families => by simp [Hs.kinds, five]
  | .capped n => by show (if n = 1 then five else ["all"]).length ≤ 5; split <;> decide
  | .modulo n => by show (if n = 1 then five else ["all"]).length ≤ 5; split <;> decide
  | .table o p t => kindsB_len _ _ _
  | .pair h k => Nat.le_trans (List.length_filter_le _ _) (kinds_len h)
theorem strs_fit (l : List Str) (h : l.length ≤ 5) : (strsT l).fit 2 := ⟨by rw [List.length_map]; omega, fun d hd => by
  obtain ⟨z, _, rfl⟩ := List.mem_map.mp hd
  trivial⟩
/-- the tables of a house have their form -/
def Hs.formed : Hs → Prop
  | .table o p t => formB o p t = true
  | .pair h k => h.formed ∧ k.formed
  | _ => True
theorem idx_in {ns : List Int} {z : Int} (h : z ∈ ns) : 0 ≤ idxI ns z ∧ idxI ns z < (ns.length : Int) := by
  have := List.idxOf_lt_length_of_mem h
  unfold idxI
  omega
theorem TOk.formed {o : Int} {p t : List (List Int)} (h : TOk o p t) : formB o p t = true := by
  obtain ⟨h, ns, hs, pm, _, ho, rfl, rfl⟩ := h
  have hl := pm.length_eq
  have h2 := sm_len h hs
  have sq : ∀ g : Int → Int → Int, (∀ a ∈ h.wsI, ∀ b ∈ h.wsI, g a b ∈ h.wsI) → sqB (ns.map fun a => ns.map fun b => idxI ns (g a b)) ns.length = true := by
    intro g hg
    unfold sqB
    rw [List.length_map, decide_eq_true rfl, Bool.true_and, List.all_eq_true]
    intro r hr
    obtain ⟨a, ha, rfl⟩ := List.mem_map.mp hr
    unfold rowB
    rw [List.length_map, decide_eq_true rfl, Bool.true_and, List.all_eq_true]
    intro z hz
    obtain ⟨b, hb, rfl⟩ := List.mem_map.mp hz
    exact decide_eq_true (idx_in (pm.mem_iff.mpr (hg a (pm.mem_iff.mp ha) b (pm.mem_iff.mp hb))))
  unfold formB
  rw [List.length_map, sq _ (sm_plus h hs), sq _ (sm_times h hs), decide_eq_true (show 1 ≤ ns.length ∧ ns.length ≤ 6 by omega), ho, decide_eq_true (idx_in (pm.mem_iff.mpr (sm_one h hs)))]
  rfl
theorem ok_formed : ∀ h : Hs, h.ok → h.formed
  | .table _ _ _, h => h.formed
  | .pair h k, q => ⟨ok_formed h q.1, ok_formed k q.2⟩
  | .counts, _ | .formulas, _ | .yes, _ | .chain _, _ | .divisors _, _ | .least, _ | .prices _, _ | .sums, _ | .families, _ | .capped _, _ | .modulo _, _ => trivial
theorem strs_inV (z : Str) (l : List Str) : inV (.str z) (l.map V.str) = decide (z ∈ l) := by
  unfold inV
  induction l with
  | nil => rfl
  | cons a r ih =>
    rw [List.map_cons, List.any_cons, ih]
    show ((a == z) || decide (z ∈ r)) = _
    by_cases e : z = a
    · subst e; simp
    · have : (a == z) = false := beq_eq_false_iff_ne.mpr fun q => e q.symm
      rw [this, Bool.false_or]
      simp [e]
theorem strs_flat (l : List Str) : (l.map V.str).all flatV = true := by
  rw [List.all_map]
  exact List.all_eq_true.mpr fun _ _ => rfl
section
variable {K : PySem.W.Frag} {H : Hp} {Q : VK}
theorem rd_inT {x : V} {p : Addr} {xs : List V} (h : SqT K H p xs) (f : flatV x = true) (fs : xs.all flatV = true) (q : Q (.bl (inV x xs)) H) : rIn K false x (.ref p) H Q := ⟨p, xs, rfl, .inr h, f, fs, q⟩
theorem rpa_strs : ∀ (l : List Str), RpA K H (l.map V.str) (l.map TD.str)
  | [] => .nil
  | n :: r => .cons (.str n) (rpa_strs r)
theorem Rp.strs {v : V} {l : List Str} (r : Rp K H v (strsT l)) : ∃ a, v = .ref a ∧ SqT K H a (l.map V.str) := by
  cases r with
  | @tup a xs _ s ra =>
    refine ⟨a, rfl, ?_⟩
    have : ∀ {ys : List V} {ns : List Str}, RpA K H ys (ns.map TD.str) → ys = ns.map V.str := by
      intro ys ns
      induction ns generalizing ys with
      | nil => intro q; cases q; rfl
      | cons n ns ih => intro q; cases q with | cons q1 q2 => cases q1; rw [ih q2]; rfl
    rw [← this ra]; exact s
theorem strs_get {l : List Str} {i : Nat} {x : V} (h : (l.map V.str)[i]? = some x) : ∃ z, x = .str z ∧ l[i]? = some z := by
  rw [List.getElem?_map] at h
  cases e : l[i]? with
  | none => rw [e] at h; cases h
  | some z => rw [e] at h; exact ⟨z, (Option.some.inj h).symm, rfl⟩
theorem nlist (f : Int → Bool) (i : Nat) : ((nums i).map f).map V.bl ++ [V.bl (f i)] = ((nums (i + 1)).map f).map V.bl := by
  rw [nums_succ, List.map_append, List.map_append]; rfl
theorem nums_len (i : Nat) : (nums i).length = i := by simp [nums]
theorem filter_snoc {l : List Str} {i : Nat} {z : Str} (h : l[i]? = some z) (f : Str → Bool) : (l.take (i + 1)).filter f = (l.take i).filter f ++ if f z = true then [z] else [] := by
  rw [take_snoc h, List.filter_append]
  congr 1
  by_cases e : f z = true
  · rw [if_pos e, List.filter_cons, if_pos e]; rfl
  · rw [if_neg e, List.filter_cons, if_neg e]; rfl
end
end A1

namespace A1
open PySem L2 PySem.Spec PyProof.Rows
/-! texts: items, slices, joins, membership, loops over them -/
/-- the signs of a text -/
def sg (z : Str) : List Nat := z.cps.toList
theorem sg_len (z : Str) : (sg z).length = z.length := rfl
theorem sg_app (a b : Str) : sg (a ++ b) = sg a ++ sg b := by
  show (a.cps ++ b.cps).toList = _
  rw [Array.toList_append]; rfl
theorem len_app (a b : Str) : (a ++ b).length = a.length + b.length := by rw [← sg_len, ← sg_len, ← sg_len, sg_app, List.length_append]
theorem sg_one (c : Nat) : sg ⟨#[c]⟩ = [c] := rfl
theorem join_sg : ∀ ys : List Str, sg (Txt.join (Str.ofString "") ys) = ys.flatMap sg := by
  intro ys
  rw [show Txt.join (Str.ofString "") ys = Str.join (Str.ofString "") ys from TL.join_eq _ ys]
  induction ys with
  | nil => rfl
  | cons y r ih =>
    cases r with
    | nil => show sg y = _; rw [List.flatMap_cons, List.flatMap_nil, List.append_nil]
    | cons x r =>
      show sg (y ++ Str.ofString "" ++ Str.join (Str.ofString "") (x :: r)) = _
      rw [sg_app, sg_app, ih, show sg (Str.ofString "") = [] by decide +kernel, List.append_nil]
      exact List.flatMap_cons.symm
section
variable {H H1 : Hp} {Q : VK} {σ : L2.St} {D : Ends}
def rCatX : R2 := fun x y H Q => ∃ i j, x = .str i ∧ y = .str j ∧ i.length + j.length ≤ sizeLine ∧ Q (.str (i ++ j)) H
theorem op_catX {X : Cx} : OpR X (binaryOp .Add) rCatX := op_add_str
theorem rd_catX {a b : Str} (z : a.length + b.length ≤ sizeLine) (q : Q (.str (a ++ b)) H) : rCatX (.str a) (.str b) H Q := ⟨a, b, rfl, rfl, z, q⟩
theorem rd_ixS {z : Str} {i : Int} {c : Nat} (h : z.length ≤ sizeLine) (a : atI (sg z) i = some c) (q : Q (.str ⟨#[c]⟩) H) : rIxS (.str z) (.int i) H Q := ⟨z, i, c, rfl, rfl, h, a, q⟩
def rLenX : List V → Hp → VK → Prop := fun xs H Q => ∃ z, xs = [.str z] ∧ z.length ≤ sizeLine ∧ Q (.int z.length) H
theorem c_lenX {X : Cx} : CallR X (.builtin "len") rLenX := call_len_str
theorem rd_lenX {z : Str} (h : z.length ≤ sizeLine) (q : Q (.int z.length) H) : rLenX [.str z] H Q := ⟨z, rfl, h, q⟩
theorem rd_slX {z : Str} {lo hi : Option Int} (h : z.length ≤ sizeLine) (q : Q (.str (cutS z lo hi)) H) : rSlS (.str z) lo hi H Q := ⟨z, rfl, h, q⟩
theorem rd_inX {c : Nat} {z : Str} (q : Q (.bl (decide (c ∈ sg z))) H) : rInS (.str ⟨#[c]⟩) (.str z) H Q := ⟨c, z, rfl, rfl, q⟩
theorem rd_notInX {c : Nat} {z : Str} (q : Q (.bl (!decide (c ∈ sg z))) H) : rNotInS (.str ⟨#[c]⟩) (.str z) H Q := ⟨c, z, rfl, rfl, q⟩
/-- a.join(b) -/
def rJoinX (K : PySem.W.Frag) : V → List V → Hp → VK → Prop := fun x xs H Q => ∃ a p, ∃ ys : List Str, x = .str a ∧ xs = [.ref p] ∧ (SqL K H p (ys.map V.str) ∨ SqT K H p (ys.map V.str)) ∧
      (ys.map (·.length)).sum + ys.length * a.length ≤ 16777216 ∧ Q (.str (Txt.join a ys)) H
theorem pe_joinX {X : Cx} {K : PySem.W.Frag} (hK : X.K = K) {o e : Expr} {to te : TE} {apos pos : Pos} (ho : PE X o to) (he : PE X e te) (hs : starEach [e] X.env = [(false, eval e X.env)] := by rfl) (hbase : attributeBase o "join" X.env (eval o X.env) = eval o X.env := by rfl) (hline : (apos.endLine == pos.line) = true := by rfl) :
    PE X (.Call (.Attribute o "join" apos) [e] [] pos) (tM1 (rJoinX K) to te) := by
  subst hK
  exact pe_join ho he hs hbase hline
theorem rd_m1 {r : V → List V → Hp → VK → Prop} {to te : TE} (q : to σ H fun x H1 => (∃ a, x = .str a) ∧ te σ H1 fun y H2 => r x [y] H2 Q) : tM1 r to te σ H Q := q
theorem rd_joinX {K : PySem.W.Frag} {p : Addr} {ys : List Str} (h : SqL K H p (ys.map V.str)) (z : (ys.map (·.length)).sum ≤ 16777216) (q : ∀ u : Str, sg u = ys.flatMap sg → Q (.str u) H) : rJoinX K (.str (Str.ofString "")) [.ref p] H Q :=
  ⟨_, p, ys, rfl, rfl, .inl h, by rw [show (Str.ofString "").length = 0 by decide +kernel, Nat.mul_zero]; exact z, q _ (join_sg ys)⟩
theorem rd_istr {te : TE} {R : It → Hp → Prop} (q : te σ H fun v H1 => ∃ x, v = .str x ∧ R (Its x) H1) : iStr te σ H R := q
theorem rd_its {z : Str} {R : It → Hp → Prop} {H : Hp} (q : R (Its z) H) : ∃ x, V.str z = .str x ∧ R (Its x) H := ⟨z, rfl, q⟩
/-- str(int) -/
def rStrI : List V → Hp → VK → Prop := fun xs H Q => ∃ i : Int, xs = [.int i] ∧ i.natAbs.log2 < 1920 ∧ Q (.str (toString i)) H
theorem c_strI {X : Cx} : CallR X (.type "str") rStrI := call_str_int
theorem rd_strI {i : Int} (h : i.natAbs.log2 < 1920) (q : Q (.str (toString i)) H) : rStrI [.int i] H Q := ⟨i, rfl, h, q⟩
theorem rd_joinG {K : PySem.W.Frag} {p : Addr} {a : Str} {ys : List Str} (h : SqL K H p (ys.map V.str)) (z : (ys.map (·.length)).sum + ys.length * a.length ≤ 16777216) (q : Q (.str (Txt.join a ys)) H) : rJoinX K (.str a) [.ref p] H Q := ⟨a, p, ys, rfl, rfl, .inl h, z, q⟩
end
theorem join_len (a : Str) : ∀ ys : List Str, (Txt.join a ys).length ≤ (ys.map (·.length)).sum + ys.length * a.length := by
  intro ys
  rw [show Txt.join a ys = Str.join a ys from TL.join_eq _ ys]
  induction ys with
  | nil => exact Nat.zero_le _
  | cons y r ih =>
    cases r with
    | nil => show y.length ≤ _; simp only [List.map_cons, List.map_nil, List.sum_cons, List.sum_nil]; omega
    | cons x r =>
      show (y ++ a ++ Str.join a (x :: r)).length ≤ _
      rw [len_app, len_app]
      simp only [List.map_cons, List.sum_cons, List.length_cons] at ih ⊢
      rw [Nat.add_mul, Nat.one_mul] at ih ⊢
      rw [Nat.add_mul, Nat.one_mul]
      omega
theorem sum_le {α : Type} (f : α → Nat) (m : Nat) : ∀ l : List α, (∀ x ∈ l, f x ≤ m) → (l.map f).sum ≤ l.length * m
  | [], _ => Nat.zero_le _
  | x :: r, h => by
    rw [List.map_cons, List.sum_cons, List.length_cons, Nat.add_mul, Nat.one_mul]
    have := h x List.mem_cons_self
    have := sum_le f m r fun y hy => h y (List.mem_cons_of_mem _ hy)
    omega
theorem sg_at {z : Str} {i : Int} (h0 : 0 ≤ i) (h1 : i < (z.length : Int)) : ∃ c, atI (sg z) i = some c ∧ c ∈ sg z := by
  have hl : i.toNat < (sg z).length := by rw [sg_len]; omega
  refine ⟨(sg z)[i.toNat], ?_, List.getElem_mem hl⟩
  unfold atI ixN
  rw [if_pos h0, if_pos (by rw [sg_len]; omega)]
  exact List.getElem?_eq_getElem hl
end A1

namespace A1
open PySem L2 PySem.Spec PyProof.Rows
/-! enumerate of a tuple -/
theorem meets_enumOne {v : Value} {ob : Obj} {St0 : Heap → Prop} (B : Begins v ob St0) :
    Meets (Builtin.«enumerate.__new__» ⟨[.type "enumerate", v], []⟩) (fun _ R z => St0 z.heap ∧ R (.ok (.ret (.ref (z.heap.push ob).objs.size))) { z with heap := (z.heap.push ob).push { cls := .type "enumerate", data := .fields #[.none, .bool false, .ref z.heap.objs.size, rawInt 0, .none, .none] } }) :=
  .of_wp fun pr w0 A0 R z hz => by
    obtain ⟨hp, gn, dr, tk, os⟩ := z
    obtain ⟨hb, hR⟩ := hz
    have hsb := sub_enumerate
    have qi : ∀ {A1 : Around} {E1 : Value → Shared → Prop} {Q1 : Value → Shared → Prop}, Q1 (.ref hp.objs.size) ⟨hp.push ob, gn, dr, tk, os⟩ → wpAny (model pr w0) A1 (pyIter v) Q1 E1 ⟨hp, gn, dr, tk, os⟩ := fun q => B.iter pr w0 _ _ ⟨hp, gn, dr, tk, os⟩ _ hb q
    wp_walk using qi
    refine wpAny_stack_any fun _ => wpAny_pure ?_
    split
    · rename_i cc _ _ _ _ _
      cases (cc == Value.type "enumerate") <;> (wp_walk using qi; exact ⟨_, rfl, hR⟩)
    · wp_walk using qi
      exact ⟨_, rfl, hR⟩
theorem call_enumOne {pr : Program} {w0 : World} {A0 : Around} {E0 : Value → Shared → Prop} {z : Shared} {v : Value} {ob : Obj} {St0 : Heap → Prop} {Q0 : Value → Shared → Prop} (B : Begins v ob St0) (hb : St0 z.heap)
    (hq : ∀ h2, IsEnum h2 (z.heap.objs.size + 1) z.heap.objs.size 0 .none → h2.get? z.heap.objs.size = some ob → (∀ b o, z.heap.get? b = some o → h2.get? b = some o) → Q0 (.ref (z.heap.objs.size + 1)) { z with heap := h2 }) :
    wpAny (model pr w0) A0 (call (.type "enumerate") [v]) Q0 E0 z := by
  refine callType_new F.called_enumerate (by decide) (F.typeCall_enumerate_1 _) (F.newCall_enumerate_1 _) (fun x => F.args_object_init_2 x _) F.entry_enumerate_new (meets_enumOne B) ⟨hb, ?_⟩
  have sz : (z.heap.push ob).objs.size = z.heap.objs.size + 1 := Heap.size_push ..
  have ie := Heap.get?_push_size (z.heap.push ob) (o := { cls := .type "enumerate", data := .fields #[.none, .bool false, .ref z.heap.objs.size, rawInt 0, .none, .none] }) rfl
  rw [sz] at ie
  show _ ∧ _
  rw [sz]
  exact ⟨⟨_, ie, rfl⟩, hq _ ie (Heap.get?_push_of_some _ (Heap.get?_push_size _ B.free)) fun b o e => Heap.get?_push_of_some _ (Heap.get?_push_of_some _ e)⟩
/-- the pairs of place and item of the tuple at a -/
def IteT (K : PySem.W.Frag) (a : Addr) : It :=
  ⟨fun i H => ∃ (xs : List V) (x : V), SqT K H a xs ∧ xs[i]? = some x, fun i H v H' => ∃ t x, v = .ref t ∧ H t = none ∧ H' = upd H t (.tup [.int (i : Nat), x]) ∧ ∀ xs, SqT K H a xs → xs[i]? = some x, fun i H => ∃ xs : List V, SqT K H a xs ∧ xs.length ≤ i⟩
theorem ne_cls {h : Heap} {a b : Addr} {o o' : Obj} {c c' : String} (e : h.get? a = some o) (e' : h.get? b = some o') (k : o.cls = .type c) (k' : o'.cls = .type c') (n : c ≠ c') : a ≠ b := fun q => by
  subst q
  rw [e] at e'
  cases e'
  rw [k] at k'
  injection k' with k'
  exact n k'
theorem enum_endT {pr : Program} {w0 : World} {A0 : Around} {E0 : Value → Shared → Prop} {z : Shared} {en it a : Addr} {i : Nat} {j : Int} {its : Array Value} {u : Value} {Q0 : Option Value → Shared → Prop} (hh : A0.handled = none)
    (he : IsEnum z.heap en it j u) (hi : z.heap.IsTupleIter it a i) (ht : z.heap.IsTuple a its) (hx : its[i]? = none) (hq : ∀ h2, Heap.ExtBut it z.heap h2 → Q0 none { z with heap := h2 }) : wpAny (model pr w0) A0 (pyNext (.ref en)) Q0 E0 z := by
  have ty : z.TypeIs (.ref en) "enumerate" := ⟨_, he, rfl⟩
  unfold pyNext
  refine wpAny_bind (wpAny_attempt (wpAny_callSpecial?_slot (name := Str.ofString "__next__") ty F.slot_enumerate_next (wpAny_call_entry F.slot_enumerate_next ty F.entry_enumerate_next ?_ (F.args_enumerate_next_1 _))))
  show wpAny _ _ (field (.ref en) 2 >>= _) _ _ _
  refine wpAny_bind (wpAny_field he rfl (x := .ref it) rfl (wpAny_bind (wpAny_nextOf_tuple_end hh hi ht hx fun h2 x eb ⟨o, ho, hc⟩ => ?_)))
  exact wpAny_bind (wpAny_isInstance (T := "StopIteration") (b := true) ⟨o, ho, hc⟩ isSubtype_stop (wpAny_pure (hq _ eb)))
theorem turn_enumT {P : Program} {w : World} {K : PySem.W.Frag} {ts : List Expr} {kk : Nat} {tp : Pos} (a en it : Addr) :
    Turn P w K (.Tuple ts kk tp) (IteT K a) [en, it] en (fun i h => (∃ u, IsEnum h en it ((i : Nat) : Int) u) ∧ h.IsTupleIter it a i ∧ en ≠ it) where
  mem := by simp
  obj := fun i h st b hb => by
    obtain ⟨⟨u, he⟩, ⟨o, ho, _, hd⟩, _⟩ := st
    rcases List.mem_cons.mp hb with z | z
    · rw [z]; exact ⟨_, he, fun v q => nomatch q⟩
    · rw [List.mem_singleton.mp z]; exact ⟨o, ho, fun v q => by rw [hd] at q; cases q⟩
  keep := fun i h h2 ⟨⟨u, he⟩, hi, n⟩ k => ⟨⟨u, k en (by simp) _ he⟩, hi.at fun o q => k it (by simp) o q, n⟩
  item := by
    intro X eP ew eK calm i pins s σ H E I hf ⟨⟨u, he⟩, hi, n⟩ ⟨xs, x, hs, hx⟩
    subst eP ew eK
    obtain ⟨its, rv, p, hz⟩ := I.tuple hs
    obtain ⟨y, hy, ry⟩ := rv.get hx
    have pt : s.heap.IsTuple a its.toArray := p
    obtain ⟨ot, et, ct, _⟩ := id pt
    obtain ⟨oi, ei, ci, _⟩ := id hi
    have nai : a ≠ it := ne_cls et ei ct ci (by decide)
    have nae : a ≠ en := ne_cls et he ct (c' := "enumerate") rfl (by decide)
    have le : en < s.heap.objs.size := Heap.lt_size he
    have li : it < s.heap.objs.size := Heap.lt_size ei
    have hlt : i < its.toArray.size := by
      have := (List.getElem?_eq_some_iff.mp hy).1
      simpa using this
    refine wpAny_pyNext_enum_itemD (Draws.tuple (A := X.A.in1) (I.ok.hd calm) it a nai its.toArray) he ⟨hi, pt⟩ hlt n (by simp [n, Ne.symm nae]) fun y' h2 tk ey ho st2 hT _ k => ?_
    have ey' : its[i]? = some y' := by simpa using ey
    rw [hy] at ey'
    cases ey'
    refine ⟨_, rfl, wpAny_letOwnedTupleGo_enum (s := { s with heap := h2, toks := tk + 1 }) ho fun h3 he3 sb => ?_⟩
    have hT3 : h3.get? s.heap.objs.size = some { cls := .type "tuple", data := .seq #[.int i tk, y] } := (sb.2 _ (Nat.ne_of_gt le)).trans hT
    have new : ObjOk X.prog X.w (upd H s.heap.objs.size (.tup [.int (i : Nat), x])) h3 s.heap.objs.size (.tup [.int (i : Nat), x]) :=
      ⟨(by decide : 2 ≤ sizeLine), [.int i tk, y], .cons ⟨_, rfl⟩ (.cons ry .nil), ⟨_, hT3, rfl, _, rfl⟩⟩
    have I1 : Inv X pins σ (upd H s.heap.objs.size (.tup [.int (i : Nat), x])) { s with heap := h3, toks := tk + 1 } :=
      I.turnedNew (ch := [en, it]) (fun b o hb q => (sb.2 b (fun z => hb (by simp [z]))).trans (k b o (fun z => hb (by simp [z])) (fun z => hb (by simp [z])) q)) hf (Nat.le_refl _) new
    refine ⟨.ref s.heap.objs.size, _, I1, rfl, ⟨_, x, rfl, I.hok.fresh (Nat.le_refl _), rfl, fun ys hys => by rw [I.tuple_inj hys hs]; exact hx⟩, ⟨⟨_, by rw [show ((i + 1 : Nat) : Int) = (i : Int) + 1 by omega]; exact he3⟩, st2.1.at fun o q => (sb.2 it (Ne.symm n)).trans q, n⟩, fun b hb => ?_⟩
    have lb : b < s.heap.objs.size := by
      rcases List.mem_cons.mp hb with z | z
      · rw [z]; exact le
      · rw [List.mem_singleton.mp z]; exact li
    rw [upd_ne (Nat.ne_of_lt lb)]
    exact (hf b hb).1
  done := by
    intro X eP ew eK calm i pins s σ H E I hf ⟨⟨u, he⟩, hi, n⟩ ⟨xs, hs, hx⟩
    subst eP ew eK
    obtain ⟨its, rv, p, hz⟩ := I.tuple hs
    have pt : s.heap.IsTuple a its.toArray := p
    obtain ⟨f0, f1, f2, f3, f4, f5⟩ := hf it (by simp)
    have hl := rv.length
    exact enum_endT (I.ok.hd calm) he hi pt (by simp; omega) fun h2 eb => ⟨rfl, I.turned (t' := s.toks) (fun b o hb q => eb b o hb q) f0 f1 f3 f4 f5⟩
  self := fun A0 i s Q E ⟨⟨_, he⟩, _⟩ h => wpAny_pyIter_enum he h
def iEnumT (K : PySem.W.Frag) (ta : TA) : TI := fun σ H R => ta σ H fun vs H1 => ∃ a xs, vs = [.ref a] ∧ SqT K H1 a xs ∧ R (IteT K a) H1
theorem pi_enumT {X : Cx} {e : Expr} {ta : TA} {p pos tp : Pos} {ts : List Expr} {kk : Nat} {K : PySem.W.Frag} (hK : X.K = K) (hg : Gl X "enumerate") (hm : X.mg "enumerate" = none) (ha : PA X [e] ta) (hs : starEach [e] X.env = [(false, eval e X.env)] := by rfl) :
    PI X (.Tuple ts kk tp) (.Call (.Name "enumerate" p) [e] [] pos) (iEnumT K ta) := by
  subst hK
  refine ⟨fun pins s σ H R I h => ?_⟩
  refine Call_ (ld_blt I hg hm boot_enumerate (PyProof.Rows.callWith_type1 (thn (ha.run pos pins s σ H _ I h) fun us s1 ⟨vs, H1, I1, r1, a, xs, ex, hq, q⟩ => ?_) hs rfl))
  subst ex
  cases r1 with
  | cons r rr =>
    cases rr
    cases r
    obtain ⟨its, rv, pp, hz⟩ := I1.tuple hq
    have pt : s1.heap.IsTuple a its.toArray := pp
    refine call_enumOne (begins_tuple a its.toArray) pt fun h2 he hit hk => wpAny_pyIter_enum he ?_
    have I2 : Inv X pins σ H1 { s1 with heap := h2 } := I1.kept (t' := s1.toks) hk
    refine ⟨s1.heap.objs.size + 1, [s1.heap.objs.size + 1, s1.heap.objs.size], _, _, H1, rfl, I2, turn_enumT a (s1.heap.objs.size + 1) s1.heap.objs.size, ⟨⟨.none, he⟩, ⟨_, hit, rfl, rfl⟩, Nat.succ_ne_self _⟩, fun b hb => ?_, q⟩
    have lb : s1.heap.objs.size ≤ b := by
      rcases List.mem_cons.mp hb with z | z
      · rw [z]; exact Nat.le_add_right _ _
      · rw [List.mem_singleton.mp z]; exact Nat.le_refl _
    exact I1.fpOk lb (I1.hok.fresh lb)
end A1

namespace PySem
namespace NoQX
open PySem.W PySem.Calls PyProof.Rows PySem.HandSPX
/-! ### the text of __init__ -/
def iA (p1 p2 : Pos) : Arguments := { posonlyargs := [], args := [{ arg := "self", annotation := none, pos := p1 }, { arg := "join", annotation := none, pos := p2 }], vararg := none, kwonlyargs := [], kw_defaults := [], kwarg := none, defaults := [] }
def iB (q1 q2 q3 q4 : Pos) : List Stmt := [.Assign [.Attribute (.Name "self" q1) "join" q2] (.Name "join" q3) q4]
def iS : Scope := { kind := .function, names := [(PySem.Str.ofString "self", .local), (PySem.Str.ofString "join", .local)], isGenerator := false, isCoroutine := false, more := [] }
/-- what the written part says of Low, at C, and of its __init__, at fI -/
structure NoQTxt (K : Frag) (mg : Str → Option Value) (C fI : Addr) : Prop where
  gC : mg "NoQuestion" = some (.ref C)
  cls : ∃ nm q N bs bm sn sub ab col dd k0 k1 k2 k3 k5, K.lookup C = some (excClassObj nm q C N bs bm true sn sub ab col dd k0 k1 k2 k3 k5 "ValueError.__new__") ∧ refsVE bm = true
  sa : findIn K (.ref C) "__setattr__" = some (some (.builtin "object.__setattr__"))
  ga : findIn K (.ref C) "__getattribute__" = some (some (.builtin "BaseException.__getattribute__"))
  gg : findIn K (.ref C) "__getattr__" = some none
  noN : findIn K (.ref C) "join" = some none
  iC : findIn K (.ref C) "__init__" = some (some (.ref fI))
  tC : typeIn K (.ref fI) = some (.type "function")
  kC : keepIn K (.ref C) = true
  exC : subIn K (.ref C) (.type "BaseException") = some true
  tyC : typeIn K (.ref C) = some (.type "type")
  hdC : hasDictIn K C = true
  te : exmOne K (.ref C) (.ref C) = some true
  fn : ∃ (oc : Value) (od : Option Addr) (doc pm : Value) (an : Option Addr) (cdv ct : Value) (osl : Array (Option Value)) (p1 p2 q1 q2 q3 q4 : Pos),
    K.lookup fI = some ⟨oc, od, .func (fnOf "__init__" "NoQuestion.__init__" (iA p1 p2) (iB q1 q2 q3 q4) iS .none .none doc pm an cdv ct), osl⟩ ∧ codeIn K cdv "NoQuestion.__init__" = true
theorem one_size (v : Value) : [v].length ≤ sizeLine := by
  rw [sizeLine_eq]
  exact (by decide : 1 ≤ 16777216)
theorem kept_but {K : Frag} {h h' : Heap} {x : Addr} (X : K.In h) (hx : K.lookup x = none) (k : ∀ b o, b ≠ x → h.get? b = some o → h'.get? b = some o) : K.In h' := fun a o e =>
  k a o (fun z => by rw [z, hx] at e; cases e) (X a o e)
theorem ldC {M : Model} {s : Shared} {name : Str} {scope : Scope} {L a : Addr} {cd : Value} {m : Str → Option Value} {x : Str} {pos : Pos} {v : Value} {Q : Value → Shared → Prop} {A : Around} {E : Value → Shared → Prop} (hn : s.heap.Ns L m) (hv : m x = some v) (h : Q v s)
    (hk : scope.kind = .function := by rfl) (hl : (envOfC name scope L a cd).kindOf x = some .local := by rfl) (hd : (x == ("__debug__" : Str)) = false := by decide) :
    wpAny M A (eval (.Name x pos) (envOfC name scope L a cd)) Q E s := wpAny_Name (wpAny_loadName_local hk hl hn hv h) hd
/-- what __init__ leaves of a fresh exception at x -/
structure InitEnd (h h' : Heap) (x C dx t1 : Addr) (v : Value) : Prop where
  keep : ∀ b o, b ≠ x → h.get? b = some o → h'.get? b = some o
  obj : h'.get? x = some { cls := .ref C, dict := some dx, data := .fields #[.ref t1, .none, .none, .none, .bool false, .none] }
  dbig : h.objs.size ≤ dx
  dne : dx ≠ x
  ns : h'.Ns1 dx (fun y => if y = "join" then some v else none)
/-- a made Low -/
structure OwnMade (h h' : Heap) (e C d : Addr) (v : Value) : Prop where
  keep : ∀ b o, h.get? b = some o → h'.get? b = some o
  new : h.objs.size ≤ e
  obj : ∃ oe vs, h'.get? e = some oe ∧ oe.cls = .ref C ∧ oe.dict = some d ∧ oe.data = .fields vs ∧ vs[1]? = some .none
  dbig : h.objs.size ≤ d
  dne : d ≠ e
  ns : h'.Ns1 d (fun y => if y = "join" then some v else none)
section
variable {prog : Program} {w : World} {A : Around} {E : Value → Shared → Prop} {R : Result → Shared → Prop} {s : Shared} {K : Frag} {mg : Str → Option Value} {C fI : Addr}
theorem noq_init (T : NoQTxt K mg C fI) {x t0 : Addr} {v : Value} (X : K.In s.heap) (hlim : s.heap.NoLimit) (hx : s.heap.get? x = some (excO C t0)) (hnx : K.lookup x = none) (hroom : A.depth < recursionLimit)
    (hq : ∀ h' tk dx, InitEnd s.heap h' x C dx t0 v → R (.ok (.ret .none)) { s with heap := h', toks := tk }) :
    codeAny (model prog w) A (.call (.ref fI) ⟨[.ref x, v], []⟩) R s := by
  obtain ⟨oc, od, doc, pm, an, cdv, ct, osl, p1, p2, q1, q2, q3, q4, ho, hcd⟩ := T.fn
  obtain ⟨nm, q, N, bs, bm, sn, sub, ab, col, dd, k0, k1, k2, k3, k5, hC, hbm⟩ := T.cls
  have hcl : clsIn K C = some { name := nm, bases := bs, mro := .ref C :: bm, ns := N, qualname := q, hasDict := true, slotNames := sn, subclasses := sub, abstract := ab, collection := col, hasDel := false } := by unfold clsIn; rw [hC] <;> rfl
  refine Att.call_fn (binds := [("self", .ref x), ("join", v)]) X hlim ho hcd hroom (BindsTo.of_eq (by first | rfl | with_unfolding_all rfl)) (by first | rfl | decide | with_unfolding_all rfl) (fun s₁ IC => ?_) rfl rfl rfl
  obtain ⟨h₁, tk₁, rfl⟩ := IC.toInCall.same
  have k : ∀ b o, s.heap.get? b = some o → h₁.get? b = some o := IC.toInCall.keep
  have hn := IC.toInCall.ns
  have hxL : s.heap.objs.size ≠ x := Nat.ne_of_gt (Heap.lt_size hx)
  have X₁ : K.In h₁ := X.keeps k
  have hx₁ := k _ _ hx
  -- self.by = by
  show wpAny _ _ (execs _ _) _ _ _
  refine wpAny_execs_cons (plainObj_wpAny_Assign_Attribute ?_)
  refine ldC (v := v) hn (by first | rfl | with_unfolding_all rfl | kernel_rfl) (ldC (v := .ref x) hn (by first | rfl | with_unfolding_all rfl | kernel_rfl) ?_)
  refine set_plain X₁ (ox := excO C t0) (od := none) ⟨hx₁, rfl, rfl, trivial⟩ T.sa ?_
  refine exc_osa X₁ hx₁ hcl (show refsVE (.ref C :: bm) = true from hbm) rfl T.noN (fun h₃ tk₃ dx k₃ dn dne hx₃ hn₃ => ?_)
  show wpAny _ _ (execs _ _) _ _ _
  have z : s.heap.objs.size < h₁.objs.size := hn.lt
  exact wpAny_execs_nil (hq h₃ tk₃ dx ⟨fun b o hb e => k₃ b o hb (k b o e), hx₃, Nat.le_of_lt (Nat.lt_of_lt_of_le z dn), dne, hn₃⟩)
theorem noq_made (T : NoQTxt K mg C fI) {v : Value} (X : K.In s.heap) (hlim : s.heap.NoLimit) (hroom : A.depth + 1 < recursionLimit)
    (hq : ∀ h' tk e d, OwnMade s.heap h' e C d v → R (.ok (.ret (.ref e))) { s with heap := h', toks := tk }) :
    codeAny (model prog w) A (.call (.ref C) ⟨[v], []⟩) R s := by
  obtain ⟨nm, q, N, bs, bm, sn, sub, ab, col, dd, k0, k1, k2, k3, k5, hC, hbm⟩ := T.cls
  obtain ⟨hp, g, dr, tk, os⟩ := s
  have k : ∀ b o, hp.get? b = some o → ((hp.push (kdv_tup [v])).push (excO C hp.objs.size)).get? b = some o := fun b o e => Heap.get?_push_of_some _ (Heap.get?_push_of_some _ e)
  have hget : ((hp.push (kdv_tup [v])).push (excO C hp.objs.size)).get? (hp.objs.size + 1) = some (excO C hp.objs.size) := by heap_get
  have hnx : K.lookup (hp.objs.size + 1) = none := by
    cases e : K.lookup (hp.objs.size + 1) with
    | none => rfl
    | some o =>
      have z : hp.get? (hp.objs.size + 1) = some o := X _ _ e
      exact absurd (Nat.lt_of_succ_lt (Heap.lt_size z)) (Nat.lt_irrefl _)
  refine call_own F.excBase_ValueError (fun X => refsVE_contains X bm hbm) (X _ _ hC) (looks_findIn X T.iC) (fun self => bind_fn X self T.tC) (one_size v) ?_
  refine noq_init (s := ⟨(hp.push (kdv_tup [v])).push (excO C hp.objs.size), g, dr, tk, os⟩) T (X.keeps k) (hlim.keeps k) hget hnx ?_ fun h' tk' dx ⟨k', hx, dn, dne, hns⟩ => ?_
  · show A.depth + 1 < recursionLimit
    exact hroom
  · have old : ∀ b o, hp.get? b = some o → h'.get? b = some o := fun b o e => k' b o (Nat.ne_of_lt (Nat.lt_succ_of_lt (Heap.lt_size e))) (k b o e)
    have z : hp.objs.size + 1 + 1 ≤ dx := by
      first
        | (simpa only [Heap.size_push] using dn)
        | exact dn
        | (have q := dn; rw [Heap.size_push, Heap.size_push] at q; exact q)
    exact ⟨rfl, hq h' tk' (hp.objs.size + 1) dx ⟨old, Nat.le_succ _, ⟨_, _, hx, rfl, rfl, rfl, rfl⟩, Nat.le_trans (Nat.le_trans (Nat.le_succ _) (Nat.le_succ _)) z, dne, hns⟩⟩
end
end NoQX
end PySem
namespace A1
open PySem PySem.Spec PyProof.Rows L2
theorem relO_noq {v : V} {v' : Value} (r : RelV v v') (f : Str) : RelO (List.lookup f [(("join" : Str), v)]) (if f = "join" then some v' else none) := by
  by_cases hw : f = "join"
  · subst hw
    rw [if_pos rfl]
    have q : List.lookup ("join" : Str) [(("join" : Str), v)] = some v := by simp [List.lookup]
    rw [q]
    exact r
  · rw [if_neg hw]
    have qw : (f == ("join" : Str)) = false := by simpa using hw
    have q2 : List.lookup f [(("join" : Str), v)] = none := by simp [List.lookup, qw]
    rw [q2]
    trivial
section
variable {X : Cx} {C fI : Addr}
/-- Low(e) -/
def tMkNoq (C : Addr) (ta : TA) : L2.St → Hp → XK → Prop := fun σ H Q => ta σ H fun vs H1 => ∃ v, vs = [v] ∧ ∀ d, H1 d = none → Q (.ref C) (some d) (upd H1 d (.xd [(("join" : Str), v)]))
theorem pmk_noq {a : Expr} {ta : TA} {p pos : Pos} {k : Nat} (T : PySem.NoQX.NoQTxt X.K X.mg C fI) (hr : Room k X.A) (ha : PA X [a] ta) (hg : Gl X "NoQuestion" := by rfl)
    (he : starEach (a :: []) X.env = (false, eval a X.env) :: starEach [] X.env := by rfl) (hpl : (backTo pos (starEach [] X.env)).any (·.1) = false := by rfl) :
    PMk X (.Call (.Name "NoQuestion" p) [a] [] pos) (tMkNoq C ta) := by
  intro pins s σ H Q I h
  refine wpAny_Call_Name_kw (ld_glob I hg T.gC ?_)
  refine PySem.W.callWith_K (h₀ := X.base) I.ok.mod.kin T.kC (thn (ha.run pos pins s σ H _ I h) fun us s1 hh => ?_) he hpl
  obtain ⟨vs, H1, I1, r1, v, ev, q1⟩ := hh
  subst ev
  refine ⟨I1.kIn, ?_⟩
  cases r1 with
  | cons rv rn =>
    rename_i v' us'
    cases rn
    show wpAny _ _ (call (.ref C) [v']) _ _ _
    have hlim := I1.nolimit
    obtain ⟨hp, g, dr, tk, os⟩ := s1
    refine wpAny_call (PySem.NoQX.noq_made T I1.kIn hlim (by have := hr.dp; omega) fun h' tk' e d M => ?_)
    show MkP X pins σ Q (.ref e) ⟨h', g, dr, tk', os⟩
    obtain ⟨oe, fv, hoe, hc, hd, hdat, h1⟩ := M.obj
    have hns := M.ns
    obtain ⟨G', g1, g2⟩ := restrict h' fun b => decide (b ≠ e)
    have gk : ∀ b, b ≠ e → G'.get? b = h'.get? b := fun b hb => g1 b (decide_eq_true hb)
    have ge : G'.get? e = none := g2 e (by simp)
    have old : ∀ b o, hp.get? b = some o → G'.get? b = some o := fun b o q => (gk b (Nat.ne_of_lt (Nat.lt_of_lt_of_le (Heap.lt_size q) M.new))).trans (M.keep b o q)
    have ob : ObjOk X.prog X.w (upd H1 d (.xd [(("join" : Str), v)])) G' d (.xd [(("join" : Str), v)]) :=
      ⟨_, hns.at (fun o q => (gk d M.dne).trans q), fun f => relO_noq rv f⟩
    have J : Inv X pins σ (upd H1 d (.xd [(("join" : Str), v)])) ⟨G', g, dr, tk', os⟩ := I1.laid (t' := tk') old M.dbig ob
    refine ⟨e, oe, fv, ⟨G', g, dr, tk', os⟩, _, .ref C, some d, rfl, J, fun b o q => ?_, ge, hoe, ⟨hc, hd⟩, hdat, h1, ?_, rfl, I1.bare, raises_own T.exC T.tyC, q1 d (I1.hok.fresh M.dbig)⟩
    · by_cases hb : b = e
      · have q' : G'.get? b = some o := q
        rw [hb, ge] at q'; cases q'
      · exact (gk b hb).symm.trans q
    · rw [upd_ne (Ne.symm M.dne)]
      exact I1.hok.fresh M.new
/-- raise Low(e) -/
def tRaiseNoq (C : Addr) (W : WX) (ta : TA) : TS := fun _ σ H => tMkNoq C ta σ H fun cls d H' => W cls d σ H'
theorem ps_raiseNoq {a : Expr} {ta : TA} {W : WX} {p pos pos2 : Pos} {k : Nat} (hc : X.calm = true) (T : PySem.NoQX.NoQTxt X.K X.mg C fI) (hr : Room k X.A) (tk : Takes X W) (ha : PA X [a] ta) (hg : Gl X "NoQuestion" := by rfl)
    (he : starEach (a :: []) X.env = (false, eval a X.env) :: starEach [] X.env := by rfl) (hpl : (backTo pos (starEach [] X.env)).any (·.1) = false := by rfl) :
    PS X (.Raise (some (.Call (.Name "NoQuestion" p) [a] [] pos)) none pos2) (tRaiseNoq C W ta) := ps_raise hc tk (pmk_noq T hr ha hg he hpl)
/-- low.by, low the exception that the suite holds (at a; its class cls, its dict d) -/
def tJoinOf (C : Addr) (a : Addr) (cls : Value) (d : Option Addr) (te : TE) : TE := fun σ H Q => te σ H fun x H1 => x = .ref a ∧ cls = .ref C ∧ ∃ (dd : Addr) (v : V), d = some dd ∧ H1 dd = some (.xd [(("join" : Str), v)]) ∧ Q v H1
theorem pe_joinOf {a : Addr} {oe : Obj} {cls : Value} {d : Option Addr} {pn : List (Addr × Obj)} {e : Expr} {te : TE} {pos : Pos} (T : PySem.NoQX.NoQTxt X.K X.mg C fI) (hz : Zc cls d oe) (hf : ∃ vs, oe.data = .fields vs) (he : PE (X.suite a ((a, oe) :: pn)) e te)
    (hb : attributeBase e "join" X.env (eval e X.env) = eval e X.env := by rfl) :
    PE (X.suite a ((a, oe) :: pn)) (.Attribute e "join" pos) (tJoinOf C a cls d te) := by
  refine ⟨fun pins s σ H Q I h => ?_⟩
  refine attr_of hb (thn (he.run pins s σ H _ I h) fun u s1 hh => ?_)
  obtain ⟨x, H1, I1, rx, ex, ec, dd, v, ed, ea, q⟩ := hh
  subst ex
  obtain rfl : u = Value.ref a := rx
  subst ec
  subst ed
  obtain ⟨ha, _⟩ := I1.pin (a, oe) (List.mem_append_left _ List.mem_cons_self)
  obtain ⟨vs, hd⟩ := hf
  have hx : ObjOk X.prog X.w H1 s1.heap dd (.xd [(("join" : Str), v)]) := I1.hok dd _ ea
  obtain ⟨mA, hns, hr⟩ := hx
  obtain ⟨od, ho, hl⟩ := lookIn_ns hns
  have l : List.lookup ("join" : Str) [(("join" : Str), v)] = some v := by simp [List.lookup]
  obtain ⟨u, hu, ru⟩ := RelO.some_of (v := v) (o := mA "join") (by rw [← l]; exact hr "join")
  have J : PySem.W.InstAt s1.heap a oe C (some od) := ⟨ha, hz.1, by unfold PySem.W.notCls; rw [hd] <;> rfl, by rw [hz.2]; exact ho⟩
  exact HandSPX.exc_get I1.kIn J T.ga T.gg T.exC (PySem.W.findObj_own T.hdC T.noN rfl (by rw [hl, hu])) (handed_of ru) ⟨v, H1, I1.tok _, ru, q⟩
end
end A1

namespace A1
open PySem PySem.Spec PyProof.Rows L2
/-- what a class of errors must say for isinstance of its objects -/
structure ErrC (K : PySem.W.Frag) (C : Addr) : Prop where
  is : (PySem.W.clsIn K C).isSome = true
  ga : PySem.W.findIn K (.ref C) "__getattribute__" = some (some (.builtin "BaseException.__getattribute__"))
  gg : PySem.W.findIn K (.ref C) "__getattr__" = some none
  sb : PySem.W.subIn K (.ref C) (.type "BaseException") = some true
  cl : PySem.W.findIn K (.ref C) "__class__" = some (some (.builtin "object.__class__"))
  gt : PySem.W.specialIn K (.builtin "object.__class__") "__get__" = some (some (.builtin "getset_descriptor.__get__"))
  tk : PySem.W.takesIn K (.builtin "object.__class__") = some true
  mr : PySem.W.mroIn K C (.type "object") = some true
section
variable {X : Cx} {C : Addr}
theorem inst_of {a dd : Addr} {oe : Obj} {pn : List (Addr × Obj)} {pins : List (Addr × Obj)} {s : Shared} {σ : L2.St} {H : Hp} {fs : List (Str × V)} (I : Inv (X.suite a ((a, oe) :: pn)) pins σ H s) (hz : Zc (.ref C) (some dd) oe) (hf : ∃ vs, oe.data = .fields vs) (hd : H dd = some (.xd fs)) :
    ∃ od, PySem.W.InstAt s.heap a oe C (some od) := by
  obtain ⟨ha, _⟩ := I.pin (a, oe) (List.mem_append_left _ List.mem_cons_self)
  obtain ⟨vs, hv⟩ := hf
  have hx : ObjOk X.prog X.w H s.heap dd (.xd fs) := I.hok dd _ hd
  obtain ⟨mA, hns, _⟩ := hx
  obtain ⟨od, ho, _⟩ := lookIn_ns hns
  exact ⟨od, ha, hz.1, by unfold PySem.W.notCls; rw [hv] <;> rfl, by rw [hz.2]; exact ho⟩
/-- isinstance(e, c), e the error that the suite holds, with a dict of its own -/
def rIsX (K : PySem.W.Frag) (C a : Addr) (cls : Value) (d : Option Addr) : List V → Hp → VK → Prop := fun xs H Q => cls = .ref C ∧ ∃ (c : V) (u : Value) (b : Bool) (dd : Addr) (fs : List (Str × V)), xs = [.ref a, c] ∧ ClsV c u ∧ d = some dd ∧ H dd = some (.xd fs) ∧ PySem.W.kitOne K (.ref C) u = some b ∧ Q (.bl b) H
theorem call_isX {a : Addr} {oe : Obj} {cls : Value} {d : Option Addr} {pn : List (Addr × Obj)} (T : ErrC X.K C) (hz : Zc cls d oe) (hf : ∃ vs, oe.data = .fields vs) : CallR (X.suite a ((a, oe) :: pn)) (.builtin "isinstance") (rIsX X.K C a cls d) := by
  intro pins s σ H xs us Q I r h
  obtain ⟨rfl, c, u, b, dd, fs, rfl, k, rfl, hd, e, q⟩ := h
  obtain ⟨u1, u2, rfl, r1, r2⟩ := vals2 r
  have e2 := k.eq r2
  subst e2
  obtain rfl : u1 = Value.ref a := r1
  obtain ⟨od, J⟩ := inst_of I hz hf hd
  exact PySem.W.kia_one (PySem.W.kitx_exc T.is T.ga T.gg T.sb T.cl T.gt T.tk T.mr) I.kIn J e (fun z => nomatch z) fun tk => ⟨.bl b, H, I.tok tk, rfl, q⟩
/-- isinstance(e, (c1, c2, ..)) -/
def rIsXT (K : PySem.W.Frag) (C a : Addr) (cls : Value) (d : Option Addr) : List V → Hp → VK → Prop := fun xs H Q => cls = .ref C ∧ ∃ (tp : Addr) (cs : List V) (ws : List Value) (b : Bool) (dd : Addr) (fs : List (Str × V)), xs = [.ref a, .ref tp] ∧ H tp = some (.tup cs) ∧ Paired ClsV cs ws ∧ d = some dd ∧ H dd = some (.xd fs) ∧ PySem.W.kitAny K (.ref C) ws = some b ∧ Q (.bl b) H
theorem call_isXT {a : Addr} {oe : Obj} {cls : Value} {d : Option Addr} {pn : List (Addr × Obj)} (T : ErrC X.K C) (hz : Zc cls d oe) (hf : ∃ vs, oe.data = .fields vs) : CallR (X.suite a ((a, oe) :: pn)) (.builtin "isinstance") (rIsXT X.K C a cls d) := by
  intro pins s σ H xs us Q I r h
  obtain ⟨rfl, tp, cs, ws, b, dd, fs, rfl, hT, k, rfl, hd, e, q⟩ := h
  obtain ⟨u1, u2, rfl, r1, r2⟩ := vals2 r
  obtain rfl : u2 = Value.ref tp := r2
  obtain rfl : u1 = Value.ref a := r1
  obtain ⟨od, J⟩ := inst_of I hz hf hd
  obtain ⟨_, its, rv, o, h1, h2, n, h3⟩ := (show ObjOk X.prog X.w H s.heap tp (.tup cs) from I.hok tp _ hT)
  have e3 := ClsV.all k rv
  subst e3
  obtain ⟨oc, ocd, dt, sl⟩ := o
  simp only at h2 h3
  subst h2 h3
  exact PySem.W.kia_tup (PySem.W.kitx_exc T.is T.ga T.gg T.sb T.cl T.gt T.tk T.mr) I.kIn J h1 e (fun z => nomatch z) fun tk => ⟨.bl b, H, I.tok tk, rfl, q⟩
end
end A1

namespace A1
open PySem L2 PySem.Spec PyProof.Rows
/-! min(xs, default=None) of whole numbers -/
def rMinD (K : PySem.W.Frag) : List V → List V → Hp → VK → Prop := fun xs zs H Q => ∃ (a : Addr) (ns : List Int), xs = [.ref a] ∧ zs = [.non] ∧ SqL K H a (ns.map V.int) ∧ (ns = [] → Q .non H) ∧ ∀ m, m ∈ ns → (∀ y ∈ ns, m ≤ y) → Q (.int m) H
theorem min_is (n : Int) : ∀ ns : List Int, ns.foldl min n ∈ n :: ns ∧ ∀ y ∈ n :: ns, ns.foldl min n ≤ y
  | [] => ⟨List.mem_cons_self, fun y hy => by rw [List.mem_singleton.mp hy]; exact Int.le_refl _⟩
  | k :: r => by
    obtain ⟨h1, h2⟩ := min_is (min n k) r
    rw [List.foldl_cons]
    have m0 := h2 _ List.mem_cons_self
    refine ⟨?_, fun y hy => ?_⟩
    · rcases List.mem_cons.mp h1 with e | e
      · rw [e]
        rcases (by omega : min n k = n ∨ min n k = k) with q | q
        · rw [q]; exact List.mem_cons_self
        · rw [q]; exact List.mem_cons_of_mem _ List.mem_cons_self
      · exact List.mem_cons_of_mem _ (List.mem_cons_of_mem _ e)
    · rcases List.mem_cons.mp hy with e | e
      · rw [e]; omega
      · rcases List.mem_cons.mp e with q | q
        · rw [q]; omega
        · exact h2 y (List.mem_cons_of_mem _ q)
theorem depth_ints : ∀ ns : List Int, PyData.depthAll (ns.map .int) = 0
  | [] => rfl
  | n :: r => by
    show max 0 (PyData.depthAll (r.map .int)) = 0
    rw [depth_ints r]; rfl
theorem alike_ints (ns : List Int) : PySem.W.AlikeAll (ns.map .int) := by
  refine ⟨fun x hx y hy => ?_, fun x hx => ?_⟩
  · obtain ⟨i, _, rfl⟩ := List.mem_map.mp hx
    obtain ⟨j, _, rfl⟩ := List.mem_map.mp hy
    rfl
  · obtain ⟨i, _, rfl⟩ := List.mem_map.mp hx
    exact fun z => nomatch z
theorem cr_minD {X : Cx} {K : PySem.W.Frag} (hK : X.K = K) (hc : X.calm = true) (hu : X.A.units + 1 < cLine) : CallRK X (.builtin "min") ["default"] (rMinD K) := by
  subst hK
  intro pins s σ H xs zs us ws Q I r1 r2 h
  obtain ⟨a, ns, rfl, rfl, hs, q0, q⟩ := h
  obtain ⟨its, rv, hl, _⟩ := I.list hs
  rw [Vals.ref1 r1]
  cases r2 with
  | cons rz rr =>
    cases rr
    cases (show _ = Value.none from rz)
    have hr := rv.ints.reads s.heap
    refine PySem.W.min_list_default (d := .none) (I.ok.hd hc) hl.isList (by simpa using hr) (alike_ints ns) (by rw [depth_ints]; exact hu) (fun e h' tk k => ?_) (fun y ys i v h' tk bs e hv rd k => ?_)
    · cases ns with
      | nil => exact ⟨.non, H, I.kept k, rfl, q0 rfl⟩
      | cons n r => cases e
    · cases ns with
      | nil => cases e
      | cons n r =>
        rw [List.map_cons] at e
        injection e with e1 e2
        subst e1 e2
        rw [PySem.W.minD_ints] at rd
        obtain ⟨m1, m2⟩ := min_is n r
        cases rd
        exact ⟨.int _, H, I.kept k, ⟨_, rfl⟩, q _ m1 m2⟩
end A1

namespace A1
open PySem L2
local macro_rules | `(tactic| walk_at "rd1") => `(tactic| first
  | with_reducible refine rd_seq ?_ | with_reducible refine rd_asg ?_ | with_reducible refine rd_name ?_ | ((with_reducible refine' rd_var ?e ?_); (case e => rfl)) | with_reducible refine rd_c ?_ | with_reducible refine rd_op ?_ | with_reducible refine rd_un ?_ | with_reducible refine rd_i0 ?_ | with_reducible refine rd_u ?_
  | ((with_reducible refine' rd_eq ?e ?_); (case e => rfl)) | ((with_reducible refine' rd_ne ?e ?_); (case e => rfl)) | with_reducible refine rd_test ?_ | with_reducible refine rd_tb ?_ | with_reducible refine rd_bl ?_ | with_reducible refine rd_if ?_ | with_reducible refine rd_ret ?_ | with_reducible refine rd_next ?_ | with_reducible refine rd_drop ?_
  | with_reducible refine rd_nil ?_ | with_reducible refine rd_cons ?_ | with_reducible refine rd_cb ?_ | with_reducible refine rd_call ?_ | with_reducible refine rd_tup ?_ | with_reducible refine rd_lst ?_ | with_reducible refine rd_andV ?_ | with_reducible refine rd_orV ?_ | with_reducible refine rd_and ?_ | with_reducible refine rd_or ?_ | with_reducible refine rd_not ?_ | with_reducible refine rd_ifE ?_
  | with_reducible refine rd_bm0 ?_ | with_reducible refine rd_bm ?_ | with_reducible refine rd_match ?_ | with_reducible refine rd_str ?_ | with_reducible refine rd_yes ?_ | with_reducible refine rd_int ?_ | with_reducible refine rd_intB ?_ | with_reducible refine rd_isN ?_ | with_reducible refine rd_abs ?_ | with_reducible refine rd_max ?_ | with_reducible refine rd_min ?_ | with_reducible refine rd_for ?_ | with_reducible refine rd_lc ?_ | with_reducible refine rd_rng1 ?_ | with_reducible refine rd_rng2 ?_ | with_reducible refine rd_ilist ?_ | with_reducible refine iteT ?_ | with_reducible refine iteF ?_ | with_reducible refine rd_sl ?_ | with_reducible refine rd_po0 ?_ | with_reducible refine rd_po1 ?_ | with_reducible refine rd_poI ?_ | with_reducible refine rd_star ?_ | with_reducible refine rd_irng ?_ | with_reducible refine rd_itup ?_ | with_reducible refine rd_gcons ?_ | with_reducible refine rd_gnil ?_ | with_reducible refine rd_gsub ?_ | with_reducible refine rd_notN ?_ | with_reducible refine rd_chain ?_)
local macro_rules | `(tactic| walk_at "rd") => `(tactic| repeat walk_at "rd1")
local macro_rules | `(tactic| walk_at "dec") => `(tactic| repeat first | walk_at "rd1" | with_reducible refine iteDF (by decide +kernel) ?_ | with_reducible refine iteDT (by decide +kernel) ?_ | with_reducible refine iteNF (by decide +kernel) ?_ | with_reducible refine iteNT (by decide +kernel) ?_ | with_reducible refine rd_caseF (by decide +kernel) ?_ | with_reducible refine rd_caseT (by decide +kernel) ?_ | with_reducible refine iteVF (by decide +kernel) ?_ | with_reducible refine iteVT (by decide +kernel) ?_)
local macro_rules | `(tactic| walk_at "inS") => `(tactic| first | assumption | (refine' Tab.rng (by assumption) ?_ ?_ <;> first | assumption | (refine' Tab.rng (by assumption) ?_ ?_ <;> assumption)))
local macro_rules | `(tactic| walk_at "tab") => `(tactic| repeat first | walk_at "rd1" | (refine' rd_row (by assumption) (by walk_at "inS") ?_; intro b sb) | refine' rd_item (by assumption) (by walk_at "inS") ?_)
def top (i : Nat) : Stmt := PySem.Challenge.pw_anyworth_k31_first_fault_of_a_question.main.body.getD i (.Pass ⟨0, 0, 0, 0⟩)
/-- a def of the text, found by its name -/
structure Dn (K : PySem.W.Frag) (mg : Str → Option Value) (x : Str) (st : Stmt) (ps : List Str) (f : Addr) (fd : FuncData) : Prop where
  F : Fun K x x st f fd
  b : Binds K fd ps []
  m : mg x = some (.ref f)
structure Tx (mg : Str → Option Value) : Prop where
  m_len : mg "len" = none
  m_int : mg "int" = none
  m_list : mg "list" = none
  m_tuple : mg "tuple" = none
  m_bool : mg "bool" = none
  m_str : mg "str" = none
  m_range : mg "range" = none
  m_abs : mg "abs" = none
  m_min : mg "min" = none
  m_max : mg "max" = none
  m_isinstance : mg "isinstance" = none
  m_all : mg "all" = none
  m_enumerate : mg "enumerate" = none
  m_ValueError : mg "ValueError" = none
abbrev sIsWord : Stmt := top 11
abbrev nIsWord : List Str := ["text", "letter"]
theorem scIsWord : FnScope nIsWord ["text"] (defScope sIsWord) := ⟨rfl, rfl, rfl, by decide +kernel, rfl, by decide +kernel, by decide +kernel⟩
abbrev sIsValue : Stmt := top 12
abbrev nIsValue : List Str := ["value"]
theorem scIsValue : FnScope nIsValue ["value"] (defScope sIsValue) := ⟨rfl, rfl, rfl, by decide +kernel, rfl, by decide +kernel, by decide +kernel⟩
abbrev sCheckQuestion : Stmt := top 18
abbrev nCheckQuestion : List Str := ["question", "width", "joins", "at", "join"]
theorem scCheckQuestion : FnScope nCheckQuestion ["question"] (defScope sCheckQuestion) := ⟨rfl, rfl, rfl, by decide +kernel, rfl, by decide +kernel, by decide +kernel⟩
abbrev sIsJoin : Stmt := top 19
abbrev nIsJoin : List Str := ["join", "width", "head", "body", "atom", "told", "variable"]
theorem scIsJoin : FnScope nIsJoin ["join", "width"] (defScope sIsJoin) := ⟨rfl, rfl, rfl, by decide +kernel, rfl, by decide +kernel, by decide +kernel⟩
abbrev sIsAtom : Stmt := top 20
abbrev nIsAtom : List Str := ["atom", "name", "terms"]
theorem scIsAtom : FnScope nIsAtom ["atom"] (defScope sIsAtom) := ⟨rfl, rfl, rfl, by decide +kernel, rfl, by decide +kernel, by decide +kernel⟩
abbrev sAreTerms : Stmt := top 21
abbrev nAreTerms : List Str := ["terms", "kind", "held"]
theorem scAreTerms : FnScope nAreTerms ["terms"] (defScope sAreTerms) := ⟨rfl, rfl, rfl, by decide +kernel, rfl, by decide +kernel, by decide +kernel⟩
abbrev sVariablesIn : Stmt := top 22
abbrev nVariablesIn : List Str := ["terms", "kind", "held"]
theorem scVariablesIn : FnScope nVariablesIn ["terms"] (defScope sVariablesIn) := ⟨rfl, rfl, rfl, by decide +kernel, rfl, by decide +kernel, by decide +kernel⟩
abbrev sVariablesInBody : Stmt := top 23
abbrev nVariablesInBody : List Str := ["body", "_", "terms", "variable"]
theorem scVariablesInBody : FnScope nVariablesInBody ["body"] (defScope sVariablesInBody) := ⟨rfl, rfl, rfl, by decide +kernel, rfl, by decide +kernel, by decide +kernel⟩
abbrev sLDraws : Stmt := top 25
abbrev nLDraws : List Str := ["script", "many", "cells", "cell", "rest", "draws", "k", "at", "mixed"]
theorem scLDraws : FnScope nLDraws ["script", "many"] (defScope sLDraws) := ⟨rfl, rfl, rfl, by decide +kernel, rfl, by decide +kernel, by decide +kernel⟩
abbrev sLTake : Stmt := top 26
abbrev nLTake : List Str := ["draws", "many"]
theorem scLTake : FnScope nLTake ["draws", "many"] (defScope sLTake) := ⟨rfl, rfl, rfl, by decide +kernel, rfl, by decide +kernel, by decide +kernel⟩
abbrev sLPick : Stmt := top 27
abbrev nLPick : List Str := ["draws", "row"]
theorem scLPick : FnScope nLPick ["draws", "row"] (defScope sLPick) := ⟨rfl, rfl, rfl, by decide +kernel, rfl, by decide +kernel, by decide +kernel⟩
abbrev sLSize : Stmt := top 28
abbrev nLSize : List Str := ["draws", "script", "kind", "number", "k"]
theorem scLSize : FnScope nLSize ["draws", "script"] (defScope sLSize) := ⟨rfl, rfl, rfl, by decide +kernel, rfl, by decide +kernel, by decide +kernel⟩
abbrev sLWords : Stmt := top 30
abbrev nLWords : List Str := ["draws", "many", "words", "k", "size", "word", "j"]
theorem scLWords : FnScope nLWords ["draws", "many"] (defScope sLWords) := ⟨rfl, rfl, rfl, by decide +kernel, rfl, by decide +kernel, by decide +kernel⟩
abbrev sLNumber : Stmt := top 31
abbrev nLNumber : List Str := ["draws", "script"]
theorem scLNumber : FnScope nLNumber ["draws", "script"] (defScope sLNumber) := ⟨rfl, rfl, rfl, by decide +kernel, rfl, by decide +kernel, by decide +kernel⟩
abbrev sLAnyValue : Stmt := top 32
abbrev nLAnyValue : List Str := ["draws", "script", "words"]
theorem scLAnyValue : FnScope nLAnyValue ["draws", "script", "words"] (defScope sLAnyValue) := ⟨rfl, rfl, rfl, by decide +kernel, rfl, by decide +kernel, by decide +kernel⟩
abbrev sLAnyTerm : Stmt := top 33
abbrev nLAnyTerm : List Str := ["draws", "script", "words"]
theorem scLAnyTerm : FnScope nLAnyTerm ["draws", "script", "words"] (defScope sLAnyTerm) := ⟨rfl, rfl, rfl, by decide +kernel, rfl, by decide +kernel, by decide +kernel⟩
abbrev sLAnyAtom : Stmt := top 34
abbrev nLAnyAtom : List Str := ["draws", "script", "words", "most", "terms", "k"]
theorem scLAnyAtom : FnScope nLAnyAtom ["draws", "script", "words", "most"] (defScope sLAnyAtom) := ⟨rfl, rfl, rfl, by decide +kernel, rfl, by decide +kernel, by decide +kernel⟩
abbrev sLAnyJoin : Stmt := top 35
abbrev nLAnyJoin : List Str := ["draws", "script", "words", "width", "atoms", "most", "body", "k", "known", "atom", "term", "head"]
theorem scLAnyJoin : FnScope nLAnyJoin ["draws", "script", "words", "width", "atoms", "most"] (defScope sLAnyJoin) := ⟨rfl, rfl, rfl, by decide +kernel, rfl, by decide +kernel, by decide +kernel⟩
abbrev sLAnyQuestion : Stmt := top 36
abbrev nLAnyQuestion : List Str := ["draws", "script", "words", "shape", "width", "many", "joins", "k"]
theorem scLAnyQuestion : FnScope nLAnyQuestion ["draws", "script", "words"] (defScope sLAnyQuestion) := ⟨rfl, rfl, rfl, by decide +kernel, rfl, by decide +kernel, by decide +kernel⟩
abbrev sLSame : Stmt := top 29
abbrev nLSame : List Str := ["actual", "due", "k"]
theorem scLSame : FnScope nLSame ["actual", "due"] (defScope sLSame) := ⟨rfl, rfl, rfl, by decide +kernel, rfl, by decide +kernel, by decide +kernel⟩
abbrev sLStrange : Stmt := top 37
abbrev nLStrange : List Str := ["draws", "word", "mark", "at"]
theorem scLStrange : FnScope nLStrange ["draws", "word"] (defScope sLStrange) := ⟨rfl, rfl, rfl, by decide +kernel, rfl, by decide +kernel, by decide +kernel⟩
abbrev sLStrangeTerm : Stmt := top 38
abbrev nLStrangeTerm : List Str := ["draws", "words"]
theorem scLStrangeTerm : FnScope nLStrangeTerm ["draws", "words"] (defScope sLStrangeTerm) := ⟨rfl, rfl, rfl, by decide +kernel, rfl, by decide +kernel, by decide +kernel⟩
abbrev sLPutIn : Stmt := top 39
abbrev nLPutIn : List Str := ["draws", "row", "thing", "at"]
theorem scLPutIn : FnScope nLPutIn ["draws", "row", "thing"] (defScope sLPutIn) := ⟨rfl, rfl, rfl, by decide +kernel, rfl, by decide +kernel, by decide +kernel⟩
abbrev sLWrongJoin : Stmt := top 40
abbrev nLWrongJoin : List Str := ["draws", "script", "words", "width", "join", "kind", "atom", "known", "one", "unknown", "word", "at", "body", "k", "terms"]
theorem scLWrongJoin : FnScope nLWrongJoin ["draws", "script", "words", "width", "join"] (defScope sLWrongJoin) := ⟨rfl, rfl, rfl, by decide +kernel, rfl, by decide +kernel, by decide +kernel⟩
abbrev sLRefusal : Stmt := top 41
abbrev nLRefusal : List Str := ["question", "e"]
theorem scLRefusal : FnScope nLRefusal ["question"] (defScope sLRefusal) := ⟨rfl, rfl, rfl, by decide +kernel, rfl, by decide +kernel, by decide +kernel⟩
abbrev sLaw : Stmt := top 42
abbrev nLaw : List Str := ["script", "draws", "words", "question", "joins", "width", "faults", "k", "at", "due", "kind"]
theorem scLaw : FnScope nLaw ["script"] (defScope sLaw) := ⟨rfl, rfl, rfl, by decide +kernel, rfl, by decide +kernel, by decide +kernel⟩
section
variable {P : Program} {w : World} {K : PySem.W.Frag} {mg : Str → Option Value} {base : Heap}
def spTake : Sp := fun vs H Q _ => ∃ (d : Addr) (m : Int) (ds : List Int), vs = [.ref d, .int m] ∧ 0 < m ∧ H d = some (.lst (ds.map V.int)) ∧ ∀ (r : Int) (H' : Hp), 0 ≤ r → r < m → Dr d H H' → Q (.int r) H'
theorem ok_take (T : Tx mg) {f : Addr} {fd : FuncData} (F : Dn K mg "_law_take" sLTake ["draws", "many"] f fd) : FnOk P w K mg base CX0 1 f fd ["draws", "many"] spTake := by
  refine F.F.ok scLTake (fun vs H Q E h => ?_) (fun cdv A outer s H vs Q E hr h => ?_)
  · obtain ⟨d, m, ds, rfl, _⟩ := h
    rfl
  obtain ⟨d, m, ds, rfl, hm, hd, q⟩ := h
  have nd := scLTake.nd
  refine ⟨_, (pss_cons (ps_if (pt_cmpR op_eq (pe_callB (k_len K rfl) rfl T.m_len PySem.boot_len (pa_cons (pv 0) pa_nil)) pe_int (nomark _)) (pss_one (ps_ret pe_int)) pss_nil)
  (pss_one (ps_ret (pe_op op_modN (pe_callTy c_int rfl T.m_int (by decide +kernel) (pa_cons (pe_bm0 PySem.F.plainAttrs_list PySem.F.slot_list_pop PySem.F.type_list_pop mt_pop (pv 0)) pa_nil)) (pv 1))))), ?_⟩
  walk_at "rd"
  refine rd_len (SqL.of hd) ?_
  walk_at "rd"
  refine iteD (fun c => ?_) (fun c => ?_)
  · walk_at "rd"
    exact q 0 _ (Int.le_refl 0) hm (.refl ⟨ds, hd⟩)
  · walk_at "rd"
    refine ⟨.inl ⟨rfl, _, SqL.of hd⟩, ?_⟩
    have hne : ds ≠ [] := fun e => c (by subst e; rfl)
    have hl : ds[ds.length - 1]? = some (ds.getLast hne) := by rw [List.getLast_eq_getElem]; exact List.getElem?_eq_getElem _
    refine ⟨d, _, V.int (ds.getLast hne), rfl, rfl, hd, by rw [List.length_map, List.getElem?_map, hl]; rfl, ?_⟩
    walk_at "rd"
    refine rd_i (by omega) ?_
    have e := Int.fmod_eq_emod_of_nonneg (ds.getLast hne) (show 0 ≤ m by omega)
    rw [e]
    refine q _ _ (Int.emod_nonneg _ (by omega)) (Int.emod_lt_of_pos _ hm) ?_
    rw [← List.map_dropLast]
    exact (Dr.refl ⟨ds, hd⟩).put _

end
section
variable {P : Program} {w : World} {K : PySem.W.Frag} {mg : Str → Option Value} {base : Heap}
def spDraws (K : PySem.W.Frag) : Sp := fun vs H Q _ => ∃ (a : Addr) (n : Int) (ns : List Int), vs = [.ref a, .int n] ∧ SqL K H a (ns.map V.int) ∧ 0 ≤ n ∧ n ≤ 1000 ∧ ns.length ≤ 63 ∧
  ∀ (d : Addr) (ds : List Int) (H' : Hp), H d = none → H' d = some (.lst (ds.map V.int)) → Same H H' → Q (.ref d) H'
theorem ok_draws (T : Tx mg) {f : Addr} {fd : FuncData} (F : Dn K mg "_law_draws" sLDraws ["script", "many"] f fd) : FnOk P w K mg base CX0 1 f fd ["script", "many"] (spDraws K) := by
  refine F.F.ok scLDraws (fun vs H Q E h => ?_) (fun cdv A outer s H vs Q E hr h => ?_)
  · obtain ⟨d, m, ds, rfl, _⟩ := h
    rfl
  obtain ⟨a, n, ns, rfl, hS, hn0, hn1, h63, q⟩ := h
  have nd := scLDraws.nd
  refine ⟨_, (pss_cons (ps_setLc (i := 2) (own := [("cell", (3 : Nat))]) (g := gName 3) rfl nd rfl rfl (sw_true rfl rfl rfl (by decide +kernel)) (k_pil K rfl (pv 0)) (blkOk_by (own := [("cell", (3 : Nat))]) (N := nLDraws) (sc := defScope sLDraws) (by decide +kernel)) (fun _ _ _ _ _ => pg_name (i := 3) nd rfl (Or.inl rfl)) (fun _ _ _ _ _ => pts_nil) (fun _ _ _ _ _ => (pe_callTy c_int rfl T.m_int (by decide +kernel) (pa_cons (pv 3) pa_nil))))
  (C8.pss_cut (ps_if (pt_cmpR op_eq (pe_callB (k_len K rfl) rfl T.m_len PySem.boot_len (pa_cons (pv 2) pa_nil)) pe_int (nomark _)) (pss_one (ps_expr (pe_bm PySem.F.plainAttrs_list PySem.F.slot_list_append PySem.F.type_list_append mt_append (pv 2) (pa_cons pe_int pa_nil)))) pss_nil)
  (pss_cons (ps_set (i := 4) nd rfl (Or.inl rfl) (pe_callTy (k_list K rfl) rfl T.m_list (by decide +kernel) (pa_cons (pv 2) pa_nil)))
  (pss_cons (ps_set (i := 5) nd rfl (Or.inl rfl) (pe_lst pa_nil))
  (pss_cons (ps_for PassesOwn.never rfl (pi_range1 rfl T.m_range (pa_cons (pv 1) pa_nil)) (pg_name (i := 6) nd rfl (Or.inl rfl)) (pss_cons (ps_set (i := 7) nd rfl (Or.inl rfl) (pe_op op_modN (pv 6) (pe_callB (k_len K rfl) rfl T.m_len PySem.boot_len (pa_cons (pv 2) pa_nil))))
  (pss_one (ps_if (pt_cmpR op_ge (pe_ix (k_ixL K rfl) (pv 2) (pv 7) (fun _ _ => rfl)) (pe_op op_pow pe_int pe_int) (nomark _)) (pss_cons (ps_expr (pe_bm PySem.F.plainAttrs_list PySem.F.slot_list_append PySem.F.type_list_append mt_append (pv 5) (pa_cons (pe_op op_modN (pe_callTy c_int rfl T.m_int (by decide +kernel) (pa_cons (pe_ix (k_ixL K rfl) (pv 4) (pv 7) (fun _ _ => rfl)) pa_nil)) pe_int) pa_nil)))
  (pss_one (ps_asg (pe_op op_fdiv (pe_ix (k_ixL K rfl) (pv 4) (pv 7) (fun _ _ => rfl)) pe_int) (pg_sub (pv 4) (pv 7) set_list)))) (pss_cons (ps_set (i := 8) nd rfl (Or.inl rfl) (pe_op op_modN (pe_callTy c_int rfl T.m_int (by decide +kernel) (pa_cons (pe_op op_add (pe_op op_add (pe_op op_mul (pe_ix (k_ixL K rfl) (pv 2) (pv 7) (fun _ _ => rfl)) pe_int) (pe_op op_mul (pv 6) pe_int)) pe_int) pa_nil)) pe_int))
  (pss_one (ps_expr (pe_bm PySem.F.plainAttrs_list PySem.F.slot_list_append PySem.F.type_list_append mt_append (pv 5) (pa_cons (pe_op op_modN (pe_callTy c_int rfl T.m_int (by decide +kernel) (pa_cons (pe_op op_add (pe_op op_add (pe_op op_mul (pv 8) (pv 8)) (pe_op op_mul pe_int (pv 8))) (pv 6)) pa_nil)) pe_int) pa_nil)))))))))
  (pss_cons (ps_expr (pe_bm0 PySem.F.plainAttrs_list PySem.F.slot_list_reverse PySem.F.type_list_reverse mt_reverse (pv 5)))
  (pss_one (ps_ret (pv 5))))))))), ?_⟩
  walk_at "rd"
  refine rd_il hS fun C hC => (lc_list (K := K) (a := a) (xs := ns.map V.int) (fun i H' => H' C = some (.lst ((ns.take i).map V.int)) ∧ Same H H') ⟨upd_same, same_new hC⟩ (fun i H' _ p => p.2.seq hS) ?_ ?_)
  · rintro i x H' hx ⟨p1, p2⟩
    obtain ⟨z, rfl, hz⟩ := map_get hx
    refine ⟨rfl, ?_⟩
    walk_at "rd"
    refine ⟨_, p1, ?_, ?_, ?_⟩
    · rw [List.length_map, List.length_take]
      exact small1000 (by omega)
    · rw [take_snoc hz, List.map_append]; exact upd_same
    · exact same_own p2 hC
  rintro H1 ⟨c1, g1⟩
  rw [List.length_map, List.take_of_length_le (Nat.le_refl _)] at c1
  walk_at "rd"
  refine ⟨fun σ' H' => σ' = [some (.ref a), some (.int n), some (.ref C), none, none, none, none, none, none] ∧ ∃ cs : List Int, H' C = some (.lst (cs.map V.int)) ∧ Same H H' ∧ cs ≠ [] ∧ cs.length ≤ 64, ?_, ?_⟩
  · walk_at "rd"
    refine rd_len (SqL.of c1) ?_
    walk_at "rd"
    refine iteD (fun c => ?_) (fun c => ?_)
    · walk_at "rd"
      refine ⟨.inl ⟨rfl, _, SqL.of c1⟩, ?_⟩
      walk_at "rd"
      refine ⟨C, _, _, rfl, rfl, c1, by rw [List.length_map]; exact small1000 (by omega), ?_⟩
      refine ⟨rfl, ns ++ [0], by rw [List.map_append]; exact upd_same, same_own g1 hC, by simp, by simp; omega⟩
    · walk_at "rd"
      refine ⟨rfl, ns, c1, g1, fun e => c (by subst e; rfl), by omega⟩
  rintro σ' H2 ⟨rfl, cs, c2, g2, cne, c64⟩
  have clen : 0 < cs.length := List.length_pos_iff.mpr cne
  walk_at "rd"
  refine rd_list (SqL.of c2) fun R hR => ?_
  walk_at "rd"
  refine rd_new (len_ok rfl) fun Dd hD => ?_
  walk_at "rd"
  have nRD : Dd ≠ R := fun e => by rw [e, upd_same] at hD; cases hD
  have hR0 : H R = none := by
    cases e : H R with
    | none => rfl
    | some u => rw [g2 _ _ e] at hR; cases hR
  have hD0 : H Dd = none := by
    cases e : H Dd with
    | none => rfl
    | some u => rw [upd_ne nRD, g2 _ _ e] at hD; cases hD
  have nCR : C ≠ R := ne_of_none c2 hR
  have nCD : C ≠ Dd := fun e => by rw [← e, upd_ne nCR, c2] at hD; cases hD
  refine rd_r1 ⟨by omega, by omega⟩ (for_range (lo := 0) (n := n.toNat) (fun i σ' H' => ∃ (v6 v7 v8 : Option V) (rs ds : List Int), σ' = [some (.ref a), some (.int n), some (.ref C), none, some (.ref R), some (.ref Dd), v6, v7, v8] ∧
    H' C = some (.lst (cs.map V.int)) ∧ H' R = some (.lst (rs.map V.int)) ∧ rs.length = cs.length ∧ H' Dd = some (.lst (ds.map V.int)) ∧ ds.length = i ∧ Same H H')
    ⟨none, none, none, cs, [], rfl, by rw [upd_ne nCD, upd_ne nCR]; exact c2, by rw [upd_ne nRD.symm]; exact upd_same, rfl, upd_same, rfl, same_own (same_own g2 hR0) hD0⟩ ?_ ?_)
  · rintro i σ' H' hi ⟨v6, v7, v8, rs, ds, rfl, e1, e2, e3, e4, e5, g3⟩
    walk_at "rd"
    refine rd_len (SqL.of e1) ?_
    walk_at "rd"
    refine rd_i (by rw [List.length_map]; omega) ?_
    walk_at "rd"
    generalize hj : (0 + (i : Int)).fmod _ = j
    have hj0 : 0 ≤ j ∧ j < cs.length := by
      rw [List.length_map, Int.fmod_eq_emod_of_nonneg _ (by omega)] at hj
      rw [← hj]
      exact ⟨Int.emod_nonneg _ (by omega), Int.emod_lt_of_pos _ (by omega)⟩
    have ixj : ixN rs.length j = some j.toNat := by
      unfold ixN
      rw [if_pos hj0.1, if_pos (by omega)]
    refine rd_ixL (SqL.of e1) (at_ints hj0.1 hj0.2) ?_
    walk_at "rd"
    refine rd_i ⟨by decide, by decide, by decide⟩ ?_
    walk_at "rd"
    have dlen : (ds.map V.int).length < sizeLine := by rw [List.length_map]; exact small1000 (by omega)
    refine iteD (fun c => ?_) (fun c => ?_)
    · walk_at "rd"
      refine ⟨.inl ⟨rfl, _, SqL.of e4⟩, ?_⟩
      walk_at "rd"
      refine rd_ixL (SqL.of e2) (at_ints hj0.1 (by omega)) ?_
      walk_at "rd"
      refine rd_i (by decide) ?_
      walk_at "rd"
      refine ⟨Dd, _, _, rfl, rfl, e4, dlen, ?_⟩
      walk_at "rd"
      refine rd_ixL (SqL.of (by rw [upd_ne nRD.symm]; exact e2)) (at_ints hj0.1 (by omega)) ?_
      walk_at "rd"
      refine rd_i ⟨by decide, by decide⟩ ?_
      refine ⟨_, rfl, _, rfl, R, _, _, j.toNat, rfl, rfl, (by rw [upd_ne nRD.symm]; exact e2), (by rw [List.length_map]; exact ixj), ?_⟩
      refine ⟨_, _, _, rs.set j.toNat ((rs.getD j.toNat 0) / 1000), ds ++ [(rs.getD j.toNat 0).fmod 1000], rfl, ?_, ?_, ?_, ?_, ?_, ?_⟩
      · rw [upd_ne nCR, upd_ne nCD]; exact e1
      · rw [upd_same, List.map_set]
      · rw [List.length_set]; exact e3
      · rw [upd_ne nRD, upd_same, List.map_append]; rfl
      · rw [List.length_append, e5]; rfl
      · exact same_own (same_own g3 hD0) hR0
    · walk_at "rd"
      refine rd_ixL (SqL.of e1) (at_ints hj0.1 hj0.2) ?_
      walk_at "rd"
      refine rd_i (.inr ⟨by decide, by decide⟩) ?_
      walk_at "rd"
      refine rd_i (.inr ⟨by decide, by decide⟩) ?_
      walk_at "rd"
      refine rd_i (by decide) ?_
      walk_at "rd"
      generalize hm : Int.fmod _ 2147483647 = m
      have hm0 : 0 ≤ m ∧ m < 2147483647 := by
        rw [Int.fmod_eq_emod_of_nonneg _ (by decide)] at hm
        rw [← hm]
        exact ⟨Int.emod_nonneg _ (by decide), Int.emod_lt_of_pos _ (by decide)⟩
      refine ⟨.inl ⟨rfl, _, SqL.of e4⟩, ?_⟩
      walk_at "rd"
      refine rd_i (.inl ⟨by omega, by omega⟩) ?_
      walk_at "rd"
      refine rd_i (.inl ⟨by decide, by decide⟩) ?_
      walk_at "rd"
      refine rd_i (by decide) ?_
      walk_at "rd"
      generalize Int.fmod _ 1000003 = x
      refine ⟨Dd, _, _, rfl, rfl, e4, dlen, ?_⟩
      walk_at "rd"
      refine ⟨_, _, _, rs, ds ++ [x], rfl, ?_, ?_, e3, ?_, ?_, ?_⟩
      · rw [upd_ne nCD]; exact e1
      · rw [upd_ne nRD.symm]; exact e2
      · rw [upd_same, List.map_append]; rfl
      · rw [List.length_append, e5]; rfl
      · exact same_own g3 hD0
  · rintro σ' H' ⟨v6, v7, v8, rs, ds, rfl, e1, e2, e3, e4, e5, g3⟩
    walk_at "rd"
    refine ⟨.inl ⟨rfl, _, SqL.of e4⟩, ?_⟩
    refine ⟨Dd, _, rfl, rfl, e4, ?_⟩
    walk_at "rd"
    refine q Dd ds.reverse _ hD0 (by rw [upd_same, List.map_reverse]) (same_own g3 hD0)

end
section
variable {P : Program} {w : World} {K : PySem.W.Frag} {mg : Str → Option Value} {base : Heap}
theorem take_step {d : Addr} {m : Int} {H : Hp} {Q : VK} {E : XK} (hm : 0 < m) (hd : DrAt d H) (q : ∀ (r : Int) (H' : Hp), 0 ≤ r → r < m → Dr d H H' → Q (.int r) H') : spTake [.ref d, .int m] H Q E := by
  obtain ⟨ds, e⟩ := hd
  exact ⟨d, m, ds, rfl, hm, e, q⟩
/-- the size of a number that is drawn -/
def NumOf (ns : List Int) (n : Int) : Prop := n.natAbs < 10 ^ 15 ∨ ∃ x ∈ ns, n.natAbs = x.natAbs
def spSize (K : PySem.W.Frag) : Sp := fun vs H Q _ => ∃ (d a : Addr) (ns : List Int), vs = [.ref d, .ref a] ∧ DrAt d H ∧ Sc K H d a ns ∧ ns.length ≤ 63 ∧ ∀ (n : Int) (H' : Hp), 0 ≤ n → Dr d H H' → NumOf ns n → Q (.int n) H'
theorem ok_size (T : Tx mg) {f : Addr} {fd : FuncData} (F : Dn K mg "_law_size" sLSize ["draws", "script"] f fd) {fT : Addr} {fdT : FuncData} (DLTake : Dn K mg "_law_take" sLTake ["draws", "many"] fT fdT) (GLTake : FnOk P w K mg base CX0 1 fT fdT ["draws", "many"] spTake) :
    FnOk P w K mg base CX0 2 f fd ["draws", "script"] (spSize K) := by
  refine F.F.ok scLSize (fun vs H Q E h => ?_) (fun cdv A outer s H vs Q E hr h => ?_)
  · obtain ⟨d, a, ns, rfl, _⟩ := h
    rfl
  obtain ⟨d, a, ns, rfl, hd, hS, h63, q⟩ := h
  have nd := scLSize.nd
  refine ⟨_, (pss_cons (ps_set (i := 2) nd rfl (Or.inl rfl) (pe_call GLTake (hr.mono (by omega)) rfl DLTake.m DLTake.F.kp DLTake.b .nil pass0 (pa_cons (pv 0) (pa_cons pe_int pa_nil))))
  (pss_cons (ps_if (pt_cmpR op_lt (pv 2) pe_int (nomark _)) (pss_one (ps_ret (pe_call GLTake (hr.mono (by omega)) rfl DLTake.m DLTake.F.kp DLTake.b .nil pass0 (pa_cons (pv 0) (pa_cons pe_int pa_nil))))) pss_nil)
  (pss_cons (ps_if (pt_cmpR op_eq (pv 2) pe_int (nomark _)) (pss_one (ps_ret (pe_call GLTake (hr.mono (by omega)) rfl DLTake.m DLTake.F.kp DLTake.b .nil pass0 (pa_cons (pv 0) (pa_cons pe_int pa_nil))))) pss_nil)
  (pss_cons (ps_if (PW.pt (pw_or (pt_cmpR op_eq (pv 2) pe_int (nomark _)) (pw_or1 (pt_cmpR op_eq (pe_callB (k_len K rfl) rfl T.m_len PySem.boot_len (pa_cons (pv 1) pa_nil)) pe_int (nomark _))))) (pss_cons (ps_set (i := 3) nd rfl (Or.inl rfl) pe_int)
  (pss_cons (ps_for PassesOwn.never rfl (pi_range1 rfl T.m_range (pa_cons pe_int pa_nil)) (pg_name (i := 4) nd rfl (Or.inl rfl)) (pss_one (ps_set (i := 3) nd rfl (Or.inl rfl) (pe_op op_add (pe_op op_mul (pv 3) pe_int) (pe_call GLTake (hr.mono (by omega)) rfl DLTake.m DLTake.F.kp DLTake.b .nil pass0 (pa_cons (pv 0) (pa_cons pe_int pa_nil)))))))
  (pss_one (ps_ret (pv 3))))) pss_nil)
  (pss_one (ps_ret (pe_callB c_abs rfl T.m_abs (by decide +kernel) (pa_cons (pe_callTy c_int rfl T.m_int (by decide +kernel) (pa_cons (pe_ix (k_ixL K rfl) (pv 1) (pe_call GLTake (hr.mono (by omega)) rfl DLTake.m DLTake.F.kp DLTake.b .nil pass0 (pa_cons (pv 0) (pa_cons (pe_callB (k_len K rfl) rfl T.m_len PySem.boot_len (pa_cons (pv 1) pa_nil)) pa_nil))) (fun _ _ => rfl)) pa_nil)) pa_nil)))))))), ?_⟩
  walk_at "rd"
  refine take_step (by decide) hd fun r H1 r0 r1 g1 => ?_
  walk_at "rd"
  refine iteD (fun c => ?_) (fun c => ?_)
  · walk_at "rd"
    exact take_step (by decide) g1.isD fun r2 H2 b0 b1 g2 => q _ _ b0 (g1.trans g2) (.inl (by omega))
  walk_at "rd"
  refine iteD (fun c2 => ?_) (fun c2 => ?_)
  · walk_at "rd"
    exact take_step (by decide) g1.isD fun r2 H2 b0 b1 g2 => q _ _ b0 (g1.trans g2) (.inl (by omega))
  walk_at "rd"
  have num : ∀ H1, Dr d H H1 → tSeq (tAsg (tC (V.int 0)) (gName 3)) (tSeq (tFor (iRng1 (tCons (tC (V.int 5)) tNil)) (gName 4) (tAsg (tOp (rI0 fun i j => V.int (i + j)) (tOp (rI CMul fun i j => V.int (i * j)) (tVar 3) (tC (V.int 1000))) (tCall spTake [] E0 (tCons (tVar 0) (tCons (tC (V.int 1000)) tNil)))) (gName 3))) (tRet (tVar 3)))
      { nx := fun _ _ => False, rt := Q } [some (.ref d), some (.ref a), some (.int r), none, none] H1 := by
    intro H1 g1
    walk_at "rd"
    refine rd_r1 ⟨by decide, by decide⟩ (for_range (lo := 0) (n := 5) (fun i σ' H' => ∃ (v4 : Option V) (num : Int), σ' = [some (.ref d), some (.ref a), some (.int r), some (.int num), v4] ∧ 0 ≤ num ∧ num < 1000 ^ i ∧ Dr d H H') ⟨none, 0, rfl, Int.le_refl 0, by decide, g1⟩ ?_ ?_)
    · rintro i σ' H' hi ⟨v4, num, rfl, n0, n1, g2⟩
      walk_at "rd"
      refine rd_i (.inr ⟨by decide, by decide⟩) ?_
      walk_at "rd"
      refine take_step (by decide) g2.isD fun r2 H2 b0 b1 g3 => ?_
      walk_at "rd"
      exact ⟨_, _, rfl, by omega, by rw [Int.pow_succ]; omega, g2.trans g3⟩
    · rintro σ' H' ⟨v4, num, rfl, n0, n1, g2⟩
      walk_at "rd"
      exact q _ _ n0 g2 (.inl (by have : (1000 : Int) ^ 5 = 10 ^ 15 := by decide
                                  omega))
  refine iteD (fun c3 => ?_) (fun c3 => ?_)
  · exact num H1 g1
  walk_at "rd"
  have hS1 := (hS.dr g1).now g1.isD
  refine rd_len hS1 ?_
  walk_at "rd"
  refine iteD (fun c4 => ?_) (fun c4 => ?_)
  · exact num H1 g1
  walk_at "rd"
  refine rd_len hS1 ?_
  walk_at "rd"
  have hl : (ns.map V.int).length = ns.length := List.length_map _
  have hpos : 0 < ns.length := by
    rw [hl] at c4
    rcases Nat.eq_zero_or_pos ns.length with e | e
    · exact absurd (by rw [e]; rfl) c4
    · exact e
  refine take_step (by omega) g1.isD fun r2 H2 b0 b1 g2 => ?_
  refine rd_ixL ((hS.dr (g1.trans g2)).now g2.isD) (at_ints b0 (by omega)) ?_
  walk_at "rd"
  have hx : ns.getD r2.toNat 0 ∈ ns := by
    have hk : r2.toNat < ns.length := by omega
    rw [List.getD_eq_getElem?_getD, List.getElem?_eq_getElem hk]
    exact List.getElem_mem hk
  refine q _ _ ?_ (g1.trans g2) (.inr ⟨_, hx, ?_⟩)
  · split <;> omega
  · split <;> omega


end
section
variable {P : Program} {w : World} {K : PySem.W.Frag} {mg : Str → Option Value} {base : Heap}
def spPick (K : PySem.W.Frag) : Sp := fun vs H Q _ => ∃ (d l : Addr) (xs : List V), vs = [.ref d, .ref l] ∧ DrAt d H ∧ H l = some (.lst xs) ∧ l ≠ d ∧ xs ≠ [] ∧ ∀ (v : V) (H' : Hp), Dr d H H' → v ∈ xs → Q v H'
theorem ok_pick (T : Tx mg) {f f1 : Addr} {fd d1 : FuncData} (F : Dn K mg "_law_pick" sLPick ["draws", "row"] f fd) (DLTake : Dn K mg "_law_take" sLTake ["draws", "many"] f1 d1) (GLTake : FnOk P w K mg base CX0 1 f1 d1 ["draws", "many"] spTake) :
    FnOk P w K mg base CX0 2 f fd ["draws", "row"] (spPick K) := by
  refine F.F.ok scLPick (fun vs H Q E h => ?_) (fun cdv A outer s H vs Q E hr h => ?_)
  · obtain ⟨d, l, xs, rfl, _⟩ := h
    rfl
  obtain ⟨d, l, xs, rfl, hd, hl, nl, ne, q⟩ := h
  refine ⟨_, (pss_one (ps_ret (pe_ix (k_ixL K rfl) (pv 1) (pe_call GLTake (hr.mono (by omega)) rfl DLTake.m DLTake.F.kp DLTake.b .nil pass0 (pa_cons (pv 0) (pa_cons (pe_callB (k_len K rfl) rfl T.m_len PySem.boot_len (pa_cons (pv 1) pa_nil)) pa_nil))) (fun _ _ => rfl)))), ?_⟩
  walk_at "rd"
  refine rd_len (SqL.of hl) ?_
  walk_at "rd"
  have hp := List.length_pos_iff.mpr ne
  refine take_step (by omega) hd fun r H1 r0 r1 g1 => ?_
  obtain ⟨v, ev, mv⟩ := atI_mem (xs := xs) r0 r1
  refine rd_ixL (SqL.of (g1.kp _ _ nl hl)) ev ?_
  exact q v H1 g1 mv

end
section
variable {P : Program} {w : World} {K : PySem.W.Frag} {mg : Str → Option Value} {base : Heap}
section
variable {K : PySem.W.Frag} {H : Hp}
theorem rpa_mem : ∀ {xs : List V} {ts : List TD} {v : V}, RpA K H xs ts → v ∈ xs → ∃ t, t ∈ ts ∧ Rp K H v t
  | x :: xs, _, v, r, h => by
    cases r with
    | cons a b =>
      rcases List.mem_cons.mp h with e | e
      · exact ⟨_, List.mem_cons_self, by rw [e]; exact a⟩
      · obtain ⟨t, ht, q⟩ := rpa_mem b e
        exact ⟨t, List.mem_cons_of_mem _ ht, q⟩
theorem rpa_set : ∀ {xs : List V} {ts : List TD} {v : V} {t : TD} (k : Nat), RpA K H xs ts → Rp K H v t → RpA K H (xs.set k v) (ts.set k t)
  | [], _, _, _, _, r, _ => by cases r; exact .nil
  | x :: xs, _, v, t, 0, r, q => by cases r with | cons a b => exact .cons q b
  | x :: xs, _, v, t, k + 1, r, q => by cases r with | cons a b => exact .cons a (rpa_set k b q)
theorem rpa_at : ∀ {xs : List V} {ts : List TD} {i : Nat} {x : V}, RpA K H xs ts → xs[i]? = some x → ∃ t, ts[i]? = some t ∧ Rp K H x t
  | [], _, _, _, _, h => by cases h
  | y :: ys, _, 0, x, r, h => by cases r with | cons a b => cases h; exact ⟨_, rfl, a⟩
  | y :: ys, _, i + 1, x, r, h => by cases r with | cons a b => exact rpa_at (xs := ys) (i := i) b (by rw [List.getElem?_cons_succ] at h; exact h)
theorem Rp.seq {v : V} {ts : List TD} (r : Rp K H v (.tup ts)) : ∃ a xs, v = .ref a ∧ SqT K H a xs ∧ RpA K H xs ts := by
  cases r with
  | tup s ra => exact ⟨_, _, rfl, s, ra⟩
theorem Rp.pr {v : V} {z : Str} {x : TD} (r : Rp K H v (.tup [.str z, x])) : ∃ a u, v = .ref a ∧ SqT K H a [.str z, u] ∧ Rp K H u x := by
  cases r with
  | tup s ra =>
    cases ra with
    | cons a b =>
      cases a
      cases b with
      | cons c e => cases e; exact ⟨_, _, rfl, s, c⟩
end

end
section
variable {P : Program} {w : World} {K : PySem.W.Frag} {mg : Str → Option Value} {base : Heap}
def spNumber (K : PySem.W.Frag) : Sp := fun vs H Q _ => ∃ (d a : Addr) (ns : List Int), vs = [.ref d, .ref a] ∧ DrAt d H ∧ Sc K H d a ns ∧ ns.length ≤ 63 ∧ ∀ (n : Int) (H' : Hp), Dr d H H' → NumOf ns n → Q (.int n) H'
theorem ok_number (T : Tx mg) {f f1 f2 : Addr} {fd d1 d2 : FuncData} (F : Dn K mg "_law_number" sLNumber ["draws", "script"] f fd) (DLTake : Dn K mg "_law_take" sLTake ["draws", "many"] f1 d1) (GLTake : FnOk P w K mg base CX0 1 f1 d1 ["draws", "many"] spTake)
    (DLSize : Dn K mg "_law_size" sLSize ["draws", "script"] f2 d2) (GLSize : FnOk P w K mg base CX0 2 f2 d2 ["draws", "script"] (spSize K)) : FnOk P w K mg base CX0 3 f fd ["draws", "script"] (spNumber K) := by
  refine F.F.ok scLNumber (fun vs H Q E h => ?_) (fun cdv A outer s H vs Q E hr h => ?_)
  · obtain ⟨d, a, ns, rfl, _⟩ := h
    rfl
  obtain ⟨d, a, ns, rfl, hd, hS, h63, q⟩ := h
  have nd := scLNumber.nd
  refine ⟨_, (pss_one (ps_ret (pe_op op_mul (pe_call GLSize (hr.mono (by omega)) rfl DLSize.m DLSize.F.kp DLSize.b .nil pass0 (pa_cons (pv 0) (pa_cons (pv 1) pa_nil))) (pe_op op_sub pe_int (pe_op op_mul pe_int (pe_call GLTake (hr.mono (by omega)) rfl DLTake.m DLTake.F.kp DLTake.b .nil pass0 (pa_cons (pv 0) (pa_cons pe_int pa_nil)))))))), ?_⟩
  walk_at "rd"
  refine ⟨d, a, ns, rfl, hd, hS, h63, fun n H1 n0 g1 hn => ?_⟩
  walk_at "rd"
  refine take_step (by decide) g1.isD fun r H2 r0 r1 g2 => ?_
  refine rd_i (.inl ⟨by decide, by decide⟩) ?_
  walk_at "rd"
  refine rd_i (.inr ⟨by omega, by omega⟩) ?_
  refine q _ _ (g1.trans g2) ?_
  have e : (n * (1 - 2 * r)).natAbs = n.natAbs := by
    have : r = 0 ∨ r = 1 := by omega
    rcases this with rfl | rfl
    · rw [show (1 : Int) - 2 * 0 = 1 by decide, Int.mul_one]
    · rw [show (1 : Int) - 2 * 1 = -1 by decide, Int.mul_neg, Int.mul_one, Int.natAbs_neg]
  unfold NumOf
  rw [e]
  exact hn

end
section
variable {P : Program} {w : World} {K : PySem.W.Frag} {mg : Str → Option Value} {base : Heap}
def spSame (K : PySem.W.Frag) (n : Nat) : Sp := fun vs H Q _ => ∃ (x y : V) (t : TD), vs = [x, y] ∧ Rp K H x t ∧ Rp K H y t ∧ t.fit n ∧ ∀ H', Same H H' → Q (.bl true) H'
theorem ok_same_turn (T : Tx mg) {n : Nat} {f : Addr} {fd : FuncData} (DLSame : Dn K mg "_law_same" sLSame ["actual", "due"] f fd) (GLSame : FnOk P w K mg base CX0 n f fd ["actual", "due"] (spSame K n)) :
    FnOk P w K mg base CX0 (n + 1) f fd ["actual", "due"] (spSame K (n + 1)) := by
  refine DLSame.F.ok scLSame (fun vs H Q E h => ?_) (fun cdv A outer s H vs Q E hr h => ?_)
  · obtain ⟨x, y, t, rfl, _⟩ := h
    rfl
  obtain ⟨x, y, t, rfl, rx, ry, ft, q⟩ := h
  have nd := scLSame.nd
  refine ⟨_, (pss_cons (ps_if (pt_val (pe_callB (k_isiT K rfl) rfl T.m_isinstance (by decide +kernel) (pa_cons (pv 1) (pa_cons (pe_tup (pa_cons (pe_bltn (v := .ty "tuple") rfl T.m_tuple (by decide +kernel) rfl) (pa_cons (pe_bltn (v := .ty "list") rfl T.m_list (by decide +kernel) rfl) pa_nil))) pa_nil)))) (pss_cons (ps_if (PW.pt (pw_or (pt_cmpR op_ne (pe_callB (k_isi K rfl) rfl T.m_isinstance (by decide +kernel) (pa_cons (pv 0) (pa_cons (pe_bltn (v := .ty "tuple") rfl T.m_tuple (by decide +kernel) rfl) pa_nil))) (pe_callB (k_isi K rfl) rfl T.m_isinstance (by decide +kernel) (pa_cons (pv 1) (pa_cons (pe_bltn (v := .ty "tuple") rfl T.m_tuple (by decide +kernel) rfl) pa_nil))) (nomark _)) (pw_or1 (pt_cmpR op_ne (pe_callB (k_isi K rfl) rfl T.m_isinstance (by decide +kernel) (pa_cons (pv 0) (pa_cons (pe_bltn (v := .ty "list") rfl T.m_list (by decide +kernel) rfl) pa_nil))) (pe_callB (k_isi K rfl) rfl T.m_isinstance (by decide +kernel) (pa_cons (pv 1) (pa_cons (pe_bltn (v := .ty "list") rfl T.m_list (by decide +kernel) rfl) pa_nil))) (nomark _))))) (pss_one (ps_ret pe_bl)) pss_nil)
  (pss_cons (ps_if (pt_cmpR op_ne (pe_callB (k_len K rfl) rfl T.m_len PySem.boot_len (pa_cons (pv 0) pa_nil)) (pe_callB (k_len K rfl) rfl T.m_len PySem.boot_len (pa_cons (pv 1) pa_nil)) (nomark _)) (pss_one (ps_ret pe_bl)) pss_nil)
  (pss_one (ps_ret (pe_cmpR (k_notIn K rfl) pe_bl (pe_lc (own := [("k", (2 : Nat))]) (g := gName 2) rfl nd (pi_range1 rfl T.m_range (pa_cons (pe_callB (k_len K rfl) rfl T.m_len PySem.boot_len (pa_cons (pv 1) pa_nil)) pa_nil)) (blkOk_by (own := [("k", (2 : Nat))]) (N := nLSame) (sc := defScope sLSame) (by decide +kernel)) (fun _ _ _ _ _ => pg_name (i := 2) nd rfl (Or.inl rfl)) (fun _ _ _ _ _ => pts_nil) (fun _ _ _ _ _ => (pe_call GLSame (hr.mono (by omega)) rfl DLSame.m DLSame.F.kp DLSame.b .nil pass0 (pa_cons (pe_ix (k_ixT K rfl) (pv 0) (pv 2) (fun _ _ => rfl)) (pa_cons (pe_ix (k_ixT K rfl) (pv 1) (pv 2) (fun _ _ => rfl)) pa_nil))))) rfl))))) pss_nil)
  (pss_cons (ps_if (PW.pt (pw_or (pt_cmpR op_ne (pe_callB (k_isi K rfl) rfl T.m_isinstance (by decide +kernel) (pa_cons (pv 0) (pa_cons (pe_bltn (v := .ty "bool") rfl T.m_bool (by decide +kernel) rfl) pa_nil))) (pe_callB (k_isi K rfl) rfl T.m_isinstance (by decide +kernel) (pa_cons (pv 1) (pa_cons (pe_bltn (v := .ty "bool") rfl T.m_bool (by decide +kernel) rfl) pa_nil))) (nomark _)) (pw_or1 (pt_cmpR op_ne (pe_callB (k_isi K rfl) rfl T.m_isinstance (by decide +kernel) (pa_cons (pv 0) (pa_cons (pe_bltn (v := .ty "int") rfl T.m_int (by decide +kernel) rfl) pa_nil))) (pe_callB (k_isi K rfl) rfl T.m_isinstance (by decide +kernel) (pa_cons (pv 1) (pa_cons (pe_bltn (v := .ty "int") rfl T.m_int (by decide +kernel) rfl) pa_nil))) (nomark _))))) (pss_one (ps_ret pe_bl)) pss_nil)
  (pss_cons (ps_if (PW.pt (pw_or (pt_cmpR op_ne (pe_callB (k_isi K rfl) rfl T.m_isinstance (by decide +kernel) (pa_cons (pv 0) (pa_cons (pe_bltn (v := .ty "str") rfl T.m_str (by decide +kernel) rfl) pa_nil))) (pe_callB (k_isi K rfl) rfl T.m_isinstance (by decide +kernel) (pa_cons (pv 1) (pa_cons (pe_bltn (v := .ty "str") rfl T.m_str (by decide +kernel) rfl) pa_nil))) (nomark _)) (pw_or1 (pt_cmpR op_ne (pe_cmpR o_isN (pv 0) pe_non (nomark _)) (pe_cmpR o_isN (pv 1) pe_non (nomark _)) (nomark _))))) (pss_one (ps_ret pe_bl)) pss_nil)
  (pss_one (ps_ret (pe_cmpR op_eq (pv 0) (pv 1) (nomark _))))))), ?_⟩
  cases t with
  | tup ds =>
    obtain ⟨flen, fall⟩ := ft
    cases rx with
    | @tup a xs _ sx ax =>
    cases ry with
    | @tup b ys _ sy ay =>
    have lx : xs.length = ds.length := ax.length
    have ly : ys.length = ds.length := ay.length
    walk_at "rd"
    refine rd_new (len_ok rfl) fun tp htp => ?_
    walk_at "rd"
    have g0 : Same H (upd H tp (.tup [.ty "tuple", .ty "list"])) := same_new htp
    refine rd_isiT (b := true) upd_same (.cons (.ty _) (.cons (.ty _) .nil)) (sqt_ty (same_sqt g0 sy)) kt_tup ?_
    walk_at "rd"
    refine rd_isi (.ty _) (sqt_ty (same_sqt g0 sx)) (kit_ty (r := true) (by decide +kernel)) ?_
    walk_at "rd"
    refine rd_isi (.ty _) (sqt_ty (same_sqt g0 sy)) (kit_ty (r := true) (by decide +kernel)) ?_
    walk_at "dec"
    refine rd_isi (.ty _) (sqt_ty (same_sqt g0 sx)) (kit_ty (r := false) (by decide +kernel)) ?_
    walk_at "rd"
    refine rd_isi (.ty _) (sqt_ty (same_sqt g0 sy)) (kit_ty (r := false) (by decide +kernel)) ?_
    walk_at "dec"
    refine rd_lenT (same_sqt g0 sx) ?_
    walk_at "rd"
    refine rd_lenT (same_sqt g0 sy) ?_
    walk_at "rd"
    refine iteNF (by rw [lx, ly]) ?_
    walk_at "rd"
    refine rd_lenT (same_sqt g0 sy) ?_
    walk_at "rd"
    refine rd_r1 ⟨by omega, by omega⟩ fun D hD => ?_
    refine lc_range (lo := 0) (n := (ys.length : Int).toNat) (fun i H' => H' D = some (.lst (List.replicate i (.bl true))) ∧ Same H H') ⟨upd_same, (g0.trans (same_new hD))⟩ ?_ ?_
    · rintro i H' hi ⟨e1, g1⟩
      refine ⟨rfl, ?_⟩
      have hi' : i < ds.length := by omega
      obtain ⟨v, hv, rv⟩ := ax.get (i := i) (List.getElem?_eq_getElem hi')
      obtain ⟨u, hu, ru⟩ := ay.get (i := i) (List.getElem?_eq_getElem hi')
      walk_at "rd"
      rw [Int.zero_add]
      refine rd_ixT (same_sqt g1 sx) (atI_nat hv) ?_
      walk_at "rd"
      refine rd_ixT (same_sqt g1 sy) (atI_nat hu) ?_
      refine ⟨v, u, ds[i], rfl, same_rp g1 rv, same_rp g1 ru, fall _ (List.getElem_mem hi'), fun H2 g2 => ?_⟩
      refine ⟨_, g2 _ _ e1, by rw [List.length_replicate]; exact Nat.lt_of_le_of_lt (show i ≤ 20000 by omega) (by decide), ?_, ?_⟩
      · rw [upd_same, List.replicate_succ']
      · exact same_own (g1.trans g2) (g0.free hD)
    · rintro H' ⟨e1, g1⟩
      refine rd_notIn (SqL.of e1) rfl (trues_flat _) ?_
      rw [trues_no]
      exact q _ g1
  | non =>
    cases rx; cases ry
    walk_at "rd"
    refine rd_new (len_ok rfl) fun tp htp => ?_
    walk_at "rd"
    refine rd_isiT (b := false) upd_same (.cons (.ty _) (.cons (.ty _) .nil)) (.base .non) (kt_no (by decide +kernel) (by decide +kernel)) ?_
    iterate 6 (walk_at "dec"; refine rd_isi (.ty _) (.base .non) (kit_ty (r := false) (by decide +kernel)) ?_)
    walk_at "dec"
    exact q _ (same_new htp)
  | bl z =>
    cases rx; cases ry
    walk_at "rd"
    refine rd_new (len_ok rfl) fun tp htp => ?_
    walk_at "rd"
    refine rd_isiT (b := false) upd_same (.cons (.ty _) (.cons (.ty _) .nil)) (.base (.bl z)) (kt_no (by decide +kernel) (by decide +kernel)) ?_
    iterate 6 (walk_at "dec"; first | refine rd_isi (.ty _) (.base (.bl z)) (kit_ty (r := false) (by decide +kernel)) ?_ | refine rd_isi (.ty _) (.base (.bl z)) (kit_ty (r := true) (by decide +kernel)) ?_)
    walk_at "dec"
    refine iteNF rfl ?_
    walk_at "dec"
    rw [decide_eq_true rfl]
    exact q _ (same_new htp)
  | int z =>
    cases rx; cases ry
    walk_at "rd"
    refine rd_new (len_ok rfl) fun tp htp => ?_
    walk_at "rd"
    refine rd_isiT (b := false) upd_same (.cons (.ty _) (.cons (.ty _) .nil)) (.base (.int z)) (kt_no (by decide +kernel) (by decide +kernel)) ?_
    iterate 6 (walk_at "dec"; first | refine rd_isi (.ty _) (.base (.int z)) (kit_ty (r := false) (by decide +kernel)) ?_ | refine rd_isi (.ty _) (.base (.int z)) (kit_ty (r := true) (by decide +kernel)) ?_)
    walk_at "dec"
    refine iteNF rfl ?_
    walk_at "dec"
    rw [decide_eq_true rfl]
    exact q _ (same_new htp)
  | str z =>
    cases rx; cases ry
    walk_at "rd"
    refine rd_new (len_ok rfl) fun tp htp => ?_
    walk_at "rd"
    refine rd_isiT (b := false) upd_same (.cons (.ty _) (.cons (.ty _) .nil)) (.base (.str z)) (kt_no (by decide +kernel) (by decide +kernel)) ?_
    iterate 6 (walk_at "dec"; first | refine rd_isi (.ty _) (.base (.str z)) (kit_ty (r := false) (by decide +kernel)) ?_ | refine rd_isi (.ty _) (.base (.str z)) (kit_ty (r := true) (by decide +kernel)) ?_)
    walk_at "dec"
    refine iteNF rfl ?_
    walk_at "dec"
    rw [decide_eq_true rfl]
    exact q _ (same_new htp)
theorem ok_same (T : Tx mg) {f : Addr} {fd : FuncData} (D : Dn K mg "_law_same" sLSame ["actual", "due"] f fd) : ∀ n : Nat, FnOk P w K mg base CX0 n f fd ["actual", "due"] (spSame K n)
  | 0 => by
    have no : ∀ vs H Q E, ¬ spSame K 0 vs H Q E := fun vs H Q E h => by
      obtain ⟨x, y, t, _, _, _, ft, _⟩ := h
      exact ft
    exact ⟨fun vs H Q E h => absurd h (no vs H Q E), fun A outer s H args us vs Q E _ _ _ _ h => absurd h (no vs H Q E)⟩
  | n + 1 => ok_same_turn T D (ok_same T D n)

end
section
variable {P : Program} {w : World} {K : PySem.W.Frag} {mg : Str → Option Value} {base : Heap}
/-- the letters, words -/
def abc : Str := "abcdefghijklmnopqrstuvwxyz"
def wordB (z : Str) : Bool := (sg z).all (fun c => decide (c ∈ sg abc)) && decide (0 < z.length)
def WordOk (z : Str) : Prop := wordB z = true ∧ z.length ≤ 23
theorem flat_one : ∀ cs : List Nat, (cs.map fun c => (⟨#[c]⟩ : Str)).flatMap sg = cs
  | [] => rfl
  | c :: r => by rw [List.map_cons, List.flatMap_cons, flat_one r]; rfl
theorem sum_one : ∀ cs : List Nat, ((cs.map fun c => (⟨#[c]⟩ : Str)).map (·.length)).sum = cs.length
  | [] => rfl
  | c :: r => by rw [List.map_cons, List.map_cons, List.sum_cons, sum_one r]; show 1 + r.length = r.length + 1; omega
theorem word_of {u : Str} {cs : List Nat} (e : sg u = cs) (h : ∀ c ∈ cs, c ∈ sg abc) (h1 : 1 ≤ cs.length) : wordB u = true := by
  unfold wordB
  have hl : u.length = cs.length := by rw [← e]; rfl
  rw [e, decide_eq_true (by omega : 0 < u.length), Bool.and_true, List.all_eq_true]
  exact fun c hc => decide_eq_true (h c hc)
/-- the list of words that a law draws -/
structure Wl (d L : Addr) (ws : List Str) (H : Hp) : Prop where
  at_ : H L = some (.lst (ws.map V.str))
  ne : L ≠ d
  ok : ∀ z ∈ ws, WordOk z
theorem Wl.dr {d L : Addr} {ws : List Str} {H H' : Hp} (h : Wl d L ws H) (g : Dr d H H') : Wl d L ws H' := ⟨g.kp _ _ h.ne h.at_, h.ne, h.ok⟩
theorem abc_is : sg abc = [97, 98, 99, 100, 101, 102, 103, 104, 105, 106, 107, 108, 109, 110, 111, 112, 113, 114, 115, 116, 117, 118, 119, 120, 121, 122] := by decide +kernel
/-- the drawn words are all different -/
def Wd (i : Nat) (ws : List Str) : Prop := ws.Nodup ∧ ∀ z ∈ ws, z.length ≠ 5 ∨ ∃ k, k < i ∧ sg z = sg "zzzz" ++ [97 + k]
theorem abc_at : ∀ k : Nat, k < 26 → atI (sg abc) (k : Int) = some (97 + k) := by
  have h : ∀ k : Fin 26, atI (sg abc) ((k : Nat) : Int) = some (97 + (k : Nat)) := by decide +kernel
  exact fun k hk => h ⟨k, hk⟩
theorem Wd.more {i : Nat} {ws : List Str} {z : Str} (h : Wd i ws) (n : z ∉ ws) (q : z.length ≠ 5 ∨ sg z = sg "zzzz" ++ [97 + i]) : Wd (i + 1) (ws ++ [z]) := by
  refine ⟨List.nodup_append.mpr ⟨h.1, List.nodup_cons.mpr ⟨(fun z => nomatch z), List.nodup_nil⟩, (fun x hx y hy e => ?_)⟩, (fun x hx => ?_)⟩
  · rw [List.mem_singleton.mp hy] at e
    exact n (e ▸ hx)
  · rcases List.mem_append.mp hx with m | m
    · rcases h.2 x m with a | ⟨k, hk, e⟩
      · exact .inl a
      · exact .inr ⟨k, by omega, e⟩
    · rw [List.mem_singleton.mp m]
      rcases q with a | e
      · exact .inl a
      · exact .inr ⟨i, by omega, e⟩
theorem Wd.new {i : Nat} {ws : List Str} {z : Str} (h : Wd i ws) (e : sg z = sg "zzzz" ++ [97 + i]) : z ∉ ws := by
  intro m
  rcases h.2 z m with a | ⟨k, hk, e'⟩
  · apply a
    rw [← sg_len, e, List.length_append, show (sg "zzzz").length = 4 by decide +kernel]; rfl
  · rw [e] at e'
    have := List.append_cancel_left e'
    injection this with this
    omega
def spWordsN : Sp := fun vs H Q _ => ∃ (d : Addr) (n : Nat), vs = [.ref d, .int n] ∧ DrAt d H ∧ n ≤ 26 ∧ ∀ (L : Addr) (ws : List Str) (H' : Hp), H L = none → Dr d H H' → Wl d L ws H' → ws.length = n → ws.Nodup → Q (.ref L) H'
theorem ok_wordsN (T : Tx mg) {f f1 : Addr} {fd d1 : FuncData} (F : Dn K mg "_law_words" sLWords ["draws", "many"] f fd) (DLTake : Dn K mg "_law_take" sLTake ["draws", "many"] f1 d1) (GLTake : FnOk P w K mg base CX0 1 f1 d1 ["draws", "many"] spTake) : FnOk P w K mg base CX0 2 f fd ["draws", "many"] spWordsN := by
  refine F.F.ok scLWords (fun vs H Q E h => ?_) (fun cdv A outer s H vs Q E hr h => ?_)
  · obtain ⟨d, n, rfl, _⟩ := h
    rfl
  obtain ⟨d, n, rfl, hd, hn, q⟩ := h
  have nd := scLWords.nd
  refine ⟨_, (pss_cons (ps_set (i := 2) nd rfl (Or.inl rfl) (pe_lst pa_nil))
  (pss_cons (ps_for PassesOwn.never rfl (pi_range1 rfl T.m_range (pa_cons (pv 1) pa_nil)) (pg_name (i := 3) nd rfl (Or.inl rfl)) (pss_cons (ps_set (i := 4) nd rfl (Or.inl rfl) (pe_op op_add pe_int (pe_call GLTake (hr.mono (by omega)) rfl DLTake.m DLTake.F.kp DLTake.b .nil pass0 (pa_cons (pv 0) (pa_cons pe_int pa_nil)))))
  (C8.pss_cut (ps_if (pt_cmpR op_eq (pe_call GLTake (hr.mono (by omega)) rfl DLTake.m DLTake.F.kp DLTake.b .nil pass0 (pa_cons (pv 0) (pa_cons pe_int pa_nil))) pe_int (nomark _)) (pss_one (ps_set (i := 4) nd rfl (Or.inl rfl) (pe_op op_add (pe_op op_add (pv 4) pe_int) (pe_call GLTake (hr.mono (by omega)) rfl DLTake.m DLTake.F.kp DLTake.b .nil pass0 (pa_cons (pv 0) (pa_cons pe_int pa_nil)))))) pss_nil)
  (pss_cons (ps_set (i := 5) nd rfl (Or.inl rfl) (pe_joinX (K := K) rfl pe_str (pe_lc (own := [("j", (6 : Nat))]) (g := gName 6) rfl nd (pi_range1 rfl T.m_range (pa_cons (pv 4) pa_nil)) (blkOk_by (own := [("j", (6 : Nat))]) (N := nLWords) (sc := defScope sLWords) (by decide +kernel)) (fun _ _ _ _ _ => pg_name (i := 6) nd rfl (Or.inl rfl)) (fun _ _ _ _ _ => pts_nil) (fun _ _ _ _ _ => (pe_ix ix_str pe_str (pe_call GLTake (hr.mono (by omega)) rfl DLTake.m DLTake.F.kp DLTake.b .nil pass0 (pa_cons (pv 0) (pa_cons pe_int pa_nil))) (fun _ _ => rfl))))))
  (C8.pss_cut (ps_if (pt_cmpR (k_in K rfl) (pv 5) (pv 2) rfl) (pss_one (ps_set (i := 5) nd rfl (Or.inl rfl) (pe_op op_catX pe_str (pe_ix ix_str pe_str (pv 3) (fun _ _ => rfl))))) pss_nil)
  (pss_one (ps_expr (k_bm K rfl (pe_bm PySem.F.plainAttrs_list PySem.F.slot_list_append PySem.F.type_list_append mt_append (pv 2) (pa_cons (pv 5) pa_nil))))))))))
  (pss_one (ps_ret (pv 2))))), ?_⟩
  walk_at "rd"
  refine rd_mk (len_ok rfl) fun L H1 nL eL s1 => ?_
  walk_at "rd"
  have nLd : L ≠ d := fun e => by obtain ⟨ds, e'⟩ := hd; rw [e, e'] at nL; cases nL
  have g1 : Dr d H H1 := (Dr.refl hd).same s1
  refine rd_r1 ⟨by omega, by omega⟩ ?_
  rw [show ((n : Int)).toNat = n by omega]
  refine for_range (lo := 0) (n := n) (fun i σ' H' => ∃ (v3 v4 v5 : Option V) (ws : List Str), σ' = [some (.ref d), some (.int n), some (.ref L), v3, v4, v5, none] ∧ Dr d H H' ∧ Wl d L ws H' ∧ ws.length = i ∧ Wd i ws) ⟨none, none, none, [], rfl, g1, ⟨eL, nLd, fun _ h => (nomatch h)⟩, rfl, List.nodup_nil, fun _ h => (nomatch h)⟩ ?_ ?_
  · rintro i σ' H2 hi ⟨v3, v4, v5, ws, rfl, g2, wl, hl, wd⟩
    walk_at "rd"
    refine take_step (by decide) g2.isD fun r H3 r0 r1 g3 => ?_
    walk_at "rd"
    refine ⟨fun σ' H' => ∃ m : Nat, σ' = [some (.ref d), some (.int n), some (.ref L), some (.int i), some (.int m), v5, none] ∧ 1 ≤ m ∧ m ≤ 23 ∧ m ≠ 5 ∧ Dr d H H' ∧ Wl d L ws H', ?_, ?_⟩
    · walk_at "rd"
      refine take_step (by decide) g3.isD fun r2 H4 r20 r21 g4 => ?_
      walk_at "rd"
      refine iteD (fun c => ?_) (fun c => ?_)
      · walk_at "rd"
        refine take_step (by decide) g4.isD fun r3 H5 r30 r31 g5 => ?_
        walk_at "rd"
        exact ⟨(1 + r + 9 + r3).toNat, by rw [show ((1 + r + 9 + r3).toNat : Int) = 1 + r + 9 + r3 by omega, Int.zero_add]; rfl, by omega, by omega, by omega, g2.trans (g3.trans (g4.trans g5)), wl.dr (g3.trans (g4.trans g5))⟩
      · walk_at "rd"
        exact ⟨(1 + r).toNat, by rw [show ((1 + r).toNat : Int) = 1 + r by omega, Int.zero_add]; rfl, by omega, by omega, by omega, g2.trans (g3.trans g4), wl.dr (g3.trans g4)⟩
    rintro σ' H4 ⟨m, rfl, m1, m23, m5, g4, wl4⟩
    walk_at "rd"
    refine rd_m1 ?_
    walk_at "rd"
    refine ⟨⟨_, rfl⟩, ?_⟩
    walk_at "rd"
    refine rd_r1 ⟨by omega, by omega⟩ fun D hD => ?_
    rw [show ((m : Int)).toNat = m by omega]
    have nD : D ≠ d := g4.ne_new hD
    have fD : H D = none := g4.fresh hD
    have nDL : L ≠ D := fun e => by rw [← e, wl4.at_] at hD; cases hD
    refine lc_range (lo := 0) (n := m) (fun i H' => ∃ cs : List Nat, cs.length = i ∧ (∀ c ∈ cs, c ∈ sg abc) ∧ H' D = some (.lst (cs.map fun c => V.str ⟨#[c]⟩)) ∧ Dr d H H' ∧ Wl d L ws H') ⟨[], rfl, fun _ h => (nomatch h), upd_same, g4.own fD, ⟨by rw [upd_ne nDL]; exact wl4.at_, wl4.ne, wl4.ok⟩⟩ ?_ ?_
    · rintro j H5 hj ⟨cs, hcl, hc, e5, g5, wl5⟩
      refine ⟨rfl, ?_⟩
      walk_at "rd"
      refine take_step (by decide) g5.isD fun x H6 x0 x1 g6 => ?_
      obtain ⟨c, ec, mc⟩ := sg_at (z := abc) x0 (by rw [show abc.length = 26 by decide +kernel]; exact x1)
      refine rd_ixS (z := abc) (len_ok (by decide +kernel)) ec ?_
      refine ⟨_, g6.kp _ _ nD e5, by rw [List.length_map]; exact small1000 (by omega), ⟨cs ++ [c], by rw [List.length_append, hcl]; rfl, ?_, ?_, (g5.trans g6).own fD, ?_⟩⟩
      · intro x hx
        rcases List.mem_append.mp hx with h | h
        · exact hc x h
        · rw [List.mem_singleton.mp h]; exact mc
      · rw [upd_same, List.map_append]; rfl
      · have := wl5.dr g6
        exact ⟨by rw [upd_ne nDL]; exact this.at_, this.ne, this.ok⟩
    rintro H5 ⟨cs, hcl, hc, e5, g5, wl5⟩
    walk_at "rd"
    refine rd_joinX (ys := cs.map fun c => ⟨#[c]⟩) (by rw [List.map_map]; exact SqL.of e5) (by rw [sum_one]; omega) fun u hu => ?_
    rw [flat_one] at hu
    have ul : u.length = m := by rw [← sg_len, hu, hcl]
    have uo : WordOk u := ⟨word_of hu hc (by omega), by omega⟩
    walk_at "rd"
    refine ⟨fun σ' H' => ∃ z : Str, σ' = [some (.ref d), some (.int n), some (.ref L), some (.int i), some (.int m), some (.str z), none] ∧ WordOk z ∧ z ∉ ws ∧ (z.length ≠ 5 ∨ sg z = sg "zzzz" ++ [97 + i]) ∧ Dr d H H' ∧ Wl d L ws H', ?_, ?_⟩
    · walk_at "rd"
      refine rd_in (SqL.of wl5.at_) rfl (strs_flat _) ?_
      walk_at "rd"
      refine iteB (fun c => ?_) (fun c => ?_)
      · walk_at "rd"
        have ex := abc_at i (by omega)
        have mx : (97 + i) ∈ sg abc := by rw [abc_is]; simp only [List.mem_cons, List.not_mem_nil, or_false]; omega
        refine rd_ixS (z := abc) (len_ok (by decide +kernel)) ex ?_
        refine rd_catX (by rw [show (Str.ofString "zzzz").length = 4 by decide +kernel]; exact len_ok (n := 4 + 1) rfl) ?_
        walk_at "rd"
        refine ⟨_, rfl, ⟨word_of (sg_app _ _) ?_ ?_, ?_⟩, wd.new (sg_app _ _), .inr (sg_app _ _), g5, wl5⟩
        · intro y hy
          rcases List.mem_append.mp hy with h | h
          · have z4 : ∀ y ∈ sg "zzzz", y ∈ sg abc := by decide +kernel
            exact z4 y h
          · rw [List.mem_singleton.mp h]; exact mx
        · rw [List.length_append]; show 1 ≤ (sg "zzzz").length + 1; omega
        · rw [len_app, show (Str.ofString "zzzz").length = 4 by decide +kernel]; show 4 + 1 ≤ 23; decide
      · walk_at "rd"
        exact ⟨u, rfl, uo, fun m => (by rw [strs_inV, decide_eq_true m] at c; cases c), .inl (by omega), g5, wl5⟩
    rintro σ' H6 ⟨z, rfl, zo, zn, zq, g6, wl6⟩
    walk_at "rd"
    refine rd_ty (SqL.of wl6.at_) ?_
    walk_at "rd"
    refine rd_append wl6.at_ (by rw [List.length_map]; exact small1000 (by omega)) ?_
    walk_at "rd"
    refine ⟨_, _, _, ws ++ [z], rfl, g6.own (nL), ⟨by rw [upd_same, List.map_append]; rfl, nLd, ?_⟩, by rw [List.length_append, hl]; rfl, wd.more zn zq⟩
    intro x hx
    rcases List.mem_append.mp hx with h | h
    · exact wl6.ok x h
    · rw [List.mem_singleton.mp h]; exact zo
  · rintro σ' H2 ⟨v3, v4, v5, ws, rfl, g2, wl, hl, wd⟩
    walk_at "rd"
    exact q L ws _ nL g2 wl hl wd.1

end
section
variable {P : Program} {w : World} {K : PySem.W.Frag} {mg : Str → Option Value} {base : Heap}
/-- what holds of the drawn numbers, of the drawn variables -/
structure NWp where
  f1 : Int → Prop
  f2 : Str → Prop
def NWp.pi1 (p : NWp) : Int → Prop := p.f1
/-- a value, a term, an atom -/
def valT (PI : NWp) : TD → Prop
  | .int i => PI.f1 i
  | .str z => WordOk z
  | _ => False
def varT (PI : NWp) (t : TD) : Prop := ∃ z, t = .tup [.str "var", .str z] ∧ WordOk z ∧ PI.f2 z
def termT (PI : NWp) (t : TD) : Prop := (∃ u, t = .tup [.str "value", u] ∧ valT PI u) ∨ varT PI t
def atomT (PI : NWp) (most : Nat) (t : TD) : Prop := ∃ z ts, t = .tup [.str z, .tup ts] ∧ WordOk z ∧ ts.length ≤ most ∧ ∀ x ∈ ts, termT PI x
theorem cut_mem {xs : List V} {lo hi : Option Int} {x : V} (h : x ∈ cutV xs lo hi) : x ∈ xs := by
  unfold cutV at h
  exact List.mem_of_mem_drop (List.mem_of_mem_take h)
theorem strs_mem {ws : List Str} {x : V} (h : x ∈ ws.map V.str) : ∃ z, x = .str z ∧ z ∈ ws := by
  obtain ⟨z, hz, rfl⟩ := List.mem_map.mp h
  exact ⟨z, rfl, hz⟩
def Hyp (PI : NWp) (ns : List Int) (ws : List Str) : Prop := (∀ n, NumOf ns n → PI.f1 n) ∧ ∀ z ∈ ws.take 5, PI.f2 z
def spValue (PI : NWp) (K : PySem.W.Frag) : Sp := fun vs H Q _ => ∃ (d a L : Addr) (ns : List Int) (ws : List Str), vs = [.ref d, .ref a, .ref L] ∧ DrAt d H ∧ Sc K H d a ns ∧ ns.length ≤ 63 ∧ Hyp PI ns ws ∧ Wl d L ws H ∧ ws ≠ [] ∧
  ∀ (v : V) (t : TD) (H' : Hp), Dr d H H' → Rp K H' v t → valT PI t → Q v H'
theorem ok_value {PI : NWp} (T : Tx mg) {f f1 f2 f3 : Addr} {fd d1 d2 d3 : FuncData} (F : Dn K mg "_law_any_value" sLAnyValue ["draws", "script", "words"] f fd) (DLTake : Dn K mg "_law_take" sLTake ["draws", "many"] f1 d1) (GLTake : FnOk P w K mg base CX0 1 f1 d1 ["draws", "many"] spTake)
    (DLPick : Dn K mg "_law_pick" sLPick ["draws", "row"] f2 d2) (GLPick : FnOk P w K mg base CX0 2 f2 d2 ["draws", "row"] (spPick K)) (DLNumber : Dn K mg "_law_number" sLNumber ["draws", "script"] f3 d3) (GLNumber : FnOk P w K mg base CX0 3 f3 d3 ["draws", "script"] (spNumber K)) :
    FnOk P w K mg base CX0 4 f fd ["draws", "script", "words"] (spValue PI K) := by
  refine F.F.ok scLAnyValue (fun vs H Q E h => ?_) (fun cdv A outer s H vs Q E hr h => ?_)
  · obtain ⟨d, a, L, ns, ws, rfl, _⟩ := h
    rfl
  obtain ⟨d, a, L, ns, ws, rfl, hd, hS, h63, hP, wl, ne, q⟩ := h
  have nd := scLAnyValue.nd
  refine ⟨_, (pss_cons (ps_if (pt_cmpR op_eq (pe_call GLTake (hr.mono (by omega)) rfl DLTake.m DLTake.F.kp DLTake.b .nil pass0 (pa_cons (pv 0) (pa_cons pe_int pa_nil))) pe_int (nomark _)) (pss_one (ps_ret (pe_call GLPick (hr.mono (by omega)) rfl DLPick.m DLPick.F.kp DLPick.b .nil pass0 (pa_cons (pv 0) (pa_cons (pv 2) pa_nil))))) pss_nil)
  (pss_one (ps_ret (pe_call GLNumber (hr.mono (by omega)) rfl DLNumber.m DLNumber.F.kp DLNumber.b .nil pass0 (pa_cons (pv 0) (pa_cons (pv 1) pa_nil)))))), ?_⟩
  walk_at "rd"
  refine take_step (by decide) hd fun r H1 r0 r1 g1 => ?_
  walk_at "rd"
  refine iteD (fun c => ?_) (fun c => ?_)
  · walk_at "rd"
    refine ⟨d, L, _, rfl, g1.isD, (wl.dr g1).at_, wl.ne, by simpa using ne, fun v H2 g2 mv => ?_⟩
    obtain ⟨z, rfl, mz⟩ := strs_mem mv
    exact q _ (.str z) _ (g1.trans g2) (.str z) (wl.ok z mz)
  · walk_at "rd"
    refine ⟨d, a, ns, rfl, g1.isD, hS.dr g1, h63, fun n H2 g2 hn => ?_⟩
    exact q _ (.int n) _ (g1.trans g2) (.int n) (hP.1 n hn)

end
section
variable {P : Program} {w : World} {K : PySem.W.Frag} {mg : Str → Option Value} {base : Heap}
theorem rp_pair {z : Str} {a : Addr} {u : V} {x : TD} {K : PySem.W.Frag} {H : Hp} (s : SqT K H a [.str z, u]) (r : Rp K H u x) : Rp K H (.ref a) (.tup [.str z, x]) := .tup s (.cons (.str z) (.cons r .nil))
def spTerm (PI : NWp) (K : PySem.W.Frag) : Sp := fun vs H Q _ => ∃ (d a L : Addr) (ns : List Int) (ws : List Str), vs = [.ref d, .ref a, .ref L] ∧ DrAt d H ∧ Sc K H d a ns ∧ ns.length ≤ 63 ∧ Hyp PI ns ws ∧ Wl d L ws H ∧ ws ≠ [] ∧
  ∀ (v : V) (t : TD) (H' : Hp), Dr d H H' → Rp K H' v t → termT PI t → Q v H'
theorem ok_term {PI : NWp} (T : Tx mg) {f f1 f2 f3 : Addr} {fd d1 d2 d3 : FuncData} (F : Dn K mg "_law_any_term" sLAnyTerm ["draws", "script", "words"] f fd) (DLTake : Dn K mg "_law_take" sLTake ["draws", "many"] f1 d1) (GLTake : FnOk P w K mg base CX0 1 f1 d1 ["draws", "many"] spTake)
    (DLPick : Dn K mg "_law_pick" sLPick ["draws", "row"] f2 d2) (GLPick : FnOk P w K mg base CX0 2 f2 d2 ["draws", "row"] (spPick K)) (DLAnyValue : Dn K mg "_law_any_value" sLAnyValue ["draws", "script", "words"] f3 d3) (GLAnyValue : FnOk P w K mg base CX0 4 f3 d3 ["draws", "script", "words"] (spValue PI K)) :
    FnOk P w K mg base CX0 5 f fd ["draws", "script", "words"] (spTerm PI K) := by
  refine F.F.ok scLAnyTerm (fun vs H Q E h => ?_) (fun cdv A outer s H vs Q E hr h => ?_)
  · obtain ⟨d, a, L, ns, ws, rfl, _⟩ := h
    rfl
  obtain ⟨d, a, L, ns, ws, rfl, hd, hS, h63, hP, wl, ne, q⟩ := h
  have nd := scLAnyTerm.nd
  refine ⟨_, (pss_cons (ps_if (pt_cmpR op_eq (pe_call GLTake (hr.mono (by omega)) rfl DLTake.m DLTake.F.kp DLTake.b .nil pass0 (pa_cons (pv 0) (pa_cons pe_int pa_nil))) pe_int (nomark _)) (pss_one (ps_ret (pe_tup (pa_cons pe_str (pa_cons (pe_call GLAnyValue (hr.mono (by omega)) rfl DLAnyValue.m DLAnyValue.F.kp DLAnyValue.b .nil pass0 (pa_cons (pv 0) (pa_cons (pv 1) (pa_cons (pv 2) pa_nil)))) pa_nil))))) pss_nil)
  (pss_one (ps_ret (pe_tup (pa_cons pe_str (pa_cons (pe_call GLPick (hr.mono (by omega)) rfl DLPick.m DLPick.F.kp DLPick.b .nil pass0 (pa_cons (pv 0) (pa_cons (pe_slice (k_slL K rfl) (pv 2) po_none (po_some pe_int)) pa_nil))) pa_nil)))))), ?_⟩
  walk_at "rd"
  refine take_step (by decide) hd fun r H1 r0 r1 g1 => ?_
  walk_at "rd"
  refine iteD (fun c => ?_) (fun c => ?_)
  · walk_at "rd"
    refine ⟨d, a, L, ns, ws, rfl, g1.isD, hS.dr g1, h63, hP, wl.dr g1, ne, fun v t H2 g2 rv hv => ?_⟩
    walk_at "rd"
    refine rd_mk (len_ok rfl) fun tp H3 n3 e3 s3 => ?_
    exact q _ _ _ ((g1.trans g2).same s3) (rp_pair (SqT.of e3) (same_rp s3 rv)) (.inl ⟨t, rfl, hv⟩)
  · walk_at "rd"
    refine rd_cut (SqL.of (wl.dr g1).at_) fun C hC => ?_
    walk_at "rd"
    have g2 : Dr d H (upd H1 C (.lst (cutV (ws.map V.str) none (some 5)))) := g1.new hC
    have ce : cutV (ws.map V.str) none (some 5) ≠ [] := by
      rw [show (5 : Int) = ((5 : Nat) : Int) from rfl, cut_upto]
      cases ws with
      | nil => exact absurd rfl ne
      | cons w r => intro e; cases e
    refine ⟨d, C, _, rfl, g2.isD, upd_same, g1.ne_new hC, ce, fun v H3 g3 mv => ?_⟩
    obtain ⟨z, rfl, mz⟩ := strs_mem (cut_mem mv)
    have m5 : z ∈ ws.take 5 := by
      rw [show (5 : Int) = ((5 : Nat) : Int) from rfl, cut_upto, ← List.map_take] at mv
      obtain ⟨y, e, my⟩ := strs_mem mv
      injection e with e
      rw [e]; exact my
    walk_at "rd"
    refine rd_mk (len_ok rfl) fun tp H4 n4 e4 s4 => ?_
    exact q _ _ _ ((g2.trans g3).same s4) (rp_pair (SqT.of e4) (.str z)) (.inr ⟨z, rfl, wl.ok z mz, hP.2 z m5⟩)

end
section
variable {P : Program} {w : World} {K : PySem.W.Frag} {mg : Str → Option Value} {base : Heap}
theorem cut_fromK {xs : List V} {k : Nat} (h : k ≤ xs.length) : cutV xs (some (k : Int)) none = xs.drop k := by
  have e1 : HT.sIx xs.length 0 (some (k : Int)) = k := by
    rw [HT.sIx_nat]
    exact Nat.min_eq_left h
  unfold cutV
  rw [e1, HT.sIx_none]
  exact List.take_of_length_le (by rw [List.length_drop]; exact Nat.le_refl _)
def spAtom (PI : NWp) (K : PySem.W.Frag) : Sp := fun vs H Q _ => ∃ (d a L : Addr) (most : Nat) (ns : List Int) (ws : List Str), vs = [.ref d, .ref a, .ref L, .int most] ∧ DrAt d H ∧ Sc K H d a ns ∧ ns.length ≤ 63 ∧ Hyp PI ns ws ∧ Wl d L ws H ∧ 4 ≤ ws.length ∧ most ≤ 8 ∧
  ∀ (v : V) (t : TD) (H' : Hp), Dr d H H' → Rp K H' v t → atomT PI most t → Q v H'
theorem ok_atom {PI : NWp} (T : Tx mg) {f f1 f2 f3 : Addr} {fd d1 d2 d3 : FuncData} (F : Dn K mg "_law_any_atom" sLAnyAtom ["draws", "script", "words", "most"] f fd) (DLTake : Dn K mg "_law_take" sLTake ["draws", "many"] f1 d1) (GLTake : FnOk P w K mg base CX0 1 f1 d1 ["draws", "many"] spTake)
    (DLPick : Dn K mg "_law_pick" sLPick ["draws", "row"] f2 d2) (GLPick : FnOk P w K mg base CX0 2 f2 d2 ["draws", "row"] (spPick K)) (DLAnyTerm : Dn K mg "_law_any_term" sLAnyTerm ["draws", "script", "words"] f3 d3) (GLAnyTerm : FnOk P w K mg base CX0 5 f3 d3 ["draws", "script", "words"] (spTerm PI K)) :
    FnOk P w K mg base CX0 6 f fd ["draws", "script", "words", "most"] (spAtom PI K) := by
  refine F.F.ok scLAnyAtom (fun vs H Q E h => ?_) (fun cdv A outer s H vs Q E hr h => ?_)
  · obtain ⟨d, a, L, most, ns, ws, rfl, _⟩ := h
    rfl
  obtain ⟨d, a, L, most, ns, ws, rfl, hd, hS, h63, hP, wl, h4, h8, q⟩ := h
  have nd := scLAnyAtom.nd
  refine ⟨_, (pss_cons (ps_setLc (i := 4) (own := [("k", (5 : Nat))]) (g := gName 5) rfl nd rfl rfl (sw_true rfl rfl rfl (by decide +kernel)) (pi_range1 rfl T.m_range (pa_cons (pe_call GLTake (hr.mono (by omega)) rfl DLTake.m DLTake.F.kp DLTake.b .nil pass0 (pa_cons (pv 0) (pa_cons (pe_op op_add (pv 3) pe_int) pa_nil))) pa_nil)) (blkOk_by (own := [("k", (5 : Nat))]) (N := nLAnyAtom) (sc := defScope sLAnyAtom) (by decide +kernel)) (fun _ _ _ _ _ => pg_name (i := 5) nd rfl (Or.inl rfl)) (fun _ _ _ _ _ => pts_nil) (fun _ _ _ _ _ => (pe_call GLAnyTerm (hr.mono (by omega)) rfl DLAnyTerm.m DLAnyTerm.F.kp DLAnyTerm.b .nil pass0 (pa_cons (pv 0) (pa_cons (pv 1) (pa_cons (pv 2) pa_nil))))))
  (pss_one (ps_ret (pe_tup (pa_cons (pe_call GLPick (hr.mono (by omega)) rfl DLPick.m DLPick.F.kp DLPick.b .nil pass0 (pa_cons (pv 0) (pa_cons (pe_slice (k_slL K rfl) (pv 2) (po_some pe_int) po_none) pa_nil))) (pa_cons (pe_callTy (k_tuple K rfl) rfl T.m_tuple (by decide +kernel) (pa_cons (pv 4) pa_nil)) pa_nil)))))), ?_⟩
  have ne : ws ≠ [] := fun e => by rw [e] at h4; cases h4
  walk_at "rd"
  refine take_step (by omega) hd fun m H1 m0 m1 g1 => ?_
  walk_at "rd"
  obtain ⟨mn, rfl⟩ : ∃ mn : Nat, m = (mn : Int) := ⟨m.toNat, by omega⟩
  refine rd_r1 ⟨by omega, by omega⟩ fun R hR => ?_
  rw [show ((mn : Int)).toNat = mn by omega]
  have nR : R ≠ d := g1.ne_new hR
  have fR : H R = none := g1.fresh hR
  refine lc_range (lo := 0) (n := mn) (fun i H' => ∃ (xs : List V) (ts : List TD), ts.length = i ∧ RpA K H' xs ts ∧ (∀ t ∈ ts, termT PI t) ∧ H' R = some (.lst xs) ∧ Dr d H H' ∧ Wl d L ws H' ∧ Sc K H' d a ns) ⟨[], [], rfl, .nil, fun _ h => (nomatch h), upd_same, g1.own fR, ?_, ?_⟩ ?_ ?_
  · exact (wl.dr (g1.own fR))
  · exact hS.dr (g1.own fR)
  · rintro i H2 hi ⟨xs, ts, hl, ra, ht, e2, g2, wl2, hS2⟩
    refine ⟨rfl, ?_⟩
    walk_at "rd"
    refine ⟨d, a, L, ns, ws, rfl, g2.isD, hS2, h63, hP, wl2, ne, fun v t H3 g3 rv tv => ?_⟩
    have lx : xs.length = ts.length := ra.length
    have e3 := g3.kp _ _ nR e2
    have g4 : Dr d H (upd H3 R (.lst (xs ++ [v]))) := (g2.trans g3).own fR
    refine ⟨_, e3, small1000 (by omega), ⟨xs ++ [v], ts ++ [t], by rw [List.length_append, hl]; rfl, ?_, ?_, upd_same, g4, wl.dr g4, hS.dr g4⟩⟩
    · exact RpA.app (rpa_put e3 (g3.rpa ra)) (.cons (rp_put e3 rv) .nil)
    · intro x hx
      rcases List.mem_append.mp hx with h | h
      · exact ht x h
      · rw [List.mem_singleton.mp h]; exact tv
  rintro H2 ⟨xs, ts, hl, ra, ht, e2, g2, wl2, hS2⟩
  walk_at "rd"
  refine rd_cut (SqL.of wl2.at_) fun C hC => ?_
  walk_at "rd"
  have g3 : Dr d H (upd H2 C (.lst (cutV (ws.map V.str) (some 3) none))) := g2.new hC
  have s3 : Same H2 (upd H2 C (.lst (cutV (ws.map V.str) (some 3) none))) := same_new hC
  have ce : cutV (ws.map V.str) (some 3) none ≠ [] := by
    rw [show (3 : Int) = ((3 : Nat) : Int) from rfl, cut_fromK (by rw [List.length_map]; omega)]
    intro e
    have := congrArg List.length e
    rw [List.length_drop, List.length_map] at this
    have l0 : ([] : List V).length = 0 := rfl
    omega
  refine ⟨d, C, _, rfl, g3.isD, upd_same, g2.ne_new hC, ce, fun v H3 g4 mv => ?_⟩
  obtain ⟨z, rfl, mz⟩ := strs_mem (cut_mem mv)
  walk_at "rd"
  have e3 := g4.kp _ _ nR (s3 _ _ e2)
  refine rd_tuple (SqL.of e3) fun tp htp => ?_
  walk_at "rd"
  refine rd_mk (len_ok rfl) fun tq H5 n5 e5 s5 => ?_
  have s4 : Same H3 (upd H3 tp (.tup xs)) := same_new htp
  have ra5 := same_rpa s5 (same_rpa s4 (g4.rpa (same_rpa s3 ra)))
  have rt : Rp K H5 (.ref tp) (.tup ts) := .tup (SqT.of (s5 _ _ upd_same)) ra5
  exact q _ _ _ (((g3.trans g4).same s4).same s5) (rp_pair (SqT.of e5) rt) ⟨z, ts, rfl, wl.ok z mz, by omega, ht⟩

end
section
variable {P : Program} {w : World} {K : PySem.W.Frag} {mg : Str → Option Value} {base : Heap}
theorem k_catA {X : Cx} (K : PySem.W.Frag) (h : X.K = K) : OpR X (binaryOp .Add) (rCatA K) := by subst h; exact op_catA
section
variable {K : PySem.W.Frag} {H : Hp} {Q : VK}
theorem rp_cat {v u : V} {ts us : List TD} (r1 : Rp K H v (.tup ts)) (r2 : Rp K H u (.tup us)) (z : ts.length + us.length ≤ sizeLine) (q : ∀ w H', Same H H' → Rp K H' w (.tup (ts ++ us)) → Q w H') : rCatA K v u H Q := by
  obtain ⟨a, xs, rfl, s1, a1⟩ := r1.seq
  obtain ⟨b, ys, rfl, s2, a2⟩ := r2.seq
  refine ⟨a, b, xs, ys, rfl, rfl, s1, s2, by rw [a1.length, a2.length]; exact z, fun e => ?_, fun _ e => ?_, fun _ _ p hp => ?_⟩
  · subst e
    cases a1
    exact q _ _ (.refl _) (.tup s2 a2)
  · subst e
    cases a2
    rw [List.append_nil] at q
    exact q _ _ (.refl _) (.tup s1 a1)
  · exact q _ _ (same_new hp) (.tup (SqT.of upd_same) (RpA.app (same_rpa (same_new hp) a1) (same_rpa (same_new hp) a2)))
theorem rpa_take' {xs : List V} {ts : List TD} : ∀ (n : Nat), RpA K H xs ts → RpA K H (xs.take n) (ts.take n) := by
  intro n r
  induction n generalizing xs ts with
  | zero => exact .nil
  | succ n ih =>
    cases r with
    | nil => exact .nil
    | cons a b => exact .cons a (ih b)
theorem rpa_drop' {xs : List V} {ts : List TD} : ∀ (n : Nat), RpA K H xs ts → RpA K H (xs.drop n) (ts.drop n) := by
  intro n r
  induction n generalizing xs ts with
  | zero => exact r
  | succ n ih =>
    cases r with
    | nil => exact .nil
    | cons a b => exact ih b
theorem rp_cut {v : V} {ts : List TD} {lo hi : Option Int} (r : Rp K H v (.tup ts)) (q : ∀ w H' us, Same H H' → Rp K H' w (.tup us) → (∀ x ∈ us, x ∈ ts) → us.length ≤ ts.length → Q w H') : rSlA K v lo hi H Q := by
  obtain ⟨a, xs, rfl, s1, a1⟩ := r.seq
  refine ⟨a, xs, rfl, s1, fun _ => q _ _ ts (.refl _) (.tup s1 a1) (fun _ h => h) (Nat.le_refl _), fun _ p hp => ?_⟩
  refine q _ _ ((ts.drop (HT.sIx xs.length 0 lo)).take (HT.sIx xs.length xs.length hi - HT.sIx xs.length 0 lo)) (same_new hp) (.tup (SqT.of upd_same) (same_rpa (same_new hp) (rpa_take' _ (rpa_drop' _ a1)))) (fun x hx => List.mem_of_mem_drop (List.mem_of_mem_take hx)) ?_
  rw [List.length_take, List.length_drop]
  exact Nat.le_trans (Nat.min_le_right _ _) (Nat.sub_le _ _)
end
section
variable {K : PySem.W.Frag} {H : Hp} {Q : VK}
theorem rp_tail {v : V} {ts : List TD} (r : Rp K H v (.tup ts)) (q : ∀ w H', Same H H' → Rp K H' w (.tup (ts.drop 1)) → Q w H') : rSlA K v (some 1) none H Q := by
  obtain ⟨a, xs, rfl, s1, a1⟩ := r.seq
  have e1 : HT.sIx xs.length 0 (some 1) = min 1 xs.length := HT.sIx_nat xs.length 0 1
  refine ⟨a, xs, rfl, s1, fun h => ?_, fun _ p hp => ?_⟩
  · have h0 : xs = [] := by
      cases xs with
      | nil => rfl
      | cons x r => have := h.1; rw [e1] at this; simp at this
    subst h0
    cases a1
    exact q _ _ (.refl _) (.tup s1 .nil)
  · have ec : cutV xs (some 1) none = xs.drop 1 := by
      rcases Nat.eq_zero_or_pos xs.length with e | e
      · have := List.length_eq_zero_iff.mp e
        subst this
        rfl
      · exact cut_from e
    refine q _ _ (same_new hp) (.tup (SqT.of upd_same) ?_)
    rw [ec]
    exact same_rpa (same_new hp) (rpa_drop' 1 a1)
theorem hu65 {A : Around} {k : Nat} (hr : Room k A) : A.units + 65 < cLine := by have := hr.un; omega
theorem k_notInD {X : Cx} (K : PySem.W.Frag) (h : X.K = K) (hu : X.A.units + 65 < cLine) : OpR X (compareOp .NotIn) (rNotInD K) := by subst h; exact op_notInD hu
end
/-- a list of data that are all of a list of terms -/
theorem pre_map {α : Type} {f : α → TD} {l : List α} : ∀ {us : List TD}, (∀ x ∈ us, x ∈ l.map f) → ∃ m : List α, us = m.map f ∧ ∀ x ∈ m, x ∈ l
  | [], _ => ⟨[], rfl, fun _ h => (nomatch h)⟩
  | u :: r, h => by
    obtain ⟨x, hx, e⟩ := List.mem_map.mp (h u List.mem_cons_self)
    obtain ⟨m, e2, h2⟩ := pre_map (f := f) (l := l) (us := r) fun y hy => h y (List.mem_cons_of_mem _ hy)
    refine ⟨x :: m, by rw [List.map_cons, e, e2], fun y hy => ?_⟩
    rcases List.mem_cons.mp hy with q | q
    · rw [q]; exact hx
    · exact h2 y q

end
section
variable {P : Program} {w : World} {K : PySem.W.Frag} {mg : Str → Option Value} {base : Heap}
/-! strings that are no words -/
theorem bad_word {u : Str} {c : Nat} (h : c ∈ sg u) (n : c ∉ sg abc) : wordB u = false := by
  unfold wordB
  have : ((sg u).all fun c => decide (c ∈ sg abc)) = false := by
    rw [List.all_eq_false]
    exact ⟨c, h, by rw [decide_eq_false n]; exact Bool.false_ne_true⟩
  rw [this]; rfl
def marks : List Str := [" ", "A", "Z", "0", "9", "_", "-", "\"", "~", "(", "`", "{", "\n"]
theorem marks_ok : ∀ m ∈ marks, m.length = 1 ∧ ((sg m).any fun c => decide (c ∉ sg abc)) = true := by decide +kernel
def spStrange : Sp := fun vs H Q _ => ∃ (d : Addr) (z : Str), vs = [.ref d, .str z] ∧ DrAt d H ∧ z.length ≤ 30 ∧ ∀ (u : Str) (H' : Hp), Dr d H H' → wordB u = false → u.length ≤ 70 → Q (.str u) H'
theorem ok_strange (T : Tx mg)  {f f1 f2 : Addr} {fd d1 d2 : FuncData} (F : Dn K mg "_law_strange" sLStrange ["draws", "word"] f fd)
    (DLTake : Dn K mg "_law_take" sLTake ["draws", "many"] f1 d1) (GLTake : FnOk P w K mg base CX0 1 f1 d1 ["draws", "many"] spTake)
    (DLPick : Dn K mg "_law_pick" sLPick ["draws", "row"] f2 d2) (GLPick : FnOk P w K mg base CX0 2 f2 d2 ["draws", "row"] (spPick K)) :
    FnOk P w K mg base CX0 3 f fd ["draws", "word"] spStrange := by
  refine F.F.ok scLStrange (fun vs H Q E h => ?_) (fun cdv A outer s H vs Q E hr h => ?_)
  · obtain ⟨d, z, rfl, _⟩ := h
    rfl
  obtain ⟨d, z, rfl, hd, hz, q⟩ := h
  have nd := scLStrange.nd
  refine ⟨_, (pss_cons (ps_set (i := 2) nd rfl (Or.inl rfl) (pe_call GLPick (hr.mono (by omega)) rfl DLPick.m DLPick.F.kp DLPick.b .nil pass0 (pa_cons (pv 0) (pa_cons (pe_lst (pa_cons pe_str (pa_cons pe_str (pa_cons pe_str (pa_cons pe_str (pa_cons pe_str (pa_cons pe_str (pa_cons pe_str (pa_cons pe_str (pa_cons pe_str (pa_cons pe_str (pa_cons pe_str (pa_cons pe_str (pa_cons pe_str pa_nil)))))))))))))) pa_nil))))
  (pss_cons (ps_set (i := 3) nd rfl (Or.inl rfl) (pe_call GLTake (hr.mono (by omega)) rfl DLTake.m DLTake.F.kp DLTake.b .nil pass0 (pa_cons (pv 0) (pa_cons (pe_op op_add (pe_callB c_lenX rfl T.m_len PySem.boot_len (pa_cons (pv 1) pa_nil)) pe_int) pa_nil))))
  (pss_one (ps_ret (pe_call GLPick (hr.mono (by omega)) rfl DLPick.m DLPick.F.kp DLPick.b .nil pass0 (pa_cons (pv 0) (pa_cons (pe_lst (pa_cons pe_str (pa_cons (pv 2) (pa_cons (pe_op op_catX (pe_op op_catX (pe_slice sl_str (pv 1) po_none (po_some (pv 3))) (pv 2)) (pe_slice sl_str (pv 1) (po_some (pv 3)) po_none)) (pa_cons (pe_op op_catX (pv 1) (pv 2)) (pa_cons (pe_op op_catX (pv 2) (pv 1)) pa_nil)))))) pa_nil))))))), ?_⟩
  walk_at "rd"
  refine rd_mk (len_ok rfl) fun p H1 n1 e1 s1 => ?_
  walk_at "rd"
  have g0 := Dr.refl hd
  have g1 := g0.same s1
  refine ⟨d, p, _, rfl, g1.isD, e1, g0.ne_new n1, fun e => (nomatch e), fun v H2 g2 mv => ?_⟩
  obtain ⟨m, rfl, mm⟩ := strs_mem (ws := marks) mv
  obtain ⟨m1, hm⟩ := marks_ok m mm
  obtain ⟨c, mc, nc⟩ := List.any_eq_true.mp hm
  have nc := of_decide_eq_true nc
  have g12 := g1.trans g2
  walk_at "rd"
  refine rd_lenX (Nat.le_trans hz (by decide)) ?_
  walk_at "rd"
  refine take_step (by omega) g2.isD fun at_ H3 a0 a1 g3 => ?_
  walk_at "rd"
  have g13 := g12.trans g3
  have l1 := cutS_length z none (some at_)
  have l2 := cutS_length z (some at_) none
  refine rd_slX (Nat.le_trans hz (by decide)) ?_
  walk_at "rd"
  refine rd_catX (Nat.le_trans (m := 100) (by omega) (by decide)) ?_
  walk_at "rd"
  refine rd_slX (Nat.le_trans hz (by decide)) ?_
  refine rd_catX (Nat.le_trans (m := 100) (by rw [len_app]; omega) (by decide)) ?_
  walk_at "rd"
  refine rd_catX (Nat.le_trans (m := 100) (by omega) (by decide)) ?_
  walk_at "rd"
  refine rd_catX (Nat.le_trans (m := 100) (by omega) (by decide)) ?_
  walk_at "rd"
  refine rd_mk (len_ok rfl) fun p2 H4 n4 e4 s4 => ?_
  walk_at "rd"
  have g4 := g13.same s4
  refine ⟨d, p2, _, rfl, g4.isD, e4, g13.ne_new n4, fun e => (nomatch e), fun v H5 g5 mv => ?_⟩
  have fin : ∀ u : Str, v = .str u → wordB u = false → u.length ≤ 70 → Q v H5 := fun u e b l => by
    rw [e]; exact q u _ (g4.trans g5) b l
  simp only [List.mem_cons, List.not_mem_nil, or_false] at mv
  rcases mv with e | e | e | e | e
  · exact fin _ e (by decide +kernel) (by decide +kernel)
  · exact fin _ e (bad_word mc nc) (by omega)
  · exact fin _ e (bad_word (c := c) (by rw [sg_app, sg_app]; exact List.mem_append_left _ (List.mem_append_right _ mc)) nc) (by rw [len_app, len_app]; omega)
  · exact fin _ e (bad_word (c := c) (by rw [sg_app]; exact List.mem_append_right _ mc) nc) (by rw [len_app]; omega)
  · exact fin _ e (bad_word (c := c) (by rw [sg_app]; exact List.mem_append_left _ mc) nc) (by rw [len_app]; omega)

end
section
variable {P : Program} {w : World} {K : PySem.W.Frag} {mg : Str → Option Value} {base : Heap}
def spPutIn (K : PySem.W.Frag) : Sp := fun vs H Q _ => ∃ (d : Addr) (v u : V) (ts : List TD) (t : TD), vs = [.ref d, v, u] ∧ DrAt d H ∧ Rp K H v (.tup ts) ∧ Rp K H u t ∧ ts.length ≤ 10 ∧
  ∀ (r : V) (us : List TD) (H' : Hp), Dr d H H' → Rp K H' r (.tup us) → t ∈ us → (∀ x ∈ us, x = t ∨ x ∈ ts) → us.length ≤ ts.length + ts.length + 1 → Q r H'
theorem ok_putIn (T : Tx mg)  {f f1 : Addr} {fd d1 : FuncData} (F : Dn K mg "_law_put_in" sLPutIn ["draws", "row", "thing"] f fd)
    (DLTake : Dn K mg "_law_take" sLTake ["draws", "many"] f1 d1) (GLTake : FnOk P w K mg base CX0 1 f1 d1 ["draws", "many"] spTake) :
    FnOk P w K mg base CX0 2 f fd ["draws", "row", "thing"] (spPutIn K) := by
  refine F.F.ok scLPutIn (fun vs H Q E h => ?_) (fun cdv A outer s H vs Q E hr h => ?_)
  · obtain ⟨d, v, u, ts, t, rfl, _⟩ := h
    rfl
  obtain ⟨d, v, u, ts, t, rfl, hd, rv, ru, l10, q⟩ := h
  have nd := scLPutIn.nd
  refine ⟨_, (pss_cons (ps_set (i := 3) nd rfl (Or.inl rfl) (pe_call GLTake (hr.mono (by omega)) rfl DLTake.m DLTake.F.kp DLTake.b .nil pass0 (pa_cons (pv 0) (pa_cons (pe_op op_add (pe_callB (k_len K rfl) rfl T.m_len PySem.boot_len (pa_cons (pv 1) pa_nil)) pe_int) pa_nil))))
  (pss_one (ps_ret (pe_op (k_catA K rfl) (pe_op (k_catA K rfl) (pe_slice (k_slA K rfl) (pv 1) po_none (po_some (pv 3))) (pe_tup (pa_cons (pv 2) pa_nil))) (pe_slice (k_slA K rfl) (pv 1) (po_some (pe_op op_add (pv 3) pe_int)) po_none))))), ?_⟩
  obtain ⟨a, xs, rfl, sq, ra⟩ := rv.seq
  have lx : xs.length = ts.length := ra.length
  walk_at "rd"
  refine rd_lenT sq ?_
  walk_at "rd"
  refine take_step (by omega) hd fun at_ H3 a0 a1 g3 => ?_
  walk_at "rd"
  have rv3 := g3.rp rv
  refine rp_cut rv3 fun w1 H4 us1 s4 r1 m1 l1 => ?_
  walk_at "rd"
  refine rd_mk (len_ok rfl) fun tq H5 n5 e5 s5 => ?_
  have rq : Rp K H5 (.ref tq) (.tup [t]) := .tup (SqT.of e5) (.cons (same_rp (s4.trans s5) (g3.rp ru)) .nil)
  refine rp_cat (same_rp s5 r1) rq (Nat.le_trans (m := 100) (by show us1.length + 1 ≤ 100; omega) (by decide)) fun w2 H6 s6 r2 => ?_
  walk_at "rd"
  refine rp_cut (same_rp (s4.trans (s5.trans s6)) rv3) fun w3 H7 us3 s7 r3 m3 l3 => ?_
  refine rp_cat (same_rp s7 r2) r3 (Nat.le_trans (m := 100) (by rw [List.length_append]; show us1.length + 1 + us3.length ≤ 100; omega) (by decide)) fun w4 H8 s8 r4 => ?_
  refine q _ _ _ ((((g3.same s4).same s5).same s6).same (s7.trans s8)) r4 ?_ ?_ ?_
  · exact List.mem_append_left _ (List.mem_append_right _ List.mem_cons_self)
  · intro x hx
    rcases List.mem_append.mp hx with h | h
    · rcases List.mem_append.mp h with h | h
      · exact .inr (m1 x h)
      · exact .inl (List.mem_singleton.mp h)
    · exact .inr (m3 x h)
  · rw [List.length_append, List.length_append]
    show us1.length + 1 + us3.length ≤ _
    omega

end
section
variable {P : Program} {w : World} {K : PySem.W.Frag} {mg : Str → Option Value} {base : Heap}
/-- the variables that stand in a body -/
def InB (PI : NWp) (bd : List TD) (t : TD) : Prop := varT PI t ∧ ∃ z ts, TD.tup [.str z, .tup ts] ∈ bd ∧ t ∈ ts
def headT (PI : NWp) (bd : List TD) (t : TD) : Prop := (∃ u, t = .tup [.str "value", u] ∧ valT PI u) ∨ InB PI bd t
def joinT (PI : NWp) (width atoms most : Nat) (t : TD) : Prop := ∃ hd bd, t = .tup [.tup hd, .tup bd] ∧ hd.length = width ∧ bd.length ≤ atoms ∧ (∀ x ∈ bd, atomT PI most x) ∧ ∀ x ∈ hd, headT PI bd x
/-- a term, by its first item -/
theorem term_tag {PI : NWp} {t : TD} (h : termT PI t) : ∃ z x, t = .tup [.str z, x] ∧ (z = "value" ∧ valT PI x ∨ z = "var" ∧ varT PI t) := by
  rcases h with ⟨u, rfl, hu⟩ | ⟨z, rfl, hz⟩
  · exact ⟨_, u, rfl, .inl ⟨rfl, hu⟩⟩
  · exact ⟨_, _, rfl, .inr ⟨rfl, z, rfl, hz⟩⟩
def spJoin (PI : NWp) (K : PySem.W.Frag) : Sp := fun vs H Q _ => ∃ (d a L : Addr) (width atoms most : Nat) (ns : List Int) (ws : List Str), vs = [.ref d, .ref a, .ref L, .int width, .int atoms, .int most] ∧ DrAt d H ∧ Sc K H d a ns ∧ ns.length ≤ 63 ∧ Hyp PI ns ws ∧ Wl d L ws H ∧ 4 ≤ ws.length ∧ width ≤ 8 ∧ atoms ≤ 8 ∧ most ≤ 8 ∧
  ∀ (v : V) (t : TD) (H' : Hp), Dr d H H' → Rp K H' v t → joinT PI width atoms most t → Q v H'
set_option maxHeartbeats 4000000 in
theorem ok_join {PI : NWp} (T : Tx mg) {f f1 f2 f3 f4 : Addr} {fd d1 d2 d3 d4 : FuncData} (F : Dn K mg "_law_any_join" sLAnyJoin ["draws", "script", "words", "width", "atoms", "most"] f fd) (DLTake : Dn K mg "_law_take" sLTake ["draws", "many"] f1 d1) (GLTake : FnOk P w K mg base CX0 1 f1 d1 ["draws", "many"] spTake)
    (DLPick : Dn K mg "_law_pick" sLPick ["draws", "row"] f2 d2) (GLPick : FnOk P w K mg base CX0 2 f2 d2 ["draws", "row"] (spPick K)) (DLAnyValue : Dn K mg "_law_any_value" sLAnyValue ["draws", "script", "words"] f3 d3) (GLAnyValue : FnOk P w K mg base CX0 4 f3 d3 ["draws", "script", "words"] (spValue PI K))
    (DLAnyAtom : Dn K mg "_law_any_atom" sLAnyAtom ["draws", "script", "words", "most"] f4 d4) (GLAnyAtom : FnOk P w K mg base CX0 6 f4 d4 ["draws", "script", "words", "most"] (spAtom PI K)) :
    FnOk P w K mg base CX0 7 f fd ["draws", "script", "words", "width", "atoms", "most"] (spJoin PI K) := by
  refine F.F.ok scLAnyJoin (fun vs H Q E h => ?_) (fun cdv A outer s H vs Q E hr h => ?_)
  · obtain ⟨d, a, L, width, atoms, most, ns, ws, rfl, _⟩ := h
    rfl
  obtain ⟨d, a, L, width, atoms, most, ns, ws, rfl, hd, hS, h63, hP, wl, h4, hw8, ha8, hm8, q⟩ := h
  have nd := scLAnyJoin.nd
  refine ⟨_, (pss_cons (ps_setLc (i := 6) (own := [("k", (7 : Nat))]) (g := gName 7) rfl nd rfl rfl (sw_true rfl rfl rfl (by decide +kernel)) (pi_range1 rfl T.m_range (pa_cons (pe_call GLTake (hr.mono (by omega)) rfl DLTake.m DLTake.F.kp DLTake.b .nil pass0 (pa_cons (pv 0) (pa_cons (pe_op op_add (pv 4) pe_int) pa_nil))) pa_nil)) (blkOk_by (own := [("k", (7 : Nat))]) (N := nLAnyJoin) (sc := defScope sLAnyJoin) (by decide +kernel)) (fun _ _ _ _ _ => pg_name (i := 7) nd rfl (Or.inl rfl)) (fun _ _ _ _ _ => pts_nil) (fun _ _ _ _ _ => (pe_call GLAnyAtom (hr.mono (by omega)) rfl DLAnyAtom.m DLAnyAtom.F.kp DLAnyAtom.b .nil pass0 (pa_cons (pv 0) (pa_cons (pv 1) (pa_cons (pv 2) (pa_cons (pv 5) pa_nil)))))))
  (C8.pss_cut (ps_if (PW.pt (pw_and (pt_cmpR op_gt (pe_callB (k_len K rfl) rfl T.m_len PySem.boot_len (pa_cons (pv 6) pa_nil)) pe_int (nomark _)) (pw_and1 (pt_cmpR op_eq (pe_call GLTake (hr.mono (by omega)) rfl DLTake.m DLTake.F.kp DLTake.b .nil pass0 (pa_cons (pv 0) (pa_cons pe_int pa_nil))) pe_int (nomark _))))) (pss_one (ps_asg (pe_call GLPick (hr.mono (by omega)) rfl DLPick.m DLPick.F.kp DLPick.b .nil pass0 (pa_cons (pv 0) (pa_cons (pv 6) pa_nil))) (pg_sub (pv 6) (pe_call GLTake (hr.mono (by omega)) rfl DLTake.m DLTake.F.kp DLTake.b .nil pass0 (pa_cons (pv 0) (pa_cons (pe_callB (k_len K rfl) rfl T.m_len PySem.boot_len (pa_cons (pv 6) pa_nil)) pa_nil))) set_list))) pss_nil)
  (pss_cons (ps_set (i := 8) nd rfl (Or.inl rfl) (pe_lst pa_nil))
  (pss_cons (ps_for PassesOwn.never rfl (k_pil K rfl (pv 6)) (pg_name (i := 9) nd rfl (Or.inl rfl)) (pss_one (ps_set (i := 8) nd rfl (Or.inl rfl) (pe_op op_cat (pv 8) (pe_lc (own := [("term", (10 : Nat))]) (g := gName 10) rfl nd (k_pit K rfl (pe_ix (k_ixT K rfl) (pv 9) pe_int (fun _ _ => rfl))) (blkOk_by (own := [("term", (10 : Nat))]) (N := nLAnyJoin) (sc := defScope sLAnyJoin) (by decide +kernel)) (fun _ _ _ _ _ => pg_name (i := 10) nd rfl (Or.inl rfl)) (fun _ _ _ _ _ => (pts_one (pt_cmpR op_eq (pe_ix (k_ixT K rfl) (pv 10) pe_int (fun _ _ => rfl)) pe_str (nomark _)))) (fun _ _ _ _ _ => (pv 10)))))))
  (pss_cons (ps_set (i := 11) nd rfl (Or.inl rfl) (pe_lst pa_nil))
  (pss_cons (ps_for PassesOwn.never rfl (pi_range1 rfl T.m_range (pa_cons (pv 3) pa_nil)) (pg_name (i := 7) nd rfl (Or.inl rfl)) (pss_cons (ps_expr (k_bm K rfl (pe_bm PySem.F.plainAttrs_list PySem.F.slot_list_append PySem.F.type_list_append mt_append (pv 11) (pa_cons (pe_tup (pa_cons pe_str (pa_cons (pe_call GLAnyValue (hr.mono (by omega)) rfl DLAnyValue.m DLAnyValue.F.kp DLAnyValue.b .nil pass0 (pa_cons (pv 0) (pa_cons (pv 1) (pa_cons (pv 2) pa_nil)))) pa_nil))) pa_nil))))
  (pss_one (ps_if (PW.pt (pw_and (pt_cmpR op_gt (pe_callB (k_len K rfl) rfl T.m_len PySem.boot_len (pa_cons (pv 8) pa_nil)) pe_int (nomark _)) (pw_and1 (pt_cmpR op_gt (pe_call GLTake (hr.mono (by omega)) rfl DLTake.m DLTake.F.kp DLTake.b .nil pass0 (pa_cons (pv 0) (pa_cons pe_int pa_nil))) pe_int (nomark _))))) (pss_one (ps_asg (pe_call GLPick (hr.mono (by omega)) rfl DLPick.m DLPick.F.kp DLPick.b .nil pass0 (pa_cons (pv 0) (pa_cons (pv 8) pa_nil))) (pg_sub (pv 11) (pv 7) set_list))) pss_nil))))
  (pss_one (ps_ret (pe_tup (pa_cons (pe_callTy (k_tuple K rfl) rfl T.m_tuple (by decide +kernel) (pa_cons (pv 11) pa_nil)) (pa_cons (pe_callTy (k_tuple K rfl) rfl T.m_tuple (by decide +kernel) (pa_cons (pv 6) pa_nil)) pa_nil))))))))))), ?_⟩
  have ne : ws ≠ [] := fun e => by rw [e] at h4; cases h4
  walk_at "rd"
  refine take_step (by omega) hd fun m H1 m0 m1 g1 => ?_
  walk_at "rd"
  obtain ⟨mn, rfl⟩ : ∃ mn : Nat, m = (mn : Int) := ⟨m.toNat, by omega⟩
  refine rd_r1 ⟨by omega, by omega⟩ fun R hR => ?_
  rw [show ((mn : Int)).toNat = mn by omega]
  have nR : R ≠ d := g1.ne_new hR
  have fR : H R = none := g1.fresh hR
  refine lc_range (lo := 0) (n := mn) (fun i H' => ∃ (xs : List V) (bd : List TD), bd.length = i ∧ RpA K H' xs bd ∧ (∀ t ∈ bd, atomT PI most t) ∧ H' R = some (.lst xs) ∧ Dr d H H') ⟨[], [], rfl, .nil, fun _ h => (nomatch h), upd_same, g1.own fR⟩ ?_ ?_
  · rintro i H2 hi ⟨xs, bd, hl, ra, ht, e2, g2⟩
    refine ⟨rfl, ?_⟩
    walk_at "rd"
    refine ⟨d, a, L, most, ns, ws, rfl, g2.isD, hS.dr g2, h63, hP, wl.dr g2, h4, hm8, fun v t H3 g3 rv tv => ?_⟩
    have lx : xs.length = bd.length := ra.length
    have e3 := g3.kp _ _ nR e2
    refine ⟨_, e3, small1000 (by omega), ⟨xs ++ [v], bd ++ [t], by rw [List.length_append, hl]; rfl, RpA.app (rpa_put e3 (g3.rpa ra)) (.cons (rp_put e3 rv) .nil), ?_, upd_same, (g2.trans g3).own fR⟩⟩
    intro x hx
    rcases List.mem_append.mp hx with h | h
    · exact ht x h
    · rw [List.mem_singleton.mp h]; exact tv
  rintro H2 ⟨xs0, bd0, hl0, ra0, ht0, e2, g2⟩
  walk_at "rd"
  refine ⟨fun σ' H' => ∃ (xs : List V) (bd : List TD), σ' = [some (.ref d), some (.ref a), some (.ref L), some (.int width), some (.int atoms), some (.int most), some (.ref R), none, none, none, none, none] ∧ bd.length ≤ atoms ∧ RpA K H' xs bd ∧ (∀ t ∈ bd, atomT PI most t) ∧ H' R = some (.lst xs) ∧ Dr d H H', ?_, ?_⟩
  · have lx0 : xs0.length = bd0.length := ra0.length
    walk_at "rd"
    refine rd_len (SqL.of e2) ?_
    walk_at "rd"
    refine iteD (fun c => ?_) (fun c => ?_)
    · walk_at "rd"
      refine take_step (by decide) g2.isD fun r H3 r0 r1 g3 => ?_
      walk_at "rd"
      refine iteD (fun c2 => ?_) (fun c2 => ?_)
      · walk_at "rd"
        refine ⟨d, R, xs0, rfl, g3.isD, g3.kp _ _ nR e2, nR, fun e => by rw [e] at c; exact absurd c (by decide), fun v H4 g4 mv => ?_⟩
        walk_at "rd"
        have e4 := g4.kp _ _ nR (g3.kp _ _ nR e2)
        have ra4 := g4.rpa (g3.rpa ra0)
        obtain ⟨t, mt, rv⟩ := rpa_mem ra4 mv
        refine rd_len (SqL.of e4) ?_
        walk_at "rd"
        refine take_step (by omega) g4.isD fun k H5 k0 k1 g5 => ?_
        obtain ⟨kn, rfl⟩ : ∃ kn : Nat, k = (kn : Int) := ⟨k.toNat, by omega⟩
        have e5 := g5.kp _ _ nR e4
        refine rd_setL e5 (by omega) (by omega) ?_
        rw [show ((kn : Int)).toNat = kn by omega]
        walk_at "rd"
        refine ⟨xs0.set kn v, bd0.set kn t, rfl, by rw [List.length_set]; omega, rpa_put e5 (rpa_set kn (g5.rpa ra4) (g5.rp rv)), ?_, upd_same, (g2.trans (g3.trans (g4.trans g5))).own fR⟩
        intro y hy
        rcases List.mem_or_eq_of_mem_set hy with e | e
        · exact ht0 y e
        · rw [e]; exact ht0 t mt
      · walk_at "rd"
        exact ⟨xs0, bd0, rfl, by omega, g3.rpa ra0, ht0, g3.kp _ _ nR e2, g2.trans g3⟩
    · walk_at "rd"
      exact ⟨xs0, bd0, rfl, by omega, ra0, ht0, e2, g2⟩
  rintro σ' H3 ⟨xs, bd, rfl, hl, ra, ht, e3, g3⟩
  have lx : xs.length = bd.length := ra.length
  walk_at "rd"
  refine rd_mk (len_ok rfl) fun K0 H4 nK eK sK => ?_
  walk_at "rd"
  have fK := g3.fresh nK
  refine rd_il (SqL.of (sK _ _ e3)) ?_
  refine for_list (K := K) (a := R) (xs := xs) (fun i σ' H' => ∃ (v9 : Option V) (Kn : Addr) (ks : List V) (kt : List TD), σ' = [some (.ref d), some (.ref a), some (.ref L), some (.int width), some (.int atoms), some (.int most), some (.ref R), none, some (.ref Kn), v9, none, none] ∧
    Same H3 H' ∧ H' Kn = some (.lst ks) ∧ RpA K H' ks kt ∧ kt.length ≤ i * 8 ∧ (∀ t ∈ kt, InB PI bd t) ∧ H3 Kn = none) ⟨none, K0, [], [], rfl, sK, eK, .nil, Nat.zero_le _, fun _ h => (nomatch h), nK⟩ (fun i σ' H' _ p => by obtain ⟨_, _, _, _, _, sm, _⟩ := p; exact SqL.of (sm _ _ e3)) ?_ ?_
  · rintro i x σ' H5 hx ⟨v9, Kn, ks, kt, rfl, sm5, eKn, rk, lk, hk, fKn⟩
    obtain ⟨t, et, rt⟩ := rpa_at ra hx
    have mt := List.mem_of_getElem? et
    obtain ⟨z, ts, rfl, zo, lts, hts⟩ := ht t mt
    obtain ⟨ad, u, rfl, sq, ru⟩ := rt.pr
    obtain ⟨at_, ys, rfl, sqy, ry⟩ := ru.seq
    have ly : ys.length = ts.length := ry.length
    have li : i < 8 := by have := (List.getElem?_eq_some_iff.mp hx).1; omega
    walk_at "rd"
    refine rd_ixT (same_sqt sm5 sq) rfl ?_
    walk_at "rd"
    refine rd_it (same_sqt sm5 sqy) fun D hD => ?_
    refine lc_tup (K := K) (a := at_) (xs := ys) (fun j H' => ∃ (zs : List V) (zt : List TD), H' D = some (.lst zs) ∧ RpA K H' zs zt ∧ zt.length ≤ j ∧ (∀ t ∈ zt, InB PI bd t) ∧ Same H5 H') ⟨[], [], upd_same, .nil, Nat.zero_le _, fun _ h => (nomatch h), same_new hD⟩ (fun j H' _ p => by obtain ⟨_, _, _, _, _, _, sm⟩ := p; exact same_sqt (sm5.trans sm) sqy) ?_ ?_
    · rintro j y H6 hy ⟨zs, zt, eD, rz, lz, hz, sm6⟩
      refine ⟨rfl, ?_⟩
      obtain ⟨tt, ett, rtt⟩ := rpa_at ry hy
      have mtt := List.mem_of_getElem? ett
      obtain ⟨tag, x2, rfl, htag⟩ := term_tag (hts tt mtt)
      obtain ⟨ad2, u2, rfl, sq2, _⟩ := rtt.pr
      have rtt6 := same_rp (sm5.trans sm6) rtt
      walk_at "rd"
      refine rd_ixT (same_sqt (sm5.trans sm6) sq2) rfl ?_
      walk_at "rd"
      have lzz : zs.length = zt.length := rz.length
      have lj : j < 8 := by have := (List.getElem?_eq_some_iff.mp hy).1; omega
      refine iteD (fun c => ?_) (fun c => ?_)
      · walk_at "rd"
        refine ⟨_, eD, small1000 (by omega), ⟨zs ++ [.ref ad2], zt ++ [.tup [.str tag, x2]], upd_same, RpA.app (rpa_put eD rz) (.cons (rp_put eD rtt6) .nil), by rw [List.length_append]; show zt.length + 1 ≤ j + 1; omega, ?_, same_own sm6 hD⟩⟩
        intro y hy
        rcases List.mem_append.mp hy with h | h
        · exact hz y h
        · rw [List.mem_singleton.mp h]
          rcases htag with ⟨e, _⟩ | ⟨_, vt⟩
          · rw [e] at c; exact absurd c (by decide +kernel)
          · exact ⟨vt, z, ts, mt, mtt⟩
      · exact ⟨zs, zt, eD, rz, by omega, hz, sm6⟩
    · rintro H6 ⟨zs, zt, eD, rz, lz, hz, sm6⟩
      walk_at "rd"
      have lzz : zs.length = zt.length := rz.length
      have lkk : ks.length = kt.length := rk.length
      refine rd_cat (sm6 _ _ eKn) eD (Nat.le_trans (m := 100) (by omega) (by decide)) fun L2 H7 n7 e7 s7 => ?_
      walk_at "rd"
      have g7 := (sm5.trans sm6).trans s7
      refine ⟨_, L2, ks ++ zs, kt ++ zt, rfl, g7, e7, RpA.app (same_rpa (sm6.trans s7) rk) (same_rpa s7 rz), by rw [List.length_append]; omega, ?_, ?_⟩
      · intro y hy
        rcases List.mem_append.mp hy with h | h
        · exact hk y h
        · exact hz y h
      · exact (sm5.trans sm6).free n7
  rintro σ' H5 ⟨v9, Kn, ks, kt, rfl, sm5, eKn, rk, lk, hk, fKn⟩
  walk_at "rd"
  have lkk : ks.length = kt.length := rk.length
  have g5 := g3.same sm5
  refine rd_mk (len_ok rfl) fun Hd H6 nH eH sH => ?_
  walk_at "rd"
  have nHd : Hd ≠ d := g5.ne_new nH
  have fHd : H Hd = none := g5.fresh nH
  have nKd : Kn ≠ d := g3.ne_new fKn
  have nKH : Kn ≠ Hd := fun e => by rw [← e, eKn] at nH; cases nH
  have nRH : R ≠ Hd := fun e => by rw [← e, sm5 _ _ e3] at nH; cases nH
  refine rd_r1 ⟨by omega, by omega⟩ ?_
  rw [show ((width : Int)).toNat = width by omega]
  refine for_range (lo := 0) (n := width) (fun i σ' H' => ∃ (v7 : Option V) (hs : List V) (ht' : List TD), σ' = [some (.ref d), some (.ref a), some (.ref L), some (.int width), some (.int atoms), some (.int most), some (.ref R), v7, some (.ref Kn), v9, none, some (.ref Hd)] ∧
    Dr d H H' ∧ H' Hd = some (.lst hs) ∧ RpA K H' hs ht' ∧ ht'.length = i ∧ (∀ t ∈ ht', headT PI bd t) ∧ H' Kn = some (.lst ks) ∧ RpA K H' ks kt ∧ H' R = some (.lst xs) ∧ RpA K H' xs bd) ⟨none, [], [], rfl, g5.same sH, eH, .nil, rfl, fun _ h => (nomatch h), sH _ _ eKn, same_rpa sH rk, sH _ _ (sm5 _ _ e3), same_rpa sH (same_rpa sm5 ra)⟩ ?_ ?_
  · rintro i σ' H7 hi ⟨v7, hs, ht', rfl, g7, e7, rh, lh, hh, k7, rk7, r7, ra7⟩
    have lhh : hs.length = ht'.length := rh.length
    walk_at "rd"
    rw [Int.zero_add]
    refine rd_ty (SqL.of e7) ?_
    walk_at "rd"
    refine ⟨d, a, L, ns, ws, rfl, g7.isD, hS.dr g7, h63, hP, wl.dr g7, ne, fun v t H8 g8 rv tv => ?_⟩
    walk_at "rd"
    refine rd_mk (len_ok rfl) fun tp H9 n9 e9 s9 => ?_
    walk_at "rd"
    have g9 := g8.same s9
    have e9' := g9.kp _ _ nHd e7
    refine rd_append e9' (small1000 (by omega)) ?_
    walk_at "rd"
    have rnew : Rp K H9 (.ref tp) (.tup [.str "value", t]) := rp_pair (SqT.of e9) (same_rp s9 rv)
    have gA : Dr d H (upd H9 Hd (.lst (hs ++ [.ref tp]))) := (g7.trans g9).own fHd
    have kA : upd H9 Hd (.lst (hs ++ [.ref tp])) Kn = some (.lst ks) := by rw [upd_ne nKH]; exact g9.kp _ _ nKd k7
    have rA : upd H9 Hd (.lst (hs ++ [.ref tp])) R = some (.lst xs) := by rw [upd_ne nRH]; exact g9.kp _ _ nR r7
    have rkA := rpa_put (o := .lst (hs ++ [.ref tp])) e9' (g9.rpa rk7)
    have raA := rpa_put (o := .lst (hs ++ [.ref tp])) e9' (g9.rpa ra7)
    have rhA : RpA K (upd H9 Hd (.lst (hs ++ [.ref tp]))) (hs ++ [.ref tp]) (ht' ++ [TD.tup [.str "value", t]]) := RpA.app (rpa_put e9' (g9.rpa rh)) (.cons (rp_put e9' rnew) .nil)
    have hhA : ∀ x ∈ ht' ++ [TD.tup [.str "value", t]], headT PI bd x := by
      intro x hx
      rcases List.mem_append.mp hx with h | h
      · exact hh x h
      · rw [List.mem_singleton.mp h]; exact .inl ⟨t, rfl, tv⟩
    have lA : (ht' ++ [TD.tup [.str "value", t]]).length = i + 1 := by rw [List.length_append, lh]; rfl
    refine rd_len (SqL.of kA) ?_
    walk_at "rd"
    refine iteD (fun c => ?_) (fun c => ?_)
    · walk_at "rd"
      refine take_step (by decide) gA.isD fun r HB r0 r1 gB => ?_
      walk_at "rd"
      refine iteD (fun c2 => ?_) (fun c2 => ?_)
      · walk_at "rd"
        refine ⟨d, Kn, ks, rfl, gB.isD, gB.kp _ _ nKd kA, nKd, fun e => by rw [e] at c; exact absurd c (by decide), fun u HC gC mu => ?_⟩
        walk_at "rd"
        have gBC := gB.trans gC
        have eC := gBC.kp _ _ nHd upd_same
        obtain ⟨t2, mt2, ru⟩ := rpa_mem (gBC.rpa rkA) mu
        refine rd_setL eC (by omega) (by rw [List.length_append]; show (i : Int) < ((hs.length + 1 : Nat) : Int); omega) ?_
        rw [show ((i : Int)).toNat = i by omega]
        walk_at "rd"
        refine ⟨_, _, (ht' ++ [TD.tup [.str "value", t]]).set i t2, rfl, (gA.trans gBC).own fHd, upd_same, rpa_put eC (rpa_set i (gBC.rpa rhA) ru), by rw [List.length_set, lA], ?_, by rw [upd_ne nKH]; exact gBC.kp _ _ nKd kA, rpa_put eC (gBC.rpa rkA), by rw [upd_ne nRH]; exact gBC.kp _ _ nR rA, rpa_put eC (gBC.rpa raA)⟩
        intro y hy
        rcases List.mem_or_eq_of_mem_set hy with e | e
        · exact hhA y e
        · rw [e]; exact .inr (hk t2 mt2)
      · walk_at "rd"
        exact ⟨_, _, _, rfl, gA.trans gB, gB.kp _ _ nHd upd_same, gB.rpa rhA, lA, hhA, gB.kp _ _ nKd kA, gB.rpa rkA, gB.kp _ _ nR rA, gB.rpa raA⟩
    · walk_at "rd"
      exact ⟨_, _, _, rfl, gA, upd_same, rhA, lA, hhA, kA, rkA, rA, raA⟩
  · rintro σ' H7 ⟨v7, hs, ht', rfl, g7, e7, rh, lh, hh, k7, rk7, r7, ra7⟩
    walk_at "rd"
    refine rd_tuple (SqL.of e7) fun t1 h1 => ?_
    walk_at "rd"
    have s8 : Same H7 (upd H7 t1 (.tup hs)) := same_new h1
    refine rd_tuple (SqL.of (s8 _ _ r7)) fun t2 h2 => ?_
    walk_at "rd"
    have s9 : Same (upd H7 t1 (.tup hs)) (upd (upd H7 t1 (.tup hs)) t2 (.tup xs)) := same_new h2
    refine rd_mk (len_ok rfl) fun tq HA nA eA sA => ?_
    have r1 : Rp K HA (.ref t1) (.tup ht') := .tup (same_sqt (s9.trans sA) (SqT.of upd_same)) (same_rpa (s8.trans (s9.trans sA)) rh)
    have r2 : Rp K HA (.ref t2) (.tup bd) := .tup (same_sqt sA (SqT.of upd_same)) (same_rpa (s8.trans (s9.trans sA)) ra7)
    exact q _ _ _ (((g7.same s8).same s9).same sA) (.tup (SqT.of eA) (.cons r1 (.cons r2 .nil))) ⟨ht', bd, rfl, lh, hl, ht, hh⟩

end
section
variable {P : Program} {w : World} {K : PySem.W.Frag} {mg : Str → Option Value} {base : Heap}
/-- a valid question -/
def questT (PI : NWp) (t : TD) : Prop := ∃ (w : Nat) (js : List TD), t = .tup [.int w, .tup js] ∧ w ≤ 8 ∧ js.length ≤ 12 ∧ ∀ j ∈ js, joinT PI w 8 8 j
theorem join_up {PI : NWp} {w n m : Nat} {t : TD} (hn : n ≤ 8) (hm : m ≤ 8) (h : joinT PI w n m t) : joinT PI w 8 8 t := by
  obtain ⟨hd, bd, e, l1, l2, hb, hh⟩ := h
  refine ⟨hd, bd, e, l1, by omega, fun x hx => ?_, hh⟩
  obtain ⟨z, ts, e, zo, l3, ht⟩ := hb x hx
  exact ⟨z, ts, e, zo, by omega, ht⟩
def spQuest (PI : NWp) (K : PySem.W.Frag) : Sp := fun vs H Q _ => ∃ (d a L : Addr) (ns : List Int) (ws : List Str), vs = [.ref d, .ref a, .ref L] ∧ DrAt d H ∧ Sc K H d a ns ∧ ns.length ≤ 63 ∧ Hyp PI ns ws ∧ Wl d L ws H ∧ 4 ≤ ws.length ∧
  ∀ (v : V) (t : TD) (H' : Hp), Dr d H H' → Rp K H' v t → questT PI t → Q v H'
set_option maxHeartbeats 4000000 in
theorem ok_quest {PI : NWp} (T : Tx mg) {f f1 f2 f3 : Addr} {fd d1 d2 d3 : FuncData} (F : Dn K mg "_law_any_question" sLAnyQuestion ["draws", "script", "words"] f fd) (DLTake : Dn K mg "_law_take" sLTake ["draws", "many"] f1 d1) (GLTake : FnOk P w K mg base CX0 1 f1 d1 ["draws", "many"] spTake)
    (DLPick : Dn K mg "_law_pick" sLPick ["draws", "row"] f2 d2) (GLPick : FnOk P w K mg base CX0 2 f2 d2 ["draws", "row"] (spPick K)) (DLAnyJoin : Dn K mg "_law_any_join" sLAnyJoin ["draws", "script", "words", "width", "atoms", "most"] f3 d3) (GLAnyJoin : FnOk P w K mg base CX0 7 f3 d3 ["draws", "script", "words", "width", "atoms", "most"] (spJoin PI K)) :
    FnOk P w K mg base CX0 8 f fd ["draws", "script", "words"] (spQuest PI K) := by
  refine F.F.ok scLAnyQuestion (fun vs H Q E h => ?_) (fun cdv A outer s H vs Q E hr h => ?_)
  · obtain ⟨d, a, L, ns, ws, rfl, _⟩ := h
    rfl
  obtain ⟨d, a, L, ns, ws, rfl, hd, hS, h63, hP, wl, h4, q⟩ := h
  have nd := scLAnyQuestion.nd
  refine ⟨_, (pss_cons (ps_set (i := 3) nd rfl (Or.inr rfl) (pe_call GLPick (hr.mono (by omega)) rfl DLPick.m DLPick.F.kp DLPick.b .nil pass0 (pa_cons (pv 0) (pa_cons (pe_lst (pa_cons (pe_tup (pa_cons pe_int (pa_cons pe_int (pa_cons pe_int pa_nil)))) (pa_cons (pe_tup (pa_cons pe_int (pa_cons pe_int (pa_cons pe_int pa_nil)))) (pa_cons (pe_tup (pa_cons pe_int (pa_cons pe_int (pa_cons pe_int pa_nil)))) (pa_cons (pe_tup (pa_cons pe_int (pa_cons pe_int (pa_cons pe_int pa_nil)))) (pa_cons (pe_tup (pa_cons pe_int (pa_cons pe_int (pa_cons pe_int pa_nil)))) pa_nil)))))) pa_nil))))
  (pss_cons (ps_set (i := 4) nd rfl (Or.inr rfl) (pe_call GLPick (hr.mono (by omega)) rfl DLPick.m DLPick.F.kp DLPick.b .nil pass0 (pa_cons (pv 0) (pa_cons (pe_lst (pa_cons pe_int (pa_cons pe_int (pa_cons pe_int (pa_cons pe_int (pa_cons (pe_call GLTake (hr.mono (by omega)) rfl DLTake.m DLTake.F.kp DLTake.b .nil pass0 (pa_cons (pv 0) (pa_cons pe_int pa_nil))) pa_nil)))))) pa_nil))))
  (pss_cons (ps_set (i := 5) nd rfl (Or.inl rfl) (pe_op op_add pe_int (pe_call GLTake (hr.mono (by omega)) rfl DLTake.m DLTake.F.kp DLTake.b .nil pass0 (pa_cons (pv 0) (pa_cons (pe_ix (k_ixT K rfl) (pv 3) pe_int (fun _ _ => rfl)) pa_nil)))))
  (C8.pss_cut (ps_if (pt_cmpR op_eq (pe_call GLTake (hr.mono (by omega)) rfl DLTake.m DLTake.F.kp DLTake.b .nil pass0 (pa_cons (pv 0) (pa_cons pe_int pa_nil))) pe_int (nomark _)) (pss_one (ps_set (i := 5) nd rfl (Or.inl rfl) pe_int)) pss_nil)
  (pss_cons (ps_setLc (i := 6) (own := [("k", (7 : Nat))]) (g := gName 7) rfl nd rfl rfl (sw_true rfl rfl rfl (by decide +kernel)) (pi_range1 rfl T.m_range (pa_cons (pv 5) pa_nil)) (blkOk_by (own := [("k", (7 : Nat))]) (N := nLAnyQuestion) (sc := defScope sLAnyQuestion) (by decide +kernel)) (fun _ _ _ _ _ => pg_name (i := 7) nd rfl (Or.inl rfl)) (fun _ _ _ _ _ => pts_nil) (fun _ _ _ _ _ => (pe_call GLAnyJoin (hr.mono (by omega)) rfl DLAnyJoin.m DLAnyJoin.F.kp DLAnyJoin.b .nil pass0 (pa_cons (pv 0) (pa_cons (pv 1) (pa_cons (pv 2) (pa_cons (pv 4) (pa_cons (pe_ix (k_ixT K rfl) (pv 3) pe_int (fun _ _ => rfl)) (pa_cons (pe_ix (k_ixT K rfl) (pv 3) pe_int (fun _ _ => rfl)) pa_nil)))))))))
  (pss_one (ps_ret (pe_tup (pa_cons (pv 4) (pa_cons (pe_callTy (k_tuple K rfl) rfl T.m_tuple (by decide +kernel) (pa_cons (pv 6) pa_nil)) pa_nil)))))))))), ?_⟩
  walk_at "rd"
  refine rd_mk (len_ok rfl) fun p1 H1 n1 e1 s1 => ?_
  walk_at "rd"
  refine rd_mk (len_ok rfl) fun p2 H2 n2 e2 s2 => ?_
  walk_at "rd"
  refine rd_mk (len_ok rfl) fun p3 H3 n3 e3 s3 => ?_
  walk_at "rd"
  refine rd_mk (len_ok rfl) fun p4 H4 n4 e4 s4 => ?_
  walk_at "rd"
  refine rd_mk (len_ok rfl) fun p5 H5 n5 e5 s5 => ?_
  walk_at "rd"
  refine rd_mk (len_ok rfl) fun pl H6 n6 e6 s6 => ?_
  walk_at "rd"
  have s36 := s4.trans (s5.trans s6)
  have g5 : Dr d H H5 := (Dr.refl hd).same (s1.trans (s2.trans (s3.trans (s4.trans s5))))
  have g6 : Dr d H H6 := g5.same s6
  have shape : ∀ v, v ∈ [V.ref p1, .ref p2, .ref p3, .ref p4, .ref p5] → ∃ (p : Addr) (x y z : Nat), v = .ref p ∧ SqT K H6 p [.int x, .int y, .int z] ∧ 1 ≤ x ∧ x ≤ 12 ∧ y ≤ 8 ∧ z ≤ 8 := by
    intro v hv
    simp only [List.mem_cons, List.not_mem_nil, or_false] at hv
    rcases hv with rfl | rfl | rfl | rfl | rfl
    · exact ⟨p1, 3, 3, 3, rfl, SqT.of ((s2.trans (s3.trans s36)) _ _ e1), by decide, by decide, by decide, by decide⟩
    · exact ⟨p2, 4, 3, 2, rfl, SqT.of ((s3.trans s36) _ _ e2), by decide, by decide, by decide, by decide⟩
    · exact ⟨p3, 12, 2, 3, rfl, SqT.of (s36 _ _ e3), by decide, by decide, by decide, by decide⟩
    · exact ⟨p4, 2, 8, 3, rfl, SqT.of ((s5.trans s6) _ _ e4), by decide, by decide, by decide, by decide⟩
    · exact ⟨p5, 2, 3, 8, rfl, SqT.of (s6 _ _ e5), by decide, by decide, by decide, by decide⟩
  refine ⟨d, pl, _, rfl, g6.isD, e6, g5.ne_new n6, fun e => (nomatch e), fun v H7 g7 mv => ?_⟩
  obtain ⟨ps, x, y, z, rfl, sq, x1, x12, y8, z8⟩ := shape v mv
  have sq7 := g7.sqt sq
  walk_at "rd"
  refine take_step (by decide) g7.isD fun r9 H8 r90 r91 g8 => ?_
  walk_at "rd"
  refine rd_mk (len_ok rfl) fun wl_ H9 n9 e9 s9 => ?_
  walk_at "rd"
  have g69 := (g6.trans (g7.trans g8)).same s9
  refine ⟨d, wl_, _, rfl, g69.isD, e9, (g6.trans (g7.trans g8)).ne_new n9, fun e => (nomatch e), fun v HA gA mv => ?_⟩
  obtain ⟨wd, rfl, w8⟩ : ∃ wd : Nat, v = .int wd ∧ wd ≤ 8 := by
    simp only [List.mem_cons, List.not_mem_nil, or_false] at mv
    rcases mv with rfl | rfl | rfl | rfl | rfl
    · exact ⟨2, rfl, by decide⟩
    · exact ⟨1, rfl, by decide⟩
    · exact ⟨3, rfl, by decide⟩
    · exact ⟨0, rfl, by decide⟩
    · exact ⟨r9.toNat, by rw [show ((r9.toNat : Nat) : Int) = r9 by omega], by omega⟩
  have gHA := g69.trans gA
  have sqA := gA.sqt (same_sqt s9 (g8.sqt sq7))
  walk_at "rd"
  refine rd_ixT sqA rfl ?_
  walk_at "rd"
  refine take_step (by omega) gHA.isD fun mm HB m0 m1 gB => ?_
  walk_at "rd"
  have gHB := gHA.trans gB
  refine ⟨fun σ' H' => ∃ m : Nat, σ' = [some (.ref d), some (.ref a), some (.ref L), some (.ref ps), some (.int wd), some (.int m), none, none] ∧ m ≤ 12 ∧ Dr d H H' ∧ SqT K H' ps [.int x, .int y, .int z], ?_, ?_⟩
  · walk_at "rd"
    refine take_step (by decide) gHB.isD fun r HC r0 r1 gC => ?_
    walk_at "rd"
    refine iteD (fun c => ?_) (fun c => ?_)
    · walk_at "rd"
      exact ⟨0, rfl, by decide, gHB.trans gC, gC.sqt (gB.sqt sqA)⟩
    · walk_at "rd"
      exact ⟨(1 + mm).toNat, by rw [show (((1 + mm).toNat : Nat) : Int) = 1 + mm by omega]; rfl, by omega, gHB.trans gC, gC.sqt (gB.sqt sqA)⟩
  rintro σ' HC ⟨m, rfl, m12, gC, sqC⟩
  walk_at "rd"
  refine rd_r1 ⟨by omega, by omega⟩ fun R hR => ?_
  rw [show ((m : Int)).toNat = m by omega]
  have nR : R ≠ d := gC.ne_new hR
  have fR : H R = none := gC.fresh hR
  refine lc_range (lo := 0) (n := m) (fun i H' => ∃ (xs : List V) (js : List TD), js.length = i ∧ RpA K H' xs js ∧ (∀ t ∈ js, joinT PI wd 8 8 t) ∧ H' R = some (.lst xs) ∧ Dr d H H' ∧ SqT K H' ps [.int x, .int y, .int z]) ⟨[], [], rfl, .nil, fun _ h => (nomatch h), upd_same, gC.own fR, same_sqt (same_new hR) sqC⟩ ?_ ?_
  · rintro i HD hi ⟨xs, js, hl, ra, ht, eD, gD, sqD⟩
    refine ⟨rfl, ?_⟩
    have lx : xs.length = js.length := ra.length
    walk_at "rd"
    refine rd_ixT sqD rfl ?_
    walk_at "rd"
    refine rd_ixT sqD rfl ?_
    walk_at "rd"
    refine ⟨d, a, L, wd, y, z, ns, ws, rfl, gD.isD, hS.dr gD, h63, hP, wl.dr gD, h4, w8, y8, z8, fun v t HE gE rv tv => ?_⟩
    have eE := gE.kp _ _ nR eD
    refine ⟨_, eE, small1000 (by omega), ⟨xs ++ [v], js ++ [t], by rw [List.length_append, hl]; rfl, RpA.app (rpa_put eE (gE.rpa ra)) (.cons (rp_put eE rv) .nil), ?_, upd_same, (gD.trans gE).own fR, sqt_put eE (gE.sqt sqD)⟩⟩
    intro x hx
    rcases List.mem_append.mp hx with h | h
    · exact ht x h
    · rw [List.mem_singleton.mp h]; exact join_up y8 z8 tv
  rintro HD ⟨xs, js, hl, ra, ht, eD, gD, _⟩
  walk_at "rd"
  refine rd_tuple (SqL.of eD) fun t1 h1 => ?_
  walk_at "rd"
  have sE : Same HD (upd HD t1 (.tup xs)) := same_new h1
  refine rd_mk (len_ok rfl) fun tq HF nF eF sF => ?_
  have r1 : Rp K HF (.ref t1) (.tup js) := .tup (same_sqt sF (SqT.of upd_same)) (same_rpa (sE.trans sF) ra)
  exact q _ _ _ ((gD.same sE).same sF) (.tup (SqT.of eF) (.cons (.int wd) (.cons r1 .nil))) ⟨wd, js, rfl, w8, by omega, ht⟩

end
section
variable {P : Program} {w : World} {K : PySem.W.Frag} {mg : Str → Option Value} {base : Heap}
/-- terms, atoms, joins as data -/
inductive Tm where
  | var (z : Str) | num (i : Int) | wrd (z : Str)
def Tm.td : Tm → TD
  | .var z => .tup [.str "var", .str z]
  | .num i => .tup [.str "value", .int i]
  | .wrd z => .tup [.str "value", .str z]
structure At where
  nm : Str
  ts : List Tm
def At.td (a : At) : TD := .tup [.str a.nm, .tup (a.ts.map Tm.td)]
structure Jn where
  hd : List Tm
  bd : List At
def Jn.td (j : Jn) : TD := .tup [.tup (j.hd.map Tm.td), .tup (j.bd.map At.td)]
def Tm.ok : Tm → Bool
  | .var z => wordB z
  | .num _ => true
  | .wrd z => wordB z
def Tm.nm? : Tm → Option Str
  | .var z => some z
  | _ => none
def varsT (ts : List Tm) : List Str := ts.filterMap Tm.nm?
def varsB (bd : List At) : List Str := bd.flatMap fun a => varsT a.ts
def At.ok (a : At) : Bool := wordB a.nm && (decide (a.ts.length ≤ 8) && a.ts.all Tm.ok)
def Jn.ok (w : Int) (j : Jn) : Bool := decide ((j.hd.length : Int) = w) && decide (j.bd.length ≤ 8) && j.hd.all Tm.ok && j.bd.all At.ok && (varsT j.hd).all fun z => decide (z ∈ varsB j.bd)
def Tm.fits : Tm → Prop
  | .var z => z.length ≤ 200
  | .num _ => True
  | .wrd z => z.length ≤ 200
def At.fits (a : At) : Prop := a.nm.length ≤ 200 ∧ a.ts.length ≤ 20 ∧ ∀ t ∈ a.ts, t.fits
def Jn.fits (j : Jn) : Prop := j.hd.length ≤ 20 ∧ j.bd.length ≤ 20 ∧ (∀ t ∈ j.hd, t.fits) ∧ ∀ a ∈ j.bd, a.fits
theorem vars_len (ts : List Tm) : (varsT ts).length ≤ ts.length := List.length_filterMap_le _ _
theorem varsB_len : ∀ (bd : List At), (∀ a ∈ bd, a.fits) → (varsB bd).length ≤ bd.length * 20
  | [], _ => Nat.zero_le _
  | a :: r, h => by
    unfold varsB
    rw [List.flatMap_cons, List.length_append, List.length_cons, Nat.add_mul, Nat.one_mul]
    have h1 := vars_len a.ts
    have h2 := (h a List.mem_cons_self).2.1
    have h3 := varsB_len r fun x hx => h x (List.mem_cons_of_mem _ hx)
    unfold varsB at h3
    omega
theorem map_at {α β : Type} {f : α → β} {l : List α} {i : Nat} {y : β} (h : (l.map f)[i]? = some y) : ∃ x, l[i]? = some x ∧ y = f x := by
  rw [List.getElem?_map] at h
  cases e : l[i]? with
  | none => rw [e] at h; cases h
  | some x => rw [e] at h; cases h; exact ⟨x, rfl, rfl⟩
theorem take_filter {α β : Type} {f : α → Option β} {l : List α} {i : Nat} {x : α} (h : l[i]? = some x) : (l.take (i + 1)).filterMap f = (l.take i).filterMap f ++ (f x).toList := by
  rw [take_snoc h, List.filterMap_append]
  rw [List.filterMap_cons]
  cases f x <;> rfl
theorem take_flat {α β : Type} {f : α → List β} {l : List α} {i : Nat} {x : α} (h : l[i]? = some x) : (l.take (i + 1)).flatMap f = (l.take i).flatMap f ++ f x := by
  rw [take_snoc h, List.flatMap_append, List.flatMap_cons, List.flatMap_nil, List.append_nil]
section
variable {K : PySem.W.Frag} {H : Hp}
/-- a term as it stands -/
theorem Rp.tm {v : V} {t : Tm} (r : Rp K H v t.td) : (∃ a z, v = .ref a ∧ t = .var z ∧ SqT K H a [.str "var", .str z]) ∨ (∃ a i, v = .ref a ∧ t = .num i ∧ SqT K H a [.str "value", .int i]) ∨ ∃ a z, v = .ref a ∧ t = .wrd z ∧ SqT K H a [.str "value", .str z] := by
  cases t with
  | var z => obtain ⟨a, u, rfl, s, q⟩ := r.pr; cases q; exact .inl ⟨a, z, rfl, rfl, s⟩
  | num i => obtain ⟨a, u, rfl, s, q⟩ := r.pr; cases q; exact .inr (.inl ⟨a, i, rfl, rfl, s⟩)
  | wrd z => obtain ⟨a, u, rfl, s, q⟩ := r.pr; cases q; exact .inr (.inr ⟨a, z, rfl, rfl, s⟩)
theorem Rp.atm {v : V} {a : At} (r : Rp K H v a.td) : ∃ p u, v = .ref p ∧ SqT K H p [.str a.nm, u] ∧ Rp K H u (.tup (a.ts.map Tm.td)) := r.pr
theorem Rp.duo {v : V} {t u : TD} (r : Rp K H v (.tup [t, u])) : ∃ p x y, v = .ref p ∧ SqT K H p [x, y] ∧ Rp K H x t ∧ Rp K H y u := by
  obtain ⟨p, xs, rfl, s, ra⟩ := r.seq
  cases ra with
  | cons a b =>
  cases b with
  | cons c e =>
  cases e
  exact ⟨p, _, _, rfl, s, a, c⟩
end
/-- one walk within another: over a tuple, a list -/
theorem turns_tup {K : PySem.W.Frag} {a : Addr} {xs : List V} {H0 : Hp} {Qd : Hp → Prop} {Step : V → Hp → (Hp → Prop) → Prop} (Pv : Nat → Hp → Prop) (h0 : Pv 0 H0) (hl : ∀ i H, i ≤ xs.length → Pv i H → SqT K H a xs) (hs : ∀ i x H, xs[i]? = some x → Pv i H → Step x H (Pv (i + 1))) (hd : ∀ H, Pv xs.length H → Qd H) :
    ∃ W : Nat → Nat → Hp → Prop, (∃ m, W 0 m H0) ∧ ∀ i m H, W i m H → ((Itt K a).stop i H ∧ Qd H) ∨ ((Itt K a).go i H ∧ ∃ Nx : Hp → Prop, (∀ H', Nx H' → ∃ m', m' < m ∧ W (i + 1) m' H') ∧ ∀ x H', (Itt K a).yld i H x H' → Step x H' Nx) := by
  refine ⟨fun i m H => m = xs.length - i ∧ i ≤ xs.length ∧ Pv i H, ⟨_, rfl, Nat.zero_le _, h0⟩, ?_⟩
  rintro i m H ⟨rfl, hi, p⟩
  have sq := hl i H hi p
  rcases Nat.lt_or_ge i xs.length with lt | ge
  · refine .inr ⟨⟨xs, xs[i], sq, List.getElem?_eq_getElem lt⟩, Pv (i + 1), fun H' q => ⟨xs.length - (i + 1), by omega, rfl, lt, q⟩, ?_⟩
    rintro x H' ⟨rfl, hx⟩
    exact hs i x H' (hx xs sq) p
  · have e : i = xs.length := by omega
    subst e
    exact .inl ⟨⟨xs, sq, Nat.le_refl _⟩, hd H p⟩
theorem turns_list {K : PySem.W.Frag} {a : Addr} {xs : List V} {H0 : Hp} {Qd : Hp → Prop} {Step : V → Hp → (Hp → Prop) → Prop} (Pv : Nat → Hp → Prop) (h0 : Pv 0 H0) (hl : ∀ i H, i ≤ xs.length → Pv i H → SqL K H a xs) (hs : ∀ i x H, xs[i]? = some x → Pv i H → Step x H (Pv (i + 1))) (hd : ∀ H, Pv xs.length H → Qd H) :
    ∃ W : Nat → Nat → Hp → Prop, (∃ m, W 0 m H0) ∧ ∀ i m H, W i m H → ((Itl K a).stop i H ∧ Qd H) ∨ ((Itl K a).go i H ∧ ∃ Nx : Hp → Prop, (∀ H', Nx H' → ∃ m', m' < m ∧ W (i + 1) m' H') ∧ ∀ x H', (Itl K a).yld i H x H' → Step x H' Nx) := by
  refine ⟨fun i m H => m = xs.length - i ∧ i ≤ xs.length ∧ Pv i H, ⟨_, rfl, Nat.zero_le _, h0⟩, ?_⟩
  rintro i m H ⟨rfl, hi, p⟩
  have sq := hl i H hi p
  rcases Nat.lt_or_ge i xs.length with lt | ge
  · refine .inr ⟨⟨xs, xs[i], sq, List.getElem?_eq_getElem lt⟩, Pv (i + 1), fun H' q => ⟨xs.length - (i + 1), by omega, rfl, lt, q⟩, ?_⟩
    rintro x H' ⟨rfl, hx⟩
    exact hs i x H' (hx xs sq) p
  · have e : i = xs.length := by omega
    subst e
    exact .inl ⟨⟨xs, sq, Nat.le_refl _⟩, hd H p⟩
/-- the turns of enumerate -/
theorem walk_enumT {K : PySem.W.Frag} {a : Addr} {xs : List V} : Walk (IteT K a) xs.length (fun H => SqT K H a xs) (fun i H v H' => ∃ t x, v = .ref t ∧ H t = none ∧ H' = upd H t (.tup [.int (i : Nat), x]) ∧ xs[i]? = some x) :=
  ⟨fun i H hi q => ⟨xs, xs[i], q, List.getElem?_eq_getElem hi⟩, fun H q => ⟨xs, q, Nat.le_refl _⟩, fun i H x H' hi q ⟨t, y, e1, e2, e3, e4⟩ => ⟨t, y, e1, e2, e3, e4 xs q⟩⟩

end
section
variable {P : Program} {w : World} {K : PySem.W.Frag} {mg : Str → Option Value} {base : Heap}
/-- texts compared -/
def rLeX : R2 := fun x y H Q => ∃ i j, x = .str i ∧ y = .str j ∧ Q (.bl (!decide (j.cps.toList < i.cps.toList))) H
theorem op_leX {X : Cx} : OpR X (compareOp .LtE) rLeX := op_le_str
theorem rd_leX {H : Hp} {Q : VK} {a b : Str} (q : Q (.bl (!decide (sg b < sg a))) H) : rLeX (.str a) (.str b) H Q := ⟨a, b, rfl, rfl, q⟩
theorem one_lt (a b : Nat) : decide (([a] : List Nat) < [b]) = decide (a < b) := by
  rw [decide_eq_decide, List.cons_lt_cons_iff]
  constructor
  · rintro (h | ⟨_, h⟩)
    · exact h
    · exact absurd h (by decide)
  · exact .inl
theorem low_c (c : Nat) : (!decide (sg ⟨#[c]⟩ < sg ("a" : Str))) = decide (97 ≤ c) := by
  rw [show sg ("a" : Str) = [97] by decide +kernel, sg_one, one_lt, Bool.eq_iff_iff]
  simp
theorem high_c (c : Nat) : (!decide (sg ("z" : Str) < sg ⟨#[c]⟩)) = decide (c ≤ 122) := by
  rw [show sg ("z" : Str) = [122] by decide +kernel, sg_one, one_lt, Bool.eq_iff_iff]
  simp
theorem abc_c (c : Nat) : decide (c ∈ sg abc) = (decide (97 ≤ c) && decide (c ≤ 122)) := by
  rw [abc_is, ← Bool.decide_and, decide_eq_decide]
  simp only [List.mem_cons, List.not_mem_nil, or_false]
  omega
def spIsWordP : Sp := fun vs H Q _ => ∃ z : Str, vs = [.str z] ∧ z.length ≤ 200 ∧ ∀ H', Same H H' → Q (.bl (wordB z)) H'
theorem ok_isWord (T : Tx mg) {f : Addr} {fd : FuncData} (F : Dn K mg "is_word" sIsWord ["text"] f fd) : FnOk P w K mg base CX0 1 f fd ["text"] spIsWordP := by
  refine F.F.ok scIsWord (fun vs H Q E h => ?_) (fun cdv A outer s H vs Q E hr h => ?_)
  · obtain ⟨z, rfl, _⟩ := h
    rfl
  obtain ⟨z, rfl, hz, q⟩ := h
  have nd := scIsWord.nd
  refine ⟨_, (pss_one (ps_ret (pe_and (pe_cmpR op_ne (pv 0) pe_str (nomark _)) (pe_one (pe_callB (k_all K rfl rfl) rfl T.m_all (by decide +kernel) (pa_cons (pe_lc (own := [("letter", (1 : Nat))]) (g := gName 1) rfl nd (pi_str (pv 0)) (blkOk_by (own := [("letter", (1 : Nat))]) (N := nIsWord) (sc := defScope sIsWord) (by decide +kernel)) (fun _ _ _ _ _ => pg_name (i := 1) nd rfl (Or.inl rfl)) (fun _ _ _ _ _ => pts_nil) (fun _ _ _ _ _ => (pe_chain op_leX op_leX pe_str (pv 1) pe_str))) pa_nil)))))), ?_⟩
  walk_at "rd"
  refine iteB (fun c => ?_) (fun c => ?_)
  · have hne : 0 < z.length := by
      rcases Nat.eq_zero_or_pos z.length with e | e
      · exfalso
        have e0 : z.cps = #[] := Array.size_eq_zero_iff.mp e
        have : z = ("" : Str) := by
          cases z with
          | mk a => cases e0; decide +kernel
        rw [this] at c
        exact absurd c (by decide +kernel)
      · exact e
    walk_at "rd"
    refine rd_istr ?_
    walk_at "rd"
    intro D hD
    have inC : ∀ c : Nat, decide (c ∈ sg abc) = (decide (97 ≤ c) && decide (c ≤ 122)) := abc_c
    refine lc_it walk_str (fun i H' => H' D = some (.lst ((((sg z).take i).map fun c => decide (c ∈ sg abc)).map V.bl)) ∧ Same H H') ⟨upd_same, same_new hD⟩ (fun _ _ _ _ => trivial) ?_ ?_
    · rintro i x H1 H2 hi ⟨e1, g⟩ ⟨rfl, c, hc, rfl⟩
      have hc' : (sg z)[i]? = some c := by show z.cps.toList[i]? = _; rw [Array.getElem?_toList]; exact hc
      refine ⟨rfl, ?_⟩
      have fin : ∀ k : Bool, k = decide (c ∈ sg abc) → ∃ acc, H2 D = some (.lst acc) ∧ acc.length < sizeLine ∧ (upd H2 D (.lst (acc ++ [V.bl k])) D = some (.lst ((((sg z).take (i + 1)).map fun c => decide (c ∈ sg abc)).map V.bl)) ∧ Same H (upd H2 D (.lst (acc ++ [V.bl k])))) := by
        rintro k rfl
        refine ⟨_, e1, ?_, ?_, same_own g hD⟩
        · rw [List.length_map, List.length_map, List.length_take, sg_len]; exact small1000 (by omega)
        · rw [upd_same, blist (fun c => decide (c ∈ sg abc)) hc']
      walk_at "rd"
      refine rd_leX ?_
      rw [low_c]
      walk_at "rd"
      refine iteB (fun c1 => ?_) (fun c1 => ?_)
      · walk_at "rd"
        refine rd_leX ?_
        rw [high_c]
        refine fin _ ?_
        rw [abc_c, c1, Bool.true_and]
      · refine fin _ ?_
        rw [abc_c, c1, Bool.false_and]
    · rintro H1 ⟨e1, g⟩
      have hl : (sg z).take z.cps.size = sg z := List.take_of_length_le (Nat.le_refl _)
      rw [hl] at e1
      walk_at "rd"
      refine rd_all (SqL.of e1) ?_
      have e : wordB z = ((sg z).map fun c => decide (c ∈ sg abc)).all id := by
        unfold wordB
        rw [decide_eq_true hne, Bool.and_true, List.all_map]
        rfl
      rw [← e]
      exact q _ g
  · have e : z = ("" : Str) := by
      have := of_decide_eq_true (p := V.str z = V.str "") (by cases h : decide (V.str z = V.str "") with | true => rfl | false => rw [h] at c; cases c)
      injection this
    have e' : wordB z = false := by rw [e]; decide +kernel
    have := q H (.refl _)
    rw [e'] at this
    exact this

end
section
variable {P : Program} {w : World} {K : PySem.W.Frag} {mg : Str → Option Value} {base : Heap}
/-- an item of a row -/
def itemB : V → Bool
  | .int _ => true
  | .str z => wordB z
  | _ => false
def Item (v : V) : Prop := (∃ i, v = .int i) ∨ ∃ u : Str, v = .str u ∧ u.length ≤ 200
def spIsValueP : Sp := fun vs H Q _ => ∃ v : V, vs = [v] ∧ Item v ∧ ∀ H', Same H H' → Q (.bl (itemB v)) H'
theorem ok_isValue (T : Tx mg) {f f1 : Addr} {fd d1 : FuncData} (F : Dn K mg "is_value" sIsValue ["value"] f fd) (DIsWord : Dn K mg "is_word" sIsWord ["text"] f1 d1) (GIsWord : FnOk P w K mg base CX0 1 f1 d1 ["text"] spIsWordP) :
    FnOk P w K mg base CX0 2 f fd ["value"] spIsValueP := by
  refine F.F.ok scIsValue (fun vs H Q E h => ?_) (fun cdv A outer s H vs Q E hr h => ?_)
  · obtain ⟨v, rfl, _⟩ := h
    rfl
  obtain ⟨v, rfl, hv, q⟩ := h
  refine ⟨_, (pss_one (ps_ret (pe_or (pe_callB (k_isi K rfl) rfl T.m_isinstance (by decide +kernel) (pa_cons (pv 0) (pa_cons (pe_bltn (v := .ty "int") rfl T.m_int (by decide +kernel) rfl) pa_nil))) (pe_one (pe_call GIsWord (hr.mono (by omega)) rfl DIsWord.m DIsWord.F.kp DIsWord.b .nil pass0 (pa_cons (pv 0) pa_nil)))))), ?_⟩
  walk_at "rd"
  rcases hv with ⟨i, rfl⟩ | ⟨u, rfl, hu⟩
  · refine rd_isi (.ty _) (.base (.int i)) (kit_ty (r := true) (by decide +kernel)) ?_
    walk_at "dec"
    exact q _ (.refl _)
  · refine rd_isi (.ty _) (.base (.str u)) (kit_ty (r := false) (by decide +kernel)) ?_
    walk_at "dec"
    exact ⟨u, rfl, hu, q⟩

end
section
variable {P : Program} {w : World} {K : PySem.W.Frag} {mg : Str → Option Value} {base : Heap}
def spTermsP (K : PySem.W.Frag) : Sp := fun vs H Q _ => ∃ (v : V) (ts : List Tm), vs = [v] ∧ Rp K H v (.tup (ts.map Tm.td)) ∧ ts.length ≤ 40 ∧ (∀ t ∈ ts, t.fits) ∧ ∀ H', Same H H' → Q (.bl (ts.all Tm.ok)) H'
theorem ok_areTerms (T : Tx mg) {f f1 f2 : Addr} {fd d1 d2 : FuncData} (F : Dn K mg "are_terms" sAreTerms ["terms"] f fd) (DIsWord : Dn K mg "is_word" sIsWord ["text"] f1 d1) (GIsWord : FnOk P w K mg base CX0 1 f1 d1 ["text"] spIsWordP)
    (DIsValue : Dn K mg "is_value" sIsValue ["value"] f2 d2) (GIsValue : FnOk P w K mg base CX0 2 f2 d2 ["value"] spIsValueP) : FnOk P w K mg base CX0 3 f fd ["terms"] (spTermsP K) := by
  refine F.F.ok scAreTerms (fun vs H Q E h => ?_) (fun cdv A outer s H vs Q E hr h => ?_)
  · obtain ⟨v, ts, rfl, _⟩ := h
    rfl
  obtain ⟨v, ts, rfl, r, hl, hf, q⟩ := h
  have nd := scAreTerms.nd
  refine ⟨_, (pss_one (ps_ret (pe_callB (k_all K rfl rfl) rfl T.m_all (by decide +kernel) (pa_cons (pe_lc (own := [("kind", (1 : Nat)), ("held", (2 : Nat))]) (g := gTup K 2 (gCons (gName 1) (gCons (gName 2) gNil))) rfl nd (k_pit K rfl (pv 0)) (blkOk_by (own := [("kind", (1 : Nat)), ("held", (2 : Nat))]) (N := nAreTerms) (sc := defScope sAreTerms) (by decide +kernel)) (fun _ _ _ _ _ => pg_tup rfl (pgs_cons (pg_name (i := 1) nd rfl (Or.inl rfl)) (pgs_cons (pg_name (i := 2) nd rfl (Or.inl rfl)) pgs_nil))) (fun _ _ _ _ _ => pts_nil) (fun _ _ _ _ _ => (pe_ifExp (pt_cmpR op_eq (pv 1) pe_str (nomark _)) (pe_call GIsWord (hr.mono (by omega)) rfl DIsWord.m DIsWord.F.kp DIsWord.b .nil pass0 (pa_cons (pv 2) pa_nil)) (pe_call GIsValue (hr.mono (by omega)) rfl DIsValue.m DIsValue.F.kp DIsValue.b .nil pass0 (pa_cons (pv 2) pa_nil))))) pa_nil)))), ?_⟩
  obtain ⟨a, xs, rfl, sq, ra⟩ := r.seq
  have lx : xs.length = ts.length := by rw [ra.length, List.length_map]
  walk_at "rd"
  refine rd_it sq fun D hD => ?_
  refine lc_tup (K := K) (a := a) (xs := xs) (fun i H' => H' D = some (.lst (((ts.take i).map Tm.ok).map V.bl)) ∧ Same H H') ⟨upd_same, same_new hD⟩ (fun i H' _ p => same_sqt p.2 sq) ?_ ?_
  · rintro i x H' hx ⟨e1, g⟩
    obtain ⟨t0, et0, rt⟩ := rpa_at (same_rpa g ra) hx
    obtain ⟨t, et, rfl⟩ := map_at et0
    have ft := hf t (List.mem_of_getElem? et)
    have fin : ∀ H2 : Hp, Same H' H2 → ∃ acc, H2 D = some (.lst acc) ∧ acc.length < sizeLine ∧ (upd H2 D (.lst (acc ++ [V.bl t.ok])) D = some (.lst (((ts.take (i + 1)).map Tm.ok).map V.bl)) ∧ Same H (upd H2 D (.lst (acc ++ [V.bl t.ok])))) := by
      intro H2 g2
      refine ⟨_, g2 _ _ e1, ?_, ?_, same_own (g.trans g2) hD⟩
      · rw [List.length_map, List.length_map, List.length_take]; exact small1000 (by omega)
      · rw [upd_same, blist Tm.ok et]
    rcases rt.tm with ⟨p, z, rfl, rfl, s⟩ | ⟨p, z, rfl, rfl, s⟩ | ⟨p, z, rfl, rfl, s⟩
    · refine rd_gtup s rfl ?_
      walk_at "rd"
      refine ⟨rfl, ?_⟩
      walk_at "dec"
      exact ⟨z, rfl, ft, fun H2 g2 => fin H2 g2⟩
    · refine rd_gtup s rfl ?_
      walk_at "rd"
      refine ⟨rfl, ?_⟩
      walk_at "dec"
      exact ⟨.int z, rfl, .inl ⟨z, rfl⟩, fun H2 g2 => fin H2 g2⟩
    · refine rd_gtup s rfl ?_
      walk_at "rd"
      refine ⟨rfl, ?_⟩
      walk_at "dec"
      exact ⟨.str z, rfl, .inr ⟨z, rfl, ft⟩, fun H2 g2 => fin H2 g2⟩
  · rintro H' ⟨e1, g⟩
    rw [List.take_of_length_le (by omega)] at e1
    walk_at "rd"
    refine rd_all (SqL.of e1) ?_
    have e : (ts.map Tm.ok).all id = ts.all Tm.ok := by rw [List.all_map]; rfl
    rw [e]
    exact q _ g
def spVarsP (K : PySem.W.Frag) : Sp := fun vs H Q _ => ∃ (v : V) (ts : List Tm), vs = [v] ∧ Rp K H v (.tup (ts.map Tm.td)) ∧ ts.length ≤ 40 ∧ ∀ (D : Addr) H', H D = none → Same H H' → H' D = some (.lst ((varsT ts).map V.str)) → Q (.ref D) H'
theorem ok_varsIn (T : Tx mg) {f : Addr} {fd : FuncData} (F : Dn K mg "variables_in" sVariablesIn ["terms"] f fd) : FnOk P w K mg base CX0 1 f fd ["terms"] (spVarsP K) := by
  refine F.F.ok scVariablesIn (fun vs H Q E h => ?_) (fun cdv A outer s H vs Q E hr h => ?_)
  · obtain ⟨v, ts, rfl, _⟩ := h
    rfl
  obtain ⟨v, ts, rfl, r, hl, q⟩ := h
  have nd := scVariablesIn.nd
  refine ⟨_, (pss_one (ps_ret (pe_lc (own := [("kind", (1 : Nat)), ("held", (2 : Nat))]) (g := gTup K 2 (gCons (gName 1) (gCons (gName 2) gNil))) rfl nd (k_pit K rfl (pv 0)) (blkOk_by (own := [("kind", (1 : Nat)), ("held", (2 : Nat))]) (N := nVariablesIn) (sc := defScope sVariablesIn) (by decide +kernel)) (fun _ _ _ _ _ => pg_tup rfl (pgs_cons (pg_name (i := 1) nd rfl (Or.inl rfl)) (pgs_cons (pg_name (i := 2) nd rfl (Or.inl rfl)) pgs_nil))) (fun _ _ _ _ _ => (pts_one (pt_cmpR op_eq (pv 1) pe_str (nomark _)))) (fun _ _ _ _ _ => (pv 2))))), ?_⟩
  obtain ⟨a, xs, rfl, sq, ra⟩ := r.seq
  have lx : xs.length = ts.length := by rw [ra.length, List.length_map]
  walk_at "rd"
  refine rd_it sq fun D hD => ?_
  refine lc_tup (K := K) (a := a) (xs := xs) (fun i H' => H' D = some (.lst ((varsT (ts.take i)).map V.str)) ∧ Same H H') ⟨upd_same, same_new hD⟩ (fun i H' _ p => same_sqt p.2 sq) ?_ ?_
  · rintro i x H' hx ⟨e1, g⟩
    obtain ⟨t0, et0, rt⟩ := rpa_at (same_rpa g ra) hx
    obtain ⟨t, et, rfl⟩ := map_at et0
    have hv : varsT (ts.take (i + 1)) = varsT (ts.take i) ++ t.nm?.toList := take_filter et
    have lv := vars_len (ts.take i)
    rw [List.length_take] at lv
    rcases rt.tm with ⟨p, z, rfl, rfl, s⟩ | ⟨p, z, rfl, rfl, s⟩ | ⟨p, z, rfl, rfl, s⟩
    · refine rd_gtup s rfl ?_
      walk_at "rd"
      refine ⟨rfl, ?_⟩
      walk_at "dec"
      refine ⟨_, e1, by rw [List.length_map]; exact small1000 (by omega), ?_, same_own g hD⟩
      rw [upd_same, hv, List.map_append]; rfl
    · refine rd_gtup s rfl ?_
      walk_at "rd"
      refine ⟨rfl, ?_⟩
      walk_at "dec"
      exact ⟨by rw [hv]; show _ = some (HO.lst ((varsT (ts.take i) ++ []).map V.str)); rw [List.append_nil]; exact e1, g⟩
    · refine rd_gtup s rfl ?_
      walk_at "rd"
      refine ⟨rfl, ?_⟩
      walk_at "dec"
      exact ⟨by rw [hv]; show _ = some (HO.lst ((varsT (ts.take i) ++ []).map V.str)); rw [List.append_nil]; exact e1, g⟩
  · rintro H' ⟨e1, g⟩
    rw [List.take_of_length_le (by omega)] at e1
    walk_at "rd"
    exact q D H' hD g e1

end
section
variable {P : Program} {w : World} {K : PySem.W.Frag} {mg : Str → Option Value} {base : Heap}
def spAtomP (K : PySem.W.Frag) : Sp := fun vs H Q _ => ∃ (v : V) (a : At), vs = [v] ∧ Rp K H v a.td ∧ a.fits ∧ ∀ H', Same H H' → Q (.bl a.ok) H'
theorem ok_isAtom (T : Tx mg) {tM : Tok} (hM : mg "MOST_TERMS" = some (.int 8 tM)) {f f1 f2 : Addr} {fd d1 d2 : FuncData} (F : Dn K mg "is_atom" sIsAtom ["atom"] f fd) (DIsWord : Dn K mg "is_word" sIsWord ["text"] f1 d1) (GIsWord : FnOk P w K mg base CX0 1 f1 d1 ["text"] spIsWordP)
    (DAreTerms : Dn K mg "are_terms" sAreTerms ["terms"] f2 d2) (GAreTerms : FnOk P w K mg base CX0 3 f2 d2 ["terms"] (spTermsP K)) : FnOk P w K mg base CX0 4 f fd ["atom"] (spAtomP K) := by
  refine F.F.ok scIsAtom (fun vs H Q E h => ?_) (fun cdv A outer s H vs Q E hr h => ?_)
  · obtain ⟨v, a, rfl, _⟩ := h
    rfl
  obtain ⟨v, a, rfl, r, ⟨f1, f2, f3⟩, q⟩ := h
  have nd := scIsAtom.nd
  refine ⟨_, (pss_cons (ps_asg (pv 0) (pg_tup rfl (pgs_cons (pg_name (i := 1) nd rfl (Or.inl rfl)) (pgs_cons (pg_name (i := 2) nd rfl (Or.inl rfl)) pgs_nil))))
  (pss_one (ps_ret (pe_and (pe_call GIsWord (hr.mono (by omega)) rfl DIsWord.m DIsWord.F.kp DIsWord.b .nil pass0 (pa_cons (pv 1) pa_nil)) (pe_and (pe_cmpR op_le (pe_callB (k_len K rfl) rfl T.m_len PySem.boot_len (pa_cons (pv 2) pa_nil)) (pe_glob (v := .int 8) rfl hM ⟨_, rfl⟩) (nomark _)) (pe_one (pe_call GAreTerms (hr.mono (by omega)) rfl DAreTerms.m DAreTerms.F.kp DAreTerms.b .nil pass0 (pa_cons (pv 2) pa_nil)))))))), ?_⟩
  obtain ⟨p, u, rfl, s, ru⟩ := r.atm
  obtain ⟨b, xs, rfl, sb, ra⟩ := ru.seq
  have lx : xs.length = a.ts.length := by rw [ra.length, List.length_map]
  walk_at "rd"
  refine rd_gtup s rfl ?_
  walk_at "rd"
  refine ⟨a.nm, rfl, f1, fun H1 g1 => ?_⟩
  walk_at "rd"
  have el : decide ((xs.length : Int) ≤ 8) = decide (a.ts.length ≤ 8) := decide_eq_decide.mpr (by omega)
  refine iteB (fun c => ?_) (fun c => ?_)
  · walk_at "rd"
    refine rd_lenT (same_sqt g1 sb) ?_
    walk_at "rd"
    rw [el]
    refine iteB (fun c1 => ?_) (fun c1 => ?_)
    · walk_at "rd"
      refine ⟨_, a.ts, rfl, same_rp g1 ru, by omega, f3, fun H2 g2 => ?_⟩
      have e : a.ok = a.ts.all Tm.ok := by unfold At.ok; rw [c, c1, Bool.true_and, Bool.true_and]
      rw [← e]
      exact q _ (g1.trans g2)
    · have e : a.ok = false := by unfold At.ok; rw [c1, Bool.false_and, Bool.and_false]
      have z := q _ g1
      rw [e] at z
      exact z
  · have e : a.ok = false := by unfold At.ok; rw [c, Bool.false_and]
    have z := q _ g1
    rw [e] at z
    exact z
def spVarsB (K : PySem.W.Frag) : Sp := fun vs H Q _ => ∃ (v : V) (bd : List At), vs = [v] ∧ Rp K H v (.tup (bd.map At.td)) ∧ bd.length ≤ 20 ∧ (∀ a ∈ bd, a.fits) ∧ ∀ (D : Addr) H', H D = none → Same H H' → H' D = some (.lst ((varsB bd).map V.str)) → Q (.ref D) H'
theorem ok_varsB (T : Tx mg) {f f1 : Addr} {fd d1 : FuncData} (F : Dn K mg "variables_in_body" sVariablesInBody ["body"] f fd) (DVariablesIn : Dn K mg "variables_in" sVariablesIn ["terms"] f1 d1) (GVariablesIn : FnOk P w K mg base CX0 1 f1 d1 ["terms"] (spVarsP K)) :
    FnOk P w K mg base CX0 2 f fd ["body"] (spVarsB K) := by
  refine F.F.ok scVariablesInBody (fun vs H Q E h => ?_) (fun cdv A outer s H vs Q E hr h => ?_)
  · obtain ⟨v, ts, rfl, _⟩ := h
    rfl
  obtain ⟨v, bd, rfl, r, hl, hf, q⟩ := h
  have nd := scVariablesInBody.nd
  refine ⟨_, (pss_one (ps_ret (pe_lc2 (own := [("_", (1 : Nat)), ("terms", (2 : Nat)), ("variable", (3 : Nat))]) (vs1 := [3]) (g := gTup K 2 (gCons (gName 1) (gCons (gName 2) gNil))) (g1 := gName 3) rfl nd (k_pit K rfl (pv 0)) (blkOk_by (own := [("_", (1 : Nat)), ("terms", (2 : Nat)), ("variable", (3 : Nat))]) (N := nVariablesInBody) (sc := defScope sVariablesInBody) (by decide +kernel)) (by decide) (fun _ _ _ _ _ => pg_tup rfl (pgs_cons (pg_name (i := 1) nd rfl (Or.inl rfl)) (pgs_cons (pg_name (i := 2) nd rfl (Or.inl rfl)) pgs_nil))) (fun _ _ _ _ _ => pts_nil)
    (fun _ _ _ _ _ => k_pil K rfl (pe_call GVariablesIn (hr.mono (by omega)) rfl DVariablesIn.m DVariablesIn.F.kp DVariablesIn.b .nil pass0 (pa_cons (pv 2) pa_nil))) (fun _ _ _ _ _ => pg_name (i := 3) nd rfl (Or.inl rfl)) (fun _ _ _ _ _ => pts_nil) (fun _ _ _ _ _ => (pv 3))))), ?_⟩
  obtain ⟨a, xs, rfl, sq, ra⟩ := r.seq
  have lx : xs.length = bd.length := by rw [ra.length, List.length_map]
  walk_at "rd"
  unfold tLc2
  walk_at "rd"
  refine rd_it sq fun D hD => ?_
  refine turns_tup (K := K) (a := a) (xs := xs) (fun i H' => H' D = some (.lst ((varsB (bd.take i)).map V.str)) ∧ Same H H') ⟨upd_same, same_new hD⟩ (fun i H' _ p => same_sqt p.2 sq) ?_ ?_
  · rintro i x H' hx ⟨e1, g⟩
    obtain ⟨t0, et0, rt⟩ := rpa_at (same_rpa g ra) hx
    obtain ⟨t, et, rfl⟩ := map_at et0
    obtain ⟨p, u, rfl, s, ru⟩ := rt.atm
    have ft := hf t (List.mem_of_getElem? et)
    have lv := varsB_len (bd.take i) fun y hy => hf y (List.mem_of_mem_take hy)
    rw [List.length_take] at lv
    refine rd_gtup s rfl ?_
    walk_at "rd"
    refine ⟨rfl, ?_⟩
    walk_at "rd"
    refine ⟨u, t.ts, rfl, ru, by have := ft.2.1; omega, fun B H2 hB g2 e2 => ?_⟩
    have nBD : B ≠ D := fun e => by rw [e, e1] at hB; cases hB
    have lt := vars_len t.ts
    have ft2 := ft.2.1
    refine rd_il (SqL.of e2) ?_
    refine turns_list (K := K) (a := B) (xs := (varsT t.ts).map V.str) (fun k H3 => H3 D = some (.lst ((varsB (bd.take i) ++ (varsT t.ts).take k).map V.str)) ∧ Same H H3 ∧ H3 B = some (.lst ((varsT t.ts).map V.str))) ⟨?_, g.trans g2, e2⟩ (fun k H3 _ p => SqL.of p.2.2) ?_ ?_
    · rw [List.take_zero, List.append_nil]; exact g2 _ _ e1
    · rintro k y H3 hy ⟨e3, g3, eB⟩
      obtain ⟨z, ez, rfl⟩ := map_at hy
      walk_at "rd"
      refine ⟨rfl, ?_⟩
      walk_at "rd"
      refine ⟨_, e3, by rw [List.length_map, List.length_append, List.length_take]; exact small1000 (by omega), ?_, same_own g3 hD, ?_⟩
      · rw [upd_same, take_snoc ez, ← List.append_assoc]; simp only [List.map_append]; rfl
      · rw [upd_ne nBD]; exact eB
    · rintro H3 ⟨e3, g3, eB⟩
      rw [List.length_map, List.take_of_length_le (Nat.le_refl _)] at e3
      refine ⟨?_, g3⟩
      unfold varsB
      rw [take_flat et]
      exact e3
  · rintro H' ⟨e1, g⟩
    rw [List.take_of_length_le (by omega)] at e1
    exact q D H' hD g e1
def spJoinP (K : PySem.W.Frag) : Sp := fun vs H Q _ => ∃ (v : V) (j : Jn) (n : Int), vs = [v, .int n] ∧ Rp K H v j.td ∧ j.fits ∧ ∀ H', Same H H' → Q (.bl (j.ok n)) H'
set_option maxHeartbeats 2000000 in
theorem ok_isJoin (T : Tx mg) {tM : Tok} (hM : mg "MOST_ATOMS" = some (.int 8 tM)) {f f1 f2 f3 f4 : Addr} {fd d1 d2 d3 d4 : FuncData} (F : Dn K mg "is_join" sIsJoin ["join", "width"] f fd)
    (DAreTerms : Dn K mg "are_terms" sAreTerms ["terms"] f1 d1) (GAreTerms : FnOk P w K mg base CX0 3 f1 d1 ["terms"] (spTermsP K)) (DIsAtom : Dn K mg "is_atom" sIsAtom ["atom"] f2 d2) (GIsAtom : FnOk P w K mg base CX0 4 f2 d2 ["atom"] (spAtomP K))
    (DVariablesInBody : Dn K mg "variables_in_body" sVariablesInBody ["body"] f3 d3) (GVariablesInBody : FnOk P w K mg base CX0 2 f3 d3 ["body"] (spVarsB K)) (DVariablesIn : Dn K mg "variables_in" sVariablesIn ["terms"] f4 d4) (GVariablesIn : FnOk P w K mg base CX0 1 f4 d4 ["terms"] (spVarsP K)) :
    FnOk P w K mg base CX0 5 f fd ["join", "width"] (spJoinP K) := by
  refine F.F.ok scIsJoin (fun vs H Q E h => ?_) (fun cdv A outer s H vs Q E hr h => ?_)
  · obtain ⟨v, j, n, rfl, _⟩ := h
    rfl
  obtain ⟨v, j, n, rfl, r, ⟨f1, f2, f3, f4⟩, q⟩ := h
  have nd := scIsJoin.nd
  refine ⟨_, (pss_cons (ps_asg (pv 0) (pg_tup rfl (pgs_cons (pg_name (i := 2) nd rfl (Or.inl rfl)) (pgs_cons (pg_name (i := 3) nd rfl (Or.inl rfl)) pgs_nil))))
  (pss_cons (ps_if (PW.pt (pw_or (pt_cmpR op_ne (pe_callB (k_len K rfl) rfl T.m_len PySem.boot_len (pa_cons (pv 2) pa_nil)) (pv 1) (nomark _)) (pw_or1 (pt_cmpR op_gt (pe_callB (k_len K rfl) rfl T.m_len PySem.boot_len (pa_cons (pv 3) pa_nil)) (pe_glob (v := .int 8) rfl hM ⟨_, rfl⟩) (nomark _))))) (pss_one (ps_ret pe_bl)) pss_nil)
  (pss_cons (ps_if (PW.pt (pw_or (pt_not (pt_val (pe_call GAreTerms (hr.mono (by omega)) rfl DAreTerms.m DAreTerms.F.kp DAreTerms.b .nil pass0 (pa_cons (pv 2) pa_nil)))) (pw_or1 (pt_not (pt_val (pe_callB (k_all K rfl rfl) rfl T.m_all (by decide +kernel) (pa_cons (pe_lc (own := [("atom", (4 : Nat))]) (g := gName 4) rfl nd (k_pit K rfl (pv 3)) (blkOk_by (own := [("atom", (4 : Nat))]) (N := nIsJoin) (sc := defScope sIsJoin) (by decide +kernel)) (fun _ _ _ _ _ => pg_name (i := 4) nd rfl (Or.inl rfl)) (fun _ _ _ _ _ => pts_nil) (fun _ _ _ _ _ => (pe_call GIsAtom (hr.mono (by omega)) rfl DIsAtom.m DIsAtom.F.kp DIsAtom.b .nil pass0 (pa_cons (pv 4) pa_nil)))) pa_nil))))))) (pss_one (ps_ret pe_bl)) pss_nil)
  (pss_cons (ps_set (i := 5) nd rfl (Or.inr rfl) (pe_call GVariablesInBody (hr.mono (by omega)) rfl DVariablesInBody.m DVariablesInBody.F.kp DVariablesInBody.b .nil pass0 (pa_cons (pv 3) pa_nil)))
  (pss_one (ps_ret (pe_callB (k_all K rfl rfl) rfl T.m_all (by decide +kernel) (pa_cons (pe_lc (own := [("variable", (6 : Nat))]) (g := gName 6) rfl nd (k_pil K rfl (pe_call GVariablesIn (hr.mono (by omega)) rfl DVariablesIn.m DVariablesIn.F.kp DVariablesIn.b .nil pass0 (pa_cons (pv 2) pa_nil))) (blkOk_by (own := [("variable", (6 : Nat))]) (N := nIsJoin) (sc := defScope sIsJoin) (by decide +kernel)) (fun _ _ _ _ _ => pg_name (i := 6) nd rfl (Or.inl rfl)) (fun _ _ _ _ _ => pts_nil) (fun _ _ _ _ _ => (pe_cmpR (k_in K rfl) (pv 6) (pv 5) rfl))) pa_nil)))))))), ?_⟩
  obtain ⟨p, x, y, rfl, s, rx, ry⟩ := r.duo
  obtain ⟨a, xs, rfl, sa, ra⟩ := rx.seq
  obtain ⟨b, ys, rfl, sb, rb⟩ := ry.seq
  have lx : xs.length = j.hd.length := by rw [ra.length, List.length_map]
  have ly : ys.length = j.bd.length := by rw [rb.length, List.length_map]
  have no : ∀ H1 : Hp, Same H H1 → j.ok n = false → Q (.bl false) H1 := fun H1 g e => by have z := q H1 g; rw [e] at z; exact z
  walk_at "rd"
  refine rd_gtup s rfl ?_
  walk_at "rd"
  refine rd_lenT sa ?_
  walk_at "rd"
  refine iteB (fun c => ?_) (fun c => ?_)
  · walk_at "rd"
    refine no _ (.refl _) ?_
    have e : ¬ ((j.hd.length : Int) = n) := fun e => by
      rw [lx, e] at c
      rw [decide_eq_true rfl] at c
      cases c
    unfold Jn.ok
    rw [decide_eq_false e]; rfl
  have hw : ((j.hd.length : Int) = n) := by
    have e : decide (V.int (xs.length : Int) = V.int n) = true := by
      cases h : decide (V.int (xs.length : Int) = V.int n) with
      | true => rfl
      | false => rw [h] at c; cases c
    have := of_decide_eq_true e
    injection this with this
    rw [← lx]; exact this
  walk_at "rd"
  refine rd_lenT sb ?_
  walk_at "rd"
  refine iteB (fun c1 => ?_) (fun c1 => ?_)
  · walk_at "rd"
    refine no _ (.refl _) ?_
    have := of_decide_eq_true c1
    unfold Jn.ok
    rw [decide_eq_false (by omega : ¬ j.bd.length ≤ 8), Bool.and_false]; rfl
  have hb8 : j.bd.length ≤ 8 := by have := of_decide_eq_false c1; omega
  walk_at "rd"
  refine ⟨_, j.hd, rfl, rx, by omega, f3, fun H1 g1 => ?_⟩
  walk_at "rd"
  refine iteB (fun c2 => ?_) (fun c2 => ?_)
  · walk_at "rd"
    refine no _ g1 ?_
    have e : j.hd.all Tm.ok = false := by cases h : j.hd.all Tm.ok with | false => rfl | true => rw [h] at c2; cases c2
    unfold Jn.ok
    rw [e, Bool.and_false]; rfl
  have eh : j.hd.all Tm.ok = true := by cases h : j.hd.all Tm.ok with | true => rfl | false => rw [h] at c2; cases c2
  walk_at "rd"
  refine rd_it (same_sqt g1 sb) fun D hD => ?_
  refine lc_tup (K := K) (a := b) (xs := ys) (fun i H' => H' D = some (.lst (((j.bd.take i).map At.ok).map V.bl)) ∧ Same H1 H') ⟨upd_same, same_new hD⟩ (fun i H' _ p => same_sqt (g1.trans p.2) sb) ?_ ?_
  · rintro i x H' hx ⟨e1, g⟩
    obtain ⟨t0, et0, rt⟩ := rpa_at (same_rpa (g1.trans g) rb) hx
    obtain ⟨t, et, rfl⟩ := map_at et0
    refine ⟨rfl, ?_⟩
    walk_at "rd"
    refine ⟨_, t, rfl, rt, f4 t (List.mem_of_getElem? et), fun H2 g2 => ?_⟩
    refine ⟨_, g2 _ _ e1, ?_, ?_, same_own (g.trans g2) hD⟩
    · rw [List.length_map, List.length_map, List.length_take]; exact small1000 (by omega)
    · rw [upd_same, blist At.ok et]
  rintro H2 ⟨e1, g⟩
  rw [List.take_of_length_le (by omega)] at e1
  walk_at "rd"
  refine rd_all (SqL.of e1) ?_
  have e : (j.bd.map At.ok).all id = j.bd.all At.ok := by rw [List.all_map]; rfl
  rw [e]
  walk_at "rd"
  refine iteB (fun c3 => ?_) (fun c3 => ?_)
  · walk_at "rd"
    refine no _ (g1.trans g) ?_
    have e : j.bd.all At.ok = false := by cases h : j.bd.all At.ok with | false => rfl | true => rw [h] at c3; cases c3
    unfold Jn.ok
    rw [e, Bool.and_false]; rfl
  have eb : j.bd.all At.ok = true := by cases h : j.bd.all At.ok with | true => rfl | false => rw [h] at c3; cases c3
  walk_at "rd"
  have g12 := g1.trans g
  refine ⟨_, j.bd, rfl, same_rp g12 ry, f2, f4, fun B H3 hB g3 e3 => ?_⟩
  walk_at "rd"
  refine ⟨_, j.hd, rfl, same_rp (g12.trans g3) rx, by omega, fun C H4 hC g4 e4 => ?_⟩
  have lvh := vars_len j.hd
  refine rd_il (SqL.of e4) fun D2 hD2 => ?_
  have nB : B ≠ D2 := fun e => by rw [← e, g4 _ _ e3] at hD2; cases hD2
  have nC : C ≠ D2 := fun e => by rw [← e, e4] at hD2; cases hD2
  refine lc_list (K := K) (a := C) (xs := (varsT j.hd).map V.str) (fun i H' => H' D2 = some (.lst ((((varsT j.hd).take i).map fun z => decide (z ∈ varsB j.bd)).map V.bl)) ∧ Same H4 H') ⟨upd_same, same_new hD2⟩ (fun i H' _ p => SqL.of (p.2 _ _ e4)) ?_ ?_
  · rintro i x H' hx ⟨e5, g5⟩
    obtain ⟨z, ez, rfl⟩ := map_at hx
    refine ⟨rfl, ?_⟩
    walk_at "rd"
    refine rd_in (SqL.of (g5 _ _ (g4 _ _ e3))) rfl (strs_flat _) ?_
    rw [strs_inV]
    refine ⟨_, e5, ?_, ?_, same_own g5 hD2⟩
    · rw [List.length_map, List.length_map, List.length_take]; exact small1000 (by omega)
    · rw [upd_same, blist (fun z => decide (z ∈ varsB j.bd)) ez]
  rintro H5 ⟨e5, g5⟩
  rw [List.length_map, List.take_of_length_le (Nat.le_refl _)] at e5
  walk_at "rd"
  refine rd_all (SqL.of e5) ?_
  have e : j.ok n = ((varsT j.hd).map fun z => decide (z ∈ varsB j.bd)).all id := by
    unfold Jn.ok
    rw [decide_eq_true hw, decide_eq_true hb8, eh, eb, List.all_map]
    rfl
  rw [← e]
  exact q _ (((g12.trans g3).trans g4).trans g5)

end
section
variable {P : Program} {w : World} {K : PySem.W.Frag} {mg : Str → Option Value} {base : Heap}
/-- what is drawn, as data -/
theorem tm_of {PI : NWp} {t : TD} (h : termT PI t) : ∃ m : Tm, t = m.td ∧ m.fits ∧ m.ok = true := by
  rcases h with ⟨u, rfl, hu⟩ | ⟨z, rfl, hz⟩
  · cases u with
    | int i => exact ⟨.num i, rfl, trivial, rfl⟩
    | str z =>
      have hz : WordOk z := hu
      exact ⟨.wrd z, rfl, Nat.le_trans hz.2 (by decide), hz.1⟩
    | _ => cases hu
  · exact ⟨.var z, rfl, Nat.le_trans hz.1.2 (by decide), hz.1.1⟩
theorem tms_of {PI : NWp} : ∀ {ts : List TD}, (∀ t ∈ ts, termT PI t) → ∃ ms : List Tm, ts = ms.map Tm.td ∧ (∀ m ∈ ms, m.fits) ∧ ms.all Tm.ok = true
  | [], _ => ⟨[], rfl, fun _ h => (nomatch h), rfl⟩
  | t :: r, h => by
    obtain ⟨m, e, f, o⟩ := tm_of (h t List.mem_cons_self)
    obtain ⟨ms, e2, f2, o2⟩ := tms_of fun x hx => h x (List.mem_cons_of_mem _ hx)
    refine ⟨m :: ms, by rw [e, e2]; rfl, fun x hx => ?_, by rw [List.all_cons, o, o2]; rfl⟩
    rcases List.mem_cons.mp hx with q | q
    · rw [q]; exact f
    · exact f2 x q
theorem at_of {PI : NWp} {n : Nat} (hn : n ≤ 8) {t : TD} (h : atomT PI n t) : ∃ a : At, t = a.td ∧ a.fits ∧ a.ok = true := by
  obtain ⟨z, ts, rfl, zo, l, ht⟩ := h
  obtain ⟨ms, rfl, f, o⟩ := tms_of ht
  rw [List.length_map] at l
  exact ⟨⟨z, ms⟩, rfl, ⟨Nat.le_trans zo.2 (by decide), Nat.le_trans l (by omega), f⟩, by unfold At.ok; rw [zo.1, o, decide_eq_true (Nat.le_trans l hn)]; rfl⟩
theorem ats_of {PI : NWp} {n : Nat} (hn : n ≤ 8) : ∀ {ts : List TD}, (∀ t ∈ ts, atomT PI n t) → ∃ ms : List At, ts = ms.map At.td ∧ (∀ m ∈ ms, m.fits) ∧ ms.all At.ok = true
  | [], _ => ⟨[], rfl, fun _ h => (nomatch h), rfl⟩
  | t :: r, h => by
    obtain ⟨m, e, f, o⟩ := at_of hn (h t List.mem_cons_self)
    obtain ⟨ms, e2, f2, o2⟩ := ats_of hn fun x hx => h x (List.mem_cons_of_mem _ hx)
    refine ⟨m :: ms, by rw [e, e2]; rfl, fun x hx => ?_, by rw [List.all_cons, o, o2]; rfl⟩
    rcases List.mem_cons.mp hx with q | q
    · rw [q]; exact f
    · exact f2 x q
theorem var_in {z : Str} {ts : List Tm} (h : (TD.tup [.str "var", .str z]) ∈ ts.map Tm.td) : z ∈ varsT ts := by
  obtain ⟨m, hm, e⟩ := List.mem_map.mp h
  cases m with
  | var y =>
    have : y = z := by unfold Tm.td at e; injection e with e; injection e with _ e; injection e with e; injection e
    subst this
    exact List.mem_filterMap.mpr ⟨_, hm, rfl⟩
  | num i => unfold Tm.td at e; injection e with e; injection e with e _; injection e with e; exact absurd e (by decide +kernel)
  | wrd i => unfold Tm.td at e; injection e with e; injection e with e _; injection e with e; exact absurd e (by decide +kernel)
theorem heads_of {PI : NWp} {bd : List At} : ∀ {ts : List TD}, (∀ t ∈ ts, headT PI (bd.map At.td) t) → ∃ ms : List Tm, ts = ms.map Tm.td ∧ (∀ m ∈ ms, m.fits) ∧ ms.all Tm.ok = true ∧ ∀ z ∈ varsT ms, z ∈ varsB bd
  | [], _ => ⟨[], rfl, fun _ h => (nomatch h), rfl, fun _ h => (nomatch h)⟩
  | t :: r, h => by
    obtain ⟨ms, e2, f2, o2, v2⟩ := heads_of fun x hx => h x (List.mem_cons_of_mem _ hx)
    have one : ∃ m : Tm, t = m.td ∧ m.fits ∧ m.ok = true ∧ ∀ z, m.nm? = some z → z ∈ varsB bd := by
      rcases h t List.mem_cons_self with ⟨u, rfl, hu⟩ | ⟨⟨z, rfl, hz⟩, y, ts, hy, hin⟩
      · obtain ⟨m, e, f, o⟩ := tm_of (PI := PI) (.inl ⟨u, rfl, hu⟩)
        refine ⟨m, e, f, o, fun z hz => ?_⟩
        cases m with
        | var y => unfold Tm.td at e; injection e with e; injection e with e _; injection e with e; exact absurd e (by decide +kernel)
        | num i => cases hz
        | wrd i => cases hz
      · refine ⟨.var z, rfl, Nat.le_trans hz.1.2 (by decide), hz.1.1, fun x hx => ?_⟩
        have : z = x := Option.some.inj hx
        subst this
        obtain ⟨a, ha, e⟩ := List.mem_map.mp hy
        refine List.mem_flatMap.mpr ⟨a, ha, ?_⟩
        unfold At.td at e
        injection e with e
        injection e with _ e
        injection e with e
        injection e with e
        rw [← e] at hin
        exact var_in hin
    obtain ⟨m, e, f, o, v⟩ := one
    refine ⟨m :: ms, by rw [e, e2]; rfl, fun x hx => ?_, by rw [List.all_cons, o, o2]; rfl, fun z hz => ?_⟩
    · rcases List.mem_cons.mp hx with q | q
      · rw [q]; exact f
      · exact f2 x q
    · unfold varsT at hz
      rw [List.filterMap_cons] at hz
      cases en : m.nm? with
      | none => rw [en] at hz; exact v2 z hz
      | some y =>
        rw [en] at hz
        rcases List.mem_cons.mp hz with q | q
        · rw [q]; exact v y en
        · exact v2 z q
theorem jn_of {PI : NWp} {n : Nat} (hn : n ≤ 8) {t : TD} (h : joinT PI n 8 8 t) : ∃ j : Jn, t = j.td ∧ j.fits ∧ j.ok n = true := by
  obtain ⟨hd, bd, rfl, l1, l2, hb, hh⟩ := h
  obtain ⟨as, rfl, fa, oa⟩ := ats_of (Nat.le_refl _) hb
  obtain ⟨ms, rfl, fm, om, vm⟩ := heads_of hh
  rw [List.length_map] at l1 l2
  refine ⟨⟨ms, as⟩, rfl, ⟨Nat.le_trans (m := 8) (Nat.le_trans (Nat.le_of_eq l1) hn) (by decide), Nat.le_trans l2 (by decide), fm, fa⟩, ?_⟩
  unfold Jn.ok
  have ev : ((varsT ms).all fun z => decide (z ∈ varsB as)) = true := List.all_eq_true.mpr fun z hz => decide_eq_true (vm z hz)
  show (decide ((ms.length : Int) = (n : Int)) && decide (as.length ≤ 8) && ms.all Tm.ok && as.all At.ok && _) = true
  rw [decide_eq_true (by omega : (ms.length : Int) = (n : Int)), decide_eq_true l2, om, oa]
  exact ev
theorem jns_of {PI : NWp} {n : Nat} (hn : n ≤ 8) : ∀ {ts : List TD}, (∀ t ∈ ts, joinT PI n 8 8 t) → ∃ js : List Jn, ts = js.map Jn.td ∧ (∀ j ∈ js, j.fits) ∧ ∀ j ∈ js, j.ok n = true
  | [], _ => ⟨[], rfl, fun _ h => (nomatch h), fun _ h => (nomatch h)⟩
  | t :: r, h => by
    obtain ⟨m, e, f, o⟩ := jn_of hn (h t List.mem_cons_self)
    obtain ⟨ms, e2, f2, o2⟩ := jns_of hn fun x hx => h x (List.mem_cons_of_mem _ hx)
    refine ⟨m :: ms, by rw [e, e2]; rfl, fun x hx => ?_, fun x hx => ?_⟩
    · rcases List.mem_cons.mp hx with q | q
      · rw [q]; exact f
      · exact f2 x q
    · rcases List.mem_cons.mp hx with q | q
      · rw [q]; exact o
      · exact o2 x q

end
section
variable {P : Program} {w : World} {K : PySem.W.Frag} {mg : Str → Option Value} {base : Heap}
def spStrangeTerm (K : PySem.W.Frag) : Sp := fun vs H Q _ => ∃ (d L : Addr) (ws : List Str), vs = [.ref d, .ref L] ∧ DrAt d H ∧ Wl d L ws H ∧ ws ≠ [] ∧
  ∀ (v : V) (t : Tm) (H' : Hp), Dr d H H' → Rp K H' v t.td → t.fits → t.ok = false → Q v H'
theorem ok_strangeTerm (T : Tx mg)  {f f1 f2 : Addr} {fd d1 d2 : FuncData} (F : Dn K mg "_law_strange_term" sLStrangeTerm ["draws", "words"] f fd)
    (DLPick : Dn K mg "_law_pick" sLPick ["draws", "row"] f1 d1) (GLPick : FnOk P w K mg base CX0 2 f1 d1 ["draws", "row"] (spPick K))
    (DLStrange : Dn K mg "_law_strange" sLStrange ["draws", "word"] f2 d2) (GLStrange : FnOk P w K mg base CX0 3 f2 d2 ["draws", "word"] spStrange) :
    FnOk P w K mg base CX0 4 f fd ["draws", "words"] (spStrangeTerm K) := by
  refine F.F.ok scLStrangeTerm (fun vs H Q E h => ?_) (fun cdv A outer s H vs Q E hr h => ?_)
  · obtain ⟨d, L, ws, rfl, _⟩ := h
    rfl
  obtain ⟨d, L, ws, rfl, hd, wl, ne, q⟩ := h
  have nd := scLStrangeTerm.nd
  refine ⟨_, (pss_one (ps_ret (pe_tup (pa_cons (pe_call GLPick (hr.mono (by omega)) rfl DLPick.m DLPick.F.kp DLPick.b .nil pass0 (pa_cons (pv 0) (pa_cons (pe_lst (pa_cons pe_str (pa_cons pe_str pa_nil))) pa_nil))) (pa_cons (pe_call GLStrange (hr.mono (by omega)) rfl DLStrange.m DLStrange.F.kp DLStrange.b .nil pass0 (pa_cons (pv 0) (pa_cons (pe_call GLPick (hr.mono (by omega)) rfl DLPick.m DLPick.F.kp DLPick.b .nil pass0 (pa_cons (pv 0) (pa_cons (pv 1) pa_nil))) pa_nil))) pa_nil))))), ?_⟩
  walk_at "rd"
  refine rd_mk (len_ok rfl) fun p H1 n1 e1 s1 => ?_
  walk_at "rd"
  have g0 := Dr.refl hd
  have g1 := g0.same s1
  refine ⟨d, p, _, rfl, g1.isD, e1, g0.ne_new n1, fun e => (nomatch e), fun v H2 g2 mv => ?_⟩
  have g12 := g1.trans g2
  walk_at "rd"
  refine ⟨d, L, _, rfl, g2.isD, (wl.dr g12).at_, wl.ne, by simpa using ne, fun u H3 g3 mu => ?_⟩
  obtain ⟨z, rfl, mz⟩ := strs_mem mu
  walk_at "rd"
  have g13 := g12.trans g3
  refine ⟨d, z, rfl, g3.isD, Nat.le_trans (wl.ok z mz).2 (by decide), fun x H4 g4 bx lx => ?_⟩
  walk_at "rd"
  have g14 := g13.trans g4
  refine rd_mk (len_ok rfl) fun tq H5 n5 e5 s5 => ?_
  have g15 := g14.same s5
  simp only [List.mem_cons, List.not_mem_nil, or_false] at mv
  rcases mv with e | e
  · subst e
    exact q _ (.var x) _ g15 (rp_pair (SqT.of e5) (.str x)) (Nat.le_trans lx (by decide)) bx
  · subst e
    exact q _ (.wrd x) _ g15 (rp_pair (SqT.of e5) (.str x)) (Nat.le_trans lx (by decide)) bx

end
section
variable {P : Program} {w : World} {K : PySem.W.Frag} {mg : Str → Option Value} {base : Heap}
/-! a join with one fault -/
def PI0 : NWp := ⟨fun _ => True, fun _ => True⟩
theorem hyp0 (ns : List Int) (ws : List Str) : Hyp PI0 ns ws := ⟨fun _ _ => trivial, fun _ _ => trivial⟩
theorem at_of3 {n : Nat} (hn : n ≤ 8) {t : TD} (h : atomT PI0 n t) : ∃ a : At, t = a.td ∧ a.fits ∧ a.ok = true ∧ a.ts.length ≤ n ∧ a.nm.length ≤ 23 := by
  have h' := h
  obtain ⟨z, ts, rfl, zo, l, ht⟩ := h
  obtain ⟨a, e, f, o⟩ := at_of hn h'
  refine ⟨a, e, f, o, ?_, ?_⟩
  · unfold At.td at e
    injection e with e
    injection e with _ e
    injection e with e
    injection e with e
    rw [e, List.length_map] at l
    exact l
  · unfold At.td at e
    injection e with e
    injection e with e _
    injection e with e
    rw [← e]; exact zo.2
theorem ok_parts {w : Int} {j : Jn} (h : Jn.ok w j = true) : (j.hd.length : Int) = w ∧ j.bd.length ≤ 8 ∧ (∀ t ∈ j.hd, t.ok = true) ∧ (∀ a ∈ j.bd, a.ok = true) ∧ ∀ z ∈ varsT j.hd, z ∈ varsB j.bd := by
  unfold Jn.ok at h
  simp only [Bool.and_eq_true, decide_eq_true_eq, List.all_eq_true] at h
  exact ⟨h.1.1.1.1, h.1.1.1.2, h.1.1.2, h.1.2, h.2⟩
theorem no_of {b : Bool} (h : b = true → False) : b = false := by
  cases b with
  | false => rfl
  | true => exact (h rfl).elim
theorem at_long {a : At} (h : 8 < a.ts.length) : a.ok = false := no_of fun e => by
  unfold At.ok at e
  simp only [Bool.and_eq_true, decide_eq_true_eq] at e
  omega
theorem at_term {a : At} {t : Tm} (h : t ∈ a.ts) (n : t.ok = false) : a.ok = false := no_of fun e => by
  unfold At.ok at e
  simp only [Bool.and_eq_true, decide_eq_true_eq, List.all_eq_true] at e
  rw [e.2.2 t h] at n
  cases n
theorem at_name {a : At} (h : wordB a.nm = false) : a.ok = false := no_of fun e => by
  unfold At.ok at e
  simp only [Bool.and_eq_true, decide_eq_true_eq, List.all_eq_true] at e
  rw [e.1] at h
  cases h
theorem tm_inj {a b : Tm} (h : a.td = b.td) : a = b := by
  cases a <;> cases b <;> (unfold Tm.td at h; injection h with h; injection h with h1 h2; injection h2 with h2 _) <;> first
    | (exfalso; injection h1 with h1; exact absurd h1 (by decide +kernel))
    | (exfalso; cases h2; done)
    | (injection h2 with h2; rw [h2])
def isVar (z : Str) : Tm → Bool
  | .var y => y == z
  | _ => false
def Tm.py : Tm → PyData
  | .var z => .tuple [.str "var", .str z]
  | .num i => .tuple [.str "value", .int i]
  | .wrd z => .tuple [.str "value", .str z]
theorem eqv_var (z : Str) (m : Tm) : PyData.eqv m.py (Tm.var z).py = isVar z m := by
  cases m with
  | var y => show ((("var" : Str) == "var") && ((y == z) && true)) = (y == z); rw [Bool.and_true, beq_self_eq_true, Bool.true_and]
  | num i => show ((("value" : Str) == "var") && (false && true)) = false; rw [Bool.false_and, Bool.and_false]
  | wrd y => show ((("value" : Str) == "var") && ((y == z) && true)) = false; rw [show (("value" : Str) == "var") = false by decide +kernel, Bool.false_and]
theorem str_ok {z : Str} (h : wordB z = true) : PyData.strOk z = true := by
  unfold wordB at h
  rw [Bool.and_eq_true, List.all_eq_true] at h
  unfold PyData.strOk
  rw [Array.all_eq_true_iff_forall_mem]
  intro c hc
  have m := of_decide_eq_true (h.1 c (by show c ∈ z.cps.toList; exact Array.mem_toList_iff.mpr hc))
  rw [abc_is] at m
  simp only [List.mem_cons, List.not_mem_nil, or_false] at m
  exact decide_eq_true (by omega)
theorem py_lay {m : Tm} (h : m.ok = true) : m.py.canLay0 = true := by
  cases m with
  | var y => show (PyData.strOk "var" && (PyData.strOk y && true)) = true; rw [str_ok h, show PyData.strOk "var" = true by decide +kernel]; rfl
  | num i => show (PyData.strOk "value" && (true && true)) = true; rw [show PyData.strOk "value" = true by decide +kernel]; rfl
  | wrd y => show (PyData.strOk "value" && (PyData.strOk y && true)) = true; rw [str_ok h, show PyData.strOk "value" = true by decide +kernel]; rfl
theorem py_depth (m : Tm) : m.py.depth = 1 := by cases m <;> rfl
theorem py_lays : ∀ ms : List Tm, (∀ m ∈ ms, m.ok = true) → PyData.canLayAll0 (ms.map Tm.py) = true
  | [], _ => rfl
  | m :: r, h => by
    show (m.py.canLay0 && PyData.canLayAll0 (r.map Tm.py)) = true
    rw [py_lay (h m List.mem_cons_self), py_lays r fun x hx => h x (List.mem_cons_of_mem _ hx)]; rfl
theorem py_depths : ∀ ms : List Tm, PyData.depthAll (ms.map Tm.py) ≤ 1
  | [] => Nat.zero_le _
  | m :: r => by
    show max m.py.depth (PyData.depthAll (r.map Tm.py)) ≤ 1
    have := py_depths r
    rw [py_depth]; omega
theorem py_shape {m : Tm} (h : m.ok = true) : SeqAt.shaped m.py = true := by
  unfold SeqAt.shaped
  rw [py_lay h, py_depth]; rfl
theorem py_shapes {ms : List Tm} (h : ∀ m ∈ ms, m.ok = true) : SeqAt.shaped (.list (ms.map Tm.py)) = true := by
  unfold SeqAt.shaped
  rw [show (PyData.list (ms.map Tm.py)).canLay0 = true from py_lays ms h, Bool.true_and]
  exact decide_eq_true (show PyData.depthAll (ms.map Tm.py) + 1 ≤ 64 by have := py_depths ms; omega)
section
variable {K : PySem.W.Frag} {H : Hp}
theorem Rp.dp {v : V} {m : Tm} (r : Rp K H v m.td) : Dp K H v m.py := by
  rcases r.tm with ⟨a, z, rfl, rfl, s⟩ | ⟨a, i, rfl, rfl, s⟩ | ⟨a, z, rfl, rfl, s⟩
  · exact .tup s (.cons (.str _) (.cons (.str _) .nil))
  · exact .tup s (.cons (.str _) (.cons (.int _) .nil))
  · exact .tup s (.cons (.str _) (.cons (.str _) .nil))
theorem RpA.dp : ∀ {ms : List Tm} {vs : List V}, RpA K H vs (ms.map Tm.td) → DpAll K H vs (ms.map Tm.py)
  | [], _, r => by cases r; exact .nil
  | m :: r, _, h => by
    cases h with
    | cons a b => exact .cons (Rp.dp a) (RpA.dp b)
end
/-- the terms of a body -/
def termsB (bd : List At) : List Tm := bd.flatMap At.ts
theorem terms_len : ∀ (bd : List At), (∀ a ∈ bd, a.fits) → (termsB bd).length ≤ bd.length * 20
  | [], _ => Nat.zero_le _
  | a :: r, h => by
    unfold termsB
    rw [List.flatMap_cons, List.length_append, List.length_cons, Nat.add_mul, Nat.one_mul]
    have h2 := (h a List.mem_cons_self).2.1
    have h3 := terms_len r fun x hx => h x (List.mem_cons_of_mem _ hx)
    unfold termsB at h3
    omega
theorem var_any {z : Str} {bd : List At} (h : z ∈ varsB bd) : (termsB bd).any (isVar z) = true := by
  obtain ⟨a, ha, hz⟩ := List.mem_flatMap.mp h
  obtain ⟨t, ht, e⟩ := List.mem_filterMap.mp hz
  rw [List.any_eq_true]
  refine ⟨t, List.mem_flatMap.mpr ⟨a, ha, ht⟩, ?_⟩
  cases t with
  | var y => rw [Option.some.inj e]; exact beq_self_eq_true z
  | num i => cases e
  | wrd y => cases e
theorem any_var {z : Str} {bd : List At} (h : (termsB bd).any (isVar z) = true) : z ∈ varsB bd := by
  rw [List.any_eq_true] at h
  obtain ⟨t, ht, e⟩ := h
  obtain ⟨a, ha, hta⟩ := List.mem_flatMap.mp ht
  refine List.mem_flatMap.mpr ⟨a, ha, List.mem_filterMap.mpr ⟨t, hta, ?_⟩⟩
  cases t with
  | var y => exact congrArg some (eq_of_beq e)
  | num i => cases e
  | wrd y => cases e
theorem filter_snocS {l : List Str} {i : Nat} {z : Str} (h : l[i]? = some z) (f : Str → Bool) : (l.take (i + 1)).filter f = (l.take i).filter f ++ if f z = true then [z] else [] := filter_snoc h f
def spWrong (K : PySem.W.Frag) : Sp := fun vs H Q _ => ∃ (d a L : Addr) (width : Nat) (v : V) (ns : List Int) (ws : List Str) (hds : List Tm) (bds : List At), vs = [.ref d, .ref a, .ref L, .int width, v] ∧ DrAt d H ∧ Sc K H d a ns ∧ ns.length ≤ 63 ∧ Wl d L ws H ∧ ws.length = 10 ∧ ws.Nodup ∧
  Rp K H v (Jn.td ⟨hds, bds⟩) ∧ Jn.fits ⟨hds, bds⟩ ∧ Jn.ok width ⟨hds, bds⟩ = true ∧ width ≤ 8 ∧ (∀ z ∈ varsB bds, z ∈ ws.take 5) ∧
  ∀ (v' : V) (j' : Jn) (H' : Hp), Dr d H H' → Rp K H' v' j'.td → j'.fits → j'.ok width = false → Q v' H'
set_option maxHeartbeats 8000000 in
theorem ok_wrong (T : Tx mg)  {f f1 f2 f3 f4 f5 f6 f7 : Addr} {fd d1 d2 d3 d4 d5 d6 d7 : FuncData} (F : Dn K mg "_law_wrong_join" sLWrongJoin ["draws", "script", "words", "width", "join"] f fd)
    (DLTake : Dn K mg "_law_take" sLTake ["draws", "many"] f1 d1) (GLTake : FnOk P w K mg base CX0 1 f1 d1 ["draws", "many"] spTake)
    (DLPick : Dn K mg "_law_pick" sLPick ["draws", "row"] f2 d2) (GLPick : FnOk P w K mg base CX0 2 f2 d2 ["draws", "row"] (spPick K))
    (DLAnyValue : Dn K mg "_law_any_value" sLAnyValue ["draws", "script", "words"] f3 d3) (GLAnyValue : FnOk P w K mg base CX0 4 f3 d3 ["draws", "script", "words"] (spValue PI0 K))
    (DLAnyAtom : Dn K mg "_law_any_atom" sLAnyAtom ["draws", "script", "words", "most"] f4 d4) (GLAnyAtom : FnOk P w K mg base CX0 6 f4 d4 ["draws", "script", "words", "most"] (spAtom PI0 K))
    (DLStrange : Dn K mg "_law_strange" sLStrange ["draws", "word"] f5 d5) (GLStrange : FnOk P w K mg base CX0 3 f5 d5 ["draws", "word"] spStrange)
    (DLStrangeTerm : Dn K mg "_law_strange_term" sLStrangeTerm ["draws", "words"] f6 d6) (GLStrangeTerm : FnOk P w K mg base CX0 4 f6 d6 ["draws", "words"] (spStrangeTerm K))
    (DLPutIn : Dn K mg "_law_put_in" sLPutIn ["draws", "row", "thing"] f7 d7) (GLPutIn : FnOk P w K mg base CX0 2 f7 d7 ["draws", "row", "thing"] (spPutIn K)) :
    FnOk P w K mg base CX0 7 f fd ["draws", "script", "words", "width", "join"] (spWrong K) := by
  refine F.F.ok scLWrongJoin (fun vs H Q E h => ?_) (fun cdv A outer s H vs Q E hr h => ?_)
  · obtain ⟨d, a, L, width, v, ns, ws, hds, bds, rfl, _⟩ := h
    rfl
  obtain ⟨d, a, L, width, v, ns, ws, hds, bds, rfl, hd, hS, h63, wl, h10, hnd, rv, fj, oj, w8, vb, q⟩ := h
  have nd := scLWrongJoin.nd
  refine ⟨_, (pss_cons (ps_set (i := 5) nd rfl (Or.inl rfl) (pe_call GLTake (hr.mono (by omega)) rfl DLTake.m DLTake.F.kp DLTake.b .nil pass0 (pa_cons (pv 0) (pa_cons pe_int pa_nil))))
  (pss_cons (ps_set (i := 6) nd rfl (Or.inr rfl) (pe_call GLAnyAtom (hr.mono (by omega)) rfl DLAnyAtom.m DLAnyAtom.F.kp DLAnyAtom.b .nil pass0 (pa_cons (pv 0) (pa_cons (pv 1) (pa_cons (pv 2) (pa_cons pe_int pa_nil))))))
  (pss_cons (ps_if (pt_cmpR op_eq (pv 5) pe_int (nomark _)) (pss_cons (ps_if (PW.pt (pw_and (pt_cmpR op_gt (pv 3) pe_int (nomark _)) (pw_and1 (pt_cmpR op_eq (pe_call GLTake (hr.mono (by omega)) rfl DLTake.m DLTake.F.kp DLTake.b .nil pass0 (pa_cons (pv 0) (pa_cons pe_int pa_nil))) pe_int (nomark _))))) (pss_one (ps_ret (pe_tup (pa_cons (pe_slice (k_slA K rfl) (pe_ix (k_ixT K rfl) (pv 4) pe_int (fun _ _ => rfl)) (po_some pe_int) po_none) (pa_cons (pe_ix (k_ixT K rfl) (pv 4) pe_int (fun _ _ => rfl)) pa_nil))))) pss_nil)
  (pss_one (ps_ret (pe_tup (pa_cons (pe_op (k_catA K rfl) (pe_ix (k_ixT K rfl) (pv 4) pe_int (fun _ _ => rfl)) (pe_tup (pa_cons (pe_tup (pa_cons pe_str (pa_cons (pe_call GLAnyValue (hr.mono (by omega)) rfl DLAnyValue.m DLAnyValue.F.kp DLAnyValue.b .nil pass0 (pa_cons (pv 0) (pa_cons (pv 1) (pa_cons (pv 2) pa_nil)))) pa_nil))) pa_nil))) (pa_cons (pe_ix (k_ixT K rfl) (pv 4) pe_int (fun _ _ => rfl)) pa_nil)))))) pss_nil)
  (C8.pss_cut (ps_if (PW.pt (pw_and (pt_cmpR op_eq (pv 5) pe_int (nomark _)) (pw_and1 (pt_cmpR op_gt (pv 3) pe_int (nomark _))))) (pss_cons (ps_set (i := 7) nd rfl (Or.inr rfl) (pe_lst pa_nil))
  (pss_cons (ps_for PassesOwn.never rfl (k_pit K rfl (pe_ix (k_ixT K rfl) (pv 4) pe_int (fun _ _ => rfl))) (pg_name (i := 8) nd rfl (Or.inl rfl)) (pss_one (ps_set (i := 7) nd rfl (Or.inr rfl) (pe_op op_cat (pv 7) (pe_callTy (k_list K rfl) rfl T.m_list (by decide +kernel) (pa_cons (pe_ix (k_ixT K rfl) (pv 8) pe_int (fun _ _ => rfl)) pa_nil))))))
  (pss_cons (ps_setLc (i := 9) (own := [("word", (10 : Nat))]) (g := gName 10) rfl nd rfl rfl (sw_true rfl rfl rfl (by decide +kernel)) (k_pil K rfl (pv 2)) (blkOk_by (own := [("word", (10 : Nat))]) (N := nLWrongJoin) (sc := defScope sLWrongJoin) (by decide +kernel)) (fun _ _ _ _ _ => pg_name (i := 10) nd rfl (Or.inl rfl)) (fun _ _ _ _ _ => (pts_one (pt_cmpR (k_notInD K rfl (hu65 hr)) (pe_tup (pa_cons pe_str (pa_cons (pv 10) pa_nil))) (pv 7) rfl))) (fun _ _ _ _ _ => (pe_tup (pa_cons pe_str (pa_cons (pv 10) pa_nil)))))
  (pss_cons (ps_set (i := 11) nd rfl (Or.inl rfl) (pe_call GLTake (hr.mono (by omega)) rfl DLTake.m DLTake.F.kp DLTake.b .nil pass0 (pa_cons (pv 0) (pa_cons (pv 3) pa_nil))))
  (pss_one (ps_ret (pe_tup (pa_cons (pe_op (k_catA K rfl) (pe_op (k_catA K rfl) (pe_slice (k_slA K rfl) (pe_ix (k_ixT K rfl) (pv 4) pe_int (fun _ _ => rfl)) po_none (po_some (pv 11))) (pe_tup (pa_cons (pe_call GLPick (hr.mono (by omega)) rfl DLPick.m DLPick.F.kp DLPick.b .nil pass0 (pa_cons (pv 0) (pa_cons (pv 9) pa_nil))) pa_nil))) (pe_slice (k_slA K rfl) (pe_ix (k_ixT K rfl) (pv 4) pe_int (fun _ _ => rfl)) (po_some (pe_op op_add (pv 11) pe_int)) po_none)) (pa_cons (pe_ix (k_ixT K rfl) (pv 4) pe_int (fun _ _ => rfl)) pa_nil))))))))) pss_nil)
  (pss_cons (ps_if (pt_cmpR op_eq (pv 5) pe_int (nomark _)) (pss_cons (ps_set (i := 12) nd rfl (Or.inl rfl) (pe_op (k_catA K rfl) (pe_ix (k_ixT K rfl) (pv 4) pe_int (fun _ _ => rfl)) (pe_callTy (k_tuple K rfl) rfl T.m_tuple (by decide +kernel) (pa_cons (pe_lc (own := [("k", (13 : Nat))]) (g := gName 13) rfl nd (pi_range1 rfl T.m_range (pa_cons (pe_op op_sub pe_int (pe_callB (k_len K rfl) rfl T.m_len PySem.boot_len (pa_cons (pe_ix (k_ixT K rfl) (pv 4) pe_int (fun _ _ => rfl)) pa_nil))) pa_nil)) (blkOk_by (own := [("k", (13 : Nat))]) (N := nLWrongJoin) (sc := defScope sLWrongJoin) (by decide +kernel)) (fun _ _ _ _ _ => pg_name (i := 13) nd rfl (Or.inl rfl)) (fun _ _ _ _ _ => pts_nil) (fun _ _ _ _ _ => (pv 6))) pa_nil))))
  (pss_one (ps_ret (pe_tup (pa_cons (pe_ix (k_ixT K rfl) (pv 4) pe_int (fun _ _ => rfl)) (pa_cons (pe_op (k_catA K rfl) (pv 12) (pe_slice (k_slA K rfl) (pv 12) po_none (po_some (pe_call GLTake (hr.mono (by omega)) rfl DLTake.m DLTake.F.kp DLTake.b .nil pass0 (pa_cons (pv 0) (pa_cons pe_int pa_nil)))))) pa_nil)))))) pss_nil)
  (pss_cons (ps_if (pt_cmpR op_eq (pv 5) pe_int (nomark _)) (pss_one (ps_ret (pe_tup (pa_cons (pe_ix (k_ixT K rfl) (pv 4) pe_int (fun _ _ => rfl)) (pa_cons (pe_op (k_catA K rfl) (pe_ix (k_ixT K rfl) (pv 4) pe_int (fun _ _ => rfl)) (pe_tup (pa_cons (pe_tup (pa_cons (pe_call GLStrange (hr.mono (by omega)) rfl DLStrange.m DLStrange.F.kp DLStrange.b .nil pass0 (pa_cons (pv 0) (pa_cons (pe_ix (k_ixT K rfl) (pv 6) pe_int (fun _ _ => rfl)) pa_nil))) (pa_cons (pe_ix (k_ixT K rfl) (pv 6) pe_int (fun _ _ => rfl)) pa_nil))) pa_nil))) pa_nil))))) pss_nil)
  (C8.pss_cut (ps_if (PW.pt (pw_and (pt_cmpR op_eq (pv 5) pe_int (nomark _)) (pw_and1 (pt_cmpR op_gt (pv 3) pe_int (nomark _))))) (pss_cons (ps_set (i := 11) nd rfl (Or.inl rfl) (pe_call GLTake (hr.mono (by omega)) rfl DLTake.m DLTake.F.kp DLTake.b .nil pass0 (pa_cons (pv 0) (pa_cons (pv 3) pa_nil))))
  (pss_one (ps_ret (pe_tup (pa_cons (pe_op (k_catA K rfl) (pe_op (k_catA K rfl) (pe_slice (k_slA K rfl) (pe_ix (k_ixT K rfl) (pv 4) pe_int (fun _ _ => rfl)) po_none (po_some (pv 11))) (pe_tup (pa_cons (pe_call GLStrangeTerm (hr.mono (by omega)) rfl DLStrangeTerm.m DLStrangeTerm.F.kp DLStrangeTerm.b .nil pass0 (pa_cons (pv 0) (pa_cons (pv 2) pa_nil))) pa_nil))) (pe_slice (k_slA K rfl) (pe_ix (k_ixT K rfl) (pv 4) pe_int (fun _ _ => rfl)) (po_some (pe_op op_add (pv 11) pe_int)) po_none)) (pa_cons (pe_ix (k_ixT K rfl) (pv 4) pe_int (fun _ _ => rfl)) pa_nil)))))) pss_nil)
  (pss_cons (ps_if (pt_cmpR op_eq (pv 5) pe_int (nomark _)) (pss_cons (ps_set (i := 14) nd rfl (Or.inl rfl) (pe_op (k_catA K rfl) (pe_ix (k_ixT K rfl) (pv 6) pe_int (fun _ _ => rfl)) (pe_callTy (k_tuple K rfl) rfl T.m_tuple (by decide +kernel) (pa_cons (pe_lc (own := [("k", (13 : Nat))]) (g := gName 13) rfl nd (pi_range1 rfl T.m_range (pa_cons (pe_op op_sub pe_int (pe_callB (k_len K rfl) rfl T.m_len PySem.boot_len (pa_cons (pe_ix (k_ixT K rfl) (pv 6) pe_int (fun _ _ => rfl)) pa_nil))) pa_nil)) (blkOk_by (own := [("k", (13 : Nat))]) (N := nLWrongJoin) (sc := defScope sLWrongJoin) (by decide +kernel)) (fun _ _ _ _ _ => pg_name (i := 13) nd rfl (Or.inl rfl)) (fun _ _ _ _ _ => pts_nil) (fun _ _ _ _ _ => (pe_tup (pa_cons pe_str (pa_cons (pv 13) pa_nil))))) pa_nil))))
  (pss_one (ps_ret (pe_tup (pa_cons (pe_ix (k_ixT K rfl) (pv 4) pe_int (fun _ _ => rfl)) (pa_cons (pe_op (k_catA K rfl) (pe_ix (k_ixT K rfl) (pv 4) pe_int (fun _ _ => rfl)) (pe_tup (pa_cons (pe_tup (pa_cons (pe_ix (k_ixT K rfl) (pv 6) pe_int (fun _ _ => rfl)) (pa_cons (pe_op (k_catA K rfl) (pv 14) (pe_slice (k_slA K rfl) (pv 14) po_none (po_some (pe_call GLTake (hr.mono (by omega)) rfl DLTake.m DLTake.F.kp DLTake.b .nil pass0 (pa_cons (pv 0) (pa_cons pe_int pa_nil)))))) pa_nil))) pa_nil))) pa_nil)))))) pss_nil)
  (pss_one (ps_ret (pe_tup (pa_cons (pe_ix (k_ixT K rfl) (pv 4) pe_int (fun _ _ => rfl)) (pa_cons (pe_op (k_catA K rfl) (pe_ix (k_ixT K rfl) (pv 4) pe_int (fun _ _ => rfl)) (pe_tup (pa_cons (pe_tup (pa_cons (pe_ix (k_ixT K rfl) (pv 6) pe_int (fun _ _ => rfl)) (pa_cons (pe_call GLPutIn (hr.mono (by omega)) rfl DLPutIn.m DLPutIn.F.kp DLPutIn.b .nil pass0 (pa_cons (pv 0) (pa_cons (pe_ix (k_ixT K rfl) (pv 6) pe_int (fun _ _ => rfl)) (pa_cons (pe_call GLStrangeTerm (hr.mono (by omega)) rfl DLStrangeTerm.m DLStrangeTerm.F.kp DLStrangeTerm.b .nil pass0 (pa_cons (pv 0) (pa_cons (pv 2) pa_nil))) pa_nil)))) pa_nil))) pa_nil))) pa_nil))))))))))))), ?_⟩
  obtain ⟨ol, ob, oh, oa, ov⟩ := ok_parts oj
  obtain ⟨fh, fb, fht, fba⟩ := fj
  have ne : ws ≠ [] := fun e => by rw [e] at h10; cases h10
  obtain ⟨p, vx, vy, rfl, sq0, rh0, rb0⟩ := rv.duo
  have fin : ∀ (tq : Addr) (H9 : Hp) (x y : V) (hs : List Tm) (bs : List At), Dr d H H9 → SqT K H9 tq [x, y] → Rp K H9 x (.tup (hs.map Tm.td)) → Rp K H9 y (.tup (bs.map At.td)) → Jn.fits ⟨hs, bs⟩ → Jn.ok width ⟨hs, bs⟩ = false → Q (.ref tq) H9 := fun tq H9 x y hs bs g s r1 r2 f o => q _ ⟨hs, bs⟩ _ g (.tup s (.cons r1 (.cons r2 .nil))) f o
  have b20 : bds.length ≤ 8 := ob
  have h20 : hds.length = width := by have : (hds.length : Int) = width := ol; omega
  walk_at "rd"
  refine take_step (by decide) hd fun kind H1 k0 k1 g1 => ?_
  walk_at "rd"
  refine ⟨d, a, L, 3, ns, ws, rfl, g1.isD, hS.dr g1, h63, hyp0 _ _, wl.dr g1, by omega, by decide, fun av t2 H2 g2 ram tam => ?_⟩
  obtain ⟨am, rfl, fam, oam, lam, nam⟩ := at_of3 (by decide) tam
  walk_at "rd"
  have g12 := g1.trans g2
  have sq := g12.sqt sq0
  have rh := g12.rp rh0
  have rb := g12.rp rb0
  have wl2 := wl.dr g12
  have hS2 := hS.dr g12
  obtain ⟨pam, uam, rfl, sqam, rtam⟩ := ram.atm
  obtain ⟨ba, bxs, rfl, sqb, rab⟩ := rb.seq
  have lbx : bxs.length = bds.length := by rw [rab.length, List.length_map]
  obtain ⟨tam_, txs, rfl, sqts, rats⟩ := rtam.seq
  have ltx : txs.length = am.ts.length := by rw [rats.length, List.length_map]
  have app : ∀ hs : List Tm, hs.length = width + 1 → (∀ t ∈ hs, t.fits) → Jn.fits ⟨hs, bds⟩ ∧ Jn.ok width ⟨hs, bds⟩ = false := fun hs l f => ⟨⟨by show hs.length ≤ 20; omega, by show bds.length ≤ 20; omega, f, fba⟩, no_of fun e => by
    have := (ok_parts e).1
    have : (hs.length : Int) = width := this
    omega⟩
  refine iteD (fun c0 => ?_) (fun c0 => ?_)
  · walk_at "rd"
    refine iteD (fun c1 => ?_) (fun c1 => ?_)
    · walk_at "rd"
      refine take_step (by decide) g2.isD fun k2 H3 k20 k21 g3 => ?_
      walk_at "rd"
      refine iteD (fun c2 => ?_) (fun c2 => ?_)
      · walk_at "rd"
        refine rd_ixT (g3.sqt sq) rfl ?_
        walk_at "rd"
        refine rp_tail (g3.rp rh) fun w4 H4 s4 r4 => ?_
        walk_at "rd"
        refine rd_ixT (same_sqt s4 (g3.sqt sq)) rfl ?_
        walk_at "rd"
        refine rd_mk (len_ok rfl) fun tq H5 n5 e5 s5 => ?_
        have hdr : ∀ t ∈ hds.drop 1, t.fits := fun t ht => fht t (List.mem_of_mem_drop ht)
        refine fin tq _ _ _ (hds.drop 1) bds (((g12.trans g3).same s4).same s5) (SqT.of e5) (by rw [List.map_drop]; exact same_rp s5 r4) (same_rp (s4.trans s5) (g3.rp rb)) ⟨by show (hds.drop 1).length ≤ 20; rw [List.length_drop]; omega, by show bds.length ≤ 20; omega, hdr, fba⟩ (no_of fun e => ?_)
        have e1 := (ok_parts e).1
        have e2 : (((hds.drop 1).length : Nat) : Int) = width := e1
        rw [List.length_drop] at e2
        omega
      · walk_at "rd"
        refine rd_ixT (g3.sqt sq) rfl ?_
        walk_at "rd"
        refine ⟨d, a, L, ns, ws, rfl, g3.isD, hS2.dr g3, h63, hyp0 _ _, wl2.dr g3, ne, fun u t H4 g4 ru tu => ?_⟩
        walk_at "rd"
        refine rd_mk (len_ok rfl) fun t1 H5 n5 e5 s5 => ?_
        walk_at "rd"
        refine rd_mk (len_ok rfl) fun t2 H6 n6 e6 s6 => ?_
        obtain ⟨m, em, fm, _⟩ := tm_of (PI := PI0) (.inl ⟨t, rfl, tu⟩)
        have r1 : Rp K H6 (.ref t1) m.td := by rw [← em]; exact same_rp s6 (rp_pair (SqT.of e5) (same_rp s5 ru))
        have r2 : Rp K H6 (.ref t2) (.tup [m.td]) := .tup (SqT.of e6) (.cons r1 .nil)
        have g34 := g3.trans g4
        refine rp_cat (same_rp (s5.trans s6) (g34.rp rh)) r2 (Nat.le_trans (m := 100) (by rw [List.length_map]; show hds.length + 1 ≤ 100; omega) (by decide)) fun w7 H7 s7 r7 => ?_
        walk_at "rd"
        have s57 := s5.trans (s6.trans s7)
        refine rd_ixT (same_sqt s57 (g34.sqt sq)) rfl ?_
        walk_at "rd"
        refine rd_mk (len_ok rfl) fun tq H8 n8 e8 s8 => ?_
        obtain ⟨f1, o1⟩ := app (hds ++ [m]) (by rw [List.length_append, h20]; rfl) (fun t ht => by
          rcases List.mem_append.mp ht with h | h
          · exact fht t h
          · rw [List.mem_singleton.mp h]; exact fm)
        exact fin tq _ _ _ (hds ++ [m]) bds (((g12.trans g34).same s57).same s8) (SqT.of e8) (by rw [List.map_append]; exact same_rp s8 r7) (same_rp (s57.trans s8) (g34.rp rb)) f1 o1
    · walk_at "rd"
      refine rd_ixT sq rfl ?_
      walk_at "rd"
      refine ⟨d, a, L, ns, ws, rfl, g2.isD, hS2, h63, hyp0 _ _, wl2, ne, fun u t H4 g34 ru tu => ?_⟩
      walk_at "rd"
      refine rd_mk (len_ok rfl) fun t1 H5 n5 e5 s5 => ?_
      walk_at "rd"
      refine rd_mk (len_ok rfl) fun t2 H6 n6 e6 s6 => ?_
      obtain ⟨m, em, fm, _⟩ := tm_of (PI := PI0) (.inl ⟨t, rfl, tu⟩)
      have r1 : Rp K H6 (.ref t1) m.td := by rw [← em]; exact same_rp s6 (rp_pair (SqT.of e5) (same_rp s5 ru))
      have r2 : Rp K H6 (.ref t2) (.tup [m.td]) := .tup (SqT.of e6) (.cons r1 .nil)
      refine rp_cat (same_rp (s5.trans s6) (g34.rp rh)) r2 (Nat.le_trans (m := 100) (by rw [List.length_map]; show hds.length + 1 ≤ 100; omega) (by decide)) fun w7 H7 s7 r7 => ?_
      walk_at "rd"
      have s57 := s5.trans (s6.trans s7)
      refine rd_ixT (same_sqt s57 (g34.sqt sq)) rfl ?_
      walk_at "rd"
      refine rd_mk (len_ok rfl) fun tq H8 n8 e8 s8 => ?_
      obtain ⟨f1, o1⟩ := app (hds ++ [m]) (by rw [List.length_append, h20]; rfl) (fun t ht => by
        rcases List.mem_append.mp ht with h | h
        · exact fht t h
        · rw [List.mem_singleton.mp h]; exact fm)
      exact fin tq _ _ _ (hds ++ [m]) bds (((g12.trans g34).same s57).same s8) (SqT.of e8) (by rw [List.map_append]; exact same_rp s8 r7) (same_rp (s57.trans s8) (g34.rp rb)) f1 o1
  walk_at "rd"
  refine ⟨fun σ' H' => σ' = [some (.ref d), some (.ref a), some (.ref L), some (.int width), some (.ref p), some (.int kind), some (.ref pam), none, none, none, none, none, none, none, none] ∧ H' = H2, ?_, ?_⟩
  · walk_at "rd"
    refine iteD (fun c1 => ?_) (fun c1 => ?_)
    · walk_at "rd"
      refine iteD (fun c2 => ?_) (fun c2 => ?_)
      · walk_at "rd"
        refine rd_mk (len_ok rfl) fun K0 H3 nK eK sK => ?_
        walk_at "rd"
        refine rd_ixT (same_sqt sK sq) rfl ?_
        walk_at "rd"
        refine rd_it (same_sqt sK sqb) ?_
        refine for_tup (K := K) (a := ba) (xs := bxs) (fun i σ' H' => ∃ (v8 : Option V) (Kn : Addr) (ks : List V), σ' = [some (.ref d), some (.ref a), some (.ref L), some (.int width), some (.ref p), some (.int kind), some (.ref pam), some (.ref Kn), v8, none, none, none, none, none, none] ∧
          Same H2 H' ∧ H' Kn = some (.lst ks) ∧ RpA K H' ks ((termsB (bds.take i)).map Tm.td)) ⟨none, K0, [], rfl, sK, eK, .nil⟩ (fun i σ' H' _ p => by obtain ⟨_, _, _, _, sm, _⟩ := p; exact same_sqt sm sqb) ?_ ?_
        · rintro i x σ' H5 hx ⟨v8, Kn, ks, rfl, sm5, eKn, rk⟩
          obtain ⟨t, et, rt⟩ := rpa_at rab hx
          obtain ⟨am', ea, rfl⟩ := map_at et
          have rt5 := same_rp sm5 rt
          obtain ⟨pa, ux, rfl, sqa, rts⟩ := rt5.atm
          obtain ⟨ta, tx, rfl, sqt, rat⟩ := rts.seq
          have mem : am' ∈ bds := List.mem_of_getElem? ea
          have fa := fba am' mem
          walk_at "rd"
          refine rd_ixT sqa rfl ?_
          walk_at "rd"
          refine rd_listT sqt fun LL hLL => ?_
          have s6 : Same H5 (upd H5 LL (.lst tx)) := same_new hLL
          have lks := rk.length
          have ltx2 := rat.length
          rw [List.length_map] at lks ltx2
          have tl := terms_len (bds.take i) fun a ha => fba a (List.mem_of_mem_take ha)
          have li : (bds.take i).length ≤ 8 := by rw [List.length_take]; omega
          have la := fa.2.1
          refine rd_cat (s6 _ _ eKn) upd_same (Nat.le_trans (m := 1000) (by omega) (by decide)) fun L2 H7 n7 e7 s7 => ?_
          walk_at "rd"
          refine ⟨_, L2, ks ++ tx, rfl, sm5.trans (s6.trans s7), e7, ?_⟩
          unfold termsB
          rw [take_flat ea, List.map_append]
          exact RpA.app (same_rpa (s6.trans s7) rk) (same_rpa (s6.trans s7) rat)
        rintro σ' H5 ⟨v8, Kn, ks, rfl, sm5, eKn, rk⟩
        rw [show bds.take bxs.length = bds from List.take_of_length_le (by omega)] at rk
        have lks := rk.length
        rw [List.length_map] at lks
        have tl := terms_len bds fba
        have okt : ∀ m ∈ termsB bds, m.ok = true := fun m hm => by
          obtain ⟨a, ha, hma⟩ := List.mem_flatMap.mp hm
          have := oa a ha
          unfold At.ok at this
          simp only [Bool.and_eq_true, decide_eq_true_eq, List.all_eq_true] at this
          exact this.2.2 m hma
        have wl5 : H5 L = some (.lst (ws.map V.str)) := sm5 _ _ wl2.at_
        walk_at "rd"
        refine rd_il (SqL.of wl5) fun D hD => ?_
        refine lc_list (K := K) (a := L) (xs := ws.map V.str) (fun i H' => ∃ zs : List V, H' D = some (.lst zs) ∧ RpA K H' zs ((((ws.take i).filter fun z => !((termsB bds).any (isVar z))).map Tm.var).map Tm.td) ∧ Same H5 H') ⟨[], upd_same, .nil, same_new hD⟩ (fun i H' _ p => by obtain ⟨_, _, _, sm⟩ := p; exact SqL.of (sm _ _ wl5)) ?_ ?_
        · rintro i y H6 hy ⟨zs, eD, rz, sm6⟩
          obtain ⟨z, rfl, ez⟩ := strs_get hy
          have mz := List.mem_of_getElem? ez
          refine ⟨rfl, ?_⟩
          walk_at "rd"
          refine rd_mk (len_ok rfl) fun tp H7 n7 e7 s7 => ?_
          walk_at "rd"
          have s67 := sm6.trans s7
          refine ⟨(Tm.var z).py, (termsB bds).map Tm.py, .tup (SqT.of e7) (.cons (.str _) (.cons (.str _) .nil)), .lst (SqL.of (s67 _ _ eKn)) (RpA.dp (same_rpa s67 rk)), py_shape (wl.ok z mz).1, py_shapes okt, ?_⟩
          have ea : ((termsB bds).map Tm.py).any (fun u => PyData.eqv u (Tm.var z).py) = (termsB bds).any (isVar z) := by
            rw [List.any_map]
            congr 1
            funext m
            exact eqv_var z m
          rw [ea]
          walk_at "rd"
          have lz := rz.length
          rw [List.length_map, List.length_map] at lz
          have lf := List.length_filter_le (fun z => !((termsB bds).any (isVar z))) (ws.take i)
          have lt : (ws.take i).length ≤ 10 := by rw [List.length_take]; omega
          refine iteB (fun c => ?_) (fun c => ?_)
          · walk_at "rd"
            refine rd_mk (len_ok rfl) fun tq H8 n8 e8 s8 => ?_
            have s68 := s7.trans s8
            refine ⟨_, s68 _ _ eD, small1000 (by omega), ⟨zs ++ [.ref tq], upd_same, ?_, same_own (sm6.trans s68) hD⟩⟩
            rw [filter_snocS ez, if_pos c, List.map_append, List.map_append]
            have eD8 := s68 _ _ eD
            exact RpA.app (rpa_put eD8 (same_rpa s68 rz)) (.cons (rp_put eD8 (.tup (SqT.of e8) (.cons (.str _) (.cons (.str z) .nil)))) .nil)
          · refine ⟨zs, s7 _ _ eD, ?_, s67⟩
            rw [filter_snocS ez, if_neg (by rw [c]; exact Bool.false_ne_true), List.append_nil]
            exact same_rpa s7 rz
        rintro H6 ⟨zs, eD, rz, sm6⟩
        rw [show ws.take (ws.map V.str).length = ws from List.take_of_length_le (by rw [List.length_map]; exact Nat.le_refl _)] at rz
        walk_at "rd"
        have g6 := g12.same (sm5.trans sm6)
        have s26 := sm5.trans sm6
        have nD : D ≠ d := (g12.same sm5).ne_new hD
        have zne : zs ≠ [] := by
          intro e0
          have lz := rz.length
          rw [e0, List.length_map, List.length_map] at lz
          have h5 : 5 < ws.length := by omega
          have m5 : ws[5] ∈ ws.filter fun z => !((termsB bds).any (isVar z)) := by
            refine List.mem_filter.mpr ⟨List.getElem_mem h5, ?_⟩
            cases e : (termsB bds).any (isVar ws[5]) with
            | false => rfl
            | true =>
              exfalso
              have m := vb _ (any_var e)
              obtain ⟨k, hk, ek⟩ := List.mem_iff_getElem.mp m
              rw [List.length_take] at hk
              rw [List.getElem_take] at ek
              have := (List.getElem_inj hnd).mp ek
              omega
          have l0 : (ws.filter fun z => !((termsB bds).any (isVar z))).length = 0 := by
            have : ([] : List V).length = 0 := rfl
            omega
          rw [List.length_eq_zero_iff.mp l0] at m5
          cases m5
        refine take_step (by omega) g6.isD fun at_ H7 a0 a1 g7 => ?_
        walk_at "rd"
        have rh7 := g7.rp (same_rp s26 rh)
        have sq7 := g7.sqt (same_sqt s26 sq)
        have rb7 := g7.rp (same_rp s26 rb)
        refine rd_ixT sq7 rfl ?_
        walk_at "rd"
        refine rp_cut rh7 fun w8 H8 us8 s8 r8 m8 l8 => ?_
        walk_at "rd"
        have g8 := (g6.trans g7).same s8
        refine ⟨d, D, zs, rfl, g8.isD, s8 _ _ (g7.kp _ _ nD eD), nD, zne, fun u H9 g9 mu => ?_⟩
        obtain ⟨t9, mt9, ru⟩ := rpa_mem (g9.rpa (same_rpa s8 (g7.rpa rz))) mu
        obtain ⟨m9, hm9, rfl⟩ := List.mem_map.mp mt9
        obtain ⟨z9, hz9, rfl⟩ := List.mem_map.mp hm9
        obtain ⟨mz9, nz9⟩ := List.mem_filter.mp hz9
        walk_at "rd"
        refine rd_mk (len_ok rfl) fun tA HA nA eA sA => ?_
        have rA : Rp K HA (.ref tA) (.tup [(Tm.var z9).td]) := .tup (SqT.of eA) (.cons (same_rp sA ru) .nil)
        refine rp_cat (same_rp sA (g9.rp r8)) rA (Nat.le_trans (m := 100) (by rw [List.length_map] at l8; show us8.length + 1 ≤ 100; omega) (by decide)) fun wB HB sB rB => ?_
        walk_at "rd"
        have sAB := sA.trans sB
        refine rd_ixT (same_sqt sAB (g9.sqt (same_sqt s8 sq7))) rfl ?_
        walk_at "rd"
        refine rp_cut (same_rp sAB (g9.rp (same_rp s8 rh7))) fun wC HC usC sC rC mC lC => ?_
        rw [List.length_map] at l8 lC
        refine rp_cat (same_rp sC rB) rC (Nat.le_trans (m := 100) (by rw [List.length_append]; show us8.length + 1 + usC.length ≤ 100; omega) (by decide)) fun wD HD sD rD => ?_
        walk_at "rd"
        have sBD := sAB.trans (sC.trans sD)
        refine rd_ixT (same_sqt sBD (g9.sqt (same_sqt s8 sq7))) rfl ?_
        walk_at "rd"
        refine rd_mk (len_ok rfl) fun tq HE nE eE sE => ?_
        obtain ⟨u8, e8, h8⟩ := pre_map m8
        obtain ⟨uC, eC, hC⟩ := pre_map mC
        rw [e8, List.length_map] at l8
        rw [eC, List.length_map] at lC
        refine fin tq _ _ _ (u8 ++ [Tm.var z9] ++ uC) bds (((g8.trans g9).same sBD).same sE) (SqT.of eE) (by rw [List.map_append, List.map_append, ← e8, ← eC]; exact same_rp sE rD) (same_rp (sBD.trans sE) (g9.rp (same_rp s8 rb7))) ⟨?_, ?_, ?_, fba⟩ (no_of fun e => ?_)
        · show (u8 ++ [Tm.var z9] ++ uC).length ≤ 20
          rw [List.length_append, List.length_append]
          show u8.length + 1 + uC.length ≤ 20
          omega
        · show bds.length ≤ 20
          omega
        · intro t ht
          rcases List.mem_append.mp ht with h | h
          · rcases List.mem_append.mp h with h | h
            · exact fht t (h8 t h)
            · rw [List.mem_singleton.mp h]; exact Nat.le_trans (wl.ok z9 mz9).2 (by decide)
          · exact fht t (hC t h)
        · have := (ok_parts e).2.2.2.2 z9 (by
            refine List.mem_filterMap.mpr ⟨Tm.var z9, ?_, rfl⟩
            exact List.mem_append_left _ (List.mem_append_right _ List.mem_cons_self))
          rw [var_any this] at nz9
          cases nz9
      · walk_at "rd"
        exact ⟨rfl, rfl⟩
    · walk_at "rd"
      exact ⟨rfl, rfl⟩
  rintro σ' H' ⟨rfl, rfl⟩
  walk_at "rd"
  refine iteD (fun c1 => ?_) (fun c1 => ?_)
  · walk_at "rd"
    refine rd_ixT sq rfl ?_
    walk_at "rd"
    refine rd_ixT sq rfl ?_
    walk_at "rd"
    refine rd_lenT sqb ?_
    walk_at "rd"
    refine rd_r1 ⟨by omega, by omega⟩ fun D hD => ?_
    refine lc_range (lo := 0) (n := ((9 : Int) - (bxs.length : Int)).toNat) (fun i H'' => H'' D = some (.lst (List.replicate i (.ref pam))) ∧ Same H' H'') ⟨upd_same, same_new hD⟩ ?_ ?_
    · rintro i H3 hi ⟨e3, s3⟩
      refine ⟨rfl, ?_⟩
      walk_at "rd"
      refine ⟨_, e3, by rw [List.length_replicate]; exact small1000 (by omega), ?_, same_own s3 hD⟩
      rw [upd_same, List.replicate_succ']
    rintro H3 ⟨e3, s3⟩
    walk_at "rd"
    refine rd_tuple (SqL.of e3) fun t4 h4 => ?_
    have s4 : Same H3 (upd H3 t4 (.tup (List.replicate ((9 : Int) - (bxs.length : Int)).toNat (.ref pam)))) := same_new h4
    have s34 := s3.trans s4
    have rrep : ∀ n : Nat, RpA K (upd H3 t4 (.tup (List.replicate ((9 : Int) - (bxs.length : Int)).toNat (.ref pam)))) (List.replicate n (.ref pam)) (List.replicate n am.td) := by
      intro n
      induction n with
      | zero => exact .nil
      | succ n ih => rw [List.replicate_succ, List.replicate_succ]; exact .cons (same_rp s34 ram) ih
    have r4 : Rp K _ (.ref t4) (.tup (List.replicate ((9 : Int) - (bxs.length : Int)).toNat am.td)) := .tup (SqT.of upd_same) (rrep _)
    refine rp_cat (same_rp s34 rb) r4 (Nat.le_trans (m := 100) (by rw [List.length_map, List.length_replicate]; omega) (by decide)) fun w5 H5 s5 r5 => ?_
    have s35 := s34.trans s5
    walk_at "rd"
    refine rd_ixT (same_sqt s35 sq) rfl ?_
    walk_at "rd"
    have g5 := g12.same s35
    refine take_step (by decide) g5.isD fun k2 H6 k20 k21 g6 => ?_
    walk_at "rd"
    have r6 := g6.rp r5
    refine rp_cut r6 fun w7 H7 us7 s7 r7 m7 l7 => ?_
    have e9 : bds.map At.td ++ List.replicate ((9 : Int) - (bxs.length : Int)).toNat am.td = (bds ++ List.replicate ((9 : Int) - (bxs.length : Int)).toNat am).map At.td := by rw [List.map_append, List.map_replicate]
    have l9 : (bds ++ List.replicate ((9 : Int) - (bxs.length : Int)).toNat am).length = 9 := by rw [List.length_append, List.length_replicate]; omega
    rw [e9] at m7 l7 r6
    rw [List.length_map, l9] at l7
    refine rp_cat (same_rp s7 r6) r7 (Nat.le_trans (m := 100) (by rw [List.length_map, l9]; omega) (by decide)) fun w8 H8 s8 r8 => ?_
    walk_at "rd"
    refine rd_mk (len_ok rfl) fun tq H9 n9 e9' s9 => ?_
    obtain ⟨u7, e7, h7⟩ := pre_map m7
    rw [e7, List.length_map] at l7
    have s79 := s7.trans (s8.trans s9)
    refine fin tq _ _ _ hds (bds ++ List.replicate ((9 : Int) - (bxs.length : Int)).toNat am ++ u7) (((g5.trans g6).same (s7.trans s8)).same s9) (SqT.of e9') (same_rp s79 (g6.rp (same_rp s35 rh))) (by rw [List.map_append, ← e7]; exact same_rp s9 r8) ⟨?_, ?_, fht, ?_⟩ (no_of fun e => ?_)
    · show hds.length ≤ 20
      omega
    · show (bds ++ List.replicate ((9 : Int) - (bxs.length : Int)).toNat am ++ u7).length ≤ 20
      rw [List.length_append, l9]
      omega
    · have h9 : ∀ x ∈ bds ++ List.replicate ((9 : Int) - (bxs.length : Int)).toNat am, x.fits := fun x hx => by
        rcases List.mem_append.mp hx with h | h
        · exact fba x h
        · rw [List.eq_of_mem_replicate h]; exact fam
      intro x hx
      rcases List.mem_append.mp hx with h | h
      · exact h9 x h
      · exact h9 x (h7 x h)
    · have := (ok_parts e).2.1
      have : (bds ++ List.replicate ((9 : Int) - (bxs.length : Int)).toNat am ++ u7).length ≤ 8 := this
      rw [List.length_append, l9] at this
      omega
  walk_at "rd"
  have more : ∀ (b : At) (x : V) (tq : Addr) (H9 : Hp) (y z : V), Dr d H H9 → SqT K H9 tq [y, z] → Rp K H9 y (.tup (hds.map Tm.td)) → Rp K H9 z (.tup (bds.map At.td ++ [b.td])) → b.fits → b.ok = false → Q (.ref tq) H9 := fun b x tq H9 y z g s r1 r2 f o => by
    refine fin tq H9 y z hds (bds ++ [b]) g s r1 (by rw [List.map_append]; exact r2) ⟨?_, ?_, fht, ?_⟩ (no_of fun e => ?_)
    · show hds.length ≤ 20
      omega
    · show (bds ++ [b]).length ≤ 20
      rw [List.length_append]
      show bds.length + 1 ≤ 20
      omega
    · intro x hx
      rcases List.mem_append.mp hx with h | h
      · exact fba x h
      · rw [List.mem_singleton.mp h]; exact f
    · have := (ok_parts e).2.2.2.1 b (List.mem_append_right _ List.mem_cons_self)
      rw [this] at o
      cases o
  refine iteD (fun c2 => ?_) (fun c2 => ?_)
  · walk_at "rd"
    refine rd_ixT sq rfl ?_
    walk_at "rd"
    refine rd_ixT sq rfl ?_
    walk_at "rd"
    refine rd_ixT sqam rfl ?_
    walk_at "rd"
    refine ⟨d, am.nm, rfl, g2.isD, by omega, fun u H3 g3 bu lu => ?_⟩
    walk_at "rd"
    refine rd_ixT (g3.sqt sqam) rfl ?_
    walk_at "rd"
    refine rd_mk (len_ok rfl) fun t4 H4 n4 e4 s4 => ?_
    walk_at "rd"
    refine rd_mk (len_ok rfl) fun t5 H5 n5 e5 s5 => ?_
    have r4 : Rp K H5 (.ref t4) (At.td ⟨u, am.ts⟩) := .tup (same_sqt s5 (SqT.of e4)) (.cons (.str u) (.cons (same_rp (s4.trans s5) (g3.rp (.tup sqts rats))) .nil))
    have r5 : Rp K H5 (.ref t5) (.tup [At.td ⟨u, am.ts⟩]) := .tup (SqT.of e5) (.cons r4 .nil)
    refine rp_cat (same_rp (s4.trans s5) (g3.rp rb)) r5 (Nat.le_trans (m := 100) (by rw [List.length_map]; show bds.length + 1 ≤ 100; omega) (by decide)) fun w6 H6 s6 r6 => ?_
    walk_at "rd"
    refine rd_mk (len_ok rfl) fun tq H7 n7 e7 s7 => ?_
    have s47 := s4.trans (s5.trans (s6.trans s7))
    exact more ⟨u, am.ts⟩ .non tq _ _ _ ((g12.trans g3).same s47) (SqT.of e7) (same_rp s47 (g3.rp rh)) (same_rp s7 r6) ⟨Nat.le_trans lu (by decide), fam.2.1, fam.2.2⟩ (at_name bu)
  walk_at "rd"
  refine ⟨fun σ' H'' => σ' = [some (.ref d), some (.ref a), some (.ref L), some (.int width), some (.ref p), some (.int kind), some (.ref pam), none, none, none, none, none, none, none, none] ∧ H'' = H', ?_, ?_⟩
  · walk_at "rd"
    refine iteD (fun c3 => ?_) (fun c3 => ?_)
    · walk_at "rd"
      refine iteD (fun c4 => ?_) (fun c4 => ?_)
      · walk_at "rd"
        refine take_step (by omega) g2.isD fun at_ H7 a0 a1 g7 => ?_
        walk_at "rd"
        have rh7 := g7.rp rh
        have sq7 := g7.sqt sq
        have rb7 := g7.rp rb
        refine rd_ixT sq7 rfl ?_
        walk_at "rd"
        refine rp_cut rh7 fun w8 H8 us8 s8 r8 m8 l8 => ?_
        walk_at "rd"
        have g8 := (g12.trans g7).same s8
        refine ⟨d, L, ws, rfl, g8.isD, wl.dr g8, ne, fun u t9 H9 g9 ru f9 o9 => ?_⟩
        walk_at "rd"
        refine rd_mk (len_ok rfl) fun tA HA nA eA sA => ?_
        have rA : Rp K HA (.ref tA) (.tup [t9.td]) := .tup (SqT.of eA) (.cons (same_rp sA ru) .nil)
        refine rp_cat (same_rp sA (g9.rp r8)) rA (Nat.le_trans (m := 100) (by rw [List.length_map] at l8; show us8.length + 1 ≤ 100; omega) (by decide)) fun wB HB sB rB => ?_
        walk_at "rd"
        have sAB := sA.trans sB
        refine rd_ixT (same_sqt sAB (g9.sqt (same_sqt s8 sq7))) rfl ?_
        walk_at "rd"
        refine rp_cut (same_rp sAB (g9.rp (same_rp s8 rh7))) fun wC HC usC sC rC mC lC => ?_
        rw [List.length_map] at l8 lC
        refine rp_cat (same_rp sC rB) rC (Nat.le_trans (m := 100) (by rw [List.length_append]; show us8.length + 1 + usC.length ≤ 100; omega) (by decide)) fun wD HD sD rD => ?_
        walk_at "rd"
        have sBD := sAB.trans (sC.trans sD)
        refine rd_ixT (same_sqt sBD (g9.sqt (same_sqt s8 sq7))) rfl ?_
        walk_at "rd"
        refine rd_mk (len_ok rfl) fun tq HE nE eE sE => ?_
        obtain ⟨u8, e8, h8⟩ := pre_map m8
        obtain ⟨uC, eC, hC⟩ := pre_map mC
        rw [e8, List.length_map] at l8
        rw [eC, List.length_map] at lC
        refine fin tq _ _ _ (u8 ++ [t9] ++ uC) bds (((g8.trans g9).same sBD).same sE) (SqT.of eE) (by rw [List.map_append, List.map_append, ← e8, ← eC]; exact same_rp sE rD) (same_rp (sBD.trans sE) (g9.rp (same_rp s8 rb7))) ⟨?_, ?_, ?_, fba⟩ (no_of fun e => ?_)
        · show (u8 ++ [t9] ++ uC).length ≤ 20
          rw [List.length_append, List.length_append]
          show u8.length + 1 + uC.length ≤ 20
          omega
        · show bds.length ≤ 20
          omega
        · intro t ht
          rcases List.mem_append.mp ht with h | h
          · rcases List.mem_append.mp h with h | h
            · exact fht t (h8 t h)
            · rw [List.mem_singleton.mp h]; exact f9
          · exact fht t (hC t h)
        · have := (ok_parts e).2.2.1 t9 (List.mem_append_left _ (List.mem_append_right _ List.mem_cons_self))
          rw [this] at o9
          cases o9
      · walk_at "rd"
        exact ⟨rfl, rfl⟩
    · walk_at "rd"
      exact ⟨rfl, rfl⟩
  rintro σ' H'' ⟨rfl, rfl⟩
  walk_at "rd"
  refine iteD (fun c5 => ?_) (fun c5 => ?_)
  · walk_at "rd"
    refine rd_ixT sqam rfl ?_
    walk_at "rd"
    refine rd_ixT sqam rfl ?_
    walk_at "rd"
    refine rd_lenT sqts ?_
    walk_at "rd"
    refine rd_r1 ⟨by omega, by omega⟩ fun D hD => ?_
    refine lc_range (lo := 0) (n := ((9 : Int) - (txs.length : Int)).toNat) (fun i H3 => ∃ zs : List V, H3 D = some (.lst zs) ∧ RpA K H3 zs ((nums i).map fun k => (Tm.num k).td) ∧ Same H'' H3) ⟨[], upd_same, .nil, same_new hD⟩ ?_ ?_
    · rintro i H3 hi ⟨zs, e3, rz, s3⟩
      refine ⟨rfl, ?_⟩
      walk_at "rd"
      rw [Int.zero_add]
      refine rd_mk (len_ok rfl) fun t4 H4 n4 e4 s4 => ?_
      have lz := rz.length
      rw [List.length_map, nums_len] at lz
      have e34 := s4 _ _ e3
      refine ⟨_, e34, small1000 (by omega), ⟨zs ++ [.ref t4], upd_same, ?_, same_own (s3.trans s4) hD⟩⟩
      rw [nums_succ, List.map_append]
      exact RpA.app (rpa_put e34 (same_rpa s4 rz)) (.cons (rp_put e34 (.tup (SqT.of e4) (.cons (.str _) (.cons (.int _) .nil)))) .nil)
    rintro H3 ⟨zs, e3, rz, s3⟩
    walk_at "rd"
    refine rd_tuple (SqL.of e3) fun t4 h4 => ?_
    have s4 : Same H3 (upd H3 t4 (.tup zs)) := same_new h4
    have s34 := s3.trans s4
    have r4 : Rp K _ (.ref t4) (.tup ((nums ((9 : Int) - (txs.length : Int)).toNat).map fun k => (Tm.num k).td)) := .tup (SqT.of upd_same) (same_rpa s4 rz)
    refine rp_cat (same_rp s34 (.tup sqts rats)) r4 (Nat.le_trans (m := 100) (by rw [List.length_map, List.length_map, nums_len]; omega) (by decide)) fun w5 H5 s5 r5 => ?_
    have s35 := s34.trans s5
    walk_at "rd"
    refine rd_ixT (same_sqt s35 sq) rfl ?_
    walk_at "rd"
    refine rd_ixT (same_sqt s35 sq) rfl ?_
    walk_at "rd"
    refine rd_ixT (same_sqt s35 sqam) rfl ?_
    walk_at "rd"
    have g5 := g12.same s35
    refine take_step (by decide) g5.isD fun k2 H6 k20 k21 g6 => ?_
    walk_at "rd"
    have r6 := g6.rp r5
    refine rp_cut r6 fun w7 H7 us7 s7 r7 m7 l7 => ?_
    have e9 : am.ts.map Tm.td ++ (nums ((9 : Int) - (txs.length : Int)).toNat).map (fun k => (Tm.num k).td) = (am.ts ++ (nums ((9 : Int) - (txs.length : Int)).toNat).map Tm.num).map Tm.td := by rw [List.map_append, List.map_map]; rfl
    have l9 : (am.ts ++ (nums ((9 : Int) - (txs.length : Int)).toNat).map Tm.num).length = 9 := by rw [List.length_append, List.length_map, nums_len]; omega
    rw [e9] at m7 l7 r6
    rw [List.length_map, l9] at l7
    refine rp_cat (same_rp s7 r6) r7 (Nat.le_trans (m := 100) (by rw [List.length_map, l9]; omega) (by decide)) fun w8 H8 s8 r8 => ?_
    walk_at "rd"
    refine rd_mk (len_ok rfl) fun t9 H9 n9 e9' s9 => ?_
    walk_at "rd"
    refine rd_mk (len_ok rfl) fun tA HA nA eA sA => ?_
    obtain ⟨u7, e7, h7⟩ := pre_map m7
    rw [e7, List.length_map] at l7
    have s7A := s7.trans (s8.trans (s9.trans sA))
    have rn : Rp K HA (.ref t9) (At.td ⟨am.nm, am.ts ++ (nums ((9 : Int) - (txs.length : Int)).toNat).map Tm.num ++ u7⟩) := .tup (same_sqt sA (SqT.of e9')) (.cons (.str _) (.cons (by rw [List.map_append, ← e7]; exact same_rp (s9.trans sA) r8) .nil))
    have rA : Rp K HA (.ref tA) (.tup [At.td ⟨am.nm, am.ts ++ (nums ((9 : Int) - (txs.length : Int)).toNat).map Tm.num ++ u7⟩]) := .tup (SqT.of eA) (.cons rn .nil)
    refine rp_cat (same_rp s7A (g6.rp (same_rp s35 rb))) rA (Nat.le_trans (m := 100) (by rw [List.length_map]; show bds.length + 1 ≤ 100; omega) (by decide)) fun wB HB sB rB => ?_
    walk_at "rd"
    refine rd_mk (len_ok rfl) fun tq HC nC eC sC => ?_
    have sAC := s7A.trans (sB.trans sC)
    refine more ⟨am.nm, am.ts ++ (nums ((9 : Int) - (txs.length : Int)).toNat).map Tm.num ++ u7⟩ .non tq _ _ _ ((g5.trans g6).same sAC) (SqT.of eC) (same_rp sAC (g6.rp (same_rp s35 rh))) (same_rp sC rB) ⟨fam.1, ?_, ?_⟩ (at_long ?_)
    · show (am.ts ++ (nums ((9 : Int) - (txs.length : Int)).toNat).map Tm.num ++ u7).length ≤ 20
      rw [List.length_append, l9]; omega
    · have h9 : ∀ x ∈ am.ts ++ (nums ((9 : Int) - (txs.length : Int)).toNat).map Tm.num, x.fits := fun x hx => by
        rcases List.mem_append.mp hx with h | h
        · exact fam.2.2 x h
        · obtain ⟨k, _, rfl⟩ := List.mem_map.mp h
          trivial
      intro x hx
      rcases List.mem_append.mp hx with h | h
      · exact h9 x h
      · exact h9 x (h7 x h)
    · show 8 < (am.ts ++ (nums ((9 : Int) - (txs.length : Int)).toNat).map Tm.num ++ u7).length
      rw [List.length_append, l9]; omega
  · walk_at "rd"
    refine rd_ixT sq rfl ?_
    walk_at "rd"
    refine rd_ixT sq rfl ?_
    walk_at "rd"
    refine rd_ixT sqam rfl ?_
    walk_at "rd"
    refine rd_ixT sqam rfl ?_
    walk_at "rd"
    refine ⟨d, L, ws, rfl, g2.isD, wl2, ne, fun u t3 H3 g3 ru f3 o3 => ?_⟩
    walk_at "rd"
    refine ⟨d, _, u, am.ts.map Tm.td, t3.td, rfl, g3.isD, g3.rp (.tup sqts rats), ru, by rw [List.length_map]; omega, fun r4 us4 H4 g4 rr4 m4 a4 l4 => ?_⟩
    walk_at "rd"
    refine rd_mk (len_ok rfl) fun t5 H5 n5 e5 s5 => ?_
    walk_at "rd"
    refine rd_mk (len_ok rfl) fun t6 H6 n6 e6 s6 => ?_
    obtain ⟨u4, e4, h4⟩ := pre_map (f := Tm.td) (l := t3 :: am.ts) (us := us4) (fun x hx => by
      rw [List.map_cons]
      rcases a4 x hx with h | h
      · rw [h]; exact List.mem_cons_self
      · exact List.mem_cons_of_mem _ h)
    rw [e4, List.length_map, List.length_map] at l4
    have g34 := g3.trans g4
    have r5 : Rp K H6 (.ref t5) (At.td ⟨am.nm, u4⟩) := .tup (same_sqt s6 (SqT.of e5)) (.cons (.str _) (.cons (by rw [← e4]; exact same_rp (s5.trans s6) rr4) .nil))
    have r6 : Rp K H6 (.ref t6) (.tup [At.td ⟨am.nm, u4⟩]) := .tup (SqT.of e6) (.cons r5 .nil)
    refine rp_cat (same_rp (s5.trans s6) (g34.rp rb)) r6 (Nat.le_trans (m := 100) (by rw [List.length_map]; show bds.length + 1 ≤ 100; omega) (by decide)) fun w7 H7 s7 r7 => ?_
    walk_at "rd"
    refine rd_mk (len_ok rfl) fun tq H8 n8 e8 s8 => ?_
    have s58 := s5.trans (s6.trans (s7.trans s8))
    have o4 : ∃ t ∈ u4, t.ok = false := by
      rw [e4] at m4
      obtain ⟨t, ht, e⟩ := List.mem_map.mp m4
      refine ⟨t, ht, ?_⟩
      have : t = t3 := tm_inj e
      rw [this]; exact o3
    obtain ⟨t, ht, ot⟩ := o4
    refine more ⟨am.nm, u4⟩ .non tq _ _ _ ((g12.trans g34).same s58) (SqT.of e8) (same_rp s58 (g34.rp rh)) (same_rp s8 r7) ⟨fam.1, ?_, ?_⟩ (at_term ht ot)
    · show u4.length ≤ 20
      omega
    · intro x hx
      rcases List.mem_cons.mp (h4 x hx) with h | h
      · rw [h]; exact f3
      · exact fam.2.2 x h

end
section
variable {P : Program} {w : World} {K : PySem.W.Frag} {mg : Str → Option Value} {base : Heap}
/-- what check_question says of a question: none where it is valid, else the error's join -/
def bad (n : Int) (js : List Jn) : Option V := if (decide (0 ≤ n ∧ n ≤ 8) && decide (js.length ≤ 12)) = true then (js.findIdx? fun j => !j.ok n).map fun i => V.int (i : Nat) else some .non
def questD (n : Int) (js : List Jn) : TD := .tup [.int n, .tup (js.map Jn.td)]
def spCheckX (C : Addr) (K : PySem.W.Frag) : Sp := fun vs H Q E => ∃ (v : V) (n : Int) (js : List Jn), vs = [v] ∧ Rp K H v (questD n js) ∧ js.length ≤ 40 ∧ (∀ j ∈ js, j.fits) ∧ (bad n js = none → ∀ H', Same H H' → Q .non H') ∧
  ∀ x, bad n js = some x → ∀ (d : Addr) (H' : Hp), Same H H' → H' d = some (.xd [(("join" : Str), x)]) → E (.ref C) (some d) H'
theorem find_first {js : List Jn} {n : Int} {i : Nat} {j : Jn} (e : js[i]? = some j) (h : ∀ k, k < i → ∀ x, js[k]? = some x → x.ok n = true) (b : j.ok n = false) : (js.findIdx? fun j => !j.ok n) = some i := by
  rw [List.findIdx?_eq_some_iff_getElem]
  have hi := (List.getElem?_eq_some_iff.mp e)
  obtain ⟨lt, ej⟩ := hi
  refine ⟨lt, by rw [ej, b]; rfl, fun k hk => ?_⟩
  have := h k hk js[k] (List.getElem?_eq_getElem (by omega))
  rw [this]; simp
theorem find_none {js : List Jn} {n : Int} (h : ∀ k, k < js.length → ∀ x, js[k]? = some x → x.ok n = true) : (js.findIdx? fun j => !j.ok n) = none := by
  rw [List.findIdx?_eq_none_iff]
  intro x hx
  obtain ⟨k, hk⟩ := List.mem_iff_getElem?.mp hx
  rw [h k (List.getElem?_eq_some_iff.mp hk).1 x hk]; rfl
set_option maxHeartbeats 2000000 in
theorem ok_checkX (T : Tx mg) {C fI : Addr} (low : PySem.NoQX.NoQTxt K mg C fI) {tW tJ : Tok} (hW : mg "WIDEST" = some (.int 8 tW)) (hJ : mg "MOST_JOINS" = some (.int 12 tJ)) {f f1 : Addr} {fd d1 : FuncData} (F : Dn K mg "check_question" sCheckQuestion ["question"] f fd)
    (DIsJoin : Dn K mg "is_join" sIsJoin ["join", "width"] f1 d1) (GIsJoin : FnOk P w K mg base CX0 5 f1 d1 ["join", "width"] (spJoinP K)) : FnOk P w K mg base (L2.CX P w) 7 f fd ["question"] (spCheckX C K) := by
  refine F.F.okX scCheckQuestion (fun vs H Q E h => ?_) (fun cdv A outer s H vs Q E hr h => ?_)
  · obtain ⟨v, t, js, rfl, _⟩ := h
    rfl
  obtain ⟨v, n, js, rfl, r, hl, fj, q, e⟩ := h
  have nd := scCheckQuestion.nd
  refine ⟨_, (pss_cons (ps_asg (pv 0) (pg_tup rfl (pgs_cons (pg_name (i := 1) nd rfl (Or.inl rfl)) (pgs_cons (pg_name (i := 2) nd rfl (Or.inl rfl)) pgs_nil))))
  (pss_cons (ps_if (PW.pt (pw_or (pt_not (pt_chain op_le op_le pe_int (pv 1) (pe_glob (v := .int 8) rfl hW ⟨_, rfl⟩))) (pw_or1 (pt_cmpR op_gt (pe_callB (k_len K rfl) rfl T.m_len PySem.boot_len (pa_cons (pv 2) pa_nil)) (pe_glob (v := .int 12) rfl hJ ⟨_, rfl⟩) (nomark _))))) (pss_one (ps_raiseNoq rfl low hr (takes_of rfl rfl rfl rfl) (pa_cons pe_non pa_nil))) pss_nil)
  (pss_one (ps_for (passes_of rfl) rfl (pi_enumT (K := K) rfl rfl T.m_enumerate (pa_cons (pv 2) pa_nil)) (pg_tup rfl (pgs_cons (pg_name (i := 3) nd rfl (Or.inl rfl)) (pgs_cons (pg_name (i := 4) nd rfl (Or.inl rfl)) pgs_nil))) (pss_one (ps_if (pt_not (pt_val (pe_call GIsJoin (hr.mono (by omega)) rfl DIsJoin.m DIsJoin.F.kp DIsJoin.b .nil pass0 (pa_cons (pv 4) (pa_cons (pv 1) pa_nil))))) (pss_one (ps_raiseNoq rfl low hr (takes_of rfl rfl rfl rfl) (pa_cons (pv 3) pa_nil))) pss_nil)))))), ?_⟩
  obtain ⟨p, x, y, rfl, s, rx, ry⟩ := r.duo
  cases rx
  obtain ⟨a, xs, rfl, sa, ra⟩ := ry.seq
  have lx : xs.length = js.length := by rw [ra.length, List.length_map]
  have raise : ∀ (x : V) (H1 : Hp), Same H H1 → bad n js = some x → ∀ d, H1 d = none → E (.ref C) (some d) (upd H1 d (.xd [(("join" : Str), x)])) := fun x H1 g b d hd => e x b d _ (g.trans (same_new hd)) upd_same
  have badW : ∀ (H1 : Hp), (decide (0 ≤ n ∧ n ≤ 8) && decide (js.length ≤ 12)) = false → bad n js = some .non := fun H1 c => by
    unfold bad
    rw [c, if_neg Bool.false_ne_true]
  walk_at "rd"
  refine rd_gtup s rfl ?_
  walk_at "rd"
  have out : ∀ H1 : Hp, Same H H1 → (decide (0 ≤ n ∧ n ≤ 8) && decide (js.length ≤ 12)) = false → ∀ d, H1 d = none → E (.ref C) (some d) (upd H1 d (.xd [(("join" : Str), .non)])) := fun H1 g c => raise _ _ g (badW H1 c)
  refine iteB (fun c => ?_) (fun c => ?_)
  · have c0 := of_decide_eq_true c
    walk_at "rd"
    refine iteB (fun c1 => ?_) (fun c1 => ?_)
    · have c8 : ¬ n ≤ 8 := fun h => by rw [decide_eq_true h] at c1; cases c1
      walk_at "rd"
      unfold tRaiseNoq tMkNoq
      walk_at "rd"
      exact ⟨_, rfl, fun d hd => out _ (.refl _) (by rw [decide_eq_false (fun z => c8 z.2), Bool.false_and]) d hd⟩
    · have c8 : n ≤ 8 := by
        cases h : decide (n ≤ 8) with
        | true => exact of_decide_eq_true h
        | false => rw [h] at c1; cases c1
      walk_at "rd"
      refine rd_lenT sa ?_
      walk_at "rd"
      refine iteB (fun c2 => ?_) (fun c2 => ?_)
      · have c3 := of_decide_eq_true c2
        walk_at "rd"
        unfold tRaiseNoq tMkNoq
        walk_at "rd"
        exact ⟨_, rfl, fun d hd => out _ (.refl _) (by rw [decide_eq_false (by omega : ¬ js.length ≤ 12), Bool.and_false]) d hd⟩
      · have c3 := of_decide_eq_false c2
        have eb : bad n js = (js.findIdx? fun j => !j.ok n).map fun i => V.int (i : Nat) := by
          unfold bad
          rw [decide_eq_true (⟨c0, c8⟩ : 0 ≤ n ∧ n ≤ 8), decide_eq_true (by omega : js.length ≤ 12)]
          rfl
        walk_at "rd"
        unfold iEnumT
        walk_at "rd"
        refine ⟨a, xs, rfl, sa, ?_⟩
        refine for_it walk_enumT (fun i σ' H' => ∃ v3 v4 : Option V, σ' = [some (.ref p), some (.int n), some (.ref a), v3, v4] ∧ Same H H' ∧ ∀ k, k < i → ∀ x, js[k]? = some x → x.ok n = true) ⟨none, none, rfl, .refl _, fun k hk => absurd hk (Nat.not_lt_zero _)⟩ (fun i σ' H' _ q => by obtain ⟨_, _, _, g, _⟩ := q; exact same_sqt g sa) ?_ ?_
        · rintro i x σ' H1 H2 hi ⟨v3, v4, rfl, g, al⟩ ⟨t, y, rfl, ht, rfl, hy⟩
          have g1 : Same H1 (upd H1 t (.tup [.int (i : Nat), y])) := same_new ht
          obtain ⟨t0, et0, rt⟩ := rpa_at (same_rpa (g.trans g1) ra) hy
          obtain ⟨j, ej, rfl⟩ := map_at et0
          have mj := List.mem_of_getElem? ej
          refine rd_gtup (SqT.of upd_same) rfl ?_
          walk_at "rd"
          refine ⟨y, j, n, rfl, rt, fj j mj, fun H3 g3 => ?_⟩
          have gg := g.trans (g1.trans g3)
          walk_at "rd"
          refine iteB (fun c4 => ?_) (fun c4 => ?_)
          · have bj : j.ok n = false := by cases h : j.ok n with | false => rfl | true => rw [h] at c4; cases c4
            walk_at "rd"
            unfold tRaiseNoq tMkNoq
            walk_at "rd"
            exact ⟨_, rfl, fun d hd => raise _ _ gg (by rw [eb, find_first ej al bj]; rfl) d hd⟩
          · have gj : j.ok n = true := by cases h : j.ok n with | true => rfl | false => rw [h] at c4; cases c4
            walk_at "rd"
            refine ⟨_, _, rfl, gg, fun k hk x hx => ?_⟩
            rcases Nat.lt_or_ge k i with lt | ge
            · exact al k lt x hx
            · have : k = i := by omega
              rw [this, ej] at hx
              cases hx
              exact gj
        · rintro σ' H1 ⟨v3, v4, rfl, g, al⟩
          exact q (by rw [eb, find_none fun k hk x hx => al k (by omega) x hx]; rfl) _ g
  · have c0 := of_decide_eq_false c
    walk_at "dec"
    unfold tRaiseNoq tMkNoq
    walk_at "rd"
    exact ⟨_, rfl, fun d hd => out _ (.refl _) (by rw [decide_eq_false (fun z => c0 z.1), Bool.false_and]) d hd⟩

end
section
variable {P : Program} {w : World} {K : PySem.W.Frag} {mg : Str → Option Value} {base : Heap}
/-- what the law's try gives back -/
def refT (o : Option V) : List V := match o with | none => [] | some x => [x]
def spRefusal (K : PySem.W.Frag) : Sp := fun vs H Q _ => ∃ (v : V) (n : Int) (js : List Jn), vs = [v] ∧ Rp K H v (questD n js) ∧ js.length ≤ 40 ∧ (∀ j ∈ js, j.fits) ∧ ∀ (p : Addr) (H' : Hp), Same H H' → H' p = some (.tup (refT (bad n js))) → Q (.ref p) H'
set_option maxHeartbeats 2000000 in
theorem ok_refusal (T : Tx mg) {C fI cW b1 b2 b3 b4 b5 b6 b7 : Addr} (low : PySem.NoQX.NoQTxt K mg C fI) (er : ErrC K C) (hWE : mg "WorthError" = some (.ref cW)) (h1 : mg "BadText" = some (.ref b1)) (h2 : mg "NoFact" = some (.ref b2)) (h3 : mg "NoHouse" = some (.ref b3)) (h4 : mg "NoKept" = some (.ref b4)) (h5 : mg "NoRow" = some (.ref b5)) (h6 : mg "NoWorth" = some (.ref b6)) (h7 : mg "OtherWidths" = some (.ref b7))
    (iW : PySem.W.kitOne K (.ref C) (.ref cW) = some true) (iV : PySem.W.kitOne K (.ref C) (.type "ValueError") = some true) (iA : PySem.W.kitAny K (.ref C) [.ref b1, .ref b2, .ref b3, .ref b4, .ref b5, .ref b6, .ref b7] = some false)
    {f f1 : Addr} {fd d1 : FuncData} (F : Dn K mg "_law_refusal" sLRefusal ["question"] f fd) (DCheckQuestion : Dn K mg "check_question" sCheckQuestion ["question"] f1 d1) (GCheckQuestion : FnOk P w K mg base (L2.CX P w) 7 f1 d1 ["question"] (spCheckX C K)) :
    FnOk P w K mg base CX0 8 f fd ["question"] (spRefusal K) := by
  refine F.F.ok scLRefusal (fun vs H Q E h => ?_) (fun cdv A outer s H vs Q E hr h => ?_)
  · obtain ⟨v, t, js, rfl, _⟩ := h
    rfl
  obtain ⟨v, n, js, rfl, r, hl, fj, q⟩ := h
  have nd := scLRefusal.nd
  refine ⟨_, (pss_cons (ps_try_as (i := 1) (Wout := fun _ _ _ _ => False) rfl rfl nd rfl rfl ⟨rfl, by decide, Or.inl low.gC⟩ takes0
      (fun W pn xe tk _ => pss_one (ps_expr (pe_callS GCheckQuestion hr rfl DCheckQuestion.m DCheckQuestion.F.kp DCheckQuestion.b (fun σ => passAt tk σ) (pa_cons (pv 0) pa_nil))))
      (fun a oe cls d pn hz hf => pss_cons (ps_if (PW.pt (pw_or (pt_not (pt_val (pe_callB (call_isX er hz hf) rfl T.m_isinstance (by decide +kernel) (pa_cons (pv 1) (pa_cons (pe_glob (v := .ref cW) rfl hWE rfl) pa_nil))))) (pw_or1 (pt_not (pt_val (pe_callB (call_isX er hz hf) rfl T.m_isinstance (by decide +kernel) (pa_cons (pv 1) (pa_cons (pe_bltn (v := .ty "ValueError") rfl T.m_ValueError (by decide +kernel) rfl) pa_nil)))))))) pss_never pss_nil)
        (pss_cons (ps_if (pt_val (pe_callB (call_isXT er hz hf) rfl T.m_isinstance (by decide +kernel) (pa_cons (pv 1) (pa_cons (pe_tup (pa_cons (pe_glob (v := .ref b1) rfl h1 rfl) (pa_cons (pe_glob (v := .ref b2) rfl h2 rfl) (pa_cons (pe_glob (v := .ref b3) rfl h3 rfl) (pa_cons (pe_glob (v := .ref b4) rfl h4 rfl) (pa_cons (pe_glob (v := .ref b5) rfl h5 rfl) (pa_cons (pe_glob (v := .ref b6) rfl h6 rfl) (pa_cons (pe_glob (v := .ref b7) rfl h7 rfl) pa_nil)))))))) pa_nil)))) pss_never pss_nil)
        (pss_one (ps_ret (pe_tup (pa_cons (pe_joinOf low hz hf (pv 1)) pa_nil)))))))
    (pss_one (ps_ret (pe_tup pa_nil)))), ?_⟩
  walk_at "rd"
  unfold tCallS
  walk_at "rd"
  refine ⟨v, n, js, rfl, r, hl, fj, fun eb H1 g => ?_, fun x eb d H1 g hd => ?_⟩
  · walk_at "rd"
    refine rd_mk (len_ok rfl) fun p H2 _ e2 g2 => ?_
    exact q p _ (g.trans g2) (by rw [eb]; exact e2)
  · refine ⟨true, low.te, fun _ a0 ha => ?_, fun z => Bool.noConfusion z⟩
    walk_at "rd"
    refine ⟨rfl, _, _, true, d, _, rfl, .own cW, rfl, hd, iW, ?_⟩
    walk_at "dec"
    refine ⟨rfl, _, _, true, d, _, rfl, .ty _, rfl, hd, iV, ?_⟩
    walk_at "dec"
    refine rd_mk (len_ok rfl) fun tp H2 _ e2 g2 => ?_
    walk_at "rd"
    refine ⟨rfl, tp, _, _, false, d, _, rfl, e2, .cons (.own b1) (.cons (.own b2) (.cons (.own b3) (.cons (.own b4) (.cons (.own b5) (.cons (.own b6) (.cons (.own b7) .nil)))))), rfl, g2 _ _ hd, iA, ?_⟩
    walk_at "dec"
    unfold tJoinOf
    walk_at "rd"
    refine ⟨rfl, rfl, d, x, rfl, g2 _ _ hd, ?_⟩
    walk_at "rd"
    refine rd_mk (len_ok rfl) fun p H3 _ e3 g3 => ?_
    exact q p _ (g.trans (g2.trans g3)) (by rw [eb]; exact e3)

end
section
variable {P : Program} {w : World} {K : PySem.W.Frag} {mg : Str → Option Value} {base : Heap}
def spLaw (K : PySem.W.Frag) : Sp := fun vs H Q _ => ∃ (a : Addr) (ns : List Int), vs = [.ref a] ∧ SqL K H a (ns.map V.int) ∧ ns.length ≤ 63 ∧ ∀ H', Q (.bl true) H'
def spQuestX (K : PySem.W.Frag) : Sp := fun vs H Q E => ∃ PI : NWp, spQuest PI K vs H Q E
theorem fn_quest {k : Nat} {f : Addr} {fd : FuncData} {ps : List Str} (h : ∀ PI : NWp, FnOk P w K mg base CX0 k f fd ps (spQuest PI K)) : FnOk P w K mg base CX0 k f fd ps (spQuestX K) :=
  ⟨fun vs H Q E ⟨PI, q⟩ => (h PI).len vs H Q E q, fun A outer s H args us vs Q E r e b v ⟨PI, q⟩ => (h PI).run A outer s H args us vs Q E r e b v q⟩
theorem ints_inV (z : Int) (l : List Int) : inV (.int z) (l.map V.int) = decide (z ∈ l) := by
  unfold inV
  induction l with
  | nil => rfl
  | cons a r ih =>
    rw [List.map_cons, List.any_cons, ih]
    show ((a == z) || decide (z ∈ r)) = _
    by_cases e : z = a
    · subst e; simp
    · have : (a == z) = false := beq_eq_false_iff_ne.mpr fun q => e q.symm
      rw [this, Bool.false_or]
      simp [e]
theorem td_map_inj : ∀ {ms ns : List Tm}, ms.map Tm.td = ns.map Tm.td → ms = ns
  | [], [], _ => rfl
  | [], _ :: _, h => by cases h
  | _ :: _, [], h => by cases h
  | a :: r, b :: s, h => by
    rw [List.map_cons, List.map_cons] at h
    injection h with h1 h2
    rw [tm_inj h1, td_map_inj h2]
/-- the variables of what is drawn -/
theorem vars_in {PI : NWp} {n : Nat} {a : At} (h : atomT PI n a.td) : ∀ z ∈ varsT a.ts, PI.f2 z := by
  obtain ⟨y, ts, e, _, _, ht⟩ := h
  unfold At.td at e
  injection e with e
  injection e with _ e
  injection e with e
  injection e with e
  intro z hz
  obtain ⟨t, mt, et⟩ := List.mem_filterMap.mp hz
  have m2 : t.td ∈ ts := by rw [← e]; exact List.mem_map_of_mem mt
  have q := ht _ m2
  cases t with
  | var x =>
    have ex : x = z := Option.some.inj et
    subst ex
    rcases q with ⟨u, eu, _⟩ | ⟨w, ew, _, hw⟩
    · unfold Tm.td at eu
      injection eu with eu
      injection eu with eu _
      injection eu with eu
      exact absurd eu (by decide +kernel)
    · unfold Tm.td at ew
      injection ew with ew
      injection ew with _ ew
      injection ew with ew
      injection ew with ew
      rw [ew]; exact hw
  | num i => cases et
  | wrd i => cases et
theorem jn_of' {PI : NWp} {n : Nat} (hn : n ≤ 8) {t : TD} (h : joinT PI n 8 8 t) : ∃ j : Jn, t = j.td ∧ j.fits ∧ j.ok n = true ∧ ∀ z ∈ varsB j.bd, PI.f2 z := by
  have h' := h
  obtain ⟨hd, bd, rfl, l1, l2, hb, hh⟩ := h
  obtain ⟨j, e, f, o⟩ := jn_of hn h'
  refine ⟨j, e, f, o, fun z hz => ?_⟩
  unfold Jn.td at e
  injection e with e
  injection e with _ e
  injection e with e
  injection e with e
  obtain ⟨a, ma, hz⟩ := List.mem_flatMap.mp hz
  exact vars_in (hb a.td (by rw [e]; exact List.mem_map_of_mem ma)) z hz
theorem jns_of' {PI : NWp} {n : Nat} (hn : n ≤ 8) : ∀ {ts : List TD}, (∀ t ∈ ts, joinT PI n 8 8 t) → ∃ js : List Jn, ts = js.map Jn.td ∧ ∀ j ∈ js, j.fits ∧ j.ok n = true ∧ ∀ z ∈ varsB j.bd, PI.f2 z
  | [], _ => ⟨[], rfl, fun _ h => (nomatch h)⟩
  | t :: r, h => by
    obtain ⟨m, e, f⟩ := jn_of' hn (h t List.mem_cons_self)
    obtain ⟨ms, e2, f2⟩ := jns_of' hn fun x hx => h x (List.mem_cons_of_mem _ hx)
    refine ⟨m :: ms, by rw [e, e2]; rfl, fun x hx => ?_⟩
    rcases List.mem_cons.mp hx with q | q
    · rw [q]; exact f
    · exact f2 x q
/-- the joins with some of them spoilt -/
structure Spoilt (w : Nat) (js0 js : List Jn) (fts : List Int) : Prop where
  len : js.length = js0.length
  fit : ∀ j ∈ js, j.fits
  rng : ∀ f ∈ fts, 0 ≤ f ∧ f < (js.length : Int)
  br : ∀ (i : Nat) (j : Jn), js[i]? = some j → (i : Int) ∈ fts → j.ok w = false
  old : ∀ (i : Nat), (i : Int) ∉ fts → js[i]? = js0[i]?
theorem Spoilt.put {w : Nat} {js0 js : List Jn} {fts : List Int} (s : Spoilt w js0 js fts) {k : Nat} (hk : k < js.length) {j' : Jn} (f : j'.fits) (b : j'.ok w = false) : Spoilt w js0 (js.set k j') (fts ++ [(k : Int)]) := by
  refine ⟨by rw [List.length_set]; exact s.len, fun j hj => ?_, fun x hx => ?_, fun i j hj hi => ?_, fun i hi => ?_⟩
  · rcases List.mem_or_eq_of_mem_set hj with h | h
    · exact s.fit j h
    · rw [h]; exact f
  · rw [List.length_set]
    rcases List.mem_append.mp hx with h | h
    · exact s.rng x h
    · rw [List.mem_singleton.mp h]; omega
  · by_cases e : k = i
    · subst e
      rw [List.getElem?_set_self hk] at hj
      cases hj; exact b
    · rw [List.getElem?_set_ne e] at hj
      refine s.br i j hj ?_
      rcases List.mem_append.mp hi with h | h
      · exact h
      · have := List.mem_singleton.mp h; omega
  · have h1 : (i : Int) ∉ fts := fun h => hi (List.mem_append_left _ h)
    have h2 : k ≠ i := fun h => hi (List.mem_append_right _ (by rw [h]; exact List.mem_cons_self))
    rw [List.getElem?_set_ne h2]
    exact s.old i h1
theorem Spoilt.least {w : Nat} {js0 js : List Jn} {fts : List Int} (s : Spoilt w js0 js fts) (h0 : ∀ j ∈ js0, j.ok w = true) (hw : w ≤ 8) (h12 : js0.length ≤ 12) {m : Int} (hm : m ∈ fts) (lm : ∀ y ∈ fts, m ≤ y) : bad w js = some (V.int m) := by
  obtain ⟨m0, m1⟩ := s.rng m hm
  obtain ⟨k, rfl⟩ : ∃ k : Nat, m = (k : Int) := ⟨m.toNat, by omega⟩
  have hk : k < js.length := by omega
  have e := List.getElem?_eq_getElem hk
  unfold bad
  rw [decide_eq_true (show 0 ≤ (w : Int) ∧ (w : Int) ≤ 8 by omega), decide_eq_true (show js.length ≤ 12 by rw [s.len]; exact h12), Bool.and_self, if_pos rfl]
  rw [find_first e (fun i hi x hx => ?_) (s.br k _ e hm)]
  · rfl
  · have : (i : Int) ∉ fts := fun h => by have := lm _ h; omega
    rw [s.old i this] at hx
    exact h0 x (List.mem_of_getElem? hx)
theorem bad_none {w : Nat} {js : List Jn} (h0 : ∀ j ∈ js, j.ok w = true) (hw : w ≤ 8) (h12 : js.length ≤ 12) : bad w js = none := by
  unfold bad
  rw [decide_eq_true (show 0 ≤ (w : Int) ∧ (w : Int) ≤ 8 by omega), decide_eq_true h12, Bool.and_self, if_pos rfl, find_none fun k _ x hx => h0 x (List.mem_of_getElem? hx)]
  rfl
theorem bad_wide {n : Int} {js : List Jn} (h : n < 0 ∨ 8 < n) : bad n js = some .non := by
  unfold bad
  rw [decide_eq_false (show ¬ (0 ≤ n ∧ n ≤ 8) by omega), Bool.false_and, if_neg Bool.false_ne_true]
theorem bad_many {n : Int} {js : List Jn} (h : 12 < js.length) : bad n js = some .non := by
  unfold bad
  rw [decide_eq_false (show ¬ (js.length ≤ 12) by omega), Bool.and_false, if_neg Bool.false_ne_true]
theorem rd_minD {K : PySem.W.Frag} {H : Hp} {Q : VK} {F : Addr} {fts : List Int} (h : SqL K H F (fts.map V.int)) (q : ∀ x, (fts = [] ∧ x = .non ∨ ∃ m, x = V.int m ∧ m ∈ fts ∧ ∀ y ∈ fts, m ≤ y) → Q x H) : rMinD K [.ref F] [.non] H Q :=
  ⟨F, fts, rfl, rfl, h, fun e => q _ (.inl ⟨e, rfl⟩), fun m hm lm => q _ (.inr ⟨m, rfl, hm, lm⟩)⟩
theorem map_set {α β : Type} (f : α → β) (l : List α) (k : Nat) (x : α) : (l.set k x).map f = (l.map f).set k (f x) := List.map_set
set_option maxHeartbeats 8000000 in
theorem ok_law (T : Tx mg)  {f f1 f2 f3 f4 f5 f6 f7 f8 f9 f10 : Addr} {fd d1 d2 d3 d4 d5 d6 d7 d8 d9 d10 : FuncData} (F : Dn K mg "law" sLaw ["script"] f fd)
    (DLDraws : Dn K mg "_law_draws" sLDraws ["script", "many"] f1 d1) (GLDraws : FnOk P w K mg base CX0 1 f1 d1 ["script", "many"] (spDraws K))
    (DLTake : Dn K mg "_law_take" sLTake ["draws", "many"] f2 d2) (GLTake : FnOk P w K mg base CX0 1 f2 d2 ["draws", "many"] spTake)
    (DLPick : Dn K mg "_law_pick" sLPick ["draws", "row"] f3 d3) (GLPick : FnOk P w K mg base CX0 2 f3 d3 ["draws", "row"] (spPick K))
    (DLSize : Dn K mg "_law_size" sLSize ["draws", "script"] f4 d4) (GLSize : FnOk P w K mg base CX0 2 f4 d4 ["draws", "script"] (spSize K))
    (DLSame : Dn K mg "_law_same" sLSame ["actual", "due"] f5 d5) (GLSame : FnOk P w K mg base CX0 2 f5 d5 ["actual", "due"] (spSame K 2))
    (DLWords : Dn K mg "_law_words" sLWords ["draws", "many"] f6 d6) (GLWords : FnOk P w K mg base CX0 2 f6 d6 ["draws", "many"] spWordsN)
    (DLAnyJoin : Dn K mg "_law_any_join" sLAnyJoin ["draws", "script", "words", "width", "atoms", "most"] f7 d7) (GLAnyJoin : FnOk P w K mg base CX0 7 f7 d7 ["draws", "script", "words", "width", "atoms", "most"] (spJoin PI0 K))
    (DLAnyQuestion : Dn K mg "_law_any_question" sLAnyQuestion ["draws", "script", "words"] f8 d8) (GLAnyQuestion : FnOk P w K mg base CX0 8 f8 d8 ["draws", "script", "words"] (spQuestX K))
    (DLWrongJoin : Dn K mg "_law_wrong_join" sLWrongJoin ["draws", "script", "words", "width", "join"] f9 d9) (GLWrongJoin : FnOk P w K mg base CX0 7 f9 d9 ["draws", "script", "words", "width", "join"] (spWrong K))
    (DLRefusal : Dn K mg "_law_refusal" sLRefusal ["question"] f10 d10) (GLRefusal : FnOk P w K mg base CX0 8 f10 d10 ["question"] (spRefusal K)) :
    FnOk P w K mg base CX0 31 f fd ["script"] (spLaw K) := by
  refine F.F.ok scLaw (fun vs H Q E h => ?_) (fun cdv A outer s H vs Q E hr h => ?_)
  · obtain ⟨a, ns, rfl, _⟩ := h
    rfl
  obtain ⟨a, ns, rfl, hS, h63, q⟩ := h
  have nd := scLaw.nd
  refine ⟨_, (pss_cons (ps_set (i := 1) nd rfl (Or.inl rfl) (pe_call GLDraws (hr.mono (by omega)) rfl DLDraws.m DLDraws.F.kp DLDraws.b .nil pass0 (pa_cons (pv 0) (pa_cons pe_int pa_nil))))
  (pss_cons (ps_set (i := 2) nd rfl (Or.inl rfl) (pe_call GLWords (hr.mono (by omega)) rfl DLWords.m DLWords.F.kp DLWords.b .nil pass0 (pa_cons (pv 1) (pa_cons pe_int pa_nil))))
  (pss_cons (ps_set (i := 3) nd rfl (Or.inl rfl) (pe_call GLAnyQuestion (hr.mono (by omega)) rfl DLAnyQuestion.m DLAnyQuestion.F.kp DLAnyQuestion.b .nil pass0 (pa_cons (pv 1) (pa_cons (pv 0) (pa_cons (pv 2) pa_nil)))))
  (pss_cons (ps_set (i := 4) nd rfl (Or.inl rfl) (pe_callTy (k_list K rfl) rfl T.m_list (by decide +kernel) (pa_cons (pe_ix (k_ixT K rfl) (pv 3) pe_int (fun _ _ => rfl)) pa_nil)))
  (pss_cons (ps_set (i := 5) nd rfl (Or.inl rfl) (pe_ix (k_ixT K rfl) (pv 3) pe_int (fun _ _ => rfl)))
  (pss_cons (ps_set (i := 6) nd rfl (Or.inl rfl) (pe_lst pa_nil))
  (pss_cons (ps_for PassesOwn.never rfl (pi_range1 rfl T.m_range (pa_cons (pe_op op_add pe_int (pe_call GLTake (hr.mono (by omega)) rfl DLTake.m DLTake.F.kp DLTake.b .nil pass0 (pa_cons (pv 1) (pa_cons pe_int pa_nil)))) pa_nil)) (pg_name (i := 7) nd rfl (Or.inl rfl)) (pss_one (ps_if (pt_cmpR op_gt (pe_callB (k_len K rfl) rfl T.m_len PySem.boot_len (pa_cons (pv 4) pa_nil)) pe_int (nomark _)) (pss_cons (ps_set (i := 8) nd rfl (Or.inl rfl) (pe_call GLTake (hr.mono (by omega)) rfl DLTake.m DLTake.F.kp DLTake.b .nil pass0 (pa_cons (pv 1) (pa_cons (pe_callB (k_len K rfl) rfl T.m_len PySem.boot_len (pa_cons (pv 4) pa_nil)) pa_nil))))
  (pss_one (ps_if (pt_cmpR (k_notIn K rfl) (pv 8) (pv 6) rfl) (pss_cons (ps_asg (pe_call GLWrongJoin (hr.mono (by omega)) rfl DLWrongJoin.m DLWrongJoin.F.kp DLWrongJoin.b .nil pass0 (pa_cons (pv 1) (pa_cons (pv 0) (pa_cons (pv 2) (pa_cons (pv 5) (pa_cons (pe_ix (k_ixL K rfl) (pv 4) (pv 8) (fun _ _ => rfl)) pa_nil)))))) (pg_sub (pv 4) (pv 8) set_list))
  (pss_one (ps_expr (k_bm K rfl (pe_bm PySem.F.plainAttrs_list PySem.F.slot_list_append PySem.F.type_list_append mt_append (pv 6) (pa_cons (pv 8) pa_nil)))))) pss_nil))) pss_nil)))
  (pss_cons (ps_set (i := 9) nd rfl (Or.inl rfl) (pe_tup (pa_cons (pe_callBK (cr_minD rfl rfl (hu_of hr)) rfl T.m_min (by decide +kernel) (pa_cons (pv 6) pa_nil) (pk_cons pe_non pk_nil)) pa_nil)))
  (pss_cons (ps_set (i := 10) nd rfl (Or.inl rfl) (pe_call GLTake (hr.mono (by omega)) rfl DLTake.m DLTake.F.kp DLTake.b .nil pass0 (pa_cons (pv 1) (pa_cons pe_int pa_nil))))
  (C8.pss_cut (ps_if (PW.pt (pw_or (pt_cmpR op_eq (pv 10) pe_int (nomark _)) (pw_or1 (pt_cmpR op_eq (pe_callB (k_len K rfl) rfl T.m_len PySem.boot_len (pa_cons (pv 4) pa_nil)) pe_int (nomark _))))) (pss_cons (ps_set (i := 5) nd rfl (Or.inl rfl) (pe_call GLPick (hr.mono (by omega)) rfl DLPick.m DLPick.F.kp DLPick.b .nil pass0 (pa_cons (pv 1) (pa_cons (pe_lst (pa_cons (pe_op op_sub (pe_un un_neg pe_int) (pe_call GLSize (hr.mono (by omega)) rfl DLSize.m DLSize.F.kp DLSize.b .nil pass0 (pa_cons (pv 1) (pa_cons (pv 0) pa_nil)))) (pa_cons (pe_op op_add pe_int (pe_call GLSize (hr.mono (by omega)) rfl DLSize.m DLSize.F.kp DLSize.b .nil pass0 (pa_cons (pv 1) (pa_cons (pv 0) pa_nil)))) pa_nil))) pa_nil))))
  (pss_one (ps_set (i := 9) nd rfl (Or.inl rfl) (pe_tup (pa_cons pe_non pa_nil))))) (pss_one (ps_if (pt_cmpR op_eq (pv 10) pe_int (nomark _)) (pss_cons (ps_for PassesOwn.never rfl (pi_range1 rfl T.m_range (pa_cons (pe_op op_add (pe_op op_sub pe_int (pe_callB (k_len K rfl) rfl T.m_len PySem.boot_len (pa_cons (pv 4) pa_nil))) (pe_call GLTake (hr.mono (by omega)) rfl DLTake.m DLTake.F.kp DLTake.b .nil pass0 (pa_cons (pv 1) (pa_cons pe_int pa_nil)))) pa_nil)) (pg_name (i := 7) nd rfl (Or.inl rfl)) (pss_one (ps_expr (k_bm K rfl (pe_bm PySem.F.plainAttrs_list PySem.F.slot_list_append PySem.F.type_list_append mt_append (pv 4) (pa_cons (pe_call GLAnyJoin (hr.mono (by omega)) rfl DLAnyJoin.m DLAnyJoin.F.kp DLAnyJoin.b .nil pass0 (pa_cons (pv 1) (pa_cons (pv 0) (pa_cons (pv 2) (pa_cons (pv 5) (pa_cons pe_int (pa_cons pe_int pa_nil))))))) pa_nil))))))
  (pss_one (ps_set (i := 9) nd rfl (Or.inl rfl) (pe_tup (pa_cons pe_non pa_nil))))) pss_nil)))
  (pss_cons (ps_if (PW.pt (pw_or (pt_cmpR op_gt (pe_callB (k_len K rfl) rfl T.m_len PySem.boot_len (pa_cons (pe_call GLRefusal (hr.mono (by omega)) rfl DLRefusal.m DLRefusal.F.kp DLRefusal.b .nil pass0 (pa_cons (pv 3) pa_nil)) pa_nil)) pe_int (nomark _)) (pw_or1 (pt_not (pt_val (pe_call GLSame (hr.mono (by omega)) rfl DLSame.m DLSame.F.kp DLSame.b .nil pass0 (pa_cons (pe_call GLRefusal (hr.mono (by omega)) rfl DLRefusal.m DLRefusal.F.kp DLRefusal.b .nil pass0 (pa_cons (pe_tup (pa_cons (pv 5) (pa_cons (pe_callTy (k_tuple K rfl) rfl T.m_tuple (by decide +kernel) (pa_cons (pv 4) pa_nil)) pa_nil))) pa_nil)) (pa_cons (pv 9) pa_nil)))))))) (pss_one (ps_ret pe_bl)) pss_nil)
  (pss_one (ps_ret (pe_cmpR op_eq (pe_callB (k_len K rfl) rfl T.m_len PySem.boot_len (pa_cons (pe_call GLRefusal (hr.mono (by omega)) rfl DLRefusal.m DLRefusal.F.kp DLRefusal.b .nil pass0 (pa_cons (pv 3) pa_nil)) pa_nil)) pe_int (nomark _))))))))))))))), ?_⟩
  walk_at "rd"
  refine ⟨a, 700, ns, rfl, hS, by decide, by decide, h63, fun d ds H1 nd1 e1 s1 => ?_⟩
  walk_at "rd"
  have hS1 := sc_of hS nd1 s1
  have hd1 : DrAt d H1 := ⟨ds, e1⟩
  refine ⟨d, 10, rfl, hd1, by decide, fun L ws H2 _ g2 wl lw hnd => ?_⟩
  walk_at "rd"
  refine ⟨⟨fun _ => True, fun z => z ∈ ws.take 5⟩, d, a, L, ns, ws, rfl, g2.isD, hS1.dr g2, h63, ⟨fun _ _ => trivial, fun _ h => h⟩, wl, by omega, fun v1 t1 H3 g3 r1 q1 => ?_⟩
  walk_at "rd"
  obtain ⟨wd, jt, rfl, w8, l12, hj⟩ := q1
  obtain ⟨js0, rfl, h0⟩ := jns_of' w8 hj
  rw [List.length_map] at l12
  have r1q : Rp K H3 v1 (questD wd js0) := r1
  obtain ⟨pq, vw, vj, rfl, sq, rw_, rj⟩ := r1.duo
  cases rw_
  obtain ⟨ja, jx, rfl, sqj, rjs⟩ := rj.seq
  have ljx : jx.length = js0.length := by rw [rjs.length, List.length_map]
  have hS2 := hS1.dr g2
  refine rd_ixT sq rfl ?_
  walk_at "rd"
  refine rd_listT sqj fun R hR => ?_
  walk_at "rd"
  have s4 : Same H3 (upd H3 R (.lst jx)) := same_new hR
  have nR : R ≠ d := g3.ne_new hR
  have fR : H2 R = none := g3.fresh hR
  refine rd_ixT (same_sqt s4 sq) rfl ?_
  walk_at "rd"
  refine rd_mk (len_ok rfl) fun F H5 nF eF sF => ?_
  walk_at "rd"
  have s45 := s4.trans sF
  have g5 := g3.same s45
  have nFd : F ≠ d := (g3.same s4).ne_new nF
  have fF : H2 F = none := (g3.same s4).fresh nF
  have eR5 : H5 R = some (.lst jx) := sF _ _ upd_same
  have nRF : R ≠ F := fun e => by rw [← e, upd_same] at nF; cases nF
  have nFR : F ≠ R := Ne.symm nRF
  refine take_step (by decide) g5.isD fun k3 H6 k30 k31 g6 => ?_
  walk_at "rd"
  have g16 := g5.trans g6
  refine rd_r1 ⟨by omega, by omega⟩ ?_
  have sp0 : Spoilt wd js0 js0 [] := ⟨rfl, fun j hj => (h0 j hj).1, fun _ h => (nomatch h), fun _ _ _ h => (nomatch h), fun _ _ => rfl⟩
  refine for_range (lo := 0) (n := (1 + k3).toNat) (fun i σ' H' => ∃ (v7 v8 : Option V) (xs : List V) (js : List Jn) (fts : List Int), σ' = [some (.ref a), some (.ref d), some (.ref L), some (.ref pq), some (.ref R), some (.int wd), some (.ref F), v7, v8, none, none] ∧
    Dr d H2 H' ∧ H' R = some (.lst xs) ∧ RpA K H' xs (js.map Jn.td) ∧ H' F = some (.lst (fts.map V.int)) ∧ Rp K H' (.ref pq) (questD wd js0) ∧ Spoilt wd js0 js fts ∧ fts.length ≤ i ∧ (1 ≤ i → 0 < js0.length → fts ≠ [])) ⟨none, none, jx, js0, [], rfl, g16, g6.kp _ _ nR eR5, g6.rpa (same_rpa s45 rjs), g6.kp _ _ nFd eF, g6.rp (same_rp s45 r1q), sp0, Nat.le_refl _, fun h => absurd h (by decide)⟩ ?_ ?_
  · rintro i σ' H7 hi ⟨v7, v8, xs, js, fts, rfl, g7, eR7, rx7, eF7, rq7, sp, lf, nf⟩
    have lxs : xs.length = js.length := by rw [rx7.length, List.length_map]
    have lj0 := sp.len
    walk_at "rd"
    refine rd_len (SqL.of eR7) ?_
    walk_at "rd"
    refine iteD (fun c1 => ?_) (fun c1 => ?_)
    · walk_at "rd"
      refine rd_len (SqL.of eR7) ?_
      walk_at "rd"
      refine take_step (by omega) g7.isD fun at_ H8 a0 a1 g8 => ?_
      walk_at "rd"
      obtain ⟨k, rfl⟩ : ∃ k : Nat, at_ = (k : Int) := ⟨at_.toNat, by omega⟩
      have hk : k < js.length := by omega
      have eF8 := g8.kp _ _ nFd eF7
      have eR8 := g8.kp _ _ nR eR7
      have rx8 := g8.rpa rx7
      have g28 := g7.trans g8
      refine rd_notIn (SqL.of eF8) rfl (flat_ints fts) ?_
      rw [ints_inV]
      walk_at "rd"
      refine iteB (fun c2 => ?_) (fun c2 => ?_)
      · have nk : (k : Int) ∉ fts := fun h => by rw [decide_eq_true h] at c2; cases c2
        have ek := List.getElem?_eq_getElem hk
        have ek0 : js0[k]? = some js[k] := by rw [← sp.old k nk]; exact ek
        obtain ⟨f0, o0, v0⟩ := h0 _ (List.mem_of_getElem? ek0)
        have ekt : (js.map Jn.td)[k]? = some js[k].td := by rw [List.getElem?_map, ek]; rfl
        obtain ⟨u, eu, ru⟩ := rx8.get ekt
        walk_at "rd"
        refine rd_ixL (SqL.of eR8) (atI_nat eu) ?_
        walk_at "rd"
        refine ⟨d, a, L, wd, u, ns, ws, js[k].hd, js[k].bd, rfl, g8.isD, hS2.dr g28, h63, wl.dr g28, lw, hnd, ru, f0, o0, w8, v0, fun w' j' H9 g9 rw' f' o' => ?_⟩
        walk_at "rd"
        have eR9 := g9.kp _ _ nR eR8
        have eF9 := g9.kp _ _ nFd eF8
        refine rd_setL eR9 (by omega) (by omega) ?_
        rw [show ((k : Int)).toNat = k by omega]
        walk_at "rd"
        have eFA : upd H9 R (.lst (xs.set k w')) F = some (.lst (fts.map V.int)) := by rw [upd_ne nFR]; exact eF9
        refine rd_ty (SqL.of eFA) ?_
        walk_at "rd"
        refine rd_append eFA (by rw [List.length_map]; exact small1000 (by omega)) ?_
        walk_at "rd"
        have gA : Dr d H2 (upd H9 R (.lst (xs.set k w'))) := (g28.trans g9).own fR
        refine ⟨_, _, xs.set k w', js.set k j', fts ++ [(k : Int)], rfl, gA.own fF, by rw [upd_ne nRF]; exact upd_same, ?_, by rw [upd_same, List.map_append]; rfl, rp_put eFA (rp_put eR9 (g9.rp (g8.rp rq7))), sp.put hk f' o', by rw [List.length_append]; show fts.length + 1 ≤ i + 1; omega, fun _ _ => by simp⟩
        rw [List.map_set]
        exact rpa_put eFA (rpa_put eR9 (rpa_set k (g9.rpa rx8) rw'))
      · walk_at "rd"
        have mk : (k : Int) ∈ fts := by
          cases h : decide ((k : Int) ∈ fts) with
          | true => exact of_decide_eq_true h
          | false => rw [h] at c2; cases c2
        exact ⟨_, _, xs, js, fts, rfl, g28, eR8, rx8, eF8, g8.rp rq7, sp, by omega, fun _ _ e => by rw [e] at mk; cases mk⟩
    · walk_at "rd"
      exact ⟨_, _, xs, js, fts, rfl, g7, eR7, rx7, eF7, rq7, sp, by omega, fun _ h => by omega⟩
  rintro σ' H7 ⟨v7, v8, xs, js, fts, rfl, g7, eR7, rx7, eF7, rq7, sp, lf, nf⟩
  have lxs : xs.length = js.length := by rw [rx7.length, List.length_map]
  have lj0 := sp.len
  have nf' := nf (by omega)
  walk_at "rd"
  unfold tCKw
  walk_at "rd"
  refine rd_minD (SqL.of eF7) fun x hx => ?_
  walk_at "rd"
  refine rd_mk (len_ok rfl) fun du H8 n8 e8 s8 => ?_
  walk_at "rd"
  have g8 := g7.same s8
  have ndu : du ≠ d := g7.ne_new n8
  have fdu : H2 du = none := g7.fresh n8
  have nduR : du ≠ R := fun e => by rw [e, eR7] at n8; cases n8
  refine take_step (by decide) g8.isD fun kind H9 k0 k1 g9 => ?_
  walk_at "rd"
  have g29 := g8.trans g9
  have eR9 := g9.kp _ _ nR (s8 _ _ eR7)
  have e9 := g9.kp _ _ ndu e8
  have rx9 := g9.rpa (same_rpa s8 rx7)
  have rq9 := g9.rp (same_rp s8 rq7)
  refine ⟨fun σ' H' => ∃ (v7 v8 : Option V) (n : Int) (xs : List V) (js : List Jn) (du : Addr) (x : V), σ' = [some (.ref a), some (.ref d), some (.ref L), some (.ref pq), some (.ref R), some (.int n), some (.ref F), v7, v8, some (.ref du), some (.int kind)] ∧
    H' R = some (.lst xs) ∧ RpA K H' xs (js.map Jn.td) ∧ Rp K H' (.ref pq) (questD wd js0) ∧ (∀ j ∈ js, j.fits) ∧ js.length ≤ 40 ∧ H' du = some (.tup [x]) ∧ bad n js = some x ∧ (x = .non ∨ ∃ i : Int, x = .int i), ?_, ?_⟩
  · walk_at "rd"
    refine iteD (fun c1 => ?_) (fun c1 => ?_)
    · walk_at "rd"
      refine ⟨d, a, ns, rfl, g9.isD, hS2.dr g29, h63, fun n1 HA n10 gA _ => ?_⟩
      walk_at "rd"
      refine ⟨d, a, ns, rfl, gA.isD, hS2.dr (g29.trans gA), h63, fun n2 HB n20 gB _ => ?_⟩
      walk_at "rd"
      refine rd_mk (len_ok rfl) fun wl_ HC nC eC sC => ?_
      walk_at "rd"
      have gAB := gA.trans gB
      have g2C := (g29.trans gAB).same sC
      refine ⟨d, wl_, _, rfl, g2C.isD, eC, (g29.trans gAB).ne_new nC, fun e => (nomatch e), fun v HD gD mv => ?_⟩
      walk_at "rd"
      refine rd_mk (len_ok rfl) fun d2 HE nE eE sE => ?_
      walk_at "rd"
      obtain ⟨n, rfl, hn⟩ : ∃ n : Int, v = .int n ∧ (n < 0 ∨ 8 < n) := by
        simp only [List.mem_cons, List.not_mem_nil, or_false] at mv
        rcases mv with rfl | rfl
        · exact ⟨_, rfl, by omega⟩
        · exact ⟨_, rfl, by omega⟩
      exact ⟨_, _, n, xs, js, d2, .non, rfl, sE _ _ (gD.kp _ _ nR (sC _ _ (gAB.kp _ _ nR eR9))), same_rpa sE (gD.rpa (same_rpa sC (gAB.rpa rx9))), same_rp sE (gD.rp (same_rp sC (gAB.rp rq9))), sp.fit, by omega, eE, bad_wide hn, .inl rfl⟩
    walk_at "rd"
    refine rd_len (SqL.of eR9) ?_
    walk_at "rd"
    refine iteD (fun c2 => ?_) (fun c2 => ?_)
    · walk_at "rd"
      refine ⟨d, a, ns, rfl, g9.isD, hS2.dr g29, h63, fun n1 HA n10 gA _ => ?_⟩
      walk_at "rd"
      refine ⟨d, a, ns, rfl, gA.isD, hS2.dr (g29.trans gA), h63, fun n2 HB n20 gB _ => ?_⟩
      walk_at "rd"
      refine rd_mk (len_ok rfl) fun wl_ HC nC eC sC => ?_
      walk_at "rd"
      have gAB := gA.trans gB
      have g2C := (g29.trans gAB).same sC
      refine ⟨d, wl_, _, rfl, g2C.isD, eC, (g29.trans gAB).ne_new nC, fun e => (nomatch e), fun v HD gD mv => ?_⟩
      walk_at "rd"
      refine rd_mk (len_ok rfl) fun d2 HE nE eE sE => ?_
      walk_at "rd"
      obtain ⟨n, rfl, hn⟩ : ∃ n : Int, v = .int n ∧ (n < 0 ∨ 8 < n) := by
        simp only [List.mem_cons, List.not_mem_nil, or_false] at mv
        rcases mv with rfl | rfl
        · exact ⟨_, rfl, by omega⟩
        · exact ⟨_, rfl, by omega⟩
      exact ⟨_, _, n, xs, js, d2, .non, rfl, sE _ _ (gD.kp _ _ nR (sC _ _ (gAB.kp _ _ nR eR9))), same_rpa sE (gD.rpa (same_rpa sC (gAB.rpa rx9))), same_rp sE (gD.rp (same_rp sC (gAB.rp rq9))), sp.fit, by omega, eE, bad_wide hn, .inl rfl⟩
    have pos : 0 < js0.length := by
      rcases Nat.eq_zero_or_pos js0.length with e | e
      · exact absurd (by rw [lxs, lj0, e]; rfl) c2
      · exact e
    walk_at "rd"
    refine iteD (fun c3 => ?_) (fun c3 => ?_)
    · walk_at "rd"
      refine rd_len (SqL.of eR9) ?_
      walk_at "rd"
      refine take_step (by decide) g9.isD fun r HA r0 r1 gA => ?_
      walk_at "rd"
      refine rd_r1 ⟨by omega, by omega⟩ ?_
      have g2A := g29.trans gA
      refine for_range (lo := 0) (n := ((13 : Int) - (xs.length : Int) + r).toNat) (fun i σ' H' => ∃ (v7 : Option V) (xs2 : List V) (js2 : List Jn), σ' = [some (.ref a), some (.ref d), some (.ref L), some (.ref pq), some (.ref R), some (.int wd), some (.ref F), v7, v8, some (.ref du), some (.int kind)] ∧
        Dr d H2 H' ∧ H' R = some (.lst xs2) ∧ RpA K H' xs2 (js2.map Jn.td) ∧ Rp K H' (.ref pq) (questD wd js0) ∧ (∀ j ∈ js2, j.fits) ∧ js2.length = js0.length + i) ⟨_, xs, js, rfl, g2A, gA.kp _ _ nR eR9, gA.rpa rx9, gA.rp rq9, sp.fit, by omega⟩ ?_ ?_
      · rintro i σ' HB hi ⟨v7, xs2, js2, rfl, gB, eB, rB, qB, fB, lB⟩
        have lx2 : xs2.length = js2.length := by rw [rB.length, List.length_map]
        walk_at "rd"
        refine rd_ty (SqL.of eB) ?_
        walk_at "rd"
        refine ⟨d, a, L, wd, 1, 2, ns, ws, rfl, gB.isD, hS2.dr gB, h63, hyp0 _ _, wl.dr gB, by omega, w8, by decide, by decide, fun v t HC gC rv tv => ?_⟩
        obtain ⟨j, ej, fj, _⟩ := jn_of w8 (join_up (by decide) (by decide) tv)
        subst ej
        have eC := gC.kp _ _ nR eB
        walk_at "rd"
        refine rd_append eC (small1000 (by omega)) ?_
        walk_at "rd"
        refine ⟨_, xs2 ++ [v], js2 ++ [j], rfl, (gB.trans gC).own fR, upd_same, ?_, rp_put eC (gC.rp qB), fun x hx => ?_, by rw [List.length_append, lB]; rfl⟩
        · rw [List.map_append]
          exact RpA.app (rpa_put eC (gC.rpa rB)) (.cons (rp_put eC rv) .nil)
        · rcases List.mem_append.mp hx with h | h
          · exact fB x h
          · rw [List.mem_singleton.mp h]; exact fj
      · rintro σ' HB ⟨v7, xs2, js2, rfl, gB, eB, rB, qB, fB, lB⟩
        walk_at "rd"
        refine rd_mk (len_ok rfl) fun d2 HE nE eE sE => ?_
        walk_at "rd"
        exact ⟨_, _, wd, xs2, js2, d2, .non, rfl, sE _ _ eB, same_rpa sE rB, same_rp sE qB, fB, by omega, eE, bad_many (by omega), .inl rfl⟩
    · walk_at "rd"
      rcases hx with ⟨e, _⟩ | ⟨m, rfl, hm, lm⟩
      · exact absurd e (nf' pos)
      · exact ⟨_, _, wd, xs, js, du, .int m, rfl, eR9, rx9, rq9, sp.fit, by omega, e9, sp.least (fun j hj => (h0 j hj).2.1) w8 l12 hm lm, .inr ⟨m, rfl⟩⟩
  rintro σ' HA ⟨v7', v8', n, xs2, js2, du2, x2, rfl, eRA, rxA, rqA, fA, lA, eA, bA, xA⟩
  have b0 : bad wd js0 = none := bad_none (fun j hj => (h0 j hj).2.1) w8 l12
  have f0 : ∀ j ∈ js0, j.fits := fun j hj => (h0 j hj).1
  walk_at "rd"
  refine ⟨_, wd, js0, rfl, rqA, by omega, f0, fun p1 HB gB eB => ?_⟩
  rw [b0] at eB
  walk_at "rd"
  refine rd_lenT (SqT.of eB) ?_
  walk_at "dec"
  refine rd_tuple (SqL.of (gB _ _ eRA)) fun t1 h1 => ?_
  walk_at "rd"
  have s1' : Same HB (upd HB t1 (.tup xs2)) := same_new h1
  refine rd_mk (len_ok rfl) fun t2 HC nC eC sC => ?_
  have sBC := s1'.trans sC
  refine ⟨.ref t2, n, js2, rfl, .tup (SqT.of eC) (.cons (.int n) (.cons (.tup (same_sqt sC (SqT.of upd_same)) (same_rpa sBC (same_rpa gB rxA))) .nil)), lA, fA, fun p2 HD gD eD => ?_⟩
  rw [bA] at eD
  walk_at "rd"
  have sAD := gB.trans (sBC.trans gD)
  obtain ⟨xt, rxt, fxt⟩ : ∃ xt : TD, (∀ H, Rp K H x2 xt) ∧ xt.fit 1 := by
    rcases xA with rfl | ⟨i, rfl⟩
    · exact ⟨.non, fun _ => .non, trivial⟩
    · exact ⟨.int i, fun _ => .int i, trivial⟩
  refine ⟨.ref p2, .ref du2, .tup [xt], rfl, .tup (SqT.of eD) (.cons (rxt _) .nil), .tup (SqT.of (sAD _ _ eA)) (.cons (rxt _) .nil), ⟨show 1 ≤ 20000 by decide, fun t ht => by rw [List.mem_singleton.mp ht]; exact fxt⟩, fun HE gE => ?_⟩
  walk_at "dec"
  refine ⟨_, wd, js0, rfl, same_rp (sAD.trans gE) rqA, by omega, f0, fun p3 HF gF eF => ?_⟩
  rw [b0] at eF
  walk_at "rd"
  refine rd_lenT (SqT.of eF) ?_
  walk_at "rd"
  exact q _

end
set_option maxHeartbeats 8000000 in
theorem all_mk {l : PySem.W.OpenLaw} {w : World} {K : PySem.W.Frag} {h : Heap} {mg : Str → Option Value} {fa : Addr} (X : K.In h) (G : h.Ns mainGlobals mg) (hfa : mg "law" = some (.ref fa))
    {f1 : Addr} {od1 an1 : Option Addr} {sl1 : Array (Option Value)} {oc1 kV1 dc1 pm1 cd1 ct1 : Value} {f2 : Addr} {od2 an2 : Option Addr} {sl2 : Array (Option Value)} {oc2 kV2 dc2 pm2 cd2 ct2 : Value} {f3 : Addr} {od3 an3 : Option Addr} {sl3 : Array (Option Value)} {oc3 kV3 dc3 pm3 cd3 ct3 : Value} {f4 : Addr} {od4 an4 : Option Addr} {sl4 : Array (Option Value)} {oc4 kV4 dc4 pm4 cd4 ct4 : Value} {f5 : Addr} {od5 an5 : Option Addr} {sl5 : Array (Option Value)} {oc5 kV5 dc5 pm5 cd5 ct5 : Value} {f6 : Addr} {od6 an6 : Option Addr} {sl6 : Array (Option Value)} {oc6 kV6 dc6 pm6 cd6 ct6 : Value} {f7 : Addr} {od7 an7 : Option Addr} {sl7 : Array (Option Value)} {oc7 kV7 dc7 pm7 cd7 ct7 : Value} {f8 : Addr} {od8 an8 : Option Addr} {sl8 : Array (Option Value)} {oc8 kV8 dc8 pm8 cd8 ct8 : Value} {f9 : Addr} {od9 an9 : Option Addr} {sl9 : Array (Option Value)} {oc9 kV9 dc9 pm9 cd9 ct9 : Value} {f10 : Addr} {od10 an10 : Option Addr} {sl10 : Array (Option Value)} {oc10 kV10 dc10 pm10 cd10 ct10 : Value} {f11 : Addr} {od11 an11 : Option Addr} {sl11 : Array (Option Value)} {oc11 kV11 dc11 pm11 cd11 ct11 : Value} {f12 : Addr} {od12 an12 : Option Addr} {sl12 : Array (Option Value)} {oc12 kV12 dc12 pm12 cd12 ct12 : Value} {f13 : Addr} {od13 an13 : Option Addr} {sl13 : Array (Option Value)} {oc13 kV13 dc13 pm13 cd13 ct13 : Value} {f14 : Addr} {od14 an14 : Option Addr} {sl14 : Array (Option Value)} {oc14 kV14 dc14 pm14 cd14 ct14 : Value} {f15 : Addr} {od15 an15 : Option Addr} {sl15 : Array (Option Value)} {oc15 kV15 dc15 pm15 cd15 ct15 : Value} {f16 : Addr} {od16 an16 : Option Addr} {sl16 : Array (Option Value)} {oc16 kV16 dc16 pm16 cd16 ct16 : Value} {f17 : Addr} {od17 an17 : Option Addr} {sl17 : Array (Option Value)} {oc17 kV17 dc17 pm17 cd17 ct17 : Value} {f18 : Addr} {od18 an18 : Option Addr} {sl18 : Array (Option Value)} {oc18 kV18 dc18 pm18 cd18 ct18 : Value} {f19 : Addr} {od19 an19 : Option Addr} {sl19 : Array (Option Value)} {oc19 kV19 dc19 pm19 cd19 ct19 : Value} {f20 : Addr} {od20 an20 : Option Addr} {sl20 : Array (Option Value)} {oc20 kV20 dc20 pm20 cd20 ct20 : Value} {f21 : Addr} {od21 an21 : Option Addr} {sl21 : Array (Option Value)} {oc21 kV21 dc21 pm21 cd21 ct21 : Value} {f22 : Addr} {od22 an22 : Option Addr} {sl22 : Array (Option Value)} {oc22 kV22 dc22 pm22 cd22 ct22 : Value} {f23 : Addr} {od23 an23 : Option Addr} {sl23 : Array (Option Value)} {oc23 kV23 dc23 pm23 cd23 ct23 : Value} {f24 : Addr} {od24 an24 : Option Addr} {sl24 : Array (Option Value)} {oc24 kV24 dc24 pm24 cd24 ct24 : Value} {f25 : Addr} {od25 an25 : Option Addr} {sl25 : Array (Option Value)} {oc25 kV25 dc25 pm25 cd25 ct25 : Value} {f26 : Addr} {od26 an26 : Option Addr} {sl26 : Array (Option Value)} {oc26 kV26 dc26 pm26 cd26 ct26 : Value}
    (a1 : PySem.W.nsIn K mainGlobals "is_word" = some (some (.ref f1))) (l1 : K.lookup f1 = some ⟨oc1, od1, .func (PySem.W.fnOf "is_word" "is_word" (defArgs sIsWord) (defBody sIsWord) (defScope sIsWord) .none kV1 dc1 pm1 an1 cd1 ct1), sl1⟩) (c1 : PySem.W.codeIn K cd1 "is_word" = true) (k1 : PySem.W.keepIn K (.ref f1) = true)
    (a2 : PySem.W.nsIn K mainGlobals "is_value" = some (some (.ref f2))) (l2 : K.lookup f2 = some ⟨oc2, od2, .func (PySem.W.fnOf "is_value" "is_value" (defArgs sIsValue) (defBody sIsValue) (defScope sIsValue) .none kV2 dc2 pm2 an2 cd2 ct2), sl2⟩) (c2 : PySem.W.codeIn K cd2 "is_value" = true) (k2 : PySem.W.keepIn K (.ref f2) = true)
    (a3 : PySem.W.nsIn K mainGlobals "check_question" = some (some (.ref f3))) (l3 : K.lookup f3 = some ⟨oc3, od3, .func (PySem.W.fnOf "check_question" "check_question" (defArgs sCheckQuestion) (defBody sCheckQuestion) (defScope sCheckQuestion) .none kV3 dc3 pm3 an3 cd3 ct3), sl3⟩) (c3 : PySem.W.codeIn K cd3 "check_question" = true) (k3 : PySem.W.keepIn K (.ref f3) = true)
    (a4 : PySem.W.nsIn K mainGlobals "is_join" = some (some (.ref f4))) (l4 : K.lookup f4 = some ⟨oc4, od4, .func (PySem.W.fnOf "is_join" "is_join" (defArgs sIsJoin) (defBody sIsJoin) (defScope sIsJoin) .none kV4 dc4 pm4 an4 cd4 ct4), sl4⟩) (c4 : PySem.W.codeIn K cd4 "is_join" = true) (k4 : PySem.W.keepIn K (.ref f4) = true)
    (a5 : PySem.W.nsIn K mainGlobals "is_atom" = some (some (.ref f5))) (l5 : K.lookup f5 = some ⟨oc5, od5, .func (PySem.W.fnOf "is_atom" "is_atom" (defArgs sIsAtom) (defBody sIsAtom) (defScope sIsAtom) .none kV5 dc5 pm5 an5 cd5 ct5), sl5⟩) (c5 : PySem.W.codeIn K cd5 "is_atom" = true) (k5 : PySem.W.keepIn K (.ref f5) = true)
    (a6 : PySem.W.nsIn K mainGlobals "are_terms" = some (some (.ref f6))) (l6 : K.lookup f6 = some ⟨oc6, od6, .func (PySem.W.fnOf "are_terms" "are_terms" (defArgs sAreTerms) (defBody sAreTerms) (defScope sAreTerms) .none kV6 dc6 pm6 an6 cd6 ct6), sl6⟩) (c6 : PySem.W.codeIn K cd6 "are_terms" = true) (k6 : PySem.W.keepIn K (.ref f6) = true)
    (a7 : PySem.W.nsIn K mainGlobals "variables_in" = some (some (.ref f7))) (l7 : K.lookup f7 = some ⟨oc7, od7, .func (PySem.W.fnOf "variables_in" "variables_in" (defArgs sVariablesIn) (defBody sVariablesIn) (defScope sVariablesIn) .none kV7 dc7 pm7 an7 cd7 ct7), sl7⟩) (c7 : PySem.W.codeIn K cd7 "variables_in" = true) (k7 : PySem.W.keepIn K (.ref f7) = true)
    (a8 : PySem.W.nsIn K mainGlobals "variables_in_body" = some (some (.ref f8))) (l8 : K.lookup f8 = some ⟨oc8, od8, .func (PySem.W.fnOf "variables_in_body" "variables_in_body" (defArgs sVariablesInBody) (defBody sVariablesInBody) (defScope sVariablesInBody) .none kV8 dc8 pm8 an8 cd8 ct8), sl8⟩) (c8 : PySem.W.codeIn K cd8 "variables_in_body" = true) (k8 : PySem.W.keepIn K (.ref f8) = true)
    (a9 : PySem.W.nsIn K mainGlobals "_law_draws" = some (some (.ref f9))) (l9 : K.lookup f9 = some ⟨oc9, od9, .func (PySem.W.fnOf "_law_draws" "_law_draws" (defArgs sLDraws) (defBody sLDraws) (defScope sLDraws) .none kV9 dc9 pm9 an9 cd9 ct9), sl9⟩) (c9 : PySem.W.codeIn K cd9 "_law_draws" = true) (k9 : PySem.W.keepIn K (.ref f9) = true)
    (a10 : PySem.W.nsIn K mainGlobals "_law_take" = some (some (.ref f10))) (l10 : K.lookup f10 = some ⟨oc10, od10, .func (PySem.W.fnOf "_law_take" "_law_take" (defArgs sLTake) (defBody sLTake) (defScope sLTake) .none kV10 dc10 pm10 an10 cd10 ct10), sl10⟩) (c10 : PySem.W.codeIn K cd10 "_law_take" = true) (k10 : PySem.W.keepIn K (.ref f10) = true)
    (a11 : PySem.W.nsIn K mainGlobals "_law_pick" = some (some (.ref f11))) (l11 : K.lookup f11 = some ⟨oc11, od11, .func (PySem.W.fnOf "_law_pick" "_law_pick" (defArgs sLPick) (defBody sLPick) (defScope sLPick) .none kV11 dc11 pm11 an11 cd11 ct11), sl11⟩) (c11 : PySem.W.codeIn K cd11 "_law_pick" = true) (k11 : PySem.W.keepIn K (.ref f11) = true)
    (a12 : PySem.W.nsIn K mainGlobals "_law_size" = some (some (.ref f12))) (l12 : K.lookup f12 = some ⟨oc12, od12, .func (PySem.W.fnOf "_law_size" "_law_size" (defArgs sLSize) (defBody sLSize) (defScope sLSize) .none kV12 dc12 pm12 an12 cd12 ct12), sl12⟩) (c12 : PySem.W.codeIn K cd12 "_law_size" = true) (k12 : PySem.W.keepIn K (.ref f12) = true)
    (a13 : PySem.W.nsIn K mainGlobals "_law_words" = some (some (.ref f13))) (l13 : K.lookup f13 = some ⟨oc13, od13, .func (PySem.W.fnOf "_law_words" "_law_words" (defArgs sLWords) (defBody sLWords) (defScope sLWords) .none kV13 dc13 pm13 an13 cd13 ct13), sl13⟩) (c13 : PySem.W.codeIn K cd13 "_law_words" = true) (k13 : PySem.W.keepIn K (.ref f13) = true)
    (a14 : PySem.W.nsIn K mainGlobals "_law_number" = some (some (.ref f14))) (l14 : K.lookup f14 = some ⟨oc14, od14, .func (PySem.W.fnOf "_law_number" "_law_number" (defArgs sLNumber) (defBody sLNumber) (defScope sLNumber) .none kV14 dc14 pm14 an14 cd14 ct14), sl14⟩) (c14 : PySem.W.codeIn K cd14 "_law_number" = true) (k14 : PySem.W.keepIn K (.ref f14) = true)
    (a15 : PySem.W.nsIn K mainGlobals "_law_any_value" = some (some (.ref f15))) (l15 : K.lookup f15 = some ⟨oc15, od15, .func (PySem.W.fnOf "_law_any_value" "_law_any_value" (defArgs sLAnyValue) (defBody sLAnyValue) (defScope sLAnyValue) .none kV15 dc15 pm15 an15 cd15 ct15), sl15⟩) (c15 : PySem.W.codeIn K cd15 "_law_any_value" = true) (k15 : PySem.W.keepIn K (.ref f15) = true)
    (a16 : PySem.W.nsIn K mainGlobals "_law_any_term" = some (some (.ref f16))) (l16 : K.lookup f16 = some ⟨oc16, od16, .func (PySem.W.fnOf "_law_any_term" "_law_any_term" (defArgs sLAnyTerm) (defBody sLAnyTerm) (defScope sLAnyTerm) .none kV16 dc16 pm16 an16 cd16 ct16), sl16⟩) (c16 : PySem.W.codeIn K cd16 "_law_any_term" = true) (k16 : PySem.W.keepIn K (.ref f16) = true)
    (a17 : PySem.W.nsIn K mainGlobals "_law_any_atom" = some (some (.ref f17))) (l17 : K.lookup f17 = some ⟨oc17, od17, .func (PySem.W.fnOf "_law_any_atom" "_law_any_atom" (defArgs sLAnyAtom) (defBody sLAnyAtom) (defScope sLAnyAtom) .none kV17 dc17 pm17 an17 cd17 ct17), sl17⟩) (c17 : PySem.W.codeIn K cd17 "_law_any_atom" = true) (k17 : PySem.W.keepIn K (.ref f17) = true)
    (a18 : PySem.W.nsIn K mainGlobals "_law_any_join" = some (some (.ref f18))) (l18 : K.lookup f18 = some ⟨oc18, od18, .func (PySem.W.fnOf "_law_any_join" "_law_any_join" (defArgs sLAnyJoin) (defBody sLAnyJoin) (defScope sLAnyJoin) .none kV18 dc18 pm18 an18 cd18 ct18), sl18⟩) (c18 : PySem.W.codeIn K cd18 "_law_any_join" = true) (k18 : PySem.W.keepIn K (.ref f18) = true)
    (a19 : PySem.W.nsIn K mainGlobals "_law_any_question" = some (some (.ref f19))) (l19 : K.lookup f19 = some ⟨oc19, od19, .func (PySem.W.fnOf "_law_any_question" "_law_any_question" (defArgs sLAnyQuestion) (defBody sLAnyQuestion) (defScope sLAnyQuestion) .none kV19 dc19 pm19 an19 cd19 ct19), sl19⟩) (c19 : PySem.W.codeIn K cd19 "_law_any_question" = true) (k19 : PySem.W.keepIn K (.ref f19) = true)
    (a20 : PySem.W.nsIn K mainGlobals "_law_same" = some (some (.ref f20))) (l20 : K.lookup f20 = some ⟨oc20, od20, .func (PySem.W.fnOf "_law_same" "_law_same" (defArgs sLSame) (defBody sLSame) (defScope sLSame) .none kV20 dc20 pm20 an20 cd20 ct20), sl20⟩) (c20 : PySem.W.codeIn K cd20 "_law_same" = true) (k20 : PySem.W.keepIn K (.ref f20) = true)
    (a21 : PySem.W.nsIn K mainGlobals "_law_strange" = some (some (.ref f21))) (l21 : K.lookup f21 = some ⟨oc21, od21, .func (PySem.W.fnOf "_law_strange" "_law_strange" (defArgs sLStrange) (defBody sLStrange) (defScope sLStrange) .none kV21 dc21 pm21 an21 cd21 ct21), sl21⟩) (c21 : PySem.W.codeIn K cd21 "_law_strange" = true) (k21 : PySem.W.keepIn K (.ref f21) = true)
    (a22 : PySem.W.nsIn K mainGlobals "_law_strange_term" = some (some (.ref f22))) (l22 : K.lookup f22 = some ⟨oc22, od22, .func (PySem.W.fnOf "_law_strange_term" "_law_strange_term" (defArgs sLStrangeTerm) (defBody sLStrangeTerm) (defScope sLStrangeTerm) .none kV22 dc22 pm22 an22 cd22 ct22), sl22⟩) (c22 : PySem.W.codeIn K cd22 "_law_strange_term" = true) (k22 : PySem.W.keepIn K (.ref f22) = true)
    (a23 : PySem.W.nsIn K mainGlobals "_law_put_in" = some (some (.ref f23))) (l23 : K.lookup f23 = some ⟨oc23, od23, .func (PySem.W.fnOf "_law_put_in" "_law_put_in" (defArgs sLPutIn) (defBody sLPutIn) (defScope sLPutIn) .none kV23 dc23 pm23 an23 cd23 ct23), sl23⟩) (c23 : PySem.W.codeIn K cd23 "_law_put_in" = true) (k23 : PySem.W.keepIn K (.ref f23) = true)
    (a24 : PySem.W.nsIn K mainGlobals "_law_wrong_join" = some (some (.ref f24))) (l24 : K.lookup f24 = some ⟨oc24, od24, .func (PySem.W.fnOf "_law_wrong_join" "_law_wrong_join" (defArgs sLWrongJoin) (defBody sLWrongJoin) (defScope sLWrongJoin) .none kV24 dc24 pm24 an24 cd24 ct24), sl24⟩) (c24 : PySem.W.codeIn K cd24 "_law_wrong_join" = true) (k24 : PySem.W.keepIn K (.ref f24) = true)
    (a25 : PySem.W.nsIn K mainGlobals "_law_refusal" = some (some (.ref f25))) (l25 : K.lookup f25 = some ⟨oc25, od25, .func (PySem.W.fnOf "_law_refusal" "_law_refusal" (defArgs sLRefusal) (defBody sLRefusal) (defScope sLRefusal) .none kV25 dc25 pm25 an25 cd25 ct25), sl25⟩) (c25 : PySem.W.codeIn K cd25 "_law_refusal" = true) (k25 : PySem.W.keepIn K (.ref f25) = true)
    (a26 : PySem.W.nsIn K mainGlobals "law" = some (some (.ref f26))) (l26 : K.lookup f26 = some ⟨oc26, od26, .func (PySem.W.fnOf "law" "law" (defArgs sLaw) (defBody sLaw) (defScope sLaw) .none kV26 dc26 pm26 an26 cd26 ct26), sl26⟩) (c26 : PySem.W.codeIn K cd26 "law" = true) (k26 : PySem.W.keepIn K (.ref f26) = true)
    (z_len : PySem.W.nsIn K mainGlobals "len" = some none)
    (z_int : PySem.W.nsIn K mainGlobals "int" = some none)
    (z_list : PySem.W.nsIn K mainGlobals "list" = some none)
    (z_tuple : PySem.W.nsIn K mainGlobals "tuple" = some none)
    (z_bool : PySem.W.nsIn K mainGlobals "bool" = some none)
    (z_str : PySem.W.nsIn K mainGlobals "str" = some none)
    (z_range : PySem.W.nsIn K mainGlobals "range" = some none)
    (z_abs : PySem.W.nsIn K mainGlobals "abs" = some none)
    (z_min : PySem.W.nsIn K mainGlobals "min" = some none)
    (z_max : PySem.W.nsIn K mainGlobals "max" = some none)
    (z_isinstance : PySem.W.nsIn K mainGlobals "isinstance" = some none)
    (z_all : PySem.W.nsIn K mainGlobals "all" = some none)
    (z_enumerate : PySem.W.nsIn K mainGlobals "enumerate" = some none)
    (z_ValueError : PySem.W.nsIn K mainGlobals "ValueError" = some none)
    {tW tJ tA tM : Tok} (aW : PySem.W.nsIn K mainGlobals "WIDEST" = some (some (.int 8 tW))) (aJ : PySem.W.nsIn K mainGlobals "MOST_JOINS" = some (some (.int 12 tJ)))
    (aA : PySem.W.nsIn K mainGlobals "MOST_ATOMS" = some (some (.int 8 tA))) (aM : PySem.W.nsIn K mainGlobals "MOST_TERMS" = some (some (.int 8 tM)))
    {C cW fI b1 b2 b3 b4 b5 b6 b7 : Addr} {nm q : Str} {N : Addr} {bs : List Value} {sn : List Str} {sub : List Value} {ab : Bool} {col : Option Bool} {dd : Option Addr} {m0 m1 m2 m3 m5 : Option Value} {odI anI : Option Addr} {slI : Array (Option Value)} {ocI dcI pmI cdI ctI : Value} {p1 p2 q1 q2 q3 q4 : Pos}
    (xC : PySem.W.nsIn K mainGlobals "NoQuestion" = some (some (.ref C))) (xW : PySem.W.nsIn K mainGlobals "WorthError" = some (some (.ref cW)))
    (xL : K.lookup C = some (PySem.excClassObj nm q C N bs [.ref cW, .type "ValueError", .type "Exception", .type "BaseException", .type "object"] true sn sub ab col dd m0 m1 m2 m3 m5 "ValueError.__new__"))
    (sa : PySem.W.findIn K (.ref C) "__setattr__" = some (some (.builtin "object.__setattr__"))) (ga : PySem.W.findIn K (.ref C) "__getattribute__" = some (some (.builtin "BaseException.__getattribute__"))) (gg : PySem.W.findIn K (.ref C) "__getattr__" = some none) (nb : PySem.W.findIn K (.ref C) "join" = some none)
    (xI : PySem.W.findIn K (.ref C) "__init__" = some (some (.ref fI))) (tI : PySem.W.typeIn K (.ref fI) = some (.type "function"))
    (lI : K.lookup fI = some ⟨ocI, odI, .func (PySem.W.fnOf "__init__" "NoQuestion.__init__" (PySem.NoQX.iA p1 p2) (PySem.NoQX.iB q1 q2 q3 q4) PySem.NoQX.iS .none .none dcI pmI anI cdI ctI), slI⟩) (cI : PySem.W.codeIn K cdI "NoQuestion.__init__" = true)
    (kC : PySem.W.keepIn K (.ref C) = true) (eC : PySem.W.subIn K (.ref C) (.type "BaseException") = some true) (tC : PySem.W.typeIn K (.ref C) = some (.type "type")) (hC : PySem.W.hasDictIn K C = true) (tE : PySem.W.exmOne K (.ref C) (.ref C) = some true)
    (y1 : (PySem.W.clsIn K C).isSome = true) (y2 : PySem.W.findIn K (.ref C) "__class__" = some (some (.builtin "object.__class__"))) (y3 : PySem.W.specialIn K (.builtin "object.__class__") "__get__" = some (some (.builtin "getset_descriptor.__get__"))) (y4 : PySem.W.takesIn K (.builtin "object.__class__") = some true) (y5 : PySem.W.mroIn K C (.type "object") = some true)
    (x1 : PySem.W.nsIn K mainGlobals "BadText" = some (some (.ref b1))) (x2 : PySem.W.nsIn K mainGlobals "NoFact" = some (some (.ref b2))) (x3 : PySem.W.nsIn K mainGlobals "NoHouse" = some (some (.ref b3))) (x4 : PySem.W.nsIn K mainGlobals "NoKept" = some (some (.ref b4))) (x5 : PySem.W.nsIn K mainGlobals "NoRow" = some (some (.ref b5))) (x6 : PySem.W.nsIn K mainGlobals "NoWorth" = some (some (.ref b6))) (x7 : PySem.W.nsIn K mainGlobals "OtherWidths" = some (some (.ref b7)))
    (iW : PySem.W.kitOne K (.ref C) (.ref cW) = some true) (iV : PySem.W.kitOne K (.ref C) (.type "ValueError") = some true) (iA : PySem.W.kitAny K (.ref C) [.ref b1, .ref b2, .ref b3, .ref b4, .ref b5, .ref b6, .ref b7] = some false)
    : ∃ fd : FuncData, (∀ (s : Shared) (v : Value), BindsTo s fd ⟨[v], []⟩ [("script", v)]) ∧ ∀ base : Heap, K.In base → base.Ns mainGlobals mg → FnOk l.prog w K mg base CX0 31 fa fd ["script"] (spLaw K) := by
  have e := hfa.symm.trans (PySem.W.mg_of X G a26)
  cases e
  have F1 := fun_mk (st := sIsWord) l1 c1 k1
  have DIsWord : Dn K mg "is_word" sIsWord ["text"] _ _ := ⟨F1, F1.binds (ps := ["text"]) fun _ _ _ _ _ _ us hl => match us, hl with | [_], _ => rfl, PySem.W.mg_of X G a1⟩
  have F2 := fun_mk (st := sIsValue) l2 c2 k2
  have DIsValue : Dn K mg "is_value" sIsValue ["value"] _ _ := ⟨F2, F2.binds (ps := ["value"]) fun _ _ _ _ _ _ us hl => match us, hl with | [_], _ => rfl, PySem.W.mg_of X G a2⟩
  have F3 := fun_mk (st := sCheckQuestion) l3 c3 k3
  have DCheckQuestion : Dn K mg "check_question" sCheckQuestion ["question"] _ _ := ⟨F3, F3.binds (ps := ["question"]) fun _ _ _ _ _ _ us hl => match us, hl with | [_], _ => rfl, PySem.W.mg_of X G a3⟩
  have F4 := fun_mk (st := sIsJoin) l4 c4 k4
  have DIsJoin : Dn K mg "is_join" sIsJoin ["join", "width"] _ _ := ⟨F4, F4.binds (ps := ["join", "width"]) fun _ _ _ _ _ _ us hl => match us, hl with | [_, _], _ => rfl, PySem.W.mg_of X G a4⟩
  have F5 := fun_mk (st := sIsAtom) l5 c5 k5
  have DIsAtom : Dn K mg "is_atom" sIsAtom ["atom"] _ _ := ⟨F5, F5.binds (ps := ["atom"]) fun _ _ _ _ _ _ us hl => match us, hl with | [_], _ => rfl, PySem.W.mg_of X G a5⟩
  have F6 := fun_mk (st := sAreTerms) l6 c6 k6
  have DAreTerms : Dn K mg "are_terms" sAreTerms ["terms"] _ _ := ⟨F6, F6.binds (ps := ["terms"]) fun _ _ _ _ _ _ us hl => match us, hl with | [_], _ => rfl, PySem.W.mg_of X G a6⟩
  have F7 := fun_mk (st := sVariablesIn) l7 c7 k7
  have DVariablesIn : Dn K mg "variables_in" sVariablesIn ["terms"] _ _ := ⟨F7, F7.binds (ps := ["terms"]) fun _ _ _ _ _ _ us hl => match us, hl with | [_], _ => rfl, PySem.W.mg_of X G a7⟩
  have F8 := fun_mk (st := sVariablesInBody) l8 c8 k8
  have DVariablesInBody : Dn K mg "variables_in_body" sVariablesInBody ["body"] _ _ := ⟨F8, F8.binds (ps := ["body"]) fun _ _ _ _ _ _ us hl => match us, hl with | [_], _ => rfl, PySem.W.mg_of X G a8⟩
  have F9 := fun_mk (st := sLDraws) l9 c9 k9
  have DLDraws : Dn K mg "_law_draws" sLDraws ["script", "many"] _ _ := ⟨F9, F9.binds (ps := ["script", "many"]) fun _ _ _ _ _ _ us hl => match us, hl with | [_, _], _ => rfl, PySem.W.mg_of X G a9⟩
  have F10 := fun_mk (st := sLTake) l10 c10 k10
  have DLTake : Dn K mg "_law_take" sLTake ["draws", "many"] _ _ := ⟨F10, F10.binds (ps := ["draws", "many"]) fun _ _ _ _ _ _ us hl => match us, hl with | [_, _], _ => rfl, PySem.W.mg_of X G a10⟩
  have F11 := fun_mk (st := sLPick) l11 c11 k11
  have DLPick : Dn K mg "_law_pick" sLPick ["draws", "row"] _ _ := ⟨F11, F11.binds (ps := ["draws", "row"]) fun _ _ _ _ _ _ us hl => match us, hl with | [_, _], _ => rfl, PySem.W.mg_of X G a11⟩
  have F12 := fun_mk (st := sLSize) l12 c12 k12
  have DLSize : Dn K mg "_law_size" sLSize ["draws", "script"] _ _ := ⟨F12, F12.binds (ps := ["draws", "script"]) fun _ _ _ _ _ _ us hl => match us, hl with | [_, _], _ => rfl, PySem.W.mg_of X G a12⟩
  have F13 := fun_mk (st := sLWords) l13 c13 k13
  have DLWords : Dn K mg "_law_words" sLWords ["draws", "many"] _ _ := ⟨F13, F13.binds (ps := ["draws", "many"]) fun _ _ _ _ _ _ us hl => match us, hl with | [_, _], _ => rfl, PySem.W.mg_of X G a13⟩
  have F14 := fun_mk (st := sLNumber) l14 c14 k14
  have DLNumber : Dn K mg "_law_number" sLNumber ["draws", "script"] _ _ := ⟨F14, F14.binds (ps := ["draws", "script"]) fun _ _ _ _ _ _ us hl => match us, hl with | [_, _], _ => rfl, PySem.W.mg_of X G a14⟩
  have F15 := fun_mk (st := sLAnyValue) l15 c15 k15
  have DLAnyValue : Dn K mg "_law_any_value" sLAnyValue ["draws", "script", "words"] _ _ := ⟨F15, F15.binds (ps := ["draws", "script", "words"]) fun _ _ _ _ _ _ us hl => match us, hl with | [_, _, _], _ => rfl, PySem.W.mg_of X G a15⟩
  have F16 := fun_mk (st := sLAnyTerm) l16 c16 k16
  have DLAnyTerm : Dn K mg "_law_any_term" sLAnyTerm ["draws", "script", "words"] _ _ := ⟨F16, F16.binds (ps := ["draws", "script", "words"]) fun _ _ _ _ _ _ us hl => match us, hl with | [_, _, _], _ => rfl, PySem.W.mg_of X G a16⟩
  have F17 := fun_mk (st := sLAnyAtom) l17 c17 k17
  have DLAnyAtom : Dn K mg "_law_any_atom" sLAnyAtom ["draws", "script", "words", "most"] _ _ := ⟨F17, F17.binds (ps := ["draws", "script", "words", "most"]) fun _ _ _ _ _ _ us hl => match us, hl with | [_, _, _, _], _ => rfl, PySem.W.mg_of X G a17⟩
  have F18 := fun_mk (st := sLAnyJoin) l18 c18 k18
  have DLAnyJoin : Dn K mg "_law_any_join" sLAnyJoin ["draws", "script", "words", "width", "atoms", "most"] _ _ := ⟨F18, F18.binds (ps := ["draws", "script", "words", "width", "atoms", "most"]) fun _ _ _ _ _ _ us hl => match us, hl with | [_, _, _, _, _, _], _ => rfl, PySem.W.mg_of X G a18⟩
  have F19 := fun_mk (st := sLAnyQuestion) l19 c19 k19
  have DLAnyQuestion : Dn K mg "_law_any_question" sLAnyQuestion ["draws", "script", "words"] _ _ := ⟨F19, F19.binds (ps := ["draws", "script", "words"]) fun _ _ _ _ _ _ us hl => match us, hl with | [_, _, _], _ => rfl, PySem.W.mg_of X G a19⟩
  have F20 := fun_mk (st := sLSame) l20 c20 k20
  have DLSame : Dn K mg "_law_same" sLSame ["actual", "due"] _ _ := ⟨F20, F20.binds (ps := ["actual", "due"]) fun _ _ _ _ _ _ us hl => match us, hl with | [_, _], _ => rfl, PySem.W.mg_of X G a20⟩
  have F21 := fun_mk (st := sLStrange) l21 c21 k21
  have DLStrange : Dn K mg "_law_strange" sLStrange ["draws", "word"] _ _ := ⟨F21, F21.binds (ps := ["draws", "word"]) fun _ _ _ _ _ _ us hl => match us, hl with | [_, _], _ => rfl, PySem.W.mg_of X G a21⟩
  have F22 := fun_mk (st := sLStrangeTerm) l22 c22 k22
  have DLStrangeTerm : Dn K mg "_law_strange_term" sLStrangeTerm ["draws", "words"] _ _ := ⟨F22, F22.binds (ps := ["draws", "words"]) fun _ _ _ _ _ _ us hl => match us, hl with | [_, _], _ => rfl, PySem.W.mg_of X G a22⟩
  have F23 := fun_mk (st := sLPutIn) l23 c23 k23
  have DLPutIn : Dn K mg "_law_put_in" sLPutIn ["draws", "row", "thing"] _ _ := ⟨F23, F23.binds (ps := ["draws", "row", "thing"]) fun _ _ _ _ _ _ us hl => match us, hl with | [_, _, _], _ => rfl, PySem.W.mg_of X G a23⟩
  have F24 := fun_mk (st := sLWrongJoin) l24 c24 k24
  have DLWrongJoin : Dn K mg "_law_wrong_join" sLWrongJoin ["draws", "script", "words", "width", "join"] _ _ := ⟨F24, F24.binds (ps := ["draws", "script", "words", "width", "join"]) fun _ _ _ _ _ _ us hl => match us, hl with | [_, _, _, _, _], _ => rfl, PySem.W.mg_of X G a24⟩
  have F25 := fun_mk (st := sLRefusal) l25 c25 k25
  have DLRefusal : Dn K mg "_law_refusal" sLRefusal ["question"] _ _ := ⟨F25, F25.binds (ps := ["question"]) fun _ _ _ _ _ _ us hl => match us, hl with | [_], _ => rfl, PySem.W.mg_of X G a25⟩
  have F26 := fun_mk (st := sLaw) l26 c26 k26
  have DLaw : Dn K mg "law" sLaw ["script"] _ _ := ⟨F26, F26.binds (ps := ["script"]) fun _ _ _ _ _ _ us hl => match us, hl with | [_], _ => rfl, PySem.W.mg_of X G a26⟩
  have T : Tx mg := ⟨PySem.W.mg_none_of X G z_len, PySem.W.mg_none_of X G z_int, PySem.W.mg_none_of X G z_list, PySem.W.mg_none_of X G z_tuple, PySem.W.mg_none_of X G z_bool, PySem.W.mg_none_of X G z_str, PySem.W.mg_none_of X G z_range, PySem.W.mg_none_of X G z_abs, PySem.W.mg_none_of X G z_min, PySem.W.mg_none_of X G z_max, PySem.W.mg_none_of X G z_isinstance, PySem.W.mg_none_of X G z_all, PySem.W.mg_none_of X G z_enumerate, PySem.W.mg_none_of X G z_ValueError⟩
  refine ⟨PySem.W.fnOf "law" "law" (defArgs sLaw) (defBody sLaw) (defScope sLaw) .none kV26 dc26 pm26 an26 cd26 ct26, fun s v => .of_eq rfl, fun base _ _ => ?_⟩
  have hW := PySem.W.mg_of X G aW
  have hJ := PySem.W.mg_of X G aJ
  have hA := PySem.W.mg_of X G aA
  have hM := PySem.W.mg_of X G aM
  have hWE := PySem.W.mg_of X G xW
  have h1 := PySem.W.mg_of X G x1
  have h2 := PySem.W.mg_of X G x2
  have h3 := PySem.W.mg_of X G x3
  have h4 := PySem.W.mg_of X G x4
  have h5 := PySem.W.mg_of X G x5
  have h6 := PySem.W.mg_of X G x6
  have h7 := PySem.W.mg_of X G x7
  have low : PySem.NoQX.NoQTxt K mg C fI :=
    { gC := PySem.W.mg_of X G xC, cls := ⟨nm, q, N, bs, _, sn, sub, ab, col, dd, m0, m1, m2, m3, m5, xL, (show PySem.HandSPX.refsVE [.type "ValueError", .type "Exception", .type "BaseException", .type "object"] = true by decide +kernel)⟩, sa := sa, ga := ga, gg := gg, noN := nb, iC := xI, tC := tI, kC := kC, exC := eC, tyC := tC, hdC := hC, te := tE,
      fn := ⟨_, _, _, _, _, _, _, _, _, _, _, _, _, _, lI, cI⟩ }
  have er : ErrC K C := ⟨y1, ga, gg, eC, y2, y3, y4, y5⟩
  have gLTake := ok_take (P := l.prog) (w := w) (K := K) (base := base) T DLTake
  have gLSame := ok_same (P := l.prog) (w := w) (K := K) (base := base) T DLSame 2
  have gLDraws := ok_draws (P := l.prog) (w := w) (K := K) (base := base) T DLDraws
  have gLSize := ok_size (P := l.prog) (w := w) (K := K) (base := base) T DLSize DLTake gLTake
  have gLPick := ok_pick (P := l.prog) (w := w) (K := K) (base := base) T DLPick DLTake gLTake
  have gLNumber := ok_number (P := l.prog) (w := w) (K := K) (base := base) T DLNumber DLTake gLTake DLSize gLSize
  have gLWords := ok_wordsN (P := l.prog) (w := w) (K := K) (base := base) T DLWords DLTake gLTake
  have gLAnyValue := fun PI : NWp => ok_value (P := l.prog) (w := w) (K := K) (base := base) (PI := PI) T DLAnyValue DLTake gLTake DLPick gLPick DLNumber gLNumber
  have gLAnyTerm := fun PI : NWp => ok_term (P := l.prog) (w := w) (K := K) (base := base) (PI := PI) T DLAnyTerm DLTake gLTake DLPick gLPick DLAnyValue (gLAnyValue PI)
  have gLAnyAtom := fun PI : NWp => ok_atom (P := l.prog) (w := w) (K := K) (base := base) (PI := PI) T DLAnyAtom DLTake gLTake DLPick gLPick DLAnyTerm (gLAnyTerm PI)
  have gLStrange := ok_strange (P := l.prog) (w := w) (K := K) (base := base) T DLStrange DLTake gLTake DLPick gLPick
  have gLPutIn := ok_putIn (P := l.prog) (w := w) (K := K) (base := base) T DLPutIn DLTake gLTake
  have gLAnyJoin := fun PI : NWp => ok_join (P := l.prog) (w := w) (K := K) (base := base) (PI := PI) T DLAnyJoin DLTake gLTake DLPick gLPick DLAnyValue (gLAnyValue PI) DLAnyAtom (gLAnyAtom PI)
  have gLAnyQuestion := fun PI : NWp => ok_quest (P := l.prog) (w := w) (K := K) (base := base) (PI := PI) T DLAnyQuestion DLTake gLTake DLPick gLPick DLAnyJoin (gLAnyJoin PI)
  have gIsWord := ok_isWord (P := l.prog) (w := w) (K := K) (base := base) T DIsWord
  have gIsValue := ok_isValue (P := l.prog) (w := w) (K := K) (base := base) T DIsValue DIsWord gIsWord
  have gAreTerms := ok_areTerms (P := l.prog) (w := w) (K := K) (base := base) T DAreTerms DIsWord gIsWord DIsValue gIsValue
  have gVariablesIn := ok_varsIn (P := l.prog) (w := w) (K := K) (base := base) T DVariablesIn
  have gIsAtom := ok_isAtom (P := l.prog) (w := w) (K := K) (base := base) T hM DIsAtom DIsWord gIsWord DAreTerms gAreTerms
  have gVariablesInBody := ok_varsB (P := l.prog) (w := w) (K := K) (base := base) T DVariablesInBody DVariablesIn gVariablesIn
  have gIsJoin := ok_isJoin (P := l.prog) (w := w) (K := K) (base := base) T hA DIsJoin DAreTerms gAreTerms DIsAtom gIsAtom DVariablesInBody gVariablesInBody DVariablesIn gVariablesIn
  have gLStrangeTerm := ok_strangeTerm (P := l.prog) (w := w) (K := K) (base := base) T DLStrangeTerm DLPick gLPick DLStrange gLStrange
  have gLWrongJoin := ok_wrong (P := l.prog) (w := w) (K := K) (base := base) T DLWrongJoin DLTake gLTake DLPick gLPick DLAnyValue (gLAnyValue PI0) DLAnyAtom (gLAnyAtom PI0) DLStrange gLStrange DLStrangeTerm gLStrangeTerm DLPutIn gLPutIn
  have gCheckQuestion := ok_checkX (P := l.prog) (w := w) (K := K) (base := base) T low hW hJ DCheckQuestion DIsJoin gIsJoin
  have gLRefusal := ok_refusal (P := l.prog) (w := w) (K := K) (base := base) T low er hWE h1 h2 h3 h4 h5 h6 h7 iW iV iA DLRefusal DCheckQuestion gCheckQuestion
  exact ok_law T DLaw DLDraws gLDraws DLTake gLTake DLPick gLPick DLSize gLSize DLSame gLSame DLWords gLWords DLAnyJoin (gLAnyJoin PI0) DLAnyQuestion (fn_quest gLAnyQuestion) DLWrongJoin gLWrongJoin DLRefusal gLRefusal
theorem walk {l : PySem.W.OpenLaw} {q : Program} {loose : List Str} {XP : (Str → Option Value) → Heap → Prop} {YP : World → Heap → Prop} {d : DefRec} {K : Params → PySem.W.Frag} (hn : l.most = some 63) (hdf : d.params.defaults = [])
    (hY : ∀ (w : World) (h : Heap), YP w h → (K w.params).In h)
    (F : ∀ (w : World) (mg : Str → Option Value) (fa : Addr) (h : Heap), (K w.params).In h → h.Ns mainGlobals mg → mg d.name = some (.ref fa) →
      ∃ fd : FuncData, (∀ (s : Shared) (u : Value), BindsTo s fd ⟨[u], []⟩ [("script", u)]) ∧ ∀ base : Heap, (K w.params).In base → base.Ns mainGlobals mg → FnOk l.prog w (K w.params) mg base CX0 31 fa fd ["script"] (spLaw (K w.params))) :
    PySem.W.WalkO q loose XP YP l.row.toRowW d [] (fun f vs => PySem.call f vs) :=
  L2.walk_of (n := 63) (k := 31) (x := "script") (CX := fun _ => CX0) (sp := fun w => spLaw (K w.params)) hn (by decide) hdf ⟨rfl, by decide, by decide⟩ hY F (fun _ _ a ns hl _ hS => ⟨a, ns, rfl, hS, hl, fun _ => rfl⟩) fun _ _ _ _ _ z => z
end A1
open PySem PySem.W PyProof.Rows
set_option maxRecDepth 100000 in
set_option maxHeartbeats 0 in
theorem PySem.Challenge.cw_anyworth_k31_first_fault_of_a_question_holds : PySem.Challenge.rw_anyworth_k31_first_fault_of_a_question.Holds := by
  w_on; o_law; k_head; (case hw => w_witness2)
  k_fill
  refine A1.walk (l := PySem.Challenge.rw_anyworth_k31_first_fault_of_a_question) rfl rfl (fun w h Y => PySem.W.kIn_of Y) ?F
  case F =>
    intro w mg fa h KX G hmg
    refine' A1.all_mk KX G hmg ?a1 ?l1 ?c1 ?k1 ?a2 ?l2 ?c2 ?k2 ?a3 ?l3 ?c3 ?k3 ?a4 ?l4 ?c4 ?k4 ?a5 ?l5 ?c5 ?k5 ?a6 ?l6 ?c6 ?k6 ?a7 ?l7 ?c7 ?k7 ?a8 ?l8 ?c8 ?k8 ?a9 ?l9 ?c9 ?k9 ?a10 ?l10 ?c10 ?k10 ?a11 ?l11 ?c11 ?k11 ?a12 ?l12 ?c12 ?k12 ?a13 ?l13 ?c13 ?k13 ?a14 ?l14 ?c14 ?k14 ?a15 ?l15 ?c15 ?k15 ?a16 ?l16 ?c16 ?k16 ?a17 ?l17 ?c17 ?k17 ?a18 ?l18 ?c18 ?k18 ?a19 ?l19 ?c19 ?k19 ?a20 ?l20 ?c20 ?k20 ?a21 ?l21 ?c21 ?k21 ?a22 ?l22 ?c22 ?k22 ?a23 ?l23 ?c23 ?k23 ?a24 ?l24 ?c24 ?k24 ?a25 ?l25 ?c25 ?k25 ?a26 ?l26 ?c26 ?k26 ?z_len ?z_int ?z_list ?z_tuple ?z_bool ?z_str ?z_range ?z_abs ?z_min ?z_max ?z_isinstance ?z_all ?z_enumerate ?z_ValueError ?aW ?aJ ?aA ?aM ?xC ?xW ?xL ?sa ?ga ?gg ?nb ?xI ?tI ?lI ?cI ?kC ?eC ?tC ?hC ?tE ?y1 ?y2 ?y3 ?y4 ?y5 ?x1 ?x2 ?x3 ?x4 ?x5 ?x6 ?x7 ?iW ?iV ?iA
    (case a1 => first | k_is | rfl)
    (case l1 => first | k_is | rfl)
    (case c1 => first | k_is | rfl)
    (case k1 => first | k_is | rfl)
    (case a2 => first | k_is | rfl)
    (case l2 => first | k_is | rfl)
    (case c2 => first | k_is | rfl)
    (case k2 => first | k_is | rfl)
    (case a3 => first | k_is | rfl)
    (case l3 => first | k_is | rfl)
    (case c3 => first | k_is | rfl)
    (case k3 => first | k_is | rfl)
    (case a4 => first | k_is | rfl)
    (case l4 => first | k_is | rfl)
    (case c4 => first | k_is | rfl)
    (case k4 => first | k_is | rfl)
    (case a5 => first | k_is | rfl)
    (case l5 => first | k_is | rfl)
    (case c5 => first | k_is | rfl)
    (case k5 => first | k_is | rfl)
    (case a6 => first | k_is | rfl)
    (case l6 => first | k_is | rfl)
    (case c6 => first | k_is | rfl)
    (case k6 => first | k_is | rfl)
    (case a7 => first | k_is | rfl)
    (case l7 => first | k_is | rfl)
    (case c7 => first | k_is | rfl)
    (case k7 => first | k_is | rfl)
    (case a8 => first | k_is | rfl)
    (case l8 => first | k_is | rfl)
    (case c8 => first | k_is | rfl)
    (case k8 => first | k_is | rfl)
    (case a9 => first | k_is | rfl)
    (case l9 => first | k_is | rfl)
    (case c9 => first | k_is | rfl)
    (case k9 => first | k_is | rfl)
    (case a10 => first | k_is | rfl)
    (case l10 => first | k_is | rfl)
    (case c10 => first | k_is | rfl)
    (case k10 => first | k_is | rfl)
    (case a11 => first | k_is | rfl)
    (case l11 => first | k_is | rfl)
    (case c11 => first | k_is | rfl)
    (case k11 => first | k_is | rfl)
    (case a12 => first | k_is | rfl)
    (case l12 => first | k_is | rfl)
    (case c12 => first | k_is | rfl)
    (case k12 => first | k_is | rfl)
    (case a13 => first | k_is | rfl)
    (case l13 => first | k_is | rfl)
    (case c13 => first | k_is | rfl)
    (case k13 => first | k_is | rfl)
    (case a14 => first | k_is | rfl)
    (case l14 => first | k_is | rfl)
    (case c14 => first | k_is | rfl)
    (case k14 => first | k_is | rfl)
    (case a15 => first | k_is | rfl)
    (case l15 => first | k_is | rfl)
    (case c15 => first | k_is | rfl)
    (case k15 => first | k_is | rfl)
    (case a16 => first | k_is | rfl)
    (case l16 => first | k_is | rfl)
    (case c16 => first | k_is | rfl)
    (case k16 => first | k_is | rfl)
    (case a17 => first | k_is | rfl)
    (case l17 => first | k_is | rfl)
    (case c17 => first | k_is | rfl)
    (case k17 => first | k_is | rfl)
    (case a18 => first | k_is | rfl)
    (case l18 => first | k_is | rfl)
    (case c18 => first | k_is | rfl)
    (case k18 => first | k_is | rfl)
    (case a19 => first | k_is | rfl)
    (case l19 => first | k_is | rfl)
    (case c19 => first | k_is | rfl)
    (case k19 => first | k_is | rfl)
    (case a20 => first | k_is | rfl)
    (case l20 => first | k_is | rfl)
    (case c20 => first | k_is | rfl)
    (case k20 => first | k_is | rfl)
    (case a21 => first | k_is | rfl)
    (case l21 => first | k_is | rfl)
    (case c21 => first | k_is | rfl)
    (case k21 => first | k_is | rfl)
    (case a22 => first | k_is | rfl)
    (case l22 => first | k_is | rfl)
    (case c22 => first | k_is | rfl)
    (case k22 => first | k_is | rfl)
    (case a23 => first | k_is | rfl)
    (case l23 => first | k_is | rfl)
    (case c23 => first | k_is | rfl)
    (case k23 => first | k_is | rfl)
    (case a24 => first | k_is | rfl)
    (case l24 => first | k_is | rfl)
    (case c24 => first | k_is | rfl)
    (case k24 => first | k_is | rfl)
    (case a25 => first | k_is | rfl)
    (case l25 => first | k_is | rfl)
    (case c25 => first | k_is | rfl)
    (case k25 => first | k_is | rfl)
    (case a26 => first | k_is | rfl)
    (case l26 => first | k_is | rfl)
    (case c26 => first | k_is | rfl)
    (case k26 => first | k_is | rfl)
    (case z_len => first | k_is | rfl)
    (case z_int => first | k_is | rfl)
    (case z_list => first | k_is | rfl)
    (case z_tuple => first | k_is | rfl)
    (case z_bool => first | k_is | rfl)
    (case z_str => first | k_is | rfl)
    (case z_range => first | k_is | rfl)
    (case z_abs => first | k_is | rfl)
    (case z_min => first | k_is | rfl)
    (case z_max => first | k_is | rfl)
    (case z_isinstance => first | k_is | rfl)
    (case z_all => first | k_is | rfl)
    (case z_enumerate => first | k_is | rfl)
    (case z_ValueError => first | k_is | rfl)
    (case aW => first | k_is | rfl)
    (case aJ => first | k_is | rfl)
    (case aA => first | k_is | rfl)
    (case aM => first | k_is | rfl)
    (case xC => first | k_is | rfl)
    (case xW => first | k_is | rfl)
    (case xL => first | k_is | rfl)
    (case sa => first | k_is | rfl)
    (case ga => first | k_is | rfl)
    (case gg => first | k_is | rfl)
    (case nb => first | k_is | rfl)
    (case xI => first | k_is | rfl)
    (case tI => first | k_is | rfl)
    (case lI => first | k_is | rfl)
    (case cI => first | k_is | rfl)
    (case kC => first | k_is | rfl)
    (case eC => first | k_is | rfl)
    (case tC => first | k_is | rfl)
    (case hC => first | k_is | rfl)
    (case tE => first | k_is | rfl)
    (case y1 => first | k_is | rfl)
    (case y2 => first | k_is | rfl)
    (case y3 => first | k_is | rfl)
    (case y4 => first | k_is | rfl)
    (case y5 => first | k_is | rfl)
    (case x1 => first | k_is | rfl)
    (case x2 => first | k_is | rfl)
    (case x3 => first | k_is | rfl)
    (case x4 => first | k_is | rfl)
    (case x5 => first | k_is | rfl)
    (case x6 => first | k_is | rfl)
    (case x7 => first | k_is | rfl)
    (case iW => first | k_is | rfl)
    (case iV => first | k_is | rfl)
    (case iA => first | k_is | rfl)
