import PyProof.Rows.All
import Wide.All
import OpenK.AllK
import Wide.FinOn
import PyProof.RulesMatch
import PyProof.ListMulRoad
import PyProof.FactsAll.tuple_2
import HandS.ForMost
import HandS.IsInst
import HandS.TupMul
import HandS.Codes
import HandS.Gcd
import HandS.Sort
import HandS.Star
import HandS.TupAny
import HandS.Walk
import HandS.Steps
import HandS.LawCells
import HandS.Text
import KE.GoesEnum
import HandS.FStr
import HandS.RaiseMore
import HandS.ForExc
import HandS.IsInst
import KE.KExcIs
import HandS.Deep
import HandS.SortKw
import KE.DataMinMax
import KE.IntTextLaws
import PyProof.StrBlock2
import KE.KIntText
import PyProof.EqAt
import PyProof.EqKinds
import PyProof.TupleCall
import Open.SpecLaws
import KE.OsGo
import PySem.Challenge.RW_anyworth_k37_texts_of_odd_questions
set_option Elab.async false
set_option maxRecDepth 100000
namespace A1
open PySem L2 PySem.Spec PyProof.Rows
/-! a match over a text, by cases whose patterns are texts -/
structure PPt (X : Cx) (p : Pattern) (f : Str → Bool) : Prop where
  run : ∀ (pins : List (Addr × Obj)) (s : Shared) (σ : L2.St) (H : Hp) (z : Str) (t : Tok) (Q : Option (List (Str × Value)) → Shared → Prop), Inv X pins σ H s →
    (∀ s', Inv X pins σ H s' → Q (if f z = true then some [] else none) s') → wpAny (model X.prog X.w) X.A (matchPattern p X.env (.str z t)) Q X.xe s
structure PPs (X : Cx) (ps : List Pattern) (f : Str → Bool) : Prop where
  run : ∀ (pins : List (Addr × Obj)) (s : Shared) (σ : L2.St) (H : Hp) (z : Str) (t : Tok) (Q : Option (List (Str × Value)) → Shared → Prop), Inv X pins σ H s →
    (∀ s', Inv X pins σ H s' → Q (if f z = true then some [] else none) s') → wpAny (model X.prog X.w) X.A (matchFirst ps X.env (.str z t)) Q X.xe s
section
variable {X : Cx}
theorem pp_val {x : Str} {j} {pos pos' : Pos} : PPt X (.MatchValue (.Constant (.str x) j pos) pos') (fun z => decide (z = x)) := by
  refine ⟨fun pins s σ H z t Q I h => ?_⟩
  refine wpAny_matchPattern_Value ?_
  refine thn ((pe_str (X := X) (x := x) (j := j) (pos := pos)).run pins s σ H (fun v H' => v = .str x ∧ H' = H) I ⟨rfl, rfl⟩) fun u s1 ⟨v, H1, I1, r1, e1, e2⟩ => ?_
  subst e1 e2
  refine thn (op_eq pins s1 σ H1 (.str z) (.str x) (.str z t) u (fun v H' => v = .bl (decide (V.str z = V.str x)) ∧ H' = H1) I1 ⟨t, rfl⟩ r1 ⟨rfl, rfl, rfl⟩) fun c s2 ⟨v, H2, I2, r2, e1, e2⟩ => ?_
  subst e1 e2
  cases r2
  refine wpAny_truthy_bool ?_
  have q := h s2 I2
  by_cases e : z = x
  · subst e
    simpa using q
  · have e' : ¬ V.str z = V.str x := fun k => e (V.str.inj k)
    simpa [e, e'] using q
theorem pps_nil' : PPs X [] (fun _ => false) := by
  refine ⟨fun pins s σ H z t Q I h => ?_⟩
  exact wpAny_matchFirst_nil (by simpa using h s I)
theorem pps_cons' {p : Pattern} {ps : List Pattern} {f g : Str → Bool} (h1 : PPt X p f) (h2 : PPs X ps g) : PPs X (p :: ps) (fun z => f z || g z) := by
  refine ⟨fun pins s σ H z t Q I h => ?_⟩
  refine wpAny_matchFirst_cons (h1.run pins s σ H z t _ I fun s' I' => ?_)
  cases e : f z with
  | true =>
    have q := h s' I'
    simpa [e] using q
  | false =>
    have q : ∀ s', Inv X pins σ H s' → Q (if g z = true then some [] else none) s' := fun s' I' => by simpa [e] using h s' I'
    simpa [e] using h2.run pins s' σ H z t Q I' q
theorem pp_or {ps : List Pattern} {pos : Pos} {f : Str → Bool} (h : PPs X ps f) (hn : namesOfAll (ps.take 1) = [] := by rfl) : PPt X (.MatchOr ps pos) f := by
  refine ⟨fun pins s σ H z t Q I q => ?_⟩
  refine wpAny_matchPattern_Or (h.run pins s σ H z t _ I fun s' I' => ?_)
  rw [hn]
  have q' := q s' I'
  cases e : f z with
  | true => simpa [e] using q'
  | false => simpa [e] using q'
structure PM (X : Cx) (cs : List MatchCase) (t : Str → TS) : Prop where
  run : ∀ (pins : List (Addr × Obj)) (s : Shared) (σ : L2.St) (H : Hp) (z : Str) (k : Tok) (b : Bool) (D : Ends), Inv X pins σ H s → t z D σ H →
    wpAny (model X.prog X.w) X.A (matchCases cs X.env (.str z k) b) (SP X pins D) X.xe s
def tCase (f : Str → Bool) (t : TS) (u : Str → TS) : Str → TS := fun z D σ H => if f z = true then t D σ H else u z D σ H
theorem pm_nil : PM X [] (fun _ => tNext) := ⟨fun _ _ σ H _ _ _ _ I h => wpAny_matchCases_nil ⟨σ, H, I, h⟩⟩
theorem pm_cons {p : Pattern} {body : List Stmt} {rest : List MatchCase} {f : Str → Bool} {t : TS} {u : Str → TS} (hp : PPt X p f) (hb : PSs X body t) (hr : PM X rest u) : PM X (⟨p, none, body⟩ :: rest) (tCase f t u) := by
  refine ⟨fun pins s σ H z k b D I h => ?_⟩
  refine wpAny_matchCases_cons (hp.run pins s σ H z k _ I fun s' I' => ?_)
  unfold tCase at h
  cases e : f z with
  | true =>
    rw [e, if_pos rfl] at h
    exact wpAny_assignInOrder_none (hb.run pins s' σ H D I' h)
  | false =>
    rw [e, if_neg Bool.false_ne_true] at h
    exact hr.run pins s' σ H z k false D I' h
def tMatch (te : TE) (t : Str → TS) : TS := fun D σ H => te σ H fun v H1 => ∃ z, v = .str z ∧ t z D σ H1
theorem ps_match {e : Expr} {cs : List MatchCase} {pos : Pos} {te : TE} {t : Str → TS} (he : PE X e te) (hm : PM X cs t) : PS X (.Match e cs pos) (tMatch te t) := by
  refine ⟨fun pins s σ H D I h => ?_⟩
  refine wpAny_Match (thn (he.run pins s σ H _ I h) fun v s1 ⟨x, H1, I1, r1, q1⟩ => ?_)
  obtain ⟨z, rfl, q⟩ := q1
  obtain ⟨k, rfl⟩ := r1
  exact hm.run pins s1 σ H1 z k true D I1 q
end
end A1

namespace A1
open PySem L2 PySem.Spec PyProof.Rows
/-! data that never changes, and how a value stands for it -/
inductive TD where
  | non | bl (b : Bool) | int (i : Int) | str (x : Str) | tup (ds : List TD)
mutual
inductive Rp (K : PySem.W.Frag) (H : Hp) : V → TD → Prop
  | non : Rp K H .non .non
  | bl (b : Bool) : Rp K H (.bl b) (.bl b)
  | int (i : Int) : Rp K H (.int i) (.int i)
  | str (x : Str) : Rp K H (.str x) (.str x)
  | tup {a : Addr} {xs : List V} {ds : List TD} : SqT K H a xs → RpA K H xs ds → Rp K H (.ref a) (.tup ds)
inductive RpA (K : PySem.W.Frag) (H : Hp) : List V → List TD → Prop
  | nil : RpA K H [] []
  | cons {v : V} {vs : List V} {d : TD} {ds : List TD} : Rp K H v d → RpA K H vs ds → RpA K H (v :: vs) (d :: ds)
end
section
variable {K : PySem.W.Frag} {H H' H1 H2 : Hp} {d p : Addr}
mutual
theorem Rp.mono (h : ∀ a xs, SqT K H a xs → SqT K H' a xs) : ∀ (t : TD) (v : V), Rp K H v t → Rp K H' v t
  | .non, _, r => by cases r; exact .non
  | .bl b, _, r => by cases r; exact .bl b
  | .int i, _, r => by cases r; exact .int i
  | .str x, _, r => by cases r; exact .str x
  | .tup ds, _, r => by
    cases r with
    | tup s a => exact .tup (h _ _ s) (RpA.mono h ds _ a)
theorem RpA.mono (h : ∀ a xs, SqT K H a xs → SqT K H' a xs) : ∀ (ts : List TD) (vs : List V), RpA K H vs ts → RpA K H' vs ts
  | [], _, r => by cases r; exact .nil
  | t :: ts, _, r => by
    cases r with
    | cons a b => exact .cons (Rp.mono h t _ a) (RpA.mono h ts _ b)
end
theorem RpA.length : ∀ {ts : List TD} {vs : List V}, RpA K H vs ts → vs.length = ts.length
  | [], _, r => by cases r; rfl
  | _ :: _, _, r => by
    cases r with
    | cons _ b => exact congrArg (· + 1) (RpA.length b)
theorem RpA.get : ∀ {ts : List TD} {vs : List V} {i : Nat} {t : TD}, RpA K H vs ts → ts[i]? = some t → ∃ v, vs[i]? = some v ∧ Rp K H v t
  | [], _, i, t, r, e => by simp at e
  | t :: ts, _, 0, t', r, e => by
    cases r with
    | cons a b =>
      have e' : t = t' := Option.some.inj e
      subst e'
      exact ⟨_, rfl, a⟩
  | t :: ts, _, i + 1, t', r, e => by
    cases r with
    | cons a b =>
      obtain ⟨v, h1, h2⟩ := RpA.get (i := i) b (by simpa using e)
      exact ⟨v, by simpa using h1, h2⟩
theorem RpA.app : ∀ {ts us : List TD} {vs ws : List V}, RpA K H vs ts → RpA K H ws us → RpA K H (vs ++ ws) (ts ++ us)
  | [], _, _, _, r, s => by cases r; exact s
  | _ :: _, _, _, _, r, s => by
    cases r with
    | cons a b => exact .cons a (RpA.app b s)
/-- d is a list of ints that a call may change; all else stays -/
structure Dr (d : Addr) (H H' : Hp) : Prop where
  st : ∃ ds : List Int, H d = some (.lst (ds.map V.int))
  en : ∃ ds : List Int, H' d = some (.lst (ds.map V.int))
  kp : ∀ b u, b ≠ d → H b = some u → H' b = some u
theorem Dr.refl (h : ∃ ds : List Int, H d = some (.lst (ds.map V.int))) : Dr d H H := ⟨h, h, fun _ _ _ q => q⟩
theorem Dr.trans (a : Dr d H H1) (b : Dr d H1 H2) : Dr d H H2 := ⟨a.st, b.en, fun c u n q => b.kp c u n (a.kp c u n q)⟩
theorem Dr.ne_new (a : Dr d H H1) (h : H1 p = none) : p ≠ d := fun e => by
  obtain ⟨ds, q⟩ := a.en
  rw [e, q] at h; cases h
theorem Dr.fresh (a : Dr d H H1) (h : H1 p = none) : H p = none := by
  cases q : H p with
  | none => rfl
  | some u =>
    have := a.kp p u (a.ne_new h) q
    rw [h] at this; cases this
/-- an object that was not there at the start is written -/
theorem Dr.own (a : Dr d H H1) (h : H p = none) {o : HO} : Dr d H (upd H1 p o) := by
  have np : d ≠ p := fun e => by
    obtain ⟨ds, q⟩ := a.st
    rw [e, h] at q; cases q
  obtain ⟨ds, q⟩ := a.en
  exact ⟨a.st, ⟨ds, by rw [upd_ne np]; exact q⟩, fun b u n e => by rw [upd_ne (ne_of_none e h)]; exact a.kp b u n e⟩
theorem Dr.new (a : Dr d H H1) (h : H1 p = none) {o : HO} : Dr d H (upd H1 p o) := a.own (a.fresh h)
theorem Dr.put (a : Dr d H H1) (ds : List Int) : Dr d H (upd H1 d (.lst (ds.map V.int))) :=
  ⟨a.st, ⟨ds, upd_same⟩, fun b u n e => by rw [upd_ne n]; exact a.kp b u n e⟩
theorem Dr.same (a : Dr d H H1) (s : Same H1 H2) : Dr d H H2 := by
  obtain ⟨ds, q⟩ := a.en
  exact ⟨a.st, ⟨ds, s _ _ q⟩, fun b u n e => s _ _ (a.kp b u n e)⟩
theorem Dr.sqt (g : Dr d H H') {a : Addr} {xs : List V} (h : SqT K H a xs) : SqT K H' a xs := by
  have nd : ∀ {u : HO}, (∀ ys, u ≠ .lst ys) → H a = some u → a ≠ d := fun hu q e => by
    obtain ⟨ds, z⟩ := g.st
    rw [e, z] at q; cases q
    exact hu _ rfl
  rcases h with (h | ⟨o, h⟩) | h
  · exact .inl (.inl (g.kp _ _ (nd (fun _ z => by cases z) h) h))
  · exact .inl (.inr ⟨o, g.kp _ _ (nd (fun _ z => by cases z) h) h⟩)
  · exact .inr h
theorem Dr.rp (g : Dr d H H') {v : V} {t : TD} (h : Rp K H v t) : Rp K H' v t := Rp.mono (fun _ _ => g.sqt) t v h
theorem Dr.rpa (g : Dr d H H') {v : List V} {t : List TD} (h : RpA K H v t) : RpA K H' v t := RpA.mono (fun _ _ => g.sqt) t v h
theorem same_sqt (g : Same H H') {a : Addr} {xs : List V} (h : SqT K H a xs) : SqT K H' a xs := by
  rcases h with (h | ⟨o, h⟩) | h
  · exact .inl (.inl (g _ _ h))
  · exact .inl (.inr ⟨o, g _ _ h⟩)
  · exact .inr h
theorem same_rp (g : Same H H') {v : V} {t : TD} (h : Rp K H v t) : Rp K H' v t := Rp.mono (fun _ _ => same_sqt g) t v h
theorem same_rpa (g : Same H H') {v : List V} {t : List TD} (h : RpA K H v t) : RpA K H' v t := RpA.mono (fun _ _ => same_sqt g) t v h
theorem same_new {o : HO} (h : H p = none) : Same H (upd H p o) := fun b u q => by rw [upd_ne (ne_of_none q h)]; exact q
/-- an object that was not there at the start is written -/
theorem same_own {o : HO} (g : Same H H1) (h : H p = none) : Same H (upd H1 p o) := fun b u q => by rw [upd_ne (ne_of_none q h)]; exact g b u q
/-- the script, whatever is drawn -/
def Sc (K : PySem.W.Frag) (H : Hp) (d a : Addr) (ns : List Int) : Prop := ∀ H', Dr d H H' → SqL K H' a (ns.map V.int)
theorem Sc.dr {a : Addr} {ns : List Int} (s : Sc K H d a ns) (g : Dr d H H') : Sc K H' d a ns := fun H2 g2 => s H2 (g.trans g2)
theorem Sc.now {a : Addr} {ns : List Int} (s : Sc K H d a ns) (h : ∃ ds : List Int, H d = some (.lst (ds.map V.int))) : SqL K H a (ns.map V.int) := s H (.refl h)
end
/-! ## the reading, step by step -/
def rNew (c : List V → HO) (xs : List V) (H : Hp) (Q : VK) : Prop := xs.length ≤ sizeLine ∧ ∀ p, H p = none → Q (.ref p) (upd H p (c xs))
def rInt : List V → Hp → VK → Prop := fun xs H Q => (∃ i, xs = [.int i] ∧ Q (.int i) H) ∨ ∃ k, xs = [.bl k] ∧ Q (.int (if k = true then 1 else 0)) H
def rLen (K : PySem.W.Frag) : List V → Hp → VK → Prop := fun xs H Q => ∃ p ys, xs = [.ref p] ∧ (SqL K H p ys ∨ SqT K H p ys) ∧ Q (.int ys.length) H
def rList (K : PySem.W.Frag) : List V → Hp → VK → Prop := fun xs H Q => ∃ p ys, xs = [.ref p] ∧ (SqL K H p ys ∨ SqT K H p ys) ∧ ∀ l, H l = none → Q (.ref l) (upd H l (.lst ys))
def rTuple (K : PySem.W.Frag) : List V → Hp → VK → Prop := fun xs H Q => ∃ p ys, xs = [.ref p] ∧ ((SqL K H p ys ∧ ∀ l, H l = none → Q (.ref l) (upd H l (.tup ys))) ∨ (SqT K H p ys ∧ Q (.ref p) H))
def rAbs : List V → Hp → VK → Prop := fun xs H Q => ∃ i, xs = [.int i] ∧ Q (.int (if i < 0 then -i else i)) H
def rMax2 : List V → Hp → VK → Prop := fun xs H Q => ∃ i j, xs = [.int i, .int j] ∧ Q (.int (if j > i then j else i)) H
def rMin2 : List V → Hp → VK → Prop := fun xs H Q => ∃ i j, xs = [.int i, .int j] ∧ Q (.int (if j < i then j else i)) H
def tForJ (J : It) (g : TG) (tb : TS) : TS := tFor (fun _ H R => R J H) g tb
def tLcJ (J : It) (g : TG) (tt : TT) (te : TE) (vs : List Nat) : TE := tLc (fun _ H R => R J H) g tt te vs
def rRng1 (R : It → Hp → Prop) (vs : List V) (H : Hp) : Prop := ∃ j : Int, vs = [.int j] ∧ -(2 ^ 62) ≤ j ∧ j < 2 ^ 62 ∧ R (Itr 0 j.toNat) H
def rRng2 (R : It → Hp → Prop) (vs : List V) (H : Hp) : Prop := ∃ i j : Int, vs = [.int i, .int j] ∧ (-(2 ^ 62) ≤ i ∧ i < 2 ^ 62 ∧ -(2 ^ 62) ≤ j ∧ j < 2 ^ 62) ∧ R (Itr i (j - i).toNat) H
def rIl (K : PySem.W.Frag) (R : It → Hp → Prop) (x : V) (H : Hp) : Prop := ∃ a, x = .ref a ∧ (∃ xs, SqL K H a xs) ∧ R (Itl K a) H
def rIsN : R2 := fun x y H Q => y = .non ∧ Q (.bl (decide (x = .non))) H
section
variable {X : Cx}
theorem c_int : CallR X (.type "int") rInt := call_int1
theorem c_len : CallR X (.builtin "len") (rLen X.K) := call_len_seq
theorem c_list : CallR X (.type "list") (rList X.K) := call_list_of
theorem c_tuple : CallR X (.type "tuple") (rTuple X.K) := call_tuple_of
theorem c_abs : CallR X (.builtin "abs") rAbs := call_abs
theorem c_max (hc : X.calm = true) : CallR X (.builtin "max") rMax2 := call_max2 hc
theorem c_min (hc : X.calm = true) : CallR X (.builtin "min") rMin2 := call_min2 hc
theorem o_isN : OpR X (compareOp .Is) rIsN := op_isN
end
section
variable {σ : L2.St} {H : Hp} {Q : VK} {D : Ends}
theorem rd_seq {t u : TS} (q : t { D with nx := u D } σ H) : tSeq t u D σ H := q
theorem rd_asg {te : TE} {g : TG} (q : te σ H fun x H1 => g x σ H1 D.nx) : tAsg te g D σ H := q
theorem rd_name {i : Nat} {v : V} {R : L2.St → Hp → Prop} (q : R (σ.set i (some v)) H) : gName i v σ H R := q
theorem rd_var {i : Nat} {v : V} (e : σ[i]? = some (some v)) (q : Q v H) : tVar i σ H Q := ⟨v, e, q⟩
theorem rd_c {v : V} (q : Q v H) : tC v σ H Q := q
theorem rd_op {r : R2} {ta tb : TE} (q : ta σ H fun x H1 => tb σ H1 fun y H2 => r x y H2 Q) : tOp r ta tb σ H Q := q
theorem rd_un {r : V → Hp → VK → Prop} {ta : TE} (q : ta σ H fun x H1 => r x H1 Q) : tUn r ta σ H Q := q
theorem rd_i0 {g : Int → Int → V} {i j : Int} (q : Q (g i j) H) : rI0 g (.int i) (.int j) H Q := ⟨i, j, rfl, rfl, q⟩
theorem rd_i {C : Int → Int → Prop} {g : Int → Int → V} {i j : Int} (c : C i j) (q : Q (g i j) H) : rI C g (.int i) (.int j) H Q := ⟨i, j, rfl, rfl, c, q⟩
theorem rd_u {g : Int → V} {i : Int} (q : Q (g i) H) : rU g (.int i) H Q := ⟨i, rfl, q⟩
theorem rd_eq {x y : V} (c : scal x y = true) (q : Q (.bl (decide (x = y))) H) : rEq x y H Q := ⟨c, q⟩
theorem rd_ne {x y : V} (c : scal x y = true) (q : Q (.bl (!decide (x = y))) H) : rNe x y H Q := ⟨c, q⟩
theorem rd_test {t : TE} {R : Bool → Hp → Prop} (q : t σ H fun x H' => ∃ k, x = .bl k ∧ R k H') : tTest t σ H R := q
theorem rd_tb {t : TE} {R : Bool → Hp → Prop} (q : t σ H fun x H' => ∃ k, x = .bl k ∧ R k H') : tB t σ H R := q
theorem rd_bl {b : Bool} {R : Bool → Prop} (q : R b) : ∃ k, V.bl b = .bl k ∧ R k := ⟨b, rfl, q⟩
theorem rd_if {c : TT} {t u : TS} (q : c σ H fun b H1 => if b = true then t D σ H1 else u D σ H1) : tIfS c t u D σ H := q
theorem rd_ret {te : TE} (q : te σ H D.rt) : tRet te D σ H := q
theorem rd_next (q : D.nx σ H) : tNext D σ H := q
theorem rd_drop {te : TE} (q : te σ H fun _ H1 => D.nx σ H1) : tDrop te D σ H := q
theorem rd_nil {R : List V → Hp → Prop} (q : R [] H) : tNil σ H R := q
theorem rd_cons {ta : TE} {tr : TA} {R : List V → Hp → Prop} (q : ta σ H fun x H1 => tr σ H1 fun xs H2 => R (x :: xs) H2) : tCons ta tr σ H R := q
theorem rd_cb {r : List V → Hp → VK → Prop} {t : TA} (q : t σ H fun vs H1 => r vs H1 Q) : tCB r t σ H Q := q
theorem rd_call {sp : Sp} {dvs : List V} {E : XK} {t : TA} (q : t σ H fun vs H1 => sp (vs ++ dvs) H1 Q E) : tCall sp dvs E t σ H Q := q
theorem rd_tup {t : TA} (q : t σ H fun xs H1 => rNew .tup xs H1 Q) : tTup t σ H Q := q
theorem rd_lst {t : TA} (q : t σ H fun xs H1 => rNew .lst xs H1 Q) : tLst t σ H Q := q
theorem rd_new {c : List V → HO} {xs : List V} (z : xs.length ≤ sizeLine) (q : ∀ p, H p = none → Q (.ref p) (upd H p (c xs))) : rNew c xs H Q := ⟨z, q⟩
theorem rd_andV {ta tb : TE} (q : ta σ H fun x H1 => ∃ c, x = .bl c ∧ if c = true then tb σ H1 Q else Q (.bl false) H1) : tAndV ta tb σ H Q := q
theorem rd_orV {ta tb : TE} (q : ta σ H fun x H1 => ∃ c, x = .bl c ∧ if c = true then Q (.bl true) H1 else tb σ H1 Q) : tOrV ta tb σ H Q := q
theorem rd_and {t u : TT} {R : Bool → Hp → Prop} (q : t σ H fun c H1 => if c = true then u σ H1 R else R false H1) : tAnd t u σ H R := q
theorem rd_or {t u : TT} {R : Bool → Hp → Prop} (q : t σ H fun c H1 => if c = true then R true H1 else u σ H1 R) : tOr t u σ H R := q
theorem rd_not {t : TT} {R : Bool → Hp → Prop} (q : t σ H fun c H1 => R (!c) H1) : tNot t σ H R := q
theorem rd_ifE {t : TT} {ta tb : TE} (q : t σ H fun c H1 => if c = true then ta σ H1 Q else tb σ H1 Q) : tIf t ta tb σ H Q := q
theorem rd_ixT {K : PySem.W.Frag} {p : Addr} {xs : List V} {i : Int} {v : V} (s : SqT K H p xs) (a : atI xs i = some v) (q : Q v H) : rIxT K (.ref p) (.int i) H Q := ⟨p, xs, i, v, rfl, rfl, s, a, q⟩
theorem rd_ixL {K : PySem.W.Frag} {p : Addr} {xs : List V} {i : Int} {v : V} (s : SqL K H p xs) (a : atI xs i = some v) (q : Q v H) : rIxL K (.ref p) (.int i) H Q := ⟨p, xs, i, v, rfl, rfl, s, a, q⟩
theorem rd_bm0 {K : PySem.W.Frag} {T : String} {r : V → List V → Hp → VK → Prop} {to : TE} (q : to σ H fun x H1 => tyV K T x H1 ∧ r x [] H1 Q) : tBM0 K T r to σ H Q := q
theorem rd_bm {K : PySem.W.Frag} {T : String} {r : V → List V → Hp → VK → Prop} {to : TE} {t : TA} (q : to σ H fun x H1 => tyV K T x H1 ∧ t σ H1 fun xs H2 => r x xs H2 Q) : tBM K T r to t σ H Q := q
theorem rd_match {te : TE} {t : Str → TS} (q : te σ H fun v H1 => ∃ z, v = .str z ∧ t z D σ H1) : tMatch te t D σ H := q
theorem rd_str {z : Str} {R : Str → Prop} (q : R z) : ∃ z', V.str z = .str z' ∧ R z' := ⟨z, rfl, q⟩
theorem rd_caseT {f : Str → Bool} {t : TS} {u : Str → TS} {z : Str} (c : f z = true) (q : t D σ H) : tCase f t u z D σ H := by
  unfold tCase; rw [if_pos c]; exact q
theorem rd_caseF {f : Str → Bool} {t : TS} {u : Str → TS} {z : Str} (c : f z = false) (q : u z D σ H) : tCase f t u z D σ H := by
  unfold tCase; rw [if_neg (by rw [c]; exact Bool.false_ne_true)]; exact q
theorem rd_isN {x : V} (q : Q (.bl (decide (x = .non))) H) : rIsN x .non H Q := ⟨rfl, q⟩
theorem rd_int {i : Int} (q : Q (.int i) H) : rInt [.int i] H Q := .inl ⟨i, rfl, q⟩
theorem rd_intB {k : Bool} (q : Q (.int (if k = true then 1 else 0)) H) : rInt [.bl k] H Q := .inr ⟨k, rfl, q⟩
theorem rd_len {K : PySem.W.Frag} {p : Addr} {ys : List V} (h : SqL K H p ys) (q : Q (.int ys.length) H) : rLen K [.ref p] H Q := ⟨p, ys, rfl, .inl h, q⟩
theorem rd_lenT {K : PySem.W.Frag} {p : Addr} {ys : List V} (h : SqT K H p ys) (q : Q (.int ys.length) H) : rLen K [.ref p] H Q := ⟨p, ys, rfl, .inr h, q⟩
theorem rd_list {K : PySem.W.Frag} {p : Addr} {ys : List V} (h : SqL K H p ys) (q : ∀ l, H l = none → Q (.ref l) (upd H l (.lst ys))) : rList K [.ref p] H Q := ⟨p, ys, rfl, .inl h, q⟩
theorem rd_tuple {K : PySem.W.Frag} {p : Addr} {ys : List V} (h : SqL K H p ys) (q : ∀ l, H l = none → Q (.ref l) (upd H l (.tup ys))) : rTuple K [.ref p] H Q := ⟨p, ys, rfl, .inl ⟨h, q⟩⟩
theorem rd_abs {i : Int} (q : Q (.int (if i < 0 then -i else i)) H) : rAbs [.int i] H Q := ⟨i, rfl, q⟩
theorem rd_max {i j : Int} (q : Q (.int (if j > i then j else i)) H) : rMax2 [.int i, .int j] H Q := ⟨i, j, rfl, q⟩
theorem rd_min {i j : Int} (q : Q (.int (if j < i then j else i)) H) : rMin2 [.int i, .int j] H Q := ⟨i, j, rfl, q⟩
theorem rd_append {l : Addr} {xs : List V} {y : V} (h : H l = some (.lst xs)) (z : xs.length < sizeLine) (q : Q .non (upd H l (.lst (xs ++ [y])))) : rAppend (.ref l) [y] H Q := ⟨l, xs, y, rfl, rfl, h, z, q⟩
theorem rd_pop {l : Addr} {xs : List V} {y : V} (h : H l = some (.lst xs)) (z : xs[xs.length - 1]? = some y) (q : Q y (upd H l (.lst xs.dropLast))) : rPop (.ref l) [] H Q := ⟨l, xs, y, rfl, rfl, h, z, q⟩
theorem rd_ty {K : PySem.W.Frag} {p : Addr} {ys : List V} {R : Prop} (h : SqL K H p ys) (q : R) : tyV K "list" (.ref p) H ∧ R := ⟨.inl ⟨rfl, _, h⟩, q⟩
theorem rd_for {wi : TI} {g : TG} {tb : TS} (q : wi σ H fun J H1 => tForJ J g tb D σ H1) : tFor wi g tb D σ H := q
theorem rd_lc {wi : TI} {g : TG} {tt : TT} {te : TE} {vs : List Nat} (q : wi σ H fun J H1 => tLcJ J g tt te vs σ H1 Q) : tLc wi g tt te vs σ H Q := q
theorem rd_rng1 {ta : TA} {R : It → Hp → Prop} (q : ta σ H fun vs H1 => rRng1 R vs H1) : iRng1 ta σ H R := q
theorem rd_rng2 {ta : TA} {R : It → Hp → Prop} (q : ta σ H fun vs H1 => rRng2 R vs H1) : iRng2 ta σ H R := q
theorem rd_ilist {K : PySem.W.Frag} {ta : TE} {R : It → Hp → Prop} (q : ta σ H fun x H1 => rIl K R x H1) : iList K ta σ H R := q
theorem rd_r1 {j : Int} {R : It → Hp → Prop} (h : -1000000 ≤ j ∧ j < 1000000) (q : R (Itr 0 j.toNat) H) : rRng1 R [.int j] H := ⟨_, rfl, by omega, by omega, q⟩
theorem rd_r2 {i j : Int} {R : It → Hp → Prop} (h : -1000000 ≤ i ∧ i < 1000000) (h' : -1000000 ≤ j ∧ j < 1000000) (q : R (Itr i (j - i).toNat) H) : rRng2 R [.int i, .int j] H := ⟨_, _, rfl, ⟨by omega, by omega, by omega, by omega⟩, q⟩
theorem rd_il {K : PySem.W.Frag} {a : Addr} {xs : List V} {R : It → Hp → Prop} (h : SqL K H a xs) (q : R (Itl K a) H) : rIl K R (.ref a) H := ⟨a, rfl, ⟨xs, h⟩, q⟩
theorem len_ok {n : Nat} (h : n.ble sizeLine = true) : n ≤ sizeLine := Nat.le_of_ble_eq_true h
theorem iteB {b : Bool} {A B : Prop} (h1 : b = true → A) (h2 : b = false → B) : if b = true then A else B := by
  cases b with
  | true => rw [if_pos rfl]; exact h1 rfl
  | false => rw [if_neg Bool.false_ne_true]; exact h2 rfl
theorem iteD {p : Prop} [Decidable p] {A B : Prop} (h1 : p → A) (h2 : ¬ p → B) : if decide p = true then A else B := by
  by_cases h : p
  · rw [decide_eq_true h, if_pos rfl]; exact h1 h
  · rw [decide_eq_false h, if_neg Bool.false_ne_true]; exact h2 h
theorem iteDT {p : Prop} [Decidable p] {A B : Prop} (h : p) (q : A) : if decide p = true then A else B := by rw [decide_eq_true h, if_pos rfl]; exact q
theorem iteDF {p : Prop} [Decidable p] {A B : Prop} (h : ¬ p) (q : B) : if decide p = true then A else B := by rw [decide_eq_false h, if_neg Bool.false_ne_true]; exact q
end
end A1
namespace A1
open PySem L2 PySem.Spec PyProof.Rows
section
variable {σ : L2.St} {H : Hp} {Q : VK} {D : Ends}
theorem rd_yes {R : Bool → Hp → Prop} (q : R true H) : tYes σ H R := q
theorem at_ints {ns : List Int} {z : Int} (h0 : 0 ≤ z) (h1 : z < ns.length) : atI (ns.map V.int) z = some (.int (ns.getD z.toNat 0)) := by
  obtain ⟨k, rfl⟩ : ∃ k : Nat, z = (k : Int) := ⟨z.toNat, by omega⟩
  have hz : k < ns.length := by omega
  refine atI_nat ?_
  rw [List.getElem?_map, List.getElem?_eq_getElem hz]
  simp [List.getD_eq_getElem?_getD, hz]
theorem map_get {ns : List Int} {i : Nat} {x : V} (h : (ns.map V.int)[i]? = some x) : ∃ z, x = .int z ∧ ns[i]? = some z := by
  rw [List.getElem?_map] at h
  cases e : ns[i]? with
  | none => rw [e] at h; cases h
  | some z => rw [e] at h; exact ⟨z, (Option.some.inj h).symm, rfl⟩
theorem take_snoc {α : Type} {ns : List α} {i : Nat} {z : α} (h : ns[i]? = some z) : ns.take (i + 1) = ns.take i ++ [z] := by
  rw [List.take_add_one, h]; rfl
end
end A1
namespace A1
open PySem L2 PySem.Spec PyProof.Rows
/-- a list of draws stands at d -/
def DrAt (d : Addr) (H : Hp) : Prop := ∃ ds : List Int, H d = some (.lst (ds.map V.int))
theorem Dr.isD {d : Addr} {H H' : Hp} (g : Dr d H H') : DrAt d H' := g.en
/-! ## houses -/
inductive Hs where
  | counts | yes | least | sums | families | formulas
  | capped (n : Int) | modulo (n : Int) | chain (n : Int) | divisors (n : Int) | prices (n : Int)
  | table (o : Int) (p t : List (List Int))
  | pair (h k : Hs)
  deriving DecidableEq
def rowsT (p : List (List Int)) : TD := .tup (p.map fun r => .tup (r.map .int))
def Hs.td : Hs → TD
  | .counts => .tup [.str "counts"]
  | .yes => .tup [.str "yes"]
  | .least => .tup [.str "least"]
  | .sums => .tup [.str "sums"]
  | .families => .tup [.str "families"]
  | .formulas => .tup [.str "formulas"]
  | .capped n => .tup [.str "capped", .int n]
  | .modulo n => .tup [.str "modulo", .int n]
  | .chain n => .tup [.str "chain", .int n]
  | .divisors n => .tup [.str "divisors", .int n]
  | .prices n => .tup [.str "prices", .int n]
  | .table o p t => .tup [.str "table", .int o, rowsT p, rowsT t]
  | .pair h k => .tup [.str "pair", h.td, k.td]
def Hs.name : Hs → Str
  | .counts => "counts"
  | .yes => "yes"
  | .least => "least"
  | .sums => "sums"
  | .families => "families"
  | .formulas => "formulas"
  | .capped _ => "capped"
  | .modulo _ => "modulo"
  | .chain _ => "chain"
  | .divisors _ => "divisors"
  | .prices _ => "prices"
  | .table _ _ _ => "table"
  | .pair _ _ => "pair"
def Hs.rest : Hs → List TD
  | .capped n | .modulo n | .chain n | .divisors n | .prices n => [.int n]
  | .table o p t => [.int o, rowsT p, rowsT t]
  | .pair h k => [h.td, k.td]
  | _ => []
theorem Hs.td_eq (h : Hs) : h.td = .tup (.str h.name :: h.rest) := by cases h <;> rfl
/-- the small houses that tables are made of -/
def smalls : List Hs := [.modulo 1, .modulo 2, .modulo 3, .modulo 4, .modulo 5, .capped 1, .capped 2, .capped 3, .capped 4, .capped 5, .chain 1, .chain 2, .chain 3, .chain 4, .chain 5,
  .divisors 6, .divisors 4, .divisors 8, .divisors 5, .divisors 12, .yes]
def Hs.wsI : Hs → List Int
  | .modulo n => (List.range n.toNat).map Int.ofNat
  | .capped n | .chain n => (List.range (n + 1).toNat).map Int.ofNat
  | .yes => [0, 1]
  | .divisors n => ((List.range (n + 1).toNat).map Int.ofNat).filter fun k => decide (1 ≤ k) && decide (n % k = 0)
  | _ => []
def Hs.oneI : Hs → Int
  | .modulo n => 1 % n
  | .chain n | .divisors n => n
  | _ => 1
def Hs.plusI : Hs → Int → Int → Int
  | .modulo n, a, b => (a + b) % n
  | .capped n, a, b => if a + b < n then a + b else n
  | .divisors _, a, b => a * b / (Int.gcd a b : Int)
  | _, a, b => if b > a then b else a
def Hs.timesI : Hs → Int → Int → Int
  | .modulo n, a, b => (a * b) % n
  | .capped n, a, b => if a * b < n then a * b else n
  | .divisors _, a, b => (Int.gcd a b : Int)
  | _, a, b => if b < a then b else a
def idxI (ns : List Int) (v : Int) : Int := ((ns.idxOf v : Nat) : Int)
/-- the tables that are drawn: a small house with its worths named anew, zero first -/
def TOk (o : Int) (p t : List (List Int)) : Prop := ∃ (h : Hs) (ns : List Int), h ∈ smalls ∧ ns.Perm h.wsI ∧ ns.head? = h.wsI.head? ∧ o = idxI ns h.oneI ∧
  p = (ns.map fun a => ns.map fun b => idxI ns (h.plusI a b)) ∧ t = (ns.map fun a => ns.map fun b => idxI ns (h.timesI a b))
def Hs.ok : Hs → Prop
  | .capped n | .modulo n | .chain n | .divisors n => 1 ≤ n
  | .prices n => 1 ≤ n ∧ n ≤ 40
  | .table o p t => TOk o p t
  | .pair h k => h.ok ∧ k.ok
  | _ => True
def Hs.depth : Hs → Nat
  | .pair h k => max h.depth k.depth + 1
  | _ => 1
def Hs.smallB : Hs → Bool
  | .capped n | .modulo n | .chain n | .divisors n => decide (1 ≤ n)
  | .yes => true
  | _ => false
theorem small_b : ∀ h ∈ smalls, h.smallB = true := by decide
theorem small_ok {h : Hs} (hh : h ∈ smalls) : h.ok ∧ h.depth = 1 := by
  have q := small_b h hh
  cases h <;> first | exact ⟨trivial, rfl⟩ | exact ⟨of_decide_eq_true (p := 1 ≤ _) q, rfl⟩ | exact Bool.noConfusion q
/-- the parts of a house's tuple -/
theorem Rp.house {K : PySem.W.Frag} {H : Hp} {v : V} {h : Hs} (r : Rp K H v h.td) : ∃ a xs, v = .ref a ∧ SqT K H a (.str h.name :: xs) ∧ RpA K H xs h.rest := by
  rw [h.td_eq] at r
  cases r with
  | tup s ra =>
    cases ra with
    | cons r1 r2 =>
      cases r1
      exact ⟨_, _, rfl, s, r2⟩
end A1
namespace A1
open PySem L2 PySem.Spec PyProof.Rows
theorem sm_rng : ∀ h ∈ smalls, ∀ a ∈ h.wsI, 0 ≤ a ∧ a ≤ 12 := by decide +kernel
theorem sm_div : ∀ n ∈ [(6 : Int), 4, 8, 5, 12], ∀ a ∈ (Hs.divisors n).wsI, 1 ≤ a := by decide +kernel
theorem sm_plus : ∀ h ∈ smalls, ∀ a ∈ h.wsI, ∀ b ∈ h.wsI, h.plusI a b ∈ h.wsI := by decide +kernel
theorem sm_times : ∀ h ∈ smalls, ∀ a ∈ h.wsI, ∀ b ∈ h.wsI, h.timesI a b ∈ h.wsI := by decide +kernel
theorem sm_one : ∀ h ∈ smalls, h.oneI ∈ h.wsI := by decide +kernel
theorem sm_len : ∀ h ∈ smalls, 1 ≤ h.wsI.length ∧ h.wsI.length ≤ 6 := by decide +kernel
theorem sm_num : ∀ h ∈ smalls, (match h with | .capped n | .modulo n | .chain n | .divisors n => decide (1 ≤ n ∧ n ≤ 12) | .yes => true | _ => false) = true := by decide +kernel
theorem sm_dv : ∀ h ∈ smalls, (match h with | .divisors n => decide (n ∈ [(6 : Int), 4, 8, 5, 12]) | _ => true) = true := by decide +kernel
theorem sm_divs {n : Int} (h : Hs.divisors n ∈ smalls) : n ∈ [(6 : Int), 4, 8, 5, 12] := of_decide_eq_true (sm_dv _ h)
/-- what a drawn small house is -/
theorem small_is {h : Hs} (hh : h ∈ smalls) : (∃ n, h = .capped n ∧ 1 ≤ n ∧ n ≤ 12) ∨ (∃ n, h = .modulo n ∧ 1 ≤ n ∧ n ≤ 12) ∨ (∃ n, h = .chain n ∧ 1 ≤ n ∧ n ≤ 12) ∨ (∃ n, h = .divisors n ∧ 1 ≤ n ∧ n ≤ 12) ∨ h = .yes := by
  have q := sm_num h hh
  cases h with
  | capped n => exact .inl ⟨n, rfl, of_decide_eq_true q⟩
  | modulo n => exact .inr (.inl ⟨n, rfl, of_decide_eq_true q⟩)
  | chain n => exact .inr (.inr (.inl ⟨n, rfl, of_decide_eq_true q⟩))
  | divisors n => exact .inr (.inr (.inr (.inl ⟨n, rfl, of_decide_eq_true q⟩)))
  | yes => exact .inr (.inr (.inr (.inr rfl)))
  | counts => exact Bool.noConfusion q
  | least => exact Bool.noConfusion q
  | sums => exact Bool.noConfusion q
  | families => exact Bool.noConfusion q
  | formulas => exact Bool.noConfusion q
  | prices n => exact Bool.noConfusion q
  | table o p t => exact Bool.noConfusion q
  | pair h k => exact Bool.noConfusion q
section
variable {K : PySem.W.Frag} {H : Hp} {v : V}
theorem Rp.one {z : Str} {n : Int} (r : Rp K H v (.tup [.str z, .int n])) : ∃ a, v = .ref a ∧ SqT K H a [.str z, .int n] := by
  cases r with
  | tup s ra =>
    cases ra with
    | cons r1 r2 =>
      cases r2 with
      | cons r3 r4 =>
        cases r1; cases r3; cases r4
        exact ⟨_, rfl, s⟩
theorem Rp.nul {z : Str} (r : Rp K H v (.tup [.str z])) : ∃ a, v = .ref a ∧ SqT K H a [.str z] := by
  cases r with
  | tup s ra =>
    cases ra with
    | cons r1 r2 =>
      cases r1; cases r2
      exact ⟨_, rfl, s⟩
theorem Rp.two {z : Str} {x y : TD} (r : Rp K H v (.tup [.str z, x, y])) : ∃ a u w, v = .ref a ∧ SqT K H a [.str z, u, w] ∧ Rp K H u x ∧ Rp K H w y := by
  cases r with
  | tup s ra =>
    cases ra with
    | cons r1 r2 =>
      cases r2 with
      | cons r3 r4 =>
        cases r4 with
        | cons r5 r6 =>
          cases r1; cases r6
          exact ⟨_, _, _, rfl, s, r3, r5⟩
theorem Rp.three {z : Str} {o : Int} {x y : TD} (r : Rp K H v (.tup [.str z, .int o, x, y])) : ∃ a u w, v = .ref a ∧ SqT K H a [.str z, .int o, u, w] ∧ Rp K H u x ∧ Rp K H w y := by
  cases r with
  | tup s ra =>
    cases ra with
    | cons r1 r2 =>
      cases r2 with
      | cons r0 r2 =>
        cases r2 with
        | cons r3 r4 =>
          cases r4 with
          | cons r5 r6 =>
            cases r1; cases r0; cases r6
            exact ⟨_, _, _, rfl, s, r3, r5⟩
theorem rp_one {z : Str} {n : Int} {a : Addr} (s : SqT K H a [.str z, .int n]) : Rp K H (.ref a) (.tup [.str z, .int n]) := .tup s (.cons (.str z) (.cons (.int n) .nil))
theorem rp_nul {z : Str} {a : Addr} (s : SqT K H a [.str z]) : Rp K H (.ref a) (.tup [.str z]) := .tup s (.cons (.str z) .nil)
theorem rp_two {z : Str} {a : Addr} {u w : V} {x y : TD} (s : SqT K H a [.str z, u, w]) (r : Rp K H u x) (r' : Rp K H w y) : Rp K H (.ref a) (.tup [.str z, x, y]) := .tup s (.cons (.str z) (.cons r (.cons r' .nil)))
theorem rp_three {z : Str} {o : Int} {a : Addr} {u w : V} {x y : TD} (s : SqT K H a [.str z, .int o, u, w]) (r : Rp K H u x) (r' : Rp K H w y) : Rp K H (.ref a) (.tup [.str z, .int o, x, y]) := .tup s (.cons (.str z) (.cons (.int o) (.cons r (.cons r' .nil))))
end
end A1
namespace A1
open PySem L2 PySem.Spec PyProof.Rows
/-! the same rules, with the written part named (within a comprehension) -/
section
variable {X : Cx} (K : PySem.W.Frag) (h : X.K = K)
include h
theorem k_ixT : IxR X (rIxT K) := by subst h; exact ix_tup
theorem k_ixL : IxR X (rIxL K) := by subst h; exact ix_list
theorem k_len : CallR X (.builtin "len") (rLen K) := by subst h; exact c_len
theorem k_list : CallR X (.type "list") (rList K) := by subst h; exact c_list
theorem k_tuple : CallR X (.type "tuple") (rTuple K) := by subst h; exact c_tuple
theorem k_in : OpR X (compareOp .In) (rIn K false) := by subst h; exact op_in_seq
theorem k_notIn : OpR X (compareOp .NotIn) (rIn K true) := by subst h; exact op_notIn_seq
theorem k_index : MtR X "list.index" (rIndex K) := by subst h; exact mt_index
theorem k_isi : CallR X (.builtin "isinstance") (rIsi K) := by subst h; exact call_isi
theorem k_isiT : CallR X (.builtin "isinstance") (rIsiT K) := by subst h; exact call_isiT
theorem k_slL : SlR X (rSlL K) := by subst h; exact sl_list
theorem k_pil {tg l : Expr} {tl : TE} (hl : PE X l tl) : PI X tg l (iList K tl) := by subst h; exact pi_list hl
end
section
variable {X : Cx} (K : PySem.W.Frag) (h : X.K = K)
include h
theorem k_bm0 {e : Expr} {T : String} {r : V → List V → Hp → VK → Prop} {to : TE} (p : PE X e (tBM0 X.K T r to)) : PE X e (tBM0 K T r to) := by subst h; exact p
theorem k_bm {e : Expr} {T : String} {r : V → List V → Hp → VK → Prop} {to : TE} {t : TA} (p : PE X e (tBM X.K T r to t)) : PE X e (tBM K T r to t) := by subst h; exact p
end
end A1
namespace A1
open PySem L2 PySem.Spec PyProof.Rows
/-- data of a depth below n, no tuple too long -/
def TD.fit : Nat → TD → Prop
  | 0, _ => False
  | n + 1, .tup ds => ds.length ≤ 20000 ∧ ∀ d ∈ ds, d.fit n
  | _ + 1, _ => True
theorem TD.fit_mono {n m : Nat} (h : n ≤ m) : ∀ {t : TD}, t.fit n → t.fit m := by
  induction n generalizing m with
  | zero => intro t q; exact q.elim
  | succ n ih =>
    intro t q
    obtain ⟨m, rfl⟩ : ∃ k, m = k + 1 := ⟨m - 1, by omega⟩
    cases t with
    | tup ds => exact ⟨q.1, fun d hd => ih (by omega) (q.2 d hd)⟩
    | non => trivial
    | bl b => trivial
    | int i => trivial
    | str x => trivial
section
variable {K : PySem.W.Frag} {H : Hp} {Q : VK}
theorem rd_isi {x c : V} {t u : Value} {b : Bool} (k : ClsV c u) (ty : TyX K H x t) (e : PySem.W.kitOne K t u = some b) (q : Q (.bl b) H) : rIsi K [x, c] H Q := ⟨x, c, t, u, b, rfl, k, ty, e, q⟩
theorem rd_isiT {x : V} {tp : Addr} {cs : List V} {t : Value} {us : List Value} {b : Bool} (hT : H tp = some (.tup cs)) (k : Paired ClsV cs us) (ty : TyX K H x t) (e : PySem.W.kitAny K t us = some b) (q : Q (.bl b) H) : rIsiT K [x, .ref tp] H Q :=
  ⟨x, tp, cs, t, us, b, rfl, hT, k, ty, e, q⟩
theorem iteNF {p : Prop} [Decidable p] {A B : Prop} (h : p) (q : B) : if (!decide p) = true then A else B := by rw [decide_eq_true h]; exact iteF q
theorem iteNT {p : Prop} [Decidable p] {A B : Prop} (h : ¬ p) (q : A) : if (!decide p) = true then A else B := by rw [decide_eq_false h]; exact iteT q
theorem sqt_ty {a : Addr} {xs : List V} (h : SqT K H a xs) : TyX K H (.ref a) (.type "tuple") := by
  rcases h with (h | ⟨o, h⟩) | ⟨o, its, n, e, c, _⟩
  · exact .base (.tup h)
  · exact .fTuple h
  · exact .kTuple e c
theorem kt_tup : PySem.W.kitAny K (.type "tuple") [.type "tuple", .type "list"] = some true := kitAny_cons (b := true) (kit_ty (by decide +kernel)) (fun z => nomatch z) (fun _ => rfl)
theorem kt_no {a : String} (h1 : kitB a "tuple" = some false) (h2 : kitB a "list" = some false) : PySem.W.kitAny K (.type a) [.type "tuple", .type "list"] = some false :=
  kitAny_cons (b := false) (kit_ty h1) (fun _ => kitAny_cons (b := false) (kit_ty h2) (fun _ => kitAny_nil) (fun z => z)) (fun z => z)
theorem rd_notIn {x : V} {p : Addr} {xs : List V} (h : SqL K H p xs) (f : flatV x = true) (fs : xs.all flatV = true) (q : Q (.bl (!inV x xs)) H) : rIn K true x (.ref p) H Q := ⟨p, xs, rfl, .inl h, f, fs, q⟩
theorem rd_in {x : V} {p : Addr} {xs : List V} (h : SqL K H p xs) (f : flatV x = true) (fs : xs.all flatV = true) (q : Q (.bl (inV x xs)) H) : rIn K false x (.ref p) H Q := ⟨p, xs, rfl, .inl h, f, fs, q⟩
theorem trues_flat (n : Nat) : (List.replicate n (V.bl true)).all flatV = true := by
  induction n with
  | zero => rfl
  | succ n ih => rw [List.replicate_succ, List.all_cons, ih]; rfl
theorem trues_no (n : Nat) : inV (.bl false) (List.replicate n (V.bl true)) = false := by
  unfold inV
  induction n with
  | zero => rfl
  | succ n ih => rw [List.replicate_succ, List.any_cons, ih]; rfl
end
end A1
namespace A1
open PySem L2 PySem.Spec PyProof.Rows
def Hs.zeroT : Hs → TD
  | .divisors _ => .int 1
  | .least => .non
  | .prices _ | .sums | .families | .formulas => .tup []
  | .pair h k => .tup [h.zeroT, k.zeroT]
  | _ => .int 0
def Hs.oneT : Hs → TD
  | .modulo n => .int (1 % n)
  | .chain n | .divisors n => .int n
  | .table o _ _ => .int o
  | .least => .int 0
  | .prices n => .tup [.tup (List.replicate n.toNat (.int 0))]
  | .sums | .families => .tup [.int 0]
  | .formulas => .tup [.tup [.tup [], .int 1]]
  | .pair h k => .tup [h.oneT, k.oneT]
  | _ => .int 1
theorem iteVT {b : Bool} {A B : Prop} (h : b = true) (q : A) : if b = true then A else B := by rw [if_pos h]; exact q
theorem iteVF {b : Bool} {A B : Prop} (h : b = false) (q : B) : if b = true then A else B := by rw [h]; exact iteF q
theorem depth_pos (h : Hs) : 1 ≤ h.depth := by cases h <;> simp [Hs.depth]
theorem zero_fit : ∀ (h : Hs) (n : Nat), h.ok → h.depth ≤ n → h.zeroT.fit (n + 3)
  | .pair h k, n + 1, ho, hd => by
    have hd' : max h.depth k.depth ≤ n := Nat.le_of_succ_le_succ hd
    refine ⟨by simp, fun d hm => ?_⟩
    simp only [List.mem_cons, List.not_mem_nil, or_false] at hm
    rcases hm with rfl | rfl
    · exact zero_fit h n ho.1 (by omega)
    · exact zero_fit k n ho.2 (by omega)
  | .pair h k, 0, _, hd => absurd hd (by simp [Hs.depth])
  | .counts, _, _, _ => trivial
  | .yes, _, _, _ => trivial
  | .least, _, _, _ => trivial
  | .capped _, _, _, _ => trivial
  | .modulo _, _, _, _ => trivial
  | .chain _, _, _, _ => trivial
  | .divisors _, _, _, _ => trivial
  | .table _ _ _, _, _, _ => trivial
  | .prices _, _, _, _ => ⟨by simp, fun _ h => nomatch h⟩
  | .sums, _, _, _ => ⟨by simp, fun _ h => nomatch h⟩
  | .families, _, _, _ => ⟨by simp, fun _ h => nomatch h⟩
  | .formulas, _, _, _ => ⟨by simp, fun _ h => nomatch h⟩
theorem one_fit : ∀ (h : Hs) (n : Nat), h.ok → h.depth ≤ n → h.oneT.fit (n + 4)
  | .pair h k, n + 1, ho, hd => by
    have hd' : max h.depth k.depth ≤ n := Nat.le_of_succ_le_succ hd
    refine ⟨by simp, fun d hm => ?_⟩
    simp only [List.mem_cons, List.not_mem_nil, or_false] at hm
    rcases hm with rfl | rfl
    · exact one_fit h n ho.1 (by omega)
    · exact one_fit k n ho.2 (by omega)
  | .pair h k, 0, _, hd => absurd hd (by simp [Hs.depth])
  | .counts, _, _, _ => trivial
  | .yes, _, _, _ => trivial
  | .least, _, _, _ => trivial
  | .capped _, _, _, _ => trivial
  | .modulo _, _, _, _ => trivial
  | .chain _, _, _, _ => trivial
  | .divisors _, _, _, _ => trivial
  | .table _ _ _, _, _, _ => trivial
  | .prices m, _, ho, _ => by
    have h1 : 1 ≤ m := ho.1
    have h2 : m ≤ 40 := ho.2
    refine ⟨by simp, fun d hm => ?_⟩
    simp only [List.mem_cons, List.not_mem_nil, or_false] at hm
    subst hm
    refine ⟨by rw [List.length_replicate]; omega, fun d hm => ?_⟩
    rw [List.eq_of_mem_replicate hm]
    trivial
  | .sums, _, _, _ => ⟨by simp, fun d hm => by simp only [List.mem_cons, List.not_mem_nil, or_false] at hm; subst hm; trivial⟩
  | .families, _, _, _ => ⟨by simp, fun d hm => by simp only [List.mem_cons, List.not_mem_nil, or_false] at hm; subst hm; trivial⟩
  | .formulas, _, _, _ => ⟨by simp, fun d hm => by
      simp only [List.mem_cons, List.not_mem_nil, or_false] at hm
      subst hm
      refine ⟨by simp, fun d hm => ?_⟩
      simp only [List.mem_cons, List.not_mem_nil, or_false] at hm
      rcases hm with rfl | rfl
      · exact ⟨by simp, fun _ h => nomatch h⟩
      · trivial⟩
theorem rpa_rep {K : PySem.W.Frag} {H : Hp} (n : Nat) : RpA K H (List.replicate n (V.int 0)) (List.replicate n (TD.int 0)) := by
  induction n with
  | zero => exact .nil
  | succ n ih => rw [List.replicate_succ, List.replicate_succ]; exact .cons (.int 0) ih
theorem flat_single {α : Type} (n : Nat) (x : α) : (List.replicate n [x]).flatten = List.replicate n x := by
  induction n with
  | zero => rfl
  | succ n ih => rw [List.replicate_succ, List.flatten_cons, ih, List.replicate_succ]; rfl
end A1

namespace A1
open PySem L2 PySem.Spec PyProof.Rows
theorem tup_mul_one {a : Addr} {its : Array Value} {n : Nat} {dd : Option Addr} {sl : Array (Option Value)} {k : Tok} :
    Meets (Builtin.«tuple.__mul__» ⟨[.ref a, .int 1 k], []⟩)
      (fun _ R s => s.heap.get? a = some { cls := .type "tuple", dict := dd, data := .seq its n, slots := sl } ∧ R (.ok (.ret (Value.ref a))) s) :=
  .of_wp fun prog w A R s h => by
    obtain ⟨hp, g, d, tk, os⟩ := s
    obtain ⟨ha, h⟩ := h
    have f1 := AutoSeq1.idx_int
    wp_walk using wpAny_loadPart' ha
    exact ⟨_, rfl, h⟩
/-- a tuple taken once is itself -/
def rOnce (K : PySem.W.Frag) : R2 := fun x y H Q => ∃ a xs, x = .ref a ∧ y = .int 1 ∧ SqT K H a xs ∧ Q (.ref a) H
section
variable {X : Cx}
theorem op_once : OpR X (binaryOp .Mult) (rOnce X.K) := by
  rintro pins s σ H _ _ v u Q I rx ry ⟨a, xs, rfl, rfl, hT, q⟩
  cases rx
  obtain ⟨tk, rfl⟩ := ry
  obtain ⟨its, _, ⟨⟨oc, od, ot, osl⟩, hg, e1, m, e2⟩, _⟩ := I.tuple hT
  dsimp only at e1 e2
  subst e1 e2
  have mulI := @call_meets
  refine wpAny_binaryOp_repeat_ref (T := "tuple") (U := "int") (by decide) ⟨_, hg, rfl⟩
    (fun s' => typeIs_int s' 1 tk) noFill_tuple_mul F.fills_int_mul F.slot_int_rmul repeat_tuple F.slot_int_index.lookup ?_
  refine call_meets F.slot_int_rmul (typeIs_int s 1 tk) F.entry_int_rmul (F.args_int_rmul_2 _ _)
    (int_rmul_tuple 1 tk a its.toArray m od osl) ⟨hg, rfl, ⟨_, hg, rfl⟩, ?_⟩
  exact call_meets F.slot_tuple_mul ⟨_, hg, rfl⟩ F.entry_tuple_mul (F.args_tuple_mul_2 _ _)
    (tup_mul_one (a := a) (k := tk)) ⟨hg, .ref a, H, I, rfl, q⟩
def rRepAny (K : PySem.W.Frag) : R2 := fun x y H Q => rRepT K x y H Q ∨ rOnce K x y H Q
theorem k_rep (K : PySem.W.Frag) (h : X.K = K) : OpR X (binaryOp .Mult) (rRepAny K) := by subst h; exact op_repT.or op_once
end
end A1

namespace A1
open PySem L2 PySem.Spec PyProof.Rows
section
variable {K : PySem.W.Frag} {σ : L2.St} {H : Hp} {Q : VK} {D : Ends}
theorem rd_mk {c : List V → HO} {xs : List V} (z : xs.length ≤ sizeLine) (q : ∀ (p : Addr) (H' : Hp), H p = none → H' p = some (c xs) → Same H H' → Q (.ref p) H') : rNew c xs H Q :=
  ⟨z, fun p hp => q p _ hp upd_same (same_new hp)⟩
theorem eqV_int (a b : Int) : eqV (.int a) (.int b) = (a == b) := rfl
theorem flat_ints (ns : List Int) : (ns.map V.int).all flatV = true := by
  rw [List.all_map]
  exact List.all_eq_true.mpr fun _ _ => rfl
theorem rd_index {p : Addr} {ns : List Int} {v : Int} (h : SqL K H p (ns.map V.int)) (m : v ∈ ns) (q : Q (.int (idxI ns v)) H) : rIndex K (.ref p) [.int v] H Q := by
  have hj : ns.idxOf v < ns.length := List.idxOf_lt_length_of_mem m
  refine ⟨p, _, .int v, ns.idxOf v, .int v, rfl, rfl, h, rfl, flat_ints ns, ?_, by rw [eqV_int, beq_self_eq_true], fun k z' hk hz => ?_, q⟩
  · rw [List.getElem?_map, List.getElem?_eq_getElem hj, List.getElem_idxOf hj]; rfl
  · rw [List.getElem?_map] at hz
    have hk' : k < ns.length := Nat.lt_trans hk hj
    rw [List.getElem?_eq_getElem hk'] at hz
    cases hz
    rw [eqV_int]
    exact List.not_of_lt_findIdx (p := fun x => x == v) (xs := ns) hk
theorem erase_map {α β : Type} (f : α → β) : ∀ (l : List α) (k : Nat), (l.map f).eraseIdx k = (l.eraseIdx k).map f
  | [], _ => by simp
  | _ :: _, 0 => rfl
  | a :: r, k + 1 => congrArg (f a :: ·) (erase_map f r k)
theorem rd_popAt {l : Addr} {xs : List Int} {i : Int} (h : H l = some (.lst (xs.map V.int))) (h0 : 0 ≤ i) (h1 : i < xs.length) (h2 : xs.length ≤ 1000)
    (q : ∀ y, xs[i.toNat]? = some y → Q (.int y) (upd H l (.lst ((xs.eraseIdx i.toNat).map V.int)))) : rPopAt (.ref l) [.int i] H Q := by
  have hi : i.toNat < xs.length := by omega
  refine ⟨l, _, i, i.toNat, .int xs[i.toNat], rfl, rfl, h, by omega, by omega, ?_, ?_, ?_⟩
  · unfold seqIndex?
    rw [List.length_map]
    rw [if_neg (by omega : ¬ i < 0)]
    simp only [Bool.and_eq_true, decide_eq_true_eq]
    rw [if_pos ⟨h0, h1⟩]
  · rw [List.getElem?_map, List.getElem?_eq_getElem hi]; rfl
  · rw [erase_map]
    exact q _ (List.getElem?_eq_getElem hi)
theorem erase_perm : ∀ {l : List Int} {k : Nat} {y : Int}, l[k]? = some y → (y :: l.eraseIdx k).Perm l
  | [], _, _, h => by simp at h
  | a :: r, 0, y, h => by
    have e : a = y := Option.some.inj h
    subst e
    exact .refl _
  | a :: r, k + 1, y, h => by
    have ih := erase_perm (l := r) (k := k) (y := y) (by simpa using h)
    exact (List.Perm.swap a y _).trans (ih.cons a)
/-- a slice's parts -/
def rPart (R : Option Int → Hp → Prop) (x : V) (H : Hp) : Prop := ∃ i, x = .int i ∧ R (some i) H
theorem rd_sl {r : V → Option Int → Option Int → Hp → VK → Prop} {te : TE} {tl th : TO} (q : te σ H fun x H1 => tl σ H1 fun l H2 => th σ H2 fun u H3 => r x l u H3 Q) : tSl r te tl th σ H Q := q
theorem rd_po0 {R : Option Int → Hp → Prop} (q : R none H) : tNoPart σ H R := q
theorem rd_po1 {t : TE} {R : Option Int → Hp → Prop} (q : t σ H fun x H1 => rPart R x H1) : tPart t σ H R := q
theorem rd_poI {R : Option Int → Hp → Prop} {i : Int} (q : R (some i) H) : rPart R (.int i) H := ⟨i, rfl, q⟩
theorem rd_cut {a : Addr} {xs : List V} {lo hi : Option Int} (h : SqL K H a xs) (q : ∀ p, H p = none → Q (.ref p) (upd H p (.lst (cutV xs lo hi)))) : rSlL K (.ref a) lo hi H Q := ⟨a, xs, rfl, h, q⟩
theorem cut_from {xs : List V} (h : 1 ≤ xs.length) : cutV xs (some 1) none = xs.drop 1 := by
  have e1 : HT.sIx xs.length 0 (some 1) = 1 := by
    have := HT.sIx_nat xs.length 0 1
    rw [show ((1 : Nat) : Int) = 1 from rfl] at this
    rw [this]; omega
  unfold cutV
  rw [e1, HT.sIx_none]
  exact List.take_of_length_le (by rw [List.length_drop]; exact Nat.le_refl _)
theorem cut_to {xs : List V} (h : 1 ≤ xs.length) : cutV xs none (some 1) = xs.take 1 := by
  have e1 : HT.sIx xs.length xs.length (some 1) = 1 := by
    have := HT.sIx_nat xs.length xs.length 1
    rw [show ((1 : Nat) : Int) = 1 from rfl] at this
    rw [this]; omega
  unfold cutV
  rw [e1, HT.sIx_none]
  rfl
theorem atI_mem {xs : List V} {r : Int} (h0 : 0 ≤ r) (h1 : r < xs.length) : ∃ v, atI xs r = some v ∧ v ∈ xs := by
  obtain ⟨k, rfl⟩ : ∃ k : Nat, r = (k : Int) := ⟨r.toNat, by omega⟩
  have hk : k < xs.length := by omega
  exact ⟨xs[k], atI_nat (List.getElem?_eq_getElem hk), List.getElem_mem hk⟩
theorem sm_pick {r : Int} (h0 : 0 ≤ r) (h1 : r < 5) : Hs.modulo (r + 1) ∈ smalls ∧ Hs.capped (r + 1) ∈ smalls ∧ Hs.chain (r + 1) ∈ smalls ∧ ∃ z : Int, atI [V.int 6, V.int 4, V.int 8, V.int 5, V.int 12] r = some (.int z) ∧ Hs.divisors z ∈ smalls := by
  have : r = 0 ∨ r = 1 ∨ r = 2 ∨ r = 3 ∨ r = 4 := by omega
  rcases this with rfl | rfl | rfl | rfl | rfl
  · exact ⟨by decide, by decide, by decide, 6, rfl, by decide⟩
  · exact ⟨by decide, by decide, by decide, 4, rfl, by decide⟩
  · exact ⟨by decide, by decide, by decide, 8, rfl, by decide⟩
  · exact ⟨by decide, by decide, by decide, 5, rfl, by decide⟩
  · exact ⟨by decide, by decide, by decide, 12, rfl, by decide⟩
theorem rpa_ints : ∀ (ns : List Int), RpA K H (ns.map V.int) (ns.map TD.int)
  | [] => .nil
  | n :: r => .cons (.int n) (rpa_ints r)
theorem sqt_put {a b : Addr} {xs ys : List V} {o : HO} (h : H a = some (.lst ys)) (s : SqT K H b xs) : SqT K (upd H a o) b xs := by
  rcases s with (s | ⟨u, s⟩) | s
  · exact .inl (.inl (by rw [upd_ne (ne_of s h (fun z => by cases z))]; exact s))
  · exact .inl (.inr ⟨u, by rw [upd_ne (ne_of s h (fun z => by cases z))]; exact s⟩)
  · exact .inr s
theorem rp_put {a : Addr} {ys : List V} {o : HO} (h : H a = some (.lst ys)) {v : V} {t : TD} (r : Rp K H v t) : Rp K (upd H a o) v t := Rp.mono (fun _ _ => sqt_put h) t v r
theorem rpa_put {a : Addr} {ys : List V} {o : HO} (h : H a = some (.lst ys)) {v : List V} {t : List TD} (r : RpA K H v t) : RpA K (upd H a o) v t := RpA.mono (fun _ _ => sqt_put h) t v r
theorem small_oneT {h : Hs} (hh : h ∈ smalls) : h.oneT = .int h.oneI := by
  rcases small_is hh with ⟨n, rfl, _⟩ | ⟨n, rfl, _⟩ | ⟨n, rfl, _⟩ | ⟨n, rfl, _⟩ | rfl <;> rfl
theorem rd_cat {l b : Addr} {xs zs : List V} (h1 : H l = some (.lst xs)) (h2 : H b = some (.lst zs)) (z : xs.length + zs.length ≤ sizeLine) (q : ∀ (p : Addr) (H' : Hp), H p = none → H' p = some (.lst (xs ++ zs)) → Same H H' → Q (.ref p) H') : rCat (.ref l) (.ref b) H Q :=
  ⟨l, b, xs, zs, rfl, rfl, h1, h2, z, fun p hp => q p _ hp upd_same (same_new hp)⟩
theorem pick6 {r : Int} (h0 : 1 ≤ r) (h1 : r ≤ 6) : ∃ z : Int, atI [V.int 1, V.int 12, V.int 30, V.int 7, V.int 16, V.int 36] (r - 1) = some (.int z) ∧ 1 ≤ z := by
  have : r = 1 ∨ r = 2 ∨ r = 3 ∨ r = 4 ∨ r = 5 ∨ r = 6 := by omega
  rcases this with rfl | rfl | rfl | rfl | rfl | rfl
  · exact ⟨1, rfl, by decide⟩
  · exact ⟨12, rfl, by decide⟩
  · exact ⟨30, rfl, by decide⟩
  · exact ⟨7, rfl, by decide⟩
  · exact ⟨16, rfl, by decide⟩
  · exact ⟨36, rfl, by decide⟩
theorem pick40 (n r : Int) : ∃ z : Int, atI [V.int (1 + n.fmod 7), V.int 40] (if decide (V.int r = V.int 0) = true then 1 else 0) = some (.int z) ∧ 1 ≤ z ∧ z ≤ 40 := by
  rw [Int.fmod_eq_emod_of_nonneg _ (by decide)]
  have h0 := Int.emod_nonneg n (show (7 : Int) ≠ 0 by decide)
  have h1 := Int.emod_lt_of_pos n (show (0 : Int) < 7 by decide)
  by_cases e : V.int r = V.int 0
  · rw [decide_eq_true e, if_pos rfl]
    exact ⟨40, rfl, by decide, by decide⟩
  · rw [decide_eq_false e, if_neg Bool.false_ne_true]
    exact ⟨_, rfl, by omega, by omega⟩
theorem sc_of {d a : Addr} {ns : List Int} {H1 : Hp} (h : SqL K H a (ns.map V.int)) (hd : H d = none) (s : Same H H1) : Sc K H1 d a ns := fun H2 g => by
  rcases h with (h | ⟨o, h⟩) | h
  · exact .inl (.inl (g.kp _ _ (ne_of_none h hd) (s _ _ h)))
  · exact .inl (.inr ⟨o, g.kp _ _ (ne_of_none h hd) (s _ _ h)⟩)
  · exact .inr h
theorem sm_head : ∀ h ∈ smalls, ∃ z, h.wsI.head? = some z := by
  intro h hh
  have := (sm_len h hh).1
  cases e : h.wsI with
  | nil => rw [e] at this; exact absurd this (by decide)
  | cons a r => exact ⟨a, rfl⟩
end
end A1

namespace A1
open PySem L2 PySem.Spec PyProof.Rows
/-! ranges that are kept, unpacked tuples, starred items -/
def rRngV : List V → Hp → VK → Prop := fun vs H Q => ∃ j, vs = [.int j] ∧ ∀ p, H p = none → Q (.ref p) (upd H p (.rng 0 j))
def rRngW (R : It → Hp → Prop) (x : V) (H : Hp) : Prop := ∃ a lo hi, x = .ref a ∧ H a = some (.rng lo hi) ∧ (-(2 ^ 62) ≤ lo ∧ lo < 2 ^ 62 ∧ -(2 ^ 62) ≤ hi ∧ hi < 2 ^ 62) ∧ R (Itr lo (hi - lo).toNat) H
def iRngW (tl : TE) : TI := fun σ H R => tl σ H fun x H1 => rRngW R x H1
section
variable {X : Cx} {tg : Expr}
theorem c_range : CallR X (.type "range") rRngV := by
  rintro pins s σ H vs us Q I r ⟨j, rfl, q⟩
  obtain ⟨u, rfl, r1⟩ := vals1 r
  obtain ⟨t, rfl⟩ := r1
  refine call_range_1 ?_
  refine ⟨.ref s.heap.objs.size, upd H s.heap.objs.size (.rng 0 j), I.laid (t' := s.toks + 1 + 1) (fun b o e => Heap.get?_push_of_some _ e) (Nat.le_refl _) ?_, rfl, q _ (I.hok.fresh (Nat.le_refl _))⟩
  exact ⟨_, _, _, Heap.get?_push_size _ rfl⟩
theorem pi_rng {l : Expr} {tl : TE} (hl : PE X l tl) : PI X tg l (iRngW tl) := by
  refine ⟨fun pins s σ H R I h => ?_⟩
  refine thn (hl.run pins s σ H _ I h) fun v s1 ⟨x, H1, I1, r1, q1⟩ => ?_
  obtain ⟨a, lo, hi, rfl, ha, ⟨h1, h2, h3, h4⟩, q⟩ := q1
  cases r1
  obtain ⟨t, u, w, hg⟩ := (show ObjOk X.prog X.w H1 s1.heap a (.rng lo hi) from I1.hok a _ ha)
  refine wpAny_pyIter_range (t := t) (u := u) (v := w) (show IsRange _ _ _ _ _ _ _ _ from hg) (small_one h1 h2 h3 h4) ?_
  refine ⟨s1.heap.objs.size, [s1.heap.objs.size], _, _, H1, rfl, I1.kept (t' := s1.toks) fun b o e => Heap.get?_push_of_some _ e, turn_range _ lo (hi - lo).toNat, ?_, fun b hb => ?_, q⟩
  · have e1 : lo + ((0 : Nat) : Int) * 1 = lo := by simp
    have e2 : (((hi - lo).toNat : Nat) : Int) - ((0 : Nat) : Int) = Builtin.Range.rangeSize lo hi 1 := by rw [rangeSize_one]; split <;> omega
    show IsRangeIter _ _ (lo + ((0 : Nat) : Int) * 1) _ 1
    rw [e1, e2]
    exact Heap.get?_push_size _ rfl
  · have e : b = s1.heap.objs.size := by simpa using hb
    subst e
    exact I1.fpOk (Nat.le_refl _) (I1.hok.fresh (Nat.le_refl _))
end
section
variable {X : Cx} (K : PySem.W.Frag) (h : X.K = K)
include h
theorem k_pit {tg l : Expr} {tl : TE} (hl : PE X l tl) : PI X tg l (iTup K tl) := by subst h; exact pi_tup hl
theorem k_all (hc : X.calm = true) : CallR X (.builtin "all") (rAll K) := by subst h; exact cr_all hc
theorem k_slT : SlR X (rSlT K) := by subst h; exact sl_tup
theorem k_slA : SlR X (rSlA K) := by subst h; exact sl_tupA
theorem k_star {e : Expr} {es : List Expr} {te : TE} {t : TA} {p : Pos} (he : PE X e te) (hr : PA X es t) (hs : starEach (.Starred e p :: es) X.env = (true, eval e X.env) :: starEach es X.env := by rfl) : PA X (.Starred e p :: es) (StX.tStar K te t) := by
  subst h; exact StX.pa_star he hr hs
end
section
variable {K : PySem.W.Frag} {σ : L2.St} {H : Hp} {Q : VK} {D : Ends}
def rNotN : R2 := fun x y H Q => y = .non ∧ Q (.bl (!decide (x = .non))) H
theorem o_notN {X : Cx} : OpR X (compareOp .IsNot) rNotN := op_notN
theorem rd_notN {x : V} (q : Q (.bl (!decide (x = .non))) H) : rNotN x .non H Q := ⟨rfl, q⟩
theorem rd_chain {r r' : R2} {ta tb tc : TE} (q : ta σ H fun x H1 => tb σ H1 fun y H2 => r x y H2 fun z H3 => ∃ k, z = .bl k ∧ if k = true then (tc σ H3 fun w H4 => r' y w H4 Q) else Q (.bl false) H3) : tChain r r' ta tb tc σ H Q := q
def rStar (K : PySem.W.Frag) (R : List V → Hp → Prop) (t : TA) (σ : L2.St) (x : V) (H : Hp) : Prop := ∃ a xs, x = .ref a ∧ (SqT K H a xs ∨ SqL K H a xs) ∧ t σ H fun vs H2 => R (xs ++ vs) H2
theorem rd_star {te : TE} {t : TA} {R : List V → Hp → Prop} (q : te σ H fun x H1 => rStar K R t σ x H1) : StX.tStar K te t σ H R := q
theorem rd_starT {a : Addr} {xs : List V} {t : TA} {R : List V → Hp → Prop} (h : SqT K H a xs) (q : t σ H fun vs H2 => R (xs ++ vs) H2) : rStar K R t σ (.ref a) H := ⟨a, xs, rfl, .inl h, q⟩
theorem rd_rngv {j : Int} (q : ∀ (p : Addr) (H' : Hp), H p = none → H' p = some (.rng 0 j) → Same H H' → Q (.ref p) H') : rRngV [.int j] H Q := ⟨j, rfl, fun p hp => q p _ hp upd_same (same_new hp)⟩
theorem rd_irng {tl : TE} {R : It → Hp → Prop} (q : tl σ H fun x H1 => rRngW R x H1) : iRngW tl σ H R := q
theorem rd_rw {a : Addr} {j : Int} {R : It → Hp → Prop} (h : H a = some (.rng 0 j)) (hj : 0 ≤ j ∧ j < 1000000) (q : R (Itr 0 j.toNat) H) : rRngW R (.ref a) H :=
  ⟨a, 0, j, rfl, h, ⟨by omega, by omega, by omega, by omega⟩, by rw [Int.sub_zero]; exact q⟩
def rTw (K : PySem.W.Frag) (R : It → Hp → Prop) (x : V) (H : Hp) : Prop := ∃ a, x = .ref a ∧ (∃ xs, SqT K H a xs) ∧ R (Itt K a) H
theorem rd_itup {tl : TE} {R : It → Hp → Prop} (q : tl σ H fun x H1 => rTw K R x H1) : iTup K tl σ H R := q
theorem rd_it {a : Addr} {xs : List V} {R : It → Hp → Prop} (h : SqT K H a xs) (q : R (Itt K a) H) : rTw K R (.ref a) H := ⟨a, rfl, ⟨xs, h⟩, q⟩
theorem rd_gtup {a : Addr} {xs : List V} {n : Nat} {t : TGs} {R : L2.St → Hp → Prop} (h : SqT K H a xs) (e : xs.length = n) (q : t xs σ H R) : gTup K n t (.ref a) σ H R := ⟨a, xs, rfl, h, e, q⟩
theorem rd_gcons {v : V} {r : List V} {t : TG} {u : TGs} {R : L2.St → Hp → Prop} (q : t v σ H fun σ' H' => u r σ' H' R) : gCons t u (v :: r) σ H R := ⟨v, r, rfl, q⟩
theorem rd_gnil {R : L2.St → Hp → Prop} (q : R σ H) : gNil [] σ H R := ⟨rfl, q⟩
theorem rd_all {a : Addr} {bs : List Bool} (h : SqL K H a (bs.map V.bl)) (q : Q (.bl (bs.all id)) H) : rAll K [.ref a] H Q := ⟨a, bs, rfl, h, q⟩
def rSub (o i : TE) (t : TSet) (v : V) (σ : L2.St) (R : L2.St → Hp → Prop) (H : Hp) : Prop := o σ H fun x H1 => i σ H1 fun y H2 => t x y v H2 fun H3 => R σ H3
theorem rd_gsub {o i : TE} {t : TSet} {v : V} {R : L2.St → Hp → Prop} (q : o σ H fun x H1 => i σ H1 fun y H2 => t x y v H2 fun H3 => R σ H3) : gSub o i t v σ H R := q
theorem rd_setL {p : Addr} {xs : List V} {i : Int} {v : V} {R : Hp → Prop} (h : H p = some (.lst xs)) (h0 : 0 ≤ i) (h1 : i < xs.length) (q : R (upd H p (.lst (xs.set i.toNat v)))) : rSetL (.ref p) (.int i) v H R := by
  refine ⟨p, xs, i, i.toNat, rfl, rfl, h, ?_, q⟩
  unfold ixN
  rw [if_pos h0, if_pos h1]
theorem rd_listT {p : Addr} {ys : List V} (h : SqT K H p ys) (q : ∀ l, H l = none → Q (.ref l) (upd H l (.lst ys))) : rList K [.ref p] H Q := ⟨p, ys, rfl, .inr h, q⟩
/-- all but the first item of a table's tuple -/
theorem rd_tab {a : Addr} {z v1 v2 v3 : V} (hs : SqT K H a [z, v1, v2, v3]) (q : ∀ (c : Addr) (H' : Hp), H' c = some (.tup [v1, v2, v3]) → Same H H' → Q (.ref c) H') : rSlT K (.ref a) (some 1) none H Q := by
  refine ⟨a, _, rfl, hs, ?_, fun c hc => ?_⟩
  · show ¬ (HT.sIx 4 0 (some 1) = 0 ∧ HT.sIx 4 4 none = 4)
    decide
  · have e : cutV [z, v1, v2, v3] (some 1) none = [v1, v2, v3] := cut_from (xs := [z, v1, v2, v3]) (by show 1 ≤ 4; decide)
    rw [e]
    exact q c _ upd_same (same_new hc)
end
end A1

namespace A1
open PySem L2 PySem.Spec PyProof.Rows
/-! ## tables and their faults -/
def at2 (p : List (List Int)) (x y : Int) : Int := (p.getD x.toNat []).getD y.toNat 0
/-- the eight equations of a table -/
def eqn (o : Int) (p t : List (List Int)) : Nat → Int → Int → Int → Bool
  | 0, a, b, _ => decide (at2 p a b = at2 p b a)
  | 1, a, b, c => decide (at2 p (at2 p a b) c = at2 p a (at2 p b c))
  | 2, a, _, _ => decide (at2 p 0 a = a)
  | 3, a, b, _ => decide (at2 t a b = at2 t b a)
  | 4, a, b, c => decide (at2 t (at2 t a b) c = at2 t a (at2 t b c))
  | 5, a, _, _ => decide (at2 t o a = a)
  | 6, a, b, c => decide (at2 t a (at2 p b c) = at2 p (at2 t a b) (at2 t a c))
  | _, a, _, _ => decide (at2 t 0 a = 0)
def rowB (s : Nat) (r : List Int) : Bool := decide (r.length = s) && r.all fun z => decide (0 ≤ z ∧ z < (s : Int))
def sqB (p : List (List Int)) (s : Nat) : Bool := decide (p.length = s) && p.all (rowB s)
def formB (o : Int) (p t : List (List Int)) : Bool := decide (1 ≤ p.length ∧ p.length ≤ 6) && sqB p p.length && sqB t p.length && decide (0 ≤ o ∧ o < (p.length : Int))
def nums (n : Nat) : List Int := (List.range n).map Int.ofNat
theorem nums_succ (i : Nat) : nums (i + 1) = nums i ++ [(i : Int)] := by
  unfold nums
  rw [List.range_succ, List.map_append]; rfl
theorem nums_split {i n : Nat} (h : i < n) : ∃ r, nums n = nums i ++ (i : Int) :: r := by
  induction n with
  | zero => omega
  | succ n ih =>
    by_cases e : i = n
    · subst e
      exact ⟨[], by rw [nums_succ]⟩
    · obtain ⟨r, hr⟩ := ih (by omega)
      exact ⟨r ++ [(n : Int)], by rw [nums_succ, hr, List.append_assoc]; rfl⟩
theorem fs_app {α β : Type} (f : α → Option β) : ∀ (l m : List α), (l ++ m).findSome? f = match l.findSome? f with | some x => some x | none => m.findSome? f
  | [], m => rfl
  | a :: r, m => by
    rw [List.cons_append, List.findSome?_cons, List.findSome?_cons]
    cases f a with
    | some x => rfl
    | none => exact fs_app f r m
theorem fs_step {β : Type} {f : Int → Option β} {i : Nat} (h : (nums i).findSome? f = none) (h2 : f i = none) : (nums (i + 1)).findSome? f = none := by
  rw [nums_succ, fs_app, h, List.findSome?_cons, h2]; rfl
theorem fs_hit {β : Type} {f : Int → Option β} {i n : Nat} {x : β} (hi : i < n) (h : (nums i).findSome? f = none) (h2 : f i = some x) : (nums n).findSome? f = some x := by
  obtain ⟨r, hr⟩ := nums_split hi
  rw [hr, fs_app, h, List.findSome?_cons, h2]
abbrev T3 : Type := Int × Int × Int
def hit (P : Int → Int → Int → Bool) (a b c : Int) : Option T3 := if P a b c = true then none else some (a, b, c)
def in3 (n : Nat) (P : Int → Int → Int → Bool) (a b : Int) : Option T3 := (nums n).findSome? fun c => hit P a b c
def in2 (m n : Nat) (P : Int → Int → Int → Bool) (a : Int) : Option T3 := (nums m).findSome? fun b => in3 n P a b
/-- the first triple for which P does not hold -/
def fst3 (l m n : Nat) (P : Int → Int → Int → Bool) : Option T3 := (nums l).findSome? fun a => in2 m n P a
theorem nums_pos {n : Nat} (h : 1 ≤ n) : ∃ r, nums n = 0 :: r := by
  obtain ⟨r, hr⟩ := nums_split (i := 0) (n := n) h
  exact ⟨r, hr⟩
theorem fs_none {β : Type} (l : List Int) : l.findSome? (fun _ => (none : Option β)) = none := by
  induction l with
  | nil => rfl
  | cons a r ih => rw [List.findSome?_cons]; exact ih
theorem in3_one {n : Nat} (h : 1 ≤ n) {P : Int → Int → Int → Bool} (hP : ∀ a b c, P a b c = P a b 0) (a b : Int) : in3 n P a b = in3 1 P a b := by
  obtain ⟨r, hr⟩ := nums_pos h
  unfold in3
  rw [hr, show nums 1 = [0] from rfl, List.findSome?_cons, List.findSome?_cons]
  unfold hit
  by_cases e : P a b 0 = true
  · rw [if_pos e]
    show r.findSome? _ = none
    have : (fun c => if P a b c = true then none else some (a, b, c)) = fun _ => (none : Option T3) := by
      funext c; rw [hP, if_pos e]
    rw [this, fs_none]
  · rw [if_neg e]
theorem in2_one {m n : Nat} (h : 1 ≤ m) {P : Int → Int → Int → Bool} (hP : ∀ a b c, P a b c = P a 0 c) (hP2 : ∀ a b c, P a b c = P a b 0) (hn : 1 ≤ n) (a : Int) : in2 m n P a = in2 1 1 P a := by
  unfold in2
  obtain ⟨r, hr⟩ := nums_pos h
  rw [show (fun b => in3 n P a b) = fun b => in3 1 P a b from funext fun b => in3_one hn hP2 a b]
  rw [hr, show nums 1 = [0] from rfl, List.findSome?_cons, List.findSome?_cons]
  have e0 : in3 1 P a 0 = hit P a 0 0 := by
    unfold in3
    rw [show nums 1 = [0] from rfl, List.findSome?_cons]
    cases hit P a 0 0 <;> rfl
  rw [e0]
  unfold hit
  by_cases e : P a 0 0 = true
  · rw [if_pos e]
    show r.findSome? _ = none
    have : (fun b => in3 1 P a b) = fun _ => (none : Option T3) := by
      funext b
      unfold in3
      rw [show nums 1 = [0] from rfl, List.findSome?_cons]
      unfold hit
      rw [hP, if_pos e]; rfl
    rw [this, fs_none]
  · rw [if_neg e]
/-- how many worths stand in an equation -/
def many : Nat → Nat
  | 0 | 3 => 2
  | 1 | 4 | 6 => 3
  | _ => 1
def fstOf (o : Int) (p t : List (List Int)) (k : Nat) : Option T3 := fst3 p.length p.length p.length (eqn o p t k)
/-- the law asks fewer triples -/
def fstLaw (o : Int) (p t : List (List Int)) (k : Nat) : Option T3 := fst3 p.length (if many k > 1 then p.length else 1) (if many k > 2 then p.length else 1) (eqn o p t k)
theorem fst_same {o : Int} {p t : List (List Int)} (hp : 1 ≤ p.length) (k : Nat) : fstOf o p t k = fstLaw o p t k := by
  unfold fstOf fstLaw fst3
  have one : many k = 1 → (∀ a b c, eqn o p t k a b c = eqn o p t k a 0 c) ∧ ∀ a b c, eqn o p t k a b c = eqn o p t k a b 0 := by
    intro h
    match k, h with
    | 2, _ => exact ⟨fun _ _ _ => rfl, fun _ _ _ => rfl⟩
    | 5, _ => exact ⟨fun _ _ _ => rfl, fun _ _ _ => rfl⟩
    | k + 7, _ => exact ⟨fun _ _ _ => rfl, fun _ _ _ => rfl⟩
    | 0, h => exact absurd h (by decide)
    | 1, h => exact absurd h (by decide)
    | 3, h => exact absurd h (by decide)
    | 4, h => exact absurd h (by decide)
    | 6, h => exact absurd h (by decide)
  have two : many k = 2 → ∀ a b c, eqn o p t k a b c = eqn o p t k a b 0 := by
    intro h
    match k, h with
    | 0, _ => exact fun _ _ _ => rfl
    | 3, _ => exact fun _ _ _ => rfl
    | 1, h => exact absurd h (by decide)
    | 2, h => exact absurd h (by decide)
    | 4, h => exact absurd h (by decide)
    | 5, h => exact absurd h (by decide)
    | 6, h => exact absurd h (by decide)
    | k + 7, h => exact absurd h (by simp [many])
  have cs : many k = 1 ∨ many k = 2 ∨ many k = 3 := by
    match k with
    | 0 => exact .inr (.inl rfl)
    | 1 => exact .inr (.inr rfl)
    | 2 => exact .inl rfl
    | 3 => exact .inr (.inl rfl)
    | 4 => exact .inr (.inr rfl)
    | 5 => exact .inl rfl
    | 6 => exact .inr (.inr rfl)
    | k + 7 => exact .inl rfl
  rcases cs with h | h | h
  · rw [h]
    congr 1
    funext a
    exact in2_one hp (one h).1 (one h).2 hp a
  · rw [h]
    have e1 : (if 2 > 1 then p.length else 1) = p.length := if_pos (by decide)
    have e2 : (if 2 > 2 then p.length else 1) = 1 := if_neg (by decide)
    rw [e1, e2]
    congr 1
    funext a
    unfold in2
    congr 1
    funext b
    exact in3_one hp (two h) a b
  · rw [h]
    congr 1
/-- the names of the equations -/
def nmS : Nat → Str
  | 0 => "plus turns"
  | 1 => "plus joins"
  | 2 => "zero adds"
  | 3 => "times turns"
  | 4 => "times joins"
  | 5 => "one keeps"
  | 6 => "spreads"
  | _ => "zero kills"
def fltT (k : Nat) (x : T3) : TD := .tup [.str (nmS k), .int x.1, .int x.2.1, .int x.2.2]
/-- the fault of a table, as data -/
def faultT (o : Int) (p t : List (List Int)) : TD :=
  if formB o p t = true then (match (List.range 8).findSome? fun k => (fstOf o p t k).map (fltT k) with | none => .non | some d => d) else .tup [.str "form"]
theorem fsr_step {β : Type} {f : Nat → Option β} {i : Nat} (h : (List.range i).findSome? f = none) (h2 : f i = none) : (List.range (i + 1)).findSome? f = none := by
  rw [List.range_succ, fs_app, h, List.findSome?_cons, h2]; rfl
theorem range_split {i n : Nat} (h : i < n) : ∃ r, List.range n = List.range i ++ i :: r := by
  induction n with
  | zero => omega
  | succ n ih =>
    by_cases e : i = n
    · subst e
      exact ⟨[], by rw [List.range_succ]⟩
    · obtain ⟨r, hr⟩ := ih (by omega)
      exact ⟨r ++ [n], by rw [List.range_succ, hr, List.append_assoc]; rfl⟩
theorem fsr_hit {β : Type} {f : Nat → Option β} {i n : Nat} {x : β} (hi : i < n) (h : (List.range i).findSome? f = none) (h2 : f i = some x) : (List.range n).findSome? f = some x := by
  obtain ⟨r, hr⟩ := range_split hi
  rw [hr, fs_app, h, List.findSome?_cons, h2]
/-! ### a table as it stands -/
section
variable {K : PySem.W.Frag} {H H' : Hp} {v : V} {p : List (List Int)} {Q : VK}
theorem rpa_rows : ∀ {p : List (List Int)} {xs : List V}, RpA K H xs (p.map fun r => TD.tup (r.map TD.int)) → ∀ (i : Nat) (r : List Int), p[i]? = some r → ∃ b, xs[i]? = some (.ref b) ∧ SqT K H b (r.map V.int)
  | [], _, _, _, _, h => by simp at h
  | r :: p, _, ra, 0, r', h => by
    cases ra with
    | cons r1 r2 =>
      have e : r = r' := Option.some.inj h
      subst e
      cases r1 with
      | tup s a =>
        refine ⟨_, rfl, ?_⟩
        have : ∀ {ys : List V} {ns : List Int}, RpA K H ys (ns.map TD.int) → ys = ns.map V.int := by
          intro ys ns
          induction ns generalizing ys with
          | nil => intro q; cases q; rfl
          | cons n ns ih => intro q; cases q with | cons q1 q2 => cases q1; rw [ih q2]; rfl
        rw [← this a]; exact s
  | r :: p, _, ra, i + 1, r', h => by
    cases ra with
    | cons r1 r2 =>
      obtain ⟨b, h1, h2⟩ := rpa_rows r2 i r' (by simpa using h)
      exact ⟨b, by simpa using h1, h2⟩
theorem Rp.rows (r : Rp K H v (rowsT p)) : ∃ a xs, v = .ref a ∧ SqT K H a xs ∧ xs.length = p.length ∧ ∀ (i : Nat) (r : List Int), p[i]? = some r → ∃ b, xs[i]? = some (.ref b) ∧ SqT K H b (r.map V.int) := by
  cases r with
  | tup s ra => exact ⟨_, _, rfl, s, by rw [ra.length, List.length_map], rpa_rows ra⟩
/-- an index of the table -/
def InS (s : Nat) (x : Int) : Prop := 0 ≤ x ∧ x < s
structure Tab (K : PySem.W.Frag) (H : Hp) (v : V) (p : List (List Int)) (s : Nat) : Prop where
  rp : Rp K H v (rowsT p)
  sq : sqB p s = true
def RowOf (K : PySem.W.Frag) (H : Hp) (b : Addr) (p : List (List Int)) (s : Nat) (x : Int) : Prop := SqT K H b ((p.getD x.toNat []).map V.int) ∧ (p.getD x.toNat []).length = s
theorem sq_row {s : Nat} (h : sqB p s = true) {x : Int} (hx : InS s x) : p[x.toNat]? = some (p.getD x.toNat []) ∧ (p.getD x.toNat []).length = s ∧ ∀ z ∈ p.getD x.toNat [], InS s z := by
  unfold sqB at h
  rw [Bool.and_eq_true, decide_eq_true_eq, List.all_eq_true] at h
  obtain ⟨x0, x1⟩ := hx
  have hl : x.toNat < p.length := by omega
  have e : p[x.toNat]? = some (p.getD x.toNat []) := by rw [List.getElem?_eq_getElem hl, List.getD_eq_getElem?_getD, List.getElem?_eq_getElem hl]; rfl
  have m := h.2 _ (List.mem_of_getElem? e)
  unfold rowB at m
  rw [Bool.and_eq_true, decide_eq_true_eq, List.all_eq_true] at m
  exact ⟨e, m.1, fun z hz => of_decide_eq_true (p := 0 ≤ z ∧ z < (s : Int)) (m.2 z hz)⟩
theorem Tab.rng {s : Nat} (T : Tab K H v p s) {x y : Int} (hx : InS s x) (hy : InS s y) : InS s (at2 p x y) := by
  obtain ⟨_, l, m⟩ := sq_row T.sq hx
  obtain ⟨y0, y1⟩ := hy
  have hl : y.toNat < (p.getD x.toNat []).length := by omega
  unfold at2
  rw [List.getD_eq_getElem?_getD, List.getElem?_eq_getElem hl]
  exact m _ (List.getElem_mem hl)
theorem rd_row {s : Nat} (T : Tab K H v p s) {x : Int} (hx : InS s x) (q : ∀ b, RowOf K H b p s x → Q (.ref b) H) : rIxT K v (.int x) H Q := by
  obtain ⟨e, l, _⟩ := sq_row T.sq hx
  obtain ⟨a, xs, rfl, hs, hl, hr⟩ := T.rp.rows
  obtain ⟨b, hb, sb⟩ := hr _ _ e
  refine rd_ixT hs ?_ (q b ⟨sb, l⟩)
  obtain ⟨x0, x1⟩ := hx
  have ex : x = ((x.toNat : Nat) : Int) := by omega
  rw [ex]
  exact atI_nat hb
theorem rd_item {s : Nat} {b : Addr} {x y : Int} (R : RowOf K H b p s x) (hy : InS s y) (q : Q (.int (at2 p x y)) H) : rIxT K (.ref b) (.int y) H Q := by
  obtain ⟨sb, l⟩ := R
  obtain ⟨y0, y1⟩ := hy
  exact rd_ixT sb (at_ints y0 (by omega)) q
theorem Tab.mono {s : Nat} (T : Tab K H v p s) (h : Same H H') : Tab K H' v p s := ⟨same_rp h T.rp, T.sq⟩
end
end A1
namespace A1
open PySem L2 PySem.Spec PyProof.Rows
theorem dec_len {a b : Nat} : decide (V.int (a : Int) = V.int (b : Int)) = decide (a = b) := by
  by_cases h : a = b
  · subst h; simp
  · have : ¬ V.int (a : Int) = V.int (b : Int) := fun e => h (by have := V.int.inj e; omega)
    rw [decide_eq_false this, decide_eq_false h]
/-- 0 <= z < s, as it is asked -/
def inB (s : Nat) (z : Int) : Bool := decide (0 ≤ z ∧ z < (s : Int))
theorem rowB_eq (s : Nat) (r : List Int) : rowB s r = (decide (r.length = s) && (r.map (inB s)).all id) := by
  unfold rowB
  rw [List.all_map]
  rfl
theorem sqB_eq (p : List (List Int)) (s : Nat) : sqB p s = (decide (p.length = s) && (p.map (rowB s)).all id) := by
  unfold sqB
  rw [List.all_map]
  rfl
/-- a small table -/
def Few (p : List (List Int)) : Prop := p.length ≤ 100 ∧ ∀ r ∈ p, r.length ≤ 100
section
variable {K : PySem.W.Frag} {H : Hp} {Q : VK} {σ : L2.St}
theorem blist {α : Type} {l : List α} (f : α → Bool) {i : Nat} {z : α} (h : l[i]? = some z) : ((l.take i).map f).map V.bl ++ [V.bl (f z)] = ((l.take (i + 1)).map f).map V.bl := by
  rw [take_snoc h, List.map_append, List.map_append]; rfl
end
end A1
namespace A1
open PySem L2 PySem.Spec PyProof.Rows
theorem decI (x y : Int) : decide (V.int x = V.int y) = decide (x = y) := by
  by_cases h : x = y
  · subst h; simp
  · rw [decide_eq_false h, decide_eq_false fun e => h (V.int.inj e)]
theorem form_of {o : Int} {p t : List (List Int)} (h : formB o p t = true) : 1 ≤ p.length ∧ p.length ≤ 6 ∧ sqB p p.length = true ∧ sqB t p.length = true ∧ InS p.length o := by
  unfold formB at h
  simp only [Bool.and_eq_true, decide_eq_true_eq] at h
  exact ⟨h.1.1.1.1, h.1.1.1.2, h.1.1.2, h.1.2, h.2⟩
end A1

namespace A1
open PySem L2 PySem.Spec PyProof.Rows
theorem inV_no (bs : List Bool) : inV (.bl false) (bs.map V.bl) = !(bs.all id) := by
  unfold inV
  induction bs with
  | nil => rfl
  | cons b r ih =>
    rw [List.map_cons, List.any_cons, ih, List.all_cons]
    cases b <;> rfl
theorem flat_bl (bs : List Bool) : (bs.map V.bl).all flatV = true := by
  rw [List.all_map]
  exact List.all_eq_true.mpr fun _ _ => rfl
def eqNames : List V := [.str "plus turns", .str "plus joins", .str "zero adds", .str "times turns", .str "times joins", .str "one keeps", .str "spreads", .str "zero kills"]
theorem nm_at {i : Nat} (h : i < 8) : atI eqNames (i : Int) = some (.str (nmS i)) := by
  have : i = 0 ∨ i = 1 ∨ i = 2 ∨ i = 3 ∨ i = 4 ∨ i = 5 ∨ i = 6 ∨ i = 7 := by omega
  rcases this with rfl | rfl | rfl | rfl | rfl | rfl | rfl | rfl <;> rfl
theorem many_at {i : Nat} (h : i < 8) : atI [V.int 2, V.int 3, V.int 1, V.int 2, V.int 3, V.int 1, V.int 3, V.int 1] (i : Int) = some (.int (many i : Nat)) := by
  have : i = 0 ∨ i = 1 ∨ i = 2 ∨ i = 3 ∨ i = 4 ∨ i = 5 ∨ i = 6 ∨ i = 7 := by omega
  rcases this with rfl | rfl | rfl | rfl | rfl | rfl | rfl | rfl <;> rfl
/-- so many turns -/
theorem turns_eq {n m x : Nat} (hn : 1 ≤ n) : (if (n : Int) * (if decide ((x : Int) < (m : Int)) = true then 1 else 0) > 1 then (n : Int) * (if decide ((x : Int) < (m : Int)) = true then 1 else 0) else 1) = (((if m > x then n else 1) : Nat) : Int) := by
  by_cases h : m > x
  · have e : (x : Int) < (m : Int) := by omega
    rw [decide_eq_true e, if_pos rfl, if_pos h, Int.mul_one]
    split <;> omega
  · have e : ¬ (x : Int) < (m : Int) := by omega
    rw [decide_eq_false e, if_neg Bool.false_ne_true, if_neg h, Int.mul_zero]
    rfl
theorem turns_1 {n m : Nat} (hn : 1 ≤ n) : (if (n : Int) * (if decide ((1 : Int) < (m : Int)) = true then 1 else 0) > 1 then (n : Int) * (if decide ((1 : Int) < (m : Int)) = true then 1 else 0) else 1) = (((if m > 1 then n else 1) : Nat) : Int) := turns_eq (x := 1) hn
theorem turns_2 {n m : Nat} (hn : 1 ≤ n) : (if (n : Int) * (if decide ((2 : Int) < (m : Int)) = true then 1 else 0) > 1 then (n : Int) * (if decide ((2 : Int) < (m : Int)) = true then 1 else 0) else 1) = (((if m > 2 then n else 1) : Nat) : Int) := turns_eq (x := 2) hn
/-- a list of lists of ints, each s long, all made behind H0 -/
def Grid (H0 H : Hp) (b : Addr) (s : Nat) : Prop := H0 b = none ∧ ∃ as : List Addr, H b = some (.lst (as.map V.ref)) ∧ as.length = s ∧ ∀ a ∈ as, H0 a = none ∧ ∃ r : List Int, H a = some (.lst (r.map V.int)) ∧ r.length = s
/-- .. or not much more -/
def GridW (H0 H : Hp) (b : Addr) (s : Nat) : Prop := H0 b = none ∧ ∃ as : List Addr, H b = some (.lst (as.map V.ref)) ∧ as.length ≤ s + 1 ∧ ∀ a ∈ as, H0 a = none ∧ ∃ r : List Int, H a = some (.lst (r.map V.int)) ∧ r.length ≤ s + 1
theorem Grid.weak {H0 H : Hp} {b : Addr} {s : Nat} (g : Grid H0 H b s) : GridW H0 H b s := by
  obtain ⟨h0, as, h1, h2, h3⟩ := g
  refine ⟨h0, as, h1, by omega, fun a ha => ?_⟩
  obtain ⟨q0, r, q1, q2⟩ := h3 a ha
  exact ⟨q0, r, q1, by omega⟩
theorem refs_ints {as : List Addr} {r : List Int} (h : as.map V.ref = r.map V.int) : as = [] := by
  cases as with
  | nil => rfl
  | cons a as => cases r with
    | nil => cases h
    | cons n r => cases h
/-- a row is written -/
theorem Grid.put {H0 H : Hp} {b c : Addr} {s : Nat} {r' : List Int} {r0 : List Int} (hs : 1 ≤ s) (g : Grid H0 H b s) (hc : H c = some (.lst (r0.map V.int))) (hl : r'.length = s) : Grid H0 (upd H c (.lst (r'.map V.int))) b s := by
  obtain ⟨h0, as, h1, h2, h3⟩ := g
  have nbc : b ≠ c := fun e => by
    rw [e, hc] at h1
    have : as = [] := refs_ints (r := r0) (by injection h1 with h1; injection h1 with h1; exact h1.symm)
    subst this
    simp at h2; omega
  refine ⟨h0, as, by rw [upd_ne nbc]; exact h1, h2, fun a ha => ?_⟩
  obtain ⟨q0, r, q1, q2⟩ := h3 a ha
  by_cases e : a = c
  · subst e; exact ⟨q0, r', upd_same, hl⟩
  · exact ⟨q0, r, by rw [upd_ne e]; exact q1, q2⟩
theorem GridW.put {H0 H : Hp} {b c : Addr} {s : Nat} {r' : List Int} {r0 : List Int} (hs : 1 ≤ s) (g : Grid H0 H b s) (hc : H c = some (.lst (r0.map V.int))) (hl : r'.length ≤ s + 1) : GridW H0 (upd H c (.lst (r'.map V.int))) b s := by
  obtain ⟨h0, as, h1, h2, h3⟩ := g
  have nbc : b ≠ c := fun e => by
    rw [e, hc] at h1
    have : as = [] := refs_ints (r := r0) (by injection h1 with h1; injection h1 with h1; exact h1.symm)
    subst this
    simp at h2; omega
  refine ⟨h0, as, by rw [upd_ne nbc]; exact h1, by omega, fun a ha => ?_⟩
  obtain ⟨q0, r, q1, q2⟩ := h3 a ha
  by_cases e : a = c
  · subst e; exact ⟨q0, r', upd_same, hl⟩
  · exact ⟨q0, r, by rw [upd_ne e]; exact q1, by omega⟩
theorem Grid.row {H0 H : Hp} {b : Addr} {s : Nat} (g : Grid H0 H b s) {x : Int} (hx : InS s x) : ∃ (as : List Addr) (c : Addr) (r : List Int), H b = some (.lst (as.map V.ref)) ∧ atI (as.map V.ref) x = some (.ref c) ∧ H0 c = none ∧ H c = some (.lst (r.map V.int)) ∧ r.length = s := by
  obtain ⟨h0, as, h1, h2, h3⟩ := g
  obtain ⟨x0, x1⟩ := hx
  have hl : x.toNat < as.length := by omega
  obtain ⟨q0, r, q1, q2⟩ := h3 as[x.toNat] (List.getElem_mem hl)
  refine ⟨as, as[x.toNat], r, h1, ?_, q0, q1, q2⟩
  have ex : x = ((x.toNat : Nat) : Int) := by omega
  have : atI (as.map V.ref) ((x.toNat : Nat) : Int) = some (.ref as[x.toNat]) := atI_nat (by rw [List.getElem?_map, List.getElem?_eq_getElem hl]; rfl)
  rw [← ex] at this
  exact this
theorem Grid.dr {H0 H H' : Hp} {b d : Addr} {s : Nat} (g : Grid H0 H b s) (hd : DrAt d H0) (q : Dr d H H') : Grid H0 H' b s := by
  obtain ⟨h0, as, h1, h2, h3⟩ := g
  have nd : ∀ a, H0 a = none → a ≠ d := fun a n e => by
    obtain ⟨_, w⟩ := hd
    rw [← e, n] at w; cases w
  refine ⟨h0, as, q.kp _ _ (nd b h0) h1, h2, fun a ha => ?_⟩
  obtain ⟨q0, r, q1, q2⟩ := h3 a ha
  exact ⟨q0, r, q.kp _ _ (nd a q0) q1, q2⟩
theorem Grid.same {H0 H H' : Hp} {b : Addr} {s : Nat} (g : Grid H0 H b s) (q : Same H H') : Grid H0 H' b s := by
  obtain ⟨h0, as, h1, h2, h3⟩ := g
  refine ⟨h0, as, q _ _ h1, h2, fun a ha => ?_⟩
  obtain ⟨q0, r, q1, q2⟩ := h3 a ha
  exact ⟨q0, r, q _ _ q1, q2⟩
theorem GridW.dr {H0 H H' : Hp} {b d : Addr} {s : Nat} (g : GridW H0 H b s) (hd : DrAt d H0) (q : Dr d H H') : GridW H0 H' b s := by
  obtain ⟨h0, as, h1, h2, h3⟩ := g
  have nd : ∀ a, H0 a = none → a ≠ d := fun a n e => by
    obtain ⟨_, w⟩ := hd
    rw [← e, n] at w; cases w
  refine ⟨h0, as, q.kp _ _ (nd b h0) h1, h2, fun a ha => ?_⟩
  obtain ⟨q0, r, q1, q2⟩ := h3 a ha
  exact ⟨q0, r, q.kp _ _ (nd a q0) q1, q2⟩
theorem GridW.same {H0 H H' : Hp} {b : Addr} {s : Nat} (g : GridW H0 H b s) (q : Same H H') : GridW H0 H' b s := by
  obtain ⟨h0, as, h1, h2, h3⟩ := g
  refine ⟨h0, as, q _ _ h1, h2, fun a ha => ?_⟩
  obtain ⟨q0, r, q1, q2⟩ := h3 a ha
  exact ⟨q0, r, q _ _ q1, q2⟩
/-- square, s by s -/
def SqN (p : List (List Int)) (s : Nat) : Prop := p.length = s ∧ ∀ r ∈ p, r.length = s
theorem TOk.square {o : Int} {p t : List (List Int)} (h : TOk o p t) : ∃ s, 1 ≤ s ∧ s ≤ 6 ∧ SqN p s ∧ SqN t s ∧ InS s o := by
  obtain ⟨h, ns, hs, pm, _, ho, rfl, rfl⟩ := h
  have hl := pm.length_eq
  have h2 := sm_len h hs
  refine ⟨ns.length, by omega, by omega, ⟨by rw [List.length_map], fun r hr => ?_⟩, ⟨by rw [List.length_map], fun r hr => ?_⟩, ?_⟩
  · obtain ⟨a, _, rfl⟩ := List.mem_map.mp hr
    rw [List.length_map]
  · obtain ⟨a, _, rfl⟩ := List.mem_map.mp hr
    rw [List.length_map]
  · subst ho
    have := List.idxOf_lt_length_of_mem (pm.mem_iff.mpr (sm_one h hs))
    unfold idxI
    exact ⟨by omega, by omega⟩
theorem SqN.few {p : List (List Int)} {s : Nat} (h : SqN p s) (hs : s ≤ 7) : Few p := ⟨by rw [h.1]; omega, fun r hr => by rw [h.2 r hr]; omega⟩
section
variable {K : PySem.W.Frag} {H : Hp} {Q : VK}
theorem rpa_take : ∀ {ts : List TD} {vs : List V} (n : Nat), RpA K H vs ts → RpA K H (vs.take n) (ts.take n)
  | [], _, n, r => by cases r; cases n <;> exact .nil
  | _ :: _, _, 0, _ => .nil
  | t :: ts, _, n + 1, r => by
    cases r with
    | cons a b => exact .cons a (rpa_take n b)
theorem cut_upto {xs : List V} {k : Nat} : cutV xs none (some (k : Int)) = xs.take k := by
  unfold cutV
  rw [HT.sIx_none, HT.sIx_nat]
  show (xs.drop 0).take (min k xs.length - 0) = xs.take k
  rw [List.drop_zero, Nat.sub_zero]
  rcases Nat.le_total k xs.length with h | h
  · rw [Nat.min_eq_left h]
  · rw [Nat.min_eq_right h, List.take_of_length_le (Nat.le_refl _), List.take_of_length_le h]
/-- the first rows of a table -/
theorem rd_upto {v : V} {p : List (List Int)} {k : Nat} (r : Rp K H v (rowsT p)) (q : ∀ u H', Same H H' → Rp K H' u (rowsT (p.take k)) → Q u H') : rSlA K v none (some (k : Int)) H Q := by
  cases r with
  | @tup a xs _ s ra =>
    refine ⟨a, xs, rfl, s, fun w => ?_, fun _ c hc => ?_⟩
    · have hl : xs.length ≤ k := by
        have := w.2
        rw [HT.sIx_nat] at this
        omega
      have e : p.take k = p := List.take_of_length_le (by rw [ra.length, List.length_map] at hl; exact hl)
      refine q _ _ (.refl _) ?_
      rw [e]
      exact .tup s ra
    · rw [cut_upto]
      refine q _ _ (same_new hc) ?_
      refine .tup (SqT.of upd_same) ?_
      rw [List.map_take]
      exact same_rpa (same_new hc) (rpa_take k ra)
end
end A1

namespace A1
open PySem L2 PySem.Spec PyProof.Rows
/-! ## kinds -/
def five : List Str := ["all", "once", "sets", "prices", "yes"]
def tabOnce (p : List (List Int)) : Bool := (nums p.length).all fun a => decide (at2 p a a = a)
def tabSq (p t : List (List Int)) : Bool := (nums p.length).all fun a => decide (at2 t a a = a)
def tabTop (o : Int) (p : List (List Int)) : Bool := (nums p.length).all fun a => decide (at2 p o a = o)
def kindsB (once sq top : Bool) : List Str := [("all" : Str)] ++ (if once = true then [("once" : Str)] else []) ++ (if (once && sq) = true then [("sets" : Str)] else []) ++ (if top = true then [("prices" : Str)] else []) ++ (if (top && sq) = true then [("yes" : Str)] else [])
def Hs.kinds : Hs → List Str
  | .counts | .formulas => ["all"]
  | .yes | .chain _ | .divisors _ => five
  | .capped n | .modulo n => if n = 1 then five else ["all"]
  | .least | .prices _ => ["all", "once", "prices"]
  | .sums => ["all", "once"]
  | .families => ["all", "once", "sets"]
  | .table o p t => kindsB (tabOnce p) (tabSq p t) (tabTop o p)
  | .pair h k => h.kinds.filter fun z => decide (z ∈ k.kinds)
def strsT (l : List Str) : TD := .tup (l.map .str)
theorem kindsB_len (a b c : Bool) : (kindsB a b c).length ≤ 5 := by cases a <;> cases b <;> cases c <;> decide
theorem kinds_len : ∀ h : Hs, h.kinds.length ≤ 5
  | .counts | .formulas | .yes | .chain _ | .divisors _ | .least | .prices _ | .sums | .families => by simp [Hs.kinds, five]
  | .capped n => by show (if n = 1 then five else ["all"]).length ≤ 5; split <;> decide
  | .modulo n => by show (if n = 1 then five else ["all"]).length ≤ 5; split <;> decide
  | .table o p t => kindsB_len _ _ _
  | .pair h k => Nat.le_trans (List.length_filter_le _ _) (kinds_len h)
theorem strs_fit (l : List Str) (h : l.length ≤ 5) : (strsT l).fit 2 := ⟨by rw [List.length_map]; omega, fun d hd => by
  obtain ⟨z, _, rfl⟩ := List.mem_map.mp hd
  trivial⟩
/-- the tables of a house have their form -/
def Hs.formed : Hs → Prop
  | .table o p t => formB o p t = true
  | .pair h k => h.formed ∧ k.formed
  | _ => True
theorem idx_in {ns : List Int} {z : Int} (h : z ∈ ns) : 0 ≤ idxI ns z ∧ idxI ns z < (ns.length : Int) := by
  have := List.idxOf_lt_length_of_mem h
  unfold idxI
  omega
theorem TOk.formed {o : Int} {p t : List (List Int)} (h : TOk o p t) : formB o p t = true := by
  obtain ⟨h, ns, hs, pm, _, ho, rfl, rfl⟩ := h
  have hl := pm.length_eq
  have h2 := sm_len h hs
  have sq : ∀ g : Int → Int → Int, (∀ a ∈ h.wsI, ∀ b ∈ h.wsI, g a b ∈ h.wsI) → sqB (ns.map fun a => ns.map fun b => idxI ns (g a b)) ns.length = true := by
    intro g hg
    unfold sqB
    rw [List.length_map, decide_eq_true rfl, Bool.true_and, List.all_eq_true]
    intro r hr
    obtain ⟨a, ha, rfl⟩ := List.mem_map.mp hr
    unfold rowB
    rw [List.length_map, decide_eq_true rfl, Bool.true_and, List.all_eq_true]
    intro z hz
    obtain ⟨b, hb, rfl⟩ := List.mem_map.mp hz
    exact decide_eq_true (idx_in (pm.mem_iff.mpr (hg a (pm.mem_iff.mp ha) b (pm.mem_iff.mp hb))))
  unfold formB
  rw [List.length_map, sq _ (sm_plus h hs), sq _ (sm_times h hs), decide_eq_true (show 1 ≤ ns.length ∧ ns.length ≤ 6 by omega), ho, decide_eq_true (idx_in (pm.mem_iff.mpr (sm_one h hs)))]
  rfl
theorem ok_formed : ∀ h : Hs, h.ok → h.formed
  | .table _ _ _, h => h.formed
  | .pair h k, q => ⟨ok_formed h q.1, ok_formed k q.2⟩
  | .counts, _ | .formulas, _ | .yes, _ | .chain _, _ | .divisors _, _ | .least, _ | .prices _, _ | .sums, _ | .families, _ | .capped _, _ | .modulo _, _ => trivial
theorem strs_inV (z : Str) (l : List Str) : inV (.str z) (l.map V.str) = decide (z ∈ l) := by
  unfold inV
  induction l with
  | nil => rfl
  | cons a r ih =>
    rw [List.map_cons, List.any_cons, ih]
    show ((a == z) || decide (z ∈ r)) = _
    by_cases e : z = a
    · subst e; simp
    · have : (a == z) = false := beq_eq_false_iff_ne.mpr fun q => e q.symm
      rw [this, Bool.false_or]
      simp [e]
theorem strs_flat (l : List Str) : (l.map V.str).all flatV = true := by
  rw [List.all_map]
  exact List.all_eq_true.mpr fun _ _ => rfl
section
variable {K : PySem.W.Frag} {H : Hp} {Q : VK}
theorem rd_inT {x : V} {p : Addr} {xs : List V} (h : SqT K H p xs) (f : flatV x = true) (fs : xs.all flatV = true) (q : Q (.bl (inV x xs)) H) : rIn K false x (.ref p) H Q := ⟨p, xs, rfl, .inr h, f, fs, q⟩
theorem rpa_strs : ∀ (l : List Str), RpA K H (l.map V.str) (l.map TD.str)
  | [] => .nil
  | n :: r => .cons (.str n) (rpa_strs r)
theorem Rp.strs {v : V} {l : List Str} (r : Rp K H v (strsT l)) : ∃ a, v = .ref a ∧ SqT K H a (l.map V.str) := by
  cases r with
  | @tup a xs _ s ra =>
    refine ⟨a, rfl, ?_⟩
    have : ∀ {ys : List V} {ns : List Str}, RpA K H ys (ns.map TD.str) → ys = ns.map V.str := by
      intro ys ns
      induction ns generalizing ys with
      | nil => intro q; cases q; rfl
      | cons n ns ih => intro q; cases q with | cons q1 q2 => cases q1; rw [ih q2]; rfl
    rw [← this ra]; exact s
theorem strs_get {l : List Str} {i : Nat} {x : V} (h : (l.map V.str)[i]? = some x) : ∃ z, x = .str z ∧ l[i]? = some z := by
  rw [List.getElem?_map] at h
  cases e : l[i]? with
  | none => rw [e] at h; cases h
  | some z => rw [e] at h; exact ⟨z, (Option.some.inj h).symm, rfl⟩
theorem nlist (f : Int → Bool) (i : Nat) : ((nums i).map f).map V.bl ++ [V.bl (f i)] = ((nums (i + 1)).map f).map V.bl := by
  rw [nums_succ, List.map_append, List.map_append]; rfl
theorem nums_len (i : Nat) : (nums i).length = i := by simp [nums]
theorem filter_snoc {l : List Str} {i : Nat} {z : Str} (h : l[i]? = some z) (f : Str → Bool) : (l.take (i + 1)).filter f = (l.take i).filter f ++ if f z = true then [z] else [] := by
  rw [take_snoc h, List.filter_append]
  congr 1
  by_cases e : f z = true
  · rw [if_pos e, List.filter_cons, if_pos e]; rfl
  · rw [if_neg e, List.filter_cons, if_neg e]; rfl
end
end A1

namespace A1
open PySem L2 PySem.Spec PyProof.Rows
/-! texts: items, slices, joins, membership, loops over them -/
/-- the signs of a text -/
def sg (z : Str) : List Nat := z.cps.toList
theorem sg_len (z : Str) : (sg z).length = z.length := rfl
theorem sg_app (a b : Str) : sg (a ++ b) = sg a ++ sg b := by
  show (a.cps ++ b.cps).toList = _
  rw [Array.toList_append]; rfl
theorem len_app (a b : Str) : (a ++ b).length = a.length + b.length := by rw [← sg_len, ← sg_len, ← sg_len, sg_app, List.length_append]
theorem sg_one (c : Nat) : sg ⟨#[c]⟩ = [c] := rfl
theorem join_sg : ∀ ys : List Str, sg (Txt.join (Str.ofString "") ys) = ys.flatMap sg := by
  intro ys
  rw [show Txt.join (Str.ofString "") ys = Str.join (Str.ofString "") ys from TL.join_eq _ ys]
  induction ys with
  | nil => rfl
  | cons y r ih =>
    cases r with
    | nil => show sg y = _; rw [List.flatMap_cons, List.flatMap_nil, List.append_nil]
    | cons x r =>
      show sg (y ++ Str.ofString "" ++ Str.join (Str.ofString "") (x :: r)) = _
      rw [sg_app, sg_app, ih, show sg (Str.ofString "") = [] by decide +kernel, List.append_nil]
      exact List.flatMap_cons.symm
section
variable {H H1 : Hp} {Q : VK} {σ : L2.St} {D : Ends}
def rCatX : R2 := fun x y H Q => ∃ i j, x = .str i ∧ y = .str j ∧ i.length + j.length ≤ sizeLine ∧ Q (.str (i ++ j)) H
theorem op_catX {X : Cx} : OpR X (binaryOp .Add) rCatX := op_add_str
theorem rd_catX {a b : Str} (z : a.length + b.length ≤ sizeLine) (q : Q (.str (a ++ b)) H) : rCatX (.str a) (.str b) H Q := ⟨a, b, rfl, rfl, z, q⟩
theorem rd_ixS {z : Str} {i : Int} {c : Nat} (h : z.length ≤ sizeLine) (a : atI (sg z) i = some c) (q : Q (.str ⟨#[c]⟩) H) : rIxS (.str z) (.int i) H Q := ⟨z, i, c, rfl, rfl, h, a, q⟩
def rLenX : List V → Hp → VK → Prop := fun xs H Q => ∃ z, xs = [.str z] ∧ z.length ≤ sizeLine ∧ Q (.int z.length) H
theorem c_lenX {X : Cx} : CallR X (.builtin "len") rLenX := call_len_str
theorem rd_lenX {z : Str} (h : z.length ≤ sizeLine) (q : Q (.int z.length) H) : rLenX [.str z] H Q := ⟨z, rfl, h, q⟩
theorem rd_slX {z : Str} {lo hi : Option Int} (h : z.length ≤ sizeLine) (q : Q (.str (cutS z lo hi)) H) : rSlS (.str z) lo hi H Q := ⟨z, rfl, h, q⟩
theorem rd_inX {c : Nat} {z : Str} (q : Q (.bl (decide (c ∈ sg z))) H) : rInS (.str ⟨#[c]⟩) (.str z) H Q := ⟨c, z, rfl, rfl, q⟩
theorem rd_notInX {c : Nat} {z : Str} (q : Q (.bl (!decide (c ∈ sg z))) H) : rNotInS (.str ⟨#[c]⟩) (.str z) H Q := ⟨c, z, rfl, rfl, q⟩
/-- a.join(b) -/
def rJoinX (K : PySem.W.Frag) : V → List V → Hp → VK → Prop := fun x xs H Q => ∃ a p, ∃ ys : List Str, x = .str a ∧ xs = [.ref p] ∧ (SqL K H p (ys.map V.str) ∨ SqT K H p (ys.map V.str)) ∧
      (ys.map (·.length)).sum + ys.length * a.length ≤ 16777216 ∧ Q (.str (Txt.join a ys)) H
theorem pe_joinX {X : Cx} {K : PySem.W.Frag} (hK : X.K = K) {o e : Expr} {to te : TE} {apos pos : Pos} (ho : PE X o to) (he : PE X e te) (hs : starEach [e] X.env = [(false, eval e X.env)] := by rfl) (hbase : attributeBase o "join" X.env (eval o X.env) = eval o X.env := by rfl) (hline : (apos.endLine == pos.line) = true := by rfl) :
    PE X (.Call (.Attribute o "join" apos) [e] [] pos) (tM1 (rJoinX K) to te) := by
  subst hK
  exact pe_join ho he hs hbase hline
theorem rd_m1 {r : V → List V → Hp → VK → Prop} {to te : TE} (q : to σ H fun x H1 => (∃ a, x = .str a) ∧ te σ H1 fun y H2 => r x [y] H2 Q) : tM1 r to te σ H Q := q
theorem rd_joinX {K : PySem.W.Frag} {p : Addr} {ys : List Str} (h : SqL K H p (ys.map V.str)) (z : (ys.map (·.length)).sum ≤ 16777216) (q : ∀ u : Str, sg u = ys.flatMap sg → Q (.str u) H) : rJoinX K (.str (Str.ofString "")) [.ref p] H Q :=
  ⟨_, p, ys, rfl, rfl, .inl h, by rw [show (Str.ofString "").length = 0 by decide +kernel, Nat.mul_zero]; exact z, q _ (join_sg ys)⟩
theorem rd_istr {te : TE} {R : It → Hp → Prop} (q : te σ H fun v H1 => ∃ x, v = .str x ∧ R (Its x) H1) : iStr te σ H R := q
theorem rd_its {z : Str} {R : It → Hp → Prop} {H : Hp} (q : R (Its z) H) : ∃ x, V.str z = .str x ∧ R (Its x) H := ⟨z, rfl, q⟩
/-- str(int) -/
def rStrI : List V → Hp → VK → Prop := fun xs H Q => ∃ i : Int, xs = [.int i] ∧ i.natAbs.log2 < 1920 ∧ Q (.str (toString i)) H
theorem c_strI {X : Cx} : CallR X (.type "str") rStrI := call_str_int
theorem rd_strI {i : Int} (h : i.natAbs.log2 < 1920) (q : Q (.str (toString i)) H) : rStrI [.int i] H Q := ⟨i, rfl, h, q⟩
theorem rd_joinG {K : PySem.W.Frag} {p : Addr} {a : Str} {ys : List Str} (h : SqL K H p (ys.map V.str)) (z : (ys.map (·.length)).sum + ys.length * a.length ≤ 16777216) (q : Q (.str (Txt.join a ys)) H) : rJoinX K (.str a) [.ref p] H Q := ⟨a, p, ys, rfl, rfl, .inl h, z, q⟩
end
theorem join_len (a : Str) : ∀ ys : List Str, (Txt.join a ys).length ≤ (ys.map (·.length)).sum + ys.length * a.length := by
  intro ys
  rw [show Txt.join a ys = Str.join a ys from TL.join_eq _ ys]
  induction ys with
  | nil => exact Nat.zero_le _
  | cons y r ih =>
    cases r with
    | nil => show y.length ≤ _; simp only [List.map_cons, List.map_nil, List.sum_cons, List.sum_nil]; omega
    | cons x r =>
      show (y ++ a ++ Str.join a (x :: r)).length ≤ _
      rw [len_app, len_app]
      simp only [List.map_cons, List.sum_cons, List.length_cons] at ih ⊢
      rw [Nat.add_mul, Nat.one_mul] at ih ⊢
      rw [Nat.add_mul, Nat.one_mul]
      omega
theorem sum_le {α : Type} (f : α → Nat) (m : Nat) : ∀ l : List α, (∀ x ∈ l, f x ≤ m) → (l.map f).sum ≤ l.length * m
  | [], _ => Nat.zero_le _
  | x :: r, h => by
    rw [List.map_cons, List.sum_cons, List.length_cons, Nat.add_mul, Nat.one_mul]
    have := h x List.mem_cons_self
    have := sum_le f m r fun y hy => h y (List.mem_cons_of_mem _ hy)
    omega
theorem sg_at {z : Str} {i : Int} (h0 : 0 ≤ i) (h1 : i < (z.length : Int)) : ∃ c, atI (sg z) i = some c ∧ c ∈ sg z := by
  have hl : i.toNat < (sg z).length := by rw [sg_len]; omega
  refine ⟨(sg z)[i.toNat], ?_, List.getElem_mem hl⟩
  unfold atI ixN
  rw [if_pos h0, if_pos (by rw [sg_len]; omega)]
  exact List.getElem?_eq_getElem hl
end A1

namespace A1
open PySem L2 PySem.Spec PyProof.Rows
/-! enumerate of a tuple -/
theorem meets_enumOne {v : Value} {ob : Obj} {St0 : Heap → Prop} (B : Begins v ob St0) :
    Meets (Builtin.«enumerate.__new__» ⟨[.type "enumerate", v], []⟩) (fun _ R z => St0 z.heap ∧ R (.ok (.ret (.ref (z.heap.push ob).objs.size))) { z with heap := (z.heap.push ob).push { cls := .type "enumerate", data := .fields #[.none, .bool false, .ref z.heap.objs.size, rawInt 0, .none, .none] } }) :=
  .of_wp fun pr w0 A0 R z hz => by
    obtain ⟨hp, gn, dr, tk, os⟩ := z
    obtain ⟨hb, hR⟩ := hz
    have hsb := sub_enumerate
    have qi : ∀ {A1 : Around} {E1 : Value → Shared → Prop} {Q1 : Value → Shared → Prop}, Q1 (.ref hp.objs.size) ⟨hp.push ob, gn, dr, tk, os⟩ → wpAny (model pr w0) A1 (pyIter v) Q1 E1 ⟨hp, gn, dr, tk, os⟩ := fun q => B.iter pr w0 _ _ ⟨hp, gn, dr, tk, os⟩ _ hb q
    wp_walk using qi
    refine wpAny_stack_any fun _ => wpAny_pure ?_
    split
    · rename_i cc _ _ _ _ _
      cases (cc == Value.type "enumerate") <;> (wp_walk using qi; exact ⟨_, rfl, hR⟩)
    · wp_walk using qi
      exact ⟨_, rfl, hR⟩
theorem call_enumOne {pr : Program} {w0 : World} {A0 : Around} {E0 : Value → Shared → Prop} {z : Shared} {v : Value} {ob : Obj} {St0 : Heap → Prop} {Q0 : Value → Shared → Prop} (B : Begins v ob St0) (hb : St0 z.heap)
    (hq : ∀ h2, IsEnum h2 (z.heap.objs.size + 1) z.heap.objs.size 0 .none → h2.get? z.heap.objs.size = some ob → (∀ b o, z.heap.get? b = some o → h2.get? b = some o) → Q0 (.ref (z.heap.objs.size + 1)) { z with heap := h2 }) :
    wpAny (model pr w0) A0 (call (.type "enumerate") [v]) Q0 E0 z := by
  refine callType_new F.called_enumerate (by decide) (F.typeCall_enumerate_1 _) (F.newCall_enumerate_1 _) (fun x => F.args_object_init_2 x _) F.entry_enumerate_new (meets_enumOne B) ⟨hb, ?_⟩
  have sz : (z.heap.push ob).objs.size = z.heap.objs.size + 1 := Heap.size_push ..
  have ie := Heap.get?_push_size (z.heap.push ob) (o := { cls := .type "enumerate", data := .fields #[.none, .bool false, .ref z.heap.objs.size, rawInt 0, .none, .none] }) rfl
  rw [sz] at ie
  show _ ∧ _
  rw [sz]
  exact ⟨⟨_, ie, rfl⟩, hq _ ie (Heap.get?_push_of_some _ (Heap.get?_push_size _ B.free)) fun b o e => Heap.get?_push_of_some _ (Heap.get?_push_of_some _ e)⟩
/-- the pairs of place and item of the tuple at a -/
def IteT (K : PySem.W.Frag) (a : Addr) : It :=
  ⟨fun i H => ∃ (xs : List V) (x : V), SqT K H a xs ∧ xs[i]? = some x, fun i H v H' => ∃ t x, v = .ref t ∧ H t = none ∧ H' = upd H t (.tup [.int (i : Nat), x]) ∧ ∀ xs, SqT K H a xs → xs[i]? = some x, fun i H => ∃ xs : List V, SqT K H a xs ∧ xs.length ≤ i⟩
theorem ne_cls {h : Heap} {a b : Addr} {o o' : Obj} {c c' : String} (e : h.get? a = some o) (e' : h.get? b = some o') (k : o.cls = .type c) (k' : o'.cls = .type c') (n : c ≠ c') : a ≠ b := fun q => by
  subst q
  rw [e] at e'
  cases e'
  rw [k] at k'
  injection k' with k'
  exact n k'
theorem enum_endT {pr : Program} {w0 : World} {A0 : Around} {E0 : Value → Shared → Prop} {z : Shared} {en it a : Addr} {i : Nat} {j : Int} {its : Array Value} {u : Value} {Q0 : Option Value → Shared → Prop} (hh : A0.handled = none)
    (he : IsEnum z.heap en it j u) (hi : z.heap.IsTupleIter it a i) (ht : z.heap.IsTuple a its) (hx : its[i]? = none) (hq : ∀ h2, Heap.ExtBut it z.heap h2 → Q0 none { z with heap := h2 }) : wpAny (model pr w0) A0 (pyNext (.ref en)) Q0 E0 z := by
  have ty : z.TypeIs (.ref en) "enumerate" := ⟨_, he, rfl⟩
  unfold pyNext
  refine wpAny_bind (wpAny_attempt (wpAny_callSpecial?_slot (name := Str.ofString "__next__") ty F.slot_enumerate_next (wpAny_call_entry F.slot_enumerate_next ty F.entry_enumerate_next ?_ (F.args_enumerate_next_1 _))))
  show wpAny _ _ (field (.ref en) 2 >>= _) _ _ _
  refine wpAny_bind (wpAny_field he rfl (x := .ref it) rfl (wpAny_bind (wpAny_nextOf_tuple_end hh hi ht hx fun h2 x eb ⟨o, ho, hc⟩ => ?_)))
  exact wpAny_bind (wpAny_isInstance (T := "StopIteration") (b := true) ⟨o, ho, hc⟩ isSubtype_stop (wpAny_pure (hq _ eb)))
theorem turn_enumT {P : Program} {w : World} {K : PySem.W.Frag} {ts : List Expr} {kk : Nat} {tp : Pos} (a en it : Addr) :
    Turn P w K (.Tuple ts kk tp) (IteT K a) [en, it] en (fun i h => (∃ u, IsEnum h en it ((i : Nat) : Int) u) ∧ h.IsTupleIter it a i ∧ en ≠ it) where
  mem := by simp
  obj := fun i h st b hb => by
    obtain ⟨⟨u, he⟩, ⟨o, ho, _, hd⟩, _⟩ := st
    rcases List.mem_cons.mp hb with z | z
    · rw [z]; exact ⟨_, he, fun v q => nomatch q⟩
    · rw [List.mem_singleton.mp z]; exact ⟨o, ho, fun v q => by rw [hd] at q; cases q⟩
  keep := fun i h h2 ⟨⟨u, he⟩, hi, n⟩ k => ⟨⟨u, k en (by simp) _ he⟩, hi.at fun o q => k it (by simp) o q, n⟩
  item := by
    intro X eP ew eK calm i pins s σ H E I hf ⟨⟨u, he⟩, hi, n⟩ ⟨xs, x, hs, hx⟩
    subst eP ew eK
    obtain ⟨its, rv, p, hz⟩ := I.tuple hs
    obtain ⟨y, hy, ry⟩ := rv.get hx
    have pt : s.heap.IsTuple a its.toArray := p
    obtain ⟨ot, et, ct, _⟩ := id pt
    obtain ⟨oi, ei, ci, _⟩ := id hi
    have nai : a ≠ it := ne_cls et ei ct ci (by decide)
    have nae : a ≠ en := ne_cls et he ct (c' := "enumerate") rfl (by decide)
    have le : en < s.heap.objs.size := Heap.lt_size he
    have li : it < s.heap.objs.size := Heap.lt_size ei
    have hlt : i < its.toArray.size := by
      have := (List.getElem?_eq_some_iff.mp hy).1
      simpa using this
    refine wpAny_pyNext_enum_itemD (Draws.tuple (A := X.A.in1) (I.ok.hd calm) it a nai its.toArray) he ⟨hi, pt⟩ hlt n (by simp [n, Ne.symm nae]) fun y' h2 tk ey ho st2 hT _ k => ?_
    have ey' : its[i]? = some y' := by simpa using ey
    rw [hy] at ey'
    cases ey'
    refine ⟨_, rfl, wpAny_letOwnedTupleGo_enum (s := { s with heap := h2, toks := tk + 1 }) ho fun h3 he3 sb => ?_⟩
    have hT3 : h3.get? s.heap.objs.size = some { cls := .type "tuple", data := .seq #[.int i tk, y] } := (sb.2 _ (Nat.ne_of_gt le)).trans hT
    have new : ObjOk X.prog X.w (upd H s.heap.objs.size (.tup [.int (i : Nat), x])) h3 s.heap.objs.size (.tup [.int (i : Nat), x]) :=
      ⟨(by decide : 2 ≤ sizeLine), [.int i tk, y], .cons ⟨_, rfl⟩ (.cons ry .nil), ⟨_, hT3, rfl, _, rfl⟩⟩
    have I1 : Inv X pins σ (upd H s.heap.objs.size (.tup [.int (i : Nat), x])) { s with heap := h3, toks := tk + 1 } :=
      I.turnedNew (ch := [en, it]) (fun b o hb q => (sb.2 b (fun z => hb (by simp [z]))).trans (k b o (fun z => hb (by simp [z])) (fun z => hb (by simp [z])) q)) hf (Nat.le_refl _) new
    refine ⟨.ref s.heap.objs.size, _, I1, rfl, ⟨_, x, rfl, I.hok.fresh (Nat.le_refl _), rfl, fun ys hys => by rw [I.tuple_inj hys hs]; exact hx⟩, ⟨⟨_, by rw [show ((i + 1 : Nat) : Int) = (i : Int) + 1 by omega]; exact he3⟩, st2.1.at fun o q => (sb.2 it (Ne.symm n)).trans q, n⟩, fun b hb => ?_⟩
    have lb : b < s.heap.objs.size := by
      rcases List.mem_cons.mp hb with z | z
      · rw [z]; exact le
      · rw [List.mem_singleton.mp z]; exact li
    rw [upd_ne (Nat.ne_of_lt lb)]
    exact (hf b hb).1
  done := by
    intro X eP ew eK calm i pins s σ H E I hf ⟨⟨u, he⟩, hi, n⟩ ⟨xs, hs, hx⟩
    subst eP ew eK
    obtain ⟨its, rv, p, hz⟩ := I.tuple hs
    have pt : s.heap.IsTuple a its.toArray := p
    obtain ⟨f0, f1, f2, f3, f4, f5⟩ := hf it (by simp)
    have hl := rv.length
    exact enum_endT (I.ok.hd calm) he hi pt (by simp; omega) fun h2 eb => ⟨rfl, I.turned (t' := s.toks) (fun b o hb q => eb b o hb q) f0 f1 f3 f4 f5⟩
  self := fun A0 i s Q E ⟨⟨_, he⟩, _⟩ h => wpAny_pyIter_enum he h
def iEnumT (K : PySem.W.Frag) (ta : TA) : TI := fun σ H R => ta σ H fun vs H1 => ∃ a xs, vs = [.ref a] ∧ SqT K H1 a xs ∧ R (IteT K a) H1
theorem pi_enumT {X : Cx} {e : Expr} {ta : TA} {p pos tp : Pos} {ts : List Expr} {kk : Nat} {K : PySem.W.Frag} (hK : X.K = K) (hg : Gl X "enumerate") (hm : X.mg "enumerate" = none) (ha : PA X [e] ta) (hs : starEach [e] X.env = [(false, eval e X.env)] := by rfl) :
    PI X (.Tuple ts kk tp) (.Call (.Name "enumerate" p) [e] [] pos) (iEnumT K ta) := by
  subst hK
  refine ⟨fun pins s σ H R I h => ?_⟩
  refine Call_ (ld_blt I hg hm boot_enumerate (PyProof.Rows.callWith_type1 (thn (ha.run pos pins s σ H _ I h) fun us s1 ⟨vs, H1, I1, r1, a, xs, ex, hq, q⟩ => ?_) hs rfl))
  subst ex
  cases r1 with
  | cons r rr =>
    cases rr
    cases r
    obtain ⟨its, rv, pp, hz⟩ := I1.tuple hq
    have pt : s1.heap.IsTuple a its.toArray := pp
    refine call_enumOne (begins_tuple a its.toArray) pt fun h2 he hit hk => wpAny_pyIter_enum he ?_
    have I2 : Inv X pins σ H1 { s1 with heap := h2 } := I1.kept (t' := s1.toks) hk
    refine ⟨s1.heap.objs.size + 1, [s1.heap.objs.size + 1, s1.heap.objs.size], _, _, H1, rfl, I2, turn_enumT a (s1.heap.objs.size + 1) s1.heap.objs.size, ⟨⟨.none, he⟩, ⟨_, hit, rfl, rfl⟩, Nat.succ_ne_self _⟩, fun b hb => ?_, q⟩
    have lb : s1.heap.objs.size ≤ b := by
      rcases List.mem_cons.mp hb with z | z
      · rw [z]; exact Nat.le_add_right _ _
      · rw [List.mem_singleton.mp z]; exact Nat.le_refl _
    exact I1.fpOk lb (I1.hok.fresh lb)
end A1

namespace PySem
namespace NoQX
open PySem.W PySem.Calls PyProof.Rows PySem.HandSPX
/-! ### the text of __init__ -/
def iA (p1 p2 : Pos) : Arguments := { posonlyargs := [], args := [{ arg := "self", annotation := none, pos := p1 }, { arg := "join", annotation := none, pos := p2 }], vararg := none, kwonlyargs := [], kw_defaults := [], kwarg := none, defaults := [] }
def iB (q1 q2 q3 q4 : Pos) : List Stmt := [.Assign [.Attribute (.Name "self" q1) "join" q2] (.Name "join" q3) q4]
def iS : Scope := { kind := .function, names := [(PySem.Str.ofString "self", .local), (PySem.Str.ofString "join", .local)], isGenerator := false, isCoroutine := false, more := [] }
/-- what the written part says of Low, at C, and of its __init__, at fI -/
structure NoQTxt (K : Frag) (mg : Str → Option Value) (C fI : Addr) : Prop where
  gC : mg "NoQuestion" = some (.ref C)
  cls : ∃ nm q N bs bm sn sub ab col dd k0 k1 k2 k3 k5, K.lookup C = some (excClassObj nm q C N bs bm true sn sub ab col dd k0 k1 k2 k3 k5 "ValueError.__new__") ∧ refsVE bm = true
  sa : findIn K (.ref C) "__setattr__" = some (some (.builtin "object.__setattr__"))
  ga : findIn K (.ref C) "__getattribute__" = some (some (.builtin "BaseException.__getattribute__"))
  gg : findIn K (.ref C) "__getattr__" = some none
  noN : findIn K (.ref C) "join" = some none
  iC : findIn K (.ref C) "__init__" = some (some (.ref fI))
  tC : typeIn K (.ref fI) = some (.type "function")
  kC : keepIn K (.ref C) = true
  exC : subIn K (.ref C) (.type "BaseException") = some true
  tyC : typeIn K (.ref C) = some (.type "type")
  hdC : hasDictIn K C = true
  te : exmOne K (.ref C) (.ref C) = some true
  fn : ∃ (oc : Value) (od : Option Addr) (doc pm : Value) (an : Option Addr) (cdv ct : Value) (osl : Array (Option Value)) (p1 p2 q1 q2 q3 q4 : Pos),
    K.lookup fI = some ⟨oc, od, .func (fnOf "__init__" "NoQuestion.__init__" (iA p1 p2) (iB q1 q2 q3 q4) iS .none .none doc pm an cdv ct), osl⟩ ∧ codeIn K cdv "NoQuestion.__init__" = true
theorem one_size (v : Value) : [v].length ≤ sizeLine := by
  rw [sizeLine_eq]
  exact (by decide : 1 ≤ 16777216)
theorem kept_but {K : Frag} {h h' : Heap} {x : Addr} (X : K.In h) (hx : K.lookup x = none) (k : ∀ b o, b ≠ x → h.get? b = some o → h'.get? b = some o) : K.In h' := fun a o e =>
  k a o (fun z => by rw [z, hx] at e; cases e) (X a o e)
theorem ldC {M : Model} {s : Shared} {name : Str} {scope : Scope} {L a : Addr} {cd : Value} {m : Str → Option Value} {x : Str} {pos : Pos} {v : Value} {Q : Value → Shared → Prop} {A : Around} {E : Value → Shared → Prop} (hn : s.heap.Ns L m) (hv : m x = some v) (h : Q v s)
    (hk : scope.kind = .function := by rfl) (hl : (envOfC name scope L a cd).kindOf x = some .local := by rfl) (hd : (x == ("__debug__" : Str)) = false := by decide) :
    wpAny M A (eval (.Name x pos) (envOfC name scope L a cd)) Q E s := wpAny_Name (wpAny_loadName_local hk hl hn hv h) hd
/-- what __init__ leaves of a fresh exception at x -/
structure InitEnd (h h' : Heap) (x C dx t1 : Addr) (v : Value) : Prop where
  keep : ∀ b o, b ≠ x → h.get? b = some o → h'.get? b = some o
  obj : h'.get? x = some { cls := .ref C, dict := some dx, data := .fields #[.ref t1, .none, .none, .none, .bool false, .none] }
  dbig : h.objs.size ≤ dx
  dne : dx ≠ x
  ns : h'.Ns1 dx (fun y => if y = "join" then some v else none)
/-- a made Low -/
structure OwnMade (h h' : Heap) (e C d : Addr) (v : Value) : Prop where
  keep : ∀ b o, h.get? b = some o → h'.get? b = some o
  new : h.objs.size ≤ e
  obj : ∃ oe vs, h'.get? e = some oe ∧ oe.cls = .ref C ∧ oe.dict = some d ∧ oe.data = .fields vs ∧ vs[1]? = some .none
  dbig : h.objs.size ≤ d
  dne : d ≠ e
  ns : h'.Ns1 d (fun y => if y = "join" then some v else none)
section
variable {prog : Program} {w : World} {A : Around} {E : Value → Shared → Prop} {R : Result → Shared → Prop} {s : Shared} {K : Frag} {mg : Str → Option Value} {C fI : Addr}
theorem noq_init (T : NoQTxt K mg C fI) {x t0 : Addr} {v : Value} (X : K.In s.heap) (hlim : s.heap.NoLimit) (hx : s.heap.get? x = some (excO C t0)) (hnx : K.lookup x = none) (hroom : A.depth < recursionLimit)
    (hq : ∀ h' tk dx, InitEnd s.heap h' x C dx t0 v → R (.ok (.ret .none)) { s with heap := h', toks := tk }) :
    codeAny (model prog w) A (.call (.ref fI) ⟨[.ref x, v], []⟩) R s := by
  obtain ⟨oc, od, doc, pm, an, cdv, ct, osl, p1, p2, q1, q2, q3, q4, ho, hcd⟩ := T.fn
  obtain ⟨nm, q, N, bs, bm, sn, sub, ab, col, dd, k0, k1, k2, k3, k5, hC, hbm⟩ := T.cls
  have hcl : clsIn K C = some { name := nm, bases := bs, mro := .ref C :: bm, ns := N, qualname := q, hasDict := true, slotNames := sn, subclasses := sub, abstract := ab, collection := col, hasDel := false } := by unfold clsIn; rw [hC] <;> rfl
  refine Att.call_fn (binds := [("self", .ref x), ("join", v)]) X hlim ho hcd hroom (BindsTo.of_eq (by first | rfl | with_unfolding_all rfl)) (by first | rfl | decide | with_unfolding_all rfl) (fun s₁ IC => ?_) rfl rfl rfl
  obtain ⟨h₁, tk₁, rfl⟩ := IC.toInCall.same
  have k : ∀ b o, s.heap.get? b = some o → h₁.get? b = some o := IC.toInCall.keep
  have hn := IC.toInCall.ns
  have hxL : s.heap.objs.size ≠ x := Nat.ne_of_gt (Heap.lt_size hx)
  have X₁ : K.In h₁ := X.keeps k
  have hx₁ := k _ _ hx
  -- self.by = by
  show wpAny _ _ (execs _ _) _ _ _
  refine wpAny_execs_cons (plainObj_wpAny_Assign_Attribute ?_)
  refine ldC (v := v) hn (by first | rfl | with_unfolding_all rfl | kernel_rfl) (ldC (v := .ref x) hn (by first | rfl | with_unfolding_all rfl | kernel_rfl) ?_)
  refine set_plain X₁ (ox := excO C t0) (od := none) ⟨hx₁, rfl, rfl, trivial⟩ T.sa ?_
  refine exc_osa X₁ hx₁ hcl (show refsVE (.ref C :: bm) = true from hbm) rfl T.noN (fun h₃ tk₃ dx k₃ dn dne hx₃ hn₃ => ?_)
  show wpAny _ _ (execs _ _) _ _ _
  have z : s.heap.objs.size < h₁.objs.size := hn.lt
  exact wpAny_execs_nil (hq h₃ tk₃ dx ⟨fun b o hb e => k₃ b o hb (k b o e), hx₃, Nat.le_of_lt (Nat.lt_of_lt_of_le z dn), dne, hn₃⟩)
theorem noq_made (T : NoQTxt K mg C fI) {v : Value} (X : K.In s.heap) (hlim : s.heap.NoLimit) (hroom : A.depth + 1 < recursionLimit)
    (hq : ∀ h' tk e d, OwnMade s.heap h' e C d v → R (.ok (.ret (.ref e))) { s with heap := h', toks := tk }) :
    codeAny (model prog w) A (.call (.ref C) ⟨[v], []⟩) R s := by
  obtain ⟨nm, q, N, bs, bm, sn, sub, ab, col, dd, k0, k1, k2, k3, k5, hC, hbm⟩ := T.cls
  obtain ⟨hp, g, dr, tk, os⟩ := s
  have k : ∀ b o, hp.get? b = some o → ((hp.push (kdv_tup [v])).push (excO C hp.objs.size)).get? b = some o := fun b o e => Heap.get?_push_of_some _ (Heap.get?_push_of_some _ e)
  have hget : ((hp.push (kdv_tup [v])).push (excO C hp.objs.size)).get? (hp.objs.size + 1) = some (excO C hp.objs.size) := by heap_get
  have hnx : K.lookup (hp.objs.size + 1) = none := by
    cases e : K.lookup (hp.objs.size + 1) with
    | none => rfl
    | some o =>
      have z : hp.get? (hp.objs.size + 1) = some o := X _ _ e
      exact absurd (Nat.lt_of_succ_lt (Heap.lt_size z)) (Nat.lt_irrefl _)
  refine call_own F.excBase_ValueError (fun X => refsVE_contains X bm hbm) (X _ _ hC) (looks_findIn X T.iC) (fun self => bind_fn X self T.tC) (one_size v) ?_
  refine noq_init (s := ⟨(hp.push (kdv_tup [v])).push (excO C hp.objs.size), g, dr, tk, os⟩) T (X.keeps k) (hlim.keeps k) hget hnx ?_ fun h' tk' dx ⟨k', hx, dn, dne, hns⟩ => ?_
  · show A.depth + 1 < recursionLimit
    exact hroom
  · have old : ∀ b o, hp.get? b = some o → h'.get? b = some o := fun b o e => k' b o (Nat.ne_of_lt (Nat.lt_succ_of_lt (Heap.lt_size e))) (k b o e)
    have z : hp.objs.size + 1 + 1 ≤ dx := by
      first
        | (simpa only [Heap.size_push] using dn)
        | exact dn
        | (have q := dn; rw [Heap.size_push, Heap.size_push] at q; exact q)
    exact ⟨rfl, hq h' tk' (hp.objs.size + 1) dx ⟨old, Nat.le_succ _, ⟨_, _, hx, rfl, rfl, rfl, rfl⟩, Nat.le_trans (Nat.le_trans (Nat.le_succ _) (Nat.le_succ _)) z, dne, hns⟩⟩
end
end NoQX
end PySem
namespace A1
open PySem PySem.Spec PyProof.Rows L2
theorem relO_noq {v : V} {v' : Value} (r : RelV v v') (f : Str) : RelO (List.lookup f [(("join" : Str), v)]) (if f = "join" then some v' else none) := by
  by_cases hw : f = "join"
  · subst hw
    rw [if_pos rfl]
    have q : List.lookup ("join" : Str) [(("join" : Str), v)] = some v := by simp [List.lookup]
    rw [q]
    exact r
  · rw [if_neg hw]
    have qw : (f == ("join" : Str)) = false := by simpa using hw
    have q2 : List.lookup f [(("join" : Str), v)] = none := by simp [List.lookup, qw]
    rw [q2]
    trivial
section
variable {X : Cx} {C fI : Addr}
/-- Low(e) -/
def tMkNoq (C : Addr) (ta : TA) : L2.St → Hp → XK → Prop := fun σ H Q => ta σ H fun vs H1 => ∃ v, vs = [v] ∧ ∀ d, H1 d = none → Q (.ref C) (some d) (upd H1 d (.xd [(("join" : Str), v)]))
theorem pmk_noq {a : Expr} {ta : TA} {p pos : Pos} {k : Nat} (T : PySem.NoQX.NoQTxt X.K X.mg C fI) (hr : Room k X.A) (ha : PA X [a] ta) (hg : Gl X "NoQuestion" := by rfl)
    (he : starEach (a :: []) X.env = (false, eval a X.env) :: starEach [] X.env := by rfl) (hpl : (backTo pos (starEach [] X.env)).any (·.1) = false := by rfl) :
    PMk X (.Call (.Name "NoQuestion" p) [a] [] pos) (tMkNoq C ta) := by
  intro pins s σ H Q I h
  refine wpAny_Call_Name_kw (ld_glob I hg T.gC ?_)
  refine PySem.W.callWith_K (h₀ := X.base) I.ok.mod.kin T.kC (thn (ha.run pos pins s σ H _ I h) fun us s1 hh => ?_) he hpl
  obtain ⟨vs, H1, I1, r1, v, ev, q1⟩ := hh
  subst ev
  refine ⟨I1.kIn, ?_⟩
  cases r1 with
  | cons rv rn =>
    rename_i v' us'
    cases rn
    show wpAny _ _ (call (.ref C) [v']) _ _ _
    have hlim := I1.nolimit
    obtain ⟨hp, g, dr, tk, os⟩ := s1
    refine wpAny_call (PySem.NoQX.noq_made T I1.kIn hlim (by have := hr.dp; omega) fun h' tk' e d M => ?_)
    show MkP X pins σ Q (.ref e) ⟨h', g, dr, tk', os⟩
    obtain ⟨oe, fv, hoe, hc, hd, hdat, h1⟩ := M.obj
    have hns := M.ns
    obtain ⟨G', g1, g2⟩ := restrict h' fun b => decide (b ≠ e)
    have gk : ∀ b, b ≠ e → G'.get? b = h'.get? b := fun b hb => g1 b (decide_eq_true hb)
    have ge : G'.get? e = none := g2 e (by simp)
    have old : ∀ b o, hp.get? b = some o → G'.get? b = some o := fun b o q => (gk b (Nat.ne_of_lt (Nat.lt_of_lt_of_le (Heap.lt_size q) M.new))).trans (M.keep b o q)
    have ob : ObjOk X.prog X.w (upd H1 d (.xd [(("join" : Str), v)])) G' d (.xd [(("join" : Str), v)]) :=
      ⟨_, hns.at (fun o q => (gk d M.dne).trans q), fun f => relO_noq rv f⟩
    have J : Inv X pins σ (upd H1 d (.xd [(("join" : Str), v)])) ⟨G', g, dr, tk', os⟩ := I1.laid (t' := tk') old M.dbig ob
    refine ⟨e, oe, fv, ⟨G', g, dr, tk', os⟩, _, .ref C, some d, rfl, J, fun b o q => ?_, ge, hoe, ⟨hc, hd⟩, hdat, h1, ?_, rfl, I1.bare, raises_own T.exC T.tyC, q1 d (I1.hok.fresh M.dbig)⟩
    · by_cases hb : b = e
      · have q' : G'.get? b = some o := q
        rw [hb, ge] at q'; cases q'
      · exact (gk b hb).symm.trans q
    · rw [upd_ne (Ne.symm M.dne)]
      exact I1.hok.fresh M.new
/-- raise Low(e) -/
def tRaiseNoq (C : Addr) (W : WX) (ta : TA) : TS := fun _ σ H => tMkNoq C ta σ H fun cls d H' => W cls d σ H'
theorem ps_raiseNoq {a : Expr} {ta : TA} {W : WX} {p pos pos2 : Pos} {k : Nat} (hc : X.calm = true) (T : PySem.NoQX.NoQTxt X.K X.mg C fI) (hr : Room k X.A) (tk : Takes X W) (ha : PA X [a] ta) (hg : Gl X "NoQuestion" := by rfl)
    (he : starEach (a :: []) X.env = (false, eval a X.env) :: starEach [] X.env := by rfl) (hpl : (backTo pos (starEach [] X.env)).any (·.1) = false := by rfl) :
    PS X (.Raise (some (.Call (.Name "NoQuestion" p) [a] [] pos)) none pos2) (tRaiseNoq C W ta) := ps_raise hc tk (pmk_noq T hr ha hg he hpl)
/-- low.by, low the exception that the suite holds (at a; its class cls, its dict d) -/
def tJoinOf (C : Addr) (a : Addr) (cls : Value) (d : Option Addr) (te : TE) : TE := fun σ H Q => te σ H fun x H1 => x = .ref a ∧ cls = .ref C ∧ ∃ (dd : Addr) (v : V), d = some dd ∧ H1 dd = some (.xd [(("join" : Str), v)]) ∧ Q v H1
theorem pe_joinOf {a : Addr} {oe : Obj} {cls : Value} {d : Option Addr} {pn : List (Addr × Obj)} {e : Expr} {te : TE} {pos : Pos} (T : PySem.NoQX.NoQTxt X.K X.mg C fI) (hz : Zc cls d oe) (hf : ∃ vs, oe.data = .fields vs) (he : PE (X.suite a ((a, oe) :: pn)) e te)
    (hb : attributeBase e "join" X.env (eval e X.env) = eval e X.env := by rfl) :
    PE (X.suite a ((a, oe) :: pn)) (.Attribute e "join" pos) (tJoinOf C a cls d te) := by
  refine ⟨fun pins s σ H Q I h => ?_⟩
  refine attr_of hb (thn (he.run pins s σ H _ I h) fun u s1 hh => ?_)
  obtain ⟨x, H1, I1, rx, ex, ec, dd, v, ed, ea, q⟩ := hh
  subst ex
  obtain rfl : u = Value.ref a := rx
  subst ec
  subst ed
  obtain ⟨ha, _⟩ := I1.pin (a, oe) (List.mem_append_left _ List.mem_cons_self)
  obtain ⟨vs, hd⟩ := hf
  have hx : ObjOk X.prog X.w H1 s1.heap dd (.xd [(("join" : Str), v)]) := I1.hok dd _ ea
  obtain ⟨mA, hns, hr⟩ := hx
  obtain ⟨od, ho, hl⟩ := lookIn_ns hns
  have l : List.lookup ("join" : Str) [(("join" : Str), v)] = some v := by simp [List.lookup]
  obtain ⟨u, hu, ru⟩ := RelO.some_of (v := v) (o := mA "join") (by rw [← l]; exact hr "join")
  have J : PySem.W.InstAt s1.heap a oe C (some od) := ⟨ha, hz.1, by unfold PySem.W.notCls; rw [hd] <;> rfl, by rw [hz.2]; exact ho⟩
  exact HandSPX.exc_get I1.kIn J T.ga T.gg T.exC (PySem.W.findObj_own T.hdC T.noN rfl (by rw [hl, hu])) (handed_of ru) ⟨v, H1, I1.tok _, ru, q⟩
end
end A1

namespace A1
open PySem PySem.Spec PyProof.Rows L2
/-- what a class of errors must say for isinstance of its objects -/
structure ErrC (K : PySem.W.Frag) (C : Addr) : Prop where
  is : (PySem.W.clsIn K C).isSome = true
  ga : PySem.W.findIn K (.ref C) "__getattribute__" = some (some (.builtin "BaseException.__getattribute__"))
  gg : PySem.W.findIn K (.ref C) "__getattr__" = some none
  sb : PySem.W.subIn K (.ref C) (.type "BaseException") = some true
  cl : PySem.W.findIn K (.ref C) "__class__" = some (some (.builtin "object.__class__"))
  gt : PySem.W.specialIn K (.builtin "object.__class__") "__get__" = some (some (.builtin "getset_descriptor.__get__"))
  tk : PySem.W.takesIn K (.builtin "object.__class__") = some true
  mr : PySem.W.mroIn K C (.type "object") = some true
section
variable {X : Cx} {C : Addr}
theorem inst_of {a dd : Addr} {oe : Obj} {pn : List (Addr × Obj)} {pins : List (Addr × Obj)} {s : Shared} {σ : L2.St} {H : Hp} {fs : List (Str × V)} (I : Inv (X.suite a ((a, oe) :: pn)) pins σ H s) (hz : Zc (.ref C) (some dd) oe) (hf : ∃ vs, oe.data = .fields vs) (hd : H dd = some (.xd fs)) :
    ∃ od, PySem.W.InstAt s.heap a oe C (some od) := by
  obtain ⟨ha, _⟩ := I.pin (a, oe) (List.mem_append_left _ List.mem_cons_self)
  obtain ⟨vs, hv⟩ := hf
  have hx : ObjOk X.prog X.w H s.heap dd (.xd fs) := I.hok dd _ hd
  obtain ⟨mA, hns, _⟩ := hx
  obtain ⟨od, ho, _⟩ := lookIn_ns hns
  exact ⟨od, ha, hz.1, by unfold PySem.W.notCls; rw [hv] <;> rfl, by rw [hz.2]; exact ho⟩
/-- isinstance(e, c), e the error that the suite holds, with a dict of its own -/
def rIsX (K : PySem.W.Frag) (C a : Addr) (cls : Value) (d : Option Addr) : List V → Hp → VK → Prop := fun xs H Q => cls = .ref C ∧ ∃ (c : V) (u : Value) (b : Bool) (dd : Addr) (fs : List (Str × V)), xs = [.ref a, c] ∧ ClsV c u ∧ d = some dd ∧ H dd = some (.xd fs) ∧ PySem.W.kitOne K (.ref C) u = some b ∧ Q (.bl b) H
theorem call_isX {a : Addr} {oe : Obj} {cls : Value} {d : Option Addr} {pn : List (Addr × Obj)} (T : ErrC X.K C) (hz : Zc cls d oe) (hf : ∃ vs, oe.data = .fields vs) : CallR (X.suite a ((a, oe) :: pn)) (.builtin "isinstance") (rIsX X.K C a cls d) := by
  intro pins s σ H xs us Q I r h
  obtain ⟨rfl, c, u, b, dd, fs, rfl, k, rfl, hd, e, q⟩ := h
  obtain ⟨u1, u2, rfl, r1, r2⟩ := vals2 r
  have e2 := k.eq r2
  subst e2
  obtain rfl : u1 = Value.ref a := r1
  obtain ⟨od, J⟩ := inst_of I hz hf hd
  exact PySem.W.kia_one (PySem.W.kitx_exc T.is T.ga T.gg T.sb T.cl T.gt T.tk T.mr) I.kIn J e (fun z => nomatch z) fun tk => ⟨.bl b, H, I.tok tk, rfl, q⟩
/-- isinstance(e, (c1, c2, ..)) -/
def rIsXT (K : PySem.W.Frag) (C a : Addr) (cls : Value) (d : Option Addr) : List V → Hp → VK → Prop := fun xs H Q => cls = .ref C ∧ ∃ (tp : Addr) (cs : List V) (ws : List Value) (b : Bool) (dd : Addr) (fs : List (Str × V)), xs = [.ref a, .ref tp] ∧ H tp = some (.tup cs) ∧ Paired ClsV cs ws ∧ d = some dd ∧ H dd = some (.xd fs) ∧ PySem.W.kitAny K (.ref C) ws = some b ∧ Q (.bl b) H
theorem call_isXT {a : Addr} {oe : Obj} {cls : Value} {d : Option Addr} {pn : List (Addr × Obj)} (T : ErrC X.K C) (hz : Zc cls d oe) (hf : ∃ vs, oe.data = .fields vs) : CallR (X.suite a ((a, oe) :: pn)) (.builtin "isinstance") (rIsXT X.K C a cls d) := by
  intro pins s σ H xs us Q I r h
  obtain ⟨rfl, tp, cs, ws, b, dd, fs, rfl, hT, k, rfl, hd, e, q⟩ := h
  obtain ⟨u1, u2, rfl, r1, r2⟩ := vals2 r
  obtain rfl : u2 = Value.ref tp := r2
  obtain rfl : u1 = Value.ref a := r1
  obtain ⟨od, J⟩ := inst_of I hz hf hd
  obtain ⟨_, its, rv, o, h1, h2, n, h3⟩ := (show ObjOk X.prog X.w H s.heap tp (.tup cs) from I.hok tp _ hT)
  have e3 := ClsV.all k rv
  subst e3
  obtain ⟨oc, ocd, dt, sl⟩ := o
  simp only at h2 h3
  subst h2 h3
  exact PySem.W.kia_tup (PySem.W.kitx_exc T.is T.ga T.gg T.sb T.cl T.gt T.tk T.mr) I.kIn J h1 e (fun z => nomatch z) fun tk => ⟨.bl b, H, I.tok tk, rfl, q⟩
end
end A1

namespace PySem
namespace BadX
open PySem.W PySem.Calls PyProof.Rows PySem.HandSPX
/-! ### the text of __init__ -/
def iA (p1 p2 : Pos) : Arguments := { posonlyargs := [], args := [{ arg := "self", annotation := none, pos := p1 }, { arg := "at", annotation := none, pos := p2 }], vararg := none, kwonlyargs := [], kw_defaults := [], kwarg := none, defaults := [] }
def iB (q1 q2 q3 q4 : Pos) : List Stmt := [.Assign [.Attribute (.Name "self" q1) "at" q2] (.Name "at" q3) q4]
def iS : Scope := { kind := .function, names := [(PySem.Str.ofString "self", .local), (PySem.Str.ofString "at", .local)], isGenerator := false, isCoroutine := false, more := [] }
/-- what the written part says of Low, at C, and of its __init__, at fI -/
structure BadTxt (K : Frag) (mg : Str → Option Value) (C fI : Addr) : Prop where
  gC : mg "BadText" = some (.ref C)
  cls : ∃ nm q N bs bm sn sub ab col dd k0 k1 k2 k3 k5, K.lookup C = some (excClassObj nm q C N bs bm true sn sub ab col dd k0 k1 k2 k3 k5 "ValueError.__new__") ∧ refsVE bm = true
  sa : findIn K (.ref C) "__setattr__" = some (some (.builtin "object.__setattr__"))
  ga : findIn K (.ref C) "__getattribute__" = some (some (.builtin "BaseException.__getattribute__"))
  gg : findIn K (.ref C) "__getattr__" = some none
  noN : findIn K (.ref C) "at" = some none
  iC : findIn K (.ref C) "__init__" = some (some (.ref fI))
  tC : typeIn K (.ref fI) = some (.type "function")
  kC : keepIn K (.ref C) = true
  exC : subIn K (.ref C) (.type "BaseException") = some true
  tyC : typeIn K (.ref C) = some (.type "type")
  hdC : hasDictIn K C = true
  te : exmOne K (.ref C) (.ref C) = some true
  fn : ∃ (oc : Value) (od : Option Addr) (doc pm : Value) (an : Option Addr) (cdv ct : Value) (osl : Array (Option Value)) (p1 p2 q1 q2 q3 q4 : Pos),
    K.lookup fI = some ⟨oc, od, .func (fnOf "__init__" "BadText.__init__" (iA p1 p2) (iB q1 q2 q3 q4) iS .none .none doc pm an cdv ct), osl⟩ ∧ codeIn K cdv "BadText.__init__" = true
theorem one_size (v : Value) : [v].length ≤ sizeLine := by
  rw [sizeLine_eq]
  exact (by decide : 1 ≤ 16777216)
theorem kept_but {K : Frag} {h h' : Heap} {x : Addr} (X : K.In h) (hx : K.lookup x = none) (k : ∀ b o, b ≠ x → h.get? b = some o → h'.get? b = some o) : K.In h' := fun a o e =>
  k a o (fun z => by rw [z, hx] at e; cases e) (X a o e)
theorem ldC {M : Model} {s : Shared} {name : Str} {scope : Scope} {L a : Addr} {cd : Value} {m : Str → Option Value} {x : Str} {pos : Pos} {v : Value} {Q : Value → Shared → Prop} {A : Around} {E : Value → Shared → Prop} (hn : s.heap.Ns L m) (hv : m x = some v) (h : Q v s)
    (hk : scope.kind = .function := by rfl) (hl : (envOfC name scope L a cd).kindOf x = some .local := by rfl) (hd : (x == ("__debug__" : Str)) = false := by decide) :
    wpAny M A (eval (.Name x pos) (envOfC name scope L a cd)) Q E s := wpAny_Name (wpAny_loadName_local hk hl hn hv h) hd
/-- what __init__ leaves of a fresh exception at x -/
structure InitEnd (h h' : Heap) (x C dx t1 : Addr) (v : Value) : Prop where
  keep : ∀ b o, b ≠ x → h.get? b = some o → h'.get? b = some o
  obj : h'.get? x = some { cls := .ref C, dict := some dx, data := .fields #[.ref t1, .none, .none, .none, .bool false, .none] }
  dbig : h.objs.size ≤ dx
  dne : dx ≠ x
  ns : h'.Ns1 dx (fun y => if y = "at" then some v else none)
/-- a made Low -/
structure OwnMade (h h' : Heap) (e C d : Addr) (v : Value) : Prop where
  keep : ∀ b o, h.get? b = some o → h'.get? b = some o
  new : h.objs.size ≤ e
  obj : ∃ oe vs, h'.get? e = some oe ∧ oe.cls = .ref C ∧ oe.dict = some d ∧ oe.data = .fields vs ∧ vs[1]? = some .none
  dbig : h.objs.size ≤ d
  dne : d ≠ e
  ns : h'.Ns1 d (fun y => if y = "at" then some v else none)
section
variable {prog : Program} {w : World} {A : Around} {E : Value → Shared → Prop} {R : Result → Shared → Prop} {s : Shared} {K : Frag} {mg : Str → Option Value} {C fI : Addr}
theorem bad_init (T : BadTxt K mg C fI) {x t0 : Addr} {v : Value} (X : K.In s.heap) (hlim : s.heap.NoLimit) (hx : s.heap.get? x = some (excO C t0)) (hnx : K.lookup x = none) (hroom : A.depth < recursionLimit)
    (hq : ∀ h' tk dx, InitEnd s.heap h' x C dx t0 v → R (.ok (.ret .none)) { s with heap := h', toks := tk }) :
    codeAny (model prog w) A (.call (.ref fI) ⟨[.ref x, v], []⟩) R s := by
  obtain ⟨oc, od, doc, pm, an, cdv, ct, osl, p1, p2, q1, q2, q3, q4, ho, hcd⟩ := T.fn
  obtain ⟨nm, q, N, bs, bm, sn, sub, ab, col, dd, k0, k1, k2, k3, k5, hC, hbm⟩ := T.cls
  have hcl : clsIn K C = some { name := nm, bases := bs, mro := .ref C :: bm, ns := N, qualname := q, hasDict := true, slotNames := sn, subclasses := sub, abstract := ab, collection := col, hasDel := false } := by unfold clsIn; rw [hC] <;> rfl
  refine Att.call_fn (binds := [("self", .ref x), ("at", v)]) X hlim ho hcd hroom (BindsTo.of_eq (by first | rfl | with_unfolding_all rfl)) (by first | rfl | decide | with_unfolding_all rfl) (fun s₁ IC => ?_) rfl rfl rfl
  obtain ⟨h₁, tk₁, rfl⟩ := IC.toInCall.same
  have k : ∀ b o, s.heap.get? b = some o → h₁.get? b = some o := IC.toInCall.keep
  have hn := IC.toInCall.ns
  have hxL : s.heap.objs.size ≠ x := Nat.ne_of_gt (Heap.lt_size hx)
  have X₁ : K.In h₁ := X.keeps k
  have hx₁ := k _ _ hx
  -- self.by = by
  show wpAny _ _ (execs _ _) _ _ _
  refine wpAny_execs_cons (plainObj_wpAny_Assign_Attribute ?_)
  refine ldC (v := v) hn (by first | rfl | with_unfolding_all rfl | kernel_rfl) (ldC (v := .ref x) hn (by first | rfl | with_unfolding_all rfl | kernel_rfl) ?_)
  refine set_plain X₁ (ox := excO C t0) (od := none) ⟨hx₁, rfl, rfl, trivial⟩ T.sa ?_
  refine exc_osa X₁ hx₁ hcl (show refsVE (.ref C :: bm) = true from hbm) rfl T.noN (fun h₃ tk₃ dx k₃ dn dne hx₃ hn₃ => ?_)
  show wpAny _ _ (execs _ _) _ _ _
  have z : s.heap.objs.size < h₁.objs.size := hn.lt
  exact wpAny_execs_nil (hq h₃ tk₃ dx ⟨fun b o hb e => k₃ b o hb (k b o e), hx₃, Nat.le_of_lt (Nat.lt_of_lt_of_le z dn), dne, hn₃⟩)
theorem bad_made (T : BadTxt K mg C fI) {v : Value} (X : K.In s.heap) (hlim : s.heap.NoLimit) (hroom : A.depth + 1 < recursionLimit)
    (hq : ∀ h' tk e d, OwnMade s.heap h' e C d v → R (.ok (.ret (.ref e))) { s with heap := h', toks := tk }) :
    codeAny (model prog w) A (.call (.ref C) ⟨[v], []⟩) R s := by
  obtain ⟨nm, q, N, bs, bm, sn, sub, ab, col, dd, k0, k1, k2, k3, k5, hC, hbm⟩ := T.cls
  obtain ⟨hp, g, dr, tk, os⟩ := s
  have k : ∀ b o, hp.get? b = some o → ((hp.push (kdv_tup [v])).push (excO C hp.objs.size)).get? b = some o := fun b o e => Heap.get?_push_of_some _ (Heap.get?_push_of_some _ e)
  have hget : ((hp.push (kdv_tup [v])).push (excO C hp.objs.size)).get? (hp.objs.size + 1) = some (excO C hp.objs.size) := by heap_get
  have hnx : K.lookup (hp.objs.size + 1) = none := by
    cases e : K.lookup (hp.objs.size + 1) with
    | none => rfl
    | some o =>
      have z : hp.get? (hp.objs.size + 1) = some o := X _ _ e
      exact absurd (Nat.lt_of_succ_lt (Heap.lt_size z)) (Nat.lt_irrefl _)
  refine call_own F.excBase_ValueError (fun X => refsVE_contains X bm hbm) (X _ _ hC) (looks_findIn X T.iC) (fun self => bind_fn X self T.tC) (one_size v) ?_
  refine bad_init (s := ⟨(hp.push (kdv_tup [v])).push (excO C hp.objs.size), g, dr, tk, os⟩) T (X.keeps k) (hlim.keeps k) hget hnx ?_ fun h' tk' dx ⟨k', hx, dn, dne, hns⟩ => ?_
  · show A.depth + 1 < recursionLimit
    exact hroom
  · have old : ∀ b o, hp.get? b = some o → h'.get? b = some o := fun b o e => k' b o (Nat.ne_of_lt (Nat.lt_succ_of_lt (Heap.lt_size e))) (k b o e)
    have z : hp.objs.size + 1 + 1 ≤ dx := by
      first
        | (simpa only [Heap.size_push] using dn)
        | exact dn
        | (have q := dn; rw [Heap.size_push, Heap.size_push] at q; exact q)
    exact ⟨rfl, hq h' tk' (hp.objs.size + 1) dx ⟨old, Nat.le_succ _, ⟨_, _, hx, rfl, rfl, rfl, rfl⟩, Nat.le_trans (Nat.le_trans (Nat.le_succ _) (Nat.le_succ _)) z, dne, hns⟩⟩
end
end BadX
end PySem
namespace A1
open PySem PySem.Spec PyProof.Rows L2
theorem relO_badt {v : V} {v' : Value} (r : RelV v v') (f : Str) : RelO (List.lookup f [(("at" : Str), v)]) (if f = "at" then some v' else none) := by
  by_cases hw : f = "at"
  · subst hw
    rw [if_pos rfl]
    have q : List.lookup ("at" : Str) [(("at" : Str), v)] = some v := by simp [List.lookup]
    rw [q]
    exact r
  · rw [if_neg hw]
    have qw : (f == ("at" : Str)) = false := by simpa using hw
    have q2 : List.lookup f [(("at" : Str), v)] = none := by simp [List.lookup, qw]
    rw [q2]
    trivial
section
variable {X : Cx} {C fI : Addr}
/-- Low(e) -/
def tMkBadt (C : Addr) (ta : TA) : L2.St → Hp → XK → Prop := fun σ H Q => ta σ H fun vs H1 => ∃ v, vs = [v] ∧ ∀ d, H1 d = none → Q (.ref C) (some d) (upd H1 d (.xd [(("at" : Str), v)]))
theorem pmk_badt {a : Expr} {ta : TA} {p pos : Pos} {k : Nat} (T : PySem.BadX.BadTxt X.K X.mg C fI) (hr : Room k X.A) (ha : PA X [a] ta) (hg : Gl X "BadText" := by rfl)
    (he : starEach (a :: []) X.env = (false, eval a X.env) :: starEach [] X.env := by rfl) (hpl : (backTo pos (starEach [] X.env)).any (·.1) = false := by rfl) :
    PMk X (.Call (.Name "BadText" p) [a] [] pos) (tMkBadt C ta) := by
  intro pins s σ H Q I h
  refine wpAny_Call_Name_kw (ld_glob I hg T.gC ?_)
  refine PySem.W.callWith_K (h₀ := X.base) I.ok.mod.kin T.kC (thn (ha.run pos pins s σ H _ I h) fun us s1 hh => ?_) he hpl
  obtain ⟨vs, H1, I1, r1, v, ev, q1⟩ := hh
  subst ev
  refine ⟨I1.kIn, ?_⟩
  cases r1 with
  | cons rv rn =>
    rename_i v' us'
    cases rn
    show wpAny _ _ (call (.ref C) [v']) _ _ _
    have hlim := I1.nolimit
    obtain ⟨hp, g, dr, tk, os⟩ := s1
    refine wpAny_call (PySem.BadX.bad_made T I1.kIn hlim (by have := hr.dp; omega) fun h' tk' e d M => ?_)
    show MkP X pins σ Q (.ref e) ⟨h', g, dr, tk', os⟩
    obtain ⟨oe, fv, hoe, hc, hd, hdat, h1⟩ := M.obj
    have hns := M.ns
    obtain ⟨G', g1, g2⟩ := restrict h' fun b => decide (b ≠ e)
    have gk : ∀ b, b ≠ e → G'.get? b = h'.get? b := fun b hb => g1 b (decide_eq_true hb)
    have ge : G'.get? e = none := g2 e (by simp)
    have old : ∀ b o, hp.get? b = some o → G'.get? b = some o := fun b o q => (gk b (Nat.ne_of_lt (Nat.lt_of_lt_of_le (Heap.lt_size q) M.new))).trans (M.keep b o q)
    have ob : ObjOk X.prog X.w (upd H1 d (.xd [(("at" : Str), v)])) G' d (.xd [(("at" : Str), v)]) :=
      ⟨_, hns.at (fun o q => (gk d M.dne).trans q), fun f => relO_badt rv f⟩
    have J : Inv X pins σ (upd H1 d (.xd [(("at" : Str), v)])) ⟨G', g, dr, tk', os⟩ := I1.laid (t' := tk') old M.dbig ob
    refine ⟨e, oe, fv, ⟨G', g, dr, tk', os⟩, _, .ref C, some d, rfl, J, fun b o q => ?_, ge, hoe, ⟨hc, hd⟩, hdat, h1, ?_, rfl, I1.bare, raises_own T.exC T.tyC, q1 d (I1.hok.fresh M.dbig)⟩
    · by_cases hb : b = e
      · have q' : G'.get? b = some o := q
        rw [hb, ge] at q'; cases q'
      · exact (gk b hb).symm.trans q
    · rw [upd_ne (Ne.symm M.dne)]
      exact I1.hok.fresh M.new
/-- raise Low(e) -/
def tRaiseBadt (C : Addr) (W : WX) (ta : TA) : TS := fun _ σ H => tMkBadt C ta σ H fun cls d H' => W cls d σ H'
theorem ps_raiseBadt {a : Expr} {ta : TA} {W : WX} {p pos pos2 : Pos} {k : Nat} (hc : X.calm = true) (T : PySem.BadX.BadTxt X.K X.mg C fI) (hr : Room k X.A) (tk : Takes X W) (ha : PA X [a] ta) (hg : Gl X "BadText" := by rfl)
    (he : starEach (a :: []) X.env = (false, eval a X.env) :: starEach [] X.env := by rfl) (hpl : (backTo pos (starEach [] X.env)).any (·.1) = false := by rfl) :
    PS X (.Raise (some (.Call (.Name "BadText" p) [a] [] pos)) none pos2) (tRaiseBadt C W ta) := ps_raise hc tk (pmk_badt T hr ha hg he hpl)
/-- low.by, low the exception that the suite holds (at a; its class cls, its dict d) -/
def tAtOf (C : Addr) (a : Addr) (cls : Value) (d : Option Addr) (te : TE) : TE := fun σ H Q => te σ H fun x H1 => x = .ref a ∧ cls = .ref C ∧ ∃ (dd : Addr) (v : V), d = some dd ∧ H1 dd = some (.xd [(("at" : Str), v)]) ∧ Q v H1
theorem pe_atOf {a : Addr} {oe : Obj} {cls : Value} {d : Option Addr} {pn : List (Addr × Obj)} {e : Expr} {te : TE} {pos : Pos} (T : PySem.BadX.BadTxt X.K X.mg C fI) (hz : Zc cls d oe) (hf : ∃ vs, oe.data = .fields vs) (he : PE (X.suite a ((a, oe) :: pn)) e te)
    (hb : attributeBase e "at" X.env (eval e X.env) = eval e X.env := by rfl) :
    PE (X.suite a ((a, oe) :: pn)) (.Attribute e "at" pos) (tAtOf C a cls d te) := by
  refine ⟨fun pins s σ H Q I h => ?_⟩
  refine attr_of hb (thn (he.run pins s σ H _ I h) fun u s1 hh => ?_)
  obtain ⟨x, H1, I1, rx, ex, ec, dd, v, ed, ea, q⟩ := hh
  subst ex
  obtain rfl : u = Value.ref a := rx
  subst ec
  subst ed
  obtain ⟨ha, _⟩ := I1.pin (a, oe) (List.mem_append_left _ List.mem_cons_self)
  obtain ⟨vs, hd⟩ := hf
  have hx : ObjOk X.prog X.w H1 s1.heap dd (.xd [(("at" : Str), v)]) := I1.hok dd _ ea
  obtain ⟨mA, hns, hr⟩ := hx
  obtain ⟨od, ho, hl⟩ := lookIn_ns hns
  have l : List.lookup ("at" : Str) [(("at" : Str), v)] = some v := by simp [List.lookup]
  obtain ⟨u, hu, ru⟩ := RelO.some_of (v := v) (o := mA "at") (by rw [← l]; exact hr "at")
  have J : PySem.W.InstAt s1.heap a oe C (some od) := ⟨ha, hz.1, by unfold PySem.W.notCls; rw [hd] <;> rfl, by rw [hz.2]; exact ho⟩
  exact HandSPX.exc_get I1.kIn J T.ga T.gg T.exC (PySem.W.findObj_own T.hdC T.noN rfl (by rw [hl, hu])) (handed_of ru) ⟨v, H1, I1.tok _, ru, q⟩
end
end A1

namespace A1
open PySem L2 PySem.Spec PyProof.Rows
/-! min(xs, default=None) of whole numbers -/
def rMinD (K : PySem.W.Frag) : List V → List V → Hp → VK → Prop := fun xs zs H Q => ∃ (a : Addr) (ns : List Int), xs = [.ref a] ∧ zs = [.non] ∧ SqL K H a (ns.map V.int) ∧ (ns = [] → Q .non H) ∧ ∀ m, m ∈ ns → (∀ y ∈ ns, m ≤ y) → Q (.int m) H
theorem min_is (n : Int) : ∀ ns : List Int, ns.foldl min n ∈ n :: ns ∧ ∀ y ∈ n :: ns, ns.foldl min n ≤ y
  | [] => ⟨List.mem_cons_self, fun y hy => by rw [List.mem_singleton.mp hy]; exact Int.le_refl _⟩
  | k :: r => by
    obtain ⟨h1, h2⟩ := min_is (min n k) r
    rw [List.foldl_cons]
    have m0 := h2 _ List.mem_cons_self
    refine ⟨?_, fun y hy => ?_⟩
    · rcases List.mem_cons.mp h1 with e | e
      · rw [e]
        rcases (by omega : min n k = n ∨ min n k = k) with q | q
        · rw [q]; exact List.mem_cons_self
        · rw [q]; exact List.mem_cons_of_mem _ List.mem_cons_self
      · exact List.mem_cons_of_mem _ (List.mem_cons_of_mem _ e)
    · rcases List.mem_cons.mp hy with e | e
      · rw [e]; omega
      · rcases List.mem_cons.mp e with q | q
        · rw [q]; omega
        · exact h2 y (List.mem_cons_of_mem _ q)
theorem depth_ints : ∀ ns : List Int, PyData.depthAll (ns.map .int) = 0
  | [] => rfl
  | n :: r => by
    show max 0 (PyData.depthAll (r.map .int)) = 0
    rw [depth_ints r]; rfl
theorem alike_ints (ns : List Int) : PySem.W.AlikeAll (ns.map .int) := by
  refine ⟨fun x hx y hy => ?_, fun x hx => ?_⟩
  · obtain ⟨i, _, rfl⟩ := List.mem_map.mp hx
    obtain ⟨j, _, rfl⟩ := List.mem_map.mp hy
    rfl
  · obtain ⟨i, _, rfl⟩ := List.mem_map.mp hx
    exact fun z => nomatch z
theorem cr_minD {X : Cx} {K : PySem.W.Frag} (hK : X.K = K) (hc : X.calm = true) (hu : X.A.units + 1 < cLine) : CallRK X (.builtin "min") ["default"] (rMinD K) := by
  subst hK
  intro pins s σ H xs zs us ws Q I r1 r2 h
  obtain ⟨a, ns, rfl, rfl, hs, q0, q⟩ := h
  obtain ⟨its, rv, hl, _⟩ := I.list hs
  rw [Vals.ref1 r1]
  cases r2 with
  | cons rz rr =>
    cases rr
    cases (show _ = Value.none from rz)
    have hr := rv.ints.reads s.heap
    refine PySem.W.min_list_default (d := .none) (I.ok.hd hc) hl.isList (by simpa using hr) (alike_ints ns) (by rw [depth_ints]; exact hu) (fun e h' tk k => ?_) (fun y ys i v h' tk bs e hv rd k => ?_)
    · cases ns with
      | nil => exact ⟨.non, H, I.kept k, rfl, q0 rfl⟩
      | cons n r => cases e
    · cases ns with
      | nil => cases e
      | cons n r =>
        rw [List.map_cons] at e
        injection e with e1 e2
        subst e1 e2
        rw [PySem.W.minD_ints] at rd
        obtain ⟨m1, m2⟩ := min_is n r
        cases rd
        exact ⟨.int _, H, I.kept k, ⟨_, rfl⟩, q _ m1 m2⟩
end A1

namespace A1
open PySem L2 PySem.Spec PyProof.Rows
/-! ## the tokens of a text, and what is read of them -/
inductive Tk where
  | word (z : Str) | text (z : Str) | num (i : Int) | sign (c : Nat) | fin | wrong
def Tk.kind : Tk → Str
  | .word _ => "word" | .text _ => "text" | .num _ => "number" | .sign c => ⟨#[c]⟩ | .fin => "end" | .wrong => "wrong"
def Tk.heldT : Tk → TD
  | .word z | .text z => .str z | .num i => .int i | .sign c => .str ⟨#[c]⟩ | .fin | .wrong => .str ""
def Tk.heldV : Tk → V
  | .word z | .text z => .str z | .num i => .int i | .sign c => .str ⟨#[c]⟩ | .fin | .wrong => .str ""
/-- a token and the place of its first sign -/
abbrev Tok : Type := Tk × Nat
def tokV (t : Tok) : List V := [.str t.1.kind, t.1.heldV, .int (t.2 : Nat)]
def tokT (t : Tok) : TD := .tup [.str t.1.kind, t.1.heldT, .int (t.2 : Nat)]
theorem held_rp {K : PySem.W.Frag} {H : Hp} (t : Tk) : Rp K H t.heldV t.heldT := by
  cases t with
  | num i => exact .int i
  | word z => exact .str z
  | text z => exact .str z
  | sign z => exact .str _
  | fin => exact .str _
  | wrong => exact .str _
theorem Rp.tok {K : PySem.W.Frag} {H : Hp} {v : V} {t : Tok} (r : Rp K H v (tokT t)) : ∃ a, v = .ref a ∧ SqT K H a (tokV t) := by
  obtain ⟨t, n⟩ := t
  cases r with
  | tup s ra =>
    refine ⟨_, rfl, ?_⟩
    cases ra with
    | cons a b => cases b with
      | cons c d => cases d with
        | cons e f =>
          cases f
          cases a
          cases e
          cases t <;> (cases c; exact s)
/-- the last token ends the text -/
inductive Good : List Tok → Prop
  | fin (a : Nat) : Good [(.fin, a)]
  | wrong (a : Nat) : Good [(.wrong, a)]
  | cons (t : Tok) {l : List Tok} : Good l → Good (t :: l)
theorem Good.rest {t : Tk} {a : Nat} {l : List Tok} (h : Good ((t, a) :: l)) (h1 : t.kind ≠ "end") (h2 : t.kind ≠ "wrong") : Good l := by
  cases h with
  | fin => exact (h1 rfl).elim
  | wrong => exact (h2 rfl).elim
  | cons _ g => exact g
theorem Good.ne {l : List Tok} (h : Good l) : ∃ t a r, l = (t, a) :: r := by
  cases h with
  | fin a => exact ⟨_, _, _, rfl⟩
  | wrong a => exact ⟨_, _, _, rfl⟩
  | cons t g => exact ⟨t.1, t.2, _, rfl⟩
/-! ### an object that reads -/
def rf (T : Addr) (p : Nat) : List (Str × V) := [("tokens", .ref T), ("place", .int (p : Nat))]
theorem rf_tok (T : Addr) (p : Nat) : (rf T p).lookup ("tokens" : Str) = some (.ref T) := by
  unfold rf; simp [List.lookup]
theorem rf_place (T : Addr) (p : Nat) : (rf T p).lookup ("place" : Str) = some (.int (p : Nat)) := by
  unfold rf
  rw [List.lookup_cons]
  rw [show ((("place" : Str) == ("tokens" : Str)) = false) by decide +kernel]
  simp [List.lookup]
theorem rf_no (T : Addr) (p : Nat) {m : Str} (h1 : (m == ("tokens" : Str)) = false) (h2 : (m == ("place" : Str)) = false) : (rf T p).lookup m = none := by
  unfold rf
  rw [List.lookup_cons, h1, List.lookup_cons, h2]; rfl
theorem rf_put (T : Addr) (p q : Nat) : putF "place" (.int (q : Nat)) (rf T p) = rf T q := by
  unfold rf
  show (if ("tokens" : Str) = "place" then _ else (("tokens" : Str), V.ref T) :: (if ("place" : Str) = "place" then [(("place" : Str), V.int (q : Nat))] else _)) = _
  rw [if_neg (by decide +kernel), if_pos rfl]
/-- at r stands a reader that has still to read l, its tokens in the list at T -/
structure Rdr (K : PySem.W.Frag) (C r T : Addr) (l : List Tok) (H : Hp) : Prop where
  ex : ∃ (dx : Addr) (xs : List V) (ts : List Tok) (p : Nat), H r = some (.ins C dx (rf T p)) ∧ H T = some (.lst xs) ∧ RpA K H xs (ts.map tokT) ∧ ts.drop p = l
/-- the reader at r may have gone on; all else stays -/
structure Only (r : Addr) (H H' : Hp) : Prop where
  st : ∃ C dx fs, H r = some (.ins C dx fs)
  en : ∃ C dx fs, H' r = some (.ins C dx fs)
  kp : ∀ b u, b ≠ r → H b = some u → H' b = some u
section
variable {K : PySem.W.Frag} {H H' H1 H2 : Hp} {r p C T : Addr} {l : List Tok}
theorem Rdr.isI (h : Rdr K C r T l H) : ∃ C dx fs, H r = some (.ins C dx fs) := by
  obtain ⟨dx, xs, ts, p, e, _⟩ := h.ex
  exact ⟨_, _, _, e⟩
theorem Rdr.isT (h : Rdr K C r T l H) : ∃ xs, H T = some (.lst xs) := by
  obtain ⟨dx, xs, ts, p, _, e, _⟩ := h.ex
  exact ⟨_, e⟩
theorem Rdr.ne (h : Rdr K C r T l H) : T ≠ r := fun z => by
  obtain ⟨dx, xs, ts, p, e, e2, _⟩ := h.ex
  rw [z, e] at e2; cases e2
theorem Only.refl (h : ∃ C dx fs, H r = some (.ins C dx fs)) : Only r H H := ⟨h, h, fun _ _ _ q => q⟩
theorem Only.trans (a : Only r H H1) (b : Only r H1 H2) : Only r H H2 := ⟨a.st, b.en, fun c u n q => b.kp c u n (a.kp c u n q)⟩
theorem Only.same (a : Only r H H1) (s : Same H1 H2) : Only r H H2 := by
  obtain ⟨C, dx, fs, q⟩ := a.en
  exact ⟨a.st, ⟨C, dx, fs, s _ _ q⟩, fun b u n e => s _ _ (a.kp b u n e)⟩
theorem Only.ne_new (a : Only r H H1) (h : H1 p = none) : p ≠ r := fun e => by
  obtain ⟨_, _, _, q⟩ := a.en
  rw [e, q] at h; cases h
theorem Only.fresh (a : Only r H H1) (h : H1 p = none) : H p = none := by
  cases q : H p with
  | none => rfl
  | some u =>
    have := a.kp p u (a.ne_new h) q
    rw [h] at this; cases this
theorem Only.own (a : Only r H H1) (h : H p = none) {o : HO} : Only r H (upd H1 p o) := by
  obtain ⟨C0, dx0, fs0, q0⟩ := a.st
  have np : r ≠ p := fun e => by rw [e, h] at q0; cases q0
  obtain ⟨C, dx, fs, q⟩ := a.en
  exact ⟨a.st, ⟨C, dx, fs, by rw [upd_ne np]; exact q⟩, fun b u n e => by rw [upd_ne (ne_of_none e h)]; exact a.kp b u n e⟩
theorem Only.sqt (g : Only r H H') {a : Addr} {xs : List V} (h : SqT K H a xs) : SqT K H' a xs := by
  have nd : ∀ {u : HO}, (∀ C dx fs, u ≠ .ins C dx fs) → H a = some u → a ≠ r := fun hu q e => by
    obtain ⟨C, dx, fs, z⟩ := g.st
    rw [e, z] at q; cases q
    exact hu _ _ _ rfl
  rcases h with (h | ⟨o, h⟩) | h
  · exact .inl (.inl (g.kp _ _ (nd (fun _ _ _ z => by cases z) h) h))
  · exact .inl (.inr ⟨o, g.kp _ _ (nd (fun _ _ _ z => by cases z) h) h⟩)
  · exact .inr h
theorem Only.rp (g : Only r H H') {v : V} {t : TD} (h : Rp K H v t) : Rp K H' v t := Rp.mono (fun _ _ => g.sqt) t v h
theorem Only.rpa (g : Only r H H') {v : List V} {t : List TD} (h : RpA K H v t) : RpA K H' v t := RpA.mono (fun _ _ => g.sqt) t v h
theorem Rdr.same (h : Rdr K C r T l H) (s : Same H H') : Rdr K C r T l H' := by
  obtain ⟨dx, xs, ts, p, e, eT, ra, d⟩ := h.ex
  exact ⟨dx, xs, ts, p, s _ _ e, s _ _ eT, same_rpa s ra, d⟩
/-- another list is written -/
theorem Rdr.put (h : Rdr K C r T l H) {ys : List V} {o : HO} (hp : H p = some (.lst ys)) (hn : p ≠ T) : Rdr K C r T l (upd H p o) := by
  obtain ⟨dx, xs, ts, q, e, eT, ra, d⟩ := h.ex
  have nr : r ≠ p := fun z => by rw [z, hp] at e; cases e
  exact ⟨dx, xs, ts, q, by rw [upd_ne nr]; exact e, by rw [upd_ne (Ne.symm hn)]; exact eT, rpa_put hp ra, d⟩
theorem Only.ins (h : H r = some (.ins C p f)) {g : List (Str × V)} : Only r H (upd H r (.ins C p g)) := ⟨⟨_, _, _, h⟩, ⟨_, _, _, upd_same⟩, fun b u n q => by rw [upd_ne n]; exact q⟩
theorem drop_head {α : Type} {ts : List α} {p : Nat} {x : α} {l : List α} (h : ts.drop p = x :: l) : ts[p]? = some x ∧ ts.drop (p + 1) = l := by
  have e : (ts.drop p)[0]? = some x := by rw [h]; rfl
  rw [List.getElem?_drop, Nat.add_zero] at e
  refine ⟨e, ?_⟩
  have : (ts.drop p).drop 1 = l := by rw [h]; rfl
  rw [List.drop_drop] at this
  exact this
/-- the next token, and the reader behind it -/
theorem Rdr.step {t : Tok} (h : Rdr K C r T (t :: l) H) : ∃ (dx : Addr) (xs : List V) (p : Nat) (a : Addr), H r = some (.ins C dx (rf T p)) ∧ H T = some (.lst xs) ∧ atI xs (p : Int) = some (.ref a) ∧ SqT K H a (tokV t) ∧
    Only r H (upd H r (.ins C dx (rf T (p + 1)))) ∧ Rdr K C r T l (upd H r (.ins C dx (rf T (p + 1)))) := by
  have nT := h.ne
  obtain ⟨dx, xs, ts, p, e, eT, ra, d⟩ := h.ex
  obtain ⟨h1, h2⟩ := drop_head d
  have h3 : (ts.map tokT)[p]? = some (tokT t) := by rw [List.getElem?_map, h1]; rfl
  obtain ⟨v, hv, rv⟩ := ra.get h3
  obtain ⟨a, rfl, sq⟩ := rv.tok
  have o : Only r H (upd H r (.ins C dx (rf T (p + 1)))) := Only.ins e
  exact ⟨dx, xs, p, a, e, eT, atI_nat hv, sq, o, ⟨dx, xs, ts, p + 1, upd_same, by rw [upd_ne nT]; exact eT, o.rpa ra, h2⟩⟩
/-- the token behind the next one -/
theorem Rdr.step2 {t u : Tok} (h : Rdr K C r T (t :: u :: l) H) : ∃ (dx : Addr) (xs : List V) (p : Nat) (a : Addr), H r = some (.ins C dx (rf T p)) ∧ H T = some (.lst xs) ∧ atI xs ((p : Int) + 1) = some (.ref a) ∧ SqT K H a (tokV u) := by
  obtain ⟨dx, xs, ts, p, e, eT, ra, d⟩ := h.ex
  obtain ⟨_, h2⟩ := drop_head d
  obtain ⟨h1, _⟩ := drop_head h2
  have h3 : (ts.map tokT)[p + 1]? = some (tokT u) := by rw [List.getElem?_map, h1]; rfl
  obtain ⟨v, hv, rv⟩ := ra.get h3
  obtain ⟨a, rfl, sq⟩ := rv.tok
  exact ⟨dx, xs, p, a, e, eT, by have := atI_nat hv; rw [show (((p + 1 : Nat)) : Int) = (p : Int) + 1 by omega] at this; exact this, sq⟩
end
section
variable {K : PySem.W.Frag} {H : Hp} {Q : VK} {σ : L2.St} {D : Ends}
def rFld (K : PySem.W.Frag) (f : Str) (x : V) (H : Hp) (Q : VK) : Prop := ∃ a C dx fs v, x = .ref a ∧ H a = some (.ins C dx fs) ∧ Cls K C ∧ NoAttr K C f ∧ fs.lookup f = some v ∧ Q v H
theorem rd_fld {ta : TE} {f : Str} (q : ta σ H fun x H1 => rFld K f x H1 Q) : tFld K ta f σ H Q := q
theorem rd_fldI {f : Str} {a C dx : Addr} {fs : List (Str × V)} {v : V} (h : H a = some (.ins C dx fs)) (c : Cls K C) (n : NoAttr K C f) (l : fs.lookup f = some v) (q : Q v H) : rFld K f (.ref a) H Q := ⟨a, C, dx, fs, v, rfl, h, c, n, l, q⟩
def rMth (C : Addr) (m : Str) (sp : Sp) (E : XK) (t : TA) (σ : L2.St) (Q : VK) (x : V) (H : Hp) : Prop := ∃ a dx fs, x = .ref a ∧ H a = some (.ins C dx fs) ∧ fs.lookup m = none ∧ t σ H fun vs H2 => sp (x :: (vs ++ [])) H2 Q E
theorem rd_mth {C : Addr} {m : Str} {sp : Sp} {E : XK} {ta : TE} {t : TA} (q : ta σ H fun x H1 => rMth C m sp E t σ Q x H1) : tMeth C m sp [] E ta t σ H Q := q
theorem rd_mthI {C : Addr} {m : Str} {sp : Sp} {E : XK} {t : TA} {a T : Addr} {l : List Tok} (R : Rdr K C a T l H) (h1 : (m == ("tokens" : Str)) = false) (h2 : (m == ("place" : Str)) = false) (q : t σ H fun vs H2 => sp (.ref a :: (vs ++ [])) H2 Q E) : rMth C m sp E t σ Q (.ref a) H := by
  obtain ⟨dx, xs, ts, p, e, _⟩ := R.ex
  exact ⟨a, dx, _, rfl, e, rf_no T p h1 h2, q⟩
theorem rd_place {i : Nat} {r C dx T : Addr} {p : Nat} (e : σ[i]? = some (some (.ref r))) (h : H r = some (.ins C dx (rf T p))) (c : Cls K C) (n : NoAttr K C "place") (q : D.nx σ (upd H r (.ins C dx (rf T (p + 1))))) : sFldAug K (tVar i) (tC (V.int 1)) rAdd "place" D σ H := by
  refine ⟨.ref r, e, r, C, dx, _, _, rfl, h, c, n, rf_place T p, _, _, rfl, rfl, dx, _, h, by show 2 < 1000; decide, ?_⟩
  have ep : putF "place" (V.int ((p : Int) + 1)) (rf T p) = rf T (p + 1) := by
    have := rf_put T p (p + 1)
    rw [show (((p + 1 : Nat)) : Int) = (p : Int) + 1 by omega] at this
    exact this
  rw [ep]
  exact q
theorem dec_str (a b : Str) : decide (V.str a = V.str b) = decide (a = b) := by
  by_cases h : a = b
  · subst h; simp
  · rw [decide_eq_false h, decide_eq_false fun e => h (V.str.inj e)]
end
/-! ### what is read -/
abbrev Res (α : Type) : Type := Except Nat (α × List Tok)
def bnd {α β : Type} (m : Res α) (f : α → List Tok → Res β) : Res β := match m with
  | .ok (x, l) => f x l
  | .error n => .error n
def mpR {α β : Type} (f : α → β) (m : Res α) : Res β := bnd m fun x l => .ok (f x, l)
theorem bnd_ok {α β : Type} {m : Res α} {f : α → List Tok → Res β} {x : α} {l : List Tok} (h : m = .ok (x, l)) : bnd m f = f x l := by subst h; rfl
theorem bnd_er {α β : Type} {m : Res α} {f : α → List Tok → Res β} {n : Nat} (h : m = .error n) : bnd m f = .error n := by subst h; rfl
theorem mpR_ok {α β : Type} {m : Res α} {f : α → β} {x : α} {l : List Tok} (h : m = .ok (x, l)) : mpR f m = .ok (f x, l) := by subst h; rfl
theorem mpR_er {α β : Type} {m : Res α} {f : α → β} {n : Nat} (h : m = .error n) : mpR f m = .error n := by subst h; rfl
theorem mpR_mpR {α β γ : Type} (m : Res α) (f : α → β) (g : β → γ) : mpR g (mpR f m) = mpR (fun x => g (f x)) m := by
  cases m with
  | ok p => rfl
  | error n => rfl
theorem mpR_id {α : Type} (m : Res α) : mpR (fun x => x) m = m := by
  cases m with
  | ok p => rfl
  | error n => rfl
theorem mpR_bnd {α β γ : Type} (m : Res α) (f : α → List Tok → Res β) (g : β → γ) : mpR g (bnd m f) = bnd m fun x l => mpR g (f x l) := by
  cases m with
  | ok p => rfl
  | error n => rfl
def sees (k : Str) : List Tok → Bool
  | [] => false
  | (t, _) :: _ => decide (t.kind = k)
def takeK (k : Str) : List Tok → Res Tk
  | [] => .error 0
  | (t, a) :: l => if t.kind = k then .ok (t, l) else .error a
def seesW (z : Str) : List Tok → Bool
  | (.word y, _) :: _ => decide (y = z)
  | _ => false
def takeW (z : Str) : List Tok → Res Unit
  | [] => .error 0
  | (t, a) :: l => if seesW z ((t, a) :: l) = true then .ok ((), l) else .error a
theorem takeK_cons (k : Str) (t : Tk) (a : Nat) (l : List Tok) : takeK k ((t, a) :: l) = if t.kind = k then .ok (t, l) else .error a := rfl
theorem takeW_cons (z : Str) (t : Tk) (a : Nat) (l : List Tok) : takeW z ((t, a) :: l) = if seesW z ((t, a) :: l) = true then .ok ((), l) else .error a := rfl
theorem takeK_good {k : Str} {l l' : List Tok} {t : Tk} (h : takeK k l = .ok (t, l')) (g : Good l) (h1 : k ≠ "end") (h2 : k ≠ "wrong") : Good l' ∧ l'.length + 1 = l.length ∧ t.kind = k := by
  cases l with
  | nil => cases h
  | cons x l =>
    obtain ⟨t0, a⟩ := x
    rw [takeK_cons] at h
    by_cases e : t0.kind = k
    · rw [if_pos e] at h
      cases h
      exact ⟨g.rest (by rw [e]; exact h1) (by rw [e]; exact h2), rfl, e⟩
    · rw [if_neg e] at h
      cases h
theorem takeW_good {z : Str} {l l' : List Tok} {u : Unit} (h : takeW z l = .ok (u, l')) (g : Good l) : Good l' ∧ l'.length + 1 = l.length := by
  cases l with
  | nil => cases h
  | cons x l =>
    obtain ⟨t0, a⟩ := x
    rw [takeW_cons] at h
    by_cases e : seesW z ((t0, a) :: l) = true
    · rw [if_pos e] at h
      cases h
      have hw : ∃ y, t0 = .word y := by
        cases t0 with
        | word y => exact ⟨y, rfl⟩
        | _ => cases e
      obtain ⟨y, rfl⟩ := hw
      exact ⟨g.rest (show ("word" : Str) ≠ "end" by decide +kernel) (show ("word" : Str) ≠ "wrong" by decide +kernel), rfl⟩
    · rw [if_neg e] at h
      cases h
/-- what a function that reads gives back, or raises -/
def Ans {α : Type} (K : PySem.W.Frag) (CR CB r T : Addr) (H : Hp) (m : Res α) (rep : α → V → Hp → Prop) (Q : VK) (E : XK) : Prop :=
  (∀ x l', m = .ok (x, l') → ∀ v H', Only r H H' → Rdr K CR r T l' H' → rep x v H' → Q v H') ∧ ∀ n, m = .error n → ∀ d H', Only r H H' → H' d = some (.xd [(("at" : Str), .int (n : Nat))]) → E (.ref CB) (some d) H'
end A1

namespace A1
open PySem L2 PySem.Spec PyProof.Rows
/-! ## questions read off tokens -/
/-- terms, atoms, joins as data -/
inductive Tm where
  | var (z : Str) | num (i : Int) | wrd (z : Str)
def Tm.td : Tm → TD
  | .var z => .tup [.str "var", .str z]
  | .num i => .tup [.str "value", .int i]
  | .wrd z => .tup [.str "value", .str z]
structure At where
  nm : Str
  ts : List Tm
def At.td (a : At) : TD := .tup [.str a.nm, .tup (a.ts.map Tm.td)]
structure Jn where
  hd : List Tm
  bd : List At
def Jn.td (j : Jn) : TD := .tup [.tup (j.hd.map Tm.td), .tup (j.bd.map At.td)]
def questD (n : Int) (js : List Jn) : TD := .tup [.int n, .tup (js.map Jn.td)]
def readTerm : List Tok → Res Tm
  | [] => .error 0
  | (.word z, _) :: l => .ok (.var z, l)
  | (.text z, _) :: l => .ok (.wrd z, l)
  | (.num i, _) :: l => .ok (.num i, l)
  | (_, a) :: _ => .error a
def readMore : Nat → List Tok → Res (List Tm)
  | 0, _ => .error 0
  | n + 1, l => if sees ")" l = true then mpR (fun _ => []) (takeK ")" l) else bnd (takeK "," l) fun _ l1 => bnd (readTerm l1) fun t l2 => mpR (fun ts => t :: ts) (readMore n l2)
def readTerms (l : List Tok) : Res (List Tm) := bnd (takeK "(" l) fun _ l1 => if sees ")" l1 = true then readMore (l1.length + 1) l1 else bnd (readTerm l1) fun t l2 => mpR (fun ts => t :: ts) (readMore (l2.length + 1) l2)
def readH : Nat → Nat → List Tok → Res (List Tm)
  | _, 0, l => .ok ([], l)
  | i, n + 1, l => bnd (if 0 < i then mpR (fun _ => ()) (takeK "," l) else .ok ((), l)) fun _ l1 => bnd (readTerm l1) fun t l2 => mpR (fun ts => t :: ts) (readH (i + 1) n l2)
def readHead (w : Nat) (l : List Tok) : Res (List Tm) := bnd (takeK "(" l) fun _ l1 => bnd (readH 0 w l1) fun ts l2 => mpR (fun _ => ts) (takeK ")" l2)
def wordOf : Tk → Str
  | .word z => z
  | _ => ""
def readAtom (l : List Tok) : Res At := bnd (takeK "word" l) fun t l1 => mpR (fun ts => ⟨wordOf t, ts⟩) (readTerms l1)
def readAtoms : Nat → List Tok → Res (List At)
  | 0, _ => .error 0
  | n + 1, l => if seesW "and" l = true then bnd (takeW "and" l) fun _ l1 => bnd (readAtom l1) fun a l2 => mpR (fun as => a :: as) (readAtoms n l2) else .ok ([], l)
def behind (k : Str) : List Tok → Bool
  | [] => false
  | _ :: l => sees k l
def readRest (l : List Tok) : Res (List At) := bnd (takeW "if" l) fun _ l1 => if (seesW "true" l1 && !behind "(" l1) = true then mpR (fun _ => []) (takeW "true" l1) else bnd (readAtom l1) fun a l2 => mpR (fun as => a :: as) (readAtoms (l2.length + 1) l2)
def readJs (w : Nat) : Nat → List Tok → Res (List Jn)
  | 0, _ => .error 0
  | n + 1, l => if sees ";" l = true then bnd (takeK ";" l) fun _ l1 => bnd (readHead w l1) fun hd l2 => bnd (readRest l2) fun bd l3 => mpR (fun js => ⟨hd, bd⟩ :: js) (readJs w n l3) else .ok ([], l)
def readJoins (l : List Tok) : Res (Int × List Jn) := bnd (readTerms l) fun hd l1 => bnd (readRest l1) fun bd l2 => mpR (fun js => (((hd.length : Nat) : Int), ⟨hd, bd⟩ :: js)) (readJs hd.length (l2.length + 1) l2)
def numOf : Tk → Int
  | .num i => i
  | _ => 0
def negNext : List Tok → Option Nat
  | (.num i, a) :: _ => if i < 0 then some a else none
  | _ => none
def afterNone (l : List Tok) : Option Nat → Res (Int × List Jn)
  | some a => .error a
  | none => mpR (fun t => (numOf t, [])) (takeK "number" l)
def readNone (l : List Tok) : Res (Int × List Jn) := bnd (takeW "none" l) fun _ l1 => afterNone l1 (negNext l1)
/-- the whole text -/
def readQ (l : List Tok) : Res (Int × List Jn) := bnd (if seesW "none" l = true then readNone l else readJoins l) fun q l1 => mpR (fun _ => q) (takeK "end" l1)
/-! where the reading goes on -/
def Fine {α : Type} (l : List Tok) (m : Res α) : Prop := ∀ x l', m = .ok (x, l') → Good l' ∧ l'.length < l.length
theorem bnd_inv {α β : Type} {m : Res α} {f : α → List Tok → Res β} {y : β} {l' : List Tok} (h : bnd m f = .ok (y, l')) : ∃ x l1, m = .ok (x, l1) ∧ f x l1 = .ok (y, l') := by
  cases m with
  | ok p => exact ⟨p.1, p.2, rfl, h⟩
  | error n => cases h
theorem mpR_inv {α β : Type} {m : Res α} {f : α → β} {y : β} {l' : List Tok} (h : mpR f m = .ok (y, l')) : ∃ x, m = .ok (x, l') ∧ y = f x := by
  obtain ⟨x, l1, h1, h2⟩ := bnd_inv h
  cases h2
  exact ⟨x, h1, rfl⟩
theorem fine_K {k : Str} {l : List Tok} (g : Good l) (h1 : k ≠ "end") (h2 : k ≠ "wrong") : Fine l (takeK k l) := fun x l' h => by
  obtain ⟨a, b, _⟩ := takeK_good h g h1 h2
  exact ⟨a, by omega⟩
theorem fine_W {z : Str} {l : List Tok} (g : Good l) : Fine l (takeW z l) := fun x l' h => by
  obtain ⟨a, b⟩ := takeW_good h g
  exact ⟨a, by omega⟩
theorem fine_term {l : List Tok} (g : Good l) : Fine l (readTerm l) := fun x l' h => by
  cases l with
  | nil => cases h
  | cons t l =>
    obtain ⟨t, a⟩ := t
    cases t with
    | word z => cases h; exact ⟨g.rest (show ("word" : Str) ≠ "end" by decide +kernel) (show ("word" : Str) ≠ "wrong" by decide +kernel), Nat.lt_succ_self _⟩
    | text z => cases h; exact ⟨g.rest (show ("text" : Str) ≠ "end" by decide +kernel) (show ("text" : Str) ≠ "wrong" by decide +kernel), Nat.lt_succ_self _⟩
    | num z => cases h; exact ⟨g.rest (show ("number" : Str) ≠ "end" by decide +kernel) (show ("number" : Str) ≠ "wrong" by decide +kernel), Nat.lt_succ_self _⟩
    | sign c => cases h
    | fin => cases h
    | wrong => cases h
theorem fine_more : ∀ (n : Nat) {l : List Tok}, Good l → Fine l (readMore n l)
  | 0, l, g => fun x l' h => by cases h
  | n + 1, l, g => fun x l' h => by
    unfold readMore at h
    split at h
    · obtain ⟨_, h1, _⟩ := mpR_inv h
      exact fine_K g (by decide +kernel) (by decide +kernel) _ _ h1
    · obtain ⟨_, l1, h1, h⟩ := bnd_inv h
      obtain ⟨g1, n1⟩ := fine_K g (by decide +kernel) (by decide +kernel) _ _ h1
      obtain ⟨_, l2, h2, h⟩ := bnd_inv h
      obtain ⟨g2, n2⟩ := fine_term g1 _ _ h2
      obtain ⟨_, h3, _⟩ := mpR_inv h
      obtain ⟨g3, n3⟩ := fine_more n g2 _ _ h3
      exact ⟨g3, by omega⟩
theorem fine_terms {l : List Tok} (g : Good l) : Fine l (readTerms l) := fun x l' h => by
  unfold readTerms at h
  obtain ⟨_, l1, h1, h⟩ := bnd_inv h
  obtain ⟨g1, n1⟩ := fine_K g (by decide +kernel) (by decide +kernel) _ _ h1
  split at h
  · obtain ⟨g2, n2⟩ := fine_more _ g1 _ _ h
    exact ⟨g2, by omega⟩
  · obtain ⟨_, l2, h2, h⟩ := bnd_inv h
    obtain ⟨g2, n2⟩ := fine_term g1 _ _ h2
    obtain ⟨_, h3, _⟩ := mpR_inv h
    obtain ⟨g3, n3⟩ := fine_more _ g2 _ _ h3
    exact ⟨g3, by omega⟩
theorem fine_h : ∀ (n i : Nat) {l : List Tok}, Good l → ∀ x l', readH i n l = .ok (x, l') → Good l' ∧ l'.length ≤ l.length ∧ x.length = n
  | 0, i, l, g => fun x l' h => by cases h; exact ⟨g, Nat.le_refl _, rfl⟩
  | n + 1, i, l, g => fun x l' h => by
    unfold readH at h
    obtain ⟨_, l1, h1, h⟩ := bnd_inv h
    have q : Good l1 ∧ l1.length ≤ l.length := by
      split at h1
      · obtain ⟨_, h1, _⟩ := mpR_inv h1
        obtain ⟨g1, n1⟩ := fine_K g (by decide +kernel) (by decide +kernel) _ _ h1
        exact ⟨g1, by omega⟩
      · cases h1; exact ⟨g, Nat.le_refl _⟩
    obtain ⟨g1, n1⟩ := q
    obtain ⟨_, l2, h2, h⟩ := bnd_inv h
    obtain ⟨g2, n2⟩ := fine_term g1 _ _ h2
    obtain ⟨_, h3, e⟩ := mpR_inv h
    obtain ⟨g3, n3, e3⟩ := fine_h n (i + 1) g2 _ _ h3
    exact ⟨g3, by omega, by rw [e, List.length_cons, e3]⟩
theorem fine_head {w : Nat} {l : List Tok} (g : Good l) : Fine l (readHead w l) := fun x l' h => by
  unfold readHead at h
  obtain ⟨_, l1, h1, h⟩ := bnd_inv h
  obtain ⟨g1, n1⟩ := fine_K g (by decide +kernel) (by decide +kernel) _ _ h1
  obtain ⟨_, l2, h2, h⟩ := bnd_inv h
  obtain ⟨g2, n2, _⟩ := fine_h _ _ g1 _ _ h2
  obtain ⟨_, h3, _⟩ := mpR_inv h
  obtain ⟨g3, n3⟩ := fine_K g2 (by decide +kernel) (by decide +kernel) _ _ h3
  exact ⟨g3, by omega⟩
theorem fine_atom {l : List Tok} (g : Good l) : Fine l (readAtom l) := fun x l' h => by
  unfold readAtom at h
  obtain ⟨_, l1, h1, h⟩ := bnd_inv h
  obtain ⟨g1, n1⟩ := fine_K g (by decide +kernel) (by decide +kernel) _ _ h1
  obtain ⟨_, h3, _⟩ := mpR_inv h
  obtain ⟨g3, n3⟩ := fine_terms g1 _ _ h3
  exact ⟨g3, by omega⟩
theorem fine_atoms : ∀ (n : Nat) {l : List Tok}, Good l → ∀ x l', readAtoms n l = .ok (x, l') → Good l' ∧ l'.length ≤ l.length
  | 0, l, g => fun x l' h => by cases h
  | n + 1, l, g => fun x l' h => by
    unfold readAtoms at h
    split at h
    · obtain ⟨_, l1, h1, h⟩ := bnd_inv h
      obtain ⟨g1, n1⟩ := fine_W g _ _ h1
      obtain ⟨_, l2, h2, h⟩ := bnd_inv h
      obtain ⟨g2, n2⟩ := fine_atom g1 _ _ h2
      obtain ⟨_, h3, _⟩ := mpR_inv h
      obtain ⟨g3, n3⟩ := fine_atoms n g2 _ _ h3
      exact ⟨g3, by omega⟩
    · cases h; exact ⟨g, Nat.le_refl _⟩
theorem fine_rest {l : List Tok} (g : Good l) : Fine l (readRest l) := fun x l' h => by
  unfold readRest at h
  obtain ⟨_, l1, h1, h⟩ := bnd_inv h
  obtain ⟨g1, n1⟩ := fine_W g _ _ h1
  split at h
  · obtain ⟨_, h3, _⟩ := mpR_inv h
    obtain ⟨g3, n3⟩ := fine_W g1 _ _ h3
    exact ⟨g3, by omega⟩
  · obtain ⟨_, l2, h2, h⟩ := bnd_inv h
    obtain ⟨g2, n2⟩ := fine_atom g1 _ _ h2
    obtain ⟨_, h3, _⟩ := mpR_inv h
    obtain ⟨g3, n3⟩ := fine_atoms _ g2 _ _ h3
    exact ⟨g3, by omega⟩
theorem fine_js {w : Nat} : ∀ (n : Nat) {l : List Tok}, Good l → ∀ x l', readJs w n l = .ok (x, l') → Good l' ∧ l'.length ≤ l.length
  | 0, l, g => fun x l' h => by cases h
  | n + 1, l, g => fun x l' h => by
    unfold readJs at h
    split at h
    · obtain ⟨_, l1, h1, h⟩ := bnd_inv h
      obtain ⟨g1, n1⟩ := fine_K g (by decide +kernel) (by decide +kernel) _ _ h1
      obtain ⟨_, l2, h2, h⟩ := bnd_inv h
      obtain ⟨g2, n2⟩ := fine_head g1 _ _ h2
      obtain ⟨_, l3, h3, h⟩ := bnd_inv h
      obtain ⟨g3, n3⟩ := fine_rest g2 _ _ h3
      obtain ⟨_, h4, _⟩ := mpR_inv h
      obtain ⟨g4, n4⟩ := fine_js n g3 _ _ h4
      exact ⟨g4, by omega⟩
    · cases h; exact ⟨g, Nat.le_refl _⟩
theorem fine_joins {l : List Tok} (g : Good l) : Fine l (readJoins l) := fun x l' h => by
  unfold readJoins at h
  obtain ⟨_, l1, h1, h⟩ := bnd_inv h
  obtain ⟨g1, n1⟩ := fine_terms g _ _ h1
  obtain ⟨_, l2, h2, h⟩ := bnd_inv h
  obtain ⟨g2, n2⟩ := fine_rest g1 _ _ h2
  obtain ⟨_, h3, _⟩ := mpR_inv h
  obtain ⟨g3, n3⟩ := fine_js _ g2 _ _ h3
  exact ⟨g3, by omega⟩
theorem fine_none {l : List Tok} (g : Good l) : Fine l (readNone l) := fun x l' h => by
  unfold readNone at h
  obtain ⟨_, l1, h1, h⟩ := bnd_inv h
  obtain ⟨g1, n1⟩ := fine_W g _ _ h1
  cases e : negNext l1 with
  | some a => rw [e] at h; cases h
  | none =>
    rw [e] at h
    obtain ⟨_, h3, _⟩ := mpR_inv h
    obtain ⟨g3, n3⟩ := fine_K g1 (by decide +kernel) (by decide +kernel) _ _ h3
    exact ⟨g3, by omega⟩
end A1

namespace A1
open PySem L2 PySem.Spec PyProof.Rows
/-! ## the tokens of a text -/
def cSIGNS : Str := "(),;"
def cLETTERS : Str := "abcdefghijklmnopqrstuvwxyz"
def cDIGITS : Str := "0123456789"
theorem signs_is : sg cSIGNS = [40, 41, 44, 59] := by decide +kernel
theorem letters_is : sg cLETTERS = [97, 98, 99, 100, 101, 102, 103, 104, 105, 106, 107, 108, 109, 110, 111, 112, 113, 114, 115, 116, 117, 118, 119, 120, 121, 122] := by decide +kernel
theorem digits_is : sg cDIGITS = [48, 49, 50, 51, 52, 53, 54, 55, 56, 57] := by decide +kernel
theorem blank_is : sg " " = [32] := by decide +kernel
/-- how many signs of S stand ahead -/
def runLen (S : List Nat) : List Nat → Nat
  | [] => 0
  | c :: r => if c ∈ S then runLen S r + 1 else 0
def endOf (S cs : List Nat) (p : Nat) : Nat := p + runLen S (cs.drop p)
theorem run_le (S : List Nat) : ∀ cs : List Nat, runLen S cs ≤ cs.length
  | [] => Nat.le_refl _
  | c :: r => by
    unfold runLen
    split
    · have := run_le S r; rw [List.length_cons]; omega
    · exact Nat.zero_le _
theorem end_le {S cs : List Nat} {p : Nat} (h : p ≤ cs.length) : endOf S cs p ≤ cs.length := by
  have := run_le S (cs.drop p)
  rw [List.length_drop] at this
  unfold endOf; omega
theorem end_ge (S cs : List Nat) (p : Nat) : p ≤ endOf S cs p := Nat.le_add_right _ _
theorem end_in {S cs : List Nat} {p c : Nat} (h : cs[p]? = some c) (m : c ∈ S) : endOf S cs p = endOf S cs (p + 1) := by
  have hl := (List.getElem?_eq_some_iff.mp h)
  obtain ⟨lt, e⟩ := hl
  unfold endOf
  rw [List.drop_eq_getElem_cons lt, e]
  show p + (if c ∈ S then _ else _) = _
  rw [if_pos m]; omega
theorem end_out {S cs : List Nat} {p c : Nat} (h : cs[p]? = some c) (m : c ∉ S) : endOf S cs p = p := by
  obtain ⟨lt, e⟩ := List.getElem?_eq_some_iff.mp h
  unfold endOf
  rw [List.drop_eq_getElem_cons lt, e]
  show p + (if c ∈ S then _ else _) = _
  rw [if_neg m]; rfl
theorem end_end {S cs : List Nat} {p : Nat} (h : cs.length ≤ p) : endOf S cs p = p := by
  unfold endOf
  rw [List.drop_eq_nil_of_le h]; rfl
/-- the signs of a run are of S -/
theorem run_mem (S : List Nat) : ∀ (cs : List Nat) (x : Nat), x ∈ cs.take (runLen S cs) → x ∈ S
  | [], x, h => by cases h
  | c :: r, x, h => by
    unfold runLen at h
    by_cases m : c ∈ S
    · rw [if_pos m, List.take_succ_cons] at h
      rcases List.mem_cons.mp h with e | e
      · rw [e]; exact m
      · exact run_mem S r x e
    · rw [if_neg m] at h; cases h
/-- the text from i to j -/
def sub (cs : List Nat) (i j : Nat) : Str := ⟨((cs.drop i).take (j - i)).toArray⟩
theorem sub_sg (cs : List Nat) (i j : Nat) : sg (sub cs i j) = (cs.drop i).take (j - i) := rfl
theorem cut_sub {z : Str} {i j : Nat} (hi : i ≤ z.length) (hj : j ≤ z.length) : cutS z (some (i : Int)) (some (j : Int)) = sub (sg z) i j := by
  unfold cutS sub
  rw [HT.sIx_nat, HT.sIx_nat, Nat.min_eq_left hi, Nat.min_eq_left hj]
  rfl
theorem sub_len (cs : List Nat) (i j : Nat) : (sub cs i j).length = min (j - i) (cs.length - i) := by
  rw [← sg_len, sub_sg, List.length_take, List.length_drop]
def oneAt (cs : List Nat) (i : Nat) : Str := match cs[i]? with
  | some c => ⟨#[c]⟩
  | none => ⟨#[]⟩
theorem oneAt_is (cs : List Nat) (i c : Nat) : decide (V.str (oneAt cs i) = V.str ⟨#[c]⟩) = decide (cs[i]? = some c) := by
  rw [dec_str, decide_eq_decide]
  unfold oneAt
  cases h : cs[i]? with
  | none => exact ⟨fun h => by simp at h, fun h => by simp at h⟩
  | some d => exact ⟨fun h => by simp at h; rw [h], fun h => by simp at h; rw [h]⟩
theorem cut_one {z : Str} {i : Nat} (hi : i ≤ z.length) : cutS z (some (i : Int)) (some ((i : Int) + 1)) = oneAt (sg z) i := by
  unfold oneAt
  have e : ((i : Int) + 1) = ((i + 1 : Nat) : Int) := by omega
  unfold cutS
  rw [e, HT.sIx_nat, HT.sIx_nat, Nat.min_eq_left hi]
  rcases Nat.lt_or_ge i z.length with lt | ge
  · have lt' : i < (sg z).length := lt
    rw [Nat.min_eq_left (show i + 1 ≤ z.length from lt), List.getElem?_eq_getElem lt', show z.cps.toList = sg z from rfl, List.drop_eq_getElem_cons lt', show i + 1 - i = 1 by omega]
    rfl
  · have ge' : (sg z).length ≤ i := ge
    rw [List.getElem?_eq_none ge', show z.cps.toList = sg z from rfl, List.drop_eq_nil_of_le ge', List.take_nil]
def quotAt (cs : List Nat) (p : Nat) : Tk × Nat := if endOf (sg cLETTERS) cs (p + 1) = p + 1 ∨ cs[endOf (sg cLETTERS) cs (p + 1)]? ≠ some 34 then (.wrong, p) else (.text (sub cs (p + 1) (endOf (sg cLETTERS) cs (p + 1))), endOf (sg cLETTERS) cs (p + 1) + 1)
def numStart (cs : List Nat) (p : Nat) : Nat := if cs[p]? = some 45 then p + 1 else p
def numEnd (cs : List Nat) (p : Nat) : Nat := endOf (sg cDIGITS) cs (numStart cs p)
def numAt (cs : List Nat) (p : Nat) : Tk × Nat := if numStart cs p = numEnd cs p ∨ (cs[numStart cs p]? = some 48 ∧ sub cs p (numEnd cs p) ≠ "0") then (.wrong, p) else (.num ((PySem.intText? (sub cs p (numEnd cs p))).getD 0), numEnd cs p)
def tokAt (cs : List Nat) (p : Nat) : Tk × Nat := match cs[p]? with
  | none => (.wrong, p)
  | some c => if c ∈ sg cSIGNS then (.sign c, p + 1) else if c ∈ sg cLETTERS then (.word (sub cs p (endOf (sg cLETTERS) cs p)), endOf (sg cLETTERS) cs p) else if c = 34 then quotAt cs p else numAt cs p
def isWrong : Tk → Bool
  | .wrong => true
  | _ => false
def toksF : Nat → List Nat → Nat → List Tok
  | 0, _, p => [(.fin, p)]
  | n + 1, cs, p => if p < cs.length then (if isWrong (tokAt cs p).1 = true then [(.wrong, p)] else ((tokAt cs p).1, p) :: toksF n cs (endOf [32] cs (tokAt cs p).2)) else [(.fin, p)]
/-- the tokens of a text -/
def toks (cs : List Nat) : List Tok := toksF (cs.length + 1) cs (endOf [32] cs 0)
theorem toksF_good : ∀ (n : Nat) (cs : List Nat) (p : Nat), Good (toksF n cs p)
  | 0, cs, p => .fin p
  | n + 1, cs, p => by
    unfold toksF
    split
    · split
      · exact .wrong p
      · exact .cons _ (toksF_good n cs _)
    · exact .fin p
theorem toksF_len : ∀ (n : Nat) (cs : List Nat) (p : Nat), (toksF n cs p).length ≤ n + 1
  | 0, cs, p => Nat.le_refl _
  | n + 1, cs, p => by
    unfold toksF
    split
    · split
      · exact Nat.succ_le_succ (Nat.zero_le _)
      · rw [List.length_cons]; have := toksF_len n cs (endOf [32] cs (tokAt cs p).2); omega
    · exact Nat.succ_le_succ (Nat.zero_le _)
theorem kind_wrong (t : Tk) : decide (t.kind = "wrong") = isWrong t := by
  cases t with
  | wrong => decide +kernel
  | word y => exact decide_eq_false (show ¬ (("word" : Str) = "wrong") by decide +kernel)
  | text y => exact decide_eq_false (show ¬ (("text" : Str) = "wrong") by decide +kernel)
  | num y => exact decide_eq_false (show ¬ (("number" : Str) = "wrong") by decide +kernel)
  | fin => decide +kernel
  | sign c =>
    refine decide_eq_false (fun h => ?_)
    · have : (⟨#[c]⟩ : Str).length = ("wrong" : Str).length := congrArg Str.length h
      rw [show ("wrong" : Str).length = 5 by decide +kernel] at this
      exact absurd this (by show ¬ (1 = 5); decide)
theorem numStart_le {cs : List Nat} {p : Nat} (h : p < cs.length) : p ≤ numStart cs p ∧ numStart cs p ≤ cs.length := by
  unfold numStart; split <;> omega
/-- a token that is none has an end behind its start, within the text -/
theorem tokAt_end {cs : List Nat} {p : Nat} (h : p < cs.length) (n : isWrong (tokAt cs p).1 = false) : p < (tokAt cs p).2 ∧ (tokAt cs p).2 ≤ cs.length := by
  unfold tokAt at n ⊢
  rw [List.getElem?_eq_getElem h] at n ⊢
  have ge := List.getElem?_eq_getElem h
  simp only at n ⊢
  by_cases c1 : cs[p] ∈ sg cSIGNS
  · rw [if_pos c1]; exact ⟨Nat.lt_succ_self _, h⟩
  rw [if_neg c1] at n ⊢
  by_cases c2 : cs[p] ∈ sg cLETTERS
  · rw [if_pos c2]
    have e := end_in ge c2
    have := end_ge (sg cLETTERS) cs (p + 1)
    exact ⟨by show p < endOf (sg cLETTERS) cs p; omega, end_le (Nat.le_of_lt h)⟩
  rw [if_neg c2] at n ⊢
  by_cases c3 : cs[p] = 34
  · rw [if_pos c3] at n ⊢
    unfold quotAt at n ⊢
    by_cases c4 : endOf (sg cLETTERS) cs (p + 1) = p + 1 ∨ cs[endOf (sg cLETTERS) cs (p + 1)]? ≠ some 34
    · rw [if_pos c4] at n; cases n
    · rw [if_neg c4]
      have c5 := Decidable.of_not_not (fun z => c4 (.inr z))
      have := (List.getElem?_eq_some_iff.mp c5).1
      have := end_ge (sg cLETTERS) cs (p + 1)
      exact ⟨by show p < endOf (sg cLETTERS) cs (p + 1) + 1; omega, by show endOf (sg cLETTERS) cs (p + 1) + 1 ≤ _; omega⟩
  · rw [if_neg c3] at n ⊢
    unfold numAt at n ⊢
    by_cases c4 : numStart cs p = numEnd cs p ∨ (cs[numStart cs p]? = some 48 ∧ sub cs p (numEnd cs p) ≠ "0")
    · rw [if_pos c4] at n; cases n
    · rw [if_neg c4]
      have c5 : numStart cs p ≠ numEnd cs p := fun z => c4 (.inl z)
      obtain ⟨s1, s2⟩ := numStart_le h
      have : numStart cs p ≤ numEnd cs p := end_ge _ _ _
      exact ⟨by show p < numEnd cs p; omega, end_le s2⟩
/-- no number is too long -/
def NumsOk (cs : List Nat) : Prop := ∀ p, runLen (sg cDIGITS) (cs.drop p) ≤ 600
theorem digits_all {S : List Nat} (h : ∀ x ∈ S, x ∈ sg cDIGITS) : NumText.AllDigits S := by
  intro c hc
  have := h c hc
  rw [digits_is] at this
  simp only [List.mem_cons, List.not_mem_nil, or_false] at this
  omega
/-- a number that is read as one -/
theorem num_read {cs : List Nat} {p : Nat} (h : p < cs.length) (ok : NumsOk cs) (n : numStart cs p ≠ numEnd cs p) : ∃ i, PySem.intText? (sub cs p (numEnd cs p)) = some i ∧ (sub cs p (numEnd cs p)).length ≤ 640 := by
  have lr := ok (numStart cs p)
  obtain ⟨s1, s2⟩ := numStart_le h
  have ee : numEnd cs p = numStart cs p + runLen (sg cDIGITS) (cs.drop (numStart cs p)) := rfl
  have rl := run_le (sg cDIGITS) (cs.drop (numStart cs p))
  rw [List.length_drop] at rl
  have sp : numStart cs p ≤ p + 1 := by unfold numStart; split <;> omega
  have len : (sub cs p (numEnd cs p)).length ≤ 640 := by rw [sub_len]; omega
  have dg : ∀ x ∈ (cs.drop (numStart cs p)).take (runLen (sg cDIGITS) (cs.drop (numStart cs p))), x ∈ sg cDIGITS := run_mem _ _
  have lt : ((cs.drop (numStart cs p)).take (runLen (sg cDIGITS) (cs.drop (numStart cs p)))).length ≠ 0 := by rw [List.length_take, List.length_drop]; omega
  by_cases c : cs[p]? = some 45
  · have es : numStart cs p = p + 1 := by unfold numStart; rw [if_pos c]
    have hx : (sub cs p (numEnd cs p)).cps.toList = 45 :: (cs.drop (numStart cs p)).take (runLen (sg cDIGITS) (cs.drop (numStart cs p))) := by
      show (cs.drop p).take (numEnd cs p - p) = _
      have ce : cs[p] = 45 := by rw [List.getElem?_eq_getElem h] at c; exact Option.some.inj c
      rw [List.drop_eq_getElem_cons h, ce, ee, es, show p + 1 + runLen (sg cDIGITS) (cs.drop (p + 1)) - p = runLen (sg cDIGITS) (cs.drop (p + 1)) + 1 by omega, List.take_succ_cons]
    exact ⟨_, intText_neg hx (digits_all dg) (fun e => lt (by rw [e]; rfl)) (by omega), len⟩
  · have es : numStart cs p = p := by unfold numStart; rw [if_neg c]
    have hx : (sub cs p (numEnd cs p)).cps.toList = (cs.drop (numStart cs p)).take (runLen (sg cDIGITS) (cs.drop (numStart cs p))) := by
      show (cs.drop p).take (numEnd cs p - p) = _
      rw [ee, es, Nat.add_sub_cancel_left]
    exact ⟨_, intText_digits (by rw [hx]; exact digits_all dg) (by rw [hx]; exact fun e => lt (by rw [e]; rfl)) (by omega), len⟩
end A1

namespace A1
open PySem L2 PySem.Spec PyProof.Rows
/-! ## texts that are laid out of pieces -/
/-- the signs of a token -/
def Tk.sgn : Tk → List Nat
  | .word z => sg z
  | .text z => 34 :: (sg z ++ [34])
  | .num i => sg (toString i)
  | .sign c => [c]
  | _ => []
def LetB (z : Str) : Prop := (∀ c ∈ sg z, c ∈ sg cLETTERS) ∧ sg z ≠ []
def PcOk : Tk → Prop
  | .word z | .text z => LetB z
  | .num i => i.natAbs < 10 ^ 60
  | .sign c => c ∈ sg cSIGNS
  | _ => False
/-- what follows does not go on with the piece -/
def Stop : Tk → List Nat → Prop
  | .word _, cs => runLen (sg cLETTERS) cs = 0
  | .num _, cs => runLen (sg cDIGITS) cs = 0
  | _, _ => True
inductive Lays : List Tk → List Nat → Prop
  | nil (k : Nat) : Lays [] (List.replicate k 32)
  | cons (k : Nat) {t : Tk} {ts : List Tk} {cs : List Nat} : PcOk t → Stop t cs → Lays ts cs → Lays (t :: ts) (List.replicate k 32 ++ (t.sgn ++ cs))
/-! numbers -/
theorem num_pos (n : Nat) : sg (toString ((n : Nat) : Int)) = TL.numL n := TL.tl_num n
theorem num_neg (n : Nat) : sg (toString (-((n + 1 : Nat) : Int))) = 45 :: TL.numL (n + 1) := by
  show (Str.ofString (toString (Int.negSucc n))).cps.toList = _
  rw [PySem.Str.ofString_eq_toList]
  have e : (toString (Int.negSucc n)).toList = '-' :: (toString (n + 1)).toList := by
    show ("-" ++ Nat.repr (n + 1)).toList = _
    rw [String.toList_append]; rfl
  rw [e, List.map_cons]
  have e2 := num_pos (n + 1)
  have e3 : (Str.ofString (toString ((n + 1 : Nat) : Int))).cps.toList = (toString (n + 1)).toList.map Char.toNat := by rw [PySem.Str.ofString_eq_toList]; rfl
  rw [← e2]
  show _ = 45 :: (Str.ofString (toString ((n + 1 : Nat) : Int))).cps.toList
  rw [e3]; rfl
theorem numL_head : ∀ n : Nat, 1 ≤ n → ∃ c r, TL.numL n = c :: r ∧ c ≠ 48
  | n, h => by
    by_cases l : n < 10
    · exact ⟨48 + n, [], TL.numL_lt l, by omega⟩
    · have : n / 10 < n := Nat.div_lt_self (by omega) (by decide)
      obtain ⟨c, r, e, ne⟩ := numL_head (n / 10) (by omega)
      exact ⟨c, r ++ [48 + n % 10], by rw [TL.numL_step (by omega), e]; rfl, ne⟩
termination_by n => n
theorem dig_in {c : Nat} (h : 48 ≤ c ∧ c ≤ 57) : c ∈ sg cDIGITS := by
  rw [digits_is]
  simp only [List.mem_cons, List.not_mem_nil, or_false]
  omega
theorem numL_in (n : Nat) : ∀ c ∈ TL.numL n, c ∈ sg cDIGITS := fun c hc => dig_in (TL.numL_digits n c hc)
/-! runs -/
theorem run_all {S : List Nat} : ∀ {a b : List Nat}, (∀ x ∈ a, x ∈ S) → runLen S b = 0 → runLen S (a ++ b) = a.length
  | [], b, _, h => h
  | x :: a, b, ha, h => by
    show (if x ∈ S then runLen S (a ++ b) + 1 else 0) = _
    rw [if_pos (ha x List.mem_cons_self), run_all (fun y hy => ha y (List.mem_cons_of_mem _ hy)) h]; rfl
theorem run_no {S : List Nat} {c : Nat} {r : List Nat} (h : c ∉ S) : runLen S (c :: r) = 0 := by
  show (if c ∈ S then runLen S r + 1 else 0) = _
  rw [if_neg h]
theorem at_drop {cs : List Nat} {p c : Nat} {r : List Nat} (h : cs.drop p = c :: r) : cs[p]? = some c := by
  have : (cs.drop p)[0]? = some c := by rw [h]; rfl
  rw [List.getElem?_drop, Nat.add_zero] at this
  exact this
theorem drop_more {cs a b : List Nat} {p : Nat} (h : cs.drop p = a ++ b) : cs.drop (p + a.length) = b := by
  rw [← List.drop_drop, h, List.drop_left]
theorem sub_is {cs : List Nat} {p : Nat} {z : Str} {b : List Nat} (h : cs.drop p = sg z ++ b) : sub cs p (p + (sg z).length) = z := by
  unfold sub
  rw [h, Nat.add_sub_cancel_left, List.take_left]
  cases z with
  | mk a => show Str.mk (a.toList.toArray) = _; rw [Array.toArray_toList]
theorem not_sign_letter : ∀ c ∈ sg cLETTERS, c ∉ sg cSIGNS := by decide +kernel
theorem not_dig : ∀ c ∈ 45 :: sg cDIGITS, c ∉ sg cSIGNS ∧ c ∉ sg cLETTERS ∧ c ≠ 34 := by decide +kernel
theorem no32 : (32 ∉ sg cSIGNS ∧ 32 ∉ sg cLETTERS ∧ 32 ∉ sg cDIGITS) := by decide +kernel
/-- the number at a place -/
theorem num_at {cs : List Nat} {p : Nat} {i : Int} {b : List Nat} (h : cs.drop p = sg (toString i) ++ b) (hi : i.natAbs < 10 ^ 60) (st : runLen (sg cDIGITS) b = 0) : numAt cs p = (.num i, p + (sg (toString i)).length) := by
  have si := sub_is (z := toString i) h
  rcases (by omega : 0 ≤ i ∨ i < 0) with h0 | h0
  · obtain ⟨n, rfl⟩ : ∃ n : Nat, i = (n : Int) := ⟨i.toNat, by omega⟩
    have e := num_pos n
    rw [e] at h si ⊢
    obtain ⟨c, r, ec⟩ : ∃ c r, TL.numL n = c :: r := by
      cases hh : TL.numL n with
      | nil => exact (TL.numL_ne n hh).elim
      | cons c r => exact ⟨c, r, rfl⟩
    have hc : cs[p]? = some c := at_drop (r := r ++ b) (by rw [h, ec]; rfl)
    have cd := TL.numL_digits n c (by rw [ec]; exact List.mem_cons_self)
    have es : numStart cs p = p := by
      unfold numStart
      rw [hc, if_neg (fun z => by have := Option.some.inj z; omega)]
    have en : numEnd cs p = p + (TL.numL n).length := by
      unfold numEnd endOf
      rw [es, h, run_all (numL_in n) st]
    have ln : (TL.numL n).length ≤ 60 := TL.numL_len (by decide) (by simpa using hi)
    have iv : PySem.intText? (Str.ofString (toString ((n : Nat) : Int))) = some ((n : Nat) : Int) := TL.int_num (by omega)
    unfold numAt
    rw [es, en, si, hc, if_neg]
    · rw [show PySem.intText? (toString ((n : Nat) : Int) : Str) = some ((n : Nat) : Int) from iv]; rfl
    · rintro (z | ⟨z1, z2⟩)
      · rw [ec, List.length_cons] at z; omega
      · apply z2
        have c48 : c = 48 := Option.some.inj z1
        rcases Nat.eq_zero_or_pos n with n0 | n1
        · subst n0; decide +kernel
        · obtain ⟨c', r', ec', ne⟩ := numL_head n n1
          rw [ec] at ec'
          cases ec'
          exact (ne c48).elim
  · obtain ⟨n, rfl⟩ : ∃ n : Nat, i = -((n + 1 : Nat) : Int) := ⟨(-i).toNat - 1, by omega⟩
    have e := num_neg n
    rw [e] at h si ⊢
    have hc : cs[p]? = some 45 := at_drop h
    have es : numStart cs p = p + 1 := by unfold numStart; rw [hc, if_pos rfl]
    have h1 : cs.drop (p + 1) = TL.numL (n + 1) ++ b := drop_more (a := [45]) h
    have en : numEnd cs p = p + 1 + (TL.numL (n + 1)).length := by
      unfold numEnd endOf
      rw [es, h1, run_all (numL_in _) st]
    obtain ⟨c, r, ec, ne⟩ := numL_head (n + 1) (by omega)
    have hc1 : cs[p + 1]? = some c := at_drop (r := r ++ b) (by rw [h1, ec]; rfl)
    have ln : (TL.numL (n + 1)).length ≤ 60 := TL.numL_len (by decide) (by rw [Int.natAbs_neg, Int.natAbs_natCast] at hi; exact hi)
    have lz : (toString (-((n + 1 : Nat) : Int)) : Str).length ≤ 4300 := by rw [← sg_len, e, List.length_cons]; omega
    have iv : PySem.intText? (toString (-((n + 1 : Nat) : Int)) : Str) = some (-((n + 1 : Nat) : Int)) := by
      have := intText_neg (x := (toString (-((n + 1 : Nat) : Int)) : Str)) (cs := TL.numL (n + 1)) e (TL.numL_digits _) (TL.numL_ne _) lz
      rw [TL.numL_val] at this
      exact this
    have el : p + (45 :: TL.numL (n + 1)).length = p + 1 + (TL.numL (n + 1)).length := by rw [List.length_cons]; omega
    rw [el] at si ⊢
    unfold numAt
    rw [es, en, si, hc1, iv, if_neg]
    · rfl
    · rintro (z | ⟨z1, _⟩)
      · rw [ec, List.length_cons] at z; omega
      · exact ne (Option.some.inj z1)
/-- the token at a place where a piece stands -/
theorem piece_at {cs : List Nat} {p : Nat} {t : Tk} {b : List Nat} (h : cs.drop p = t.sgn ++ b) (ok : PcOk t) (st : Stop t b) : tokAt cs p = (t, p + t.sgn.length) := by
  cases t with
  | sign c =>
    have hc : cs[p]? = some c := at_drop h
    unfold tokAt
    rw [hc]
    show (if c ∈ sg cSIGNS then _ else _) = _
    rw [if_pos (show c ∈ sg cSIGNS from ok)]; rfl
  | word z =>
    obtain ⟨h1, h2⟩ := ok
    obtain ⟨c, r, ec⟩ : ∃ c r, sg z = c :: r := by
      cases hh : sg z with
      | nil => exact (h2 hh).elim
      | cons c r => exact ⟨c, r, rfl⟩
    have h : cs.drop p = sg z ++ b := h
    have hc : cs[p]? = some c := at_drop (r := r ++ b) (by rw [h, ec]; rfl)
    have cl : c ∈ sg cLETTERS := h1 c (by rw [ec]; exact List.mem_cons_self)
    have en : endOf (sg cLETTERS) cs p = p + (sg z).length := by unfold endOf; rw [h, run_all h1 st]
    unfold tokAt
    rw [hc]
    show (if c ∈ sg cSIGNS then _ else _) = _
    rw [if_neg (not_sign_letter c cl), if_pos cl, en, sub_is h]; rfl
  | text z =>
    obtain ⟨h1, h2⟩ := ok
    have h : cs.drop p = [34] ++ (sg z ++ ([34] ++ b)) := by rw [h]; show 34 :: (sg z ++ [34]) ++ b = _; simp
    have hc : cs[p]? = some 34 := at_drop h
    have h3 : cs.drop (p + 1) = sg z ++ ([34] ++ b) := drop_more (a := [34]) h
    have q34 : (34 ∉ sg cSIGNS ∧ 34 ∉ sg cLETTERS) := by decide +kernel
    have en : endOf (sg cLETTERS) cs (p + 1) = p + 1 + (sg z).length := by unfold endOf; rw [h3, run_all h1 (b := [34] ++ b) (run_no q34.2)]
    have h4 : cs.drop (p + 1 + (sg z).length) = [34] ++ b := drop_more h3
    have hq : cs[p + 1 + (sg z).length]? = some 34 := at_drop h4
    have lz : (sg z).length ≠ 0 := fun e => h2 (List.length_eq_zero_iff.mp e)
    unfold tokAt
    rw [hc]
    show (if (34 : Nat) ∈ sg cSIGNS then _ else _) = _
    rw [if_neg q34.1, if_neg q34.2, if_pos rfl]
    unfold quotAt
    rw [en, hq, if_neg, sub_is h3]
    · show (Tk.text z, _) = (Tk.text z, p + (34 :: (sg z ++ [34])).length)
      rw [List.length_cons, List.length_append, show ([34] : List Nat).length = 1 from rfl]
      congr 1
      omega
    · rintro (z | z)
      · omega
      · exact z rfl
  | num i =>
    have h : cs.drop p = sg (toString i) ++ b := h
    have nm := num_at h ok st
    obtain ⟨c, r, ec, cd⟩ : ∃ c r, sg (toString i) = c :: r ∧ c ∈ 45 :: sg cDIGITS := by
      rcases (by omega : 0 ≤ i ∨ i < 0) with h0 | h0
      · obtain ⟨n, rfl⟩ : ∃ n : Nat, i = (n : Int) := ⟨i.toNat, by omega⟩
        rw [num_pos]
        cases hh : TL.numL n with
        | nil => exact (TL.numL_ne n hh).elim
        | cons c r => exact ⟨c, r, rfl, List.mem_cons_of_mem _ (numL_in n c (by rw [hh]; exact List.mem_cons_self))⟩
      · obtain ⟨n, rfl⟩ : ∃ n : Nat, i = -((n + 1 : Nat) : Int) := ⟨(-i).toNat - 1, by omega⟩
        rw [num_neg]
        exact ⟨45, _, rfl, List.mem_cons_self⟩
    have hc : cs[p]? = some c := at_drop (r := r ++ b) (by rw [h, ec]; rfl)
    obtain ⟨n1, n2, n3⟩ := not_dig c cd
    unfold tokAt
    rw [hc]
    show (if c ∈ sg cSIGNS then _ else _) = _
    rw [if_neg n1, if_neg n2, if_neg n3, nm]; rfl
  | fin => cases ok
  | wrong => cases ok
theorem sgn_ne {t : Tk} (ok : PcOk t) : ∃ c r, t.sgn = c :: r ∧ c ≠ 32 := by
  cases t with
  | sign c => exact ⟨c, [], rfl, fun e => no32.1 (e ▸ ok)⟩
  | word z =>
    cases hh : sg z with
    | nil => exact (ok.2 hh).elim
    | cons c r => exact ⟨c, r, hh, fun e => no32.2.1 (e ▸ ok.1 c (by rw [hh]; exact List.mem_cons_self))⟩
  | text z => exact ⟨34, _, rfl, by decide⟩
  | num i =>
    rcases (by omega : 0 ≤ i ∨ i < 0) with h0 | h0
    · obtain ⟨n, rfl⟩ : ∃ n : Nat, i = (n : Int) := ⟨i.toNat, by omega⟩
      show ∃ c r, sg (toString ((n : Nat) : Int)) = c :: r ∧ c ≠ 32
      rw [num_pos]
      cases hh : TL.numL n with
      | nil => exact (TL.numL_ne n hh).elim
      | cons c r => exact ⟨c, r, rfl, by have := TL.numL_digits n c (by rw [hh]; exact List.mem_cons_self); omega⟩
    · obtain ⟨n, rfl⟩ : ∃ n : Nat, i = -((n + 1 : Nat) : Int) := ⟨(-i).toNat - 1, by omega⟩
      show ∃ c r, sg (toString (-((n + 1 : Nat) : Int))) = c :: r ∧ c ≠ 32
      rw [num_neg]
      exact ⟨45, _, rfl, by decide⟩
  | fin => cases ok
  | wrong => cases ok
theorem rep_in (k : Nat) : ∀ x ∈ List.replicate k 32, x ∈ [32] := fun x hx => by rw [List.eq_of_mem_replicate hx]; exact List.mem_cons_self
/-- the tokens of a text that is laid out of pieces -/
theorem toks_lays : ∀ {ts : List Tk} {cs : List Nat} {p n : Nat}, Lays ts (cs.drop p) → p ≤ cs.length → cs.length < p + n → ∃ l, toksF n cs (endOf [32] cs p) = l ∧ l.map (·.1) = ts ++ [Tk.fin]
  | [], cs, p, n, h, hp, hn => by
    generalize e : cs.drop p = ds at h
    cases h with
    | nil k =>
      have el : endOf [32] cs p = cs.length := by
        unfold endOf
        have := run_all (b := []) (rep_in k) rfl
        rw [List.append_nil] at this
        rw [e, this, List.length_replicate]
        have := congrArg List.length e
        rw [List.length_drop, List.length_replicate] at this
        omega
      rw [el]
      cases n with
      | zero => exact ⟨_, rfl, rfl⟩
      | succ n => exact ⟨_, rfl, by show (toksF (n + 1) cs cs.length).map (·.1) = _; rw [show toksF (n + 1) cs cs.length = [(.fin, cs.length)] by unfold toksF; rw [if_neg (Nat.lt_irrefl _)]]; rfl⟩
  | t :: ts, cs, p, n, h, hp, hn => by
    generalize e : cs.drop p = ds at h
    cases h with
    | @cons k _ _ b ok st hl =>
      obtain ⟨c, r, ec, n32⟩ := sgn_ne ok
      have el : endOf [32] cs p = p + k := by
        unfold endOf
        have := run_all (S := [32]) (a := List.replicate k 32) (b := t.sgn ++ b) (rep_in k) (by rw [ec]; exact run_no (fun z => n32 (List.mem_singleton.mp z)))
        rw [e, this, List.length_replicate]
      have h1 : cs.drop (p + k) = t.sgn ++ b := by have := drop_more e; rw [List.length_replicate] at this; exact this
      have h2 : cs.drop (p + k + t.sgn.length) = b := drop_more h1
      have ln : t.sgn.length ≠ 0 := by rw [ec]; exact Nat.succ_ne_zero _
      have lt : p + k + t.sgn.length ≤ cs.length := by
        have := congrArg List.length h1
        rw [List.length_drop, List.length_append] at this
        omega
      obtain ⟨n, rfl⟩ : ∃ m, n = m + 1 := ⟨n - 1, by omega⟩
      have pa := piece_at h1 ok st
      have nw : isWrong t = false := by cases t <;> first | rfl | cases ok
      rw [el]
      obtain ⟨l, e1, e2⟩ := toks_lays (ts := ts) (cs := cs) (p := p + k + t.sgn.length) (n := n) (by rw [h2]; exact hl) lt (by omega)
      refine ⟨(t, p + k) :: l, ?_, by rw [List.map_cons, e2]; rfl⟩
      show toksF (n + 1) cs (p + k) = _
      unfold toksF
      rw [if_pos (by omega), pa, if_neg (by rw [nw]; exact Bool.false_ne_true), e1]
theorem lays_toks {ts : List Tk} {cs : List Nat} (h : Lays ts cs) : ∃ l, toks cs = l ∧ l.map (·.1) = ts ++ [Tk.fin] := toks_lays (p := 0) (n := cs.length + 1) h (Nat.zero_le _) (by omega)
end A1

namespace A1
open PySem L2 PySem.Spec PyProof.Rows
/-! ## what is read of the pieces of a question -/
theorem num_len {i : Int} (h : i.natAbs < 10 ^ 60) : (sg (toString i)).length ≤ 61 := by
  rcases (by omega : 0 ≤ i ∨ i < 0) with h0 | h0
  · obtain ⟨n, rfl⟩ : ∃ n : Nat, i = (n : Int) := ⟨i.toNat, by omega⟩
    rw [num_pos]
    have : (TL.numL n).length ≤ 60 := TL.numL_len (by decide) (by rw [Int.natAbs_natCast] at h; exact h)
    omega
  · obtain ⟨n, rfl⟩ : ∃ n : Nat, i = -((n + 1 : Nat) : Int) := ⟨(-i).toNat - 1, by omega⟩
    rw [num_neg, List.length_cons]
    have : (TL.numL (n + 1)).length ≤ 60 := TL.numL_len (by decide) (by rw [Int.natAbs_neg, Int.natAbs_natCast] at h; exact h)
    omega
theorem run_app (S a b : List Nat) : runLen S (a ++ b) ≤ a.length + runLen S b := by
  induction a with
  | nil => rw [List.nil_append]; show _ ≤ 0 + _; omega
  | cons x a ih =>
    show (if x ∈ S then runLen S (a ++ b) + 1 else 0) ≤ _
    rw [List.length_cons]
    split <;> omega
theorem let_dig : ∀ c ∈ sg cLETTERS, c ∉ sg cDIGITS := by decide +kernel
theorem sign_dig : ∀ c ∈ sg cSIGNS, c ∉ sg cDIGITS := by decide +kernel
theorem nums_lays : ∀ {ts : List Tk} {cs : List Nat}, Lays ts cs → ∀ p, runLen (sg cDIGITS) (cs.drop p) ≤ 61
  | _, _, .nil k, p => by
    rw [List.drop_replicate]
    cases k - p with
    | zero => exact Nat.zero_le _
    | succ n => rw [List.replicate_succ, run_no no32.2.2]; exact Nat.zero_le _
  | _, _, @Lays.cons k t ts b ok st hl, p => by
    rcases Nat.lt_or_ge p k with lt | ge
    · rw [List.drop_append_of_le_length (by rw [List.length_replicate]; omega), List.drop_replicate]
      obtain ⟨m, hm⟩ : ∃ m, k - p = m + 1 := ⟨k - p - 1, by omega⟩
      rw [hm, List.replicate_succ, List.cons_append, run_no no32.2.2]; exact Nat.zero_le _
    · obtain ⟨o, rfl⟩ : ∃ o, p = k + o := ⟨p - k, by omega⟩
      have ed : (List.replicate k 32 ++ (t.sgn ++ b)).drop k = t.sgn ++ b := by
        have := List.drop_left (l₁ := List.replicate k 32) (l₂ := t.sgn ++ b)
        rw [List.length_replicate] at this
        exact this
      rw [← List.drop_drop, ed]
      rcases Nat.lt_or_ge o t.sgn.length with lo | go
      · rw [List.drop_append_of_le_length (Nat.le_of_lt lo)]
        have hd : ∀ c, c ∈ t.sgn → (∀ x ∈ t.sgn, x ∉ sg cDIGITS) → runLen (sg cDIGITS) (t.sgn.drop o ++ b) ≤ 61 := fun c _ h => by
          rw [List.drop_eq_getElem_cons lo, List.cons_append, run_no (h _ (List.getElem_mem lo))]
          exact Nat.zero_le _
        have hd' : (∀ x ∈ t.sgn, x ∉ sg cDIGITS) → runLen (sg cDIGITS) (t.sgn.drop o ++ b) ≤ 61 := fun h => hd _ (List.getElem_mem lo) h
        cases t with
        | num i =>
          have l1 := run_app (sg cDIGITS) ((Tk.num i).sgn.drop o) b
          have l2 : runLen (sg cDIGITS) b = 0 := st
          have l3 : (Tk.num i).sgn.length ≤ 61 := num_len ok
          rw [List.length_drop] at l1
          omega
        | word z => exact hd' fun x hx => let_dig x (ok.1 x hx)
        | sign c => exact hd' fun x hx => by rw [List.mem_singleton.mp hx]; exact sign_dig c ok
        | text z =>
          refine hd' fun x hx => ?_
          have q : (34 : Nat) ∉ sg cDIGITS := by decide +kernel
          rcases List.mem_cons.mp hx with e | e
          · rw [e]; exact q
          · rcases List.mem_append.mp e with e | e
            · exact let_dig x (ok.1 x e)
            · rw [List.mem_singleton.mp e]; exact q
        | fin => cases ok
        | wrong => cases ok
      · obtain ⟨m, rfl⟩ : ∃ m, o = t.sgn.length + m := ⟨o - t.sgn.length, by omega⟩
        rw [← List.drop_drop, List.drop_left]
        exact nums_lays hl m
theorem lays_nums {ts : List Tk} {cs : List Nat} (h : Lays ts cs) : NumsOk cs := fun p => Nat.le_trans (nums_lays h p) (by decide)
/-! the pieces -/
def tkTm : Tm → Tk
  | .var z => .word z
  | .wrd z => .text z
  | .num i => .num i
def commas : List Tm → List Tk
  | [] => []
  | t :: ts => .sign 44 :: tkTm t :: commas ts
def inner : List Tm → List Tk
  | [] => []
  | t :: ts => tkTm t :: commas ts
def tksTerms (ts : List Tm) : List Tk := .sign 40 :: (inner ts ++ [.sign 41])
def tksAtom (a : At) : List Tk := .word a.nm :: tksTerms a.ts
def tksAnds : List At → List Tk
  | [] => []
  | a :: as => .word "and" :: (tksAtom a ++ tksAnds as)
def tksBody : List At → List Tk
  | [] => [.word "true"]
  | a :: as => tksAtom a ++ tksAnds as
def tksJoin (j : Jn) : List Tk := tksTerms j.hd ++ (.word "if" :: tksBody j.bd)
def tksSemis : List Jn → List Tk
  | [] => []
  | j :: js => .sign 59 :: (tksJoin j ++ tksSemis js)
def tksQuest (n : Int) : List Jn → List Tk
  | [] => [.word "none", .num n]
  | j :: js => tksJoin j ++ tksSemis js
theorem map_cons_inv {α β : Type} {f : α → β} {l : List α} {x : β} {xs : List β} (h : l.map f = x :: xs) : ∃ a r, l = a :: r ∧ f a = x ∧ r.map f = xs := by
  cases l with
  | nil => cases h
  | cons a r => rw [List.map_cons] at h; injection h with h1 h2; exact ⟨a, r, rfl, h1, h2⟩
theorem map_app_inv {α β : Type} {f : α → β} {l : List α} {xs ys : List β} (h : l.map f = xs ++ ys) : ∃ a b, l = a ++ b ∧ a.map f = xs ∧ b.map f = ys := by
  obtain ⟨a, b, h1, h2, h3⟩ := List.map_eq_append_iff.mp h
  exact ⟨a, b, h1, h2, h3⟩
theorem fst_is {t : A1.Tok} {k : Tk} (h : t.1 = k) : t = (k, t.2) := by cases t; cases h; rfl
theorem sign_k (c : Nat) (k : Str) (h : k = ⟨#[c]⟩) (a : Nat) (l : List A1.Tok) : takeK k ((.sign c, a) :: l) = .ok (.sign c, l) := by
  rw [takeK_cons, if_pos (show Tk.kind (.sign c) = k from h.symm)]
theorem s40 : ("(" : Str) = ⟨#[40]⟩ := by decide +kernel
theorem s41 : (")" : Str) = ⟨#[41]⟩ := by decide +kernel
theorem s44 : ("," : Str) = ⟨#[44]⟩ := by decide +kernel
theorem s59 : (";" : Str) = ⟨#[59]⟩ := by decide +kernel
theorem term_ok (t : Tm) (a : Nat) (l : List A1.Tok) : readTerm ((tkTm t, a) :: l) = .ok (t, l) := by cases t <;> rfl
theorem term_no41 (t : Tm) (a : Nat) (l : List A1.Tok) : sees ")" ((tkTm t, a) :: l) = false := by
  cases t with
  | var z => exact decide_eq_false (show ¬ (("word" : Str) = ")") by decide +kernel)
  | wrd z => exact decide_eq_false (show ¬ (("text" : Str) = ")") by decide +kernel)
  | num z => exact decide_eq_false (show ¬ (("number" : Str) = ")") by decide +kernel)
theorem see41 (a : Nat) (l : List A1.Tok) : sees ")" ((.sign 41, a) :: l) = true := decide_eq_true (show (⟨#[41]⟩ : Str) = ")" from s41.symm)
theorem see44 (a : Nat) (l : List A1.Tok) : sees ")" ((.sign 44, a) :: l) = false := decide_eq_false (show ¬ ((⟨#[44]⟩ : Str) = ")") by decide +kernel)
theorem more_ok : ∀ (ts : List Tm) {l1 l' : List A1.Tok} {n : Nat}, l1.map (·.1) = commas ts ++ [.sign 41] → l1.length < n + 1 → readMore (n + 1) (l1 ++ l') = .ok (ts, l')
  | [], l1, l', n, h, hn => by
    obtain ⟨x, r, rfl, e, h⟩ := map_cons_inv (show l1.map (·.1) = .sign 41 :: [] from h)
    have er : r = [] := List.map_eq_nil_iff.mp h
    subst er
    rw [fst_is e]
    show readMore (n + 1) ((Tk.sign 41, x.2) :: l') = _
    unfold readMore
    rw [if_pos (see41 _ _), sign_k 41 ")" s41]; rfl
  | t :: ts, l1, l', n, h, hn => by
    obtain ⟨x, r, rfl, e, h⟩ := map_cons_inv (show l1.map (·.1) = .sign 44 :: (tkTm t :: (commas ts ++ [.sign 41])) from h)
    obtain ⟨y, r, rfl, e2, h⟩ := map_cons_inv h
    rw [fst_is e, fst_is e2]
    show readMore (n + 1) ((Tk.sign 44, x.2) :: (tkTm t, y.2) :: (r ++ l')) = _
    unfold readMore
    rw [if_neg (by rw [see44]; exact Bool.false_ne_true), sign_k 44 "," s44, bnd_ok rfl, bnd_ok (term_ok t _ _)]
    obtain ⟨n, rfl⟩ : ∃ m, n = m + 1 := ⟨n - 1, by rw [List.length_cons, List.length_cons] at hn; omega⟩
    rw [mpR_ok (more_ok ts h (by rw [List.length_cons, List.length_cons] at hn; omega))]
theorem terms_ok {ts : List Tm} {l1 l' : List A1.Tok} (h : l1.map (·.1) = tksTerms ts) : readTerms (l1 ++ l') = .ok (ts, l') := by
  obtain ⟨x, r, rfl, e, h⟩ := map_cons_inv (show l1.map (·.1) = .sign 40 :: (inner ts ++ [.sign 41]) from h)
  rw [fst_is e]
  show readTerms ((Tk.sign 40, x.2) :: (r ++ l')) = _
  unfold readTerms
  rw [sign_k 40 "(" s40, bnd_ok rfl]
  cases ts with
  | nil =>
    obtain ⟨y, r2, rfl, e2, h2⟩ := map_cons_inv (show r.map (·.1) = .sign 41 :: [] from h)
    have er : r2 = [] := List.map_eq_nil_iff.mp h2
    subst er
    rw [fst_is e2]
    show (if sees ")" ((Tk.sign 41, y.2) :: l') = true then _ else _) = _
    rw [if_pos (see41 _ _)]
    exact more_ok [] (l1 := [(.sign 41, y.2)]) rfl (by show 1 < l'.length + 1 + 1; omega)
  | cons t ts =>
    obtain ⟨y, r2, rfl, e2, h2⟩ := map_cons_inv (show r.map (·.1) = tkTm t :: (commas ts ++ [.sign 41]) from h)
    rw [fst_is e2]
    show (if sees ")" ((tkTm t, y.2) :: (r2 ++ l')) = true then _ else bnd (readTerm ((tkTm t, y.2) :: (r2 ++ l'))) _) = _
    rw [if_neg (by rw [term_no41]; exact Bool.false_ne_true), bnd_ok (term_ok t _ _)]
    rw [mpR_ok (more_ok ts h2 (by rw [List.length_append]; omega))]
theorem h_ok : ∀ (ts : List Tm) {l1 l' : List A1.Tok} {i : Nat}, 0 < i → l1.map (·.1) = commas ts → readH i ts.length (l1 ++ l') = .ok (ts, l')
  | [], l1, l', i, _, h => by
    have er : l1 = [] := List.map_eq_nil_iff.mp h
    subst er; rfl
  | t :: ts, l1, l', i, hi, h => by
    obtain ⟨x, r, rfl, e, h⟩ := map_cons_inv (show l1.map (·.1) = .sign 44 :: (tkTm t :: commas ts) from h)
    obtain ⟨y, r, rfl, e2, h⟩ := map_cons_inv h
    rw [fst_is e, fst_is e2]
    show readH i (ts.length + 1) ((Tk.sign 44, x.2) :: (tkTm t, y.2) :: (r ++ l')) = _
    unfold readH
    rw [if_pos hi, mpR_ok (sign_k 44 "," s44 _ _), bnd_ok rfl, bnd_ok (term_ok t _ _), mpR_ok (h_ok ts (Nat.succ_pos _) h)]
theorem head_ok {ts : List Tm} {l1 l' : List A1.Tok} (h : l1.map (·.1) = tksTerms ts) : readHead ts.length (l1 ++ l') = .ok (ts, l') := by
  obtain ⟨x, r, rfl, e, h⟩ := map_cons_inv (show l1.map (·.1) = .sign 40 :: (inner ts ++ [.sign 41]) from h)
  obtain ⟨r1, r2, rfl, h1, h2⟩ := map_app_inv h
  obtain ⟨y, r3, rfl, e2, h3⟩ := map_cons_inv h2
  have er : r3 = [] := List.map_eq_nil_iff.mp h3
  subst er
  rw [fst_is e, fst_is e2]
  have el : ((Tk.sign 40, x.2) :: (r1 ++ [(Tk.sign 41, y.2)])) ++ l' = (Tk.sign 40, x.2) :: (r1 ++ ((Tk.sign 41, y.2) :: l')) := by simp
  rw [el]
  unfold readHead
  rw [sign_k 40 "(" s40, bnd_ok rfl]
  have q : readH 0 ts.length (r1 ++ ((Tk.sign 41, y.2) :: l')) = .ok (ts, (Tk.sign 41, y.2) :: l') := by
    cases ts with
    | nil =>
      have er : r1 = [] := List.map_eq_nil_iff.mp h1
      subst er; rfl
    | cons t ts =>
      obtain ⟨z, r4, rfl, e4, h4⟩ := map_cons_inv (show r1.map (·.1) = tkTm t :: commas ts from h1)
      rw [fst_is e4]
      show readH 0 (ts.length + 1) ((tkTm t, z.2) :: (r4 ++ ((Tk.sign 41, y.2) :: l'))) = _
      unfold readH
      rw [if_neg (Nat.lt_irrefl 0), bnd_ok rfl, bnd_ok (term_ok t _ _), mpR_ok (h_ok ts (Nat.succ_pos _) h4)]
  rw [bnd_ok q, mpR_ok (sign_k 41 ")" s41 _ _)]
theorem atom_ok {a : At} {l1 l' : List A1.Tok} (h : l1.map (·.1) = tksAtom a) : readAtom (l1 ++ l') = .ok (a, l') := by
  obtain ⟨x, r, rfl, e, h⟩ := map_cons_inv (show l1.map (·.1) = .word a.nm :: tksTerms a.ts from h)
  rw [fst_is e]
  show readAtom ((Tk.word a.nm, x.2) :: (r ++ l')) = _
  unfold readAtom
  rw [show takeK "word" ((Tk.word a.nm, x.2) :: (r ++ l')) = .ok (.word a.nm, r ++ l') by rw [takeK_cons]; exact if_pos (show Tk.kind (.word a.nm) = "word" from rfl), bnd_ok rfl, mpR_ok (terms_ok h)]
  rfl
theorem seesW_is (z : Str) (a : Nat) (l : List A1.Tok) : seesW z ((.word z, a) :: l) = true := decide_eq_true (show z = z from rfl)
theorem word_w (z : Str) (a : Nat) (l : List A1.Tok) : takeW z ((.word z, a) :: l) = .ok ((), l) := by
  rw [takeW_cons]
  exact if_pos (decide_eq_true rfl)
theorem atoms_ok : ∀ (as : List At) {l1 l' : List A1.Tok} {n : Nat}, l1.map (·.1) = tksAnds as → seesW "and" l' = false → l1.length < n + 1 → readAtoms (n + 1) (l1 ++ l') = .ok (as, l')
  | [], l1, l', n, h, hf, hn => by
    have er : l1 = [] := List.map_eq_nil_iff.mp h
    subst er
    show (if seesW "and" l' = true then _ else _) = _
    rw [List.nil_append, if_neg (by rw [hf]; exact Bool.false_ne_true)]
  | a :: as, l1, l', n, h, hf, hn => by
    obtain ⟨x, r, rfl, e, h⟩ := map_cons_inv (show l1.map (·.1) = .word "and" :: (tksAtom a ++ tksAnds as) from h)
    obtain ⟨r1, r2, rfl, h1, h2⟩ := map_app_inv h
    rw [fst_is e]
    have el : ((Tk.word "and", x.2) :: (r1 ++ r2)) ++ l' = (Tk.word "and", x.2) :: (r1 ++ (r2 ++ l')) := by simp
    rw [el]
    rw [List.length_cons, List.length_append] at hn
    have l1n : r1.length ≠ 0 := fun e => by
      have := List.length_eq_zero_iff.mp e
      subst this; cases h1
    obtain ⟨n, rfl⟩ : ∃ m, n = m + 1 := ⟨n - 1, by omega⟩
    show (if seesW "and" ((Tk.word "and", x.2) :: (r1 ++ (r2 ++ l'))) = true then _ else _) = _
    rw [if_pos (seesW_is _ _ _), word_w, bnd_ok rfl, bnd_ok (atom_ok h1), mpR_ok (atoms_ok as h2 hf (by omega))]
theorem rest_ok {bd : List At} {l1 l' : List A1.Tok} (h : l1.map (·.1) = .word "if" :: tksBody bd) (hf : seesW "and" l' = false) (hp : sees "(" l' = false) : readRest (l1 ++ l') = .ok (bd, l') := by
  obtain ⟨x, r, rfl, e, h⟩ := map_cons_inv h
  rw [fst_is e]
  show readRest ((Tk.word "if", x.2) :: (r ++ l')) = _
  unfold readRest
  rw [word_w, bnd_ok rfl]
  cases bd with
  | nil =>
    obtain ⟨y, r3, rfl, e2, h3⟩ := map_cons_inv (show r.map (·.1) = .word "true" :: [] from h)
    have er : r3 = [] := List.map_eq_nil_iff.mp h3
    subst er
    rw [fst_is e2]
    show (if (seesW "true" ((Tk.word "true", y.2) :: l') && !sees "(" l') = true then _ else _) = _
    rw [seesW_is, hp, if_pos (show (true && !false) = true from rfl)]
    show mpR _ (takeW "true" ((Tk.word "true", y.2) :: l')) = _
    rw [word_w]; rfl
  | cons a as =>
    obtain ⟨r1, r2, rfl, h1, h2⟩ := map_app_inv (show r.map (·.1) = tksAtom a ++ tksAnds as from h)
    rw [List.append_assoc]
    have bh : behind "(" (r1 ++ (r2 ++ l')) = true := by
      obtain ⟨y, r3, rfl, e2, h3⟩ := map_cons_inv (show r1.map (·.1) = .word a.nm :: tksTerms a.ts from h1)
      obtain ⟨z, r4, rfl, e4, h4⟩ := map_cons_inv (show r3.map (·.1) = .sign 40 :: _ from h3)
      rw [fst_is e4]
      exact decide_eq_true (show (⟨#[40]⟩ : Str) = "(" from s40.symm)
    rw [if_neg (by rw [bh, Bool.not_true, Bool.and_false]; exact Bool.false_ne_true), bnd_ok (atom_ok h1), mpR_ok (atoms_ok as h2 hf (by rw [List.length_append]; omega))]
theorem join_split {j : Jn} {l1 : List A1.Tok} (h : l1.map (·.1) = tksJoin j) : ∃ a b, l1 = a ++ b ∧ a.map (·.1) = tksTerms j.hd ∧ b.map (·.1) = .word "if" :: tksBody j.bd := map_app_inv h
/-- what may follow a body -/
def After (l' : List A1.Tok) : Prop := seesW "and" l' = false ∧ sees "(" l' = false
theorem after59 (a : Nat) (l : List A1.Tok) : After ((.sign 59, a) :: l) := ⟨rfl, decide_eq_false (show ¬ ((⟨#[59]⟩ : Str) = "(") by decide +kernel)⟩
theorem afterFin (a : Nat) (l : List A1.Tok) : After ((.fin, a) :: l) := ⟨rfl, decide_eq_false (show ¬ (("end" : Str) = "(") by decide +kernel)⟩
theorem semis_after : ∀ (js : List Jn) {l1 l' : List A1.Tok}, l1.map (·.1) = tksSemis js → After l' → After (l1 ++ l')
  | [], l1, l', h, a => by
    have er : l1 = [] := List.map_eq_nil_iff.mp h
    subst er; exact a
  | j :: js, l1, l', h, a => by
    obtain ⟨x, r, rfl, e, h⟩ := map_cons_inv (show l1.map (·.1) = .sign 59 :: (tksJoin j ++ tksSemis js) from h)
    rw [fst_is e]
    exact after59 _ _
theorem js_ok : ∀ (js : List Jn) {w : Nat} {l1 l' : List A1.Tok} {n : Nat}, (∀ j ∈ js, j.hd.length = w) → l1.map (·.1) = tksSemis js → After l' → sees ";" l' = false → l1.length < n + 1 → readJs w (n + 1) (l1 ++ l') = .ok (js, l')
  | [], w, l1, l', n, _, h, a, hs, hn => by
    have er : l1 = [] := List.map_eq_nil_iff.mp h
    subst er
    show (if sees ";" l' = true then _ else _) = _
    rw [List.nil_append, if_neg (by rw [hs]; exact Bool.false_ne_true)]
  | j :: js, w, l1, l', n, hw, h, a, hs, hn => by
    obtain ⟨x, r, rfl, e, h⟩ := map_cons_inv (show l1.map (·.1) = .sign 59 :: (tksJoin j ++ tksSemis js) from h)
    obtain ⟨r1, r2, rfl, h1, h2⟩ := map_app_inv h
    obtain ⟨ra, rb, rfl, ha, hb⟩ := join_split h1
    rw [fst_is e]
    have el : ((Tk.sign 59, x.2) :: (ra ++ rb ++ r2)) ++ l' = (Tk.sign 59, x.2) :: (ra ++ (rb ++ (r2 ++ l'))) := by simp
    rw [el]
    rw [List.length_cons, List.length_append, List.length_append] at hn
    have l1n : ra.length ≠ 0 := fun e => by
      have := List.length_eq_zero_iff.mp e
      subst this; cases ha
    obtain ⟨n, rfl⟩ : ∃ m, n = m + 1 := ⟨n - 1, by omega⟩
    obtain ⟨a1, a2⟩ := semis_after js h2 a
    have ew : j.hd.length = w := hw j List.mem_cons_self
    subst ew
    show (if sees ";" ((Tk.sign 59, x.2) :: (ra ++ (rb ++ (r2 ++ l')))) = true then _ else _) = _
    rw [if_pos (show sees ";" ((Tk.sign 59, x.2) :: (ra ++ (rb ++ (r2 ++ l')))) = true from decide_eq_true s59.symm), sign_k 59 ";" s59, bnd_ok rfl, bnd_ok (head_ok ha), bnd_ok (rest_ok hb a1 a2), mpR_ok (js_ok js (fun x hx => hw x (List.mem_cons_of_mem _ hx)) h2 a hs (by omega))]
/-- a question that has a written form is read back -/
def Form (n : Int) : List Jn → Prop
  | [] => 0 ≤ n
  | js => ∀ j ∈ js, (j.hd.length : Int) = n
theorem quest_ok {n : Int} {js : List Jn} {l : List A1.Tok} (h : l.map (·.1) = tksQuest n js ++ [Tk.fin]) (f : Form n js) : ∃ l', readQ l = .ok ((n, js), l') := by
  cases js with
  | nil =>
    obtain ⟨x, r, rfl, e, h⟩ := map_cons_inv (show l.map (·.1) = .word "none" :: (.num n :: [Tk.fin]) from h)
    obtain ⟨y, r, rfl, e2, h⟩ := map_cons_inv h
    obtain ⟨z, r, rfl, e3, h⟩ := map_cons_inv h
    have er : r = [] := List.map_eq_nil_iff.mp h
    subst er
    rw [fst_is e, fst_is e2, fst_is e3]
    have f : 0 ≤ n := f
    refine ⟨[], ?_⟩
    unfold readQ
    rw [if_pos (seesW_is _ _ _)]
    unfold readNone
    rw [word_w, bnd_ok rfl]
    have en : negNext [(Tk.num n, y.2), (Tk.fin, z.2)] = none := by
      show (if n < 0 then some y.2 else none) = none
      rw [if_neg (by omega)]
    rw [en]
    show bnd (mpR (fun t => (numOf t, [])) (takeK "number" [(Tk.num n, y.2), (Tk.fin, z.2)])) _ = _
    rw [takeK_cons, if_pos (show Tk.kind (.num n) = "number" from rfl)]
    rw [mpR_ok rfl, bnd_ok rfl, takeK_cons, if_pos (show Tk.kind .fin = "end" from rfl)]
    rfl
  | cons j js =>
    have f : ∀ x ∈ j :: js, (x.hd.length : Int) = n := f
    obtain ⟨l1, r, rfl, h1, h2⟩ := map_app_inv h
    obtain ⟨z, r, rfl, e3, h3⟩ := map_cons_inv h2
    have er : r = [] := List.map_eq_nil_iff.mp h3
    subst er
    obtain ⟨lj, ls, rfl, hj, hs⟩ := map_app_inv (show l1.map (·.1) = tksJoin j ++ tksSemis js from h1)
    obtain ⟨ra, rb, rfl, ha, hb⟩ := join_split hj
    rw [fst_is e3]
    have el : ra ++ rb ++ ls ++ [(Tk.fin, z.2)] = ra ++ (rb ++ (ls ++ [(Tk.fin, z.2)])) := by simp
    rw [el]
    have nn : seesW "none" (ra ++ (rb ++ (ls ++ [(Tk.fin, z.2)]))) = false := by
      obtain ⟨x, r, rfl, e, _⟩ := map_cons_inv (show ra.map (·.1) = .sign 40 :: _ from ha)
      rw [fst_is e]; rfl
    obtain ⟨a1, a2⟩ := semis_after js hs (afterFin z.2 [])
    refine ⟨[], ?_⟩
    have hw : ∀ x ∈ js, x.hd.length = j.hd.length := fun x hx => by
      have := f x (List.mem_cons_of_mem _ hx)
      have := f j List.mem_cons_self
      omega
    unfold readQ
    rw [if_neg (by rw [nn]; exact Bool.false_ne_true)]
    unfold readJoins
    rw [bnd_ok (terms_ok ha), bnd_ok (rest_ok hb a1 a2), mpR_ok (js_ok js hw hs (afterFin z.2 []) (decide_eq_false (show ¬ (("end" : Str) = ";") by decide +kernel)) (by rw [List.length_append]; omega)), bnd_ok rfl]
    rw [takeK_cons, if_pos (show Tk.kind .fin = "end" from rfl)]
    show Except.ok ((((j.hd.length : Nat) : Int), (⟨j.hd, j.bd⟩ : Jn) :: js), []) = _
    rw [f j List.mem_cons_self]
end A1

namespace A1
open PySem L2 PySem.Spec PyProof.Rows Builtin Builtin.Str
/-! spaces: " " * n -/
def rMulX : R2 := fun x y H Q => ∃ n : Int, x = .str " " ∧ y = .int n ∧ 0 ≤ n ∧ n ≤ 100 ∧ ∀ u : Str, sg u = List.replicate n.toNat 32 → Q (.str u) H
theorem mul_ok : ∀ k : Fin 101, (decide ((k : Int) < -(2 ^ 63 : Int)) || decide ((k : Int) ≥ 2 ^ 63)) = false ∧ (¬ (k : Int) < 1 → ((k : Int) == 1 || (" " : Str).length == 0) = false → ¬ (((" " : Str).length : Int) > (2 ^ 63 - 1) / (k : Int))) ∧
  (¬ (k : Int) < 1 → ((k : Int) == 1 || (" " : Str).length == 0) = false → tooLong ((" " : Str).length * (k : Int).toNat) = false) := by decide +kernel
theorem mul_sg : ∀ k : Fin 101, sg (Txt.mul " " (k : Int)) = List.replicate (k : Int).toNat 32 := by decide +kernel
theorem op_mulX {X : Cx} : OpR X (binaryOp .Mult) rMulX := by
  intro pins s σ H x y v u Q I rx ry h
  obtain ⟨n, rfl, rfl, h0, h1, q⟩ := h
  obtain ⟨t, rfl⟩ := rx
  obtain ⟨t', rfl⟩ := ry
  obtain ⟨k, hk⟩ : ∃ k : Fin 101, ((k : Nat) : Int) = n := ⟨⟨n.toNat, by omega⟩, by show ((n.toNat : Nat) : Int) = n; omega⟩
  refine SB.mul (n := n) (by have := mul_ok k; rw [hk] at this; exact this) fun t2 m => ?_
  exact ⟨.str _, H, I.tok _, ⟨_, rfl⟩, q _ (by have := mul_sg k; rw [hk] at this; exact this)⟩
theorem rd_mulX {H : Hp} {Q : VK} {n : Int} (h0 : 0 ≤ n) (h1 : n ≤ 100) (q : ∀ u : Str, sg u = List.replicate n.toNat 32 → Q (.str u) H) : rMulX (.str " ") (.int n) H Q := ⟨n, rfl, rfl, h0, h1, q⟩
end A1

namespace A1
open PySem L2
local macro_rules | `(tactic| walk_at "rd1") => `(tactic| first
  | with_reducible refine rd_seq ?_ | with_reducible refine rd_asg ?_ | with_reducible refine rd_name ?_ | ((with_reducible refine' rd_var ?e ?_); (case e => rfl)) | with_reducible refine rd_c ?_ | with_reducible refine rd_op ?_ | with_reducible refine rd_un ?_ | with_reducible refine rd_i0 ?_ | with_reducible refine rd_u ?_
  | ((with_reducible refine' rd_eq ?e ?_); (case e => rfl)) | ((with_reducible refine' rd_ne ?e ?_); (case e => rfl)) | with_reducible refine rd_test ?_ | with_reducible refine rd_tb ?_ | with_reducible refine rd_bl ?_ | with_reducible refine rd_if ?_ | with_reducible refine rd_ret ?_ | with_reducible refine rd_next ?_ | with_reducible refine rd_drop ?_
  | with_reducible refine rd_nil ?_ | with_reducible refine rd_cons ?_ | with_reducible refine rd_cb ?_ | with_reducible refine rd_call ?_ | with_reducible refine rd_tup ?_ | with_reducible refine rd_lst ?_ | with_reducible refine rd_andV ?_ | with_reducible refine rd_orV ?_ | with_reducible refine rd_and ?_ | with_reducible refine rd_or ?_ | with_reducible refine rd_not ?_ | with_reducible refine rd_ifE ?_
  | with_reducible refine rd_bm0 ?_ | with_reducible refine rd_bm ?_ | with_reducible refine rd_match ?_ | with_reducible refine rd_str ?_ | with_reducible refine rd_yes ?_ | with_reducible refine rd_int ?_ | with_reducible refine rd_intB ?_ | with_reducible refine rd_isN ?_ | with_reducible refine rd_abs ?_ | with_reducible refine rd_max ?_ | with_reducible refine rd_min ?_ | with_reducible refine rd_for ?_ | with_reducible refine rd_lc ?_ | with_reducible refine rd_rng1 ?_ | with_reducible refine rd_rng2 ?_ | with_reducible refine rd_ilist ?_ | with_reducible refine iteT ?_ | with_reducible refine iteF ?_ | with_reducible refine rd_sl ?_ | with_reducible refine rd_po0 ?_ | with_reducible refine rd_po1 ?_ | with_reducible refine rd_poI ?_ | with_reducible refine rd_star ?_ | with_reducible refine rd_irng ?_ | with_reducible refine rd_itup ?_ | with_reducible refine rd_gcons ?_ | with_reducible refine rd_gnil ?_ | with_reducible refine rd_gsub ?_ | with_reducible refine rd_notN ?_ | with_reducible refine rd_chain ?_)
local macro_rules | `(tactic| walk_at "rd") => `(tactic| repeat walk_at "rd1")
local macro_rules | `(tactic| walk_at "dec") => `(tactic| repeat first | walk_at "rd1" | with_reducible refine iteDF (by decide +kernel) ?_ | with_reducible refine iteDT (by decide +kernel) ?_ | with_reducible refine iteNF (by decide +kernel) ?_ | with_reducible refine iteNT (by decide +kernel) ?_ | with_reducible refine rd_caseF (by decide +kernel) ?_ | with_reducible refine rd_caseT (by decide +kernel) ?_ | with_reducible refine iteVF (by decide +kernel) ?_ | with_reducible refine iteVT (by decide +kernel) ?_)
local macro_rules | `(tactic| walk_at "inS") => `(tactic| first | assumption | (refine' Tab.rng (by assumption) ?_ ?_ <;> first | assumption | (refine' Tab.rng (by assumption) ?_ ?_ <;> assumption)))
local macro_rules | `(tactic| walk_at "tab") => `(tactic| repeat first | walk_at "rd1" | (refine' rd_row (by assumption) (by walk_at "inS") ?_; intro b sb) | refine' rd_item (by assumption) (by walk_at "inS") ?_)
local macro_rules | `(tactic| walk_at "rd1") => `(tactic| first | with_reducible refine rd_fld ?_ | with_reducible refine rd_mth ?_)
def top (i : Nat) : Stmt := PySem.Challenge.pw_anyworth_k37_texts_of_odd_questions.main.body.getD i (.Pass ⟨0, 0, 0, 0⟩)
/-- a def of the text, found by its name -/
structure Dn (K : PySem.W.Frag) (mg : Str → Option Value) (x : Str) (st : Stmt) (ps : List Str) (f : Addr) (fd : FuncData) : Prop where
  F : Fun K x x st f fd
  b : Binds K fd ps []
  m : mg x = some (.ref f)
/-- a method of the class at C -/
structure Dm (K : PySem.W.Frag) (C : Addr) (x qn : Str) (st : Stmt) (ps : List Str) (f : Addr) (fd : FuncData) : Prop where
  F : Fun K x qn st f fd
  b : Binds K fd ps []
  mt : Meth K C x f
structure Tx (mg : Str → Option Value) : Prop where
  m_len : mg "len" = none
  m_int : mg "int" = none
  m_list : mg "list" = none
  m_tuple : mg "tuple" = none
  m_bool : mg "bool" = none
  m_str : mg "str" = none
  m_range : mg "range" = none
  m_abs : mg "abs" = none
  m_min : mg "min" = none
  m_max : mg "max" = none
  m_isinstance : mg "isinstance" = none
  m_all : mg "all" = none
  m_enumerate : mg "enumerate" = none
  m_ValueError : mg "ValueError" = none
abbrev sIsWord : Stmt := top 5
abbrev nIsWord : List Str := ["text", "letter"]
theorem scIsWord : FnScope nIsWord ["text"] (defScope sIsWord) := ⟨rfl, rfl, rfl, by decide +kernel, rfl, by decide +kernel, by decide +kernel⟩
abbrev sIsValue : Stmt := top 6
abbrev nIsValue : List Str := ["value"]
theorem scIsValue : FnScope nIsValue ["value"] (defScope sIsValue) := ⟨rfl, rfl, rfl, by decide +kernel, rfl, by decide +kernel, by decide +kernel⟩
abbrev sCheckQuestion : Stmt := top 12
abbrev nCheckQuestion : List Str := ["question", "width", "joins", "at", "join"]
theorem scCheckQuestion : FnScope nCheckQuestion ["question"] (defScope sCheckQuestion) := ⟨rfl, rfl, rfl, by decide +kernel, rfl, by decide +kernel, by decide +kernel⟩
abbrev sIsJoin : Stmt := top 13
abbrev nIsJoin : List Str := ["join", "width", "head", "body", "atom", "told", "variable"]
theorem scIsJoin : FnScope nIsJoin ["join", "width"] (defScope sIsJoin) := ⟨rfl, rfl, rfl, by decide +kernel, rfl, by decide +kernel, by decide +kernel⟩
abbrev sIsAtom : Stmt := top 14
abbrev nIsAtom : List Str := ["atom", "name", "terms"]
theorem scIsAtom : FnScope nIsAtom ["atom"] (defScope sIsAtom) := ⟨rfl, rfl, rfl, by decide +kernel, rfl, by decide +kernel, by decide +kernel⟩
abbrev sAreTerms : Stmt := top 15
abbrev nAreTerms : List Str := ["terms", "kind", "held"]
theorem scAreTerms : FnScope nAreTerms ["terms"] (defScope sAreTerms) := ⟨rfl, rfl, rfl, by decide +kernel, rfl, by decide +kernel, by decide +kernel⟩
abbrev sVariablesIn : Stmt := top 16
abbrev nVariablesIn : List Str := ["terms", "kind", "held"]
theorem scVariablesIn : FnScope nVariablesIn ["terms"] (defScope sVariablesIn) := ⟨rfl, rfl, rfl, by decide +kernel, rfl, by decide +kernel, by decide +kernel⟩
abbrev sVariablesInBody : Stmt := top 17
abbrev nVariablesInBody : List Str := ["body", "_", "terms", "variable"]
theorem scVariablesInBody : FnScope nVariablesInBody ["body"] (defScope sVariablesInBody) := ⟨rfl, rfl, rfl, by decide +kernel, rfl, by decide +kernel, by decide +kernel⟩
abbrev sTokensOf : Stmt := top 22
abbrev nTokensOf : List Str := ["text", "tokens", "at", "kind", "held", "end"]
theorem scTokensOf : FnScope nTokensOf ["text"] (defScope sTokensOf) := ⟨rfl, rfl, rfl, by decide +kernel, rfl, by decide +kernel, by decide +kernel⟩
abbrev sEndOfRun : Stmt := top 23
abbrev nEndOfRun : List Str := ["text", "at", "characters"]
theorem scEndOfRun : FnScope nEndOfRun ["text", "at", "characters"] (defScope sEndOfRun) := ⟨rfl, rfl, rfl, by decide +kernel, rfl, by decide +kernel, by decide +kernel⟩
abbrev sTokenAt : Stmt := top 24
abbrev nTokenAt : List Str := ["text", "at", "first", "end"]
theorem scTokenAt : FnScope nTokenAt ["text", "at"] (defScope sTokenAt) := ⟨rfl, rfl, rfl, by decide +kernel, rfl, by decide +kernel, by decide +kernel⟩
abbrev sQuotedAt : Stmt := top 25
abbrev nQuotedAt : List Str := ["text", "at", "end"]
theorem scQuotedAt : FnScope nQuotedAt ["text", "at"] (defScope sQuotedAt) := ⟨rfl, rfl, rfl, by decide +kernel, rfl, by decide +kernel, by decide +kernel⟩
abbrev sNumberAt : Stmt := top 26
abbrev nNumberAt : List Str := ["text", "at", "start", "end", "written"]
theorem scNumberAt : FnScope nNumberAt ["text", "at"] (defScope sNumberAt) := ⟨rfl, rfl, rfl, by decide +kernel, rfl, by decide +kernel, by decide +kernel⟩
abbrev sReaderInit : Stmt := inClass (top 28) 0
abbrev nReaderInit : List Str := ["self", "text"]
theorem scReaderInit : FnScope nReaderInit ["self", "text"] (defScope sReaderInit) := ⟨rfl, rfl, rfl, by decide +kernel, rfl, by decide +kernel, by decide +kernel⟩
abbrev sReaderSees : Stmt := inClass (top 28) 1
abbrev nReaderSees : List Str := ["self", "kind"]
theorem scReaderSees : FnScope nReaderSees ["self", "kind"] (defScope sReaderSees) := ⟨rfl, rfl, rfl, by decide +kernel, rfl, by decide +kernel, by decide +kernel⟩
abbrev sReaderSeesBehind : Stmt := inClass (top 28) 2
abbrev nReaderSeesBehind : List Str := ["self", "kind"]
theorem scReaderSeesBehind : FnScope nReaderSeesBehind ["self", "kind"] (defScope sReaderSeesBehind) := ⟨rfl, rfl, rfl, by decide +kernel, rfl, by decide +kernel, by decide +kernel⟩
abbrev sReaderHeld : Stmt := inClass (top 28) 3
abbrev nReaderHeld : List Str := ["self"]
theorem scReaderHeld : FnScope nReaderHeld ["self"] (defScope sReaderHeld) := ⟨rfl, rfl, rfl, by decide +kernel, rfl, by decide +kernel, by decide +kernel⟩
abbrev sReaderSeesWord : Stmt := inClass (top 28) 4
abbrev nReaderSeesWord : List Str := ["self", "word"]
theorem scReaderSeesWord : FnScope nReaderSeesWord ["self", "word"] (defScope sReaderSeesWord) := ⟨rfl, rfl, rfl, by decide +kernel, rfl, by decide +kernel, by decide +kernel⟩
abbrev sReaderRefuse : Stmt := inClass (top 28) 5
abbrev nReaderRefuse : List Str := ["self"]
theorem scReaderRefuse : FnScope nReaderRefuse ["self"] (defScope sReaderRefuse) := ⟨rfl, rfl, rfl, by decide +kernel, rfl, by decide +kernel, by decide +kernel⟩
abbrev sReaderTake : Stmt := inClass (top 28) 6
abbrev nReaderTake : List Str := ["self", "kind", "held"]
theorem scReaderTake : FnScope nReaderTake ["self", "kind"] (defScope sReaderTake) := ⟨rfl, rfl, rfl, by decide +kernel, rfl, by decide +kernel, by decide +kernel⟩
abbrev sReaderTakeWord : Stmt := inClass (top 28) 7
abbrev nReaderTakeWord : List Str := ["self", "word"]
theorem scReaderTakeWord : FnScope nReaderTakeWord ["self", "word"] (defScope sReaderTakeWord) := ⟨rfl, rfl, rfl, by decide +kernel, rfl, by decide +kernel, by decide +kernel⟩
abbrev sReadQuestion : Stmt := top 29
abbrev nReadQuestion : List Str := ["text", "reader", "question"]
theorem scReadQuestion : FnScope nReadQuestion ["text"] (defScope sReadQuestion) := ⟨rfl, rfl, rfl, by decide +kernel, rfl, by decide +kernel, by decide +kernel⟩
abbrev sReadNone : Stmt := top 30
abbrev nReadNone : List Str := ["reader"]
theorem scReadNone : FnScope nReadNone ["reader"] (defScope sReadNone) := ⟨rfl, rfl, rfl, by decide +kernel, rfl, by decide +kernel, by decide +kernel⟩
abbrev sReadJoins : Stmt := top 31
abbrev nReadJoins : List Str := ["reader", "first", "joins", "head"]
theorem scReadJoins : FnScope nReadJoins ["reader"] (defScope sReadJoins) := ⟨rfl, rfl, rfl, by decide +kernel, rfl, by decide +kernel, by decide +kernel⟩
abbrev sReadRest : Stmt := top 32
abbrev nReadRest : List Str := ["reader", "atoms"]
theorem scReadRest : FnScope nReadRest ["reader"] (defScope sReadRest) := ⟨rfl, rfl, rfl, by decide +kernel, rfl, by decide +kernel, by decide +kernel⟩
abbrev sReadAtom : Stmt := top 33
abbrev nReadAtom : List Str := ["reader", "name"]
theorem scReadAtom : FnScope nReadAtom ["reader"] (defScope sReadAtom) := ⟨rfl, rfl, rfl, by decide +kernel, rfl, by decide +kernel, by decide +kernel⟩
abbrev sReadTerms : Stmt := top 34
abbrev nReadTerms : List Str := ["reader", "terms"]
theorem scReadTerms : FnScope nReadTerms ["reader"] (defScope sReadTerms) := ⟨rfl, rfl, rfl, by decide +kernel, rfl, by decide +kernel, by decide +kernel⟩
abbrev sReadHead : Stmt := top 35
abbrev nReadHead : List Str := ["reader", "width", "terms", "place"]
theorem scReadHead : FnScope nReadHead ["reader", "width"] (defScope sReadHead) := ⟨rfl, rfl, rfl, by decide +kernel, rfl, by decide +kernel, by decide +kernel⟩
abbrev sReadTerm : Stmt := top 36
abbrev nReadTerm : List Str := ["reader"]
theorem scReadTerm : FnScope nReadTerm ["reader"] (defScope sReadTerm) := ⟨rfl, rfl, rfl, by decide +kernel, rfl, by decide +kernel, by decide +kernel⟩
abbrev sLDraws : Stmt := top 38
abbrev nLDraws : List Str := ["script", "many", "cells", "cell", "rest", "draws", "k", "at", "mixed"]
theorem scLDraws : FnScope nLDraws ["script", "many"] (defScope sLDraws) := ⟨rfl, rfl, rfl, by decide +kernel, rfl, by decide +kernel, by decide +kernel⟩
abbrev sLTake : Stmt := top 39
abbrev nLTake : List Str := ["draws", "many"]
theorem scLTake : FnScope nLTake ["draws", "many"] (defScope sLTake) := ⟨rfl, rfl, rfl, by decide +kernel, rfl, by decide +kernel, by decide +kernel⟩
abbrev sLPick : Stmt := top 40
abbrev nLPick : List Str := ["draws", "row"]
theorem scLPick : FnScope nLPick ["draws", "row"] (defScope sLPick) := ⟨rfl, rfl, rfl, by decide +kernel, rfl, by decide +kernel, by decide +kernel⟩
abbrev sLSize : Stmt := top 41
abbrev nLSize : List Str := ["draws", "script", "kind", "number", "k"]
theorem scLSize : FnScope nLSize ["draws", "script"] (defScope sLSize) := ⟨rfl, rfl, rfl, by decide +kernel, rfl, by decide +kernel, by decide +kernel⟩
abbrev sLSame : Stmt := top 42
abbrev nLSame : List Str := ["actual", "due", "k"]
theorem scLSame : FnScope nLSame ["actual", "due"] (defScope sLSame) := ⟨rfl, rfl, rfl, by decide +kernel, rfl, by decide +kernel, by decide +kernel⟩
abbrev sLWords : Stmt := top 43
abbrev nLWords : List Str := ["draws", "many", "words", "k", "size", "word", "j"]
theorem scLWords : FnScope nLWords ["draws", "many"] (defScope sLWords) := ⟨rfl, rfl, rfl, by decide +kernel, rfl, by decide +kernel, by decide +kernel⟩
abbrev sLIsWord : Stmt := top 44
abbrev nLIsWord : List Str := ["text", "char"]
theorem scLIsWord : FnScope nLIsWord ["text"] (defScope sLIsWord) := ⟨rfl, rfl, rfl, by decide +kernel, rfl, by decide +kernel, by decide +kernel⟩
abbrev sLNumber : Stmt := top 45
abbrev nLNumber : List Str := ["draws", "script"]
theorem scLNumber : FnScope nLNumber ["draws", "script"] (defScope sLNumber) := ⟨rfl, rfl, rfl, by decide +kernel, rfl, by decide +kernel, by decide +kernel⟩
abbrev sLAnyValue : Stmt := top 46
abbrev nLAnyValue : List Str := ["draws", "script", "words"]
theorem scLAnyValue : FnScope nLAnyValue ["draws", "script", "words"] (defScope sLAnyValue) := ⟨rfl, rfl, rfl, by decide +kernel, rfl, by decide +kernel, by decide +kernel⟩
abbrev sLAnyTerm : Stmt := top 47
abbrev nLAnyTerm : List Str := ["draws", "script", "words"]
theorem scLAnyTerm : FnScope nLAnyTerm ["draws", "script", "words"] (defScope sLAnyTerm) := ⟨rfl, rfl, rfl, by decide +kernel, rfl, by decide +kernel, by decide +kernel⟩
abbrev sLAnyAtom : Stmt := top 48
abbrev nLAnyAtom : List Str := ["draws", "script", "words", "most", "terms", "k"]
theorem scLAnyAtom : FnScope nLAnyAtom ["draws", "script", "words", "most"] (defScope sLAnyAtom) := ⟨rfl, rfl, rfl, by decide +kernel, rfl, by decide +kernel, by decide +kernel⟩
abbrev sLAnyJoin : Stmt := top 49
abbrev nLAnyJoin : List Str := ["draws", "script", "words", "width", "atoms", "most", "body", "k", "known", "atom", "term", "head"]
theorem scLAnyJoin : FnScope nLAnyJoin ["draws", "script", "words", "width", "atoms", "most"] (defScope sLAnyJoin) := ⟨rfl, rfl, rfl, by decide +kernel, rfl, by decide +kernel, by decide +kernel⟩
abbrev sLAnyQuestion : Stmt := top 50
abbrev nLAnyQuestion : List Str := ["draws", "script", "words", "shape", "width", "many", "joins", "k"]
theorem scLAnyQuestion : FnScope nLAnyQuestion ["draws", "script", "words"] (defScope sLAnyQuestion) := ⟨rfl, rfl, rfl, by decide +kernel, rfl, by decide +kernel, by decide +kernel⟩
abbrev sLTermFits : Stmt := top 51
abbrev nLTermFits : List Str := ["term"]
theorem scLTermFits : FnScope nLTermFits ["term"] (defScope sLTermFits) := ⟨rfl, rfl, rfl, by decide +kernel, rfl, by decide +kernel, by decide +kernel⟩
abbrev sLJoinFits : Stmt := top 52
abbrev nLJoinFits : List Str := ["join", "width", "terms", "known", "atom", "term"]
theorem scLJoinFits : FnScope nLJoinFits ["join", "width"] (defScope sLJoinFits) := ⟨rfl, rfl, rfl, by decide +kernel, rfl, by decide +kernel, by decide +kernel⟩
abbrev sLFault : Stmt := top 53
abbrev nLFault : List Str := ["question", "k"]
theorem scLFault : FnScope nLFault ["question"] (defScope sLFault) := ⟨rfl, rfl, rfl, by decide +kernel, rfl, by decide +kernel, by decide +kernel⟩
abbrev sLTermPiece : Stmt := top 54
abbrev nLTermPiece : List Str := ["term"]
theorem scLTermPiece : FnScope nLTermPiece ["term"] (defScope sLTermPiece) := ⟨rfl, rfl, rfl, by decide +kernel, rfl, by decide +kernel, by decide +kernel⟩
abbrev sLWritten : Stmt := top 55
abbrev nLWritten : List Str := ["question", "texts", "join", "atoms", "atom"]
theorem scLWritten : FnScope nLWritten ["question"] (defScope sLWritten) := ⟨rfl, rfl, rfl, by decide +kernel, rfl, by decide +kernel, by decide +kernel⟩
abbrev sLWrittenTerms : Stmt := top 56
abbrev nLWrittenTerms : List Str := ["terms", "term"]
theorem scLWrittenTerms : FnScope nLWrittenTerms ["terms"] (defScope sLWrittenTerms) := ⟨rfl, rfl, rfl, by decide +kernel, rfl, by decide +kernel, by decide +kernel⟩
abbrev sLSomeWords : Stmt := top 57
abbrev nLSomeWords : List Str := ["draws", "many", "words", "word", "at"]
theorem scLSomeWords : FnScope nLSomeWords ["draws", "many"] (defScope sLSomeWords) := ⟨rfl, rfl, rfl, by decide +kernel, rfl, by decide +kernel, by decide +kernel⟩
abbrev sLOddQuestion : Stmt := top 58
abbrev nLOddQuestion : List Str := ["draws", "script", "words", "question", "width", "joins", "kind", "at", "head", "body", "k", "terms", "atoms", "more", "join"]
theorem scLOddQuestion : FnScope nLOddQuestion ["draws", "script", "words"] (defScope sLOddQuestion) := ⟨rfl, rfl, rfl, by decide +kernel, rfl, by decide +kernel, by decide +kernel⟩
abbrev sLTold : Stmt := top 59
abbrev nLTold : List Str := ["text", "question", "e"]
theorem scLTold : FnScope nLTold ["text"] (defScope sLTold) := ⟨rfl, rfl, rfl, by decide +kernel, rfl, by decide +kernel, by decide +kernel⟩
abbrev sLaw : Stmt := top 60
abbrev nLaw : List Str := ["script", "draws", "words", "short", "cell", "question", "due", "fault"]
theorem scLaw : FnScope nLaw ["script"] (defScope sLaw) := ⟨rfl, rfl, rfl, by decide +kernel, rfl, by decide +kernel, by decide +kernel⟩
section
variable {P : Program} {w : World} {K : PySem.W.Frag} {mg : Str → Option Value} {base : Heap}
def spTake : Sp := fun vs H Q _ => ∃ (d : Addr) (m : Int) (ds : List Int), vs = [.ref d, .int m] ∧ 0 < m ∧ H d = some (.lst (ds.map V.int)) ∧ ∀ (r : Int) (H' : Hp), 0 ≤ r → r < m → Dr d H H' → Q (.int r) H'
theorem ok_take (T : Tx mg) {f : Addr} {fd : FuncData} (F : Dn K mg "_law_take" sLTake ["draws", "many"] f fd) : FnOk P w K mg base CX0 1 f fd ["draws", "many"] spTake := by
  refine F.F.ok scLTake (fun vs H Q E h => ?_) (fun cdv A outer s H vs Q E hr h => ?_)
  · obtain ⟨d, m, ds, rfl, _⟩ := h
    rfl
  obtain ⟨d, m, ds, rfl, hm, hd, q⟩ := h
  have nd := scLTake.nd
  refine ⟨_, (pss_cons (ps_if (pt_cmpR op_eq (pe_callB (k_len K rfl) rfl T.m_len PySem.boot_len (pa_cons (pv 0) pa_nil)) pe_int (nomark _)) (pss_one (ps_ret pe_int)) pss_nil)
  (pss_one (ps_ret (pe_op op_modN (pe_callTy c_int rfl T.m_int (by decide +kernel) (pa_cons (pe_bm0 PySem.F.plainAttrs_list PySem.F.slot_list_pop PySem.F.type_list_pop mt_pop (pv 0)) pa_nil)) (pv 1))))), ?_⟩
  walk_at "rd"
  refine rd_len (SqL.of hd) ?_
  walk_at "rd"
  refine iteD (fun c => ?_) (fun c => ?_)
  · walk_at "rd"
    exact q 0 _ (Int.le_refl 0) hm (.refl ⟨ds, hd⟩)
  · walk_at "rd"
    refine ⟨.inl ⟨rfl, _, SqL.of hd⟩, ?_⟩
    have hne : ds ≠ [] := fun e => c (by subst e; rfl)
    have hl : ds[ds.length - 1]? = some (ds.getLast hne) := by rw [List.getLast_eq_getElem]; exact List.getElem?_eq_getElem _
    refine ⟨d, _, V.int (ds.getLast hne), rfl, rfl, hd, by rw [List.length_map, List.getElem?_map, hl]; rfl, ?_⟩
    walk_at "rd"
    refine rd_i (by omega) ?_
    have e := Int.fmod_eq_emod_of_nonneg (ds.getLast hne) (show 0 ≤ m by omega)
    rw [e]
    refine q _ _ (Int.emod_nonneg _ (by omega)) (Int.emod_lt_of_pos _ hm) ?_
    rw [← List.map_dropLast]
    exact (Dr.refl ⟨ds, hd⟩).put _

end
section
variable {P : Program} {w : World} {K : PySem.W.Frag} {mg : Str → Option Value} {base : Heap}
def spDraws (K : PySem.W.Frag) : Sp := fun vs H Q _ => ∃ (a : Addr) (n : Int) (ns : List Int), vs = [.ref a, .int n] ∧ SqL K H a (ns.map V.int) ∧ 0 ≤ n ∧ n ≤ 2000 ∧ ns.length ≤ 63 ∧
  ∀ (d : Addr) (ds : List Int) (H' : Hp), H d = none → H' d = some (.lst (ds.map V.int)) → Same H H' → Q (.ref d) H'
theorem ok_draws (T : Tx mg) {f : Addr} {fd : FuncData} (F : Dn K mg "_law_draws" sLDraws ["script", "many"] f fd) : FnOk P w K mg base CX0 1 f fd ["script", "many"] (spDraws K) := by
  refine F.F.ok scLDraws (fun vs H Q E h => ?_) (fun cdv A outer s H vs Q E hr h => ?_)
  · obtain ⟨d, m, ds, rfl, _⟩ := h
    rfl
  obtain ⟨a, n, ns, rfl, hS, hn0, hn1, h63, q⟩ := h
  have nd := scLDraws.nd
  refine ⟨_, (pss_cons (ps_setLc (i := 2) (own := [("cell", (3 : Nat))]) (g := gName 3) rfl nd rfl rfl (sw_true rfl rfl rfl (by decide +kernel)) (k_pil K rfl (pv 0)) (blkOk_by (own := [("cell", (3 : Nat))]) (N := nLDraws) (sc := defScope sLDraws) (by decide +kernel)) (fun _ _ _ _ _ => pg_name (i := 3) nd rfl (Or.inl rfl)) (fun _ _ _ _ _ => pts_nil) (fun _ _ _ _ _ => (pe_callTy c_int rfl T.m_int (by decide +kernel) (pa_cons (pv 3) pa_nil))))
  (C8.pss_cut (ps_if (pt_cmpR op_eq (pe_callB (k_len K rfl) rfl T.m_len PySem.boot_len (pa_cons (pv 2) pa_nil)) pe_int (nomark _)) (pss_one (ps_expr (pe_bm PySem.F.plainAttrs_list PySem.F.slot_list_append PySem.F.type_list_append mt_append (pv 2) (pa_cons pe_int pa_nil)))) pss_nil)
  (pss_cons (ps_set (i := 4) nd rfl (Or.inl rfl) (pe_callTy (k_list K rfl) rfl T.m_list (by decide +kernel) (pa_cons (pv 2) pa_nil)))
  (pss_cons (ps_set (i := 5) nd rfl (Or.inl rfl) (pe_lst pa_nil))
  (pss_cons (ps_for PassesOwn.never rfl (pi_range1 rfl T.m_range (pa_cons (pv 1) pa_nil)) (pg_name (i := 6) nd rfl (Or.inl rfl)) (pss_cons (ps_set (i := 7) nd rfl (Or.inl rfl) (pe_op op_modN (pv 6) (pe_callB (k_len K rfl) rfl T.m_len PySem.boot_len (pa_cons (pv 2) pa_nil))))
  (pss_one (ps_if (pt_cmpR op_ge (pe_ix (k_ixL K rfl) (pv 2) (pv 7) (fun _ _ => rfl)) (pe_op op_pow pe_int pe_int) (nomark _)) (pss_cons (ps_expr (pe_bm PySem.F.plainAttrs_list PySem.F.slot_list_append PySem.F.type_list_append mt_append (pv 5) (pa_cons (pe_op op_modN (pe_callTy c_int rfl T.m_int (by decide +kernel) (pa_cons (pe_ix (k_ixL K rfl) (pv 4) (pv 7) (fun _ _ => rfl)) pa_nil)) pe_int) pa_nil)))
  (pss_one (ps_asg (pe_op op_fdiv (pe_ix (k_ixL K rfl) (pv 4) (pv 7) (fun _ _ => rfl)) pe_int) (pg_sub (pv 4) (pv 7) set_list)))) (pss_cons (ps_set (i := 8) nd rfl (Or.inl rfl) (pe_op op_modN (pe_callTy c_int rfl T.m_int (by decide +kernel) (pa_cons (pe_op op_add (pe_op op_add (pe_op op_mul (pe_ix (k_ixL K rfl) (pv 2) (pv 7) (fun _ _ => rfl)) pe_int) (pe_op op_mul (pv 6) pe_int)) pe_int) pa_nil)) pe_int))
  (pss_one (ps_expr (pe_bm PySem.F.plainAttrs_list PySem.F.slot_list_append PySem.F.type_list_append mt_append (pv 5) (pa_cons (pe_op op_modN (pe_callTy c_int rfl T.m_int (by decide +kernel) (pa_cons (pe_op op_add (pe_op op_add (pe_op op_mul (pv 8) (pv 8)) (pe_op op_mul pe_int (pv 8))) (pv 6)) pa_nil)) pe_int) pa_nil)))))))))
  (pss_cons (ps_expr (pe_bm0 PySem.F.plainAttrs_list PySem.F.slot_list_reverse PySem.F.type_list_reverse mt_reverse (pv 5)))
  (pss_one (ps_ret (pv 5))))))))), ?_⟩
  walk_at "rd"
  refine rd_il hS fun C hC => (lc_list (K := K) (a := a) (xs := ns.map V.int) (fun i H' => H' C = some (.lst ((ns.take i).map V.int)) ∧ Same H H') ⟨upd_same, same_new hC⟩ (fun i H' _ p => p.2.seq hS) ?_ ?_)
  · rintro i x H' hx ⟨p1, p2⟩
    obtain ⟨z, rfl, hz⟩ := map_get hx
    refine ⟨rfl, ?_⟩
    walk_at "rd"
    refine ⟨_, p1, ?_, ?_, ?_⟩
    · rw [List.length_map, List.length_take]
      exact small1000 (by omega)
    · rw [take_snoc hz, List.map_append]; exact upd_same
    · exact same_own p2 hC
  rintro H1 ⟨c1, g1⟩
  rw [List.length_map, List.take_of_length_le (Nat.le_refl _)] at c1
  walk_at "rd"
  refine ⟨fun σ' H' => σ' = [some (.ref a), some (.int n), some (.ref C), none, none, none, none, none, none] ∧ ∃ cs : List Int, H' C = some (.lst (cs.map V.int)) ∧ Same H H' ∧ cs ≠ [] ∧ cs.length ≤ 64, ?_, ?_⟩
  · walk_at "rd"
    refine rd_len (SqL.of c1) ?_
    walk_at "rd"
    refine iteD (fun c => ?_) (fun c => ?_)
    · walk_at "rd"
      refine ⟨.inl ⟨rfl, _, SqL.of c1⟩, ?_⟩
      walk_at "rd"
      refine ⟨C, _, _, rfl, rfl, c1, by rw [List.length_map]; exact small1000 (by omega), ?_⟩
      refine ⟨rfl, ns ++ [0], by rw [List.map_append]; exact upd_same, same_own g1 hC, by simp, by simp; omega⟩
    · walk_at "rd"
      refine ⟨rfl, ns, c1, g1, fun e => c (by subst e; rfl), by omega⟩
  rintro σ' H2 ⟨rfl, cs, c2, g2, cne, c64⟩
  have clen : 0 < cs.length := List.length_pos_iff.mpr cne
  walk_at "rd"
  refine rd_list (SqL.of c2) fun R hR => ?_
  walk_at "rd"
  refine rd_new (len_ok rfl) fun Dd hD => ?_
  walk_at "rd"
  have nRD : Dd ≠ R := fun e => by rw [e, upd_same] at hD; cases hD
  have hR0 : H R = none := by
    cases e : H R with
    | none => rfl
    | some u => rw [g2 _ _ e] at hR; cases hR
  have hD0 : H Dd = none := by
    cases e : H Dd with
    | none => rfl
    | some u => rw [upd_ne nRD, g2 _ _ e] at hD; cases hD
  have nCR : C ≠ R := ne_of_none c2 hR
  have nCD : C ≠ Dd := fun e => by rw [← e, upd_ne nCR, c2] at hD; cases hD
  refine rd_r1 ⟨by omega, by omega⟩ (for_range (lo := 0) (n := n.toNat) (fun i σ' H' => ∃ (v6 v7 v8 : Option V) (rs ds : List Int), σ' = [some (.ref a), some (.int n), some (.ref C), none, some (.ref R), some (.ref Dd), v6, v7, v8] ∧
    H' C = some (.lst (cs.map V.int)) ∧ H' R = some (.lst (rs.map V.int)) ∧ rs.length = cs.length ∧ H' Dd = some (.lst (ds.map V.int)) ∧ ds.length = i ∧ Same H H')
    ⟨none, none, none, cs, [], rfl, by rw [upd_ne nCD, upd_ne nCR]; exact c2, by rw [upd_ne nRD.symm]; exact upd_same, rfl, upd_same, rfl, same_own (same_own g2 hR0) hD0⟩ ?_ ?_)
  · rintro i σ' H' hi ⟨v6, v7, v8, rs, ds, rfl, e1, e2, e3, e4, e5, g3⟩
    walk_at "rd"
    refine rd_len (SqL.of e1) ?_
    walk_at "rd"
    refine rd_i (by rw [List.length_map]; omega) ?_
    walk_at "rd"
    generalize hj : (0 + (i : Int)).fmod _ = j
    have hj0 : 0 ≤ j ∧ j < cs.length := by
      rw [List.length_map, Int.fmod_eq_emod_of_nonneg _ (by omega)] at hj
      rw [← hj]
      exact ⟨Int.emod_nonneg _ (by omega), Int.emod_lt_of_pos _ (by omega)⟩
    have ixj : ixN rs.length j = some j.toNat := by
      unfold ixN
      rw [if_pos hj0.1, if_pos (by omega)]
    refine rd_ixL (SqL.of e1) (at_ints hj0.1 hj0.2) ?_
    walk_at "rd"
    refine rd_i ⟨by decide, by decide, by decide⟩ ?_
    walk_at "rd"
    have dlen : (ds.map V.int).length < sizeLine := by rw [List.length_map]; exact Nat.lt_of_le_of_lt (m := 3000) (by omega) (by decide)
    refine iteD (fun c => ?_) (fun c => ?_)
    · walk_at "rd"
      refine ⟨.inl ⟨rfl, _, SqL.of e4⟩, ?_⟩
      walk_at "rd"
      refine rd_ixL (SqL.of e2) (at_ints hj0.1 (by omega)) ?_
      walk_at "rd"
      refine rd_i (by decide) ?_
      walk_at "rd"
      refine ⟨Dd, _, _, rfl, rfl, e4, dlen, ?_⟩
      walk_at "rd"
      refine rd_ixL (SqL.of (by rw [upd_ne nRD.symm]; exact e2)) (at_ints hj0.1 (by omega)) ?_
      walk_at "rd"
      refine rd_i ⟨by decide, by decide⟩ ?_
      refine ⟨_, rfl, _, rfl, R, _, _, j.toNat, rfl, rfl, (by rw [upd_ne nRD.symm]; exact e2), (by rw [List.length_map]; exact ixj), ?_⟩
      refine ⟨_, _, _, rs.set j.toNat ((rs.getD j.toNat 0) / 1000), ds ++ [(rs.getD j.toNat 0).fmod 1000], rfl, ?_, ?_, ?_, ?_, ?_, ?_⟩
      · rw [upd_ne nCR, upd_ne nCD]; exact e1
      · rw [upd_same, List.map_set]
      · rw [List.length_set]; exact e3
      · rw [upd_ne nRD, upd_same, List.map_append]; rfl
      · rw [List.length_append, e5]; rfl
      · exact same_own (same_own g3 hD0) hR0
    · walk_at "rd"
      refine rd_ixL (SqL.of e1) (at_ints hj0.1 hj0.2) ?_
      walk_at "rd"
      refine rd_i (.inr ⟨by decide, by decide⟩) ?_
      walk_at "rd"
      refine rd_i (.inr ⟨by decide, by decide⟩) ?_
      walk_at "rd"
      refine rd_i (by decide) ?_
      walk_at "rd"
      generalize hm : Int.fmod _ 2147483647 = m
      have hm0 : 0 ≤ m ∧ m < 2147483647 := by
        rw [Int.fmod_eq_emod_of_nonneg _ (by decide)] at hm
        rw [← hm]
        exact ⟨Int.emod_nonneg _ (by decide), Int.emod_lt_of_pos _ (by decide)⟩
      refine ⟨.inl ⟨rfl, _, SqL.of e4⟩, ?_⟩
      walk_at "rd"
      refine rd_i (.inl ⟨by omega, by omega⟩) ?_
      walk_at "rd"
      refine rd_i (.inl ⟨by decide, by decide⟩) ?_
      walk_at "rd"
      refine rd_i (by decide) ?_
      walk_at "rd"
      generalize Int.fmod _ 1000003 = x
      refine ⟨Dd, _, _, rfl, rfl, e4, dlen, ?_⟩
      walk_at "rd"
      refine ⟨_, _, _, rs, ds ++ [x], rfl, ?_, ?_, e3, ?_, ?_, ?_⟩
      · rw [upd_ne nCD]; exact e1
      · rw [upd_ne nRD.symm]; exact e2
      · rw [upd_same, List.map_append]; rfl
      · rw [List.length_append, e5]; rfl
      · exact same_own g3 hD0
  · rintro σ' H' ⟨v6, v7, v8, rs, ds, rfl, e1, e2, e3, e4, e5, g3⟩
    walk_at "rd"
    refine ⟨.inl ⟨rfl, _, SqL.of e4⟩, ?_⟩
    refine ⟨Dd, _, rfl, rfl, e4, ?_⟩
    walk_at "rd"
    refine q Dd ds.reverse _ hD0 (by rw [upd_same, List.map_reverse]) (same_own g3 hD0)

end
section
variable {P : Program} {w : World} {K : PySem.W.Frag} {mg : Str → Option Value} {base : Heap}
theorem take_step {d : Addr} {m : Int} {H : Hp} {Q : VK} {E : XK} (hm : 0 < m) (hd : DrAt d H) (q : ∀ (r : Int) (H' : Hp), 0 ≤ r → r < m → Dr d H H' → Q (.int r) H') : spTake [.ref d, .int m] H Q E := by
  obtain ⟨ds, e⟩ := hd
  exact ⟨d, m, ds, rfl, hm, e, q⟩
/-- the size of a number that is drawn -/
def NumOf (ns : List Int) (n : Int) : Prop := n.natAbs < 10 ^ 15 ∨ ∃ x ∈ ns, n.natAbs = x.natAbs
def spSize (K : PySem.W.Frag) : Sp := fun vs H Q _ => ∃ (d a : Addr) (ns : List Int), vs = [.ref d, .ref a] ∧ DrAt d H ∧ Sc K H d a ns ∧ ns.length ≤ 63 ∧ ∀ (n : Int) (H' : Hp), 0 ≤ n → Dr d H H' → NumOf ns n → Q (.int n) H'
theorem ok_size (T : Tx mg) {f : Addr} {fd : FuncData} (F : Dn K mg "_law_size" sLSize ["draws", "script"] f fd) {fT : Addr} {fdT : FuncData} (DLTake : Dn K mg "_law_take" sLTake ["draws", "many"] fT fdT) (GLTake : FnOk P w K mg base CX0 1 fT fdT ["draws", "many"] spTake) :
    FnOk P w K mg base CX0 2 f fd ["draws", "script"] (spSize K) := by
  refine F.F.ok scLSize (fun vs H Q E h => ?_) (fun cdv A outer s H vs Q E hr h => ?_)
  · obtain ⟨d, a, ns, rfl, _⟩ := h
    rfl
  obtain ⟨d, a, ns, rfl, hd, hS, h63, q⟩ := h
  have nd := scLSize.nd
  refine ⟨_, (pss_cons (ps_set (i := 2) nd rfl (Or.inl rfl) (pe_call GLTake (hr.mono (by omega)) rfl DLTake.m DLTake.F.kp DLTake.b .nil pass0 (pa_cons (pv 0) (pa_cons pe_int pa_nil))))
  (pss_cons (ps_if (pt_cmpR op_lt (pv 2) pe_int (nomark _)) (pss_one (ps_ret (pe_call GLTake (hr.mono (by omega)) rfl DLTake.m DLTake.F.kp DLTake.b .nil pass0 (pa_cons (pv 0) (pa_cons pe_int pa_nil))))) pss_nil)
  (pss_cons (ps_if (pt_cmpR op_eq (pv 2) pe_int (nomark _)) (pss_one (ps_ret (pe_call GLTake (hr.mono (by omega)) rfl DLTake.m DLTake.F.kp DLTake.b .nil pass0 (pa_cons (pv 0) (pa_cons pe_int pa_nil))))) pss_nil)
  (pss_cons (ps_if (PW.pt (pw_or (pt_cmpR op_eq (pv 2) pe_int (nomark _)) (pw_or1 (pt_cmpR op_eq (pe_callB (k_len K rfl) rfl T.m_len PySem.boot_len (pa_cons (pv 1) pa_nil)) pe_int (nomark _))))) (pss_cons (ps_set (i := 3) nd rfl (Or.inl rfl) pe_int)
  (pss_cons (ps_for PassesOwn.never rfl (pi_range1 rfl T.m_range (pa_cons pe_int pa_nil)) (pg_name (i := 4) nd rfl (Or.inl rfl)) (pss_one (ps_set (i := 3) nd rfl (Or.inl rfl) (pe_op op_add (pe_op op_mul (pv 3) pe_int) (pe_call GLTake (hr.mono (by omega)) rfl DLTake.m DLTake.F.kp DLTake.b .nil pass0 (pa_cons (pv 0) (pa_cons pe_int pa_nil)))))))
  (pss_one (ps_ret (pv 3))))) pss_nil)
  (pss_one (ps_ret (pe_callB c_abs rfl T.m_abs (by decide +kernel) (pa_cons (pe_callTy c_int rfl T.m_int (by decide +kernel) (pa_cons (pe_ix (k_ixL K rfl) (pv 1) (pe_call GLTake (hr.mono (by omega)) rfl DLTake.m DLTake.F.kp DLTake.b .nil pass0 (pa_cons (pv 0) (pa_cons (pe_callB (k_len K rfl) rfl T.m_len PySem.boot_len (pa_cons (pv 1) pa_nil)) pa_nil))) (fun _ _ => rfl)) pa_nil)) pa_nil)))))))), ?_⟩
  walk_at "rd"
  refine take_step (by decide) hd fun r H1 r0 r1 g1 => ?_
  walk_at "rd"
  refine iteD (fun c => ?_) (fun c => ?_)
  · walk_at "rd"
    exact take_step (by decide) g1.isD fun r2 H2 b0 b1 g2 => q _ _ b0 (g1.trans g2) (.inl (by omega))
  walk_at "rd"
  refine iteD (fun c2 => ?_) (fun c2 => ?_)
  · walk_at "rd"
    exact take_step (by decide) g1.isD fun r2 H2 b0 b1 g2 => q _ _ b0 (g1.trans g2) (.inl (by omega))
  walk_at "rd"
  have num : ∀ H1, Dr d H H1 → tSeq (tAsg (tC (V.int 0)) (gName 3)) (tSeq (tFor (iRng1 (tCons (tC (V.int 5)) tNil)) (gName 4) (tAsg (tOp (rI0 fun i j => V.int (i + j)) (tOp (rI CMul fun i j => V.int (i * j)) (tVar 3) (tC (V.int 1000))) (tCall spTake [] E0 (tCons (tVar 0) (tCons (tC (V.int 1000)) tNil)))) (gName 3))) (tRet (tVar 3)))
      { nx := fun _ _ => False, rt := Q } [some (.ref d), some (.ref a), some (.int r), none, none] H1 := by
    intro H1 g1
    walk_at "rd"
    refine rd_r1 ⟨by decide, by decide⟩ (for_range (lo := 0) (n := 5) (fun i σ' H' => ∃ (v4 : Option V) (num : Int), σ' = [some (.ref d), some (.ref a), some (.int r), some (.int num), v4] ∧ 0 ≤ num ∧ num < 1000 ^ i ∧ Dr d H H') ⟨none, 0, rfl, Int.le_refl 0, by decide, g1⟩ ?_ ?_)
    · rintro i σ' H' hi ⟨v4, num, rfl, n0, n1, g2⟩
      walk_at "rd"
      refine rd_i (.inr ⟨by decide, by decide⟩) ?_
      walk_at "rd"
      refine take_step (by decide) g2.isD fun r2 H2 b0 b1 g3 => ?_
      walk_at "rd"
      exact ⟨_, _, rfl, by omega, by rw [Int.pow_succ]; omega, g2.trans g3⟩
    · rintro σ' H' ⟨v4, num, rfl, n0, n1, g2⟩
      walk_at "rd"
      exact q _ _ n0 g2 (.inl (by have : (1000 : Int) ^ 5 = 10 ^ 15 := by decide
                                  omega))
  refine iteD (fun c3 => ?_) (fun c3 => ?_)
  · exact num H1 g1
  walk_at "rd"
  have hS1 := (hS.dr g1).now g1.isD
  refine rd_len hS1 ?_
  walk_at "rd"
  refine iteD (fun c4 => ?_) (fun c4 => ?_)
  · exact num H1 g1
  walk_at "rd"
  refine rd_len hS1 ?_
  walk_at "rd"
  have hl : (ns.map V.int).length = ns.length := List.length_map _
  have hpos : 0 < ns.length := by
    rw [hl] at c4
    rcases Nat.eq_zero_or_pos ns.length with e | e
    · exact absurd (by rw [e]; rfl) c4
    · exact e
  refine take_step (by omega) g1.isD fun r2 H2 b0 b1 g2 => ?_
  refine rd_ixL ((hS.dr (g1.trans g2)).now g2.isD) (at_ints b0 (by omega)) ?_
  walk_at "rd"
  have hx : ns.getD r2.toNat 0 ∈ ns := by
    have hk : r2.toNat < ns.length := by omega
    rw [List.getD_eq_getElem?_getD, List.getElem?_eq_getElem hk]
    exact List.getElem_mem hk
  refine q _ _ ?_ (g1.trans g2) (.inr ⟨_, hx, ?_⟩)
  · split <;> omega
  · split <;> omega


end
section
variable {P : Program} {w : World} {K : PySem.W.Frag} {mg : Str → Option Value} {base : Heap}
def spPick (K : PySem.W.Frag) : Sp := fun vs H Q _ => ∃ (d l : Addr) (xs : List V), vs = [.ref d, .ref l] ∧ DrAt d H ∧ H l = some (.lst xs) ∧ l ≠ d ∧ xs ≠ [] ∧ ∀ (v : V) (H' : Hp), Dr d H H' → v ∈ xs → Q v H'
theorem ok_pick (T : Tx mg) {f f1 : Addr} {fd d1 : FuncData} (F : Dn K mg "_law_pick" sLPick ["draws", "row"] f fd) (DLTake : Dn K mg "_law_take" sLTake ["draws", "many"] f1 d1) (GLTake : FnOk P w K mg base CX0 1 f1 d1 ["draws", "many"] spTake) :
    FnOk P w K mg base CX0 2 f fd ["draws", "row"] (spPick K) := by
  refine F.F.ok scLPick (fun vs H Q E h => ?_) (fun cdv A outer s H vs Q E hr h => ?_)
  · obtain ⟨d, l, xs, rfl, _⟩ := h
    rfl
  obtain ⟨d, l, xs, rfl, hd, hl, nl, ne, q⟩ := h
  refine ⟨_, (pss_one (ps_ret (pe_ix (k_ixL K rfl) (pv 1) (pe_call GLTake (hr.mono (by omega)) rfl DLTake.m DLTake.F.kp DLTake.b .nil pass0 (pa_cons (pv 0) (pa_cons (pe_callB (k_len K rfl) rfl T.m_len PySem.boot_len (pa_cons (pv 1) pa_nil)) pa_nil))) (fun _ _ => rfl)))), ?_⟩
  walk_at "rd"
  refine rd_len (SqL.of hl) ?_
  walk_at "rd"
  have hp := List.length_pos_iff.mpr ne
  refine take_step (by omega) hd fun r H1 r0 r1 g1 => ?_
  obtain ⟨v, ev, mv⟩ := atI_mem (xs := xs) r0 r1
  refine rd_ixL (SqL.of (g1.kp _ _ nl hl)) ev ?_
  exact q v H1 g1 mv

end
section
variable {P : Program} {w : World} {K : PySem.W.Frag} {mg : Str → Option Value} {base : Heap}
section
variable {K : PySem.W.Frag} {H : Hp}
theorem rpa_mem : ∀ {xs : List V} {ts : List TD} {v : V}, RpA K H xs ts → v ∈ xs → ∃ t, t ∈ ts ∧ Rp K H v t
  | x :: xs, _, v, r, h => by
    cases r with
    | cons a b =>
      rcases List.mem_cons.mp h with e | e
      · exact ⟨_, List.mem_cons_self, by rw [e]; exact a⟩
      · obtain ⟨t, ht, q⟩ := rpa_mem b e
        exact ⟨t, List.mem_cons_of_mem _ ht, q⟩
theorem rpa_set : ∀ {xs : List V} {ts : List TD} {v : V} {t : TD} (k : Nat), RpA K H xs ts → Rp K H v t → RpA K H (xs.set k v) (ts.set k t)
  | [], _, _, _, _, r, _ => by cases r; exact .nil
  | x :: xs, _, v, t, 0, r, q => by cases r with | cons a b => exact .cons q b
  | x :: xs, _, v, t, k + 1, r, q => by cases r with | cons a b => exact .cons a (rpa_set k b q)
theorem rpa_at : ∀ {xs : List V} {ts : List TD} {i : Nat} {x : V}, RpA K H xs ts → xs[i]? = some x → ∃ t, ts[i]? = some t ∧ Rp K H x t
  | [], _, _, _, _, h => by cases h
  | y :: ys, _, 0, x, r, h => by cases r with | cons a b => cases h; exact ⟨_, rfl, a⟩
  | y :: ys, _, i + 1, x, r, h => by cases r with | cons a b => exact rpa_at (xs := ys) (i := i) b (by rw [List.getElem?_cons_succ] at h; exact h)
theorem Rp.seq {v : V} {ts : List TD} (r : Rp K H v (.tup ts)) : ∃ a xs, v = .ref a ∧ SqT K H a xs ∧ RpA K H xs ts := by
  cases r with
  | tup s ra => exact ⟨_, _, rfl, s, ra⟩
theorem Rp.pr {v : V} {z : Str} {x : TD} (r : Rp K H v (.tup [.str z, x])) : ∃ a u, v = .ref a ∧ SqT K H a [.str z, u] ∧ Rp K H u x := by
  cases r with
  | tup s ra =>
    cases ra with
    | cons a b =>
      cases a
      cases b with
      | cons c e => cases e; exact ⟨_, _, rfl, s, c⟩
end

end
section
variable {P : Program} {w : World} {K : PySem.W.Frag} {mg : Str → Option Value} {base : Heap}
def spNumber (K : PySem.W.Frag) : Sp := fun vs H Q _ => ∃ (d a : Addr) (ns : List Int), vs = [.ref d, .ref a] ∧ DrAt d H ∧ Sc K H d a ns ∧ ns.length ≤ 63 ∧ ∀ (n : Int) (H' : Hp), Dr d H H' → NumOf ns n → Q (.int n) H'
theorem ok_number (T : Tx mg) {f f1 f2 : Addr} {fd d1 d2 : FuncData} (F : Dn K mg "_law_number" sLNumber ["draws", "script"] f fd) (DLTake : Dn K mg "_law_take" sLTake ["draws", "many"] f1 d1) (GLTake : FnOk P w K mg base CX0 1 f1 d1 ["draws", "many"] spTake)
    (DLSize : Dn K mg "_law_size" sLSize ["draws", "script"] f2 d2) (GLSize : FnOk P w K mg base CX0 2 f2 d2 ["draws", "script"] (spSize K)) : FnOk P w K mg base CX0 3 f fd ["draws", "script"] (spNumber K) := by
  refine F.F.ok scLNumber (fun vs H Q E h => ?_) (fun cdv A outer s H vs Q E hr h => ?_)
  · obtain ⟨d, a, ns, rfl, _⟩ := h
    rfl
  obtain ⟨d, a, ns, rfl, hd, hS, h63, q⟩ := h
  have nd := scLNumber.nd
  refine ⟨_, (pss_one (ps_ret (pe_op op_mul (pe_call GLSize (hr.mono (by omega)) rfl DLSize.m DLSize.F.kp DLSize.b .nil pass0 (pa_cons (pv 0) (pa_cons (pv 1) pa_nil))) (pe_op op_sub pe_int (pe_op op_mul pe_int (pe_call GLTake (hr.mono (by omega)) rfl DLTake.m DLTake.F.kp DLTake.b .nil pass0 (pa_cons (pv 0) (pa_cons pe_int pa_nil)))))))), ?_⟩
  walk_at "rd"
  refine ⟨d, a, ns, rfl, hd, hS, h63, fun n H1 n0 g1 hn => ?_⟩
  walk_at "rd"
  refine take_step (by decide) g1.isD fun r H2 r0 r1 g2 => ?_
  refine rd_i (.inl ⟨by decide, by decide⟩) ?_
  walk_at "rd"
  refine rd_i (.inr ⟨by omega, by omega⟩) ?_
  refine q _ _ (g1.trans g2) ?_
  have e : (n * (1 - 2 * r)).natAbs = n.natAbs := by
    have : r = 0 ∨ r = 1 := by omega
    rcases this with rfl | rfl
    · rw [show (1 : Int) - 2 * 0 = 1 by decide, Int.mul_one]
    · rw [show (1 : Int) - 2 * 1 = -1 by decide, Int.mul_neg, Int.mul_one, Int.natAbs_neg]
  unfold NumOf
  rw [e]
  exact hn

end
section
variable {P : Program} {w : World} {K : PySem.W.Frag} {mg : Str → Option Value} {base : Heap}
def spSame (K : PySem.W.Frag) (n : Nat) : Sp := fun vs H Q _ => ∃ (x y : V) (t : TD), vs = [x, y] ∧ Rp K H x t ∧ Rp K H y t ∧ t.fit n ∧ ∀ H', Same H H' → Q (.bl true) H'
theorem ok_same_turn (T : Tx mg) {n : Nat} {f : Addr} {fd : FuncData} (DLSame : Dn K mg "_law_same" sLSame ["actual", "due"] f fd) (GLSame : FnOk P w K mg base CX0 n f fd ["actual", "due"] (spSame K n)) :
    FnOk P w K mg base CX0 (n + 1) f fd ["actual", "due"] (spSame K (n + 1)) := by
  refine DLSame.F.ok scLSame (fun vs H Q E h => ?_) (fun cdv A outer s H vs Q E hr h => ?_)
  · obtain ⟨x, y, t, rfl, _⟩ := h
    rfl
  obtain ⟨x, y, t, rfl, rx, ry, ft, q⟩ := h
  have nd := scLSame.nd
  refine ⟨_, (pss_cons (ps_if (pt_val (pe_callB (k_isiT K rfl) rfl T.m_isinstance (by decide +kernel) (pa_cons (pv 1) (pa_cons (pe_tup (pa_cons (pe_bltn (v := .ty "tuple") rfl T.m_tuple (by decide +kernel) rfl) (pa_cons (pe_bltn (v := .ty "list") rfl T.m_list (by decide +kernel) rfl) pa_nil))) pa_nil)))) (pss_cons (ps_if (PW.pt (pw_or (pt_cmpR op_ne (pe_callB (k_isi K rfl) rfl T.m_isinstance (by decide +kernel) (pa_cons (pv 0) (pa_cons (pe_bltn (v := .ty "tuple") rfl T.m_tuple (by decide +kernel) rfl) pa_nil))) (pe_callB (k_isi K rfl) rfl T.m_isinstance (by decide +kernel) (pa_cons (pv 1) (pa_cons (pe_bltn (v := .ty "tuple") rfl T.m_tuple (by decide +kernel) rfl) pa_nil))) (nomark _)) (pw_or1 (pt_cmpR op_ne (pe_callB (k_isi K rfl) rfl T.m_isinstance (by decide +kernel) (pa_cons (pv 0) (pa_cons (pe_bltn (v := .ty "list") rfl T.m_list (by decide +kernel) rfl) pa_nil))) (pe_callB (k_isi K rfl) rfl T.m_isinstance (by decide +kernel) (pa_cons (pv 1) (pa_cons (pe_bltn (v := .ty "list") rfl T.m_list (by decide +kernel) rfl) pa_nil))) (nomark _))))) (pss_one (ps_ret pe_bl)) pss_nil)
  (pss_cons (ps_if (pt_cmpR op_ne (pe_callB (k_len K rfl) rfl T.m_len PySem.boot_len (pa_cons (pv 0) pa_nil)) (pe_callB (k_len K rfl) rfl T.m_len PySem.boot_len (pa_cons (pv 1) pa_nil)) (nomark _)) (pss_one (ps_ret pe_bl)) pss_nil)
  (pss_one (ps_ret (pe_cmpR (k_notIn K rfl) pe_bl (pe_lc (own := [("k", (2 : Nat))]) (g := gName 2) rfl nd (pi_range1 rfl T.m_range (pa_cons (pe_callB (k_len K rfl) rfl T.m_len PySem.boot_len (pa_cons (pv 1) pa_nil)) pa_nil)) (blkOk_by (own := [("k", (2 : Nat))]) (N := nLSame) (sc := defScope sLSame) (by decide +kernel)) (fun _ _ _ _ _ => pg_name (i := 2) nd rfl (Or.inl rfl)) (fun _ _ _ _ _ => pts_nil) (fun _ _ _ _ _ => (pe_call GLSame (hr.mono (by omega)) rfl DLSame.m DLSame.F.kp DLSame.b .nil pass0 (pa_cons (pe_ix (k_ixT K rfl) (pv 0) (pv 2) (fun _ _ => rfl)) (pa_cons (pe_ix (k_ixT K rfl) (pv 1) (pv 2) (fun _ _ => rfl)) pa_nil))))) rfl))))) pss_nil)
  (pss_cons (ps_if (PW.pt (pw_or (pt_cmpR op_ne (pe_callB (k_isi K rfl) rfl T.m_isinstance (by decide +kernel) (pa_cons (pv 0) (pa_cons (pe_bltn (v := .ty "bool") rfl T.m_bool (by decide +kernel) rfl) pa_nil))) (pe_callB (k_isi K rfl) rfl T.m_isinstance (by decide +kernel) (pa_cons (pv 1) (pa_cons (pe_bltn (v := .ty "bool") rfl T.m_bool (by decide +kernel) rfl) pa_nil))) (nomark _)) (pw_or1 (pt_cmpR op_ne (pe_callB (k_isi K rfl) rfl T.m_isinstance (by decide +kernel) (pa_cons (pv 0) (pa_cons (pe_bltn (v := .ty "int") rfl T.m_int (by decide +kernel) rfl) pa_nil))) (pe_callB (k_isi K rfl) rfl T.m_isinstance (by decide +kernel) (pa_cons (pv 1) (pa_cons (pe_bltn (v := .ty "int") rfl T.m_int (by decide +kernel) rfl) pa_nil))) (nomark _))))) (pss_one (ps_ret pe_bl)) pss_nil)
  (pss_cons (ps_if (PW.pt (pw_or (pt_cmpR op_ne (pe_callB (k_isi K rfl) rfl T.m_isinstance (by decide +kernel) (pa_cons (pv 0) (pa_cons (pe_bltn (v := .ty "str") rfl T.m_str (by decide +kernel) rfl) pa_nil))) (pe_callB (k_isi K rfl) rfl T.m_isinstance (by decide +kernel) (pa_cons (pv 1) (pa_cons (pe_bltn (v := .ty "str") rfl T.m_str (by decide +kernel) rfl) pa_nil))) (nomark _)) (pw_or1 (pt_cmpR op_ne (pe_cmpR o_isN (pv 0) pe_non (nomark _)) (pe_cmpR o_isN (pv 1) pe_non (nomark _)) (nomark _))))) (pss_one (ps_ret pe_bl)) pss_nil)
  (pss_one (ps_ret (pe_cmpR op_eq (pv 0) (pv 1) (nomark _))))))), ?_⟩
  cases t with
  | tup ds =>
    obtain ⟨flen, fall⟩ := ft
    cases rx with
    | @tup a xs _ sx ax =>
    cases ry with
    | @tup b ys _ sy ay =>
    have lx : xs.length = ds.length := ax.length
    have ly : ys.length = ds.length := ay.length
    walk_at "rd"
    refine rd_new (len_ok rfl) fun tp htp => ?_
    walk_at "rd"
    have g0 : Same H (upd H tp (.tup [.ty "tuple", .ty "list"])) := same_new htp
    refine rd_isiT (b := true) upd_same (.cons (.ty _) (.cons (.ty _) .nil)) (sqt_ty (same_sqt g0 sy)) kt_tup ?_
    walk_at "rd"
    refine rd_isi (.ty _) (sqt_ty (same_sqt g0 sx)) (kit_ty (r := true) (by decide +kernel)) ?_
    walk_at "rd"
    refine rd_isi (.ty _) (sqt_ty (same_sqt g0 sy)) (kit_ty (r := true) (by decide +kernel)) ?_
    walk_at "dec"
    refine rd_isi (.ty _) (sqt_ty (same_sqt g0 sx)) (kit_ty (r := false) (by decide +kernel)) ?_
    walk_at "rd"
    refine rd_isi (.ty _) (sqt_ty (same_sqt g0 sy)) (kit_ty (r := false) (by decide +kernel)) ?_
    walk_at "dec"
    refine rd_lenT (same_sqt g0 sx) ?_
    walk_at "rd"
    refine rd_lenT (same_sqt g0 sy) ?_
    walk_at "rd"
    refine iteNF (by rw [lx, ly]) ?_
    walk_at "rd"
    refine rd_lenT (same_sqt g0 sy) ?_
    walk_at "rd"
    refine rd_r1 ⟨by omega, by omega⟩ fun D hD => ?_
    refine lc_range (lo := 0) (n := (ys.length : Int).toNat) (fun i H' => H' D = some (.lst (List.replicate i (.bl true))) ∧ Same H H') ⟨upd_same, (g0.trans (same_new hD))⟩ ?_ ?_
    · rintro i H' hi ⟨e1, g1⟩
      refine ⟨rfl, ?_⟩
      have hi' : i < ds.length := by omega
      obtain ⟨v, hv, rv⟩ := ax.get (i := i) (List.getElem?_eq_getElem hi')
      obtain ⟨u, hu, ru⟩ := ay.get (i := i) (List.getElem?_eq_getElem hi')
      walk_at "rd"
      rw [Int.zero_add]
      refine rd_ixT (same_sqt g1 sx) (atI_nat hv) ?_
      walk_at "rd"
      refine rd_ixT (same_sqt g1 sy) (atI_nat hu) ?_
      refine ⟨v, u, ds[i], rfl, same_rp g1 rv, same_rp g1 ru, fall _ (List.getElem_mem hi'), fun H2 g2 => ?_⟩
      refine ⟨_, g2 _ _ e1, by rw [List.length_replicate]; exact Nat.lt_of_le_of_lt (show i ≤ 20000 by omega) (by decide), ?_, ?_⟩
      · rw [upd_same, List.replicate_succ']
      · exact same_own (g1.trans g2) (g0.free hD)
    · rintro H' ⟨e1, g1⟩
      refine rd_notIn (SqL.of e1) rfl (trues_flat _) ?_
      rw [trues_no]
      exact q _ g1
  | non =>
    cases rx; cases ry
    walk_at "rd"
    refine rd_new (len_ok rfl) fun tp htp => ?_
    walk_at "rd"
    refine rd_isiT (b := false) upd_same (.cons (.ty _) (.cons (.ty _) .nil)) (.base .non) (kt_no (by decide +kernel) (by decide +kernel)) ?_
    iterate 6 (walk_at "dec"; refine rd_isi (.ty _) (.base .non) (kit_ty (r := false) (by decide +kernel)) ?_)
    walk_at "dec"
    exact q _ (same_new htp)
  | bl z =>
    cases rx; cases ry
    walk_at "rd"
    refine rd_new (len_ok rfl) fun tp htp => ?_
    walk_at "rd"
    refine rd_isiT (b := false) upd_same (.cons (.ty _) (.cons (.ty _) .nil)) (.base (.bl z)) (kt_no (by decide +kernel) (by decide +kernel)) ?_
    iterate 6 (walk_at "dec"; first | refine rd_isi (.ty _) (.base (.bl z)) (kit_ty (r := false) (by decide +kernel)) ?_ | refine rd_isi (.ty _) (.base (.bl z)) (kit_ty (r := true) (by decide +kernel)) ?_)
    walk_at "dec"
    refine iteNF rfl ?_
    walk_at "dec"
    rw [decide_eq_true rfl]
    exact q _ (same_new htp)
  | int z =>
    cases rx; cases ry
    walk_at "rd"
    refine rd_new (len_ok rfl) fun tp htp => ?_
    walk_at "rd"
    refine rd_isiT (b := false) upd_same (.cons (.ty _) (.cons (.ty _) .nil)) (.base (.int z)) (kt_no (by decide +kernel) (by decide +kernel)) ?_
    iterate 6 (walk_at "dec"; first | refine rd_isi (.ty _) (.base (.int z)) (kit_ty (r := false) (by decide +kernel)) ?_ | refine rd_isi (.ty _) (.base (.int z)) (kit_ty (r := true) (by decide +kernel)) ?_)
    walk_at "dec"
    refine iteNF rfl ?_
    walk_at "dec"
    rw [decide_eq_true rfl]
    exact q _ (same_new htp)
  | str z =>
    cases rx; cases ry
    walk_at "rd"
    refine rd_new (len_ok rfl) fun tp htp => ?_
    walk_at "rd"
    refine rd_isiT (b := false) upd_same (.cons (.ty _) (.cons (.ty _) .nil)) (.base (.str z)) (kt_no (by decide +kernel) (by decide +kernel)) ?_
    iterate 6 (walk_at "dec"; first | refine rd_isi (.ty _) (.base (.str z)) (kit_ty (r := false) (by decide +kernel)) ?_ | refine rd_isi (.ty _) (.base (.str z)) (kit_ty (r := true) (by decide +kernel)) ?_)
    walk_at "dec"
    refine iteNF rfl ?_
    walk_at "dec"
    rw [decide_eq_true rfl]
    exact q _ (same_new htp)
theorem ok_same (T : Tx mg) {f : Addr} {fd : FuncData} (D : Dn K mg "_law_same" sLSame ["actual", "due"] f fd) : ∀ n : Nat, FnOk P w K mg base CX0 n f fd ["actual", "due"] (spSame K n)
  | 0 => by
    have no : ∀ vs H Q E, ¬ spSame K 0 vs H Q E := fun vs H Q E h => by
      obtain ⟨x, y, t, _, _, _, ft, _⟩ := h
      exact ft
    exact ⟨fun vs H Q E h => absurd h (no vs H Q E), fun A outer s H args us vs Q E _ _ _ _ h => absurd h (no vs H Q E)⟩
  | n + 1 => ok_same_turn T D (ok_same T D n)

end
section
variable {P : Program} {w : World} {K : PySem.W.Frag} {mg : Str → Option Value} {base : Heap}
/-- the letters, words -/
def abc : Str := "abcdefghijklmnopqrstuvwxyz"
def wordB (z : Str) : Bool := (sg z).all (fun c => decide (c ∈ sg abc)) && decide (0 < z.length)
def WordOk (z : Str) : Prop := wordB z = true ∧ z.length ≤ 23
theorem flat_one : ∀ cs : List Nat, (cs.map fun c => (⟨#[c]⟩ : Str)).flatMap sg = cs
  | [] => rfl
  | c :: r => by rw [List.map_cons, List.flatMap_cons, flat_one r]; rfl
theorem sum_one : ∀ cs : List Nat, ((cs.map fun c => (⟨#[c]⟩ : Str)).map (·.length)).sum = cs.length
  | [] => rfl
  | c :: r => by rw [List.map_cons, List.map_cons, List.sum_cons, sum_one r]; show 1 + r.length = r.length + 1; omega
theorem word_of {u : Str} {cs : List Nat} (e : sg u = cs) (h : ∀ c ∈ cs, c ∈ sg abc) (h1 : 1 ≤ cs.length) : wordB u = true := by
  unfold wordB
  have hl : u.length = cs.length := by rw [← e]; rfl
  rw [e, decide_eq_true (by omega : 0 < u.length), Bool.and_true, List.all_eq_true]
  exact fun c hc => decide_eq_true (h c hc)
/-- the list of words that a law draws -/
structure Wl (d L : Addr) (ws : List Str) (H : Hp) : Prop where
  at_ : H L = some (.lst (ws.map V.str))
  ne : L ≠ d
  ok : ∀ z ∈ ws, WordOk z
theorem Wl.dr {d L : Addr} {ws : List Str} {H H' : Hp} (h : Wl d L ws H) (g : Dr d H H') : Wl d L ws H' := ⟨g.kp _ _ h.ne h.at_, h.ne, h.ok⟩
theorem abc_is : sg abc = [97, 98, 99, 100, 101, 102, 103, 104, 105, 106, 107, 108, 109, 110, 111, 112, 113, 114, 115, 116, 117, 118, 119, 120, 121, 122] := by decide +kernel
/-- the drawn words are all different -/
def Wd (i : Nat) (ws : List Str) : Prop := ws.Nodup ∧ ∀ z ∈ ws, z.length ≠ 5 ∨ ∃ k, k < i ∧ sg z = sg "zzzz" ++ [97 + k]
theorem abc_at : ∀ k : Nat, k < 26 → atI (sg abc) (k : Int) = some (97 + k) := by
  have h : ∀ k : Fin 26, atI (sg abc) ((k : Nat) : Int) = some (97 + (k : Nat)) := by decide +kernel
  exact fun k hk => h ⟨k, hk⟩
theorem Wd.more {i : Nat} {ws : List Str} {z : Str} (h : Wd i ws) (n : z ∉ ws) (q : z.length ≠ 5 ∨ sg z = sg "zzzz" ++ [97 + i]) : Wd (i + 1) (ws ++ [z]) := by
  refine ⟨List.nodup_append.mpr ⟨h.1, List.nodup_cons.mpr ⟨(fun z => nomatch z), List.nodup_nil⟩, (fun x hx y hy e => ?_)⟩, (fun x hx => ?_)⟩
  · rw [List.mem_singleton.mp hy] at e
    exact n (e ▸ hx)
  · rcases List.mem_append.mp hx with m | m
    · rcases h.2 x m with a | ⟨k, hk, e⟩
      · exact .inl a
      · exact .inr ⟨k, by omega, e⟩
    · rw [List.mem_singleton.mp m]
      rcases q with a | e
      · exact .inl a
      · exact .inr ⟨i, by omega, e⟩
theorem Wd.new {i : Nat} {ws : List Str} {z : Str} (h : Wd i ws) (e : sg z = sg "zzzz" ++ [97 + i]) : z ∉ ws := by
  intro m
  rcases h.2 z m with a | ⟨k, hk, e'⟩
  · apply a
    rw [← sg_len, e, List.length_append, show (sg "zzzz").length = 4 by decide +kernel]; rfl
  · rw [e] at e'
    have := List.append_cancel_left e'
    injection this with this
    omega
def spWordsN : Sp := fun vs H Q _ => ∃ (d : Addr) (n : Nat), vs = [.ref d, .int n] ∧ DrAt d H ∧ n ≤ 26 ∧ ∀ (L : Addr) (ws : List Str) (H' : Hp), H L = none → Dr d H H' → Wl d L ws H' → ws.length = n → ws.Nodup → Q (.ref L) H'
theorem ok_wordsN (T : Tx mg) {f f1 : Addr} {fd d1 : FuncData} (F : Dn K mg "_law_words" sLWords ["draws", "many"] f fd) (DLTake : Dn K mg "_law_take" sLTake ["draws", "many"] f1 d1) (GLTake : FnOk P w K mg base CX0 1 f1 d1 ["draws", "many"] spTake) : FnOk P w K mg base CX0 2 f fd ["draws", "many"] spWordsN := by
  refine F.F.ok scLWords (fun vs H Q E h => ?_) (fun cdv A outer s H vs Q E hr h => ?_)
  · obtain ⟨d, n, rfl, _⟩ := h
    rfl
  obtain ⟨d, n, rfl, hd, hn, q⟩ := h
  have nd := scLWords.nd
  refine ⟨_, (pss_cons (ps_set (i := 2) nd rfl (Or.inl rfl) (pe_lst pa_nil))
  (pss_cons (ps_for PassesOwn.never rfl (pi_range1 rfl T.m_range (pa_cons (pv 1) pa_nil)) (pg_name (i := 3) nd rfl (Or.inl rfl)) (pss_cons (ps_set (i := 4) nd rfl (Or.inl rfl) (pe_op op_add pe_int (pe_call GLTake (hr.mono (by omega)) rfl DLTake.m DLTake.F.kp DLTake.b .nil pass0 (pa_cons (pv 0) (pa_cons pe_int pa_nil)))))
  (C8.pss_cut (ps_if (pt_cmpR op_eq (pe_call GLTake (hr.mono (by omega)) rfl DLTake.m DLTake.F.kp DLTake.b .nil pass0 (pa_cons (pv 0) (pa_cons pe_int pa_nil))) pe_int (nomark _)) (pss_one (ps_set (i := 4) nd rfl (Or.inl rfl) (pe_op op_add (pe_op op_add (pv 4) pe_int) (pe_call GLTake (hr.mono (by omega)) rfl DLTake.m DLTake.F.kp DLTake.b .nil pass0 (pa_cons (pv 0) (pa_cons pe_int pa_nil)))))) pss_nil)
  (pss_cons (ps_set (i := 5) nd rfl (Or.inl rfl) (pe_joinX (K := K) rfl pe_str (pe_lc (own := [("j", (6 : Nat))]) (g := gName 6) rfl nd (pi_range1 rfl T.m_range (pa_cons (pv 4) pa_nil)) (blkOk_by (own := [("j", (6 : Nat))]) (N := nLWords) (sc := defScope sLWords) (by decide +kernel)) (fun _ _ _ _ _ => pg_name (i := 6) nd rfl (Or.inl rfl)) (fun _ _ _ _ _ => pts_nil) (fun _ _ _ _ _ => (pe_ix ix_str pe_str (pe_call GLTake (hr.mono (by omega)) rfl DLTake.m DLTake.F.kp DLTake.b .nil pass0 (pa_cons (pv 0) (pa_cons pe_int pa_nil))) (fun _ _ => rfl))))))
  (C8.pss_cut (ps_if (pt_cmpR (k_in K rfl) (pv 5) (pv 2) rfl) (pss_one (ps_set (i := 5) nd rfl (Or.inl rfl) (pe_op op_catX pe_str (pe_ix ix_str pe_str (pv 3) (fun _ _ => rfl))))) pss_nil)
  (pss_one (ps_expr (k_bm K rfl (pe_bm PySem.F.plainAttrs_list PySem.F.slot_list_append PySem.F.type_list_append mt_append (pv 2) (pa_cons (pv 5) pa_nil))))))))))
  (pss_one (ps_ret (pv 2))))), ?_⟩
  walk_at "rd"
  refine rd_mk (len_ok rfl) fun L H1 nL eL s1 => ?_
  walk_at "rd"
  have nLd : L ≠ d := fun e => by obtain ⟨ds, e'⟩ := hd; rw [e, e'] at nL; cases nL
  have g1 : Dr d H H1 := (Dr.refl hd).same s1
  refine rd_r1 ⟨by omega, by omega⟩ ?_
  rw [show ((n : Int)).toNat = n by omega]
  refine for_range (lo := 0) (n := n) (fun i σ' H' => ∃ (v3 v4 v5 : Option V) (ws : List Str), σ' = [some (.ref d), some (.int n), some (.ref L), v3, v4, v5, none] ∧ Dr d H H' ∧ Wl d L ws H' ∧ ws.length = i ∧ Wd i ws) ⟨none, none, none, [], rfl, g1, ⟨eL, nLd, fun _ h => (nomatch h)⟩, rfl, List.nodup_nil, fun _ h => (nomatch h)⟩ ?_ ?_
  · rintro i σ' H2 hi ⟨v3, v4, v5, ws, rfl, g2, wl, hl, wd⟩
    walk_at "rd"
    refine take_step (by decide) g2.isD fun r H3 r0 r1 g3 => ?_
    walk_at "rd"
    refine ⟨fun σ' H' => ∃ m : Nat, σ' = [some (.ref d), some (.int n), some (.ref L), some (.int i), some (.int m), v5, none] ∧ 1 ≤ m ∧ m ≤ 23 ∧ m ≠ 5 ∧ Dr d H H' ∧ Wl d L ws H', ?_, ?_⟩
    · walk_at "rd"
      refine take_step (by decide) g3.isD fun r2 H4 r20 r21 g4 => ?_
      walk_at "rd"
      refine iteD (fun c => ?_) (fun c => ?_)
      · walk_at "rd"
        refine take_step (by decide) g4.isD fun r3 H5 r30 r31 g5 => ?_
        walk_at "rd"
        exact ⟨(1 + r + 9 + r3).toNat, by rw [show ((1 + r + 9 + r3).toNat : Int) = 1 + r + 9 + r3 by omega, Int.zero_add]; rfl, by omega, by omega, by omega, g2.trans (g3.trans (g4.trans g5)), wl.dr (g3.trans (g4.trans g5))⟩
      · walk_at "rd"
        exact ⟨(1 + r).toNat, by rw [show ((1 + r).toNat : Int) = 1 + r by omega, Int.zero_add]; rfl, by omega, by omega, by omega, g2.trans (g3.trans g4), wl.dr (g3.trans g4)⟩
    rintro σ' H4 ⟨m, rfl, m1, m23, m5, g4, wl4⟩
    walk_at "rd"
    refine rd_m1 ?_
    walk_at "rd"
    refine ⟨⟨_, rfl⟩, ?_⟩
    walk_at "rd"
    refine rd_r1 ⟨by omega, by omega⟩ fun D hD => ?_
    rw [show ((m : Int)).toNat = m by omega]
    have nD : D ≠ d := g4.ne_new hD
    have fD : H D = none := g4.fresh hD
    have nDL : L ≠ D := fun e => by rw [← e, wl4.at_] at hD; cases hD
    refine lc_range (lo := 0) (n := m) (fun i H' => ∃ cs : List Nat, cs.length = i ∧ (∀ c ∈ cs, c ∈ sg abc) ∧ H' D = some (.lst (cs.map fun c => V.str ⟨#[c]⟩)) ∧ Dr d H H' ∧ Wl d L ws H') ⟨[], rfl, fun _ h => (nomatch h), upd_same, g4.own fD, ⟨by rw [upd_ne nDL]; exact wl4.at_, wl4.ne, wl4.ok⟩⟩ ?_ ?_
    · rintro j H5 hj ⟨cs, hcl, hc, e5, g5, wl5⟩
      refine ⟨rfl, ?_⟩
      walk_at "rd"
      refine take_step (by decide) g5.isD fun x H6 x0 x1 g6 => ?_
      obtain ⟨c, ec, mc⟩ := sg_at (z := abc) x0 (by rw [show abc.length = 26 by decide +kernel]; exact x1)
      refine rd_ixS (z := abc) (len_ok (by decide +kernel)) ec ?_
      refine ⟨_, g6.kp _ _ nD e5, by rw [List.length_map]; exact small1000 (by omega), ⟨cs ++ [c], by rw [List.length_append, hcl]; rfl, ?_, ?_, (g5.trans g6).own fD, ?_⟩⟩
      · intro x hx
        rcases List.mem_append.mp hx with h | h
        · exact hc x h
        · rw [List.mem_singleton.mp h]; exact mc
      · rw [upd_same, List.map_append]; rfl
      · have := wl5.dr g6
        exact ⟨by rw [upd_ne nDL]; exact this.at_, this.ne, this.ok⟩
    rintro H5 ⟨cs, hcl, hc, e5, g5, wl5⟩
    walk_at "rd"
    refine rd_joinX (ys := cs.map fun c => ⟨#[c]⟩) (by rw [List.map_map]; exact SqL.of e5) (by rw [sum_one]; omega) fun u hu => ?_
    rw [flat_one] at hu
    have ul : u.length = m := by rw [← sg_len, hu, hcl]
    have uo : WordOk u := ⟨word_of hu hc (by omega), by omega⟩
    walk_at "rd"
    refine ⟨fun σ' H' => ∃ z : Str, σ' = [some (.ref d), some (.int n), some (.ref L), some (.int i), some (.int m), some (.str z), none] ∧ WordOk z ∧ z ∉ ws ∧ (z.length ≠ 5 ∨ sg z = sg "zzzz" ++ [97 + i]) ∧ Dr d H H' ∧ Wl d L ws H', ?_, ?_⟩
    · walk_at "rd"
      refine rd_in (SqL.of wl5.at_) rfl (strs_flat _) ?_
      walk_at "rd"
      refine iteB (fun c => ?_) (fun c => ?_)
      · walk_at "rd"
        have ex := abc_at i (by omega)
        have mx : (97 + i) ∈ sg abc := by rw [abc_is]; simp only [List.mem_cons, List.not_mem_nil, or_false]; omega
        refine rd_ixS (z := abc) (len_ok (by decide +kernel)) ex ?_
        refine rd_catX (by rw [show (Str.ofString "zzzz").length = 4 by decide +kernel]; exact len_ok (n := 4 + 1) rfl) ?_
        walk_at "rd"
        refine ⟨_, rfl, ⟨word_of (sg_app _ _) ?_ ?_, ?_⟩, wd.new (sg_app _ _), .inr (sg_app _ _), g5, wl5⟩
        · intro y hy
          rcases List.mem_append.mp hy with h | h
          · have z4 : ∀ y ∈ sg "zzzz", y ∈ sg abc := by decide +kernel
            exact z4 y h
          · rw [List.mem_singleton.mp h]; exact mx
        · rw [List.length_append]; show 1 ≤ (sg "zzzz").length + 1; omega
        · rw [len_app, show (Str.ofString "zzzz").length = 4 by decide +kernel]; show 4 + 1 ≤ 23; decide
      · walk_at "rd"
        exact ⟨u, rfl, uo, fun m => (by rw [strs_inV, decide_eq_true m] at c; cases c), .inl (by omega), g5, wl5⟩
    rintro σ' H6 ⟨z, rfl, zo, zn, zq, g6, wl6⟩
    walk_at "rd"
    refine rd_ty (SqL.of wl6.at_) ?_
    walk_at "rd"
    refine rd_append wl6.at_ (by rw [List.length_map]; exact small1000 (by omega)) ?_
    walk_at "rd"
    refine ⟨_, _, _, ws ++ [z], rfl, g6.own (nL), ⟨by rw [upd_same, List.map_append]; rfl, nLd, ?_⟩, by rw [List.length_append, hl]; rfl, wd.more zn zq⟩
    intro x hx
    rcases List.mem_append.mp hx with h | h
    · exact wl6.ok x h
    · rw [List.mem_singleton.mp h]; exact zo
  · rintro σ' H2 ⟨v3, v4, v5, ws, rfl, g2, wl, hl, wd⟩
    walk_at "rd"
    exact q L ws _ nL g2 wl hl wd.1

end
section
variable {P : Program} {w : World} {K : PySem.W.Frag} {mg : Str → Option Value} {base : Heap}
/-- what holds of the drawn numbers, of the drawn variables -/
structure NWp where
  f1 : Int → Prop
  f2 : Str → Prop
def NWp.pi1 (p : NWp) : Int → Prop := p.f1
/-- a value, a term, an atom -/
def valT (PI : NWp) : TD → Prop
  | .int i => PI.f1 i
  | .str z => WordOk z
  | _ => False
def varT (PI : NWp) (t : TD) : Prop := ∃ z, t = .tup [.str "var", .str z] ∧ WordOk z ∧ PI.f2 z
def termT (PI : NWp) (t : TD) : Prop := (∃ u, t = .tup [.str "value", u] ∧ valT PI u) ∨ varT PI t
def atomT (PI : NWp) (most : Nat) (t : TD) : Prop := ∃ z ts, t = .tup [.str z, .tup ts] ∧ WordOk z ∧ ts.length ≤ most ∧ ∀ x ∈ ts, termT PI x
theorem cut_mem {xs : List V} {lo hi : Option Int} {x : V} (h : x ∈ cutV xs lo hi) : x ∈ xs := by
  unfold cutV at h
  exact List.mem_of_mem_drop (List.mem_of_mem_take h)
theorem strs_mem {ws : List Str} {x : V} (h : x ∈ ws.map V.str) : ∃ z, x = .str z ∧ z ∈ ws := by
  obtain ⟨z, hz, rfl⟩ := List.mem_map.mp h
  exact ⟨z, rfl, hz⟩
def Hyp (PI : NWp) (ns : List Int) (ws : List Str) : Prop := (∀ n, NumOf ns n → PI.f1 n) ∧ ∀ z ∈ ws.take 5, PI.f2 z
def spValue (PI : NWp) (K : PySem.W.Frag) : Sp := fun vs H Q _ => ∃ (d a L : Addr) (ns : List Int) (ws : List Str), vs = [.ref d, .ref a, .ref L] ∧ DrAt d H ∧ Sc K H d a ns ∧ ns.length ≤ 63 ∧ Hyp PI ns ws ∧ Wl d L ws H ∧ ws ≠ [] ∧
  ∀ (v : V) (t : TD) (H' : Hp), Dr d H H' → Rp K H' v t → valT PI t → Q v H'
theorem ok_value {PI : NWp} (T : Tx mg) {f f1 f2 f3 : Addr} {fd d1 d2 d3 : FuncData} (F : Dn K mg "_law_any_value" sLAnyValue ["draws", "script", "words"] f fd) (DLTake : Dn K mg "_law_take" sLTake ["draws", "many"] f1 d1) (GLTake : FnOk P w K mg base CX0 1 f1 d1 ["draws", "many"] spTake)
    (DLPick : Dn K mg "_law_pick" sLPick ["draws", "row"] f2 d2) (GLPick : FnOk P w K mg base CX0 2 f2 d2 ["draws", "row"] (spPick K)) (DLNumber : Dn K mg "_law_number" sLNumber ["draws", "script"] f3 d3) (GLNumber : FnOk P w K mg base CX0 3 f3 d3 ["draws", "script"] (spNumber K)) :
    FnOk P w K mg base CX0 4 f fd ["draws", "script", "words"] (spValue PI K) := by
  refine F.F.ok scLAnyValue (fun vs H Q E h => ?_) (fun cdv A outer s H vs Q E hr h => ?_)
  · obtain ⟨d, a, L, ns, ws, rfl, _⟩ := h
    rfl
  obtain ⟨d, a, L, ns, ws, rfl, hd, hS, h63, hP, wl, ne, q⟩ := h
  have nd := scLAnyValue.nd
  refine ⟨_, (pss_cons (ps_if (pt_cmpR op_eq (pe_call GLTake (hr.mono (by omega)) rfl DLTake.m DLTake.F.kp DLTake.b .nil pass0 (pa_cons (pv 0) (pa_cons pe_int pa_nil))) pe_int (nomark _)) (pss_one (ps_ret (pe_call GLPick (hr.mono (by omega)) rfl DLPick.m DLPick.F.kp DLPick.b .nil pass0 (pa_cons (pv 0) (pa_cons (pv 2) pa_nil))))) pss_nil)
  (pss_one (ps_ret (pe_call GLNumber (hr.mono (by omega)) rfl DLNumber.m DLNumber.F.kp DLNumber.b .nil pass0 (pa_cons (pv 0) (pa_cons (pv 1) pa_nil)))))), ?_⟩
  walk_at "rd"
  refine take_step (by decide) hd fun r H1 r0 r1 g1 => ?_
  walk_at "rd"
  refine iteD (fun c => ?_) (fun c => ?_)
  · walk_at "rd"
    refine ⟨d, L, _, rfl, g1.isD, (wl.dr g1).at_, wl.ne, by simpa using ne, fun v H2 g2 mv => ?_⟩
    obtain ⟨z, rfl, mz⟩ := strs_mem mv
    exact q _ (.str z) _ (g1.trans g2) (.str z) (wl.ok z mz)
  · walk_at "rd"
    refine ⟨d, a, ns, rfl, g1.isD, hS.dr g1, h63, fun n H2 g2 hn => ?_⟩
    exact q _ (.int n) _ (g1.trans g2) (.int n) (hP.1 n hn)

end
section
variable {P : Program} {w : World} {K : PySem.W.Frag} {mg : Str → Option Value} {base : Heap}
theorem rp_pair {z : Str} {a : Addr} {u : V} {x : TD} {K : PySem.W.Frag} {H : Hp} (s : SqT K H a [.str z, u]) (r : Rp K H u x) : Rp K H (.ref a) (.tup [.str z, x]) := .tup s (.cons (.str z) (.cons r .nil))
def spTerm (PI : NWp) (K : PySem.W.Frag) : Sp := fun vs H Q _ => ∃ (d a L : Addr) (ns : List Int) (ws : List Str), vs = [.ref d, .ref a, .ref L] ∧ DrAt d H ∧ Sc K H d a ns ∧ ns.length ≤ 63 ∧ Hyp PI ns ws ∧ Wl d L ws H ∧ ws ≠ [] ∧
  ∀ (v : V) (t : TD) (H' : Hp), Dr d H H' → Rp K H' v t → termT PI t → Q v H'
theorem ok_term {PI : NWp} (T : Tx mg) {f f1 f2 f3 : Addr} {fd d1 d2 d3 : FuncData} (F : Dn K mg "_law_any_term" sLAnyTerm ["draws", "script", "words"] f fd) (DLTake : Dn K mg "_law_take" sLTake ["draws", "many"] f1 d1) (GLTake : FnOk P w K mg base CX0 1 f1 d1 ["draws", "many"] spTake)
    (DLPick : Dn K mg "_law_pick" sLPick ["draws", "row"] f2 d2) (GLPick : FnOk P w K mg base CX0 2 f2 d2 ["draws", "row"] (spPick K)) (DLAnyValue : Dn K mg "_law_any_value" sLAnyValue ["draws", "script", "words"] f3 d3) (GLAnyValue : FnOk P w K mg base CX0 4 f3 d3 ["draws", "script", "words"] (spValue PI K)) :
    FnOk P w K mg base CX0 5 f fd ["draws", "script", "words"] (spTerm PI K) := by
  refine F.F.ok scLAnyTerm (fun vs H Q E h => ?_) (fun cdv A outer s H vs Q E hr h => ?_)
  · obtain ⟨d, a, L, ns, ws, rfl, _⟩ := h
    rfl
  obtain ⟨d, a, L, ns, ws, rfl, hd, hS, h63, hP, wl, ne, q⟩ := h
  have nd := scLAnyTerm.nd
  refine ⟨_, (pss_cons (ps_if (pt_cmpR op_eq (pe_call GLTake (hr.mono (by omega)) rfl DLTake.m DLTake.F.kp DLTake.b .nil pass0 (pa_cons (pv 0) (pa_cons pe_int pa_nil))) pe_int (nomark _)) (pss_one (ps_ret (pe_tup (pa_cons pe_str (pa_cons (pe_call GLAnyValue (hr.mono (by omega)) rfl DLAnyValue.m DLAnyValue.F.kp DLAnyValue.b .nil pass0 (pa_cons (pv 0) (pa_cons (pv 1) (pa_cons (pv 2) pa_nil)))) pa_nil))))) pss_nil)
  (pss_one (ps_ret (pe_tup (pa_cons pe_str (pa_cons (pe_call GLPick (hr.mono (by omega)) rfl DLPick.m DLPick.F.kp DLPick.b .nil pass0 (pa_cons (pv 0) (pa_cons (pe_slice (k_slL K rfl) (pv 2) po_none (po_some pe_int)) pa_nil))) pa_nil)))))), ?_⟩
  walk_at "rd"
  refine take_step (by decide) hd fun r H1 r0 r1 g1 => ?_
  walk_at "rd"
  refine iteD (fun c => ?_) (fun c => ?_)
  · walk_at "rd"
    refine ⟨d, a, L, ns, ws, rfl, g1.isD, hS.dr g1, h63, hP, wl.dr g1, ne, fun v t H2 g2 rv hv => ?_⟩
    walk_at "rd"
    refine rd_mk (len_ok rfl) fun tp H3 n3 e3 s3 => ?_
    exact q _ _ _ ((g1.trans g2).same s3) (rp_pair (SqT.of e3) (same_rp s3 rv)) (.inl ⟨t, rfl, hv⟩)
  · walk_at "rd"
    refine rd_cut (SqL.of (wl.dr g1).at_) fun C hC => ?_
    walk_at "rd"
    have g2 : Dr d H (upd H1 C (.lst (cutV (ws.map V.str) none (some 5)))) := g1.new hC
    have ce : cutV (ws.map V.str) none (some 5) ≠ [] := by
      rw [show (5 : Int) = ((5 : Nat) : Int) from rfl, cut_upto]
      cases ws with
      | nil => exact absurd rfl ne
      | cons w r => intro e; cases e
    refine ⟨d, C, _, rfl, g2.isD, upd_same, g1.ne_new hC, ce, fun v H3 g3 mv => ?_⟩
    obtain ⟨z, rfl, mz⟩ := strs_mem (cut_mem mv)
    have m5 : z ∈ ws.take 5 := by
      rw [show (5 : Int) = ((5 : Nat) : Int) from rfl, cut_upto, ← List.map_take] at mv
      obtain ⟨y, e, my⟩ := strs_mem mv
      injection e with e
      rw [e]; exact my
    walk_at "rd"
    refine rd_mk (len_ok rfl) fun tp H4 n4 e4 s4 => ?_
    exact q _ _ _ ((g2.trans g3).same s4) (rp_pair (SqT.of e4) (.str z)) (.inr ⟨z, rfl, wl.ok z mz, hP.2 z m5⟩)

end
section
variable {P : Program} {w : World} {K : PySem.W.Frag} {mg : Str → Option Value} {base : Heap}
theorem cut_fromK {xs : List V} {k : Nat} (h : k ≤ xs.length) : cutV xs (some (k : Int)) none = xs.drop k := by
  have e1 : HT.sIx xs.length 0 (some (k : Int)) = k := by
    rw [HT.sIx_nat]
    exact Nat.min_eq_left h
  unfold cutV
  rw [e1, HT.sIx_none]
  exact List.take_of_length_le (by rw [List.length_drop]; exact Nat.le_refl _)
def spAtom (PI : NWp) (K : PySem.W.Frag) : Sp := fun vs H Q _ => ∃ (d a L : Addr) (most : Nat) (ns : List Int) (ws : List Str), vs = [.ref d, .ref a, .ref L, .int most] ∧ DrAt d H ∧ Sc K H d a ns ∧ ns.length ≤ 63 ∧ Hyp PI ns ws ∧ Wl d L ws H ∧ 4 ≤ ws.length ∧ most ≤ 8 ∧
  ∀ (v : V) (t : TD) (H' : Hp), Dr d H H' → Rp K H' v t → atomT PI most t → Q v H'
theorem ok_atom {PI : NWp} (T : Tx mg) {f f1 f2 f3 : Addr} {fd d1 d2 d3 : FuncData} (F : Dn K mg "_law_any_atom" sLAnyAtom ["draws", "script", "words", "most"] f fd) (DLTake : Dn K mg "_law_take" sLTake ["draws", "many"] f1 d1) (GLTake : FnOk P w K mg base CX0 1 f1 d1 ["draws", "many"] spTake)
    (DLPick : Dn K mg "_law_pick" sLPick ["draws", "row"] f2 d2) (GLPick : FnOk P w K mg base CX0 2 f2 d2 ["draws", "row"] (spPick K)) (DLAnyTerm : Dn K mg "_law_any_term" sLAnyTerm ["draws", "script", "words"] f3 d3) (GLAnyTerm : FnOk P w K mg base CX0 5 f3 d3 ["draws", "script", "words"] (spTerm PI K)) :
    FnOk P w K mg base CX0 6 f fd ["draws", "script", "words", "most"] (spAtom PI K) := by
  refine F.F.ok scLAnyAtom (fun vs H Q E h => ?_) (fun cdv A outer s H vs Q E hr h => ?_)
  · obtain ⟨d, a, L, most, ns, ws, rfl, _⟩ := h
    rfl
  obtain ⟨d, a, L, most, ns, ws, rfl, hd, hS, h63, hP, wl, h4, h8, q⟩ := h
  have nd := scLAnyAtom.nd
  refine ⟨_, (pss_cons (ps_setLc (i := 4) (own := [("k", (5 : Nat))]) (g := gName 5) rfl nd rfl rfl (sw_true rfl rfl rfl (by decide +kernel)) (pi_range1 rfl T.m_range (pa_cons (pe_call GLTake (hr.mono (by omega)) rfl DLTake.m DLTake.F.kp DLTake.b .nil pass0 (pa_cons (pv 0) (pa_cons (pe_op op_add (pv 3) pe_int) pa_nil))) pa_nil)) (blkOk_by (own := [("k", (5 : Nat))]) (N := nLAnyAtom) (sc := defScope sLAnyAtom) (by decide +kernel)) (fun _ _ _ _ _ => pg_name (i := 5) nd rfl (Or.inl rfl)) (fun _ _ _ _ _ => pts_nil) (fun _ _ _ _ _ => (pe_call GLAnyTerm (hr.mono (by omega)) rfl DLAnyTerm.m DLAnyTerm.F.kp DLAnyTerm.b .nil pass0 (pa_cons (pv 0) (pa_cons (pv 1) (pa_cons (pv 2) pa_nil))))))
  (pss_one (ps_ret (pe_tup (pa_cons (pe_call GLPick (hr.mono (by omega)) rfl DLPick.m DLPick.F.kp DLPick.b .nil pass0 (pa_cons (pv 0) (pa_cons (pe_slice (k_slL K rfl) (pv 2) (po_some pe_int) po_none) pa_nil))) (pa_cons (pe_callTy (k_tuple K rfl) rfl T.m_tuple (by decide +kernel) (pa_cons (pv 4) pa_nil)) pa_nil)))))), ?_⟩
  have ne : ws ≠ [] := fun e => by rw [e] at h4; cases h4
  walk_at "rd"
  refine take_step (by omega) hd fun m H1 m0 m1 g1 => ?_
  walk_at "rd"
  obtain ⟨mn, rfl⟩ : ∃ mn : Nat, m = (mn : Int) := ⟨m.toNat, by omega⟩
  refine rd_r1 ⟨by omega, by omega⟩ fun R hR => ?_
  rw [show ((mn : Int)).toNat = mn by omega]
  have nR : R ≠ d := g1.ne_new hR
  have fR : H R = none := g1.fresh hR
  refine lc_range (lo := 0) (n := mn) (fun i H' => ∃ (xs : List V) (ts : List TD), ts.length = i ∧ RpA K H' xs ts ∧ (∀ t ∈ ts, termT PI t) ∧ H' R = some (.lst xs) ∧ Dr d H H' ∧ Wl d L ws H' ∧ Sc K H' d a ns) ⟨[], [], rfl, .nil, fun _ h => (nomatch h), upd_same, g1.own fR, ?_, ?_⟩ ?_ ?_
  · exact (wl.dr (g1.own fR))
  · exact hS.dr (g1.own fR)
  · rintro i H2 hi ⟨xs, ts, hl, ra, ht, e2, g2, wl2, hS2⟩
    refine ⟨rfl, ?_⟩
    walk_at "rd"
    refine ⟨d, a, L, ns, ws, rfl, g2.isD, hS2, h63, hP, wl2, ne, fun v t H3 g3 rv tv => ?_⟩
    have lx : xs.length = ts.length := ra.length
    have e3 := g3.kp _ _ nR e2
    have g4 : Dr d H (upd H3 R (.lst (xs ++ [v]))) := (g2.trans g3).own fR
    refine ⟨_, e3, small1000 (by omega), ⟨xs ++ [v], ts ++ [t], by rw [List.length_append, hl]; rfl, ?_, ?_, upd_same, g4, wl.dr g4, hS.dr g4⟩⟩
    · exact RpA.app (rpa_put e3 (g3.rpa ra)) (.cons (rp_put e3 rv) .nil)
    · intro x hx
      rcases List.mem_append.mp hx with h | h
      · exact ht x h
      · rw [List.mem_singleton.mp h]; exact tv
  rintro H2 ⟨xs, ts, hl, ra, ht, e2, g2, wl2, hS2⟩
  walk_at "rd"
  refine rd_cut (SqL.of wl2.at_) fun C hC => ?_
  walk_at "rd"
  have g3 : Dr d H (upd H2 C (.lst (cutV (ws.map V.str) (some 3) none))) := g2.new hC
  have s3 : Same H2 (upd H2 C (.lst (cutV (ws.map V.str) (some 3) none))) := same_new hC
  have ce : cutV (ws.map V.str) (some 3) none ≠ [] := by
    rw [show (3 : Int) = ((3 : Nat) : Int) from rfl, cut_fromK (by rw [List.length_map]; omega)]
    intro e
    have := congrArg List.length e
    rw [List.length_drop, List.length_map] at this
    have l0 : ([] : List V).length = 0 := rfl
    omega
  refine ⟨d, C, _, rfl, g3.isD, upd_same, g2.ne_new hC, ce, fun v H3 g4 mv => ?_⟩
  obtain ⟨z, rfl, mz⟩ := strs_mem (cut_mem mv)
  walk_at "rd"
  have e3 := g4.kp _ _ nR (s3 _ _ e2)
  refine rd_tuple (SqL.of e3) fun tp htp => ?_
  walk_at "rd"
  refine rd_mk (len_ok rfl) fun tq H5 n5 e5 s5 => ?_
  have s4 : Same H3 (upd H3 tp (.tup xs)) := same_new htp
  have ra5 := same_rpa s5 (same_rpa s4 (g4.rpa (same_rpa s3 ra)))
  have rt : Rp K H5 (.ref tp) (.tup ts) := .tup (SqT.of (s5 _ _ upd_same)) ra5
  exact q _ _ _ (((g3.trans g4).same s4).same s5) (rp_pair (SqT.of e5) rt) ⟨z, ts, rfl, wl.ok z mz, by omega, ht⟩

end
section
variable {P : Program} {w : World} {K : PySem.W.Frag} {mg : Str → Option Value} {base : Heap}
/-- the variables that stand in a body -/
def InB (PI : NWp) (bd : List TD) (t : TD) : Prop := varT PI t ∧ ∃ z ts, TD.tup [.str z, .tup ts] ∈ bd ∧ t ∈ ts
def headT (PI : NWp) (bd : List TD) (t : TD) : Prop := (∃ u, t = .tup [.str "value", u] ∧ valT PI u) ∨ InB PI bd t
def joinT (PI : NWp) (width atoms most : Nat) (t : TD) : Prop := ∃ hd bd, t = .tup [.tup hd, .tup bd] ∧ hd.length = width ∧ bd.length ≤ atoms ∧ (∀ x ∈ bd, atomT PI most x) ∧ ∀ x ∈ hd, headT PI bd x
/-- a term, by its first item -/
theorem term_tag {PI : NWp} {t : TD} (h : termT PI t) : ∃ z x, t = .tup [.str z, x] ∧ (z = "value" ∧ valT PI x ∨ z = "var" ∧ varT PI t) := by
  rcases h with ⟨u, rfl, hu⟩ | ⟨z, rfl, hz⟩
  · exact ⟨_, u, rfl, .inl ⟨rfl, hu⟩⟩
  · exact ⟨_, _, rfl, .inr ⟨rfl, z, rfl, hz⟩⟩
def spJoin (PI : NWp) (K : PySem.W.Frag) : Sp := fun vs H Q _ => ∃ (d a L : Addr) (width atoms most : Nat) (ns : List Int) (ws : List Str), vs = [.ref d, .ref a, .ref L, .int width, .int atoms, .int most] ∧ DrAt d H ∧ Sc K H d a ns ∧ ns.length ≤ 63 ∧ Hyp PI ns ws ∧ Wl d L ws H ∧ 4 ≤ ws.length ∧ width ≤ 8 ∧ atoms ≤ 8 ∧ most ≤ 8 ∧
  ∀ (v : V) (t : TD) (H' : Hp), Dr d H H' → Rp K H' v t → joinT PI width atoms most t → Q v H'
set_option maxHeartbeats 4000000 in
theorem ok_join {PI : NWp} (T : Tx mg) {f f1 f2 f3 f4 : Addr} {fd d1 d2 d3 d4 : FuncData} (F : Dn K mg "_law_any_join" sLAnyJoin ["draws", "script", "words", "width", "atoms", "most"] f fd) (DLTake : Dn K mg "_law_take" sLTake ["draws", "many"] f1 d1) (GLTake : FnOk P w K mg base CX0 1 f1 d1 ["draws", "many"] spTake)
    (DLPick : Dn K mg "_law_pick" sLPick ["draws", "row"] f2 d2) (GLPick : FnOk P w K mg base CX0 2 f2 d2 ["draws", "row"] (spPick K)) (DLAnyValue : Dn K mg "_law_any_value" sLAnyValue ["draws", "script", "words"] f3 d3) (GLAnyValue : FnOk P w K mg base CX0 4 f3 d3 ["draws", "script", "words"] (spValue PI K))
    (DLAnyAtom : Dn K mg "_law_any_atom" sLAnyAtom ["draws", "script", "words", "most"] f4 d4) (GLAnyAtom : FnOk P w K mg base CX0 6 f4 d4 ["draws", "script", "words", "most"] (spAtom PI K)) :
    FnOk P w K mg base CX0 7 f fd ["draws", "script", "words", "width", "atoms", "most"] (spJoin PI K) := by
  refine F.F.ok scLAnyJoin (fun vs H Q E h => ?_) (fun cdv A outer s H vs Q E hr h => ?_)
  · obtain ⟨d, a, L, width, atoms, most, ns, ws, rfl, _⟩ := h
    rfl
  obtain ⟨d, a, L, width, atoms, most, ns, ws, rfl, hd, hS, h63, hP, wl, h4, hw8, ha8, hm8, q⟩ := h
  have nd := scLAnyJoin.nd
  refine ⟨_, (pss_cons (ps_setLc (i := 6) (own := [("k", (7 : Nat))]) (g := gName 7) rfl nd rfl rfl (sw_true rfl rfl rfl (by decide +kernel)) (pi_range1 rfl T.m_range (pa_cons (pe_call GLTake (hr.mono (by omega)) rfl DLTake.m DLTake.F.kp DLTake.b .nil pass0 (pa_cons (pv 0) (pa_cons (pe_op op_add (pv 4) pe_int) pa_nil))) pa_nil)) (blkOk_by (own := [("k", (7 : Nat))]) (N := nLAnyJoin) (sc := defScope sLAnyJoin) (by decide +kernel)) (fun _ _ _ _ _ => pg_name (i := 7) nd rfl (Or.inl rfl)) (fun _ _ _ _ _ => pts_nil) (fun _ _ _ _ _ => (pe_call GLAnyAtom (hr.mono (by omega)) rfl DLAnyAtom.m DLAnyAtom.F.kp DLAnyAtom.b .nil pass0 (pa_cons (pv 0) (pa_cons (pv 1) (pa_cons (pv 2) (pa_cons (pv 5) pa_nil)))))))
  (C8.pss_cut (ps_if (PW.pt (pw_and (pt_cmpR op_gt (pe_callB (k_len K rfl) rfl T.m_len PySem.boot_len (pa_cons (pv 6) pa_nil)) pe_int (nomark _)) (pw_and1 (pt_cmpR op_eq (pe_call GLTake (hr.mono (by omega)) rfl DLTake.m DLTake.F.kp DLTake.b .nil pass0 (pa_cons (pv 0) (pa_cons pe_int pa_nil))) pe_int (nomark _))))) (pss_one (ps_asg (pe_call GLPick (hr.mono (by omega)) rfl DLPick.m DLPick.F.kp DLPick.b .nil pass0 (pa_cons (pv 0) (pa_cons (pv 6) pa_nil))) (pg_sub (pv 6) (pe_call GLTake (hr.mono (by omega)) rfl DLTake.m DLTake.F.kp DLTake.b .nil pass0 (pa_cons (pv 0) (pa_cons (pe_callB (k_len K rfl) rfl T.m_len PySem.boot_len (pa_cons (pv 6) pa_nil)) pa_nil))) set_list))) pss_nil)
  (pss_cons (ps_set (i := 8) nd rfl (Or.inl rfl) (pe_lst pa_nil))
  (pss_cons (ps_for PassesOwn.never rfl (k_pil K rfl (pv 6)) (pg_name (i := 9) nd rfl (Or.inl rfl)) (pss_one (ps_set (i := 8) nd rfl (Or.inl rfl) (pe_op op_cat (pv 8) (pe_lc (own := [("term", (10 : Nat))]) (g := gName 10) rfl nd (k_pit K rfl (pe_ix (k_ixT K rfl) (pv 9) pe_int (fun _ _ => rfl))) (blkOk_by (own := [("term", (10 : Nat))]) (N := nLAnyJoin) (sc := defScope sLAnyJoin) (by decide +kernel)) (fun _ _ _ _ _ => pg_name (i := 10) nd rfl (Or.inl rfl)) (fun _ _ _ _ _ => (pts_one (pt_cmpR op_eq (pe_ix (k_ixT K rfl) (pv 10) pe_int (fun _ _ => rfl)) pe_str (nomark _)))) (fun _ _ _ _ _ => (pv 10)))))))
  (pss_cons (ps_set (i := 11) nd rfl (Or.inl rfl) (pe_lst pa_nil))
  (pss_cons (ps_for PassesOwn.never rfl (pi_range1 rfl T.m_range (pa_cons (pv 3) pa_nil)) (pg_name (i := 7) nd rfl (Or.inl rfl)) (pss_cons (ps_expr (k_bm K rfl (pe_bm PySem.F.plainAttrs_list PySem.F.slot_list_append PySem.F.type_list_append mt_append (pv 11) (pa_cons (pe_tup (pa_cons pe_str (pa_cons (pe_call GLAnyValue (hr.mono (by omega)) rfl DLAnyValue.m DLAnyValue.F.kp DLAnyValue.b .nil pass0 (pa_cons (pv 0) (pa_cons (pv 1) (pa_cons (pv 2) pa_nil)))) pa_nil))) pa_nil))))
  (pss_one (ps_if (PW.pt (pw_and (pt_cmpR op_gt (pe_callB (k_len K rfl) rfl T.m_len PySem.boot_len (pa_cons (pv 8) pa_nil)) pe_int (nomark _)) (pw_and1 (pt_cmpR op_gt (pe_call GLTake (hr.mono (by omega)) rfl DLTake.m DLTake.F.kp DLTake.b .nil pass0 (pa_cons (pv 0) (pa_cons pe_int pa_nil))) pe_int (nomark _))))) (pss_one (ps_asg (pe_call GLPick (hr.mono (by omega)) rfl DLPick.m DLPick.F.kp DLPick.b .nil pass0 (pa_cons (pv 0) (pa_cons (pv 8) pa_nil))) (pg_sub (pv 11) (pv 7) set_list))) pss_nil))))
  (pss_one (ps_ret (pe_tup (pa_cons (pe_callTy (k_tuple K rfl) rfl T.m_tuple (by decide +kernel) (pa_cons (pv 11) pa_nil)) (pa_cons (pe_callTy (k_tuple K rfl) rfl T.m_tuple (by decide +kernel) (pa_cons (pv 6) pa_nil)) pa_nil))))))))))), ?_⟩
  have ne : ws ≠ [] := fun e => by rw [e] at h4; cases h4
  walk_at "rd"
  refine take_step (by omega) hd fun m H1 m0 m1 g1 => ?_
  walk_at "rd"
  obtain ⟨mn, rfl⟩ : ∃ mn : Nat, m = (mn : Int) := ⟨m.toNat, by omega⟩
  refine rd_r1 ⟨by omega, by omega⟩ fun R hR => ?_
  rw [show ((mn : Int)).toNat = mn by omega]
  have nR : R ≠ d := g1.ne_new hR
  have fR : H R = none := g1.fresh hR
  refine lc_range (lo := 0) (n := mn) (fun i H' => ∃ (xs : List V) (bd : List TD), bd.length = i ∧ RpA K H' xs bd ∧ (∀ t ∈ bd, atomT PI most t) ∧ H' R = some (.lst xs) ∧ Dr d H H') ⟨[], [], rfl, .nil, fun _ h => (nomatch h), upd_same, g1.own fR⟩ ?_ ?_
  · rintro i H2 hi ⟨xs, bd, hl, ra, ht, e2, g2⟩
    refine ⟨rfl, ?_⟩
    walk_at "rd"
    refine ⟨d, a, L, most, ns, ws, rfl, g2.isD, hS.dr g2, h63, hP, wl.dr g2, h4, hm8, fun v t H3 g3 rv tv => ?_⟩
    have lx : xs.length = bd.length := ra.length
    have e3 := g3.kp _ _ nR e2
    refine ⟨_, e3, small1000 (by omega), ⟨xs ++ [v], bd ++ [t], by rw [List.length_append, hl]; rfl, RpA.app (rpa_put e3 (g3.rpa ra)) (.cons (rp_put e3 rv) .nil), ?_, upd_same, (g2.trans g3).own fR⟩⟩
    intro x hx
    rcases List.mem_append.mp hx with h | h
    · exact ht x h
    · rw [List.mem_singleton.mp h]; exact tv
  rintro H2 ⟨xs0, bd0, hl0, ra0, ht0, e2, g2⟩
  walk_at "rd"
  refine ⟨fun σ' H' => ∃ (xs : List V) (bd : List TD), σ' = [some (.ref d), some (.ref a), some (.ref L), some (.int width), some (.int atoms), some (.int most), some (.ref R), none, none, none, none, none] ∧ bd.length ≤ atoms ∧ RpA K H' xs bd ∧ (∀ t ∈ bd, atomT PI most t) ∧ H' R = some (.lst xs) ∧ Dr d H H', ?_, ?_⟩
  · have lx0 : xs0.length = bd0.length := ra0.length
    walk_at "rd"
    refine rd_len (SqL.of e2) ?_
    walk_at "rd"
    refine iteD (fun c => ?_) (fun c => ?_)
    · walk_at "rd"
      refine take_step (by decide) g2.isD fun r H3 r0 r1 g3 => ?_
      walk_at "rd"
      refine iteD (fun c2 => ?_) (fun c2 => ?_)
      · walk_at "rd"
        refine ⟨d, R, xs0, rfl, g3.isD, g3.kp _ _ nR e2, nR, fun e => by rw [e] at c; exact absurd c (by decide), fun v H4 g4 mv => ?_⟩
        walk_at "rd"
        have e4 := g4.kp _ _ nR (g3.kp _ _ nR e2)
        have ra4 := g4.rpa (g3.rpa ra0)
        obtain ⟨t, mt, rv⟩ := rpa_mem ra4 mv
        refine rd_len (SqL.of e4) ?_
        walk_at "rd"
        refine take_step (by omega) g4.isD fun k H5 k0 k1 g5 => ?_
        obtain ⟨kn, rfl⟩ : ∃ kn : Nat, k = (kn : Int) := ⟨k.toNat, by omega⟩
        have e5 := g5.kp _ _ nR e4
        refine rd_setL e5 (by omega) (by omega) ?_
        rw [show ((kn : Int)).toNat = kn by omega]
        walk_at "rd"
        refine ⟨xs0.set kn v, bd0.set kn t, rfl, by rw [List.length_set]; omega, rpa_put e5 (rpa_set kn (g5.rpa ra4) (g5.rp rv)), ?_, upd_same, (g2.trans (g3.trans (g4.trans g5))).own fR⟩
        intro y hy
        rcases List.mem_or_eq_of_mem_set hy with e | e
        · exact ht0 y e
        · rw [e]; exact ht0 t mt
      · walk_at "rd"
        exact ⟨xs0, bd0, rfl, by omega, g3.rpa ra0, ht0, g3.kp _ _ nR e2, g2.trans g3⟩
    · walk_at "rd"
      exact ⟨xs0, bd0, rfl, by omega, ra0, ht0, e2, g2⟩
  rintro σ' H3 ⟨xs, bd, rfl, hl, ra, ht, e3, g3⟩
  have lx : xs.length = bd.length := ra.length
  walk_at "rd"
  refine rd_mk (len_ok rfl) fun K0 H4 nK eK sK => ?_
  walk_at "rd"
  have fK := g3.fresh nK
  refine rd_il (SqL.of (sK _ _ e3)) ?_
  refine for_list (K := K) (a := R) (xs := xs) (fun i σ' H' => ∃ (v9 : Option V) (Kn : Addr) (ks : List V) (kt : List TD), σ' = [some (.ref d), some (.ref a), some (.ref L), some (.int width), some (.int atoms), some (.int most), some (.ref R), none, some (.ref Kn), v9, none, none] ∧
    Same H3 H' ∧ H' Kn = some (.lst ks) ∧ RpA K H' ks kt ∧ kt.length ≤ i * 8 ∧ (∀ t ∈ kt, InB PI bd t) ∧ H3 Kn = none) ⟨none, K0, [], [], rfl, sK, eK, .nil, Nat.zero_le _, fun _ h => (nomatch h), nK⟩ (fun i σ' H' _ p => by obtain ⟨_, _, _, _, _, sm, _⟩ := p; exact SqL.of (sm _ _ e3)) ?_ ?_
  · rintro i x σ' H5 hx ⟨v9, Kn, ks, kt, rfl, sm5, eKn, rk, lk, hk, fKn⟩
    obtain ⟨t, et, rt⟩ := rpa_at ra hx
    have mt := List.mem_of_getElem? et
    obtain ⟨z, ts, rfl, zo, lts, hts⟩ := ht t mt
    obtain ⟨ad, u, rfl, sq, ru⟩ := rt.pr
    obtain ⟨at_, ys, rfl, sqy, ry⟩ := ru.seq
    have ly : ys.length = ts.length := ry.length
    have li : i < 8 := by have := (List.getElem?_eq_some_iff.mp hx).1; omega
    walk_at "rd"
    refine rd_ixT (same_sqt sm5 sq) rfl ?_
    walk_at "rd"
    refine rd_it (same_sqt sm5 sqy) fun D hD => ?_
    refine lc_tup (K := K) (a := at_) (xs := ys) (fun j H' => ∃ (zs : List V) (zt : List TD), H' D = some (.lst zs) ∧ RpA K H' zs zt ∧ zt.length ≤ j ∧ (∀ t ∈ zt, InB PI bd t) ∧ Same H5 H') ⟨[], [], upd_same, .nil, Nat.zero_le _, fun _ h => (nomatch h), same_new hD⟩ (fun j H' _ p => by obtain ⟨_, _, _, _, _, _, sm⟩ := p; exact same_sqt (sm5.trans sm) sqy) ?_ ?_
    · rintro j y H6 hy ⟨zs, zt, eD, rz, lz, hz, sm6⟩
      refine ⟨rfl, ?_⟩
      obtain ⟨tt, ett, rtt⟩ := rpa_at ry hy
      have mtt := List.mem_of_getElem? ett
      obtain ⟨tag, x2, rfl, htag⟩ := term_tag (hts tt mtt)
      obtain ⟨ad2, u2, rfl, sq2, _⟩ := rtt.pr
      have rtt6 := same_rp (sm5.trans sm6) rtt
      walk_at "rd"
      refine rd_ixT (same_sqt (sm5.trans sm6) sq2) rfl ?_
      walk_at "rd"
      have lzz : zs.length = zt.length := rz.length
      have lj : j < 8 := by have := (List.getElem?_eq_some_iff.mp hy).1; omega
      refine iteD (fun c => ?_) (fun c => ?_)
      · walk_at "rd"
        refine ⟨_, eD, small1000 (by omega), ⟨zs ++ [.ref ad2], zt ++ [.tup [.str tag, x2]], upd_same, RpA.app (rpa_put eD rz) (.cons (rp_put eD rtt6) .nil), by rw [List.length_append]; show zt.length + 1 ≤ j + 1; omega, ?_, same_own sm6 hD⟩⟩
        intro y hy
        rcases List.mem_append.mp hy with h | h
        · exact hz y h
        · rw [List.mem_singleton.mp h]
          rcases htag with ⟨e, _⟩ | ⟨_, vt⟩
          · rw [e] at c; exact absurd c (by decide +kernel)
          · exact ⟨vt, z, ts, mt, mtt⟩
      · exact ⟨zs, zt, eD, rz, by omega, hz, sm6⟩
    · rintro H6 ⟨zs, zt, eD, rz, lz, hz, sm6⟩
      walk_at "rd"
      have lzz : zs.length = zt.length := rz.length
      have lkk : ks.length = kt.length := rk.length
      refine rd_cat (sm6 _ _ eKn) eD (Nat.le_trans (m := 100) (by omega) (by decide)) fun L2 H7 n7 e7 s7 => ?_
      walk_at "rd"
      have g7 := (sm5.trans sm6).trans s7
      refine ⟨_, L2, ks ++ zs, kt ++ zt, rfl, g7, e7, RpA.app (same_rpa (sm6.trans s7) rk) (same_rpa s7 rz), by rw [List.length_append]; omega, ?_, ?_⟩
      · intro y hy
        rcases List.mem_append.mp hy with h | h
        · exact hk y h
        · exact hz y h
      · exact (sm5.trans sm6).free n7
  rintro σ' H5 ⟨v9, Kn, ks, kt, rfl, sm5, eKn, rk, lk, hk, fKn⟩
  walk_at "rd"
  have lkk : ks.length = kt.length := rk.length
  have g5 := g3.same sm5
  refine rd_mk (len_ok rfl) fun Hd H6 nH eH sH => ?_
  walk_at "rd"
  have nHd : Hd ≠ d := g5.ne_new nH
  have fHd : H Hd = none := g5.fresh nH
  have nKd : Kn ≠ d := g3.ne_new fKn
  have nKH : Kn ≠ Hd := fun e => by rw [← e, eKn] at nH; cases nH
  have nRH : R ≠ Hd := fun e => by rw [← e, sm5 _ _ e3] at nH; cases nH
  refine rd_r1 ⟨by omega, by omega⟩ ?_
  rw [show ((width : Int)).toNat = width by omega]
  refine for_range (lo := 0) (n := width) (fun i σ' H' => ∃ (v7 : Option V) (hs : List V) (ht' : List TD), σ' = [some (.ref d), some (.ref a), some (.ref L), some (.int width), some (.int atoms), some (.int most), some (.ref R), v7, some (.ref Kn), v9, none, some (.ref Hd)] ∧
    Dr d H H' ∧ H' Hd = some (.lst hs) ∧ RpA K H' hs ht' ∧ ht'.length = i ∧ (∀ t ∈ ht', headT PI bd t) ∧ H' Kn = some (.lst ks) ∧ RpA K H' ks kt ∧ H' R = some (.lst xs) ∧ RpA K H' xs bd) ⟨none, [], [], rfl, g5.same sH, eH, .nil, rfl, fun _ h => (nomatch h), sH _ _ eKn, same_rpa sH rk, sH _ _ (sm5 _ _ e3), same_rpa sH (same_rpa sm5 ra)⟩ ?_ ?_
  · rintro i σ' H7 hi ⟨v7, hs, ht', rfl, g7, e7, rh, lh, hh, k7, rk7, r7, ra7⟩
    have lhh : hs.length = ht'.length := rh.length
    walk_at "rd"
    rw [Int.zero_add]
    refine rd_ty (SqL.of e7) ?_
    walk_at "rd"
    refine ⟨d, a, L, ns, ws, rfl, g7.isD, hS.dr g7, h63, hP, wl.dr g7, ne, fun v t H8 g8 rv tv => ?_⟩
    walk_at "rd"
    refine rd_mk (len_ok rfl) fun tp H9 n9 e9 s9 => ?_
    walk_at "rd"
    have g9 := g8.same s9
    have e9' := g9.kp _ _ nHd e7
    refine rd_append e9' (small1000 (by omega)) ?_
    walk_at "rd"
    have rnew : Rp K H9 (.ref tp) (.tup [.str "value", t]) := rp_pair (SqT.of e9) (same_rp s9 rv)
    have gA : Dr d H (upd H9 Hd (.lst (hs ++ [.ref tp]))) := (g7.trans g9).own fHd
    have kA : upd H9 Hd (.lst (hs ++ [.ref tp])) Kn = some (.lst ks) := by rw [upd_ne nKH]; exact g9.kp _ _ nKd k7
    have rA : upd H9 Hd (.lst (hs ++ [.ref tp])) R = some (.lst xs) := by rw [upd_ne nRH]; exact g9.kp _ _ nR r7
    have rkA := rpa_put (o := .lst (hs ++ [.ref tp])) e9' (g9.rpa rk7)
    have raA := rpa_put (o := .lst (hs ++ [.ref tp])) e9' (g9.rpa ra7)
    have rhA : RpA K (upd H9 Hd (.lst (hs ++ [.ref tp]))) (hs ++ [.ref tp]) (ht' ++ [TD.tup [.str "value", t]]) := RpA.app (rpa_put e9' (g9.rpa rh)) (.cons (rp_put e9' rnew) .nil)
    have hhA : ∀ x ∈ ht' ++ [TD.tup [.str "value", t]], headT PI bd x := by
      intro x hx
      rcases List.mem_append.mp hx with h | h
      · exact hh x h
      · rw [List.mem_singleton.mp h]; exact .inl ⟨t, rfl, tv⟩
    have lA : (ht' ++ [TD.tup [.str "value", t]]).length = i + 1 := by rw [List.length_append, lh]; rfl
    refine rd_len (SqL.of kA) ?_
    walk_at "rd"
    refine iteD (fun c => ?_) (fun c => ?_)
    · walk_at "rd"
      refine take_step (by decide) gA.isD fun r HB r0 r1 gB => ?_
      walk_at "rd"
      refine iteD (fun c2 => ?_) (fun c2 => ?_)
      · walk_at "rd"
        refine ⟨d, Kn, ks, rfl, gB.isD, gB.kp _ _ nKd kA, nKd, fun e => by rw [e] at c; exact absurd c (by decide), fun u HC gC mu => ?_⟩
        walk_at "rd"
        have gBC := gB.trans gC
        have eC := gBC.kp _ _ nHd upd_same
        obtain ⟨t2, mt2, ru⟩ := rpa_mem (gBC.rpa rkA) mu
        refine rd_setL eC (by omega) (by rw [List.length_append]; show (i : Int) < ((hs.length + 1 : Nat) : Int); omega) ?_
        rw [show ((i : Int)).toNat = i by omega]
        walk_at "rd"
        refine ⟨_, _, (ht' ++ [TD.tup [.str "value", t]]).set i t2, rfl, (gA.trans gBC).own fHd, upd_same, rpa_put eC (rpa_set i (gBC.rpa rhA) ru), by rw [List.length_set, lA], ?_, by rw [upd_ne nKH]; exact gBC.kp _ _ nKd kA, rpa_put eC (gBC.rpa rkA), by rw [upd_ne nRH]; exact gBC.kp _ _ nR rA, rpa_put eC (gBC.rpa raA)⟩
        intro y hy
        rcases List.mem_or_eq_of_mem_set hy with e | e
        · exact hhA y e
        · rw [e]; exact .inr (hk t2 mt2)
      · walk_at "rd"
        exact ⟨_, _, _, rfl, gA.trans gB, gB.kp _ _ nHd upd_same, gB.rpa rhA, lA, hhA, gB.kp _ _ nKd kA, gB.rpa rkA, gB.kp _ _ nR rA, gB.rpa raA⟩
    · walk_at "rd"
      exact ⟨_, _, _, rfl, gA, upd_same, rhA, lA, hhA, kA, rkA, rA, raA⟩
  · rintro σ' H7 ⟨v7, hs, ht', rfl, g7, e7, rh, lh, hh, k7, rk7, r7, ra7⟩
    walk_at "rd"
    refine rd_tuple (SqL.of e7) fun t1 h1 => ?_
    walk_at "rd"
    have s8 : Same H7 (upd H7 t1 (.tup hs)) := same_new h1
    refine rd_tuple (SqL.of (s8 _ _ r7)) fun t2 h2 => ?_
    walk_at "rd"
    have s9 : Same (upd H7 t1 (.tup hs)) (upd (upd H7 t1 (.tup hs)) t2 (.tup xs)) := same_new h2
    refine rd_mk (len_ok rfl) fun tq HA nA eA sA => ?_
    have r1 : Rp K HA (.ref t1) (.tup ht') := .tup (same_sqt (s9.trans sA) (SqT.of upd_same)) (same_rpa (s8.trans (s9.trans sA)) rh)
    have r2 : Rp K HA (.ref t2) (.tup bd) := .tup (same_sqt sA (SqT.of upd_same)) (same_rpa (s8.trans (s9.trans sA)) ra7)
    exact q _ _ _ (((g7.same s8).same s9).same sA) (.tup (SqT.of eA) (.cons r1 (.cons r2 .nil))) ⟨ht', bd, rfl, lh, hl, ht, hh⟩

end
section
variable {P : Program} {w : World} {K : PySem.W.Frag} {mg : Str → Option Value} {base : Heap}
/-- a valid question -/
def questT (PI : NWp) (t : TD) : Prop := ∃ (w : Nat) (js : List TD), t = .tup [.int w, .tup js] ∧ w ≤ 8 ∧ js.length ≤ 12 ∧ ∀ j ∈ js, joinT PI w 8 8 j
theorem join_up {PI : NWp} {w n m : Nat} {t : TD} (hn : n ≤ 8) (hm : m ≤ 8) (h : joinT PI w n m t) : joinT PI w 8 8 t := by
  obtain ⟨hd, bd, e, l1, l2, hb, hh⟩ := h
  refine ⟨hd, bd, e, l1, by omega, fun x hx => ?_, hh⟩
  obtain ⟨z, ts, e, zo, l3, ht⟩ := hb x hx
  exact ⟨z, ts, e, zo, by omega, ht⟩
def spQuest (PI : NWp) (K : PySem.W.Frag) : Sp := fun vs H Q _ => ∃ (d a L : Addr) (ns : List Int) (ws : List Str), vs = [.ref d, .ref a, .ref L] ∧ DrAt d H ∧ Sc K H d a ns ∧ ns.length ≤ 63 ∧ Hyp PI ns ws ∧ Wl d L ws H ∧ 4 ≤ ws.length ∧
  ∀ (v : V) (t : TD) (H' : Hp), Dr d H H' → Rp K H' v t → questT PI t → Q v H'
set_option maxHeartbeats 4000000 in
theorem ok_quest {PI : NWp} (T : Tx mg) {f f1 f2 f3 : Addr} {fd d1 d2 d3 : FuncData} (F : Dn K mg "_law_any_question" sLAnyQuestion ["draws", "script", "words"] f fd) (DLTake : Dn K mg "_law_take" sLTake ["draws", "many"] f1 d1) (GLTake : FnOk P w K mg base CX0 1 f1 d1 ["draws", "many"] spTake)
    (DLPick : Dn K mg "_law_pick" sLPick ["draws", "row"] f2 d2) (GLPick : FnOk P w K mg base CX0 2 f2 d2 ["draws", "row"] (spPick K)) (DLAnyJoin : Dn K mg "_law_any_join" sLAnyJoin ["draws", "script", "words", "width", "atoms", "most"] f3 d3) (GLAnyJoin : FnOk P w K mg base CX0 7 f3 d3 ["draws", "script", "words", "width", "atoms", "most"] (spJoin PI K)) :
    FnOk P w K mg base CX0 8 f fd ["draws", "script", "words"] (spQuest PI K) := by
  refine F.F.ok scLAnyQuestion (fun vs H Q E h => ?_) (fun cdv A outer s H vs Q E hr h => ?_)
  · obtain ⟨d, a, L, ns, ws, rfl, _⟩ := h
    rfl
  obtain ⟨d, a, L, ns, ws, rfl, hd, hS, h63, hP, wl, h4, q⟩ := h
  have nd := scLAnyQuestion.nd
  refine ⟨_, (pss_cons (ps_set (i := 3) nd rfl (Or.inr rfl) (pe_call GLPick (hr.mono (by omega)) rfl DLPick.m DLPick.F.kp DLPick.b .nil pass0 (pa_cons (pv 0) (pa_cons (pe_lst (pa_cons (pe_tup (pa_cons pe_int (pa_cons pe_int (pa_cons pe_int pa_nil)))) (pa_cons (pe_tup (pa_cons pe_int (pa_cons pe_int (pa_cons pe_int pa_nil)))) (pa_cons (pe_tup (pa_cons pe_int (pa_cons pe_int (pa_cons pe_int pa_nil)))) (pa_cons (pe_tup (pa_cons pe_int (pa_cons pe_int (pa_cons pe_int pa_nil)))) (pa_cons (pe_tup (pa_cons pe_int (pa_cons pe_int (pa_cons pe_int pa_nil)))) pa_nil)))))) pa_nil))))
  (pss_cons (ps_set (i := 4) nd rfl (Or.inr rfl) (pe_call GLPick (hr.mono (by omega)) rfl DLPick.m DLPick.F.kp DLPick.b .nil pass0 (pa_cons (pv 0) (pa_cons (pe_lst (pa_cons pe_int (pa_cons pe_int (pa_cons pe_int (pa_cons pe_int (pa_cons (pe_call GLTake (hr.mono (by omega)) rfl DLTake.m DLTake.F.kp DLTake.b .nil pass0 (pa_cons (pv 0) (pa_cons pe_int pa_nil))) pa_nil)))))) pa_nil))))
  (pss_cons (ps_set (i := 5) nd rfl (Or.inl rfl) (pe_op op_add pe_int (pe_call GLTake (hr.mono (by omega)) rfl DLTake.m DLTake.F.kp DLTake.b .nil pass0 (pa_cons (pv 0) (pa_cons (pe_ix (k_ixT K rfl) (pv 3) pe_int (fun _ _ => rfl)) pa_nil)))))
  (C8.pss_cut (ps_if (pt_cmpR op_eq (pe_call GLTake (hr.mono (by omega)) rfl DLTake.m DLTake.F.kp DLTake.b .nil pass0 (pa_cons (pv 0) (pa_cons pe_int pa_nil))) pe_int (nomark _)) (pss_one (ps_set (i := 5) nd rfl (Or.inl rfl) pe_int)) pss_nil)
  (pss_cons (ps_setLc (i := 6) (own := [("k", (7 : Nat))]) (g := gName 7) rfl nd rfl rfl (sw_true rfl rfl rfl (by decide +kernel)) (pi_range1 rfl T.m_range (pa_cons (pv 5) pa_nil)) (blkOk_by (own := [("k", (7 : Nat))]) (N := nLAnyQuestion) (sc := defScope sLAnyQuestion) (by decide +kernel)) (fun _ _ _ _ _ => pg_name (i := 7) nd rfl (Or.inl rfl)) (fun _ _ _ _ _ => pts_nil) (fun _ _ _ _ _ => (pe_call GLAnyJoin (hr.mono (by omega)) rfl DLAnyJoin.m DLAnyJoin.F.kp DLAnyJoin.b .nil pass0 (pa_cons (pv 0) (pa_cons (pv 1) (pa_cons (pv 2) (pa_cons (pv 4) (pa_cons (pe_ix (k_ixT K rfl) (pv 3) pe_int (fun _ _ => rfl)) (pa_cons (pe_ix (k_ixT K rfl) (pv 3) pe_int (fun _ _ => rfl)) pa_nil)))))))))
  (pss_one (ps_ret (pe_tup (pa_cons (pv 4) (pa_cons (pe_callTy (k_tuple K rfl) rfl T.m_tuple (by decide +kernel) (pa_cons (pv 6) pa_nil)) pa_nil)))))))))), ?_⟩
  walk_at "rd"
  refine rd_mk (len_ok rfl) fun p1 H1 n1 e1 s1 => ?_
  walk_at "rd"
  refine rd_mk (len_ok rfl) fun p2 H2 n2 e2 s2 => ?_
  walk_at "rd"
  refine rd_mk (len_ok rfl) fun p3 H3 n3 e3 s3 => ?_
  walk_at "rd"
  refine rd_mk (len_ok rfl) fun p4 H4 n4 e4 s4 => ?_
  walk_at "rd"
  refine rd_mk (len_ok rfl) fun p5 H5 n5 e5 s5 => ?_
  walk_at "rd"
  refine rd_mk (len_ok rfl) fun pl H6 n6 e6 s6 => ?_
  walk_at "rd"
  have s36 := s4.trans (s5.trans s6)
  have g5 : Dr d H H5 := (Dr.refl hd).same (s1.trans (s2.trans (s3.trans (s4.trans s5))))
  have g6 : Dr d H H6 := g5.same s6
  have shape : ∀ v, v ∈ [V.ref p1, .ref p2, .ref p3, .ref p4, .ref p5] → ∃ (p : Addr) (x y z : Nat), v = .ref p ∧ SqT K H6 p [.int x, .int y, .int z] ∧ 1 ≤ x ∧ x ≤ 12 ∧ y ≤ 8 ∧ z ≤ 8 := by
    intro v hv
    simp only [List.mem_cons, List.not_mem_nil, or_false] at hv
    rcases hv with rfl | rfl | rfl | rfl | rfl
    · exact ⟨p1, 3, 3, 3, rfl, SqT.of ((s2.trans (s3.trans s36)) _ _ e1), by decide, by decide, by decide, by decide⟩
    · exact ⟨p2, 4, 3, 2, rfl, SqT.of ((s3.trans s36) _ _ e2), by decide, by decide, by decide, by decide⟩
    · exact ⟨p3, 12, 2, 3, rfl, SqT.of (s36 _ _ e3), by decide, by decide, by decide, by decide⟩
    · exact ⟨p4, 2, 8, 3, rfl, SqT.of ((s5.trans s6) _ _ e4), by decide, by decide, by decide, by decide⟩
    · exact ⟨p5, 2, 3, 8, rfl, SqT.of (s6 _ _ e5), by decide, by decide, by decide, by decide⟩
  refine ⟨d, pl, _, rfl, g6.isD, e6, g5.ne_new n6, fun e => (nomatch e), fun v H7 g7 mv => ?_⟩
  obtain ⟨ps, x, y, z, rfl, sq, x1, x12, y8, z8⟩ := shape v mv
  have sq7 := g7.sqt sq
  walk_at "rd"
  refine take_step (by decide) g7.isD fun r9 H8 r90 r91 g8 => ?_
  walk_at "rd"
  refine rd_mk (len_ok rfl) fun wl_ H9 n9 e9 s9 => ?_
  walk_at "rd"
  have g69 := (g6.trans (g7.trans g8)).same s9
  refine ⟨d, wl_, _, rfl, g69.isD, e9, (g6.trans (g7.trans g8)).ne_new n9, fun e => (nomatch e), fun v HA gA mv => ?_⟩
  obtain ⟨wd, rfl, w8⟩ : ∃ wd : Nat, v = .int wd ∧ wd ≤ 8 := by
    simp only [List.mem_cons, List.not_mem_nil, or_false] at mv
    rcases mv with rfl | rfl | rfl | rfl | rfl
    · exact ⟨2, rfl, by decide⟩
    · exact ⟨1, rfl, by decide⟩
    · exact ⟨3, rfl, by decide⟩
    · exact ⟨0, rfl, by decide⟩
    · exact ⟨r9.toNat, by rw [show ((r9.toNat : Nat) : Int) = r9 by omega], by omega⟩
  have gHA := g69.trans gA
  have sqA := gA.sqt (same_sqt s9 (g8.sqt sq7))
  walk_at "rd"
  refine rd_ixT sqA rfl ?_
  walk_at "rd"
  refine take_step (by omega) gHA.isD fun mm HB m0 m1 gB => ?_
  walk_at "rd"
  have gHB := gHA.trans gB
  refine ⟨fun σ' H' => ∃ m : Nat, σ' = [some (.ref d), some (.ref a), some (.ref L), some (.ref ps), some (.int wd), some (.int m), none, none] ∧ m ≤ 12 ∧ Dr d H H' ∧ SqT K H' ps [.int x, .int y, .int z], ?_, ?_⟩
  · walk_at "rd"
    refine take_step (by decide) gHB.isD fun r HC r0 r1 gC => ?_
    walk_at "rd"
    refine iteD (fun c => ?_) (fun c => ?_)
    · walk_at "rd"
      exact ⟨0, rfl, by decide, gHB.trans gC, gC.sqt (gB.sqt sqA)⟩
    · walk_at "rd"
      exact ⟨(1 + mm).toNat, by rw [show (((1 + mm).toNat : Nat) : Int) = 1 + mm by omega]; rfl, by omega, gHB.trans gC, gC.sqt (gB.sqt sqA)⟩
  rintro σ' HC ⟨m, rfl, m12, gC, sqC⟩
  walk_at "rd"
  refine rd_r1 ⟨by omega, by omega⟩ fun R hR => ?_
  rw [show ((m : Int)).toNat = m by omega]
  have nR : R ≠ d := gC.ne_new hR
  have fR : H R = none := gC.fresh hR
  refine lc_range (lo := 0) (n := m) (fun i H' => ∃ (xs : List V) (js : List TD), js.length = i ∧ RpA K H' xs js ∧ (∀ t ∈ js, joinT PI wd 8 8 t) ∧ H' R = some (.lst xs) ∧ Dr d H H' ∧ SqT K H' ps [.int x, .int y, .int z]) ⟨[], [], rfl, .nil, fun _ h => (nomatch h), upd_same, gC.own fR, same_sqt (same_new hR) sqC⟩ ?_ ?_
  · rintro i HD hi ⟨xs, js, hl, ra, ht, eD, gD, sqD⟩
    refine ⟨rfl, ?_⟩
    have lx : xs.length = js.length := ra.length
    walk_at "rd"
    refine rd_ixT sqD rfl ?_
    walk_at "rd"
    refine rd_ixT sqD rfl ?_
    walk_at "rd"
    refine ⟨d, a, L, wd, y, z, ns, ws, rfl, gD.isD, hS.dr gD, h63, hP, wl.dr gD, h4, w8, y8, z8, fun v t HE gE rv tv => ?_⟩
    have eE := gE.kp _ _ nR eD
    refine ⟨_, eE, small1000 (by omega), ⟨xs ++ [v], js ++ [t], by rw [List.length_append, hl]; rfl, RpA.app (rpa_put eE (gE.rpa ra)) (.cons (rp_put eE rv) .nil), ?_, upd_same, (gD.trans gE).own fR, sqt_put eE (gE.sqt sqD)⟩⟩
    intro x hx
    rcases List.mem_append.mp hx with h | h
    · exact ht x h
    · rw [List.mem_singleton.mp h]; exact join_up y8 z8 tv
  rintro HD ⟨xs, js, hl, ra, ht, eD, gD, _⟩
  walk_at "rd"
  refine rd_tuple (SqL.of eD) fun t1 h1 => ?_
  walk_at "rd"
  have sE : Same HD (upd HD t1 (.tup xs)) := same_new h1
  refine rd_mk (len_ok rfl) fun tq HF nF eF sF => ?_
  have r1 : Rp K HF (.ref t1) (.tup js) := .tup (same_sqt sF (SqT.of upd_same)) (same_rpa (sE.trans sF) ra)
  exact q _ _ _ ((gD.same sE).same sF) (.tup (SqT.of eF) (.cons (.int wd) (.cons r1 .nil))) ⟨wd, js, rfl, w8, by omega, ht⟩

end
section
variable {P : Program} {w : World} {K : PySem.W.Frag} {mg : Str → Option Value} {base : Heap}
def Tm.ok : Tm → Bool
  | .var z => wordB z
  | .num _ => true
  | .wrd z => wordB z
def Tm.nm? : Tm → Option Str
  | .var z => some z
  | _ => none
def varsT (ts : List Tm) : List Str := ts.filterMap Tm.nm?
def varsB (bd : List At) : List Str := bd.flatMap fun a => varsT a.ts
def At.ok (a : At) : Bool := wordB a.nm && (decide (a.ts.length ≤ 8) && a.ts.all Tm.ok)
def Jn.ok (w : Int) (j : Jn) : Bool := decide ((j.hd.length : Int) = w) && decide (j.bd.length ≤ 8) && j.hd.all Tm.ok && j.bd.all At.ok && (varsT j.hd).all fun z => decide (z ∈ varsB j.bd)
def Tm.fits : Tm → Prop
  | .var z => z.length ≤ 200
  | .num _ => True
  | .wrd z => z.length ≤ 200
def At.fits (a : At) : Prop := a.nm.length ≤ 200 ∧ a.ts.length ≤ 20 ∧ ∀ t ∈ a.ts, t.fits
def Jn.fits (j : Jn) : Prop := j.hd.length ≤ 20 ∧ j.bd.length ≤ 20 ∧ (∀ t ∈ j.hd, t.fits) ∧ ∀ a ∈ j.bd, a.fits
theorem vars_len (ts : List Tm) : (varsT ts).length ≤ ts.length := List.length_filterMap_le _ _
theorem varsB_len : ∀ (bd : List At), (∀ a ∈ bd, a.fits) → (varsB bd).length ≤ bd.length * 20
  | [], _ => Nat.zero_le _
  | a :: r, h => by
    unfold varsB
    rw [List.flatMap_cons, List.length_append, List.length_cons, Nat.add_mul, Nat.one_mul]
    have h1 := vars_len a.ts
    have h2 := (h a List.mem_cons_self).2.1
    have h3 := varsB_len r fun x hx => h x (List.mem_cons_of_mem _ hx)
    unfold varsB at h3
    omega
theorem map_at {α β : Type} {f : α → β} {l : List α} {i : Nat} {y : β} (h : (l.map f)[i]? = some y) : ∃ x, l[i]? = some x ∧ y = f x := by
  rw [List.getElem?_map] at h
  cases e : l[i]? with
  | none => rw [e] at h; cases h
  | some x => rw [e] at h; cases h; exact ⟨x, rfl, rfl⟩
theorem take_filter {α β : Type} {f : α → Option β} {l : List α} {i : Nat} {x : α} (h : l[i]? = some x) : (l.take (i + 1)).filterMap f = (l.take i).filterMap f ++ (f x).toList := by
  rw [take_snoc h, List.filterMap_append]
  rw [List.filterMap_cons]
  cases f x <;> rfl
theorem take_flat {α β : Type} {f : α → List β} {l : List α} {i : Nat} {x : α} (h : l[i]? = some x) : (l.take (i + 1)).flatMap f = (l.take i).flatMap f ++ f x := by
  rw [take_snoc h, List.flatMap_append, List.flatMap_cons, List.flatMap_nil, List.append_nil]
section
variable {K : PySem.W.Frag} {H : Hp}
/-- a term as it stands -/
theorem Rp.tm {v : V} {t : Tm} (r : Rp K H v t.td) : (∃ a z, v = .ref a ∧ t = .var z ∧ SqT K H a [.str "var", .str z]) ∨ (∃ a i, v = .ref a ∧ t = .num i ∧ SqT K H a [.str "value", .int i]) ∨ ∃ a z, v = .ref a ∧ t = .wrd z ∧ SqT K H a [.str "value", .str z] := by
  cases t with
  | var z => obtain ⟨a, u, rfl, s, q⟩ := r.pr; cases q; exact .inl ⟨a, z, rfl, rfl, s⟩
  | num i => obtain ⟨a, u, rfl, s, q⟩ := r.pr; cases q; exact .inr (.inl ⟨a, i, rfl, rfl, s⟩)
  | wrd z => obtain ⟨a, u, rfl, s, q⟩ := r.pr; cases q; exact .inr (.inr ⟨a, z, rfl, rfl, s⟩)
theorem Rp.atm {v : V} {a : At} (r : Rp K H v a.td) : ∃ p u, v = .ref p ∧ SqT K H p [.str a.nm, u] ∧ Rp K H u (.tup (a.ts.map Tm.td)) := r.pr
theorem Rp.duo {v : V} {t u : TD} (r : Rp K H v (.tup [t, u])) : ∃ p x y, v = .ref p ∧ SqT K H p [x, y] ∧ Rp K H x t ∧ Rp K H y u := by
  obtain ⟨p, xs, rfl, s, ra⟩ := r.seq
  cases ra with
  | cons a b =>
  cases b with
  | cons c e =>
  cases e
  exact ⟨p, _, _, rfl, s, a, c⟩
end
/-- one walk within another: over a tuple, a list -/
theorem turns_tup {K : PySem.W.Frag} {a : Addr} {xs : List V} {H0 : Hp} {Qd : Hp → Prop} {Step : V → Hp → (Hp → Prop) → Prop} (Pv : Nat → Hp → Prop) (h0 : Pv 0 H0) (hl : ∀ i H, i ≤ xs.length → Pv i H → SqT K H a xs) (hs : ∀ i x H, xs[i]? = some x → Pv i H → Step x H (Pv (i + 1))) (hd : ∀ H, Pv xs.length H → Qd H) :
    ∃ W : Nat → Nat → Hp → Prop, (∃ m, W 0 m H0) ∧ ∀ i m H, W i m H → ((Itt K a).stop i H ∧ Qd H) ∨ ((Itt K a).go i H ∧ ∃ Nx : Hp → Prop, (∀ H', Nx H' → ∃ m', m' < m ∧ W (i + 1) m' H') ∧ ∀ x H', (Itt K a).yld i H x H' → Step x H' Nx) := by
  refine ⟨fun i m H => m = xs.length - i ∧ i ≤ xs.length ∧ Pv i H, ⟨_, rfl, Nat.zero_le _, h0⟩, ?_⟩
  rintro i m H ⟨rfl, hi, p⟩
  have sq := hl i H hi p
  rcases Nat.lt_or_ge i xs.length with lt | ge
  · refine .inr ⟨⟨xs, xs[i], sq, List.getElem?_eq_getElem lt⟩, Pv (i + 1), fun H' q => ⟨xs.length - (i + 1), by omega, rfl, lt, q⟩, ?_⟩
    rintro x H' ⟨rfl, hx⟩
    exact hs i x H' (hx xs sq) p
  · have e : i = xs.length := by omega
    subst e
    exact .inl ⟨⟨xs, sq, Nat.le_refl _⟩, hd H p⟩
theorem turns_list {K : PySem.W.Frag} {a : Addr} {xs : List V} {H0 : Hp} {Qd : Hp → Prop} {Step : V → Hp → (Hp → Prop) → Prop} (Pv : Nat → Hp → Prop) (h0 : Pv 0 H0) (hl : ∀ i H, i ≤ xs.length → Pv i H → SqL K H a xs) (hs : ∀ i x H, xs[i]? = some x → Pv i H → Step x H (Pv (i + 1))) (hd : ∀ H, Pv xs.length H → Qd H) :
    ∃ W : Nat → Nat → Hp → Prop, (∃ m, W 0 m H0) ∧ ∀ i m H, W i m H → ((Itl K a).stop i H ∧ Qd H) ∨ ((Itl K a).go i H ∧ ∃ Nx : Hp → Prop, (∀ H', Nx H' → ∃ m', m' < m ∧ W (i + 1) m' H') ∧ ∀ x H', (Itl K a).yld i H x H' → Step x H' Nx) := by
  refine ⟨fun i m H => m = xs.length - i ∧ i ≤ xs.length ∧ Pv i H, ⟨_, rfl, Nat.zero_le _, h0⟩, ?_⟩
  rintro i m H ⟨rfl, hi, p⟩
  have sq := hl i H hi p
  rcases Nat.lt_or_ge i xs.length with lt | ge
  · refine .inr ⟨⟨xs, xs[i], sq, List.getElem?_eq_getElem lt⟩, Pv (i + 1), fun H' q => ⟨xs.length - (i + 1), by omega, rfl, lt, q⟩, ?_⟩
    rintro x H' ⟨rfl, hx⟩
    exact hs i x H' (hx xs sq) p
  · have e : i = xs.length := by omega
    subst e
    exact .inl ⟨⟨xs, sq, Nat.le_refl _⟩, hd H p⟩
/-- the turns of enumerate -/
theorem walk_enumT {K : PySem.W.Frag} {a : Addr} {xs : List V} : Walk (IteT K a) xs.length (fun H => SqT K H a xs) (fun i H v H' => ∃ t x, v = .ref t ∧ H t = none ∧ H' = upd H t (.tup [.int (i : Nat), x]) ∧ xs[i]? = some x) :=
  ⟨fun i H hi q => ⟨xs, xs[i], q, List.getElem?_eq_getElem hi⟩, fun H q => ⟨xs, q, Nat.le_refl _⟩, fun i H x H' hi q ⟨t, y, e1, e2, e3, e4⟩ => ⟨t, y, e1, e2, e3, e4 xs q⟩⟩

end
section
variable {P : Program} {w : World} {K : PySem.W.Frag} {mg : Str → Option Value} {base : Heap}
/-- texts compared -/
def rLeX : R2 := fun x y H Q => ∃ i j, x = .str i ∧ y = .str j ∧ Q (.bl (!decide (j.cps.toList < i.cps.toList))) H
theorem op_leX {X : Cx} : OpR X (compareOp .LtE) rLeX := op_le_str
theorem rd_leX {H : Hp} {Q : VK} {a b : Str} (q : Q (.bl (!decide (sg b < sg a))) H) : rLeX (.str a) (.str b) H Q := ⟨a, b, rfl, rfl, q⟩
theorem one_lt (a b : Nat) : decide (([a] : List Nat) < [b]) = decide (a < b) := by
  rw [decide_eq_decide, List.cons_lt_cons_iff]
  constructor
  · rintro (h | ⟨_, h⟩)
    · exact h
    · exact absurd h (by decide)
  · exact .inl
theorem low_c (c : Nat) : (!decide (sg ⟨#[c]⟩ < sg ("a" : Str))) = decide (97 ≤ c) := by
  rw [show sg ("a" : Str) = [97] by decide +kernel, sg_one, one_lt, Bool.eq_iff_iff]
  simp
theorem high_c (c : Nat) : (!decide (sg ("z" : Str) < sg ⟨#[c]⟩)) = decide (c ≤ 122) := by
  rw [show sg ("z" : Str) = [122] by decide +kernel, sg_one, one_lt, Bool.eq_iff_iff]
  simp
theorem abc_c (c : Nat) : decide (c ∈ sg abc) = (decide (97 ≤ c) && decide (c ≤ 122)) := by
  rw [abc_is, ← Bool.decide_and, decide_eq_decide]
  simp only [List.mem_cons, List.not_mem_nil, or_false]
  omega
def spIsWordP : Sp := fun vs H Q _ => ∃ z : Str, vs = [.str z] ∧ z.length ≤ 200 ∧ ∀ H', Same H H' → Q (.bl (wordB z)) H'
theorem ok_isWord (T : Tx mg) {f : Addr} {fd : FuncData} (F : Dn K mg "is_word" sIsWord ["text"] f fd) : FnOk P w K mg base CX0 1 f fd ["text"] spIsWordP := by
  refine F.F.ok scIsWord (fun vs H Q E h => ?_) (fun cdv A outer s H vs Q E hr h => ?_)
  · obtain ⟨z, rfl, _⟩ := h
    rfl
  obtain ⟨z, rfl, hz, q⟩ := h
  have nd := scIsWord.nd
  refine ⟨_, (pss_one (ps_ret (pe_and (pe_cmpR op_ne (pv 0) pe_str (nomark _)) (pe_one (pe_callB (k_all K rfl rfl) rfl T.m_all (by decide +kernel) (pa_cons (pe_lc (own := [("letter", (1 : Nat))]) (g := gName 1) rfl nd (pi_str (pv 0)) (blkOk_by (own := [("letter", (1 : Nat))]) (N := nIsWord) (sc := defScope sIsWord) (by decide +kernel)) (fun _ _ _ _ _ => pg_name (i := 1) nd rfl (Or.inl rfl)) (fun _ _ _ _ _ => pts_nil) (fun _ _ _ _ _ => (pe_chain op_leX op_leX pe_str (pv 1) pe_str))) pa_nil)))))), ?_⟩
  walk_at "rd"
  refine iteB (fun c => ?_) (fun c => ?_)
  · have hne : 0 < z.length := by
      rcases Nat.eq_zero_or_pos z.length with e | e
      · exfalso
        have e0 : z.cps = #[] := Array.size_eq_zero_iff.mp e
        have : z = ("" : Str) := by
          cases z with
          | mk a => cases e0; decide +kernel
        rw [this] at c
        exact absurd c (by decide +kernel)
      · exact e
    walk_at "rd"
    refine rd_istr ?_
    walk_at "rd"
    intro D hD
    have inC : ∀ c : Nat, decide (c ∈ sg abc) = (decide (97 ≤ c) && decide (c ≤ 122)) := abc_c
    refine lc_it walk_str (fun i H' => H' D = some (.lst ((((sg z).take i).map fun c => decide (c ∈ sg abc)).map V.bl)) ∧ Same H H') ⟨upd_same, same_new hD⟩ (fun _ _ _ _ => trivial) ?_ ?_
    · rintro i x H1 H2 hi ⟨e1, g⟩ ⟨rfl, c, hc, rfl⟩
      have hc' : (sg z)[i]? = some c := by show z.cps.toList[i]? = _; rw [Array.getElem?_toList]; exact hc
      refine ⟨rfl, ?_⟩
      have fin : ∀ k : Bool, k = decide (c ∈ sg abc) → ∃ acc, H2 D = some (.lst acc) ∧ acc.length < sizeLine ∧ (upd H2 D (.lst (acc ++ [V.bl k])) D = some (.lst ((((sg z).take (i + 1)).map fun c => decide (c ∈ sg abc)).map V.bl)) ∧ Same H (upd H2 D (.lst (acc ++ [V.bl k])))) := by
        rintro k rfl
        refine ⟨_, e1, ?_, ?_, same_own g hD⟩
        · rw [List.length_map, List.length_map, List.length_take, sg_len]; exact small1000 (by omega)
        · rw [upd_same, blist (fun c => decide (c ∈ sg abc)) hc']
      walk_at "rd"
      refine rd_leX ?_
      rw [low_c]
      walk_at "rd"
      refine iteB (fun c1 => ?_) (fun c1 => ?_)
      · walk_at "rd"
        refine rd_leX ?_
        rw [high_c]
        refine fin _ ?_
        rw [abc_c, c1, Bool.true_and]
      · refine fin _ ?_
        rw [abc_c, c1, Bool.false_and]
    · rintro H1 ⟨e1, g⟩
      have hl : (sg z).take z.cps.size = sg z := List.take_of_length_le (Nat.le_refl _)
      rw [hl] at e1
      walk_at "rd"
      refine rd_all (SqL.of e1) ?_
      have e : wordB z = ((sg z).map fun c => decide (c ∈ sg abc)).all id := by
        unfold wordB
        rw [decide_eq_true hne, Bool.and_true, List.all_map]
        rfl
      rw [← e]
      exact q _ g
  · have e : z = ("" : Str) := by
      have := of_decide_eq_true (p := V.str z = V.str "") (by cases h : decide (V.str z = V.str "") with | true => rfl | false => rw [h] at c; cases c)
      injection this
    have e' : wordB z = false := by rw [e]; decide +kernel
    have := q H (.refl _)
    rw [e'] at this
    exact this

end
section
variable {P : Program} {w : World} {K : PySem.W.Frag} {mg : Str → Option Value} {base : Heap}
/-- an item of a row -/
def itemB : V → Bool
  | .int _ => true
  | .str z => wordB z
  | _ => false
def Item (v : V) : Prop := (∃ i, v = .int i) ∨ ∃ u : Str, v = .str u ∧ u.length ≤ 200
def spIsValueP : Sp := fun vs H Q _ => ∃ v : V, vs = [v] ∧ Item v ∧ ∀ H', Same H H' → Q (.bl (itemB v)) H'
theorem ok_isValue (T : Tx mg) {f f1 : Addr} {fd d1 : FuncData} (F : Dn K mg "is_value" sIsValue ["value"] f fd) (DIsWord : Dn K mg "is_word" sIsWord ["text"] f1 d1) (GIsWord : FnOk P w K mg base CX0 1 f1 d1 ["text"] spIsWordP) :
    FnOk P w K mg base CX0 2 f fd ["value"] spIsValueP := by
  refine F.F.ok scIsValue (fun vs H Q E h => ?_) (fun cdv A outer s H vs Q E hr h => ?_)
  · obtain ⟨v, rfl, _⟩ := h
    rfl
  obtain ⟨v, rfl, hv, q⟩ := h
  refine ⟨_, (pss_one (ps_ret (pe_or (pe_callB (k_isi K rfl) rfl T.m_isinstance (by decide +kernel) (pa_cons (pv 0) (pa_cons (pe_bltn (v := .ty "int") rfl T.m_int (by decide +kernel) rfl) pa_nil))) (pe_one (pe_call GIsWord (hr.mono (by omega)) rfl DIsWord.m DIsWord.F.kp DIsWord.b .nil pass0 (pa_cons (pv 0) pa_nil)))))), ?_⟩
  walk_at "rd"
  rcases hv with ⟨i, rfl⟩ | ⟨u, rfl, hu⟩
  · refine rd_isi (.ty _) (.base (.int i)) (kit_ty (r := true) (by decide +kernel)) ?_
    walk_at "dec"
    exact q _ (.refl _)
  · refine rd_isi (.ty _) (.base (.str u)) (kit_ty (r := false) (by decide +kernel)) ?_
    walk_at "dec"
    exact ⟨u, rfl, hu, q⟩

end
section
variable {P : Program} {w : World} {K : PySem.W.Frag} {mg : Str → Option Value} {base : Heap}
def spTermsP (K : PySem.W.Frag) : Sp := fun vs H Q _ => ∃ (v : V) (ts : List Tm), vs = [v] ∧ Rp K H v (.tup (ts.map Tm.td)) ∧ ts.length ≤ 40 ∧ (∀ t ∈ ts, t.fits) ∧ ∀ H', Same H H' → Q (.bl (ts.all Tm.ok)) H'
theorem ok_areTerms (T : Tx mg) {f f1 f2 : Addr} {fd d1 d2 : FuncData} (F : Dn K mg "are_terms" sAreTerms ["terms"] f fd) (DIsWord : Dn K mg "is_word" sIsWord ["text"] f1 d1) (GIsWord : FnOk P w K mg base CX0 1 f1 d1 ["text"] spIsWordP)
    (DIsValue : Dn K mg "is_value" sIsValue ["value"] f2 d2) (GIsValue : FnOk P w K mg base CX0 2 f2 d2 ["value"] spIsValueP) : FnOk P w K mg base CX0 3 f fd ["terms"] (spTermsP K) := by
  refine F.F.ok scAreTerms (fun vs H Q E h => ?_) (fun cdv A outer s H vs Q E hr h => ?_)
  · obtain ⟨v, ts, rfl, _⟩ := h
    rfl
  obtain ⟨v, ts, rfl, r, hl, hf, q⟩ := h
  have nd := scAreTerms.nd
  refine ⟨_, (pss_one (ps_ret (pe_callB (k_all K rfl rfl) rfl T.m_all (by decide +kernel) (pa_cons (pe_lc (own := [("kind", (1 : Nat)), ("held", (2 : Nat))]) (g := gTup K 2 (gCons (gName 1) (gCons (gName 2) gNil))) rfl nd (k_pit K rfl (pv 0)) (blkOk_by (own := [("kind", (1 : Nat)), ("held", (2 : Nat))]) (N := nAreTerms) (sc := defScope sAreTerms) (by decide +kernel)) (fun _ _ _ _ _ => pg_tup rfl (pgs_cons (pg_name (i := 1) nd rfl (Or.inl rfl)) (pgs_cons (pg_name (i := 2) nd rfl (Or.inl rfl)) pgs_nil))) (fun _ _ _ _ _ => pts_nil) (fun _ _ _ _ _ => (pe_ifExp (pt_cmpR op_eq (pv 1) pe_str (nomark _)) (pe_call GIsWord (hr.mono (by omega)) rfl DIsWord.m DIsWord.F.kp DIsWord.b .nil pass0 (pa_cons (pv 2) pa_nil)) (pe_call GIsValue (hr.mono (by omega)) rfl DIsValue.m DIsValue.F.kp DIsValue.b .nil pass0 (pa_cons (pv 2) pa_nil))))) pa_nil)))), ?_⟩
  obtain ⟨a, xs, rfl, sq, ra⟩ := r.seq
  have lx : xs.length = ts.length := by rw [ra.length, List.length_map]
  walk_at "rd"
  refine rd_it sq fun D hD => ?_
  refine lc_tup (K := K) (a := a) (xs := xs) (fun i H' => H' D = some (.lst (((ts.take i).map Tm.ok).map V.bl)) ∧ Same H H') ⟨upd_same, same_new hD⟩ (fun i H' _ p => same_sqt p.2 sq) ?_ ?_
  · rintro i x H' hx ⟨e1, g⟩
    obtain ⟨t0, et0, rt⟩ := rpa_at (same_rpa g ra) hx
    obtain ⟨t, et, rfl⟩ := map_at et0
    have ft := hf t (List.mem_of_getElem? et)
    have fin : ∀ H2 : Hp, Same H' H2 → ∃ acc, H2 D = some (.lst acc) ∧ acc.length < sizeLine ∧ (upd H2 D (.lst (acc ++ [V.bl t.ok])) D = some (.lst (((ts.take (i + 1)).map Tm.ok).map V.bl)) ∧ Same H (upd H2 D (.lst (acc ++ [V.bl t.ok])))) := by
      intro H2 g2
      refine ⟨_, g2 _ _ e1, ?_, ?_, same_own (g.trans g2) hD⟩
      · rw [List.length_map, List.length_map, List.length_take]; exact small1000 (by omega)
      · rw [upd_same, blist Tm.ok et]
    rcases rt.tm with ⟨p, z, rfl, rfl, s⟩ | ⟨p, z, rfl, rfl, s⟩ | ⟨p, z, rfl, rfl, s⟩
    · refine rd_gtup s rfl ?_
      walk_at "rd"
      refine ⟨rfl, ?_⟩
      walk_at "dec"
      exact ⟨z, rfl, ft, fun H2 g2 => fin H2 g2⟩
    · refine rd_gtup s rfl ?_
      walk_at "rd"
      refine ⟨rfl, ?_⟩
      walk_at "dec"
      exact ⟨.int z, rfl, .inl ⟨z, rfl⟩, fun H2 g2 => fin H2 g2⟩
    · refine rd_gtup s rfl ?_
      walk_at "rd"
      refine ⟨rfl, ?_⟩
      walk_at "dec"
      exact ⟨.str z, rfl, .inr ⟨z, rfl, ft⟩, fun H2 g2 => fin H2 g2⟩
  · rintro H' ⟨e1, g⟩
    rw [List.take_of_length_le (by omega)] at e1
    walk_at "rd"
    refine rd_all (SqL.of e1) ?_
    have e : (ts.map Tm.ok).all id = ts.all Tm.ok := by rw [List.all_map]; rfl
    rw [e]
    exact q _ g
def spVarsP (K : PySem.W.Frag) : Sp := fun vs H Q _ => ∃ (v : V) (ts : List Tm), vs = [v] ∧ Rp K H v (.tup (ts.map Tm.td)) ∧ ts.length ≤ 40 ∧ ∀ (D : Addr) H', H D = none → Same H H' → H' D = some (.lst ((varsT ts).map V.str)) → Q (.ref D) H'
theorem ok_varsIn (T : Tx mg) {f : Addr} {fd : FuncData} (F : Dn K mg "variables_in" sVariablesIn ["terms"] f fd) : FnOk P w K mg base CX0 1 f fd ["terms"] (spVarsP K) := by
  refine F.F.ok scVariablesIn (fun vs H Q E h => ?_) (fun cdv A outer s H vs Q E hr h => ?_)
  · obtain ⟨v, ts, rfl, _⟩ := h
    rfl
  obtain ⟨v, ts, rfl, r, hl, q⟩ := h
  have nd := scVariablesIn.nd
  refine ⟨_, (pss_one (ps_ret (pe_lc (own := [("kind", (1 : Nat)), ("held", (2 : Nat))]) (g := gTup K 2 (gCons (gName 1) (gCons (gName 2) gNil))) rfl nd (k_pit K rfl (pv 0)) (blkOk_by (own := [("kind", (1 : Nat)), ("held", (2 : Nat))]) (N := nVariablesIn) (sc := defScope sVariablesIn) (by decide +kernel)) (fun _ _ _ _ _ => pg_tup rfl (pgs_cons (pg_name (i := 1) nd rfl (Or.inl rfl)) (pgs_cons (pg_name (i := 2) nd rfl (Or.inl rfl)) pgs_nil))) (fun _ _ _ _ _ => (pts_one (pt_cmpR op_eq (pv 1) pe_str (nomark _)))) (fun _ _ _ _ _ => (pv 2))))), ?_⟩
  obtain ⟨a, xs, rfl, sq, ra⟩ := r.seq
  have lx : xs.length = ts.length := by rw [ra.length, List.length_map]
  walk_at "rd"
  refine rd_it sq fun D hD => ?_
  refine lc_tup (K := K) (a := a) (xs := xs) (fun i H' => H' D = some (.lst ((varsT (ts.take i)).map V.str)) ∧ Same H H') ⟨upd_same, same_new hD⟩ (fun i H' _ p => same_sqt p.2 sq) ?_ ?_
  · rintro i x H' hx ⟨e1, g⟩
    obtain ⟨t0, et0, rt⟩ := rpa_at (same_rpa g ra) hx
    obtain ⟨t, et, rfl⟩ := map_at et0
    have hv : varsT (ts.take (i + 1)) = varsT (ts.take i) ++ t.nm?.toList := take_filter et
    have lv := vars_len (ts.take i)
    rw [List.length_take] at lv
    rcases rt.tm with ⟨p, z, rfl, rfl, s⟩ | ⟨p, z, rfl, rfl, s⟩ | ⟨p, z, rfl, rfl, s⟩
    · refine rd_gtup s rfl ?_
      walk_at "rd"
      refine ⟨rfl, ?_⟩
      walk_at "dec"
      refine ⟨_, e1, by rw [List.length_map]; exact small1000 (by omega), ?_, same_own g hD⟩
      rw [upd_same, hv, List.map_append]; rfl
    · refine rd_gtup s rfl ?_
      walk_at "rd"
      refine ⟨rfl, ?_⟩
      walk_at "dec"
      exact ⟨by rw [hv]; show _ = some (HO.lst ((varsT (ts.take i) ++ []).map V.str)); rw [List.append_nil]; exact e1, g⟩
    · refine rd_gtup s rfl ?_
      walk_at "rd"
      refine ⟨rfl, ?_⟩
      walk_at "dec"
      exact ⟨by rw [hv]; show _ = some (HO.lst ((varsT (ts.take i) ++ []).map V.str)); rw [List.append_nil]; exact e1, g⟩
  · rintro H' ⟨e1, g⟩
    rw [List.take_of_length_le (by omega)] at e1
    walk_at "rd"
    exact q D H' hD g e1

end
section
variable {P : Program} {w : World} {K : PySem.W.Frag} {mg : Str → Option Value} {base : Heap}
def spAtomP (K : PySem.W.Frag) : Sp := fun vs H Q _ => ∃ (v : V) (a : At), vs = [v] ∧ Rp K H v a.td ∧ a.fits ∧ ∀ H', Same H H' → Q (.bl a.ok) H'
theorem ok_isAtom (T : Tx mg) {tM : PySem.Tok} (hM : mg "MOST_TERMS" = some (.int 8 tM)) {f f1 f2 : Addr} {fd d1 d2 : FuncData} (F : Dn K mg "is_atom" sIsAtom ["atom"] f fd) (DIsWord : Dn K mg "is_word" sIsWord ["text"] f1 d1) (GIsWord : FnOk P w K mg base CX0 1 f1 d1 ["text"] spIsWordP)
    (DAreTerms : Dn K mg "are_terms" sAreTerms ["terms"] f2 d2) (GAreTerms : FnOk P w K mg base CX0 3 f2 d2 ["terms"] (spTermsP K)) : FnOk P w K mg base CX0 4 f fd ["atom"] (spAtomP K) := by
  refine F.F.ok scIsAtom (fun vs H Q E h => ?_) (fun cdv A outer s H vs Q E hr h => ?_)
  · obtain ⟨v, a, rfl, _⟩ := h
    rfl
  obtain ⟨v, a, rfl, r, ⟨f1, f2, f3⟩, q⟩ := h
  have nd := scIsAtom.nd
  refine ⟨_, (pss_cons (ps_asg (pv 0) (pg_tup rfl (pgs_cons (pg_name (i := 1) nd rfl (Or.inl rfl)) (pgs_cons (pg_name (i := 2) nd rfl (Or.inl rfl)) pgs_nil))))
  (pss_one (ps_ret (pe_and (pe_call GIsWord (hr.mono (by omega)) rfl DIsWord.m DIsWord.F.kp DIsWord.b .nil pass0 (pa_cons (pv 1) pa_nil)) (pe_and (pe_cmpR op_le (pe_callB (k_len K rfl) rfl T.m_len PySem.boot_len (pa_cons (pv 2) pa_nil)) (pe_glob (v := .int 8) rfl hM ⟨_, rfl⟩) (nomark _)) (pe_one (pe_call GAreTerms (hr.mono (by omega)) rfl DAreTerms.m DAreTerms.F.kp DAreTerms.b .nil pass0 (pa_cons (pv 2) pa_nil)))))))), ?_⟩
  obtain ⟨p, u, rfl, s, ru⟩ := r.atm
  obtain ⟨b, xs, rfl, sb, ra⟩ := ru.seq
  have lx : xs.length = a.ts.length := by rw [ra.length, List.length_map]
  walk_at "rd"
  refine rd_gtup s rfl ?_
  walk_at "rd"
  refine ⟨a.nm, rfl, f1, fun H1 g1 => ?_⟩
  walk_at "rd"
  have el : decide ((xs.length : Int) ≤ 8) = decide (a.ts.length ≤ 8) := decide_eq_decide.mpr (by omega)
  refine iteB (fun c => ?_) (fun c => ?_)
  · walk_at "rd"
    refine rd_lenT (same_sqt g1 sb) ?_
    walk_at "rd"
    rw [el]
    refine iteB (fun c1 => ?_) (fun c1 => ?_)
    · walk_at "rd"
      refine ⟨_, a.ts, rfl, same_rp g1 ru, by omega, f3, fun H2 g2 => ?_⟩
      have e : a.ok = a.ts.all Tm.ok := by unfold At.ok; rw [c, c1, Bool.true_and, Bool.true_and]
      rw [← e]
      exact q _ (g1.trans g2)
    · have e : a.ok = false := by unfold At.ok; rw [c1, Bool.false_and, Bool.and_false]
      have z := q _ g1
      rw [e] at z
      exact z
  · have e : a.ok = false := by unfold At.ok; rw [c, Bool.false_and]
    have z := q _ g1
    rw [e] at z
    exact z
def spVarsB (K : PySem.W.Frag) : Sp := fun vs H Q _ => ∃ (v : V) (bd : List At), vs = [v] ∧ Rp K H v (.tup (bd.map At.td)) ∧ bd.length ≤ 20 ∧ (∀ a ∈ bd, a.fits) ∧ ∀ (D : Addr) H', H D = none → Same H H' → H' D = some (.lst ((varsB bd).map V.str)) → Q (.ref D) H'
theorem ok_varsB (T : Tx mg) {f f1 : Addr} {fd d1 : FuncData} (F : Dn K mg "variables_in_body" sVariablesInBody ["body"] f fd) (DVariablesIn : Dn K mg "variables_in" sVariablesIn ["terms"] f1 d1) (GVariablesIn : FnOk P w K mg base CX0 1 f1 d1 ["terms"] (spVarsP K)) :
    FnOk P w K mg base CX0 2 f fd ["body"] (spVarsB K) := by
  refine F.F.ok scVariablesInBody (fun vs H Q E h => ?_) (fun cdv A outer s H vs Q E hr h => ?_)
  · obtain ⟨v, ts, rfl, _⟩ := h
    rfl
  obtain ⟨v, bd, rfl, r, hl, hf, q⟩ := h
  have nd := scVariablesInBody.nd
  refine ⟨_, (pss_one (ps_ret (pe_lc2 (own := [("_", (1 : Nat)), ("terms", (2 : Nat)), ("variable", (3 : Nat))]) (vs1 := [3]) (g := gTup K 2 (gCons (gName 1) (gCons (gName 2) gNil))) (g1 := gName 3) rfl nd (k_pit K rfl (pv 0)) (blkOk_by (own := [("_", (1 : Nat)), ("terms", (2 : Nat)), ("variable", (3 : Nat))]) (N := nVariablesInBody) (sc := defScope sVariablesInBody) (by decide +kernel)) (by decide) (fun _ _ _ _ _ => pg_tup rfl (pgs_cons (pg_name (i := 1) nd rfl (Or.inl rfl)) (pgs_cons (pg_name (i := 2) nd rfl (Or.inl rfl)) pgs_nil))) (fun _ _ _ _ _ => pts_nil)
    (fun _ _ _ _ _ => k_pil K rfl (pe_call GVariablesIn (hr.mono (by omega)) rfl DVariablesIn.m DVariablesIn.F.kp DVariablesIn.b .nil pass0 (pa_cons (pv 2) pa_nil))) (fun _ _ _ _ _ => pg_name (i := 3) nd rfl (Or.inl rfl)) (fun _ _ _ _ _ => pts_nil) (fun _ _ _ _ _ => (pv 3))))), ?_⟩
  obtain ⟨a, xs, rfl, sq, ra⟩ := r.seq
  have lx : xs.length = bd.length := by rw [ra.length, List.length_map]
  walk_at "rd"
  unfold tLc2
  walk_at "rd"
  refine rd_it sq fun D hD => ?_
  refine turns_tup (K := K) (a := a) (xs := xs) (fun i H' => H' D = some (.lst ((varsB (bd.take i)).map V.str)) ∧ Same H H') ⟨upd_same, same_new hD⟩ (fun i H' _ p => same_sqt p.2 sq) ?_ ?_
  · rintro i x H' hx ⟨e1, g⟩
    obtain ⟨t0, et0, rt⟩ := rpa_at (same_rpa g ra) hx
    obtain ⟨t, et, rfl⟩ := map_at et0
    obtain ⟨p, u, rfl, s, ru⟩ := rt.atm
    have ft := hf t (List.mem_of_getElem? et)
    have lv := varsB_len (bd.take i) fun y hy => hf y (List.mem_of_mem_take hy)
    rw [List.length_take] at lv
    refine rd_gtup s rfl ?_
    walk_at "rd"
    refine ⟨rfl, ?_⟩
    walk_at "rd"
    refine ⟨u, t.ts, rfl, ru, by have := ft.2.1; omega, fun B H2 hB g2 e2 => ?_⟩
    have nBD : B ≠ D := fun e => by rw [e, e1] at hB; cases hB
    have lt := vars_len t.ts
    have ft2 := ft.2.1
    refine rd_il (SqL.of e2) ?_
    refine turns_list (K := K) (a := B) (xs := (varsT t.ts).map V.str) (fun k H3 => H3 D = some (.lst ((varsB (bd.take i) ++ (varsT t.ts).take k).map V.str)) ∧ Same H H3 ∧ H3 B = some (.lst ((varsT t.ts).map V.str))) ⟨?_, g.trans g2, e2⟩ (fun k H3 _ p => SqL.of p.2.2) ?_ ?_
    · rw [List.take_zero, List.append_nil]; exact g2 _ _ e1
    · rintro k y H3 hy ⟨e3, g3, eB⟩
      obtain ⟨z, ez, rfl⟩ := map_at hy
      walk_at "rd"
      refine ⟨rfl, ?_⟩
      walk_at "rd"
      refine ⟨_, e3, by rw [List.length_map, List.length_append, List.length_take]; exact small1000 (by omega), ?_, same_own g3 hD, ?_⟩
      · rw [upd_same, take_snoc ez, ← List.append_assoc]; simp only [List.map_append]; rfl
      · rw [upd_ne nBD]; exact eB
    · rintro H3 ⟨e3, g3, eB⟩
      rw [List.length_map, List.take_of_length_le (Nat.le_refl _)] at e3
      refine ⟨?_, g3⟩
      unfold varsB
      rw [take_flat et]
      exact e3
  · rintro H' ⟨e1, g⟩
    rw [List.take_of_length_le (by omega)] at e1
    exact q D H' hD g e1
def spJoinP (K : PySem.W.Frag) : Sp := fun vs H Q _ => ∃ (v : V) (j : Jn) (n : Int), vs = [v, .int n] ∧ Rp K H v j.td ∧ j.fits ∧ ∀ H', Same H H' → Q (.bl (j.ok n)) H'
set_option maxHeartbeats 2000000 in
theorem ok_isJoin (T : Tx mg) {tM : PySem.Tok} (hM : mg "MOST_ATOMS" = some (.int 8 tM)) {f f1 f2 f3 f4 : Addr} {fd d1 d2 d3 d4 : FuncData} (F : Dn K mg "is_join" sIsJoin ["join", "width"] f fd)
    (DAreTerms : Dn K mg "are_terms" sAreTerms ["terms"] f1 d1) (GAreTerms : FnOk P w K mg base CX0 3 f1 d1 ["terms"] (spTermsP K)) (DIsAtom : Dn K mg "is_atom" sIsAtom ["atom"] f2 d2) (GIsAtom : FnOk P w K mg base CX0 4 f2 d2 ["atom"] (spAtomP K))
    (DVariablesInBody : Dn K mg "variables_in_body" sVariablesInBody ["body"] f3 d3) (GVariablesInBody : FnOk P w K mg base CX0 2 f3 d3 ["body"] (spVarsB K)) (DVariablesIn : Dn K mg "variables_in" sVariablesIn ["terms"] f4 d4) (GVariablesIn : FnOk P w K mg base CX0 1 f4 d4 ["terms"] (spVarsP K)) :
    FnOk P w K mg base CX0 5 f fd ["join", "width"] (spJoinP K) := by
  refine F.F.ok scIsJoin (fun vs H Q E h => ?_) (fun cdv A outer s H vs Q E hr h => ?_)
  · obtain ⟨v, j, n, rfl, _⟩ := h
    rfl
  obtain ⟨v, j, n, rfl, r, ⟨f1, f2, f3, f4⟩, q⟩ := h
  have nd := scIsJoin.nd
  refine ⟨_, (pss_cons (ps_asg (pv 0) (pg_tup rfl (pgs_cons (pg_name (i := 2) nd rfl (Or.inl rfl)) (pgs_cons (pg_name (i := 3) nd rfl (Or.inl rfl)) pgs_nil))))
  (pss_cons (ps_if (PW.pt (pw_or (pt_cmpR op_ne (pe_callB (k_len K rfl) rfl T.m_len PySem.boot_len (pa_cons (pv 2) pa_nil)) (pv 1) (nomark _)) (pw_or1 (pt_cmpR op_gt (pe_callB (k_len K rfl) rfl T.m_len PySem.boot_len (pa_cons (pv 3) pa_nil)) (pe_glob (v := .int 8) rfl hM ⟨_, rfl⟩) (nomark _))))) (pss_one (ps_ret pe_bl)) pss_nil)
  (pss_cons (ps_if (PW.pt (pw_or (pt_not (pt_val (pe_call GAreTerms (hr.mono (by omega)) rfl DAreTerms.m DAreTerms.F.kp DAreTerms.b .nil pass0 (pa_cons (pv 2) pa_nil)))) (pw_or1 (pt_not (pt_val (pe_callB (k_all K rfl rfl) rfl T.m_all (by decide +kernel) (pa_cons (pe_lc (own := [("atom", (4 : Nat))]) (g := gName 4) rfl nd (k_pit K rfl (pv 3)) (blkOk_by (own := [("atom", (4 : Nat))]) (N := nIsJoin) (sc := defScope sIsJoin) (by decide +kernel)) (fun _ _ _ _ _ => pg_name (i := 4) nd rfl (Or.inl rfl)) (fun _ _ _ _ _ => pts_nil) (fun _ _ _ _ _ => (pe_call GIsAtom (hr.mono (by omega)) rfl DIsAtom.m DIsAtom.F.kp DIsAtom.b .nil pass0 (pa_cons (pv 4) pa_nil)))) pa_nil))))))) (pss_one (ps_ret pe_bl)) pss_nil)
  (pss_cons (ps_set (i := 5) nd rfl (Or.inr rfl) (pe_call GVariablesInBody (hr.mono (by omega)) rfl DVariablesInBody.m DVariablesInBody.F.kp DVariablesInBody.b .nil pass0 (pa_cons (pv 3) pa_nil)))
  (pss_one (ps_ret (pe_callB (k_all K rfl rfl) rfl T.m_all (by decide +kernel) (pa_cons (pe_lc (own := [("variable", (6 : Nat))]) (g := gName 6) rfl nd (k_pil K rfl (pe_call GVariablesIn (hr.mono (by omega)) rfl DVariablesIn.m DVariablesIn.F.kp DVariablesIn.b .nil pass0 (pa_cons (pv 2) pa_nil))) (blkOk_by (own := [("variable", (6 : Nat))]) (N := nIsJoin) (sc := defScope sIsJoin) (by decide +kernel)) (fun _ _ _ _ _ => pg_name (i := 6) nd rfl (Or.inl rfl)) (fun _ _ _ _ _ => pts_nil) (fun _ _ _ _ _ => (pe_cmpR (k_in K rfl) (pv 6) (pv 5) rfl))) pa_nil)))))))), ?_⟩
  obtain ⟨p, x, y, rfl, s, rx, ry⟩ := r.duo
  obtain ⟨a, xs, rfl, sa, ra⟩ := rx.seq
  obtain ⟨b, ys, rfl, sb, rb⟩ := ry.seq
  have lx : xs.length = j.hd.length := by rw [ra.length, List.length_map]
  have ly : ys.length = j.bd.length := by rw [rb.length, List.length_map]
  have no : ∀ H1 : Hp, Same H H1 → j.ok n = false → Q (.bl false) H1 := fun H1 g e => by have z := q H1 g; rw [e] at z; exact z
  walk_at "rd"
  refine rd_gtup s rfl ?_
  walk_at "rd"
  refine rd_lenT sa ?_
  walk_at "rd"
  refine iteB (fun c => ?_) (fun c => ?_)
  · walk_at "rd"
    refine no _ (.refl _) ?_
    have e : ¬ ((j.hd.length : Int) = n) := fun e => by
      rw [lx, e] at c
      rw [decide_eq_true rfl] at c
      cases c
    unfold Jn.ok
    rw [decide_eq_false e]; rfl
  have hw : ((j.hd.length : Int) = n) := by
    have e : decide (V.int (xs.length : Int) = V.int n) = true := by
      cases h : decide (V.int (xs.length : Int) = V.int n) with
      | true => rfl
      | false => rw [h] at c; cases c
    have := of_decide_eq_true e
    injection this with this
    rw [← lx]; exact this
  walk_at "rd"
  refine rd_lenT sb ?_
  walk_at "rd"
  refine iteB (fun c1 => ?_) (fun c1 => ?_)
  · walk_at "rd"
    refine no _ (.refl _) ?_
    have := of_decide_eq_true c1
    unfold Jn.ok
    rw [decide_eq_false (by omega : ¬ j.bd.length ≤ 8), Bool.and_false]; rfl
  have hb8 : j.bd.length ≤ 8 := by have := of_decide_eq_false c1; omega
  walk_at "rd"
  refine ⟨_, j.hd, rfl, rx, by omega, f3, fun H1 g1 => ?_⟩
  walk_at "rd"
  refine iteB (fun c2 => ?_) (fun c2 => ?_)
  · walk_at "rd"
    refine no _ g1 ?_
    have e : j.hd.all Tm.ok = false := by cases h : j.hd.all Tm.ok with | false => rfl | true => rw [h] at c2; cases c2
    unfold Jn.ok
    rw [e, Bool.and_false]; rfl
  have eh : j.hd.all Tm.ok = true := by cases h : j.hd.all Tm.ok with | true => rfl | false => rw [h] at c2; cases c2
  walk_at "rd"
  refine rd_it (same_sqt g1 sb) fun D hD => ?_
  refine lc_tup (K := K) (a := b) (xs := ys) (fun i H' => H' D = some (.lst (((j.bd.take i).map At.ok).map V.bl)) ∧ Same H1 H') ⟨upd_same, same_new hD⟩ (fun i H' _ p => same_sqt (g1.trans p.2) sb) ?_ ?_
  · rintro i x H' hx ⟨e1, g⟩
    obtain ⟨t0, et0, rt⟩ := rpa_at (same_rpa (g1.trans g) rb) hx
    obtain ⟨t, et, rfl⟩ := map_at et0
    refine ⟨rfl, ?_⟩
    walk_at "rd"
    refine ⟨_, t, rfl, rt, f4 t (List.mem_of_getElem? et), fun H2 g2 => ?_⟩
    refine ⟨_, g2 _ _ e1, ?_, ?_, same_own (g.trans g2) hD⟩
    · rw [List.length_map, List.length_map, List.length_take]; exact small1000 (by omega)
    · rw [upd_same, blist At.ok et]
  rintro H2 ⟨e1, g⟩
  rw [List.take_of_length_le (by omega)] at e1
  walk_at "rd"
  refine rd_all (SqL.of e1) ?_
  have e : (j.bd.map At.ok).all id = j.bd.all At.ok := by rw [List.all_map]; rfl
  rw [e]
  walk_at "rd"
  refine iteB (fun c3 => ?_) (fun c3 => ?_)
  · walk_at "rd"
    refine no _ (g1.trans g) ?_
    have e : j.bd.all At.ok = false := by cases h : j.bd.all At.ok with | false => rfl | true => rw [h] at c3; cases c3
    unfold Jn.ok
    rw [e, Bool.and_false]; rfl
  have eb : j.bd.all At.ok = true := by cases h : j.bd.all At.ok with | true => rfl | false => rw [h] at c3; cases c3
  walk_at "rd"
  have g12 := g1.trans g
  refine ⟨_, j.bd, rfl, same_rp g12 ry, f2, f4, fun B H3 hB g3 e3 => ?_⟩
  walk_at "rd"
  refine ⟨_, j.hd, rfl, same_rp (g12.trans g3) rx, by omega, fun C H4 hC g4 e4 => ?_⟩
  have lvh := vars_len j.hd
  refine rd_il (SqL.of e4) fun D2 hD2 => ?_
  have nB : B ≠ D2 := fun e => by rw [← e, g4 _ _ e3] at hD2; cases hD2
  have nC : C ≠ D2 := fun e => by rw [← e, e4] at hD2; cases hD2
  refine lc_list (K := K) (a := C) (xs := (varsT j.hd).map V.str) (fun i H' => H' D2 = some (.lst ((((varsT j.hd).take i).map fun z => decide (z ∈ varsB j.bd)).map V.bl)) ∧ Same H4 H') ⟨upd_same, same_new hD2⟩ (fun i H' _ p => SqL.of (p.2 _ _ e4)) ?_ ?_
  · rintro i x H' hx ⟨e5, g5⟩
    obtain ⟨z, ez, rfl⟩ := map_at hx
    refine ⟨rfl, ?_⟩
    walk_at "rd"
    refine rd_in (SqL.of (g5 _ _ (g4 _ _ e3))) rfl (strs_flat _) ?_
    rw [strs_inV]
    refine ⟨_, e5, ?_, ?_, same_own g5 hD2⟩
    · rw [List.length_map, List.length_map, List.length_take]; exact small1000 (by omega)
    · rw [upd_same, blist (fun z => decide (z ∈ varsB j.bd)) ez]
  rintro H5 ⟨e5, g5⟩
  rw [List.length_map, List.take_of_length_le (Nat.le_refl _)] at e5
  walk_at "rd"
  refine rd_all (SqL.of e5) ?_
  have e : j.ok n = ((varsT j.hd).map fun z => decide (z ∈ varsB j.bd)).all id := by
    unfold Jn.ok
    rw [decide_eq_true hw, decide_eq_true hb8, eh, eb, List.all_map]
    rfl
  rw [← e]
  exact q _ (((g12.trans g3).trans g4).trans g5)

end
section
variable {P : Program} {w : World} {K : PySem.W.Frag} {mg : Str → Option Value} {base : Heap}
/-- what check_question says of a question: none where it is valid, else the error's join -/
def bad (n : Int) (js : List Jn) : Option V := if (decide (0 ≤ n ∧ n ≤ 8) && decide (js.length ≤ 12)) = true then (js.findIdx? fun j => !j.ok n).map fun i => V.int (i : Nat) else some .non
def spCheckX (C : Addr) (K : PySem.W.Frag) : Sp := fun vs H Q E => ∃ (v : V) (n : Int) (js : List Jn), vs = [v] ∧ Rp K H v (questD n js) ∧ js.length ≤ 40 ∧ (∀ j ∈ js, j.fits) ∧ (bad n js = none → ∀ H', Same H H' → Q .non H') ∧
  ∀ x, bad n js = some x → ∀ (d : Addr) (H' : Hp), Same H H' → H' d = some (.xd [(("join" : Str), x)]) → E (.ref C) (some d) H'
theorem find_first {js : List Jn} {n : Int} {i : Nat} {j : Jn} (e : js[i]? = some j) (h : ∀ k, k < i → ∀ x, js[k]? = some x → x.ok n = true) (b : j.ok n = false) : (js.findIdx? fun j => !j.ok n) = some i := by
  rw [List.findIdx?_eq_some_iff_getElem]
  have hi := (List.getElem?_eq_some_iff.mp e)
  obtain ⟨lt, ej⟩ := hi
  refine ⟨lt, by rw [ej, b]; rfl, fun k hk => ?_⟩
  have := h k hk js[k] (List.getElem?_eq_getElem (by omega))
  rw [this]; simp
theorem find_none {js : List Jn} {n : Int} (h : ∀ k, k < js.length → ∀ x, js[k]? = some x → x.ok n = true) : (js.findIdx? fun j => !j.ok n) = none := by
  rw [List.findIdx?_eq_none_iff]
  intro x hx
  obtain ⟨k, hk⟩ := List.mem_iff_getElem?.mp hx
  rw [h k (List.getElem?_eq_some_iff.mp hk).1 x hk]; rfl
set_option maxHeartbeats 2000000 in
theorem ok_checkX (T : Tx mg) {C fI : Addr} (low : PySem.NoQX.NoQTxt K mg C fI) {tW tJ : PySem.Tok} (hW : mg "WIDEST" = some (.int 8 tW)) (hJ : mg "MOST_JOINS" = some (.int 12 tJ)) {f f1 : Addr} {fd d1 : FuncData} (F : Dn K mg "check_question" sCheckQuestion ["question"] f fd)
    (DIsJoin : Dn K mg "is_join" sIsJoin ["join", "width"] f1 d1) (GIsJoin : FnOk P w K mg base CX0 5 f1 d1 ["join", "width"] (spJoinP K)) : FnOk P w K mg base (L2.CX P w) 7 f fd ["question"] (spCheckX C K) := by
  refine F.F.okX scCheckQuestion (fun vs H Q E h => ?_) (fun cdv A outer s H vs Q E hr h => ?_)
  · obtain ⟨v, t, js, rfl, _⟩ := h
    rfl
  obtain ⟨v, n, js, rfl, r, hl, fj, q, e⟩ := h
  have nd := scCheckQuestion.nd
  refine ⟨_, (pss_cons (ps_asg (pv 0) (pg_tup rfl (pgs_cons (pg_name (i := 1) nd rfl (Or.inl rfl)) (pgs_cons (pg_name (i := 2) nd rfl (Or.inl rfl)) pgs_nil))))
  (pss_cons (ps_if (PW.pt (pw_or (pt_not (pt_chain op_le op_le pe_int (pv 1) (pe_glob (v := .int 8) rfl hW ⟨_, rfl⟩))) (pw_or1 (pt_cmpR op_gt (pe_callB (k_len K rfl) rfl T.m_len PySem.boot_len (pa_cons (pv 2) pa_nil)) (pe_glob (v := .int 12) rfl hJ ⟨_, rfl⟩) (nomark _))))) (pss_one (ps_raiseNoq rfl low hr (takes_of rfl rfl rfl rfl) (pa_cons pe_non pa_nil))) pss_nil)
  (pss_one (ps_for (passes_of rfl) rfl (pi_enumT (K := K) rfl rfl T.m_enumerate (pa_cons (pv 2) pa_nil)) (pg_tup rfl (pgs_cons (pg_name (i := 3) nd rfl (Or.inl rfl)) (pgs_cons (pg_name (i := 4) nd rfl (Or.inl rfl)) pgs_nil))) (pss_one (ps_if (pt_not (pt_val (pe_call GIsJoin (hr.mono (by omega)) rfl DIsJoin.m DIsJoin.F.kp DIsJoin.b .nil pass0 (pa_cons (pv 4) (pa_cons (pv 1) pa_nil))))) (pss_one (ps_raiseNoq rfl low hr (takes_of rfl rfl rfl rfl) (pa_cons (pv 3) pa_nil))) pss_nil)))))), ?_⟩
  obtain ⟨p, x, y, rfl, s, rx, ry⟩ := r.duo
  cases rx
  obtain ⟨a, xs, rfl, sa, ra⟩ := ry.seq
  have lx : xs.length = js.length := by rw [ra.length, List.length_map]
  have raise : ∀ (x : V) (H1 : Hp), Same H H1 → bad n js = some x → ∀ d, H1 d = none → E (.ref C) (some d) (upd H1 d (.xd [(("join" : Str), x)])) := fun x H1 g b d hd => e x b d _ (g.trans (same_new hd)) upd_same
  have badW : ∀ (H1 : Hp), (decide (0 ≤ n ∧ n ≤ 8) && decide (js.length ≤ 12)) = false → bad n js = some .non := fun H1 c => by
    unfold bad
    rw [c, if_neg Bool.false_ne_true]
  walk_at "rd"
  refine rd_gtup s rfl ?_
  walk_at "rd"
  have out : ∀ H1 : Hp, Same H H1 → (decide (0 ≤ n ∧ n ≤ 8) && decide (js.length ≤ 12)) = false → ∀ d, H1 d = none → E (.ref C) (some d) (upd H1 d (.xd [(("join" : Str), .non)])) := fun H1 g c => raise _ _ g (badW H1 c)
  refine iteB (fun c => ?_) (fun c => ?_)
  · have c0 := of_decide_eq_true c
    walk_at "rd"
    refine iteB (fun c1 => ?_) (fun c1 => ?_)
    · have c8 : ¬ n ≤ 8 := fun h => by rw [decide_eq_true h] at c1; cases c1
      walk_at "rd"
      unfold tRaiseNoq tMkNoq
      walk_at "rd"
      exact ⟨_, rfl, fun d hd => out _ (.refl _) (by rw [decide_eq_false (fun z => c8 z.2), Bool.false_and]) d hd⟩
    · have c8 : n ≤ 8 := by
        cases h : decide (n ≤ 8) with
        | true => exact of_decide_eq_true h
        | false => rw [h] at c1; cases c1
      walk_at "rd"
      refine rd_lenT sa ?_
      walk_at "rd"
      refine iteB (fun c2 => ?_) (fun c2 => ?_)
      · have c3 := of_decide_eq_true c2
        walk_at "rd"
        unfold tRaiseNoq tMkNoq
        walk_at "rd"
        exact ⟨_, rfl, fun d hd => out _ (.refl _) (by rw [decide_eq_false (by omega : ¬ js.length ≤ 12), Bool.and_false]) d hd⟩
      · have c3 := of_decide_eq_false c2
        have eb : bad n js = (js.findIdx? fun j => !j.ok n).map fun i => V.int (i : Nat) := by
          unfold bad
          rw [decide_eq_true (⟨c0, c8⟩ : 0 ≤ n ∧ n ≤ 8), decide_eq_true (by omega : js.length ≤ 12)]
          rfl
        walk_at "rd"
        unfold iEnumT
        walk_at "rd"
        refine ⟨a, xs, rfl, sa, ?_⟩
        refine for_it walk_enumT (fun i σ' H' => ∃ v3 v4 : Option V, σ' = [some (.ref p), some (.int n), some (.ref a), v3, v4] ∧ Same H H' ∧ ∀ k, k < i → ∀ x, js[k]? = some x → x.ok n = true) ⟨none, none, rfl, .refl _, fun k hk => absurd hk (Nat.not_lt_zero _)⟩ (fun i σ' H' _ q => by obtain ⟨_, _, _, g, _⟩ := q; exact same_sqt g sa) ?_ ?_
        · rintro i x σ' H1 H2 hi ⟨v3, v4, rfl, g, al⟩ ⟨t, y, rfl, ht, rfl, hy⟩
          have g1 : Same H1 (upd H1 t (.tup [.int (i : Nat), y])) := same_new ht
          obtain ⟨t0, et0, rt⟩ := rpa_at (same_rpa (g.trans g1) ra) hy
          obtain ⟨j, ej, rfl⟩ := map_at et0
          have mj := List.mem_of_getElem? ej
          refine rd_gtup (SqT.of upd_same) rfl ?_
          walk_at "rd"
          refine ⟨y, j, n, rfl, rt, fj j mj, fun H3 g3 => ?_⟩
          have gg := g.trans (g1.trans g3)
          walk_at "rd"
          refine iteB (fun c4 => ?_) (fun c4 => ?_)
          · have bj : j.ok n = false := by cases h : j.ok n with | false => rfl | true => rw [h] at c4; cases c4
            walk_at "rd"
            unfold tRaiseNoq tMkNoq
            walk_at "rd"
            exact ⟨_, rfl, fun d hd => raise _ _ gg (by rw [eb, find_first ej al bj]; rfl) d hd⟩
          · have gj : j.ok n = true := by cases h : j.ok n with | true => rfl | false => rw [h] at c4; cases c4
            walk_at "rd"
            refine ⟨_, _, rfl, gg, fun k hk x hx => ?_⟩
            rcases Nat.lt_or_ge k i with lt | ge
            · exact al k lt x hx
            · have : k = i := by omega
              rw [this, ej] at hx
              cases hx
              exact gj
        · rintro σ' H1 ⟨v3, v4, rfl, g, al⟩
          exact q (by rw [eb, find_none fun k hk x hx => al k (by omega) x hx]; rfl) _ g
  · have c0 := of_decide_eq_false c
    walk_at "dec"
    unfold tRaiseNoq tMkNoq
    walk_at "rd"
    exact ⟨_, rfl, fun d hd => out _ (.refl _) (by rw [decide_eq_false (fun z => c0 z.1), Bool.false_and]) d hd⟩

end
section
variable {P : Program} {w : World} {K : PySem.W.Frag} {mg : Str → Option Value} {base : Heap}
/-- what is drawn, as data -/
theorem tm_of {PI : NWp} {t : TD} (h : termT PI t) : ∃ m : Tm, t = m.td ∧ m.fits ∧ m.ok = true := by
  rcases h with ⟨u, rfl, hu⟩ | ⟨z, rfl, hz⟩
  · cases u with
    | int i => exact ⟨.num i, rfl, trivial, rfl⟩
    | str z =>
      have hz : WordOk z := hu
      exact ⟨.wrd z, rfl, Nat.le_trans hz.2 (by decide), hz.1⟩
    | _ => cases hu
  · exact ⟨.var z, rfl, Nat.le_trans hz.1.2 (by decide), hz.1.1⟩
theorem tms_of {PI : NWp} : ∀ {ts : List TD}, (∀ t ∈ ts, termT PI t) → ∃ ms : List Tm, ts = ms.map Tm.td ∧ (∀ m ∈ ms, m.fits) ∧ ms.all Tm.ok = true
  | [], _ => ⟨[], rfl, fun _ h => (nomatch h), rfl⟩
  | t :: r, h => by
    obtain ⟨m, e, f, o⟩ := tm_of (h t List.mem_cons_self)
    obtain ⟨ms, e2, f2, o2⟩ := tms_of fun x hx => h x (List.mem_cons_of_mem _ hx)
    refine ⟨m :: ms, by rw [e, e2]; rfl, fun x hx => ?_, by rw [List.all_cons, o, o2]; rfl⟩
    rcases List.mem_cons.mp hx with q | q
    · rw [q]; exact f
    · exact f2 x q
theorem at_of {PI : NWp} {n : Nat} (hn : n ≤ 8) {t : TD} (h : atomT PI n t) : ∃ a : At, t = a.td ∧ a.fits ∧ a.ok = true := by
  obtain ⟨z, ts, rfl, zo, l, ht⟩ := h
  obtain ⟨ms, rfl, f, o⟩ := tms_of ht
  rw [List.length_map] at l
  exact ⟨⟨z, ms⟩, rfl, ⟨Nat.le_trans zo.2 (by decide), Nat.le_trans l (by omega), f⟩, by unfold At.ok; rw [zo.1, o, decide_eq_true (Nat.le_trans l hn)]; rfl⟩
theorem ats_of {PI : NWp} {n : Nat} (hn : n ≤ 8) : ∀ {ts : List TD}, (∀ t ∈ ts, atomT PI n t) → ∃ ms : List At, ts = ms.map At.td ∧ (∀ m ∈ ms, m.fits) ∧ ms.all At.ok = true
  | [], _ => ⟨[], rfl, fun _ h => (nomatch h), rfl⟩
  | t :: r, h => by
    obtain ⟨m, e, f, o⟩ := at_of hn (h t List.mem_cons_self)
    obtain ⟨ms, e2, f2, o2⟩ := ats_of hn fun x hx => h x (List.mem_cons_of_mem _ hx)
    refine ⟨m :: ms, by rw [e, e2]; rfl, fun x hx => ?_, by rw [List.all_cons, o, o2]; rfl⟩
    rcases List.mem_cons.mp hx with q | q
    · rw [q]; exact f
    · exact f2 x q
theorem var_in {z : Str} {ts : List Tm} (h : (TD.tup [.str "var", .str z]) ∈ ts.map Tm.td) : z ∈ varsT ts := by
  obtain ⟨m, hm, e⟩ := List.mem_map.mp h
  cases m with
  | var y =>
    have : y = z := by unfold Tm.td at e; injection e with e; injection e with _ e; injection e with e; injection e
    subst this
    exact List.mem_filterMap.mpr ⟨_, hm, rfl⟩
  | num i => unfold Tm.td at e; injection e with e; injection e with e _; injection e with e; exact absurd e (by decide +kernel)
  | wrd i => unfold Tm.td at e; injection e with e; injection e with e _; injection e with e; exact absurd e (by decide +kernel)
theorem heads_of {PI : NWp} {bd : List At} : ∀ {ts : List TD}, (∀ t ∈ ts, headT PI (bd.map At.td) t) → ∃ ms : List Tm, ts = ms.map Tm.td ∧ (∀ m ∈ ms, m.fits) ∧ ms.all Tm.ok = true ∧ ∀ z ∈ varsT ms, z ∈ varsB bd
  | [], _ => ⟨[], rfl, fun _ h => (nomatch h), rfl, fun _ h => (nomatch h)⟩
  | t :: r, h => by
    obtain ⟨ms, e2, f2, o2, v2⟩ := heads_of fun x hx => h x (List.mem_cons_of_mem _ hx)
    have one : ∃ m : Tm, t = m.td ∧ m.fits ∧ m.ok = true ∧ ∀ z, m.nm? = some z → z ∈ varsB bd := by
      rcases h t List.mem_cons_self with ⟨u, rfl, hu⟩ | ⟨⟨z, rfl, hz⟩, y, ts, hy, hin⟩
      · obtain ⟨m, e, f, o⟩ := tm_of (PI := PI) (.inl ⟨u, rfl, hu⟩)
        refine ⟨m, e, f, o, fun z hz => ?_⟩
        cases m with
        | var y => unfold Tm.td at e; injection e with e; injection e with e _; injection e with e; exact absurd e (by decide +kernel)
        | num i => cases hz
        | wrd i => cases hz
      · refine ⟨.var z, rfl, Nat.le_trans hz.1.2 (by decide), hz.1.1, fun x hx => ?_⟩
        have : z = x := Option.some.inj hx
        subst this
        obtain ⟨a, ha, e⟩ := List.mem_map.mp hy
        refine List.mem_flatMap.mpr ⟨a, ha, ?_⟩
        unfold At.td at e
        injection e with e
        injection e with _ e
        injection e with e
        injection e with e
        rw [← e] at hin
        exact var_in hin
    obtain ⟨m, e, f, o, v⟩ := one
    refine ⟨m :: ms, by rw [e, e2]; rfl, fun x hx => ?_, by rw [List.all_cons, o, o2]; rfl, fun z hz => ?_⟩
    · rcases List.mem_cons.mp hx with q | q
      · rw [q]; exact f
      · exact f2 x q
    · unfold varsT at hz
      rw [List.filterMap_cons] at hz
      cases en : m.nm? with
      | none => rw [en] at hz; exact v2 z hz
      | some y =>
        rw [en] at hz
        rcases List.mem_cons.mp hz with q | q
        · rw [q]; exact v y en
        · exact v2 z q
theorem jn_of {PI : NWp} {n : Nat} (hn : n ≤ 8) {t : TD} (h : joinT PI n 8 8 t) : ∃ j : Jn, t = j.td ∧ j.fits ∧ j.ok n = true := by
  obtain ⟨hd, bd, rfl, l1, l2, hb, hh⟩ := h
  obtain ⟨as, rfl, fa, oa⟩ := ats_of (Nat.le_refl _) hb
  obtain ⟨ms, rfl, fm, om, vm⟩ := heads_of hh
  rw [List.length_map] at l1 l2
  refine ⟨⟨ms, as⟩, rfl, ⟨Nat.le_trans (m := 8) (Nat.le_trans (Nat.le_of_eq l1) hn) (by decide), Nat.le_trans l2 (by decide), fm, fa⟩, ?_⟩
  unfold Jn.ok
  have ev : ((varsT ms).all fun z => decide (z ∈ varsB as)) = true := List.all_eq_true.mpr fun z hz => decide_eq_true (vm z hz)
  show (decide ((ms.length : Int) = (n : Int)) && decide (as.length ≤ 8) && ms.all Tm.ok && as.all At.ok && _) = true
  rw [decide_eq_true (by omega : (ms.length : Int) = (n : Int)), decide_eq_true l2, om, oa]
  exact ev
theorem jns_of {PI : NWp} {n : Nat} (hn : n ≤ 8) : ∀ {ts : List TD}, (∀ t ∈ ts, joinT PI n 8 8 t) → ∃ js : List Jn, ts = js.map Jn.td ∧ (∀ j ∈ js, j.fits) ∧ ∀ j ∈ js, j.ok n = true
  | [], _ => ⟨[], rfl, fun _ h => (nomatch h), fun _ h => (nomatch h)⟩
  | t :: r, h => by
    obtain ⟨m, e, f, o⟩ := jn_of hn (h t List.mem_cons_self)
    obtain ⟨ms, e2, f2, o2⟩ := jns_of hn fun x hx => h x (List.mem_cons_of_mem _ hx)
    refine ⟨m :: ms, by rw [e, e2]; rfl, fun x hx => ?_, fun x hx => ?_⟩
    · rcases List.mem_cons.mp hx with q | q
      · rw [q]; exact f
      · exact f2 x q
    · rcases List.mem_cons.mp hx with q | q
      · rw [q]; exact o
      · exact o2 x q

end
section
variable {P : Program} {w : World} {K : PySem.W.Frag} {mg : Str → Option Value} {base : Heap}
/-! the methods of a reader -/
structure RTxt (K : PySem.W.Frag) (C : Addr) : Prop where
  cl : Cls K C
  nT : NoAttr K C "tokens"
  nP : NoAttr K C "place"
def spSees (K : PySem.W.Frag) (CR : Addr) : Sp := fun vs H Q _ => ∃ (r T : Addr) (k : Str) (l : List Tok), vs = [.ref r, .str k] ∧ Rdr K CR r T l H ∧ Good l ∧ Q (.bl (sees k l)) H
theorem ok_sees (T : Tx mg) {CR : Addr} (tx : RTxt K CR) {f : Addr} {fd : FuncData} (F : Dm K CR "sees" "Reader.sees" sReaderSees ["self", "kind"] f fd) :
    FnOk P w K mg base CX0 1 f fd ["self", "kind"] (spSees K CR) := by
  refine F.F.ok scReaderSees (fun vs H Q E h => ?_) (fun cdv A outer s H vs Q E hr h => ?_)
  · obtain ⟨r, T, k, l, rfl, _⟩ := h
    rfl
  obtain ⟨r, T, k, l, rfl, R, g, q⟩ := h
  have nd := scReaderSees.nd
  refine ⟨_, (pss_one (ps_ret (pe_cmpR op_eq (pe_ix (k_ixT K rfl) (pe_ix (k_ixL K rfl) (pe_fld (pv 0) rfl) (pe_fld (pv 0) rfl) (fun _ _ => rfl)) pe_int (fun _ _ => rfl)) (pv 1) (nomark _)))), ?_⟩
  obtain ⟨t, a, l', rfl⟩ := g.ne
  obtain ⟨dx, xs, p, ad, e, eT, ex, sq, _, _⟩ := R.step
  walk_at "rd"
  refine rd_fldI e tx.cl tx.nT (rf_tok T p) ?_
  walk_at "rd"
  refine rd_fldI e tx.cl tx.nP (rf_place T p) ?_
  refine rd_ixL (SqL.of eT) ex ?_
  walk_at "rd"
  refine rd_ixT sq rfl ?_
  walk_at "rd"
  rw [dec_str]
  exact q
def spBehind (K : PySem.W.Frag) (CR : Addr) : Sp := fun vs H Q _ => ∃ (r T : Addr) (k : Str) (t : Tok) (l : List Tok), vs = [.ref r, .str k] ∧ Rdr K CR r T (t :: l) H ∧ Good l ∧ Q (.bl (sees k l)) H
theorem ok_behind (T : Tx mg) {CR : Addr} (tx : RTxt K CR) {f : Addr} {fd : FuncData} (F : Dm K CR "sees_behind" "Reader.sees_behind" sReaderSeesBehind ["self", "kind"] f fd) :
    FnOk P w K mg base CX0 1 f fd ["self", "kind"] (spBehind K CR) := by
  refine F.F.ok scReaderSeesBehind (fun vs H Q E h => ?_) (fun cdv A outer s H vs Q E hr h => ?_)
  · obtain ⟨r, T, k, t0, l, rfl, _⟩ := h
    rfl
  obtain ⟨r, T, k, t0, l, rfl, R, g, q⟩ := h
  have nd := scReaderSeesBehind.nd
  refine ⟨_, (pss_one (ps_ret (pe_cmpR op_eq (pe_ix (k_ixT K rfl) (pe_ix (k_ixL K rfl) (pe_fld (pv 0) rfl) (pe_op op_add (pe_fld (pv 0) rfl) pe_int) (fun _ _ => rfl)) pe_int (fun _ _ => rfl)) (pv 1) (nomark _)))), ?_⟩
  obtain ⟨t, a, l', rfl⟩ := g.ne
  obtain ⟨dx, xs, p, ad, e, eT, ex, sq⟩ := R.step2
  walk_at "rd"
  refine rd_fldI e tx.cl tx.nT (rf_tok T p) ?_
  walk_at "rd"
  refine rd_fldI e tx.cl tx.nP (rf_place T p) ?_
  walk_at "rd"
  refine rd_ixL (SqL.of eT) ex ?_
  walk_at "rd"
  refine rd_ixT sq rfl ?_
  walk_at "rd"
  rw [dec_str]
  exact q
def spHeld (K : PySem.W.Frag) (CR : Addr) : Sp := fun vs H Q _ => ∃ (r T : Addr) (t : Tok) (l : List Tok), vs = [.ref r] ∧ Rdr K CR r T (t :: l) H ∧ Q t.1.heldV H
theorem ok_held (T : Tx mg) {CR : Addr} (tx : RTxt K CR) {f : Addr} {fd : FuncData} (F : Dm K CR "held" "Reader.held" sReaderHeld ["self"] f fd) :
    FnOk P w K mg base CX0 1 f fd ["self"] (spHeld K CR) := by
  refine F.F.ok scReaderHeld (fun vs H Q E h => ?_) (fun cdv A outer s H vs Q E hr h => ?_)
  · obtain ⟨r, T, t, l, rfl, _⟩ := h
    rfl
  obtain ⟨r, T, t, l, rfl, R, q⟩ := h
  have nd := scReaderHeld.nd
  refine ⟨_, (pss_one (ps_ret (pe_ix (k_ixT K rfl) (pe_ix (k_ixL K rfl) (pe_fld (pv 0) rfl) (pe_fld (pv 0) rfl) (fun _ _ => rfl)) pe_int (fun _ _ => rfl)))), ?_⟩
  obtain ⟨dx, xs, p, ad, e, eT, ex, sq, _, _⟩ := R.step
  walk_at "rd"
  refine rd_fldI e tx.cl tx.nT (rf_tok T p) ?_
  walk_at "rd"
  refine rd_fldI e tx.cl tx.nP (rf_place T p) ?_
  refine rd_ixL (SqL.of eT) ex ?_
  walk_at "rd"
  refine rd_ixT sq rfl ?_
  exact q
theorem noS : (("sees" : Str) == ("tokens" : Str)) = false ∧ (("sees" : Str) == ("place" : Str)) = false := by decide +kernel
theorem noB : (("sees_behind" : Str) == ("tokens" : Str)) = false ∧ (("sees_behind" : Str) == ("place" : Str)) = false := by decide +kernel
theorem noH : (("held" : Str) == ("tokens" : Str)) = false ∧ (("held" : Str) == ("place" : Str)) = false := by decide +kernel
theorem noW : (("sees_word" : Str) == ("tokens" : Str)) = false ∧ (("sees_word" : Str) == ("place" : Str)) = false := by decide +kernel
theorem noR : (("refuse" : Str) == ("tokens" : Str)) = false ∧ (("refuse" : Str) == ("place" : Str)) = false := by decide +kernel
theorem noT : (("take" : Str) == ("tokens" : Str)) = false ∧ (("take" : Str) == ("place" : Str)) = false := by decide +kernel
theorem noTW : (("take_word" : Str) == ("tokens" : Str)) = false ∧ (("take_word" : Str) == ("place" : Str)) = false := by decide +kernel
theorem kind_word (t : Tk) (h : decide (t.kind = "word") = true) : ∃ y, t = .word y := by
  have h := of_decide_eq_true h
  cases t with
  | word y => exact ⟨y, rfl⟩
  | text y => exact absurd (show ("text" : Str) = "word" from h) (by decide +kernel)
  | num y => exact absurd (show ("number" : Str) = "word" from h) (by decide +kernel)
  | fin => exact absurd h (by decide +kernel)
  | wrong => exact absurd h (by decide +kernel)
  | sign c =>
    have : (⟨#[c]⟩ : Str).length = ("word" : Str).length := congrArg Str.length h
    rw [show ("word" : Str).length = 4 by decide +kernel] at this
    exact absurd this (by show ¬ (1 = 4); decide)
def spSeesW (K : PySem.W.Frag) (CR : Addr) : Sp := fun vs H Q _ => ∃ (r T : Addr) (z : Str) (l : List Tok), vs = [.ref r, .str z] ∧ Rdr K CR r T l H ∧ Good l ∧ Q (.bl (seesW z l)) H
theorem ok_seesW (T : Tx mg) {CR : Addr} (cl : Cls K CR) {f f1 f2 : Addr} {fd d1 d2 : FuncData} (F : Dm K CR "sees_word" "Reader.sees_word" sReaderSeesWord ["self", "word"] f fd)
    (DReaderSees : Dm K CR "sees" "Reader.sees" sReaderSees ["self", "kind"] f1 d1) (GReaderSees : FnOk P w K mg base CX0 1 f1 d1 ["self", "kind"] (spSees K CR))
    (DReaderHeld : Dm K CR "held" "Reader.held" sReaderHeld ["self"] f2 d2) (GReaderHeld : FnOk P w K mg base CX0 1 f2 d2 ["self"] (spHeld K CR)) :
    FnOk P w K mg base CX0 2 f fd ["self", "word"] (spSeesW K CR) := by
  refine F.F.ok scReaderSeesWord (fun vs H Q E h => ?_) (fun cdv A outer s H vs Q E hr h => ?_)
  · obtain ⟨r, T, z, l, rfl, _⟩ := h
    rfl
  obtain ⟨r, T, z, l, rfl, R, g, q⟩ := h
  have nd := scReaderSeesWord.nd
  refine ⟨_, (pss_one (ps_ret (pe_and (pe_meth (pv 0) cl DReaderSees.mt GReaderSees (hr.mono (by omega)) DReaderSees.b .nil pass0 (pa_cons pe_str pa_nil)) (pe_one (pe_cmpR op_eq (pe_meth0 (pv 0) cl DReaderHeld.mt GReaderHeld (hr.mono (by omega)) DReaderHeld.b .nil pass0) (pv 1) (nomark _)))))), ?_⟩
  obtain ⟨t, a, l', rfl⟩ := g.ne
  walk_at "rd"
  refine rd_mthI R noS.1 noS.2 ?_
  walk_at "rd"
  refine ⟨r, T, "word", _, rfl, R, g, ?_⟩
  walk_at "rd"
  refine iteB (fun c => ?_) (fun c => ?_)
  · obtain ⟨y, rfl⟩ := kind_word t c
    walk_at "rd"
    refine rd_mthI R noH.1 noH.2 ?_
    walk_at "rd"
    refine ⟨r, T, _, _, rfl, R, ?_⟩
    walk_at "rd"
    rw [show decide (Tk.heldV (Tk.word y) = V.str z) = decide (y = z) from dec_str y z]
    exact q
  · have e : seesW z ((t, a) :: l') = false := by
      cases t with
      | word y => exact absurd c (by show ¬ (decide (("word" : Str) = "word") = false); decide +kernel)
      | _ => rfl
    rw [e] at q
    exact q
def spRefuse (K : PySem.W.Frag) (CR CB : Addr) : Sp := fun vs H _ E => ∃ (r T : Addr) (t : Tok) (l : List Tok), vs = [.ref r] ∧ Rdr K CR r T (t :: l) H ∧ ∀ d H', Same H H' → H' d = some (.xd [(("at" : Str), .int (t.2 : Nat))]) → E (.ref CB) (some d) H'
theorem ok_refuse (T : Tx mg) {CR CB fI : Addr} (tx : RTxt K CR) (low : PySem.BadX.BadTxt K mg CB fI) {f : Addr} {fd : FuncData} (F : Dm K CR "refuse" "Reader.refuse" sReaderRefuse ["self"] f fd) :
    FnOk P w K mg base (L2.CX P w) 1 f fd ["self"] (spRefuse K CR CB) := by
  refine F.F.okX scReaderRefuse (fun vs H Q E h => ?_) (fun cdv A outer s H vs Q E hr h => ?_)
  · obtain ⟨r, T, t, l, rfl, _⟩ := h
    rfl
  obtain ⟨r, T, t, l, rfl, R, q⟩ := h
  have nd := scReaderRefuse.nd
  refine ⟨_, (pss_one (ps_raiseBadt rfl low hr (takes_of rfl rfl rfl rfl) (pa_cons (pe_ix (k_ixT K rfl) (pe_ix (k_ixL K rfl) (pe_fld (pv 0) rfl) (pe_fld (pv 0) rfl) (fun _ _ => rfl)) pe_int (fun _ _ => rfl)) pa_nil))), ?_⟩
  obtain ⟨dx, xs, p, ad, e, eT, ex, sq, _, _⟩ := R.step
  unfold tRaiseBadt tMkBadt
  walk_at "rd"
  refine rd_fldI e tx.cl tx.nT (rf_tok T p) ?_
  walk_at "rd"
  refine rd_fldI e tx.cl tx.nP (rf_place T p) ?_
  refine rd_ixL (SqL.of eT) ex ?_
  walk_at "rd"
  refine rd_ixT sq rfl ?_
  walk_at "rd"
  exact ⟨_, rfl, fun d hd => q d _ (same_new hd) upd_same⟩
def spTakeR (K : PySem.W.Frag) (CR CB : Addr) : Sp := fun vs H Q E => ∃ (r T : Addr) (k : Str) (l : List Tok), vs = [.ref r, .str k] ∧ Rdr K CR r T l H ∧ Good l ∧ Ans K CR CB r T H (takeK k l) (fun t v _ => v = t.heldV) Q E
theorem ok_takeR (T : Tx mg) {CR CB : Addr} (tx : RTxt K CR) (cl : Cls K CR) {f f1 f2 f3 : Addr} {fd d1 d2 d3 : FuncData} (F : Dm K CR "take" "Reader.take" sReaderTake ["self", "kind"] f fd)
    (DReaderSees : Dm K CR "sees" "Reader.sees" sReaderSees ["self", "kind"] f1 d1) (GReaderSees : FnOk P w K mg base CX0 1 f1 d1 ["self", "kind"] (spSees K CR))
    (DReaderHeld : Dm K CR "held" "Reader.held" sReaderHeld ["self"] f2 d2) (GReaderHeld : FnOk P w K mg base CX0 1 f2 d2 ["self"] (spHeld K CR))
    (DReaderRefuse : Dm K CR "refuse" "Reader.refuse" sReaderRefuse ["self"] f3 d3) (GReaderRefuse : FnOk P w K mg base (L2.CX P w) 1 f3 d3 ["self"] (spRefuse K CR CB)) :
    FnOk P w K mg base (L2.CX P w) 2 f fd ["self", "kind"] (spTakeR K CR CB) := by
  refine F.F.okX scReaderTake (fun vs H Q E h => ?_) (fun cdv A outer s H vs Q E hr h => ?_)
  · obtain ⟨r, T, k, l, rfl, _⟩ := h
    rfl
  obtain ⟨r, T, k, l, rfl, R, g, q⟩ := h
  have nd := scReaderTake.nd
  refine ⟨_, (pss_cons (ps_if (pt_not (pt_val (pe_meth (pv 0) cl DReaderSees.mt GReaderSees (hr.mono (by omega)) DReaderSees.b .nil pass0 (pa_cons (pv 1) pa_nil)))) (pss_one (ps_expr (pe_meth0 (pv 0) cl DReaderRefuse.mt GReaderRefuse (hr.mono (by omega)) DReaderRefuse.b .nil (passes_call (takes_of rfl rfl rfl rfl) (fun _ _ _ _ h => h))))) pss_nil)
  (pss_cons (ps_set (i := 2) nd rfl (Or.inl rfl) (pe_meth0 (pv 0) cl DReaderHeld.mt GReaderHeld (hr.mono (by omega)) DReaderHeld.b .nil pass0))
  (pss_cons (ps_fldaug (pv 0) pe_int in_add)
  (pss_one (ps_ret (pv 2)))))), ?_⟩
  obtain ⟨t, a, l', rfl⟩ := g.ne
  obtain ⟨dx, xs, p, ad, e, eT, ex, sq, o, R2⟩ := R.step
  have o0 : Only r H H := .refl R.isI
  obtain ⟨q1, q2⟩ := q
  walk_at "rd"
  refine rd_mthI R noS.1 noS.2 ?_
  walk_at "rd"
  refine ⟨r, T, k, _, rfl, R, g, ?_⟩
  walk_at "rd"
  have es : sees k ((t, a) :: l') = decide (t.kind = k) := rfl
  rw [es]
  refine iteB (fun c => ?_) (fun c => ?_)
  · have nk : ¬ t.kind = k := fun h => by rw [decide_eq_true h] at c; cases c
    walk_at "rd"
    refine rd_mthI R noR.1 noR.2 ?_
    walk_at "rd"
    exact ⟨r, T, (t, a), l', rfl, R, fun d H' s hd => q2 a (by rw [takeK_cons, if_neg nk]) d H' (o0.same s) hd⟩
  · have yk : t.kind = k := by
      cases h : decide (t.kind = k) with
      | true => exact of_decide_eq_true h
      | false => rw [h] at c; cases c
    walk_at "rd"
    refine rd_mthI R noH.1 noH.2 ?_
    walk_at "rd"
    refine ⟨r, T, (t, a), l', rfl, R, ?_⟩
    walk_at "rd"
    refine rd_place rfl e cl tx.nP ?_
    walk_at "rd"
    exact q1 t l' (by rw [takeK_cons, if_pos yk]) _ _ o R2 rfl
def spTakeW (K : PySem.W.Frag) (CR CB : Addr) : Sp := fun vs H Q E => ∃ (r T : Addr) (z : Str) (l : List Tok), vs = [.ref r, .str z] ∧ Rdr K CR r T l H ∧ Good l ∧ Ans K CR CB r T H (takeW z l) (fun _ v _ => v = .non) Q E
theorem ok_takeW (T : Tx mg) {CR CB : Addr} (tx : RTxt K CR) (cl : Cls K CR) {f f1 f2 : Addr} {fd d1 d2 : FuncData} (F : Dm K CR "take_word" "Reader.take_word" sReaderTakeWord ["self", "word"] f fd)
    (DReaderSeesWord : Dm K CR "sees_word" "Reader.sees_word" sReaderSeesWord ["self", "word"] f1 d1) (GReaderSeesWord : FnOk P w K mg base CX0 2 f1 d1 ["self", "word"] (spSeesW K CR))
    (DReaderRefuse : Dm K CR "refuse" "Reader.refuse" sReaderRefuse ["self"] f2 d2) (GReaderRefuse : FnOk P w K mg base (L2.CX P w) 1 f2 d2 ["self"] (spRefuse K CR CB)) :
    FnOk P w K mg base (L2.CX P w) 3 f fd ["self", "word"] (spTakeW K CR CB) := by
  refine F.F.okX scReaderTakeWord (fun vs H Q E h => ?_) (fun cdv A outer s H vs Q E hr h => ?_)
  · obtain ⟨r, T, z, l, rfl, _⟩ := h
    rfl
  obtain ⟨r, T, z, l, rfl, R, g, q⟩ := h
  have nd := scReaderTakeWord.nd
  refine ⟨_, (pss_cons (ps_if (pt_not (pt_val (pe_meth (pv 0) cl DReaderSeesWord.mt GReaderSeesWord (hr.mono (by omega)) DReaderSeesWord.b .nil pass0 (pa_cons (pv 1) pa_nil)))) (pss_one (ps_expr (pe_meth0 (pv 0) cl DReaderRefuse.mt GReaderRefuse (hr.mono (by omega)) DReaderRefuse.b .nil (passes_call (takes_of rfl rfl rfl rfl) (fun _ _ _ _ h => h))))) pss_nil)
  (pss_one (ps_fldaug (pv 0) pe_int in_add))), ?_⟩
  obtain ⟨t, a, l', rfl⟩ := g.ne
  obtain ⟨dx, xs, p, ad, e, eT, ex, sq, o, R2⟩ := R.step
  have o0 : Only r H H := .refl R.isI
  obtain ⟨q1, q2⟩ := q
  walk_at "rd"
  refine rd_mthI R noW.1 noW.2 ?_
  walk_at "rd"
  refine ⟨r, T, z, _, rfl, R, g, ?_⟩
  walk_at "rd"
  refine iteB (fun c => ?_) (fun c => ?_)
  · walk_at "rd"
    refine rd_mthI R noR.1 noR.2 ?_
    walk_at "rd"
    exact ⟨r, T, (t, a), l', rfl, R, fun d H' s hd => q2 a (by rw [takeW_cons, if_neg (by intro h; rw [h] at c; cases c)]) d H' (o0.same s) hd⟩
  · walk_at "rd"
    refine rd_place rfl e cl tx.nP ?_
    exact q1 () l' (by rw [takeW_cons, if_pos (by cases h : seesW z ((t, a) :: l') with | true => rfl | false => rw [h] at c; cases c)]) _ _ o R2 rfl

end
section
variable {P : Program} {w : World} {K : PySem.W.Frag} {mg : Str → Option Value} {base : Heap}
theorem takeK_word (y : Str) (a : Nat) (l : List Tok) : takeK "word" ((.word y, a) :: l) = .ok (.word y, l) := by
  rw [takeK_cons]
  exact if_pos (show Tk.kind (.word y) = "word" from rfl)
theorem takeK_text (y : Str) (a : Nat) (l : List Tok) : takeK "text" ((.text y, a) :: l) = .ok (.text y, l) := by
  rw [takeK_cons]
  exact if_pos (show Tk.kind (.text y) = "text" from rfl)
theorem kind_text (t : Tk) (h : decide (t.kind = "text") = true) : ∃ y, t = .text y := by
  have h := of_decide_eq_true h
  cases t with
  | text y => exact ⟨y, rfl⟩
  | word y => exact absurd (show ("word" : Str) = "text" from h) (by decide +kernel)
  | num y => exact absurd (show ("number" : Str) = "text" from h) (by decide +kernel)
  | fin => exact absurd h (by decide +kernel)
  | wrong => exact absurd h (by decide +kernel)
  | sign c =>
    have : (⟨#[c]⟩ : Str).length = ("text" : Str).length := congrArg Str.length h
    rw [show ("text" : Str).length = 4 by decide +kernel] at this
    exact absurd this (by show ¬ (1 = 4); decide)
theorem kind_num {t : Tk} (h : t.kind = "number") : ∃ y, t = .num y := by
  cases t with
  | num y => exact ⟨y, rfl⟩
  | word y => exact absurd (show ("word" : Str) = "number" from h) (by decide +kernel)
  | text y => exact absurd (show ("text" : Str) = "number" from h) (by decide +kernel)
  | fin => exact absurd h (by decide +kernel)
  | wrong => exact absurd h (by decide +kernel)
  | sign c =>
    have : (⟨#[c]⟩ : Str).length = ("number" : Str).length := congrArg Str.length h
    rw [show ("number" : Str).length = 6 by decide +kernel] at this
    exact absurd this (by show ¬ (1 = 6); decide)
def tmV (K : PySem.W.Frag) (t : Tm) (v : V) (H : Hp) : Prop := Rp K H v t.td
def spTermR (K : PySem.W.Frag) (CR CB : Addr) : Sp := fun vs H Q E => ∃ (r T : Addr) (l : List Tok), vs = [.ref r] ∧ Rdr K CR r T l H ∧ Good l ∧ Ans K CR CB r T H (readTerm l) (tmV K) Q E
set_option maxHeartbeats 1000000 in
theorem ok_termR (T : Tx mg) {CR CB : Addr} (cl : Cls K CR) {f f1 f2 : Addr} {fd d1 d2 : FuncData} (F : Dn K mg "read_term" sReadTerm ["reader"] f fd)
    (DReaderSees : Dm K CR "sees" "Reader.sees" sReaderSees ["self", "kind"] f1 d1) (GReaderSees : FnOk P w K mg base CX0 1 f1 d1 ["self", "kind"] (spSees K CR))
    (DReaderTake : Dm K CR "take" "Reader.take" sReaderTake ["self", "kind"] f2 d2) (GReaderTake : FnOk P w K mg base (L2.CX P w) 2 f2 d2 ["self", "kind"] (spTakeR K CR CB)) :
    FnOk P w K mg base (L2.CX P w) 3 f fd ["reader"] (spTermR K CR CB) := by
  refine F.F.okX scReadTerm (fun vs H Q E h => ?_) (fun cdv A outer s H vs Q E hr h => ?_)
  · obtain ⟨r, T, l, rfl, _⟩ := h
    rfl
  obtain ⟨r, T, l, rfl, R, g, q⟩ := h
  have nd := scReadTerm.nd
  refine ⟨_, (pss_cons (ps_if (pt_val (pe_meth (pv 0) cl DReaderSees.mt GReaderSees (hr.mono (by omega)) DReaderSees.b .nil pass0 (pa_cons pe_str pa_nil))) (pss_one (ps_ret (pe_tup (pa_cons pe_str (pa_cons (pe_meth (pv 0) cl DReaderTake.mt GReaderTake (hr.mono (by omega)) DReaderTake.b .nil (passes_call (takes_of rfl rfl rfl rfl) (fun _ _ _ _ h => h)) (pa_cons pe_str pa_nil)) pa_nil))))) pss_nil)
  (pss_cons (ps_if (pt_val (pe_meth (pv 0) cl DReaderSees.mt GReaderSees (hr.mono (by omega)) DReaderSees.b .nil pass0 (pa_cons pe_str pa_nil))) (pss_one (ps_ret (pe_tup (pa_cons pe_str (pa_cons (pe_meth (pv 0) cl DReaderTake.mt GReaderTake (hr.mono (by omega)) DReaderTake.b .nil (passes_call (takes_of rfl rfl rfl rfl) (fun _ _ _ _ h => h)) (pa_cons pe_str pa_nil)) pa_nil))))) pss_nil)
  (pss_one (ps_ret (pe_tup (pa_cons pe_str (pa_cons (pe_meth (pv 0) cl DReaderTake.mt GReaderTake (hr.mono (by omega)) DReaderTake.b .nil (passes_call (takes_of rfl rfl rfl rfl) (fun _ _ _ _ h => h)) (pa_cons pe_str pa_nil)) pa_nil))))))), ?_⟩
  obtain ⟨t, a, l', rfl⟩ := g.ne
  obtain ⟨q1, q2⟩ := q
  walk_at "rd"
  refine rd_mthI R noS.1 noS.2 ?_
  walk_at "rd"
  refine ⟨r, T, "word", _, rfl, R, g, ?_⟩
  walk_at "rd"
  refine iteB (fun c => ?_) (fun c => ?_)
  · obtain ⟨y, rfl⟩ := kind_word t c
    walk_at "rd"
    refine rd_mthI R noT.1 noT.2 ?_
    walk_at "rd"
    refine ⟨r, T, "word", _, rfl, R, g, ?_, ?_⟩
    · rintro x l2 e v H1 o R1 rfl
      rw [takeK_word] at e
      cases e
      walk_at "rd"
      refine rd_mk (len_ok rfl) fun tq H2 n2 e2 s2 => ?_
      exact q1 (.var y) l' rfl _ _ (o.same s2) (R1.same s2) (.tup (SqT.of e2) (.cons (.str _) (.cons (.str y) .nil)))
    · intro n e
      rw [takeK_word] at e
      cases e
  walk_at "rd"
  refine rd_mthI R noS.1 noS.2 ?_
  walk_at "rd"
  refine ⟨r, T, "text", _, rfl, R, g, ?_⟩
  walk_at "rd"
  refine iteB (fun c2 => ?_) (fun c2 => ?_)
  · obtain ⟨y, rfl⟩ := kind_text t c2
    walk_at "rd"
    refine rd_mthI R noT.1 noT.2 ?_
    walk_at "rd"
    refine ⟨r, T, "text", _, rfl, R, g, ?_, ?_⟩
    · rintro x l2 e v H1 o R1 rfl
      rw [takeK_text] at e
      cases e
      walk_at "rd"
      refine rd_mk (len_ok rfl) fun tq H2 n2 e2 s2 => ?_
      exact q1 (.wrd y) l' rfl _ _ (o.same s2) (R1.same s2) (.tup (SqT.of e2) (.cons (.str _) (.cons (.str y) .nil)))
    · intro n e
      rw [takeK_text] at e
      cases e
  walk_at "rd"
  refine rd_mthI R noT.1 noT.2 ?_
  walk_at "rd"
  refine ⟨r, T, "number", _, rfl, R, g, ?_, ?_⟩
  · rintro x l2 e v H1 o R1 rfl
    rw [takeK_cons] at e
    by_cases ek : t.kind = "number"
    · rw [if_pos ek] at e
      cases e
      obtain ⟨i, rfl⟩ := kind_num ek
      walk_at "rd"
      refine rd_mk (len_ok rfl) fun tq H2 n2 e2 s2 => ?_
      exact q1 (.num i) l' rfl _ _ (o.same s2) (R1.same s2) (.tup (SqT.of e2) (.cons (.str _) (.cons (.int i) .nil)))
    · rw [if_neg ek] at e
      cases e
  · intro n e d H' o hd
    rw [takeK_cons] at e
    by_cases ek : t.kind = "number"
    · rw [if_pos ek] at e
      cases e
    · rw [if_neg ek] at e
      cases e
      refine q2 a ?_ d H' o hd
      cases t with
      | word y => exact absurd c (by show ¬ (decide (("word" : Str) = "word") = false); decide +kernel)
      | text y => exact absurd c2 (by show ¬ (decide (("text" : Str) = "text") = false); decide +kernel)
      | num i => exact (ek rfl).elim
      | _ => rfl
theorem len5 {n : Nat} (h : n ≤ 900000) : n < sizeLine := Nat.lt_of_le_of_lt h (by decide)
theorem more_eq (n : Nat) (l : List Tok) : readMore (n + 1) l = if sees ")" l = true then mpR (fun _ => []) (takeK ")" l) else bnd (takeK "," l) fun _ l1 => bnd (readTerm l1) fun t l2 => mpR (fun ts => t :: ts) (readMore n l2) := rfl
theorem more_yes {n : Nat} {l : List Tok} (h : sees ")" l = true) : readMore (n + 1) l = mpR (fun _ => []) (takeK ")" l) := by rw [more_eq, if_pos h]
theorem more_no {n : Nat} {l : List Tok} (h : sees ")" l = false) : readMore (n + 1) l = bnd (takeK "," l) fun _ l1 => bnd (readTerm l1) fun t l2 => mpR (fun ts => t :: ts) (readMore n l2) := by rw [more_eq, if_neg (by rw [h]; exact Bool.false_ne_true)]
def tmsV (K : PySem.W.Frag) (ts : List Tm) (v : V) (H : Hp) : Prop := Rp K H v (.tup (ts.map Tm.td))
def spTermsR (K : PySem.W.Frag) (CR CB : Addr) : Sp := fun vs H Q E => ∃ (r T : Addr) (l : List Tok), vs = [.ref r] ∧ Rdr K CR r T l H ∧ Good l ∧ l.length ≤ 900000 ∧ Ans K CR CB r T H (readTerms l) (tmsV K) Q E
/-- the list of what is read at L, so far -/
def AccG {α : Type} (td : α → TD) (K : PySem.W.Frag) (CR r T L : Addr) (l : List Tok) (H H' : Hp) (ts : List α) (l2 : List Tok) : Prop := Only r H H' ∧ Rdr K CR r T l2 H' ∧ Good l2 ∧ ∃ xs, H' L = some (.lst xs) ∧ RpA K H' xs (ts.map td) ∧ xs.length + l2.length ≤ l.length
/-- one more -/
theorem AccG.more {α : Type} {td : α → TD} {K : PySem.W.Frag} {CR r T L : Addr} {l : List Tok} {H H2 : Hp} {ts : List α} {l2 : List Tok} {xs : List V} {v : V} {t : α} (hL : H L = none) (nT : L ≠ T) (a : Only r H H2) (R : Rdr K CR r T l2 H2) (g : Good l2) (e : H2 L = some (.lst xs)) (ra : RpA K H2 xs (ts.map td)) (rv : Rp K H2 v (td t)) (n : xs.length + 1 + l2.length ≤ l.length) :
    AccG td K CR r T L l H (upd H2 L (.lst (xs ++ [v]))) (ts ++ [t]) l2 :=
  ⟨a.own hL, R.put e nT, g, xs ++ [v], upd_same, by rw [List.map_append]; exact RpA.app (rpa_put e ra) (.cons (rp_put e rv) .nil), by rw [List.length_append]; exact n⟩
set_option maxHeartbeats 2000000 in
theorem ok_termsR (T : Tx mg) {CR CB : Addr} (cl : Cls K CR) {f f1 f2 f3 : Addr} {fd d1 d2 d3 : FuncData} (F : Dn K mg "read_terms" sReadTerms ["reader"] f fd)
    (DReaderSees : Dm K CR "sees" "Reader.sees" sReaderSees ["self", "kind"] f1 d1) (GReaderSees : FnOk P w K mg base CX0 1 f1 d1 ["self", "kind"] (spSees K CR))
    (DReaderTake : Dm K CR "take" "Reader.take" sReaderTake ["self", "kind"] f2 d2) (GReaderTake : FnOk P w K mg base (L2.CX P w) 2 f2 d2 ["self", "kind"] (spTakeR K CR CB))
    (DReadTerm : Dn K mg "read_term" sReadTerm ["reader"] f3 d3) (GReadTerm : FnOk P w K mg base (L2.CX P w) 3 f3 d3 ["reader"] (spTermR K CR CB)) :
    FnOk P w K mg base (L2.CX P w) 4 f fd ["reader"] (spTermsR K CR CB) := by
  refine F.F.okX scReadTerms (fun vs H Q E h => ?_) (fun cdv A outer s H vs Q E hr h => ?_)
  · obtain ⟨r, TT, l, rfl, _⟩ := h
    rfl
  obtain ⟨r, TT, l, rfl, R, g, hl, q⟩ := h
  have nd := scReadTerms.nd
  refine ⟨_, (pss_cons (ps_expr (pe_meth (pv 0) cl DReaderTake.mt GReaderTake (hr.mono (by omega)) DReaderTake.b .nil (passes_call (takes_of rfl rfl rfl rfl) (fun _ _ _ _ h => h)) (pa_cons pe_str pa_nil)))
  (pss_cons (ps_set (i := 1) nd rfl (Or.inl rfl) (pe_lst pa_nil))
  (C8.pss_cut (ps_if (pt_not (pt_val (pe_meth (pv 0) cl DReaderSees.mt GReaderSees (hr.mono (by omega)) DReaderSees.b .nil pass0 (pa_cons pe_str pa_nil)))) (pss_one (ps_expr (k_bm K rfl (pe_bm PySem.F.plainAttrs_list PySem.F.slot_list_append PySem.F.type_list_append mt_append (pv 1) (pa_cons (pe_call GReadTerm (hr.mono (by omega)) rfl DReadTerm.m DReadTerm.F.kp DReadTerm.b .nil (passes_call (takes_of rfl rfl rfl rfl) (fun _ _ _ _ h => h)) (pa_cons (pv 0) pa_nil)) pa_nil))))) pss_nil)
  (pss_cons (ps_while (passes_of rfl) (pt_not (pt_val (pe_meth (pv 0) cl DReaderSees.mt GReaderSees (hr.mono (by omega)) DReaderSees.b .nil pass0 (pa_cons pe_str pa_nil)))) (pss_cons (ps_expr (pe_meth (pv 0) cl DReaderTake.mt GReaderTake (hr.mono (by omega)) DReaderTake.b .nil (passes_call (takes_of rfl rfl rfl rfl) (fun _ _ _ _ h => h)) (pa_cons pe_str pa_nil)))
  (pss_one (ps_expr (k_bm K rfl (pe_bm PySem.F.plainAttrs_list PySem.F.slot_list_append PySem.F.type_list_append mt_append (pv 1) (pa_cons (pe_call GReadTerm (hr.mono (by omega)) rfl DReadTerm.m DReadTerm.F.kp DReadTerm.b .nil (passes_call (takes_of rfl rfl rfl rfl) (fun _ _ _ _ h => h)) (pa_cons (pv 0) pa_nil)) pa_nil)))))))
  (pss_cons (ps_expr (pe_meth (pv 0) cl DReaderTake.mt GReaderTake (hr.mono (by omega)) DReaderTake.b .nil (passes_call (takes_of rfl rfl rfl rfl) (fun _ _ _ _ h => h)) (pa_cons pe_str pa_nil)))
  (pss_one (ps_ret (pe_callTy (k_tuple K rfl) rfl T.m_tuple (by decide +kernel) (pa_cons (pv 1) pa_nil))))))))), ?_⟩
  obtain ⟨q1, q2⟩ := q
  walk_at "rd"
  refine rd_mthI R noT.1 noT.2 ?_
  walk_at "rd"
  refine ⟨r, TT, "(", _, rfl, R, g, ?_, fun n e d H' o hd => q2 n (by unfold readTerms; exact bnd_er e) d H' o hd⟩
  rintro x l1 e1 v H1 o1 R1 rfl
  obtain ⟨g1, n1⟩ := fine_K g (by decide +kernel) (by decide +kernel) _ _ e1
  walk_at "rd"
  refine rd_mk (len_ok rfl) fun L H2 nL eL s2 => ?_
  walk_at "rd"
  have o2 := o1.same s2
  have R2 := R1.same s2
  have fL : H L = none := o1.fresh nL
  have nr : L ≠ r := o1.ne_new nL
  have nT : L ≠ TT := fun z => by obtain ⟨ys, h⟩ := R1.isT; rw [z, h] at nL; cases nL
  have er : readTerms l = if sees ")" l1 = true then readMore (l1.length + 1) l1 else bnd (readTerm l1) fun t l2 => mpR (fun ts => t :: ts) (readMore (l2.length + 1) l2) := by unfold readTerms; rw [bnd_ok e1]
  refine ⟨fun σ' H' => ∃ (ts : List Tm) (l2 : List Tok) (n : Nat), σ' = [some (.ref r), some (.ref L)] ∧ AccG Tm.td K CR r TT L l H H' ts l2 ∧ l2.length < n ∧ readTerms l = mpR (fun us => ts ++ us) (readMore n l2), ?_, ?_⟩
  · walk_at "rd"
    refine rd_mthI R2 noS.1 noS.2 ?_
    walk_at "rd"
    refine ⟨r, TT, ")", _, rfl, R2, g1, ?_⟩
    walk_at "rd"
    refine iteB (fun c => ?_) (fun c => ?_)
    · have c' : sees ")" l1 = false := by cases h : sees ")" l1 with | false => rfl | true => rw [h] at c; cases c
      rw [c', if_neg Bool.false_ne_true] at er
      walk_at "rd"
      refine rd_ty (SqL.of eL) ?_
      walk_at "rd"
      refine ⟨r, TT, l1, rfl, R2, g1, ?_, fun n e d H' o hd => q2 n (by rw [er]; exact bnd_er e) d H' (o2.trans o) hd⟩
      rintro t l2 e2 v H3 o3 R3 rv
      obtain ⟨g2, n2⟩ := fine_term g1 _ _ e2
      have eL3 := o3.kp _ _ nr eL
      walk_at "rd"
      refine rd_append eL3 (len5 (by decide)) ?_
      walk_at "rd"
      refine ⟨[t], l2, l2.length + 1, rfl, AccG.more (ts := []) fL nT (o2.trans o3) R3 g2 eL3 .nil rv (by show 0 + 1 + l2.length ≤ l.length; omega), Nat.lt_succ_self _, ?_⟩
      rw [er, bnd_ok e2]
      rfl
    · have c' : sees ")" l1 = true := by cases h : sees ")" l1 with | true => rfl | false => rw [h] at c; cases c
      rw [c', if_pos rfl] at er
      walk_at "rd"
      refine ⟨[], l1, l1.length + 1, rfl, ⟨o2, R2, g1, [], eL, .nil, by show 0 + l1.length ≤ l.length; omega⟩, Nat.lt_succ_self _, ?_⟩
      rw [er]
      exact (mpR_id _).symm
  rintro σ' H3 ⟨ts, l2, n, rfl, A, hn, eq⟩
  walk_at "rd"
  refine ⟨fun m σ' H' => ∃ (ts : List Tm) (l2 : List Tok) (n : Nat), m = l2.length ∧ σ' = [some (.ref r), some (.ref L)] ∧ AccG Tm.td K CR r TT L l H H' ts l2 ∧ l2.length < n ∧ readTerms l = mpR (fun us => ts ++ us) (readMore n l2), ⟨_, ts, l2, n, rfl, rfl, A, hn, eq⟩, ?_⟩
  clear A hn eq
  rintro m σ' H4 ⟨ts, l2, n, rfl, rfl, ⟨o4, R4, g4, xs, eL4, ra, nx⟩, hn, eq⟩
  obtain ⟨n, rfl⟩ : ∃ k, n = k + 1 := ⟨n - 1, by omega⟩
  walk_at "rd"
  refine rd_mthI R4 noS.1 noS.2 ?_
  walk_at "rd"
  refine ⟨r, TT, ")", _, rfl, R4, g4, ?_⟩
  walk_at "rd"
  refine iteB (fun c => ?_) (fun c => ?_)
  · have c' : sees ")" l2 = false := by cases h : sees ")" l2 with | false => rfl | true => rw [h] at c; cases c
    rw [more_no c'] at eq
    refine ⟨fun σ' H' => ∃ m', m' < l2.length ∧ ∃ (ts : List Tm) (l2 : List Tok) (n : Nat), m' = l2.length ∧ σ' = [some (.ref r), some (.ref L)] ∧ AccG Tm.td K CR r TT L l H H' ts l2 ∧ l2.length < n ∧ readTerms l = mpR (fun us => ts ++ us) (readMore n l2), fun _ _ h => h, ?_⟩
    walk_at "rd"
    refine rd_mthI R4 noT.1 noT.2 ?_
    walk_at "rd"
    refine ⟨r, TT, ",", _, rfl, R4, g4, ?_, fun k e d H' o hd => q2 k (by rw [eq]; exact mpR_er (bnd_er e)) d H' (o4.trans o) hd⟩
    rintro y l3 e3 v H5 o5 R5 rfl
    obtain ⟨g5, n5⟩ := fine_K g4 (by decide +kernel) (by decide +kernel) _ _ e3
    rw [bnd_ok e3] at eq
    have eL5 := o5.kp _ _ nr eL4
    walk_at "rd"
    refine rd_ty (SqL.of eL5) ?_
    walk_at "rd"
    refine ⟨r, TT, l3, rfl, R5, g5, ?_, fun k e d H' o hd => q2 k (by rw [eq]; exact mpR_er (bnd_er e)) d H' ((o4.trans o5).trans o) hd⟩
    rintro t l6 e6 v H6 o6 R6 rv
    obtain ⟨g6, n6⟩ := fine_term g5 _ _ e6
    rw [bnd_ok e6] at eq
    have eL6 := o6.kp _ _ nr eL5
    walk_at "rd"
    refine rd_append eL6 (len5 (by omega)) ?_
    walk_at "rd"
    refine ⟨l6.length, by omega, ts ++ [t], l6, n, rfl, rfl, AccG.more fL nT ((o4.trans o5).trans o6) R6 g6 eL6 (o6.rpa (o5.rpa ra)) rv (by omega), by omega, ?_⟩
    rw [eq, mpR_mpR]
    congr 1
    funext us
    rw [List.append_assoc]; rfl
  · have c' : sees ")" l2 = true := by cases h : sees ")" l2 with | true => rfl | false => rw [h] at c; cases c
    rw [more_yes c', mpR_mpR] at eq
    walk_at "rd"
    refine rd_mthI R4 noT.1 noT.2 ?_
    walk_at "rd"
    refine ⟨r, TT, ")", _, rfl, R4, g4, ?_, fun k e d H' o hd => q2 k (by rw [eq]; exact mpR_er e) d H' (o4.trans o) hd⟩
    rintro y l3 e3 v H5 o5 R5 rfl
    rw [mpR_ok e3] at eq
    have eL5 := o5.kp _ _ nr eL4
    walk_at "rd"
    refine rd_tuple (SqL.of eL5) fun tq htq => ?_
    walk_at "rd"
    have s6 : Same H5 (upd H5 tq (.tup xs)) := same_new htq
    rw [List.append_nil] at eq
    exact q1 ts l3 eq _ _ ((o4.trans o5).same s6) (R5.same s6) (.tup (SqT.of upd_same) (same_rpa s6 (o5.rpa ra)))

end
section
variable {P : Program} {w : World} {K : PySem.W.Frag} {mg : Str → Option Value} {base : Heap}
theorem len_more : ∀ (n : Nat) {l : List Tok}, Good l → ∀ ts l', readMore n l = .ok (ts, l') → ts.length + l'.length ≤ l.length
  | 0, l, g => fun x l' h => by cases h
  | n + 1, l, g => fun x l' h => by
    rw [more_eq] at h
    split at h
    · obtain ⟨_, h1, e⟩ := mpR_inv h
      have := (fine_K g (by decide +kernel) (by decide +kernel) _ _ h1).2
      rw [e]; show 0 + l'.length ≤ _; omega
    · obtain ⟨_, l1, h1, h⟩ := bnd_inv h
      obtain ⟨g1, n1⟩ := fine_K g (by decide +kernel) (by decide +kernel) _ _ h1
      obtain ⟨_, l2, h2, h⟩ := bnd_inv h
      obtain ⟨g2, n2⟩ := fine_term g1 _ _ h2
      obtain ⟨_, h3, e⟩ := mpR_inv h
      have := len_more n g2 _ _ h3
      rw [e, List.length_cons]; omega
theorem len_terms {l : List Tok} (g : Good l) {ts : List Tm} {l' : List Tok} (h : readTerms l = .ok (ts, l')) : ts.length ≤ l.length := by
  unfold readTerms at h
  obtain ⟨_, l1, h1, h⟩ := bnd_inv h
  obtain ⟨g1, n1⟩ := fine_K g (by decide +kernel) (by decide +kernel) _ _ h1
  split at h
  · have := len_more _ g1 _ _ h; omega
  · obtain ⟨_, l2, h2, h⟩ := bnd_inv h
    obtain ⟨g2, n2⟩ := fine_term g1 _ _ h2
    obtain ⟨_, h3, e⟩ := mpR_inv h
    have := len_more _ g2 _ _ h3
    rw [e, List.length_cons]; omega
theorem readH_eq (i n : Nat) (l : List Tok) : readH i (n + 1) l = bnd (if 0 < i then mpR (fun _ => ()) (takeK "," l) else .ok ((), l)) fun _ l1 => bnd (readTerm l1) fun t l2 => mpR (fun ts => t :: ts) (readH (i + 1) n l2) := rfl
def spHeadR (K : PySem.W.Frag) (CR CB : Addr) : Sp := fun vs H Q E => ∃ (r T : Addr) (wd : Nat) (l : List Tok), vs = [.ref r, .int wd] ∧ Rdr K CR r T l H ∧ Good l ∧ l.length ≤ 900000 ∧ wd ≤ 900000 ∧ Ans K CR CB r T H (readHead wd l) (tmsV K) Q E
set_option maxHeartbeats 2000000 in
theorem ok_headR (T : Tx mg) {CR CB : Addr} (cl : Cls K CR) {f f1 f2 f3 : Addr} {fd d1 d2 d3 : FuncData} (F : Dn K mg "read_head" sReadHead ["reader", "width"] f fd)
    (DReaderSees : Dm K CR "sees" "Reader.sees" sReaderSees ["self", "kind"] f1 d1) (GReaderSees : FnOk P w K mg base CX0 1 f1 d1 ["self", "kind"] (spSees K CR))
    (DReaderTake : Dm K CR "take" "Reader.take" sReaderTake ["self", "kind"] f2 d2) (GReaderTake : FnOk P w K mg base (L2.CX P w) 2 f2 d2 ["self", "kind"] (spTakeR K CR CB))
    (DReadTerm : Dn K mg "read_term" sReadTerm ["reader"] f3 d3) (GReadTerm : FnOk P w K mg base (L2.CX P w) 3 f3 d3 ["reader"] (spTermR K CR CB)) :
    FnOk P w K mg base (L2.CX P w) 4 f fd ["reader", "width"] (spHeadR K CR CB) := by
  refine F.F.okX scReadHead (fun vs H Q E h => ?_) (fun cdv A outer s H vs Q E hr h => ?_)
  · obtain ⟨r, TT, wd, l, rfl, _⟩ := h
    rfl
  obtain ⟨r, TT, wd, l, rfl, R, g, hl, hw, q⟩ := h
  have nd := scReadHead.nd
  refine ⟨_, (pss_cons (ps_expr (pe_meth (pv 0) cl DReaderTake.mt GReaderTake (hr.mono (by omega)) DReaderTake.b .nil (passes_call (takes_of rfl rfl rfl rfl) (fun _ _ _ _ h => h)) (pa_cons pe_str pa_nil)))
  (pss_cons (ps_set (i := 2) nd rfl (Or.inl rfl) (pe_lst pa_nil))
  (pss_cons (ps_for (passes_of rfl) rfl (pi_range1 rfl T.m_range (pa_cons (pv 1) pa_nil)) (pg_name (i := 3) nd rfl (Or.inl rfl)) (pss_cons (ps_if (pt_cmpR op_gt (pv 3) pe_int (nomark _)) (pss_one (ps_expr (pe_meth (pv 0) cl DReaderTake.mt GReaderTake (hr.mono (by omega)) DReaderTake.b .nil (passes_call (takes_of rfl rfl rfl rfl) (fun _ _ _ _ h => h)) (pa_cons pe_str pa_nil)))) pss_nil)
  (pss_one (ps_expr (k_bm K rfl (pe_bm PySem.F.plainAttrs_list PySem.F.slot_list_append PySem.F.type_list_append mt_append (pv 2) (pa_cons (pe_call GReadTerm (hr.mono (by omega)) rfl DReadTerm.m DReadTerm.F.kp DReadTerm.b .nil (passes_call (takes_of rfl rfl rfl rfl) (fun _ _ _ _ h => h)) (pa_cons (pv 0) pa_nil)) pa_nil)))))))
  (pss_cons (ps_expr (pe_meth (pv 0) cl DReaderTake.mt GReaderTake (hr.mono (by omega)) DReaderTake.b .nil (passes_call (takes_of rfl rfl rfl rfl) (fun _ _ _ _ h => h)) (pa_cons pe_str pa_nil)))
  (pss_one (ps_ret (pe_callTy (k_tuple K rfl) rfl T.m_tuple (by decide +kernel) (pa_cons (pv 2) pa_nil)))))))), ?_⟩
  obtain ⟨q1, q2⟩ := q
  walk_at "rd"
  refine rd_mthI R noT.1 noT.2 ?_
  walk_at "rd"
  refine ⟨r, TT, "(", _, rfl, R, g, ?_, fun n e d H' o hd => q2 n (by unfold readHead; exact bnd_er e) d H' o hd⟩
  rintro x l1 e1 v H1 o1 R1 rfl
  obtain ⟨g1, n1⟩ := fine_K g (by decide +kernel) (by decide +kernel) _ _ e1
  walk_at "rd"
  refine rd_mk (len_ok rfl) fun L H2 nL eL s2 => ?_
  walk_at "rd"
  have fL : H L = none := o1.fresh nL
  have nr : L ≠ r := o1.ne_new nL
  have nT : L ≠ TT := fun z => by obtain ⟨ys, h⟩ := R1.isT; rw [z, h] at nL; cases nL
  have er : readHead wd l = bnd (readH 0 wd l1) fun ts l2 => mpR (fun _ => ts) (takeK ")" l2) := by unfold readHead; rw [bnd_ok e1]
  refine rd_r1 ⟨by omega, by omega⟩ ?_
  rw [show ((wd : Int)).toNat = wd by omega]
  refine for_range (lo := 0) (n := wd) (fun i σ' H' => ∃ (v3 : Option V) (ts : List Tm) (l2 : List Tok), σ' = [some (.ref r), some (.int wd), some (.ref L), v3] ∧ AccG Tm.td K CR r TT L l H H' ts l2 ∧ readHead wd l = bnd (readH i (wd - i) l2) fun us l3 => mpR (fun _ => ts ++ us) (takeK ")" l3)) ⟨none, [], l1, rfl, ⟨o1.same s2, R1.same s2, g1, [], eL, .nil, by show 0 + l1.length ≤ l.length; omega⟩, by rw [er]; rfl⟩ ?_ ?_
  · rintro i σ' H3 hi ⟨v3, ts, l2, rfl, ⟨o3, R3, g3, xs, eL3, ra, nx⟩, eq⟩
    rw [show wd - i = (wd - (i + 1)) + 1 by omega, readH_eq] at eq
    walk_at "rd"
    rw [Int.zero_add]
    refine iteD (fun c => ?_) (fun c => ?_)
    · have c' : 0 < i := by omega
      rw [if_pos c'] at eq
      walk_at "rd"
      refine rd_mthI R3 noT.1 noT.2 ?_
      walk_at "rd"
      refine ⟨r, TT, ",", _, rfl, R3, g3, ?_, fun k e d H' o hd => q2 k (by rw [eq, bnd_er (bnd_er (mpR_er e))]) d H' (o3.trans o) hd⟩
      rintro y l4 e4 v H4 o4 R4 rfl
      obtain ⟨g4, n4⟩ := fine_K g3 (by decide +kernel) (by decide +kernel) _ _ e4
      rw [bnd_ok (mpR_ok e4)] at eq
      have eL4 := o4.kp _ _ nr eL3
      walk_at "rd"
      refine rd_ty (SqL.of eL4) ?_
      walk_at "rd"
      refine ⟨r, TT, l4, rfl, R4, g4, ?_, fun k e d H' o hd => q2 k (by rw [eq, bnd_er (bnd_er e)]) d H' ((o3.trans o4).trans o) hd⟩
      rintro t l6 e6 v H6 o6 R6 rv
      obtain ⟨g6, n6⟩ := fine_term g4 _ _ e6
      rw [bnd_ok e6] at eq
      have eL6 := o6.kp _ _ nr eL4
      walk_at "rd"
      refine rd_append eL6 (len5 (by omega)) ?_
      walk_at "rd"
      refine ⟨_, ts ++ [t], l6, rfl, AccG.more fL nT ((o3.trans o4).trans o6) R6 g6 eL6 (o6.rpa (o4.rpa ra)) rv (by omega), ?_⟩
      rw [eq]
      cases readH (i + 1) (wd - (i + 1)) l6 with
      | error n => rfl
      | ok p => show mpR _ _ = mpR _ _; rw [List.append_assoc]; rfl
    · have c' : ¬ 0 < i := by omega
      rw [if_neg c', bnd_ok rfl] at eq
      walk_at "rd"
      refine rd_ty (SqL.of eL3) ?_
      walk_at "rd"
      refine ⟨r, TT, l2, rfl, R3, g3, ?_, fun k e d H' o hd => q2 k (by rw [eq, bnd_er (bnd_er e)]) d H' (o3.trans o) hd⟩
      rintro t l6 e6 v H6 o6 R6 rv
      obtain ⟨g6, n6⟩ := fine_term g3 _ _ e6
      rw [bnd_ok e6] at eq
      have eL6 := o6.kp _ _ nr eL3
      walk_at "rd"
      refine rd_append eL6 (len5 (by omega)) ?_
      walk_at "rd"
      refine ⟨_, ts ++ [t], l6, rfl, AccG.more fL nT (o3.trans o6) R6 g6 eL6 (o6.rpa ra) rv (by omega), ?_⟩
      rw [eq]
      cases readH (i + 1) (wd - (i + 1)) l6 with
      | error n => rfl
      | ok p => show mpR _ _ = mpR _ _; rw [List.append_assoc]; rfl
  · rintro σ' H4 ⟨v3, ts, l2, rfl, ⟨o4, R4, g4, xs, eL4, ra, nx⟩, eq⟩
    rw [Nat.sub_self, show readH wd 0 l2 = .ok ([], l2) by unfold readH; rfl, bnd_ok rfl] at eq
    walk_at "rd"
    refine rd_mthI R4 noT.1 noT.2 ?_
    walk_at "rd"
    refine ⟨r, TT, ")", _, rfl, R4, g4, ?_, fun k e d H' o hd => q2 k (by rw [eq]; exact mpR_er e) d H' (o4.trans o) hd⟩
    rintro y l3 e3 v H5 o5 R5 rfl
    rw [mpR_ok e3] at eq
    have eL5 := o5.kp _ _ nr eL4
    walk_at "rd"
    refine rd_tuple (SqL.of eL5) fun tq htq => ?_
    walk_at "rd"
    have s6 : Same H5 (upd H5 tq (.tup xs)) := same_new htq
    rw [List.append_nil] at eq
    exact q1 ts l3 eq _ _ ((o4.trans o5).same s6) (R5.same s6) (.tup (SqT.of upd_same) (same_rpa s6 (o5.rpa ra)))
def atV (K : PySem.W.Frag) (a : At) (v : V) (H : Hp) : Prop := Rp K H v a.td
def spAtomR (K : PySem.W.Frag) (CR CB : Addr) : Sp := fun vs H Q E => ∃ (r T : Addr) (l : List Tok), vs = [.ref r] ∧ Rdr K CR r T l H ∧ Good l ∧ l.length ≤ 900000 ∧ Ans K CR CB r T H (readAtom l) (atV K) Q E
set_option maxHeartbeats 1000000 in
theorem ok_atomR (T : Tx mg) {CR CB : Addr} (cl : Cls K CR) {f f1 f2 : Addr} {fd d1 d2 : FuncData} (F : Dn K mg "read_atom" sReadAtom ["reader"] f fd)
    (DReaderTake : Dm K CR "take" "Reader.take" sReaderTake ["self", "kind"] f1 d1) (GReaderTake : FnOk P w K mg base (L2.CX P w) 2 f1 d1 ["self", "kind"] (spTakeR K CR CB))
    (DReadTerms : Dn K mg "read_terms" sReadTerms ["reader"] f2 d2) (GReadTerms : FnOk P w K mg base (L2.CX P w) 4 f2 d2 ["reader"] (spTermsR K CR CB)) :
    FnOk P w K mg base (L2.CX P w) 5 f fd ["reader"] (spAtomR K CR CB) := by
  refine F.F.okX scReadAtom (fun vs H Q E h => ?_) (fun cdv A outer s H vs Q E hr h => ?_)
  · obtain ⟨r, TT, l, rfl, _⟩ := h
    rfl
  obtain ⟨r, TT, l, rfl, R, g, hl, q⟩ := h
  have nd := scReadAtom.nd
  refine ⟨_, (pss_cons (ps_set (i := 1) nd rfl (Or.inl rfl) (pe_meth (pv 0) cl DReaderTake.mt GReaderTake (hr.mono (by omega)) DReaderTake.b .nil (passes_call (takes_of rfl rfl rfl rfl) (fun _ _ _ _ h => h)) (pa_cons pe_str pa_nil)))
  (pss_one (ps_ret (pe_tup (pa_cons (pv 1) (pa_cons (pe_call GReadTerms (hr.mono (by omega)) rfl DReadTerms.m DReadTerms.F.kp DReadTerms.b .nil (passes_call (takes_of rfl rfl rfl rfl) (fun _ _ _ _ h => h)) (pa_cons (pv 0) pa_nil)) pa_nil)))))), ?_⟩
  obtain ⟨q1, q2⟩ := q
  walk_at "rd"
  refine rd_mthI R noT.1 noT.2 ?_
  walk_at "rd"
  refine ⟨r, TT, "word", _, rfl, R, g, ?_, fun n e d H' o hd => q2 n (by unfold readAtom; exact bnd_er e) d H' o hd⟩
  rintro x l1 e1 v H1 o1 R1 rfl
  obtain ⟨g1, n1, kx⟩ := takeK_good e1 g (by decide +kernel) (by decide +kernel)
  obtain ⟨y, rfl⟩ := kind_word x (decide_eq_true kx)
  have er : readAtom l = mpR (fun ts => ⟨y, ts⟩) (readTerms l1) := by unfold readAtom; rw [bnd_ok e1]; rfl
  walk_at "rd"
  refine ⟨r, TT, l1, rfl, R1, g1, by omega, ?_, fun n e d H' o hd => q2 n (by rw [er]; exact mpR_er e) d H' (o1.trans o) hd⟩
  rintro ts l2 e2 v H2 o2 R2 rv
  walk_at "rd"
  refine rd_mk (len_ok rfl) fun tq H3 n3 e3 s3 => ?_
  exact q1 ⟨y, ts⟩ l2 (by rw [er]; exact mpR_ok e2) _ _ ((o1.trans o2).same s3) (R2.same s3) (.tup (SqT.of e3) (.cons (.str y) (.cons (same_rp s3 rv) .nil)))
def atsV (K : PySem.W.Frag) (as : List At) (v : V) (H : Hp) : Prop := Rp K H v (.tup (as.map At.td))
def spRestR (K : PySem.W.Frag) (CR CB : Addr) : Sp := fun vs H Q E => ∃ (r T : Addr) (l : List Tok), vs = [.ref r] ∧ Rdr K CR r T l H ∧ Good l ∧ l.length ≤ 900000 ∧ Ans K CR CB r T H (readRest l) (atsV K) Q E
theorem atoms_yes {n : Nat} {l : List Tok} (h : seesW "and" l = true) : readAtoms (n + 1) l = bnd (takeW "and" l) fun _ l1 => bnd (readAtom l1) fun a l2 => mpR (fun as => a :: as) (readAtoms n l2) := by
  show (if seesW "and" l = true then _ else _) = _
  rw [if_pos h]
theorem atoms_no {n : Nat} {l : List Tok} (h : seesW "and" l = false) : readAtoms (n + 1) l = .ok ([], l) := by
  show (if seesW "and" l = true then _ else _) = _
  rw [if_neg (by rw [h]; exact Bool.false_ne_true)]
theorem seesW_word {z : Str} {l : List Tok} (h : seesW z l = true) (g : Good l) : ∃ y a l', l = (.word y, a) :: l' ∧ Good l' := by
  obtain ⟨t, a, l', rfl⟩ := g.ne
  cases t with
  | word y => exact ⟨y, a, l', rfl, g.rest (show ("word" : Str) ≠ "end" by decide +kernel) (show ("word" : Str) ≠ "wrong" by decide +kernel)⟩
  | _ => cases h
set_option maxHeartbeats 2000000 in
theorem ok_restR (T : Tx mg) {CR CB : Addr} (cl : Cls K CR) {f f1 f2 f3 f4 : Addr} {fd d1 d2 d3 d4 : FuncData} (F : Dn K mg "read_rest" sReadRest ["reader"] f fd)
    (DReaderSeesWord : Dm K CR "sees_word" "Reader.sees_word" sReaderSeesWord ["self", "word"] f1 d1) (GReaderSeesWord : FnOk P w K mg base CX0 2 f1 d1 ["self", "word"] (spSeesW K CR))
    (DReaderSeesBehind : Dm K CR "sees_behind" "Reader.sees_behind" sReaderSeesBehind ["self", "kind"] f2 d2) (GReaderSeesBehind : FnOk P w K mg base CX0 1 f2 d2 ["self", "kind"] (spBehind K CR))
    (DReaderTakeWord : Dm K CR "take_word" "Reader.take_word" sReaderTakeWord ["self", "word"] f3 d3) (GReaderTakeWord : FnOk P w K mg base (L2.CX P w) 3 f3 d3 ["self", "word"] (spTakeW K CR CB))
    (DReadAtom : Dn K mg "read_atom" sReadAtom ["reader"] f4 d4) (GReadAtom : FnOk P w K mg base (L2.CX P w) 5 f4 d4 ["reader"] (spAtomR K CR CB)) :
    FnOk P w K mg base (L2.CX P w) 6 f fd ["reader"] (spRestR K CR CB) := by
  refine F.F.okX scReadRest (fun vs H Q E h => ?_) (fun cdv A outer s H vs Q E hr h => ?_)
  · obtain ⟨r, TT, l, rfl, _⟩ := h
    rfl
  obtain ⟨r, TT, l, rfl, R, g, hl, q⟩ := h
  have nd := scReadRest.nd
  refine ⟨_, (pss_cons (ps_expr (pe_meth (pv 0) cl DReaderTakeWord.mt GReaderTakeWord (hr.mono (by omega)) DReaderTakeWord.b .nil (passes_call (takes_of rfl rfl rfl rfl) (fun _ _ _ _ h => h)) (pa_cons pe_str pa_nil)))
  (C8.pss_cut (ps_if (PW.pt (pw_and (pt_val (pe_meth (pv 0) cl DReaderSeesWord.mt GReaderSeesWord (hr.mono (by omega)) DReaderSeesWord.b .nil pass0 (pa_cons pe_str pa_nil))) (pw_and1 (pt_not (pt_val (pe_meth (pv 0) cl DReaderSeesBehind.mt GReaderSeesBehind (hr.mono (by omega)) DReaderSeesBehind.b .nil pass0 (pa_cons pe_str pa_nil))))))) (pss_cons (ps_expr (pe_meth (pv 0) cl DReaderTakeWord.mt GReaderTakeWord (hr.mono (by omega)) DReaderTakeWord.b .nil (passes_call (takes_of rfl rfl rfl rfl) (fun _ _ _ _ h => h)) (pa_cons pe_str pa_nil)))
  (pss_one (ps_ret (pe_tup pa_nil)))) pss_nil)
  (pss_cons (ps_set (i := 1) nd rfl (Or.inl rfl) (pe_lst (pa_cons (pe_call GReadAtom (hr.mono (by omega)) rfl DReadAtom.m DReadAtom.F.kp DReadAtom.b .nil (passes_call (takes_of rfl rfl rfl rfl) (fun _ _ _ _ h => h)) (pa_cons (pv 0) pa_nil)) pa_nil)))
  (pss_cons (ps_while (passes_of rfl) (pt_val (pe_meth (pv 0) cl DReaderSeesWord.mt GReaderSeesWord (hr.mono (by omega)) DReaderSeesWord.b .nil pass0 (pa_cons pe_str pa_nil))) (pss_cons (ps_expr (pe_meth (pv 0) cl DReaderTakeWord.mt GReaderTakeWord (hr.mono (by omega)) DReaderTakeWord.b .nil (passes_call (takes_of rfl rfl rfl rfl) (fun _ _ _ _ h => h)) (pa_cons pe_str pa_nil)))
  (pss_one (ps_expr (k_bm K rfl (pe_bm PySem.F.plainAttrs_list PySem.F.slot_list_append PySem.F.type_list_append mt_append (pv 1) (pa_cons (pe_call GReadAtom (hr.mono (by omega)) rfl DReadAtom.m DReadAtom.F.kp DReadAtom.b .nil (passes_call (takes_of rfl rfl rfl rfl) (fun _ _ _ _ h => h)) (pa_cons (pv 0) pa_nil)) pa_nil)))))))
  (pss_one (ps_ret (pe_callTy (k_tuple K rfl) rfl T.m_tuple (by decide +kernel) (pa_cons (pv 1) pa_nil)))))))), ?_⟩
  obtain ⟨q1, q2⟩ := q
  walk_at "rd"
  refine rd_mthI R noTW.1 noTW.2 ?_
  walk_at "rd"
  refine ⟨r, TT, "if", _, rfl, R, g, ?_, fun n e d H' o hd => q2 n (by unfold readRest; exact bnd_er e) d H' o hd⟩
  rintro x l1 e1 v H1 o1 R1 rfl
  obtain ⟨g1, n1⟩ := fine_W g _ _ e1
  have er : readRest l = if (seesW "true" l1 && !behind "(" l1) = true then mpR (fun _ => []) (takeW "true" l1) else bnd (readAtom l1) fun a l2 => mpR (fun as => a :: as) (readAtoms (l2.length + 1) l2) := by unfold readRest; rw [bnd_ok e1]
  walk_at "rd"
  refine ⟨fun σ' H' => σ' = [some (.ref r), none] ∧ H' = H1 ∧ (seesW "true" l1 && !behind "(" l1) = false, ?_, ?_⟩
  · walk_at "rd"
    refine rd_mthI R1 noW.1 noW.2 ?_
    walk_at "rd"
    refine ⟨r, TT, "true", _, rfl, R1, g1, ?_⟩
    walk_at "rd"
    refine iteB (fun c => ?_) (fun c => ?_)
    · obtain ⟨y, a, l1', rfl, g1'⟩ := seesW_word c g1
      walk_at "rd"
      refine rd_mthI R1 noB.1 noB.2 ?_
      walk_at "rd"
      refine ⟨r, TT, "(", _, l1', rfl, R1, g1', ?_⟩
      walk_at "rd"
      refine iteB (fun c2 => ?_) (fun c2 => ?_)
      · have eb : (seesW "true" ((Tk.word y, a) :: l1') && !behind "(" ((Tk.word y, a) :: l1')) = true := by rw [c]; exact c2
        rw [eb, if_pos rfl] at er
        walk_at "rd"
        refine rd_mthI R1 noTW.1 noTW.2 ?_
        walk_at "rd"
        refine ⟨r, TT, "true", _, rfl, R1, g1, ?_, fun n e d H' o hd => q2 n (by rw [er]; exact mpR_er e) d H' (o1.trans o) hd⟩
        rintro x l2 e2 v H2 o2 R2 rfl
        walk_at "rd"
        refine rd_mk (len_ok rfl) fun tq H3 n3 e3 s3 => ?_
        exact q1 [] l2 (by rw [er]; exact mpR_ok e2) _ _ ((o1.trans o2).same s3) (R2.same s3) (.tup (SqT.of e3) .nil)
      · walk_at "rd"
        exact ⟨rfl, rfl, by rw [c]; exact c2⟩
    · walk_at "rd"
      exact ⟨rfl, rfl, by rw [c]; rfl⟩
  rintro σ' H' ⟨rfl, rfl, cf⟩
  rw [cf, if_neg Bool.false_ne_true] at er
  walk_at "rd"
  refine ⟨r, TT, l1, rfl, R1, g1, by omega, ?_, fun n e d H' o hd => q2 n (by rw [er]; exact bnd_er e) d H' (o1.trans o) hd⟩
  rintro a l2 e2 v H2 o2 R2 rv
  obtain ⟨g2, n2⟩ := fine_atom g1 _ _ e2
  rw [bnd_ok e2] at er
  walk_at "rd"
  refine rd_mk (len_ok rfl) fun L H3 nL eL s3 => ?_
  walk_at "rd"
  have o12 := o1.trans o2
  have fL : H L = none := o12.fresh nL
  have nr : L ≠ r := o12.ne_new nL
  have nT : L ≠ TT := fun z => by obtain ⟨ys, h⟩ := R2.isT; rw [z, h] at nL; cases nL
  refine ⟨fun m σ' H' => ∃ (as : List At) (l2 : List Tok) (n : Nat), m = l2.length ∧ σ' = [some (.ref r), some (.ref L)] ∧ AccG At.td K CR r TT L l H H' as l2 ∧ l2.length < n ∧ readRest l = mpR (fun us => as ++ us) (readAtoms n l2), ⟨_, [a], l2, _, rfl, rfl, ⟨o12.same s3, R2.same s3, g2, [v], eL, .cons (same_rp s3 rv) .nil, by show 1 + l2.length ≤ l.length; omega⟩, Nat.lt_succ_self _, er⟩, ?_⟩
  clear er e2
  rintro m σ' H4 ⟨as, l2, n, rfl, rfl, ⟨o4, R4, g4, xs, eL4, ra, nx⟩, hn, eq⟩
  obtain ⟨n, rfl⟩ : ∃ k, n = k + 1 := ⟨n - 1, by omega⟩
  walk_at "rd"
  refine rd_mthI R4 noW.1 noW.2 ?_
  walk_at "rd"
  refine ⟨r, TT, "and", _, rfl, R4, g4, ?_⟩
  walk_at "rd"
  refine iteB (fun c => ?_) (fun c => ?_)
  · rw [atoms_yes c] at eq
    refine ⟨fun σ' H' => ∃ m', m' < l2.length ∧ ∃ (as : List At) (l2 : List Tok) (n : Nat), m' = l2.length ∧ σ' = [some (.ref r), some (.ref L)] ∧ AccG At.td K CR r TT L l H H' as l2 ∧ l2.length < n ∧ readRest l = mpR (fun us => as ++ us) (readAtoms n l2), fun _ _ h => h, ?_⟩
    walk_at "rd"
    refine rd_mthI R4 noTW.1 noTW.2 ?_
    walk_at "rd"
    refine ⟨r, TT, "and", _, rfl, R4, g4, ?_, fun k e d H' o hd => q2 k (by rw [eq]; exact mpR_er (bnd_er e)) d H' (o4.trans o) hd⟩
    rintro y l3 e3 v H5 o5 R5 rfl
    obtain ⟨g5, n5⟩ := fine_W g4 _ _ e3
    rw [bnd_ok e3] at eq
    have eL5 := o5.kp _ _ nr eL4
    walk_at "rd"
    refine rd_ty (SqL.of eL5) ?_
    walk_at "rd"
    refine ⟨r, TT, l3, rfl, R5, g5, by omega, ?_, fun k e d H' o hd => q2 k (by rw [eq]; exact mpR_er (bnd_er e)) d H' ((o4.trans o5).trans o) hd⟩
    rintro t l6 e6 v H6 o6 R6 rv
    obtain ⟨g6, n6⟩ := fine_atom g5 _ _ e6
    rw [bnd_ok e6] at eq
    have eL6 := o6.kp _ _ nr eL5
    walk_at "rd"
    refine rd_append eL6 (len5 (by omega)) ?_
    walk_at "rd"
    refine ⟨l6.length, by omega, as ++ [t], l6, n, rfl, rfl, AccG.more fL nT ((o4.trans o5).trans o6) R6 g6 eL6 (o6.rpa (o5.rpa ra)) rv (by omega), by omega, ?_⟩
    rw [eq, mpR_mpR]
    congr 1
    funext us
    rw [List.append_assoc]; rfl
  · rw [atoms_no c] at eq
    walk_at "rd"
    refine rd_tuple (SqL.of eL4) fun tq htq => ?_
    walk_at "rd"
    have s6 : Same H4 (upd H4 tq (.tup xs)) := same_new htq
    exact q1 as l2 (by rw [eq]; show Except.ok (as ++ [], l2) = _; rw [List.append_nil]) _ _ (o4.same s6) (R4.same s6) (.tup (SqT.of upd_same) (same_rpa s6 ra))

end
section
variable {P : Program} {w : World} {K : PySem.W.Frag} {mg : Str → Option Value} {base : Heap}
def qV (K : PySem.W.Frag) (q : Int × List Jn) (v : V) (H : Hp) : Prop := Rp K H v (questD q.1 q.2)
def spJoinsR (K : PySem.W.Frag) (CR CB : Addr) : Sp := fun vs H Q E => ∃ (r T : Addr) (l : List Tok), vs = [.ref r] ∧ Rdr K CR r T l H ∧ Good l ∧ l.length ≤ 900000 ∧ Ans K CR CB r T H (readJoins l) (qV K) Q E
theorem js_yes {w n : Nat} {l : List Tok} (h : sees ";" l = true) : readJs w (n + 1) l = bnd (takeK ";" l) fun _ l1 => bnd (readHead w l1) fun hd l2 => bnd (readRest l2) fun bd l3 => mpR (fun js => ⟨hd, bd⟩ :: js) (readJs w n l3) := by
  show (if sees ";" l = true then _ else _) = _
  rw [if_pos h]
theorem js_no {w n : Nat} {l : List Tok} (h : sees ";" l = false) : readJs w (n + 1) l = .ok ([], l) := by
  show (if sees ";" l = true then _ else _) = _
  rw [if_neg (by rw [h]; exact Bool.false_ne_true)]
set_option maxHeartbeats 2000000 in
theorem ok_joinsR (T : Tx mg) {CR CB : Addr} (cl : Cls K CR) {f f1 f2 f3 f4 f5 : Addr} {fd d1 d2 d3 d4 d5 : FuncData} (F : Dn K mg "read_joins" sReadJoins ["reader"] f fd)
    (DReaderSees : Dm K CR "sees" "Reader.sees" sReaderSees ["self", "kind"] f1 d1) (GReaderSees : FnOk P w K mg base CX0 1 f1 d1 ["self", "kind"] (spSees K CR))
    (DReaderTake : Dm K CR "take" "Reader.take" sReaderTake ["self", "kind"] f2 d2) (GReaderTake : FnOk P w K mg base (L2.CX P w) 2 f2 d2 ["self", "kind"] (spTakeR K CR CB))
    (DReadTerms : Dn K mg "read_terms" sReadTerms ["reader"] f3 d3) (GReadTerms : FnOk P w K mg base (L2.CX P w) 4 f3 d3 ["reader"] (spTermsR K CR CB))
    (DReadRest : Dn K mg "read_rest" sReadRest ["reader"] f4 d4) (GReadRest : FnOk P w K mg base (L2.CX P w) 6 f4 d4 ["reader"] (spRestR K CR CB))
    (DReadHead : Dn K mg "read_head" sReadHead ["reader", "width"] f5 d5) (GReadHead : FnOk P w K mg base (L2.CX P w) 4 f5 d5 ["reader", "width"] (spHeadR K CR CB)) :
    FnOk P w K mg base (L2.CX P w) 7 f fd ["reader"] (spJoinsR K CR CB) := by
  refine F.F.okX scReadJoins (fun vs H Q E h => ?_) (fun cdv A outer s H vs Q E hr h => ?_)
  · obtain ⟨r, TT, l, rfl, _⟩ := h
    rfl
  obtain ⟨r, TT, l, rfl, R, g, hl, q⟩ := h
  have nd := scReadJoins.nd
  refine ⟨_, (pss_cons (ps_set (i := 1) nd rfl (Or.inl rfl) (pe_call GReadTerms (hr.mono (by omega)) rfl DReadTerms.m DReadTerms.F.kp DReadTerms.b .nil (passes_call (takes_of rfl rfl rfl rfl) (fun _ _ _ _ h => h)) (pa_cons (pv 0) pa_nil)))
  (pss_cons (ps_set (i := 2) nd rfl (Or.inl rfl) (pe_lst (pa_cons (pe_tup (pa_cons (pv 1) (pa_cons (pe_call GReadRest (hr.mono (by omega)) rfl DReadRest.m DReadRest.F.kp DReadRest.b .nil (passes_call (takes_of rfl rfl rfl rfl) (fun _ _ _ _ h => h)) (pa_cons (pv 0) pa_nil)) pa_nil))) pa_nil)))
  (pss_cons (ps_while (passes_of rfl) (pt_val (pe_meth (pv 0) cl DReaderSees.mt GReaderSees (hr.mono (by omega)) DReaderSees.b .nil pass0 (pa_cons pe_str pa_nil))) (pss_cons (ps_expr (pe_meth (pv 0) cl DReaderTake.mt GReaderTake (hr.mono (by omega)) DReaderTake.b .nil (passes_call (takes_of rfl rfl rfl rfl) (fun _ _ _ _ h => h)) (pa_cons pe_str pa_nil)))
  (pss_cons (ps_set (i := 3) nd rfl (Or.inl rfl) (pe_call GReadHead (hr.mono (by omega)) rfl DReadHead.m DReadHead.F.kp DReadHead.b .nil (passes_call (takes_of rfl rfl rfl rfl) (fun _ _ _ _ h => h)) (pa_cons (pv 0) (pa_cons (pe_callB (k_len K rfl) rfl T.m_len PySem.boot_len (pa_cons (pv 1) pa_nil)) pa_nil))))
  (pss_one (ps_expr (k_bm K rfl (pe_bm PySem.F.plainAttrs_list PySem.F.slot_list_append PySem.F.type_list_append mt_append (pv 2) (pa_cons (pe_tup (pa_cons (pv 3) (pa_cons (pe_call GReadRest (hr.mono (by omega)) rfl DReadRest.m DReadRest.F.kp DReadRest.b .nil (passes_call (takes_of rfl rfl rfl rfl) (fun _ _ _ _ h => h)) (pa_cons (pv 0) pa_nil)) pa_nil))) pa_nil))))))))
  (pss_one (ps_ret (pe_tup (pa_cons (pe_callB (k_len K rfl) rfl T.m_len PySem.boot_len (pa_cons (pv 1) pa_nil)) (pa_cons (pe_callTy (k_tuple K rfl) rfl T.m_tuple (by decide +kernel) (pa_cons (pv 2) pa_nil)) pa_nil)))))))), ?_⟩
  obtain ⟨q1, q2⟩ := q
  walk_at "rd"
  refine ⟨r, TT, l, rfl, R, g, hl, ?_, fun n e d H' o hd => q2 n (by unfold readJoins; exact bnd_er e) d H' o hd⟩
  rintro hd l1 e1 v1 H1 o1 R1 rv1
  obtain ⟨g1, n1⟩ := fine_terms g _ _ e1
  have lhd := len_terms g e1
  have er : readJoins l = bnd (readRest l1) fun bd l2 => mpR (fun js => (((hd.length : Nat) : Int), ⟨hd, bd⟩ :: js)) (readJs hd.length (l2.length + 1) l2) := by unfold readJoins; rw [bnd_ok e1]
  walk_at "rd"
  refine ⟨r, TT, l1, rfl, R1, g1, by omega, ?_, fun n e d H' o hd => q2 n (by rw [er]; exact bnd_er e) d H' (o1.trans o) hd⟩
  rintro bd l2 e2 v2 H2 o2 R2 rv2
  obtain ⟨g2, n2⟩ := fine_rest g1 _ _ e2
  rw [bnd_ok e2] at er
  walk_at "rd"
  refine rd_mk (len_ok rfl) fun tq H3 n3 e3 s3 => ?_
  walk_at "rd"
  refine rd_mk (len_ok rfl) fun L H4 nL eL s4 => ?_
  walk_at "rd"
  have o12 := o1.trans o2
  have o13 := o12.same s3
  have fL : H L = none := o13.fresh nL
  have nr : L ≠ r := o13.ne_new nL
  have nT : L ≠ TT := fun z => by obtain ⟨ys, h⟩ := R2.isT; rw [z, s3 _ _ h] at nL; cases nL
  have s34 := s3.trans s4
  have rj : Rp K H4 (.ref tq) (Jn.td ⟨hd, bd⟩) := .tup (same_sqt s4 (SqT.of e3)) (.cons (same_rp s34 (o2.rp rv1)) (.cons (same_rp s34 rv2) .nil))
  refine ⟨fun m σ' H' => ∃ (v3 : Option V) (js : List Jn) (l2 : List Tok) (n : Nat), m = l2.length ∧ σ' = [some (.ref r), some v1, some (.ref L), v3] ∧ AccG Jn.td K CR r TT L l H H' js l2 ∧ Rp K H' v1 (.tup (hd.map Tm.td)) ∧ l2.length < n ∧ readJoins l = mpR (fun us => (((hd.length : Nat) : Int), js ++ us)) (readJs hd.length n l2), ⟨_, none, [⟨hd, bd⟩], l2, _, rfl, rfl, ⟨o12.same s34, R2.same s34, g2, [.ref tq], eL, .cons rj .nil, by show 1 + l2.length ≤ l.length; omega⟩, same_rp s34 (o2.rp rv1), Nat.lt_succ_self _, er⟩, ?_⟩
  clear er e2 rj eL
  rintro m σ' H5 ⟨v3, js, l2, n, rfl, rfl, ⟨o5, R5, g5, xs, eL5, ra, nx⟩, rv5, hn, eq⟩
  obtain ⟨n, rfl⟩ : ∃ k, n = k + 1 := ⟨n - 1, by omega⟩
  walk_at "rd"
  refine rd_mthI R5 noS.1 noS.2 ?_
  walk_at "rd"
  refine ⟨r, TT, ";", _, rfl, R5, g5, ?_⟩
  walk_at "rd"
  refine iteB (fun c => ?_) (fun c => ?_)
  · rw [js_yes c] at eq
    refine ⟨fun σ' H' => ∃ m', m' < l2.length ∧ ∃ (v3 : Option V) (js : List Jn) (l2 : List Tok) (n : Nat), m' = l2.length ∧ σ' = [some (.ref r), some v1, some (.ref L), v3] ∧ AccG Jn.td K CR r TT L l H H' js l2 ∧ Rp K H' v1 (.tup (hd.map Tm.td)) ∧ l2.length < n ∧ readJoins l = mpR (fun us => (((hd.length : Nat) : Int), js ++ us)) (readJs hd.length n l2), fun _ _ h => h, ?_⟩
    walk_at "rd"
    refine rd_mthI R5 noT.1 noT.2 ?_
    walk_at "rd"
    refine ⟨r, TT, ";", _, rfl, R5, g5, ?_, fun k e d H' o hd => q2 k (by rw [eq]; exact mpR_er (bnd_er e)) d H' (o5.trans o) hd⟩
    rintro y l6 e6 v H6 o6 R6 rfl
    obtain ⟨g6, n6⟩ := fine_K g5 (by decide +kernel) (by decide +kernel) _ _ e6
    rw [bnd_ok e6] at eq
    have eL6 := o6.kp _ _ nr eL5
    have rv6 := o6.rp rv5
    obtain ⟨a1, ys, rfl, sq1, ry⟩ := rv6.seq
    have ly : ys.length = hd.length := by rw [ry.length, List.length_map]
    walk_at "rd"
    refine rd_lenT sq1 ?_
    rw [ly]
    walk_at "rd"
    refine ⟨r, TT, hd.length, l6, rfl, R6, g6, by omega, by omega, ?_, fun k e d H' o hd => q2 k (by rw [eq]; exact mpR_er (bnd_er e)) d H' ((o5.trans o6).trans o) hd⟩
    rintro hd2 l7 e7 v7 H7 o7 R7 rv7
    obtain ⟨g7, n7⟩ := fine_head g6 _ _ e7
    rw [bnd_ok e7] at eq
    have eL7 := o7.kp _ _ nr eL6
    walk_at "rd"
    refine rd_ty (SqL.of eL7) ?_
    walk_at "rd"
    have o57 := (o5.trans o6).trans o7
    refine ⟨r, TT, l7, rfl, R7, g7, by omega, ?_, fun k e d H' o hd => q2 k (by rw [eq]; exact mpR_er (bnd_er e)) d H' (o57.trans o) hd⟩
    rintro bd2 l8 e8 v8 H8 o8 R8 rv8
    obtain ⟨g8, n8⟩ := fine_rest g7 _ _ e8
    rw [bnd_ok e8] at eq
    have eL8 := o8.kp _ _ nr eL7
    walk_at "rd"
    refine rd_mk (len_ok rfl) fun tq2 H9 n9 e9 s9 => ?_
    walk_at "rd"
    have eL9 := s9 _ _ eL8
    refine rd_append eL9 (len5 (by omega)) ?_
    walk_at "rd"
    have rj2 : Rp K H9 (.ref tq2) (Jn.td ⟨hd2, bd2⟩) := .tup (SqT.of e9) (.cons (same_rp s9 (o8.rp rv7)) (.cons (same_rp s9 rv8) .nil))
    refine ⟨l8.length, by omega, _, js ++ [⟨hd2, bd2⟩], l8, n, rfl, rfl, AccG.more fL nT ((o57.trans o8).same s9) (R8.same s9) g8 eL9 (same_rpa s9 (o8.rpa (o7.rpa (o6.rpa ra)))) rj2 (by omega), rp_put eL9 (same_rp s9 (o8.rp (o7.rp rv6))), by omega, ?_⟩
    rw [eq, mpR_mpR]
    congr 1
    funext us
    rw [List.append_assoc]; rfl
  · rw [js_no c] at eq
    obtain ⟨a1, ys, rfl, sq1, ry⟩ := rv5.seq
    have ly : ys.length = hd.length := by rw [ry.length, List.length_map]
    walk_at "rd"
    refine rd_lenT sq1 ?_
    rw [ly]
    walk_at "rd"
    refine rd_tuple (SqL.of eL5) fun tp htp => ?_
    walk_at "rd"
    have s6 : Same H5 (upd H5 tp (.tup xs)) := same_new htp
    refine rd_mk (len_ok rfl) fun tq2 H7 n7 e7 s7 => ?_
    have s67 := s6.trans s7
    exact q1 (((hd.length : Nat) : Int), js) l2 (by rw [eq]; show Except.ok ((_, js ++ []), l2) = _; rw [List.append_nil]) _ _ (o5.same s67) (R5.same s67) (.tup (SqT.of e7) (.cons (.int _) (.cons (.tup (same_sqt s7 (SqT.of upd_same)) (same_rpa s67 ra)) .nil)))
def spNoneR (K : PySem.W.Frag) (CR CB : Addr) : Sp := fun vs H Q E => ∃ (r T : Addr) (l : List Tok), vs = [.ref r] ∧ Rdr K CR r T l H ∧ Good l ∧ Ans K CR CB r T H (readNone l) (qV K) Q E
set_option maxHeartbeats 1000000 in
theorem ok_noneR (T : Tx mg) {CR CB : Addr} (cl : Cls K CR) {f f1 f2 f3 f4 f5 : Addr} {fd d1 d2 d3 d4 d5 : FuncData} (F : Dn K mg "read_none" sReadNone ["reader"] f fd)
    (DReaderTakeWord : Dm K CR "take_word" "Reader.take_word" sReaderTakeWord ["self", "word"] f1 d1) (GReaderTakeWord : FnOk P w K mg base (L2.CX P w) 3 f1 d1 ["self", "word"] (spTakeW K CR CB))
    (DReaderSees : Dm K CR "sees" "Reader.sees" sReaderSees ["self", "kind"] f2 d2) (GReaderSees : FnOk P w K mg base CX0 1 f2 d2 ["self", "kind"] (spSees K CR))
    (DReaderHeld : Dm K CR "held" "Reader.held" sReaderHeld ["self"] f3 d3) (GReaderHeld : FnOk P w K mg base CX0 1 f3 d3 ["self"] (spHeld K CR))
    (DReaderRefuse : Dm K CR "refuse" "Reader.refuse" sReaderRefuse ["self"] f4 d4) (GReaderRefuse : FnOk P w K mg base (L2.CX P w) 1 f4 d4 ["self"] (spRefuse K CR CB))
    (DReaderTake : Dm K CR "take" "Reader.take" sReaderTake ["self", "kind"] f5 d5) (GReaderTake : FnOk P w K mg base (L2.CX P w) 2 f5 d5 ["self", "kind"] (spTakeR K CR CB)) :
    FnOk P w K mg base (L2.CX P w) 4 f fd ["reader"] (spNoneR K CR CB) := by
  refine F.F.okX scReadNone (fun vs H Q E h => ?_) (fun cdv A outer s H vs Q E hr h => ?_)
  · obtain ⟨r, TT, l, rfl, _⟩ := h
    rfl
  obtain ⟨r, TT, l, rfl, R, g, q⟩ := h
  have nd := scReadNone.nd
  refine ⟨_, (pss_cons (ps_expr (pe_meth (pv 0) cl DReaderTakeWord.mt GReaderTakeWord (hr.mono (by omega)) DReaderTakeWord.b .nil (passes_call (takes_of rfl rfl rfl rfl) (fun _ _ _ _ h => h)) (pa_cons pe_str pa_nil)))
  (C8.pss_cut (ps_if (PW.pt (pw_and (pt_val (pe_meth (pv 0) cl DReaderSees.mt GReaderSees (hr.mono (by omega)) DReaderSees.b .nil pass0 (pa_cons pe_str pa_nil))) (pw_and1 (pt_cmpR op_lt (pe_meth0 (pv 0) cl DReaderHeld.mt GReaderHeld (hr.mono (by omega)) DReaderHeld.b .nil pass0) pe_int (nomark _))))) (pss_one (ps_expr (pe_meth0 (pv 0) cl DReaderRefuse.mt GReaderRefuse (hr.mono (by omega)) DReaderRefuse.b .nil (passes_call (takes_of rfl rfl rfl rfl) (fun _ _ _ _ h => h))))) pss_nil)
  (pss_one (ps_ret (pe_tup (pa_cons (pe_meth (pv 0) cl DReaderTake.mt GReaderTake (hr.mono (by omega)) DReaderTake.b .nil (passes_call (takes_of rfl rfl rfl rfl) (fun _ _ _ _ h => h)) (pa_cons pe_str pa_nil)) (pa_cons (pe_tup pa_nil) pa_nil))))))), ?_⟩
  obtain ⟨q1, q2⟩ := q
  walk_at "rd"
  refine rd_mthI R noTW.1 noTW.2 ?_
  walk_at "rd"
  refine ⟨r, TT, "none", _, rfl, R, g, ?_, fun n e d H' o hd => q2 n (by unfold readNone; exact bnd_er e) d H' o hd⟩
  rintro x l1 e1 v H1 o1 R1 rfl
  obtain ⟨g1, n1⟩ := fine_W g _ _ e1
  have er : readNone l = afterNone l1 (negNext l1) := by unfold readNone; rw [bnd_ok e1]
  obtain ⟨t, a, l2, rfl⟩ := g1.ne
  walk_at "rd"
  refine ⟨fun σ' H' => σ' = [some (.ref r)] ∧ H' = H1 ∧ negNext ((t, a) :: l2) = none, ?_, ?_⟩
  · walk_at "rd"
    refine rd_mthI R1 noS.1 noS.2 ?_
    walk_at "rd"
    refine ⟨r, TT, "number", _, rfl, R1, g1, ?_⟩
    walk_at "rd"
    refine iteB (fun c => ?_) (fun c => ?_)
    · obtain ⟨i, rfl⟩ := kind_num (of_decide_eq_true (show decide (t.kind = "number") = true from c))
      walk_at "rd"
      refine rd_mthI R1 noH.1 noH.2 ?_
      walk_at "rd"
      refine ⟨r, TT, _, _, rfl, R1, ?_⟩
      walk_at "rd"
      refine rd_i0 (i := i) (j := 0) ?_
      walk_at "rd"
      refine iteD (fun c2 => ?_) (fun c2 => ?_)
      · walk_at "rd"
        refine rd_mthI R1 noR.1 noR.2 ?_
        walk_at "rd"
        refine ⟨r, TT, _, _, rfl, R1, fun d H' s hd => q2 a ?_ d H' (o1.same s) hd⟩
        rw [er]
        rw [show negNext ((Tk.num i, a) :: l2) = if i < 0 then some a else none from rfl, if_pos c2]
        rfl
      · walk_at "rd"
        refine ⟨rfl, rfl, ?_⟩
        show (if i < 0 then some a else none) = none
        rw [if_neg c2]
    · walk_at "rd"
      refine ⟨rfl, rfl, ?_⟩
      cases t with
      | num i => exact absurd c (by show ¬ (decide (("number" : Str) = "number") = false); decide +kernel)
      | _ => rfl
  rintro σ' H' ⟨rfl, rfl, en⟩
  rw [en] at er
  have er : readNone l = mpR (fun t => (numOf t, [])) (takeK "number" ((t, a) :: l2)) := er
  walk_at "rd"
  refine rd_mthI R1 noT.1 noT.2 ?_
  walk_at "rd"
  refine ⟨r, TT, "number", _, rfl, R1, g1, ?_, fun n e d H' o hd => q2 n (by rw [er]; exact mpR_er e) d H' (o1.trans o) hd⟩
  rintro t2 l3 e3 v H2 o2 R2 rfl
  obtain ⟨g3, n3, k3⟩ := takeK_good e3 g1 (by decide +kernel) (by decide +kernel)
  obtain ⟨i, rfl⟩ := kind_num k3
  walk_at "rd"
  refine rd_mk (len_ok rfl) fun t5 H5 n5 e5 s5 => ?_
  walk_at "rd"
  refine rd_mk (len_ok rfl) fun t6 H6 n6 e6 s6 => ?_
  exact q1 (i, []) l3 (by rw [er]; exact mpR_ok e3) _ _ ((o1.trans o2).same (s5.trans s6)) (R2.same (s5.trans s6)) (.tup (SqT.of e6) (.cons (.int i) (.cons (.tup (same_sqt s6 (SqT.of e5)) .nil) .nil)))

end
section
variable {P : Program} {w : World} {K : PySem.W.Frag} {mg : Str → Option Value} {base : Heap}
/-! the tokens of a text -/
theorem atI_nat' {α : Type} {xs : List α} {k : Nat} {x : α} (h : xs[k]? = some x) : atI xs (k : Int) = some x := atI_nat h
/-- int of a text -/
def rIntS : List V → Hp → VK → Prop := fun xs H Q => ∃ a n, xs = [.str a] ∧ PySem.intText? a = some n ∧ a.length ≤ 640 ∧ Q (.int n) H
theorem c_intS {X : Cx} : CallR X (.type "int") rIntS := call_int_str
theorem big_ok {n : Nat} (h : n ≤ 800000) : n ≤ sizeLine := Nat.le_trans h (by decide)
def spEndRun : Sp := fun vs H Q _ => ∃ (z S : Str) (p : Nat), vs = [.str z, .int p, .str S] ∧ z.length ≤ 800000 ∧ p ≤ z.length ∧ Q (.int (endOf (sg S) (sg z) p : Nat)) H
theorem ok_endRun (T : Tx mg)  {f : Addr} {fd : FuncData} (F : Dn K mg "end_of_run" sEndOfRun ["text", "at", "characters"] f fd) :
    FnOk P w K mg base CX0 1 f fd ["text", "at", "characters"] spEndRun := by
  refine F.F.ok scEndOfRun (fun vs H Q E h => ?_) (fun cdv A outer s H vs Q E hr h => ?_)
  · obtain ⟨z, S, p, rfl, _⟩ := h
    rfl
  obtain ⟨z, S, p, rfl, hz, hp, q⟩ := h
  have nd := scEndOfRun.nd
  refine ⟨_, (pss_cons (ps_while PassesOwn.never (PW.pt (pw_and (pt_cmpR op_lt (pv 1) (pe_callB c_lenX rfl T.m_len PySem.boot_len (pa_cons (pv 0) pa_nil)) (nomark _)) (pw_and1 (pt_cmpR op_inS (pe_ix ix_str (pv 0) (pv 1) (fun _ _ => rfl)) (pv 2) rfl)))) (pss_one (ps_aug (i := 1) nd rfl (Or.inl rfl) pe_int ip_add)))
  (pss_one (ps_ret (pv 1)))), ?_⟩
  walk_at "rd"
  refine ⟨fun m σ' H' => ∃ k : Nat, m = z.length - k ∧ σ' = [some (.str z), some (.int k), some (.str S)] ∧ H' = H ∧ k ≤ z.length ∧ endOf (sg S) (sg z) k = endOf (sg S) (sg z) p, ⟨_, p, rfl, rfl, rfl, hp, rfl⟩, ?_⟩
  rintro m σ' H' ⟨k, rfl, rfl, rfl, hk, ek⟩
  walk_at "rd"
  refine rd_lenX (big_ok hz) ?_
  walk_at "rd"
  refine iteD (fun c => ?_) (fun c => ?_)
  · have hk' : k < (sg z).length := by rw [sg_len]; omega
    have ge := List.getElem?_eq_getElem hk'
    walk_at "rd"
    refine rd_ixS (big_ok hz) (atI_nat' ge) ?_
    walk_at "rd"
    refine rd_inX ?_
    walk_at "rd"
    refine iteD (fun c2 => ?_) (fun c2 => ?_)
    · refine ⟨fun σ' H' => ∃ m', m' < z.length - k ∧ ∃ k : Nat, m' = z.length - k ∧ σ' = [some (.str z), some (.int k), some (.str S)] ∧ H' = _ ∧ k ≤ z.length ∧ endOf (sg S) (sg z) k = endOf (sg S) (sg z) p, fun _ _ h => h, ?_⟩
      refine ⟨_, rfl, ?_⟩
      walk_at "rd"
      refine ⟨_, _, rfl, rfl, ?_⟩
      refine ⟨z.length - (k + 1), by omega, k + 1, rfl, ?_, rfl, by omega, ?_⟩
      · rw [show (((k + 1 : Nat)) : Int) = (k : Int) + 1 by omega]; rfl
      · rw [← end_in ge c2]; exact ek
    · walk_at "rd"
      rw [← ek, end_out ge c2] at q
      exact q
  · walk_at "rd"
    rw [← ek, end_end (by rw [sg_len]; omega)] at q
    exact q
def TokOf (H : Hp) (t : Tk × Nat) (v : V) (H' : Hp) : Prop := Same H H' ∧ ∃ a, v = .ref a ∧ H' a = some (.tup [.str t.1.kind, t.1.heldV, .int (t.2 : Nat)])
def spQuoted : Sp := fun vs H Q _ => ∃ (z : Str) (p : Nat), vs = [.str z, .int p] ∧ z.length ≤ 800000 ∧ p < z.length ∧ ∀ v H', TokOf H (quotAt (sg z) p) v H' → Q v H'
theorem ok_quoted (T : Tx mg) {tL : PySem.Tok} (hLETTERS : mg "LETTERS" = some (.str cLETTERS tL)) {f f1 : Addr} {fd d1 : FuncData} (F : Dn K mg "quoted_at" sQuotedAt ["text", "at"] f fd)
    (DEndOfRun : Dn K mg "end_of_run" sEndOfRun ["text", "at", "characters"] f1 d1) (GEndOfRun : FnOk P w K mg base CX0 1 f1 d1 ["text", "at", "characters"] spEndRun) :
    FnOk P w K mg base CX0 2 f fd ["text", "at"] spQuoted := by
  refine F.F.ok scQuotedAt (fun vs H Q E h => ?_) (fun cdv A outer s H vs Q E hr h => ?_)
  · obtain ⟨z, p, rfl, _⟩ := h
    rfl
  obtain ⟨z, p, rfl, hz, hp, q⟩ := h
  have nd := scQuotedAt.nd
  refine ⟨_, (pss_cons (ps_set (i := 2) nd rfl (Or.inl rfl) (pe_call GEndOfRun (hr.mono (by omega)) rfl DEndOfRun.m DEndOfRun.F.kp DEndOfRun.b .nil pass0 (pa_cons (pv 0) (pa_cons (pe_op op_add (pv 1) pe_int) (pa_cons (pe_glob (v := .str cLETTERS) rfl hLETTERS ⟨_, rfl⟩) pa_nil)))))
  (pss_cons (ps_if (PW.pt (pw_or (pt_cmpR op_eq (pv 2) (pe_op op_add (pv 1) pe_int) (nomark _)) (pw_or1 (pt_cmpR op_ne (pe_slice sl_str (pv 0) (po_some (pv 2)) (po_some (pe_op op_add (pv 2) pe_int))) pe_str (nomark _))))) (pss_one (ps_ret (pe_tup (pa_cons pe_str (pa_cons pe_str (pa_cons (pv 1) pa_nil)))))) pss_nil)
  (pss_one (ps_ret (pe_tup (pa_cons pe_str (pa_cons (pe_slice sl_str (pv 0) (po_some (pe_op op_add (pv 1) pe_int)) (po_some (pv 2))) (pa_cons (pe_op op_add (pv 2) pe_int) pa_nil)))))))), ?_⟩
  walk_at "rd"
  refine ⟨z, cLETTERS, p + 1, ?_, hz, by omega, ?_⟩
  · show [V.str z, V.int ((p : Int) + 1), V.str cLETTERS] = _
    rw [show (((p + 1 : Nat)) : Int) = (p : Int) + 1 by omega]
  walk_at "rd"
  have ee : endOf (sg cLETTERS) (sg z) (p + 1) ≤ z.length := end_le (by rw [sg_len]; omega)
  generalize hE : endOf (sg cLETTERS) (sg z) (p + 1) = e at ee
  have bad : e = p + 1 ∨ (sg z)[e]? ≠ some 34 → quotAt (sg z) p = (.wrong, p) := fun h => by unfold quotAt; rw [hE, if_pos h]
  refine iteD (fun c => ?_) (fun c => ?_)
  · have c' : e = p + 1 := by have := V.int.inj c; omega
    walk_at "rd"
    refine rd_mk (len_ok rfl) fun a H1 n1 e1 s1 => ?_
    exact q _ _ (by rw [bad (.inl c')]; exact ⟨s1, a, rfl, e1⟩)
  have c' : ¬ e = p + 1 := fun h => c (by rw [h]; rw [show (((p + 1 : Nat)) : Int) = (p : Int) + 1 by omega])
  walk_at "rd"
  refine rd_slX (big_ok hz) ?_
  rw [cut_one ee]
  walk_at "rd"
  rw [show V.str (Str.ofString "\"") = V.str ⟨#[34]⟩ from congrArg V.str (by decide +kernel), oneAt_is]
  by_cases c2 : (sg z)[e]? = some 34
  · rw [decide_eq_true c2]
    walk_at "dec"
    have good : quotAt (sg z) p = (.text (sub (sg z) (p + 1) e), e + 1) := by
      unfold quotAt
      rw [hE, if_neg (fun h => by rcases h with h | h; exact c' h; exact h c2)]
    refine rd_slX (big_ok hz) ?_
    rw [show ((p : Int) + 1) = ((p + 1 : Nat) : Int) by omega, cut_sub (by omega) ee]
    walk_at "rd"
    refine rd_mk (len_ok rfl) fun a H1 n1 e1 s1 => ?_
    exact q _ _ (by rw [good]; exact ⟨s1, a, rfl, by rw [show (((e + 1 : Nat)) : Int) = (e : Int) + 1 by omega]; exact e1⟩)
  · rw [decide_eq_false c2]
    walk_at "dec"
    refine rd_mk (len_ok rfl) fun a H1 n1 e1 s1 => ?_
    exact q _ _ (by rw [bad (.inr c2)]; exact ⟨s1, a, rfl, e1⟩)

end
section
variable {P : Program} {w : World} {K : PySem.W.Frag} {mg : Str → Option Value} {base : Heap}
def spNumAt : Sp := fun vs H Q _ => ∃ (z : Str) (p : Nat), vs = [.str z, .int p] ∧ z.length ≤ 800000 ∧ NumsOk (sg z) ∧ p < z.length ∧ ∀ v H', TokOf H (numAt (sg z) p) v H' → Q v H'
theorem one_is (c d : Nat) : decide (V.str ⟨#[c]⟩ = V.str ⟨#[d]⟩) = decide (c = d) := by
  rw [dec_str, decide_eq_decide]
  exact ⟨fun h => by simp at h; exact h, fun h => by rw [h]⟩
theorem sV (a b : Str) (h : a = b) : V.str a = V.str b := congrArg V.str h
set_option maxHeartbeats 1000000 in
theorem ok_numAt (T : Tx mg) {tD : PySem.Tok} (hDIGITS : mg "DIGITS" = some (.str cDIGITS tD)) {f f1 : Addr} {fd d1 : FuncData} (F : Dn K mg "number_at" sNumberAt ["text", "at"] f fd)
    (DEndOfRun : Dn K mg "end_of_run" sEndOfRun ["text", "at", "characters"] f1 d1) (GEndOfRun : FnOk P w K mg base CX0 1 f1 d1 ["text", "at", "characters"] spEndRun) :
    FnOk P w K mg base CX0 2 f fd ["text", "at"] spNumAt := by
  refine F.F.ok scNumberAt (fun vs H Q E h => ?_) (fun cdv A outer s H vs Q E hr h => ?_)
  · obtain ⟨z, p, rfl, _⟩ := h
    rfl
  obtain ⟨z, p, rfl, hz, ok, hp, q⟩ := h
  have nd := scNumberAt.nd
  refine ⟨_, (C8.pss_cut (ps_set (i := 2) nd rfl (Or.inl rfl) (pe_ifExp (pt_cmpR op_eq (pe_ix ix_str (pv 0) (pv 1) (fun _ _ => rfl)) pe_str (nomark _)) (pe_op op_add (pv 1) pe_int) (pv 1)))
  (pss_cons (ps_set (i := 3) nd rfl (Or.inl rfl) (pe_call GEndOfRun (hr.mono (by omega)) rfl DEndOfRun.m DEndOfRun.F.kp DEndOfRun.b .nil pass0 (pa_cons (pv 0) (pa_cons (pv 2) (pa_cons (pe_glob (v := .str cDIGITS) rfl hDIGITS ⟨_, rfl⟩) pa_nil)))))
  (pss_cons (ps_set (i := 4) nd rfl (Or.inl rfl) (pe_slice sl_str (pv 0) (po_some (pv 1)) (po_some (pv 3))))
  (pss_cons (ps_if (PW.pt (pw_or (pt_cmpR op_eq (pv 2) (pv 3) (nomark _)) (pw_or1 (PW.pt (pw_and (pt_cmpR op_eq (pe_ix ix_str (pv 0) (pv 2) (fun _ _ => rfl)) pe_str (nomark _)) (pw_and1 (pt_cmpR op_ne (pv 4) pe_str (nomark _)))))))) (pss_one (ps_ret (pe_tup (pa_cons pe_str (pa_cons pe_str (pa_cons (pv 1) pa_nil)))))) pss_nil)
  (pss_one (ps_ret (pe_tup (pa_cons pe_str (pa_cons (pe_callTy c_intS rfl T.m_int (by decide +kernel) (pa_cons (pv 4) pa_nil)) (pa_cons (pv 3) pa_nil)))))))))), ?_⟩
  have hp' : p < (sg z).length := hp
  have gp := List.getElem?_eq_getElem hp'
  obtain ⟨s1, s2⟩ := numStart_le hp'
  have ee : numEnd (sg z) p ≤ z.length := end_le s2
  have bad : numStart (sg z) p = numEnd (sg z) p ∨ ((sg z)[numStart (sg z) p]? = some 48 ∧ sub (sg z) p (numEnd (sg z) p) ≠ "0") → numAt (sg z) p = (.wrong, p) := fun h => by unfold numAt; rw [if_pos h]
  walk_at "rd"
  refine ⟨fun σ' H' => σ' = [some (.str z), some (.int p), some (.int (numStart (sg z) p : Nat)), none, none] ∧ H' = H, ?_, ?_⟩
  · walk_at "rd"
    refine rd_ixS (big_ok hz) (atI_nat' gp) ?_
    walk_at "rd"
    rw [sV (Str.ofString "-") ⟨#[45]⟩ (by decide +kernel), one_is]
    refine iteD (fun c => ?_) (fun c => ?_)
    · have es : numStart (sg z) p = p + 1 := by unfold numStart; rw [gp, if_pos (congrArg some c)]
      walk_at "rd"
      refine ⟨?_, rfl⟩
      rw [es, show (((p + 1 : Nat)) : Int) = (p : Int) + 1 by omega]; rfl
    · have es : numStart (sg z) p = p := by unfold numStart; rw [gp, if_neg (fun h => c (Option.some.inj h))]
      walk_at "rd"
      refine ⟨?_, rfl⟩
      rw [es]; rfl
  rintro σ' H' ⟨rfl, rfl⟩
  walk_at "rd"
  refine ⟨z, cDIGITS, numStart (sg z) p, rfl, hz, s2, ?_⟩
  rw [show endOf (sg cDIGITS) (sg z) (numStart (sg z) p) = numEnd (sg z) p from rfl]
  walk_at "rd"
  refine rd_slX (big_ok hz) ?_
  rw [cut_sub (Nat.le_of_lt hp) ee]
  walk_at "rd"
  refine iteD (fun c => ?_) (fun c => ?_)
  · have c' : numStart (sg z) p = numEnd (sg z) p := by have := V.int.inj c; omega
    walk_at "rd"
    refine rd_mk (len_ok rfl) fun a H1 n1 e1 s1 => ?_
    exact q _ _ (by rw [bad (.inl c')]; exact ⟨s1, a, rfl, e1⟩)
  have c' : numStart (sg z) p ≠ numEnd (sg z) p := fun h => c (by rw [h])
  have se : numStart (sg z) p < (sg z).length := by
    have : numStart (sg z) p ≤ numEnd (sg z) p := end_ge _ _ _
    have : (sg z).length = z.length := rfl
    omega
  have gs := List.getElem?_eq_getElem se
  have fine : ¬ ((sg z)[numStart (sg z) p]? = some 48 ∧ sub (sg z) p (numEnd (sg z) p) ≠ "0") → numAt (sg z) p = (.num ((PySem.intText? (sub (sg z) p (numEnd (sg z) p))).getD 0), numEnd (sg z) p) := fun h => by
    unfold numAt
    rw [if_neg (fun z => by rcases z with z | z; exact c' z; exact h z)]
  obtain ⟨i, ei, li⟩ := num_read hp' ok c'
  walk_at "rd"
  refine rd_ixS (big_ok hz) (atI_nat' gs) ?_
  walk_at "rd"
  rw [sV (Str.ofString "0") ⟨#[48]⟩ (by decide +kernel), one_is]
  have z48 : ("0" : Str) = ⟨#[48]⟩ := by decide +kernel
  refine iteD (fun c2 => ?_) (fun c2 => ?_)
  · walk_at "rd"
    rw [dec_str]
    by_cases c3 : sub (sg z) p (numEnd (sg z) p) = ⟨#[48]⟩
    · rw [decide_eq_true c3]
      walk_at "dec"
      refine ⟨_, i, rfl, ei, li, ?_⟩
      walk_at "rd"
      refine rd_mk (len_ok rfl) fun a H1 n1 e1 s1 => ?_
      exact q _ _ (by rw [fine (fun h => h.2 (by rw [c3, z48])), ei]; exact ⟨s1, a, rfl, e1⟩)
    · rw [decide_eq_false c3]
      walk_at "dec"
      refine rd_mk (len_ok rfl) fun a H1 n1 e1 s1 => ?_
      exact q _ _ (by rw [bad (.inr ⟨by rw [gs, c2], fun h => c3 (by rw [h, z48])⟩)]; exact ⟨s1, a, rfl, e1⟩)
  · walk_at "rd"
    refine ⟨_, i, rfl, ei, li, ?_⟩
    walk_at "rd"
    refine rd_mk (len_ok rfl) fun a H1 n1 e1 s1 => ?_
    exact q _ _ (by rw [fine (fun h => c2 (by have := h.1; rw [gs] at this; exact Option.some.inj this)), ei]; exact ⟨s1, a, rfl, e1⟩)
def spTokAt : Sp := fun vs H Q _ => ∃ (z : Str) (p : Nat), vs = [.str z, .int p] ∧ z.length ≤ 800000 ∧ NumsOk (sg z) ∧ p < z.length ∧ ∀ v H', TokOf H (tokAt (sg z) p) v H' → Q v H'
set_option maxHeartbeats 1000000 in
theorem ok_tokAt (T : Tx mg) {tS tL : PySem.Tok} (hSIGNS : mg "SIGNS" = some (.str cSIGNS tS)) (hLETTERS : mg "LETTERS" = some (.str cLETTERS tL)) {f f1 f2 f3 : Addr} {fd d1 d2 d3 : FuncData} (F : Dn K mg "token_at" sTokenAt ["text", "at"] f fd)
    (DEndOfRun : Dn K mg "end_of_run" sEndOfRun ["text", "at", "characters"] f1 d1) (GEndOfRun : FnOk P w K mg base CX0 1 f1 d1 ["text", "at", "characters"] spEndRun)
    (DQuotedAt : Dn K mg "quoted_at" sQuotedAt ["text", "at"] f2 d2) (GQuotedAt : FnOk P w K mg base CX0 2 f2 d2 ["text", "at"] spQuoted)
    (DNumberAt : Dn K mg "number_at" sNumberAt ["text", "at"] f3 d3) (GNumberAt : FnOk P w K mg base CX0 2 f3 d3 ["text", "at"] spNumAt) :
    FnOk P w K mg base CX0 3 f fd ["text", "at"] spTokAt := by
  refine F.F.ok scTokenAt (fun vs H Q E h => ?_) (fun cdv A outer s H vs Q E hr h => ?_)
  · obtain ⟨z, p, rfl, _⟩ := h
    rfl
  obtain ⟨z, p, rfl, hz, ok, hp, q⟩ := h
  have nd := scTokenAt.nd
  refine ⟨_, (pss_cons (ps_set (i := 2) nd rfl (Or.inl rfl) (pe_ix ix_str (pv 0) (pv 1) (fun _ _ => rfl)))
  (pss_cons (ps_if (pt_cmpR op_inS (pv 2) (pe_glob (v := .str cSIGNS) rfl hSIGNS ⟨_, rfl⟩) rfl) (pss_one (ps_ret (pe_tup (pa_cons (pv 2) (pa_cons (pv 2) (pa_cons (pe_op op_add (pv 1) pe_int) pa_nil)))))) pss_nil)
  (pss_cons (ps_if (pt_cmpR op_inS (pv 2) (pe_glob (v := .str cLETTERS) rfl hLETTERS ⟨_, rfl⟩) rfl) (pss_cons (ps_set (i := 3) nd rfl (Or.inl rfl) (pe_call GEndOfRun (hr.mono (by omega)) rfl DEndOfRun.m DEndOfRun.F.kp DEndOfRun.b .nil pass0 (pa_cons (pv 0) (pa_cons (pv 1) (pa_cons (pe_glob (v := .str cLETTERS) rfl hLETTERS ⟨_, rfl⟩) pa_nil)))))
  (pss_one (ps_ret (pe_tup (pa_cons pe_str (pa_cons (pe_slice sl_str (pv 0) (po_some (pv 1)) (po_some (pv 3))) (pa_cons (pv 3) pa_nil))))))) pss_nil)
  (pss_cons (ps_if (pt_cmpR op_eq (pv 2) pe_str (nomark _)) (pss_one (ps_ret (pe_call GQuotedAt (hr.mono (by omega)) rfl DQuotedAt.m DQuotedAt.F.kp DQuotedAt.b .nil pass0 (pa_cons (pv 0) (pa_cons (pv 1) pa_nil))))) pss_nil)
  (pss_one (ps_ret (pe_call GNumberAt (hr.mono (by omega)) rfl DNumberAt.m DNumberAt.F.kp DNumberAt.b .nil pass0 (pa_cons (pv 0) (pa_cons (pv 1) pa_nil))))))))), ?_⟩
  have hp' : p < (sg z).length := hp
  have gp := List.getElem?_eq_getElem hp'
  have et : tokAt (sg z) p = if (sg z)[p] ∈ sg cSIGNS then (.sign (sg z)[p], p + 1) else if (sg z)[p] ∈ sg cLETTERS then (.word (sub (sg z) p (endOf (sg cLETTERS) (sg z) p)), endOf (sg cLETTERS) (sg z) p) else if (sg z)[p] = 34 then quotAt (sg z) p else numAt (sg z) p := by unfold tokAt; rw [gp]
  have ee : endOf (sg cLETTERS) (sg z) p ≤ z.length := end_le (Nat.le_of_lt hp')
  walk_at "rd"
  refine rd_ixS (big_ok hz) (atI_nat' gp) ?_
  walk_at "rd"
  refine rd_inX ?_
  walk_at "rd"
  refine iteD (fun c => ?_) (fun c => ?_)
  · walk_at "rd"
    refine rd_mk (len_ok rfl) fun a H1 n1 e1 s1 => ?_
    exact q _ _ (by rw [et, if_pos c]; exact ⟨s1, a, rfl, by rw [show (((p + 1 : Nat)) : Int) = (p : Int) + 1 by omega]; exact e1⟩)
  walk_at "rd"
  refine rd_inX ?_
  walk_at "rd"
  refine iteD (fun c2 => ?_) (fun c2 => ?_)
  · walk_at "rd"
    refine ⟨z, cLETTERS, p, rfl, hz, Nat.le_of_lt hp, ?_⟩
    walk_at "rd"
    refine rd_slX (big_ok hz) ?_
    rw [cut_sub (Nat.le_of_lt hp) ee]
    walk_at "rd"
    refine rd_mk (len_ok rfl) fun a H1 n1 e1 s1 => ?_
    exact q _ _ (by rw [et, if_neg c, if_pos c2]; exact ⟨s1, a, rfl, e1⟩)
  walk_at "rd"
  rw [sV (Str.ofString "\"") ⟨#[34]⟩ (by decide +kernel), one_is]
  refine iteD (fun c3 => ?_) (fun c3 => ?_)
  · walk_at "rd"
    exact ⟨z, p, rfl, hz, hp, fun v H' h => q v H' (by rw [et, if_neg c, if_neg c2, if_pos c3]; exact h)⟩
  · walk_at "rd"
    exact ⟨z, p, rfl, hz, ok, hp, fun v H' h => q v H' (by rw [et, if_neg c, if_neg c2, if_neg c3]; exact h)⟩
def spToks (K : PySem.W.Frag) : Sp := fun vs H Q _ => ∃ (z : Str), vs = [.str z] ∧ z.length ≤ 800000 ∧ NumsOk (sg z) ∧ ∀ (T : Addr) (xs : List V) (H' : Hp), H T = none → Same H H' → H' T = some (.lst xs) → RpA K H' xs ((toks (sg z)).map tokT) → Q (.ref T) H'
theorem tok_rp {K : PySem.W.Frag} {H : Hp} {a : Addr} {t : Tk} {p : Nat} (s : SqT K H a [.str t.kind, t.heldV, .int (p : Nat)]) : Rp K H (.ref a) (tokT (t, p)) := .tup s (.cons (.str _) (.cons (held_rp t) (.cons (.int _) .nil)))
theorem toksF_eq (n : Nat) (cs : List Nat) (p : Nat) : toksF (n + 1) cs p = if p < cs.length then (if isWrong (tokAt cs p).1 = true then [(.wrong, p)] else ((tokAt cs p).1, p) :: toksF n cs (endOf [32] cs (tokAt cs p).2)) else [(.fin, p)] := rfl
set_option maxHeartbeats 1000000 in
theorem ok_toks (T : Tx mg)  {f f1 f2 : Addr} {fd d1 d2 : FuncData} (F : Dn K mg "tokens_of" sTokensOf ["text"] f fd)
    (DEndOfRun : Dn K mg "end_of_run" sEndOfRun ["text", "at", "characters"] f1 d1) (GEndOfRun : FnOk P w K mg base CX0 1 f1 d1 ["text", "at", "characters"] spEndRun)
    (DTokenAt : Dn K mg "token_at" sTokenAt ["text", "at"] f2 d2) (GTokenAt : FnOk P w K mg base CX0 3 f2 d2 ["text", "at"] spTokAt) :
    FnOk P w K mg base CX0 4 f fd ["text"] (spToks K) := by
  refine F.F.ok scTokensOf (fun vs H Q E h => ?_) (fun cdv A outer s H vs Q E hr h => ?_)
  · obtain ⟨z, rfl, _⟩ := h
    rfl
  obtain ⟨z, rfl, hz, ok, q⟩ := h
  have nd := scTokensOf.nd
  refine ⟨_, (pss_cons (ps_set (i := 1) nd rfl (Or.inl rfl) (pe_lst pa_nil))
  (pss_cons (ps_set (i := 2) nd rfl (Or.inl rfl) (pe_call GEndOfRun (hr.mono (by omega)) rfl DEndOfRun.m DEndOfRun.F.kp DEndOfRun.b .nil pass0 (pa_cons (pv 0) (pa_cons pe_int (pa_cons pe_str pa_nil)))))
  (pss_cons (ps_while PassesOwn.never (pt_cmpR op_lt (pv 2) (pe_callB c_lenX rfl T.m_len PySem.boot_len (pa_cons (pv 0) pa_nil)) (nomark _)) (pss_cons (ps_asg (pe_call GTokenAt (hr.mono (by omega)) rfl DTokenAt.m DTokenAt.F.kp DTokenAt.b .nil pass0 (pa_cons (pv 0) (pa_cons (pv 2) pa_nil))) (pg_tup rfl (pgs_cons (pg_name (i := 3) nd rfl (Or.inl rfl)) (pgs_cons (pg_name (i := 4) nd rfl (Or.inl rfl)) (pgs_cons (pg_name (i := 5) nd rfl (Or.inl rfl)) pgs_nil)))))
  (pss_cons (ps_expr (k_bm K rfl (pe_bm PySem.F.plainAttrs_list PySem.F.slot_list_append PySem.F.type_list_append mt_append (pv 1) (pa_cons (pe_tup (pa_cons (pv 3) (pa_cons (pv 4) (pa_cons (pv 2) pa_nil)))) pa_nil))))
  (pss_cons (ps_if (pt_cmpR op_eq (pv 3) pe_str (nomark _)) (pss_one (ps_ret (pv 1))) pss_nil)
  (pss_one (ps_set (i := 2) nd rfl (Or.inl rfl) (pe_call GEndOfRun (hr.mono (by omega)) rfl DEndOfRun.m DEndOfRun.F.kp DEndOfRun.b .nil pass0 (pa_cons (pv 0) (pa_cons (pv 5) (pa_cons pe_str pa_nil))))))))))
  (pss_cons (ps_expr (k_bm K rfl (pe_bm PySem.F.plainAttrs_list PySem.F.slot_list_append PySem.F.type_list_append mt_append (pv 1) (pa_cons (pe_tup (pa_cons pe_str (pa_cons pe_str (pa_cons (pv 2) pa_nil)))) pa_nil))))
  (pss_one (ps_ret (pv 1))))))), ?_⟩
  walk_at "rd"
  refine rd_mk (len_ok rfl) fun L H1 nL eL s1 => ?_
  walk_at "rd"
  refine ⟨z, " ", 0, rfl, hz, Nat.zero_le _, ?_⟩
  rw [blank_is]
  walk_at "rd"
  refine ⟨fun m σ' H' => ∃ (p : Nat) (v3 v4 v5 : Option V) (xs : List V) (ts : List Tok) (n : Nat), m = z.length - p ∧ σ' = [some (.str z), some (.ref L), some (.int p), v3, v4, v5] ∧ Same H H' ∧ H' L = some (.lst xs) ∧ RpA K H' xs (ts.map tokT) ∧ xs.length ≤ p ∧ p ≤ z.length ∧ z.length < p + n ∧ toks (sg z) = ts ++ toksF n (sg z) p,
    ⟨_, _, none, none, none, [], [], z.length + 1, rfl, rfl, s1, eL, .nil, Nat.zero_le _, end_le (Nat.zero_le _), by omega, rfl⟩, ?_⟩
  rintro m σ' H2 ⟨p, v3, v4, v5, xs, ts, n, rfl, rfl, s2, eL2, ra, lx, lp, ln, eq⟩
  obtain ⟨n, rfl⟩ : ∃ k, n = k + 1 := ⟨n - 1, by omega⟩
  rw [toksF_eq] at eq
  walk_at "rd"
  refine rd_lenX (big_ok hz) ?_
  walk_at "rd"
  refine iteD (fun c => ?_) (fun c => ?_)
  · have hp : p < z.length := by omega
    rw [if_pos (show p < (sg z).length from hp)] at eq
    refine ⟨fun σ' H' => ∃ m', m' < z.length - p ∧ ∃ (p : Nat) (v3 v4 v5 : Option V) (xs : List V) (ts : List Tok) (n : Nat), m' = z.length - p ∧ σ' = [some (.str z), some (.ref L), some (.int p), v3, v4, v5] ∧ Same H H' ∧ H' L = some (.lst xs) ∧ RpA K H' xs (ts.map tokT) ∧ xs.length ≤ p ∧ p ≤ z.length ∧ z.length < p + n ∧ toks (sg z) = ts ++ toksF n (sg z) p, fun _ _ h => h, ?_⟩
    walk_at "rd"
    refine ⟨z, p, rfl, hz, ok, hp, ?_⟩
    rintro v H3 ⟨s3, a, rfl, e3⟩
    walk_at "rd"
    refine rd_gtup (SqT.of e3) rfl ?_
    walk_at "rd"
    have eL3 := s3 _ _ eL2
    refine rd_ty (SqL.of eL3) ?_
    walk_at "rd"
    refine rd_mk (len_ok rfl) fun b H4 nb eb s4 => ?_
    walk_at "rd"
    have eL4 := s4 _ _ eL3
    refine rd_append eL4 (len5 (by omega)) ?_
    walk_at "rd"
    have nLb : L ≠ b := fun e => by rw [e] at eL3; rw [eL3] at nb; cases nb
    have rb : Rp K H4 (.ref b) (tokT ((tokAt (sg z) p).1, p)) := tok_rp (SqT.of eb)
    have raN : RpA K (upd H4 L (.lst (xs ++ [.ref b]))) (xs ++ [.ref b]) ((ts ++ [((tokAt (sg z) p).1, p)]).map tokT) := by
      rw [List.map_append]
      exact RpA.app (rpa_put eL4 (same_rpa (s3.trans s4) ra)) (.cons (rp_put eL4 rb) .nil)
    have sN : Same H (upd H4 L (.lst (xs ++ [.ref b]))) := same_own ((s2.trans s3).trans s4) nL
    rw [show decide (V.str (tokAt (sg z) p).1.kind = V.str (Str.ofString "wrong")) = isWrong (tokAt (sg z) p).1 from (dec_str _ _).trans (kind_wrong _)]
    refine iteB (fun c2 => ?_) (fun c2 => ?_)
    · rw [if_pos c2] at eq
      walk_at "rd"
      have ew : (tokAt (sg z) p).1 = .wrong := by
        cases h : (tokAt (sg z) p).1 with
        | wrong => rfl
        | _ => rw [h] at c2; cases c2
      rw [ew] at raN
      exact q L _ _ nL sN upd_same (by rw [eq]; exact raN)
    · rw [if_neg (by rw [c2]; exact Bool.false_ne_true)] at eq
      obtain ⟨t1, t2⟩ := tokAt_end (cs := sg z) hp c2
      walk_at "rd"
      refine ⟨z, " ", (tokAt (sg z) p).2, rfl, hz, t2, ?_⟩
      rw [blank_is]
      walk_at "rd"
      have e1 := end_ge [32] (sg z) (tokAt (sg z) p).2
      have e2 : endOf [32] (sg z) (tokAt (sg z) p).2 ≤ z.length := end_le t2
      refine ⟨z.length - endOf [32] (sg z) (tokAt (sg z) p).2, by omega, _, _, _, _, xs ++ [.ref b], ts ++ [((tokAt (sg z) p).1, p)], n, rfl, rfl, sN, upd_same, raN, by rw [List.length_append]; show xs.length + 1 ≤ _; omega, e2, by omega, ?_⟩
      rw [eq, List.append_assoc]; rfl
  · rw [if_neg (show ¬ p < (sg z).length by rw [sg_len]; omega)] at eq
    walk_at "rd"
    refine rd_ty (SqL.of eL2) ?_
    walk_at "rd"
    refine rd_mk (len_ok rfl) fun b H4 nb eb s4 => ?_
    walk_at "rd"
    have eL4 := s4 _ _ eL2
    refine rd_append eL4 (len5 (by omega)) ?_
    walk_at "rd"
    refine q L _ _ nL (same_own (s2.trans s4) nL) upd_same ?_
    rw [eq, List.map_append]
    exact RpA.app (rpa_put eL4 (same_rpa s4 ra)) (.cons (rp_put eL4 (tok_rp (t := .fin) (SqT.of eb))) .nil)

end
section
variable {P : Program} {w : World} {K : PySem.W.Frag} {mg : Str → Option Value} {base : Heap}
def spInit (K : PySem.W.Frag) (CR : Addr) : Sp := fun vs H Q _ => ∃ (r dx : Addr) (z : Str), vs = [.ref r, .str z] ∧ z.length ≤ 800000 ∧ NumsOk (sg z) ∧ H r = some (.ins CR dx []) ∧ ∀ (T : Addr) (H' : Hp), Only r H H' → Rdr K CR r T (toks (sg z)) H' → Q .non H'
theorem ok_init (T : Tx mg) {CR : Addr} (tx : RTxt K CR) {f f1 : Addr} {fd d1 : FuncData} (F : Dm K CR "__init__" "Reader.__init__" sReaderInit ["self", "text"] f fd)
    (DTokensOf : Dn K mg "tokens_of" sTokensOf ["text"] f1 d1) (GTokensOf : FnOk P w K mg base CX0 4 f1 d1 ["text"] (spToks K)) :
    FnOk P w K mg base CX0 5 f fd ["self", "text"] (spInit K CR) := by
  refine F.F.ok scReaderInit (fun vs H Q E h => ?_) (fun cdv A outer s H vs Q E hr h => ?_)
  · obtain ⟨r, dx, z, rfl, _⟩ := h
    rfl
  obtain ⟨r, dx, z, rfl, hz, ok, e, q⟩ := h
  have nd := scReaderInit.nd
  refine ⟨_, (pss_cons (ps_fld (pv 0) (pe_call GTokensOf (hr.mono (by omega)) rfl DTokensOf.m DTokensOf.F.kp DTokensOf.b .nil pass0 (pa_cons (pv 1) pa_nil)) rfl)
  (pss_one (ps_fld (pv 0) pe_int rfl))), ?_⟩
  walk_at "rd"
  unfold sFld
  walk_at "rd"
  refine ⟨z, rfl, hz, ok, fun TT xs H1 nT s1 eT ra => ?_⟩
  walk_at "rd"
  have e1 := s1 _ _ e
  have nTr : TT ≠ r := fun h => by rw [h, e] at nT; cases nT
  refine ⟨r, CR, dx, [], rfl, e1, tx.cl, tx.nT, by show 0 < 1000; decide, ?_⟩
  walk_at "rd"
  have o1 : Only r H H1 := (Only.refl ⟨_, _, _, e⟩).same s1
  have o2 : Only r H1 (upd H1 r (.ins CR dx (putF "tokens" (.ref TT) []))) := .ins e1
  refine ⟨r, CR, dx, _, rfl, upd_same, tx.cl, tx.nP, by show 1 < 1000; decide, ?_⟩
  have ef : putF "place" (V.int 0) (putF "tokens" (.ref TT) []) = rf TT 0 := by
    show (if ("tokens" : Str) = "place" then _ else (("tokens" : Str), V.ref TT) :: putF "place" (V.int 0) []) = _
    rw [if_neg (by decide +kernel)]; rfl
  rw [ef]
  have o3 : Only r (upd H1 r (.ins CR dx (putF "tokens" (.ref TT) []))) (upd (upd H1 r (.ins CR dx (putF "tokens" (.ref TT) []))) r (.ins CR dx (rf TT 0))) := .ins upd_same
  have o23 := o2.trans o3
  exact q TT _ (o1.trans o23) ⟨dx, xs, _, 0, upd_same, o23.kp _ _ nTr eT, o23.rpa ra, rfl⟩
theorem only_same {r : Addr} {H H1 H2 : Hp} (s : Same H H1) (n : H r = none) (o : Only r H1 H2) : Same H H2 := fun b u e => o.kp b u (ne_of_none e n) (s b u e)
theorem toks_len (cs : List Nat) : (toks cs).length ≤ cs.length + 2 := toksF_len _ _ _
/-- what is read is not too large to be checked -/
def FitsQ (q : Int × List Jn) : Prop := q.2.length ≤ 40 ∧ ∀ j ∈ q.2, j.fits
def spReadQ (K : PySem.W.Frag) (C CB : Addr) : Sp := fun vs H Q E => ∃ (z : Str), vs = [.str z] ∧ z.length ≤ 800000 ∧ NumsOk (sg z) ∧
  (∀ n, readQ (toks (sg z)) = .error n → ∀ d H', Same H H' → H' d = some (.xd [(("at" : Str), .int (n : Nat))]) → E (.ref CB) (some d) H') ∧
  ∀ x l', readQ (toks (sg z)) = .ok (x, l') → FitsQ x ∧ (bad x.1 x.2 = none → ∀ v H', Same H H' → Rp K H' v (questD x.1 x.2) → Q v H') ∧ ∀ y, bad x.1 x.2 = some y → ∀ d H', Same H H' → H' d = some (.xd [(("join" : Str), y)]) → E (.ref C) (some d) H'
set_option maxHeartbeats 1000000 in
theorem ok_readQ (T : Tx mg) {CR C CB fR : Addr} (cl : Cls K CR) (mk : Mk K CR fR) (mC : mg "Reader" = some (.ref CR)) {fdR : FuncData} (DReaderInit : Dm K CR "__init__" "Reader.__init__" sReaderInit ["self", "text"] fR fdR) (GReaderInit : FnOk P w K mg base CX0 5 fR fdR ["self", "text"] (spInit K CR)) {f f1 f2 f3 f4 f5 : Addr} {fd d1 d2 d3 d4 d5 : FuncData} (F : Dn K mg "read_question" sReadQuestion ["text"] f fd)
    (DReaderSeesWord : Dm K CR "sees_word" "Reader.sees_word" sReaderSeesWord ["self", "word"] f1 d1) (GReaderSeesWord : FnOk P w K mg base CX0 2 f1 d1 ["self", "word"] (spSeesW K CR))
    (DReadNone : Dn K mg "read_none" sReadNone ["reader"] f2 d2) (GReadNone : FnOk P w K mg base (L2.CX P w) 4 f2 d2 ["reader"] (spNoneR K CR CB))
    (DReadJoins : Dn K mg "read_joins" sReadJoins ["reader"] f3 d3) (GReadJoins : FnOk P w K mg base (L2.CX P w) 7 f3 d3 ["reader"] (spJoinsR K CR CB))
    (DReaderTake : Dm K CR "take" "Reader.take" sReaderTake ["self", "kind"] f4 d4) (GReaderTake : FnOk P w K mg base (L2.CX P w) 2 f4 d4 ["self", "kind"] (spTakeR K CR CB))
    (DCheckQuestion : Dn K mg "check_question" sCheckQuestion ["question"] f5 d5) (GCheckQuestion : FnOk P w K mg base (L2.CX P w) 7 f5 d5 ["question"] (spCheckX C K)) :
    FnOk P w K mg base (L2.CX P w) 9 f fd ["text"] (spReadQ K C CB) := by
  refine F.F.okX scReadQuestion (fun vs H Q E h => ?_) (fun cdv A outer s H vs Q E hr h => ?_)
  · obtain ⟨z, rfl, _⟩ := h
    rfl
  obtain ⟨z, rfl, hz, ok, q2, q1⟩ := h
  have nd := scReadQuestion.nd
  refine ⟨_, (pss_cons (ps_set (i := 1) nd rfl (Or.inl rfl) (pe_make mk GReaderInit (hr.mono (by omega)) rfl mC DReaderInit.b .nil pass0 (pa_cons (pv 0) pa_nil)))
  (C8.pss_cut (ps_set (i := 2) nd rfl (Or.inl rfl) (pe_ifExp (pt_val (pe_meth (pv 1) cl DReaderSeesWord.mt GReaderSeesWord (hr.mono (by omega)) DReaderSeesWord.b .nil pass0 (pa_cons pe_str pa_nil))) (pe_call GReadNone (hr.mono (by omega)) rfl DReadNone.m DReadNone.F.kp DReadNone.b .nil (passes_call (takes_of rfl rfl rfl rfl) (fun _ _ _ _ h => h)) (pa_cons (pv 1) pa_nil)) (pe_call GReadJoins (hr.mono (by omega)) rfl DReadJoins.m DReadJoins.F.kp DReadJoins.b .nil (passes_call (takes_of rfl rfl rfl rfl) (fun _ _ _ _ h => h)) (pa_cons (pv 1) pa_nil))))
  (pss_cons (ps_expr (pe_meth (pv 1) cl DReaderTake.mt GReaderTake (hr.mono (by omega)) DReaderTake.b .nil (passes_call (takes_of rfl rfl rfl rfl) (fun _ _ _ _ h => h)) (pa_cons pe_str pa_nil)))
  (pss_cons (ps_expr (pe_call GCheckQuestion (hr.mono (by omega)) rfl DCheckQuestion.m DCheckQuestion.F.kp DCheckQuestion.b .nil (passes_call (takes_of rfl rfl rfl rfl) (fun _ _ _ _ h => h)) (pa_cons (pv 2) pa_nil)))
  (pss_one (ps_ret (pv 2))))))), ?_⟩
  walk_at "rd"
  unfold tMake
  walk_at "rd"
  refine fun r dx nr ndx nrd => ?_
  have s0 : Same H (upd (upd H dx (.own r)) r (.ins CR dx [])) := fun b o e => by
    rw [upd_ne (ne_of_none e nr), upd_ne (ne_of_none e ndx)]
    exact e
  refine ⟨r, dx, z, rfl, hz, ok, upd_same, fun TT H1 o1 R1 => ⟨rfl, ?_⟩⟩
  have s1 : Same H H1 := only_same s0 nr o1
  have g1 : Good (toks (sg z)) := toksF_good _ _ _
  have l1 : (toks (sg z)).length ≤ 900000 := by have := toks_len (sg z); have : (sg z).length = z.length := rfl; omega
  walk_at "rd"
  refine ⟨fun σ' H' => ∃ (v : V) (x : Int × List Jn) (l2 : List Tok), σ' = [some (.str z), some (.ref r), some v] ∧ Only r H1 H' ∧ Rdr K CR r TT l2 H' ∧ Good l2 ∧ qV K x v H' ∧ readQ (toks (sg z)) = mpR (fun _ => x) (takeK "end" l2), ?_, ?_⟩
  · have er : readQ (toks (sg z)) = bnd (if seesW "none" (toks (sg z)) = true then readNone (toks (sg z)) else readJoins (toks (sg z))) fun q l1 => mpR (fun _ => q) (takeK "end" l1) := rfl
    walk_at "rd"
    refine rd_mthI R1 noW.1 noW.2 ?_
    walk_at "rd"
    refine ⟨r, TT, "none", _, rfl, R1, g1, ?_⟩
    walk_at "rd"
    refine iteB (fun c => ?_) (fun c => ?_)
    · rw [if_pos c] at er
      walk_at "rd"
      refine ⟨r, TT, _, rfl, R1, g1, ?_, fun n e d H' o hd => q2 n (by rw [er]; exact bnd_er e) d H' (only_same s1 nr o) hd⟩
      rintro x l2 e2 v H2 o2 R2 rv
      obtain ⟨g2, _⟩ := fine_none g1 _ _ e2
      walk_at "rd"
      exact ⟨v, x, l2, rfl, o2, R2, g2, rv, by rw [er, bnd_ok e2]⟩
    · rw [if_neg (by rw [c]; exact Bool.false_ne_true)] at er
      walk_at "rd"
      refine ⟨r, TT, _, rfl, R1, g1, l1, ?_, fun n e d H' o hd => q2 n (by rw [er]; exact bnd_er e) d H' (only_same s1 nr o) hd⟩
      rintro x l2 e2 v H2 o2 R2 rv
      obtain ⟨g2, _⟩ := fine_joins g1 _ _ e2
      walk_at "rd"
      exact ⟨v, x, l2, rfl, o2, R2, g2, rv, by rw [er, bnd_ok e2]⟩
  rintro σ' H2 ⟨v, x, l2, rfl, o2, R2, g2, rv, eq⟩
  walk_at "rd"
  refine rd_mthI R2 noT.1 noT.2 ?_
  walk_at "rd"
  refine ⟨r, TT, "end", _, rfl, R2, g2, ?_, fun n e d H' o hd => q2 n (by rw [eq]; exact mpR_er e) d H' (only_same s1 nr (o2.trans o)) hd⟩
  rintro t l3 e3 u H3 o3 R3 rfl
  obtain ⟨fq, qk, qe⟩ := q1 x l3 (by rw [eq]; exact mpR_ok e3)
  have s3 : Same H H3 := only_same s1 nr (o2.trans o3)
  have rv3 : Rp K H3 v (questD x.1 x.2) := o3.rp rv
  walk_at "rd"
  refine ⟨v, x.1, x.2, rfl, rv3, fq.1, fq.2, fun eb H4 s4 => ?_, fun y eb d H4 s4 hd => qe y eb d H4 (s3.trans s4) hd⟩
  walk_at "rd"
  exact qk eb v H4 (s3.trans s4) (same_rp s4 rv3)

end
section
variable {P : Program} {w : World} {K : PySem.W.Frag} {mg : Str → Option Value} {base : Heap}
/-- the written form -/
def valS : TD → Prop
  | .int i => i.natAbs.log2 < 1920
  | .str z => z.length ≤ 23
  | _ => False
def termS (t : TD) : Prop := (∃ u, t = .tup [.str "value", u] ∧ valS u) ∨ ∃ z : Str, t = .tup [.str "var", .str z] ∧ z.length ≤ 23
def pieceS : TD → Str
  | .tup [.str tag, .str z] => if tag = "var" then z else ("\"" ++ z) ++ "\""
  | .tup [.str _, .int i] => toString i
  | _ => ""
theorem piece_val (z : Str) : pieceS (.tup [.str "value", .str z]) = ("\"" ++ z) ++ "\"" := by
  show (if ("value" : Str) = "var" then z else ("\"" ++ z) ++ "\"") = _
  exact if_neg (by decide +kernel)
theorem piece_var (z : Str) : pieceS (.tup [.str "var", .str z]) = z := by
  show (if ("var" : Str) = "var" then z else ("\"" ++ z) ++ "\"") = _
  exact if_pos rfl
theorem piece_len {t : TD} (h : termS t) : (pieceS t).length ≤ 1921 := by
  rcases h with ⟨u, rfl, hu⟩ | ⟨z, rfl, hz⟩
  · cases u with
    | int i => exact PyProof.Rows.int_text_len_1921 hu
    | str z =>
      have hz : z.length ≤ 23 := hu
      show (if ("value" : Str) = "var" then z else ("\"" ++ z) ++ "\"").length ≤ 1921
      rw [if_neg (by decide +kernel), len_app, len_app, show (Str.ofString "\"").length = 1 by decide +kernel]
      omega
    | _ => cases hu
  · show (if ("var" : Str) = "var" then z else ("\"" ++ z) ++ "\"").length ≤ 1921
    rw [if_pos rfl]
    omega
def spPiece (K : PySem.W.Frag) : Sp := fun vs H Q _ => ∃ (v : V) (t : TD), vs = [v] ∧ Rp K H v t ∧ termS t ∧ Q (.str (pieceS t)) H
theorem ok_piece (T : Tx mg) {f : Addr} {fd : FuncData} (F : Dn K mg "_law_term_piece" sLTermPiece ["term"] f fd) : FnOk P w K mg base CX0 1 f fd ["term"] (spPiece K) := by
  refine F.F.ok scLTermPiece (fun vs H Q E h => ?_) (fun cdv A outer s H vs Q E hr h => ?_)
  · obtain ⟨v, t, rfl, _⟩ := h
    rfl
  obtain ⟨v, t, rfl, r, ht, q⟩ := h
  have nd := scLTermPiece.nd
  refine ⟨_, (pss_cons (ps_if (pt_cmpR op_eq (pe_ix (k_ixT K rfl) (pv 0) pe_int (fun _ _ => rfl)) pe_str (nomark _)) (pss_one (ps_ret (pe_ix (k_ixT K rfl) (pv 0) pe_int (fun _ _ => rfl)))) pss_nil)
  (pss_cons (ps_if (pt_val (pe_callB (k_isi K rfl) rfl T.m_isinstance (by decide +kernel) (pa_cons (pe_ix (k_ixT K rfl) (pv 0) pe_int (fun _ _ => rfl)) (pa_cons (pe_bltn (v := .ty "str") rfl T.m_str (by decide +kernel) rfl) pa_nil)))) (pss_one (ps_ret (pe_op op_catX (pe_op op_catX pe_str (pe_ix (k_ixT K rfl) (pv 0) pe_int (fun _ _ => rfl))) pe_str))) pss_nil)
  (pss_one (ps_ret (pe_callTy c_strI rfl T.m_str (by decide +kernel) (pa_cons (pe_ix (k_ixT K rfl) (pv 0) pe_int (fun _ _ => rfl)) pa_nil)))))), ?_⟩
  rcases ht with ⟨u, rfl, hu⟩ | ⟨z, rfl, hz⟩
  · obtain ⟨a, x, rfl, sq, rx⟩ := r.pr
    walk_at "rd"
    refine rd_ixT sq rfl ?_
    walk_at "dec"
    refine rd_ixT sq rfl ?_
    walk_at "rd"
    cases u with
    | int i =>
      cases rx
      refine rd_isi (.ty _) (.base (.int i)) (kit_ty (r := false) (by decide +kernel)) ?_
      walk_at "dec"
      refine rd_ixT sq rfl ?_
      walk_at "rd"
      refine rd_strI hu ?_
      exact q
    | str z =>
      cases rx
      have hz : z.length ≤ 23 := hu
      refine rd_isi (.ty _) (.base (.str z)) (kit_ty (r := true) (by decide +kernel)) ?_
      walk_at "dec"
      refine rd_ixT sq rfl ?_
      have l1 : (Str.ofString "\"").length = 1 := by decide +kernel
      refine rd_catX (Nat.le_trans (m := 100) (by omega) (by decide)) ?_
      walk_at "rd"
      refine rd_catX (Nat.le_trans (m := 100) (by rw [len_app]; omega) (by decide)) ?_
      rw [piece_val] at q
      exact q
    | _ => cases hu
  · obtain ⟨a, x, rfl, sq, rx⟩ := r.pr
    cases rx
    walk_at "rd"
    refine rd_ixT sq rfl ?_
    walk_at "dec"
    refine rd_ixT sq rfl ?_
    rw [piece_var] at q
    exact q

end
section
variable {P : Program} {w : World} {K : PySem.W.Frag} {mg : Str → Option Value} {base : Heap}
def wTerms (ts : List TD) : Str := ("(" ++ Txt.join ", " (ts.map pieceS)) ++ ")"
theorem wTerms_len {ts : List TD} (h : ∀ t ∈ ts, termS t) : (wTerms ts).length ≤ 2 + ts.length * 1923 := by
  unfold wTerms
  rw [len_app, len_app, show (Str.ofString "(").length = 1 by decide +kernel, show (Str.ofString ")").length = 1 by decide +kernel]
  have h1 := join_len ", " (ts.map pieceS)
  rw [List.map_map, List.length_map, show (Str.ofString ", ").length = 2 by decide +kernel] at h1
  have h2 : (ts.map ((fun x : Str => x.length) ∘ pieceS)).sum ≤ ts.length * 1921 := sum_le _ 1921 ts fun x hx => piece_len (h x hx)
  omega
theorem take_snocF {α β : Type} {f : α → β} {l : List α} {i : Nat} {x : α} (h : l[i]? = some x) : (l.take (i + 1)).map f = (l.take i).map f ++ [f x] := by
  rw [List.take_succ, h, List.map_append]; rfl
def spWT (K : PySem.W.Frag) : Sp := fun vs H Q _ => ∃ (v : V) (ts : List TD), vs = [v] ∧ Rp K H v (.tup ts) ∧ ts.length ≤ 40 ∧ (∀ t ∈ ts, termS t) ∧ ∀ H', Same H H' → Q (.str (wTerms ts)) H'
theorem ok_wterms (T : Tx mg) {f f1 : Addr} {fd d1 : FuncData} (F : Dn K mg "_law_written_terms" sLWrittenTerms ["terms"] f fd)
    (DLTermPiece : Dn K mg "_law_term_piece" sLTermPiece ["term"] f1 d1) (GLTermPiece : FnOk P w K mg base CX0 1 f1 d1 ["term"] (spPiece K)) : FnOk P w K mg base CX0 2 f fd ["terms"] (spWT K) := by
  refine F.F.ok scLWrittenTerms (fun vs H Q E h => ?_) (fun cdv A outer s H vs Q E hr h => ?_)
  · obtain ⟨v, ts, rfl, _⟩ := h
    rfl
  obtain ⟨v, ts, rfl, r, hl, ht, q⟩ := h
  have nd := scLWrittenTerms.nd
  refine ⟨_, (pss_one (ps_ret (pe_op op_catX (pe_op op_catX pe_str (pe_joinX (K := K) rfl pe_str (pe_lc (own := [("term", (1 : Nat))]) (g := gName 1) rfl nd (k_pit K rfl (pv 0)) (blkOk_by (own := [("term", (1 : Nat))]) (N := nLWrittenTerms) (sc := defScope sLWrittenTerms) (by decide +kernel)) (fun _ _ _ _ _ => pg_name (i := 1) nd rfl (Or.inl rfl)) (fun _ _ _ _ _ => pts_nil) (fun _ _ _ _ _ => (pe_call GLTermPiece (hr.mono (by omega)) rfl DLTermPiece.m DLTermPiece.F.kp DLTermPiece.b .nil pass0 (pa_cons (pv 1) pa_nil)))))) pe_str))), ?_⟩
  obtain ⟨a, xs, rfl, sq, ra⟩ := r.seq
  have lx : xs.length = ts.length := ra.length
  walk_at "rd"
  refine rd_m1 ?_
  walk_at "rd"
  refine ⟨⟨_, rfl⟩, ?_⟩
  walk_at "rd"
  refine rd_it sq fun D hD => ?_
  refine lc_tup (K := K) (a := a) (xs := xs) (fun i H' => H' D = some (.lst (((ts.take i).map pieceS).map V.str)) ∧ Same H H') ⟨upd_same, same_new hD⟩ (fun i H' _ p => same_sqt p.2 sq) ?_ ?_
  · rintro i x H' hx ⟨e1, g⟩
    obtain ⟨t, et, rt⟩ := rpa_at (same_rpa g ra) hx
    refine ⟨rfl, ?_⟩
    walk_at "rd"
    refine ⟨x, t, rfl, rt, ht t (List.mem_of_getElem? et), ?_⟩
    have li := (List.getElem?_eq_some_iff.mp et).1
    refine ⟨_, e1, by rw [List.length_map, List.length_map, List.length_take]; exact small1000 (by omega), ?_, same_own g hD⟩
    rw [upd_same, take_snocF et, List.map_append]; rfl
  rintro H' ⟨e1, g⟩
  rw [List.take_of_length_le (by omega)] at e1
  walk_at "rd"
  have hw := wTerms_len ht
  unfold wTerms at hw
  rw [len_app, len_app] at hw
  have h1 : (ts.map ((fun x : Str => x.length) ∘ pieceS)).sum ≤ ts.length * 1921 := sum_le _ 1921 ts fun x hx => piece_len (ht x hx)
  have hs : ts.length * 1921 ≤ 40 * 1921 := Nat.mul_le_mul_right _ hl
  have hs2 : ts.length * 1923 ≤ 40 * 1923 := Nat.mul_le_mul_right _ hl
  refine rd_joinG (SqL.of e1) ?_ ?_
  · rw [List.map_map, List.length_map, show (Str.ofString ", ").length = 2 by decide +kernel]
    omega
  have l1 : (Str.ofString "(").length = 1 := by decide +kernel
  have l2 : (Str.ofString ")").length = 1 := by decide +kernel
  refine rd_catX (Nat.le_trans (m := 100000) (by omega) (by decide)) ?_
  walk_at "rd"
  refine rd_catX (Nat.le_trans (m := 100000) (by rw [len_app]; omega) (by decide)) ?_
  exact q _ g

end
section
variable {P : Program} {w : World} {K : PySem.W.Frag} {mg : Str → Option Value} {base : Heap}
def wAtom : TD → Str
  | .tup [.str z, .tup ts] => z ++ wTerms ts
  | _ => ""
def wAtoms (bd : List TD) : List Str := if bd = [] then ["true"] else bd.map wAtom
def wJoin : TD → Str
  | .tup [.tup hd, .tup bd] => (wTerms hd ++ " if ") ++ Txt.join " and " (wAtoms bd)
  | _ => ""
def wQuest : TD → Str
  | .tup [.int w, .tup []] => "none " ++ toString w
  | .tup [.int _, .tup js] => Txt.join "; " (js.map wJoin)
  | _ => ""
def atomS (t : TD) : Prop := ∃ (z : Str) (ts : List TD), t = .tup [.str z, .tup ts] ∧ z.length ≤ 23 ∧ ts.length ≤ 18 ∧ ∀ x ∈ ts, termS x
def joinS (t : TD) : Prop := ∃ hd bd, t = .tup [.tup hd, .tup bd] ∧ hd.length ≤ 18 ∧ bd.length ≤ 18 ∧ (∀ x ∈ hd, termS x) ∧ ∀ x ∈ bd, atomS x
def questS (t : TD) : Prop := ∃ (w : Int) (js : List TD), t = .tup [.int w, .tup js] ∧ w.natAbs.log2 < 1920 ∧ js.length ≤ 15 ∧ ∀ j ∈ js, joinS j
theorem wT18 {ts : List TD} (h : ∀ t ∈ ts, termS t) (h1 : ts.length ≤ 18) : (wTerms ts).length ≤ 34616 := by
  have := wTerms_len h
  have : ts.length * 1923 ≤ 18 * 1923 := Nat.mul_le_mul_right _ h1
  omega
theorem wAtom_len {t : TD} (h : atomS t) : (wAtom t).length ≤ 34639 := by
  obtain ⟨z, ts, rfl, hz, hl, ht⟩ := h
  show (z ++ wTerms ts).length ≤ _
  rw [len_app]
  have := wT18 ht hl
  omega
theorem wAtoms_sum {bd : List TD} (h : ∀ x ∈ bd, atomS x) (hl : bd.length ≤ 18) : ((wAtoms bd).map (fun x : Str => x.length)).sum + (wAtoms bd).length * 5 ≤ 623592 := by
  unfold wAtoms
  by_cases e : bd = []
  · rw [if_pos e]
    show (Str.ofString "true").length + 0 + 1 * 5 ≤ _
    rw [show (Str.ofString "true").length = 4 by decide +kernel]
    decide
  · rw [if_neg e, List.map_map, List.length_map]
    have h2 : (bd.map ((fun x : Str => x.length) ∘ wAtom)).sum ≤ bd.length * 34639 := sum_le _ _ bd fun x hx => wAtom_len (h x hx)
    have : bd.length * 34639 ≤ 18 * 34639 := Nat.mul_le_mul_right _ hl
    omega
theorem wJoin_len {t : TD} (h : joinS t) : (wJoin t).length ≤ 658212 := by
  obtain ⟨hd, bd, rfl, l1, l2, h1, h2⟩ := h
  show ((wTerms hd ++ " if ") ++ Txt.join " and " (wAtoms bd)).length ≤ _
  rw [len_app, len_app]
  have a := wT18 h1 l1
  have b := wAtoms_sum h2 l2
  have c := join_len " and " (wAtoms bd)
  rw [show (Str.ofString " and ").length = 5 by decide +kernel] at c
  have d : (Str.ofString " if ").length = 4 := by decide +kernel
  omega
def spWQ (K : PySem.W.Frag) : Sp := fun vs H Q _ => ∃ (v : V) (t : TD), vs = [v] ∧ Rp K H v t ∧ questS t ∧ ∀ H', Same H H' → Q (.str (wQuest t)) H'
theorem ok_written (T : Tx mg) {f f1 : Addr} {fd d1 : FuncData} (F : Dn K mg "_law_written" sLWritten ["question"] f fd)
    (DLWrittenTerms : Dn K mg "_law_written_terms" sLWrittenTerms ["terms"] f1 d1) (GLWrittenTerms : FnOk P w K mg base CX0 2 f1 d1 ["terms"] (spWT K)) : FnOk P w K mg base CX0 3 f fd ["question"] (spWQ K) := by
  refine F.F.ok scLWritten (fun vs H Q E h => ?_) (fun cdv A outer s H vs Q E hr h => ?_)
  · obtain ⟨v, t, rfl, _⟩ := h
    rfl
  obtain ⟨v, t, rfl, r, ⟨wd, js, rfl, hw, hl, hj⟩, q⟩ := h
  have nd := scLWritten.nd
  refine ⟨_, (pss_cons (ps_if (pt_cmpR op_eq (pe_callB (k_len K rfl) rfl T.m_len PySem.boot_len (pa_cons (pe_ix (k_ixT K rfl) (pv 0) pe_int (fun _ _ => rfl)) pa_nil)) pe_int (nomark _)) (pss_one (ps_ret (pe_op op_catX pe_str (pe_callTy c_strI rfl T.m_str (by decide +kernel) (pa_cons (pe_ix (k_ixT K rfl) (pv 0) pe_int (fun _ _ => rfl)) pa_nil))))) pss_nil)
  (pss_cons (ps_set (i := 1) nd rfl (Or.inl rfl) (pe_lst pa_nil))
  (pss_cons (ps_for PassesOwn.never rfl (k_pit K rfl (pe_ix (k_ixT K rfl) (pv 0) pe_int (fun _ _ => rfl))) (pg_name (i := 2) nd rfl (Or.inl rfl)) (pss_cons (ps_setLc (i := 3) (own := [("atom", (4 : Nat))]) (g := gName 4) rfl nd rfl rfl (sw_true rfl rfl rfl (by decide +kernel)) (k_pit K rfl (pe_ix (k_ixT K rfl) (pv 2) pe_int (fun _ _ => rfl))) (blkOk_by (own := [("atom", (4 : Nat))]) (N := nLWritten) (sc := defScope sLWritten) (by decide +kernel)) (fun _ _ _ _ _ => pg_name (i := 4) nd rfl (Or.inl rfl)) (fun _ _ _ _ _ => pts_nil) (fun _ _ _ _ _ => (pe_op op_catX (pe_ix (k_ixT K rfl) (pv 4) pe_int (fun _ _ => rfl)) (pe_call GLWrittenTerms (hr.mono (by omega)) rfl DLWrittenTerms.m DLWrittenTerms.F.kp DLWrittenTerms.b .nil pass0 (pa_cons (pe_ix (k_ixT K rfl) (pv 4) pe_int (fun _ _ => rfl)) pa_nil)))))
  (C8.pss_cut (ps_if (pt_cmpR op_eq (pe_callB (k_len K rfl) rfl T.m_len PySem.boot_len (pa_cons (pv 3) pa_nil)) pe_int (nomark _)) (pss_one (ps_set (i := 3) nd rfl (Or.inl rfl) (pe_lst (pa_cons pe_str pa_nil)))) pss_nil)
  (pss_one (ps_expr (k_bm K rfl (pe_bm PySem.F.plainAttrs_list PySem.F.slot_list_append PySem.F.type_list_append mt_append (pv 1) (pa_cons (pe_op op_catX (pe_op op_catX (pe_call GLWrittenTerms (hr.mono (by omega)) rfl DLWrittenTerms.m DLWrittenTerms.F.kp DLWrittenTerms.b .nil pass0 (pa_cons (pe_ix (k_ixT K rfl) (pv 2) pe_int (fun _ _ => rfl)) pa_nil)) pe_str) (pe_joinX (K := K) rfl pe_str (pv 3))) pa_nil))))))))
  (pss_one (ps_ret (pe_joinX (K := K) rfl pe_str (pv 1))))))), ?_⟩
  obtain ⟨a, xs, rfl, sq, ra⟩ := r.seq
  cases ra with
  | cons r1 rb =>
  cases r1
  cases rb with
  | cons r2 rc =>
  cases rc
  obtain ⟨ja, jx, rfl, sqj, rj⟩ := r2.seq
  have lj : jx.length = js.length := rj.length
  walk_at "rd"
  refine rd_ixT sq rfl ?_
  walk_at "rd"
  refine rd_lenT sqj ?_
  walk_at "rd"
  refine iteD (fun c => ?_) (fun c => ?_)
  · have c0 : js = [] := List.length_eq_zero_iff.mp (by injection c; omega)
    subst c0
    walk_at "rd"
    refine rd_ixT sq rfl ?_
    walk_at "rd"
    refine rd_strI hw ?_
    have l1 : (Str.ofString "none ").length = 5 := by decide +kernel
    have l2 := PyProof.Rows.int_text_len_1921 hw
    refine rd_catX (Nat.le_trans (m := 2000) (by omega) (by decide)) ?_
    exact q _ (.refl _)
  have cn : js ≠ [] := fun e => c (by rw [lj, e]; rfl)
  walk_at "rd"
  refine rd_mk (len_ok rfl) fun R H1 nR eR s1 => ?_
  walk_at "rd"
  refine rd_ixT (same_sqt s1 sq) rfl ?_
  walk_at "rd"
  refine rd_it (same_sqt s1 sqj) ?_
  refine for_it (walk_tup (K := K) (a := ja) (xs := jx)) (fun i σ' H' => ∃ (v2 v3 : Option V), σ' = [some (.ref a), some (.ref R), v2, v3, none] ∧ Same H H' ∧ H' R = some (.lst (((js.take i).map wJoin).map V.str))) ⟨none, none, rfl, s1, eR⟩ (fun i σ' H' _ p => by obtain ⟨_, _, _, sm, _⟩ := p; exact same_sqt sm sqj) ?_ ?_
  · rintro i x σ' H2 H2' hi ⟨v2, v3, rfl, g2, e2⟩ ⟨rfl, hx⟩
    obtain ⟨t, et, rt⟩ := rpa_at (same_rpa g2 rj) hx
    have li := (List.getElem?_eq_some_iff.mp et).1
    have jt := hj t (List.mem_of_getElem? et)
    have hjt := jt
    obtain ⟨hd, bd, rfl, lh, lb, hh, hb⟩ := jt
    obtain ⟨ta, tx, rfl, sqt, rt2⟩ := rt.seq
    cases rt2 with
    | cons rh rt3 =>
    cases rt3 with
    | cons rb rt4 =>
    cases rt4
    obtain ⟨ba, bx, rfl, sqb, rbx⟩ := rb.seq
    have lbx : bx.length = bd.length := rbx.length
    walk_at "rd"
    refine rd_ixT sqt rfl ?_
    walk_at "rd"
    refine rd_it sqb fun D hD => ?_
    refine lc_tup (K := K) (a := ba) (xs := bx) (fun k H' => H' D = some (.lst (((bd.take k).map wAtom).map V.str)) ∧ Same H2' H') ⟨upd_same, same_new hD⟩ (fun k H' _ p => same_sqt p.2 sqb) ?_ ?_
    · rintro k y H3 hy ⟨e3, g3⟩
      obtain ⟨t2, et2, rt2⟩ := rpa_at (same_rpa g3 rbx) hy
      have at2' := hb t2 (List.mem_of_getElem? et2)
      have hlen := wAtom_len at2'
      obtain ⟨z, ts, rfl, hz, lts, hts⟩ := at2'
      obtain ⟨aa, u, rfl, sqa, ru⟩ := rt2.pr
      refine ⟨rfl, ?_⟩
      walk_at "rd"
      refine rd_ixT sqa rfl ?_
      walk_at "rd"
      refine rd_ixT sqa rfl ?_
      refine ⟨u, ts, rfl, ru, by omega, hts, fun H4 g4 => ?_⟩
      have lw := wT18 hts lts
      refine rd_catX (Nat.le_trans (m := 100000) (by omega) (by decide)) ?_
      have lk := (List.getElem?_eq_some_iff.mp et2).1
      refine ⟨_, g4 _ _ e3, by rw [List.length_map, List.length_map, List.length_take]; exact small1000 (by omega), ?_, same_own (g3.trans g4) hD⟩
      rw [upd_same, take_snocF et2, List.map_append]; rfl
    rintro H3 ⟨e3, g3⟩
    rw [List.take_of_length_le (by omega)] at e3
    walk_at "rd"
    refine ⟨fun σ' H' => ∃ B : Addr, σ' = [some (.ref a), some (.ref R), some (.ref ta), some (.ref B), none] ∧ Same H2' H' ∧ H' B = some (.lst ((wAtoms bd).map V.str)), ?_, ?_⟩
    · walk_at "rd"
      refine rd_len (SqL.of e3) ?_
      walk_at "rd"
      refine iteD (fun c2 => ?_) (fun c2 => ?_)
      · walk_at "rd"
        refine rd_mk (len_ok rfl) fun B H4 nB eB sB => ?_
        walk_at "rd"
        have cb : bd = [] := List.length_eq_zero_iff.mp (by injection c2 with c2; rw [List.length_map, List.length_map] at c2; omega)
        refine ⟨B, rfl, g3.trans sB, ?_⟩
        unfold wAtoms
        rw [if_pos cb]
        exact eB
      · walk_at "rd"
        have cb : bd ≠ [] := fun e => c2 (by rw [e]; rfl)
        refine ⟨D, rfl, g3, ?_⟩
        unfold wAtoms
        rw [if_neg cb]
        exact e3
    rintro σ' H4 ⟨B, rfl, g4, eB⟩
    walk_at "rd"
    have g24 := g2.trans g4
    refine rd_ty (SqL.of (g4 _ _ e2)) ?_
    walk_at "rd"
    refine rd_ixT (same_sqt g4 sqt) rfl ?_
    walk_at "rd"
    refine ⟨_, hd, rfl, same_rp g4 rh, by omega, hh, fun H5 g5 => ?_⟩
    walk_at "rd"
    have lw := wT18 hh lh
    have l4 : (Str.ofString " if ").length = 4 := by decide +kernel
    refine rd_catX (Nat.le_trans (m := 100000) (by omega) (by decide)) ?_
    walk_at "rd"
    refine rd_m1 ?_
    walk_at "rd"
    refine ⟨⟨_, rfl⟩, ?_⟩
    walk_at "rd"
    have hsum := wAtoms_sum hb lb
    refine rd_joinG (SqL.of (g5 _ _ eB)) (by rw [show (Str.ofString " and ").length = 5 by decide +kernel]; omega) ?_
    have hjl := wJoin_len hjt
    refine rd_catX (Nat.le_trans (m := 658212) (by have e : ((wTerms hd ++ " if ") ++ Txt.join " and " (wAtoms bd)).length ≤ 658212 := hjl; rw [len_app] at e; exact e) (by decide)) ?_
    walk_at "rd"
    refine rd_append (g5 _ _ (g4 _ _ e2)) (by rw [List.length_map, List.length_map, List.length_take]; exact small1000 (by omega)) ?_
    walk_at "rd"
    have nRH : H R = none := nR
    refine ⟨_, _, rfl, same_own (g24.trans g5) nRH, ?_⟩
    rw [upd_same, take_snocF et, List.map_append]; rfl
  · rintro σ' H2 ⟨v2, v3, rfl, g2, e2⟩
    rw [List.take_of_length_le (by omega)] at e2
    walk_at "rd"
    refine rd_m1 ?_
    walk_at "rd"
    refine ⟨⟨_, rfl⟩, ?_⟩
    walk_at "rd"
    refine rd_joinG (SqL.of e2) ?_ ?_
    · rw [List.map_map, List.length_map, show (Str.ofString "; ").length = 2 by decide +kernel]
      have h2 : (js.map ((fun x : Str => x.length) ∘ wJoin)).sum ≤ js.length * 658212 := sum_le _ _ js fun x hx => wJoin_len (hj x hx)
      have : js.length * 658212 ≤ 15 * 658212 := Nat.mul_le_mul_right _ hl
      omega
    have e : wQuest (.tup [.int wd, .tup js]) = Txt.join "; " (js.map wJoin) := by
      cases js with
      | nil => exact absurd rfl cn
      | cons j r => rfl
    rw [e] at q
    exact q _ g2

end
section
variable {P : Program} {w : World} {K : PySem.W.Frag} {mg : Str → Option Value} {base : Heap}
/-! the written form is laid out of pieces -/
def LayG (S : List Nat → Prop) (ts : List Tk) (cs : List Nat) : Prop := ∀ ts' rest, Lays ts' rest → S rest → Lays (ts ++ ts') (cs ++ rest)
/-- neither a letter nor a digit stands ahead -/
def Cut (cs : List Nat) : Prop := runLen (sg cLETTERS) cs = 0 ∧ runLen (sg cDIGITS) cs = 0
def Any (_ : List Nat) : Prop := True
def HeadCut (cs : List Nat) : Prop := ∃ c r, cs = c :: r ∧ c ∉ sg cLETTERS ∧ c ∉ sg cDIGITS
theorem HeadCut.cut {cs : List Nat} (h : HeadCut cs) (rest : List Nat) : Cut (cs ++ rest) := by
  obtain ⟨c, r, rfl, h1, h2⟩ := h
  exact ⟨run_no h1, run_no h2⟩
theorem LayG.mono {S S' : List Nat → Prop} {ts : List Tk} {cs : List Nat} (h : LayG S ts cs) (q : ∀ r, S' r → S r) : LayG S' ts cs := fun ts' rest hl hs => h ts' rest hl (q rest hs)
theorem LayG.seq {S S' : List Nat → Prop} {ts ts2 : List Tk} {cs cs2 : List Nat} (h : LayG S ts cs) (h2 : LayG S' ts2 cs2) (q : ∀ r, S' r → S (cs2 ++ r)) : LayG S' (ts ++ ts2) (cs ++ cs2) := fun ts' rest hl hs => by
  rw [List.append_assoc, List.append_assoc]
  exact h _ _ (h2 ts' rest hl hs) (q rest hs)
theorem LayG.lays {S : List Nat → Prop} {ts : List Tk} {cs : List Nat} (h : LayG S ts cs) (q : S []) : Lays ts cs := by
  have := h [] [] (.nil 0) q
  rw [List.append_nil, List.append_nil] at this
  exact this
theorem lays_pad (k : Nat) : ∀ {ts : List Tk} {cs : List Nat}, Lays ts cs → Lays ts (List.replicate k 32 ++ cs)
  | _, _, .nil m => by rw [List.replicate_append_replicate]; exact .nil _
  | _, _, .cons m ok st hl => by rw [← List.append_assoc, List.replicate_append_replicate]; exact .cons _ ok st hl
theorem lay_sp (k : Nat) : LayG Any [] (List.replicate k 32) := fun ts' rest hl _ => lays_pad k hl
theorem lay_pc {t : Tk} (ok : PcOk t) : LayG (Stop t) [t] t.sgn := fun ts' rest hl hs => by
  have := Lays.cons 0 ok hs hl
  exact this
theorem stop_cut {t : Tk} {cs : List Nat} (h : Cut cs) : Stop t cs := by
  cases t with
  | word z => exact h.1
  | num i => exact h.2
  | _ => trivial
theorem lay_cut {t : Tk} (ok : PcOk t) : LayG Cut [t] t.sgn := (lay_pc ok).mono fun _ h => stop_cut h
theorem lay_sign {c : Nat} (ok : c ∈ sg cSIGNS) : LayG Any [.sign c] [c] := (lay_pc (t := .sign c) ok).mono fun _ _ => trivial
theorem letB {z : Str} (h : wordB z = true) : LetB z := by
  unfold wordB at h
  rw [Bool.and_eq_true, List.all_eq_true] at h
  refine ⟨fun c hc => of_decide_eq_true (h.1 c hc), fun e => ?_⟩
  have := of_decide_eq_true h.2
  rw [← sg_len, e] at this
  cases this
def TmOk (t : Tm) : Prop := PcOk (tkTm t)
def AtOk (a : At) : Prop := LetB a.nm ∧ ∀ t ∈ a.ts, TmOk t
def JnOk (j : Jn) : Prop := (∀ t ∈ j.hd, TmOk t) ∧ ∀ a ∈ j.bd, AtOk a
theorem piece_sg (t : Tm) : sg (pieceS t.td) = (tkTm t).sgn := by
  cases t with
  | var z => show sg (pieceS (.tup [.str "var", .str z])) = _; rw [piece_var]; rfl
  | wrd z =>
    show sg (pieceS (.tup [.str "value", .str z])) = _
    rw [piece_val, sg_app, sg_app, show sg ("\"" : Str) = [34] by decide +kernel, List.append_assoc]; rfl
  | num i => rfl
theorem join_one (a y : Str) : Txt.join a [y] = y := by rw [TL.join_eq]; rfl
theorem join_two (a y x : Str) (r : List Str) : Txt.join a (y :: x :: r) = y ++ a ++ Txt.join a (x :: r) := by rw [TL.join_eq, TL.join_eq]; rfl
theorem join_nil (a : Str) : sg (Txt.join a []) = [] := by rw [TL.join_eq]; rfl
theorem sp1 : LayG Any [] [32] := lay_sp 1
theorem hc32 (r : List Nat) : HeadCut (32 :: r) := ⟨32, r, rfl, no32.2.1, no32.2.2⟩
theorem hc40 (r : List Nat) : HeadCut (40 :: r) := ⟨40, r, rfl, by decide +kernel, by decide +kernel⟩
theorem hc41 (r : List Nat) : HeadCut (41 :: r) := ⟨41, r, rfl, by decide +kernel, by decide +kernel⟩
theorem hc44 (r : List Nat) : HeadCut (44 :: r) := ⟨44, r, rfl, by decide +kernel, by decide +kernel⟩
theorem hc59 (r : List Nat) : HeadCut (59 :: r) := ⟨59, r, rfl, by decide +kernel, by decide +kernel⟩
theorem lay_terms0 : ∀ ts : List Tm, (∀ t ∈ ts, TmOk t) → LayG Cut (inner ts) (sg (Txt.join ", " ((ts.map Tm.td).map pieceS)))
  | [], _ => by
    rw [List.map_nil, List.map_nil, join_nil]
    exact (lay_sp 0).mono fun _ _ => trivial
  | [t], h => by
    rw [List.map_cons, List.map_nil, List.map_cons, List.map_nil, join_one, piece_sg]
    exact lay_cut (h t List.mem_cons_self)
  | t :: u :: r, h => by
    have ih := lay_terms0 (u :: r) fun x hx => h x (List.mem_cons_of_mem _ hx)
    rw [List.map_cons, List.map_cons, List.map_cons, List.map_cons, join_two, sg_app, sg_app, piece_sg, show sg (", " : Str) = [44] ++ [32] by decide +kernel, List.append_assoc, List.append_assoc]
    refine (lay_cut (h t List.mem_cons_self)).seq (ts2 := .sign 44 :: inner (u :: r)) ?_ fun rest _ => (hc44 _).cut rest
    exact (lay_sign (c := 44) (by decide +kernel)).seq (sp1.seq ih fun _ _ => trivial) fun _ _ => trivial
theorem lay_terms {ts : List Tm} (h : ∀ t ∈ ts, TmOk t) : LayG Any (tksTerms ts) (sg (wTerms (ts.map Tm.td))) := by
  unfold wTerms
  rw [sg_app, sg_app, show sg ("(" : Str) = [40] by decide +kernel, show sg (")" : Str) = [41] by decide +kernel, List.append_assoc]
  refine (lay_sign (c := 40) (by decide +kernel)).seq (ts2 := inner ts ++ [.sign 41]) ?_ fun _ _ => trivial
  exact (lay_terms0 ts h).seq (lay_sign (c := 41) (by decide +kernel)) fun rest _ => (hc41 []).cut rest
theorem wTerms_head (ts : List TD) : HeadCut (sg (wTerms ts)) := by
  unfold wTerms
  rw [sg_app, sg_app, show sg ("(" : Str) = [40] by decide +kernel, List.append_assoc]
  exact hc40 _
theorem lay_atom {a : At} (h : AtOk a) : LayG Any (tksAtom a) (sg (wAtom a.td)) := by
  show LayG Any (Tk.word a.nm :: tksTerms a.ts) (sg (a.nm ++ wTerms (a.ts.map Tm.td)))
  rw [sg_app]
  exact (lay_cut (t := .word a.nm) h.1).seq (lay_terms h.2) fun rest _ => (wTerms_head _).cut rest
theorem lay_word (z : Str) (h : wordB z = true) : LayG Cut [.word z] (sg z) := lay_cut (t := .word z) (letB h)
theorem lay_atoms : ∀ (a : At) (as : List At), (∀ x ∈ a :: as, AtOk x) → LayG Any (tksAtom a ++ tksAnds as) (sg (Txt.join " and " (((a :: as).map At.td).map wAtom)))
  | a, [], h => by
    rw [List.map_cons, List.map_nil, List.map_cons, List.map_nil, join_one]
    show LayG Any (tksAtom a ++ []) _
    rw [List.append_nil]
    exact lay_atom (h a List.mem_cons_self)
  | a, b :: r, h => by
    have ih := lay_atoms b r fun x hx => h x (List.mem_cons_of_mem _ hx)
    rw [List.map_cons, List.map_cons, List.map_cons, List.map_cons, join_two, sg_app, sg_app, show sg (" and " : Str) = [32] ++ (sg ("and" : Str) ++ [32]) by decide +kernel, List.append_assoc, List.append_assoc, List.append_assoc]
    refine (lay_atom (h a List.mem_cons_self)).seq (ts2 := .word "and" :: (tksAtom b ++ tksAnds r)) ?_ fun _ _ => trivial
    refine sp1.seq (ts := []) (ts2 := .word "and" :: (tksAtom b ++ tksAnds r)) ?_ fun _ _ => trivial
    refine (lay_word "and" (by decide +kernel)).seq (ts2 := tksAtom b ++ tksAnds r) ?_ fun rest _ => (hc32 _).cut rest
    exact sp1.seq ih fun _ _ => trivial
theorem lay_body {bd : List At} (h : ∀ x ∈ bd, AtOk x) : LayG Cut (tksBody bd) (sg (Txt.join " and " (wAtoms (bd.map At.td)))) := by
  cases bd with
  | nil =>
    show LayG Cut [.word "true"] (sg (Txt.join " and " ["true"]))
    rw [join_one]
    exact lay_word "true" (by decide +kernel)
  | cons a as =>
    have e : wAtoms ((a :: as).map At.td) = ((a :: as).map At.td).map wAtom := by unfold wAtoms; rw [if_neg (by simp)]
    rw [e]
    exact (lay_atoms a as h).mono fun _ _ => trivial
theorem lay_join {j : Jn} (h : JnOk j) : LayG Cut (tksJoin j) (sg (wJoin j.td)) := by
  show LayG Cut (tksTerms j.hd ++ (Tk.word "if" :: tksBody j.bd)) (sg ((wTerms (j.hd.map Tm.td) ++ " if ") ++ Txt.join " and " (wAtoms (j.bd.map At.td))))
  rw [sg_app, sg_app, show sg (" if " : Str) = [32] ++ (sg ("if" : Str) ++ [32]) by decide +kernel, List.append_assoc, List.append_assoc, List.append_assoc]
  refine (lay_terms h.1).seq (ts2 := .word "if" :: tksBody j.bd) ?_ fun _ _ => trivial
  refine sp1.seq (ts := []) (ts2 := .word "if" :: tksBody j.bd) ?_ fun _ _ => trivial
  refine (lay_word "if" (by decide +kernel)).seq (ts2 := tksBody j.bd) ?_ fun rest _ => (hc32 _).cut rest
  exact sp1.seq (lay_body h.2) fun _ _ => trivial
theorem lay_joins : ∀ (j : Jn) (js : List Jn), (∀ x ∈ j :: js, JnOk x) → LayG Cut (tksJoin j ++ tksSemis js) (sg (Txt.join "; " (((j :: js).map Jn.td).map wJoin)))
  | j, [], h => by
    rw [List.map_cons, List.map_nil, List.map_cons, List.map_nil, join_one]
    show LayG Cut (tksJoin j ++ []) _
    rw [List.append_nil]
    exact lay_join (h j List.mem_cons_self)
  | j, k :: r, h => by
    have ih := lay_joins k r fun x hx => h x (List.mem_cons_of_mem _ hx)
    rw [List.map_cons, List.map_cons, List.map_cons, List.map_cons, join_two, sg_app, sg_app, show sg ("; " : Str) = [59] ++ [32] by decide +kernel, List.append_assoc, List.append_assoc]
    refine (lay_join (h j List.mem_cons_self)).seq (ts2 := .sign 59 :: (tksJoin k ++ tksSemis r)) ?_ fun rest _ => (hc59 _).cut rest
    exact (lay_sign (c := 59) (by decide +kernel)).seq (sp1.seq ih fun _ _ => trivial) fun _ _ => trivial
/-- the written form of a question -/
theorem lays_written {n : Int} {js : List Jn} (hn : n.natAbs < 10 ^ 60) (h : ∀ j ∈ js, JnOk j) : Lays (tksQuest n js) (sg (wQuest (questD n js))) := by
  cases js with
  | nil =>
    show Lays [.word "none", .num n] (sg ("none " ++ toString n))
    rw [sg_app, show sg ("none " : Str) = sg ("none" : Str) ++ [32] by decide +kernel, List.append_assoc]
    have q : LayG Cut [.word "none", .num n] (sg ("none" : Str) ++ ([32] ++ (Tk.num n).sgn)) := (lay_word "none" (by decide +kernel)).seq (ts2 := [.num n]) (sp1.seq (lay_cut (t := .num n) hn) fun _ _ => trivial) fun rest _ => (hc32 _).cut rest
    exact q.lays ⟨rfl, rfl⟩
  | cons j js =>
    have e : wQuest (questD n (j :: js)) = Txt.join "; " (((j :: js).map Jn.td).map wJoin) := rfl
    rw [e]
    exact (lay_joins j js h).lays ⟨rfl, rfl⟩
/-- what is read of a text that is laid out of a question's pieces -/
theorem read_laid {n : Int} {js : List Jn} {cs : List Nat} (h : Lays (tksQuest n js) cs) (f : Form n js) : ∃ l', readQ (toks cs) = .ok ((n, js), l') := by
  obtain ⟨l, e, hl⟩ := lays_toks h
  rw [e]
  exact quest_ok hl f

end
section
variable {P : Program} {w : World} {K : PySem.W.Frag} {mg : Str → Option Value} {base : Heap}
def spWords : Sp := fun vs H Q _ => ∃ (d : Addr) (n : Nat), vs = [.ref d, .int n] ∧ DrAt d H ∧ n ≤ 26 ∧ ∀ (L : Addr) (ws : List Str) (H' : Hp), H L = none → Dr d H H' → Wl d L ws H' → ws.length = n → Q (.ref L) H'
theorem words_weak {k : Nat} {f : Addr} {fd : FuncData} {ps : List Str} (G : FnOk P w K mg base CX0 k f fd ps spWordsN) : FnOk P w K mg base CX0 k f fd ps spWords :=
  G.imp fun vs H Q E ⟨d, n, e, hd, hn, q⟩ => ⟨d, n, e, hd, hn, fun L ws H' h1 h2 h3 h4 _ => q L ws H' h1 h2 h3 h4⟩

end
section
variable {P : Program} {w : World} {K : PySem.W.Frag} {mg : Str → Option Value} {base : Heap}
theorem four_ok : ∀ z ∈ [("if" : Str), "and", "true", "none"], WordOk z := by
  intro z hz
  simp only [List.mem_cons, List.not_mem_nil, or_false] at hz
  rcases hz with rfl | rfl | rfl | rfl
  · exact ⟨by decide +kernel, Nat.le_of_ble_eq_true (by decide +kernel)⟩
  · exact ⟨by decide +kernel, Nat.le_of_ble_eq_true (by decide +kernel)⟩
  · exact ⟨by decide +kernel, Nat.le_of_ble_eq_true (by decide +kernel)⟩
  · exact ⟨by decide +kernel, Nat.le_of_ble_eq_true (by decide +kernel)⟩
def spSomeWords : Sp := fun vs H Q _ => ∃ (d : Addr) (n : Nat), vs = [.ref d, .int n] ∧ DrAt d H ∧ 1 ≤ n ∧ n ≤ 26 ∧ ∀ (L : Addr) (ws : List Str) (H' : Hp), Dr d H H' → Wl d L ws H' → ws.length = n → Q (.ref L) H'
theorem ok_someW (T : Tx mg) {f f1 f2 : Addr} {fd d1 d2 : FuncData} (F : Dn K mg "_law_some_words" sLSomeWords ["draws", "many"] f fd) (DLTake : Dn K mg "_law_take" sLTake ["draws", "many"] f1 d1) (GLTake : FnOk P w K mg base CX0 1 f1 d1 ["draws", "many"] spTake)
    (DLWords : Dn K mg "_law_words" sLWords ["draws", "many"] f2 d2) (GLWords : FnOk P w K mg base CX0 2 f2 d2 ["draws", "many"] spWords) : FnOk P w K mg base CX0 3 f fd ["draws", "many"] spSomeWords := by
  refine F.F.ok scLSomeWords (fun vs H Q E h => ?_) (fun cdv A outer s H vs Q E hr h => ?_)
  · obtain ⟨d, n, rfl, _⟩ := h
    rfl
  obtain ⟨d, n, rfl, hd, hn1, hn, q⟩ := h
  have nd := scLSomeWords.nd
  refine ⟨_, (pss_cons (ps_set (i := 2) nd rfl (Or.inl rfl) (pe_call GLWords (hr.mono (by omega)) rfl DLWords.m DLWords.F.kp DLWords.b .nil pass0 (pa_cons (pv 0) (pa_cons (pv 1) pa_nil))))
  (C8.pss_cut (ps_if (pt_cmpR op_eq (pe_call GLTake (hr.mono (by omega)) rfl DLTake.m DLTake.F.kp DLTake.b .nil pass0 (pa_cons (pv 0) (pa_cons pe_int pa_nil))) pe_int (nomark _)) (pss_one (ps_for PassesOwn.never rfl (k_pil K rfl (pe_lst (pa_cons pe_str (pa_cons pe_str (pa_cons pe_str (pa_cons pe_str pa_nil)))))) (pg_name (i := 3) nd rfl (Or.inl rfl)) (pss_cons (ps_set (i := 4) nd rfl (Or.inl rfl) (pe_call GLTake (hr.mono (by omega)) rfl DLTake.m DLTake.F.kp DLTake.b .nil pass0 (pa_cons (pv 0) (pa_cons (pv 1) pa_nil))))
  (pss_one (ps_if (PW.pt (pw_and (pt_cmpR (k_notIn K rfl) (pv 3) (pv 2) rfl) (pw_and1 (pt_cmpR op_gt (pe_call GLTake (hr.mono (by omega)) rfl DLTake.m DLTake.F.kp DLTake.b .nil pass0 (pa_cons (pv 0) (pa_cons pe_int pa_nil))) pe_int (nomark _))))) (pss_one (ps_asg (pv 3) (pg_sub (pv 2) (pv 4) set_list))) pss_nil))))) pss_nil)
  (pss_one (ps_ret (pv 2))))), ?_⟩
  walk_at "rd"
  refine ⟨d, n, rfl, hd, hn, fun L ws H1 nL g1 wl lw => ?_⟩
  walk_at "rd"
  refine ⟨fun σ' H' => ∃ (v3 v4 : Option V) (ws : List Str), σ' = [some (.ref d), some (.int n), some (.ref L), v3, v4] ∧ Dr d H H' ∧ Wl d L ws H' ∧ ws.length = n, ?_, ?_⟩
  · walk_at "rd"
    refine take_step (by decide) g1.isD fun r H2 r0 r1 g2 => ?_
    walk_at "rd"
    have g12 := g1.trans g2
    refine iteD (fun c => ?_) (fun c => ?_)
    · walk_at "rd"
      refine rd_mk (len_ok rfl) fun M H3 nM eM s3 => ?_
      walk_at "rd"
      have g3 := g12.same s3
      have nMd : M ≠ d := g12.ne_new nM
      have nML : M ≠ L := fun e => by rw [e, (wl.dr g2).at_] at nM; cases nM
      refine rd_il (SqL.of eM) ?_
      refine for_list (K := K) (a := M) (xs := [("if" : Str), "and", "true", "none"].map V.str) (fun i σ' H' => ∃ (v3 v4 : Option V) (ws : List Str), σ' = [some (.ref d), some (.int n), some (.ref L), v3, v4] ∧ Dr d H H' ∧ Wl d L ws H' ∧ ws.length = n ∧ H' M = some (.lst ([("if" : Str), "and", "true", "none"].map V.str))) ⟨none, none, ws, rfl, g3, wl.dr (g2.same s3), lw, eM⟩ (fun i σ' H' _ p => by obtain ⟨_, _, _, _, _, _, _, e⟩ := p; exact SqL.of e) ?_ ?_
      · rintro i x σ' H4 hx ⟨v3, v4, ws, rfl, g4, wl4, lw4, eM4⟩
        obtain ⟨z, rfl, hz⟩ := strs_get hx
        have zo := four_ok z (List.mem_of_getElem? hz)
        walk_at "rd"
        refine take_step (by omega) g4.isD fun k H5 k0 k1 g5 => ?_
        walk_at "rd"
        have wl5 := wl4.dr g5
        have g45 := g4.trans g5
        have eM5 := g5.kp _ _ nMd eM4
        refine rd_notIn (SqL.of wl5.at_) rfl (strs_flat _) ?_
        walk_at "rd"
        refine iteB (fun c2 => ?_) (fun c2 => ?_)
        · walk_at "rd"
          refine take_step (by decide) g5.isD fun r6 H6 r60 r61 g6 => ?_
          walk_at "rd"
          have wl6 := wl5.dr g6
          have eM6 := g6.kp _ _ nMd eM5
          refine iteD (fun c3 => ?_) (fun c3 => ?_)
          · walk_at "rd"
            refine rd_setL wl6.at_ k0 (by rw [List.length_map]; omega) ?_
            walk_at "rd"
            refine ⟨_, _, ws.set k.toNat z, rfl, (g45.trans g6).own nL, ⟨by rw [upd_same, List.map_set], wl6.ne, ?_⟩, by rw [List.length_set]; exact lw4, by rw [upd_ne nML]; exact eM6⟩
            intro y hy
            rcases List.mem_or_eq_of_mem_set hy with e | e
            · exact wl6.ok y e
            · rw [e]; exact zo
          · walk_at "rd"
            exact ⟨_, _, ws, rfl, g45.trans g6, wl6, lw4, eM6⟩
        · walk_at "rd"
          exact ⟨_, _, ws, rfl, g45, wl5, lw4, eM5⟩
      · rintro σ' H4 ⟨v3, v4, ws, rfl, g4, wl4, lw4, _⟩
        exact ⟨v3, v4, ws, rfl, g4, wl4, lw4⟩
    · walk_at "rd"
      exact ⟨_, _, ws, rfl, g12, wl.dr g2, lw⟩
  rintro σ' H2 ⟨v3, v4, ws, rfl, g2, wl2, lw2⟩
  walk_at "rd"
  exact q L ws _ g2 wl2 lw2

end
section
variable {P : Program} {w : World} {K : PySem.W.Frag} {mg : Str → Option Value} {base : Heap}
/-! a drawn question, as one that is written and read -/
def PIN : NWp := ⟨fun i => i.natAbs < 10 ^ 60, fun _ => True⟩
theorem short_num {ks : List Int} (h : ∀ x ∈ ks, x.natAbs < 10 ^ 60) {n : Int} (hn : NumOf ks n) : n.natAbs < 10 ^ 60 := by
  rcases hn with q | ⟨x, hx, e⟩
  · exact Nat.lt_trans q (by decide)
  · rw [e]; exact h x hx
theorem small_log {i : Int} (h : i.natAbs < 10 ^ 60) : i.natAbs.log2 < 1920 := by
  by_cases e : i.natAbs = 0
  · rw [e]; decide
  · exact Nat.lt_of_lt_of_le ((Nat.log2_lt e).mpr (Nat.lt_of_lt_of_le h (by decide : 10 ^ 60 ≤ 2 ^ 210))) (by decide)
/-- a term that may be written, and is short -/
def TmW (t : Tm) : Prop := TmOk t ∧ (tkTm t).sgn.length ≤ 63 ∧ termS t.td
def AtW (a : At) : Prop := LetB a.nm ∧ a.nm.length ≤ 23 ∧ a.ts.length ≤ 18 ∧ ∀ t ∈ a.ts, TmW t
def JnW (j : Jn) : Prop := j.hd.length ≤ 18 ∧ j.bd.length ≤ 18 ∧ (∀ t ∈ j.hd, TmW t) ∧ ∀ a ∈ j.bd, AtW a
theorem tmW_var {z : Str} (h : WordOk z) : TmW (.var z) := ⟨letB h.1, Nat.le_trans (show (sg z).length ≤ 23 from h.2) (by decide), .inr ⟨z, rfl, h.2⟩⟩
theorem tmW_of {t : Tm} (h : termT PIN t.td) : TmW t := by
  rcases h with ⟨u, e, hu⟩ | ⟨z, e, hz, _⟩
  · cases t with
    | var y => unfold Tm.td at e; injection e with e; injection e with e _; injection e with e; exact absurd e (by decide +kernel)
    | num i =>
      unfold Tm.td at e
      injection e with e
      injection e with _ e
      injection e with e
      subst e
      have hi : i.natAbs < 10 ^ 60 := hu
      exact ⟨hi, Nat.le_trans (num_len hi) (by decide), .inl ⟨_, rfl, small_log hi⟩⟩
    | wrd y =>
      unfold Tm.td at e
      injection e with e
      injection e with _ e
      injection e with e
      subst e
      have hy : WordOk y := hu
      refine ⟨letB hy.1, ?_, .inl ⟨_, rfl, hy.2⟩⟩
      show (34 :: (sg y ++ [34])).length ≤ 63
      rw [List.length_cons, List.length_append]
      have : (sg y).length ≤ 23 := hy.2
      show (sg y).length + 1 + 1 ≤ 63
      omega
  · cases t with
    | var y =>
      unfold Tm.td at e
      injection e with e
      injection e with _ e
      injection e with e
      injection e with e
      subst e
      exact tmW_var hz
    | num i => unfold Tm.td at e; injection e with e; injection e with e _; injection e with e; exact absurd e (by decide +kernel)
    | wrd y => unfold Tm.td at e; injection e with e; injection e with e _; injection e with e; exact absurd e (by decide +kernel)
theorem atW_of {a : At} {m : Nat} (hm : m ≤ 18) (h : atomT PIN m a.td) : AtW a := by
  obtain ⟨z, ts, e, hz, hl, ht⟩ := h
  unfold At.td at e
  injection e with e
  injection e with e1 e
  injection e1 with e1
  injection e with e
  injection e with e
  refine ⟨by rw [e1]; exact letB hz.1, by rw [e1]; exact hz.2, ?_, fun t mt => tmW_of (ht _ (by rw [← e]; exact List.mem_map_of_mem mt))⟩
  rw [← e, List.length_map] at hl
  omega
theorem jnW_of {j : Jn} {n a m : Nat} (hn : n ≤ 18) (ha : a ≤ 18) (hm : m ≤ 18) (h : joinT PIN n a m j.td) : JnW j := by
  obtain ⟨hd, bd, e, l1, l2, hb, hh⟩ := h
  unfold Jn.td at e
  injection e with e
  injection e with e1 e
  injection e1 with e1
  injection e with e
  injection e with e
  subst e1
  subst e
  rw [List.length_map] at l1 l2
  refine ⟨by omega, by omega, fun t mt => ?_, fun a ma => atW_of hm (hb _ (List.mem_map_of_mem ma))⟩
  rcases hh _ (List.mem_map_of_mem mt) with ⟨u, eu, hu⟩ | ⟨hv, _⟩
  · exact tmW_of (.inl ⟨u, eu, hu⟩)
  · exact tmW_of (.inr hv)
theorem JnW.ok {j : Jn} (h : JnW j) : JnOk j := ⟨fun t mt => (h.2.2.1 t mt).1, fun a ma => ⟨(h.2.2.2 a ma).1, fun t mt => ((h.2.2.2 a ma).2.2.2 t mt).1⟩⟩
theorem tm_fits {t : Tm} (h : TmW t) : t.fits := by
  cases t with
  | num i => trivial
  | var z => rcases h.2.2 with ⟨u, e, _⟩ | ⟨y, e, hy⟩
             · unfold Tm.td at e; injection e with e; injection e with e _; injection e with e; exact absurd e (by decide +kernel)
             · unfold Tm.td at e; injection e with e; injection e with _ e; injection e with e; injection e with e; subst e; exact Nat.le_trans hy (by decide)
  | wrd z =>
    have : (34 :: (sg z ++ [34])).length ≤ 63 := h.2.1
    rw [List.length_cons, List.length_append] at this
    have e : (sg z).length = z.length := rfl
    show z.length ≤ 200
    omega
theorem JnW.fits {j : Jn} (h : JnW j) : j.fits := ⟨Nat.le_trans h.1 (by decide), Nat.le_trans h.2.1 (by decide), fun t mt => tm_fits (h.2.2.1 t mt), fun a ma => by
  obtain ⟨_, b, c, d⟩ := h.2.2.2 a ma
  exact ⟨Nat.le_trans b (by decide), Nat.le_trans c (by decide), fun t mt => tm_fits (d t mt)⟩⟩
/-! what is written is not long -/
theorem wT63 {ts : List Tm} (h : ∀ t ∈ ts, TmW t) (hl : ts.length ≤ 18) : (wTerms (ts.map Tm.td)).length ≤ 1172 := by
  unfold wTerms
  rw [len_app, len_app, show (Str.ofString "(").length = 1 by decide +kernel, show (Str.ofString ")").length = 1 by decide +kernel]
  have h1 := join_len ", " ((ts.map Tm.td).map pieceS)
  generalize (Txt.join ", " ((ts.map Tm.td).map pieceS)).length = J at h1 ⊢
  rw [show (Str.ofString ", ").length = 2 by decide +kernel] at h1
  simp only [List.map_map, List.length_map] at h1
  have h2 : (ts.map ((fun x : Str => x.length) ∘ pieceS ∘ Tm.td)).sum ≤ ts.length * 63 := sum_le _ 63 ts fun x hx => by
    show (pieceS x.td).length ≤ 63
    rw [← sg_len, piece_sg]
    exact (h x hx).2.1
  have h3 : (ts.map (((fun x : Str => x.length) ∘ pieceS) ∘ Tm.td)).sum = (ts.map ((fun x : Str => x.length) ∘ pieceS ∘ Tm.td)).sum := rfl
  omega
theorem wA63 {a : At} (h : AtW a) : (wAtom a.td).length ≤ 1195 := by
  obtain ⟨_, b, c, d⟩ := h
  show (a.nm ++ wTerms (a.ts.map Tm.td)).length ≤ _
  rw [len_app]
  have := wT63 d c
  omega
theorem wJ63 {j : Jn} (h : JnW j) : (wJoin j.td).length ≤ 22776 := by
  obtain ⟨l1, l2, h1, h2⟩ := h
  show ((wTerms (j.hd.map Tm.td) ++ " if ") ++ Txt.join " and " (wAtoms (j.bd.map At.td))).length ≤ _
  rw [len_app, len_app]
  have a := wT63 h1 l1
  have c := join_len " and " (wAtoms (j.bd.map At.td))
  rw [show (Str.ofString " and ").length = 5 by decide +kernel] at c
  have d : (Str.ofString " if ").length = 4 := by decide +kernel
  have b : ((wAtoms (j.bd.map At.td)).map (fun x : Str => x.length)).sum + (wAtoms (j.bd.map At.td)).length * 5 ≤ 21600 := by
    unfold wAtoms
    by_cases e : j.bd.map At.td = []
    · rw [if_pos e]
      show (Str.ofString "true").length + 0 + 1 * 5 ≤ _
      rw [show (Str.ofString "true").length = 4 by decide +kernel]
      decide
    · rw [if_neg e, List.map_map, List.length_map, List.map_map, List.length_map]
      have h3 : (j.bd.map (((fun x : Str => x.length) ∘ wAtom) ∘ At.td)).sum ≤ j.bd.length * 1195 := sum_le _ _ j.bd fun x hx => wA63 (h2 x hx)
      omega
  omega
theorem wQ63 {n : Int} {js : List Jn} (hn : n.natAbs < 10 ^ 60) (h : ∀ j ∈ js, JnW j) (hl : js.length ≤ 15) : (wQuest (questD n js)).length ≤ 800000 := by
  cases js with
  | nil =>
    show ("none " ++ toString n : Str).length ≤ _
    have := num_len hn
    rw [sg_len] at this
    rw [len_app, show (Str.ofString "none ").length = 5 by decide +kernel]
    omega
  | cons j r =>
    show (Txt.join "; " (((j :: r).map Jn.td).map wJoin)).length ≤ _
    have c := join_len "; " (((j :: r).map Jn.td).map wJoin)
    generalize (Txt.join "; " (((j :: r).map Jn.td).map wJoin)).length = J at c ⊢
    rw [show (Str.ofString "; ").length = 2 by decide +kernel, List.map_map (l := j :: r), List.length_map, List.map_map] at c
    have h3 : ((j :: r).map ((fun x : Str => x.length) ∘ wJoin ∘ Jn.td)).sum ≤ (j :: r).length * 22776 := sum_le _ _ (j :: r) fun x hx => wJ63 (h x hx)
    omega
theorem questS_of {n : Int} {js : List Jn} (hn : n.natAbs < 10 ^ 60) (h : ∀ j ∈ js, JnW j) (hl : js.length ≤ 15) : questS (questD n js) := by
  refine ⟨n, js.map Jn.td, rfl, small_log hn, by rw [List.length_map]; exact hl, fun x hx => ?_⟩
  obtain ⟨j, mj, rfl⟩ := List.mem_map.mp hx
  obtain ⟨l1, l2, h1, h2⟩ := h j mj
  refine ⟨_, _, rfl, by rw [List.length_map]; exact l1, by rw [List.length_map]; exact l2, fun y hy => ?_, fun y hy => ?_⟩
  · obtain ⟨t, mt, rfl⟩ := List.mem_map.mp hy
    exact (h1 t mt).2.2
  · obtain ⟨a, ma, rfl⟩ := List.mem_map.mp hy
    obtain ⟨_, b, c, d⟩ := h2 a ma
    refine ⟨_, _, rfl, b, by rw [List.length_map]; exact c, fun z hz => ?_⟩
    obtain ⟨t, mt, rfl⟩ := List.mem_map.mp hz
    exact (d t mt).2.2
/-! .. and not deep -/
theorem fit_tm (t : Tm) : t.td.fit 2 := by
  cases t <;> exact ⟨show 2 ≤ 20000 by decide, fun d hd => by
    simp only [List.mem_cons, List.not_mem_nil, or_false] at hd
    rcases hd with rfl | rfl <;> trivial⟩
theorem fit_tms {ts : List Tm} (h : ts.length ≤ 18) : (TD.tup (ts.map Tm.td)).fit 3 := ⟨by rw [List.length_map]; omega, fun d hd => by obtain ⟨t, _, rfl⟩ := List.mem_map.mp hd; exact fit_tm t⟩
theorem fit_at {a : At} (h : AtW a) : a.td.fit 4 := ⟨show 2 ≤ 20000 by decide, fun d hd => by
  simp only [List.mem_cons, List.not_mem_nil, or_false] at hd
  rcases hd with rfl | rfl
  · trivial
  · exact fit_tms h.2.2.1⟩
theorem fit_jn {j : Jn} (h : JnW j) : j.td.fit 6 := ⟨show 2 ≤ 20000 by decide, fun d hd => by
  simp only [List.mem_cons, List.not_mem_nil, or_false] at hd
  rcases hd with rfl | rfl
  · exact TD.fit_mono (by decide) (fit_tms h.1)
  · exact ⟨by rw [List.length_map]; have := h.2.1; omega, fun d hd => by obtain ⟨a, ma, rfl⟩ := List.mem_map.mp hd; exact fit_at (h.2.2.2 a ma)⟩⟩
theorem fit_quest {n : Int} {js : List Jn} (h : ∀ j ∈ js, JnW j) (hl : js.length ≤ 15) : (questD n js).fit 8 := ⟨show 2 ≤ 20000 by decide, fun d hd => by
  simp only [List.mem_cons, List.not_mem_nil, or_false] at hd
  rcases hd with rfl | rfl
  · trivial
  · exact ⟨by rw [List.length_map]; omega, fun d hd => by obtain ⟨j, mj, rfl⟩ := List.mem_map.mp hd; exact fit_jn (h j mj)⟩⟩
theorem passE0 {X : Cx} {P' : Program} {w' : World} : Passes (L2.CX P' w') X E0 := fun _ _ _ _ _ _ _ h => by
  obtain ⟨_, _, _, _, _, _, _, _, _, _, _, _, hE⟩ := h
  exact hE.elim

end
section
variable {P : Program} {w : World} {K : PySem.W.Frag} {mg : Str → Option Value} {base : Heap}
def spWordL : Sp := fun vs H Q _ => ∃ z : Str, vs = [.str z] ∧ z.length ≤ 1000 ∧ Q (.bl (wordB z)) H
theorem ok_lword (T : Tx mg) {f : Addr} {fd : FuncData} (F : Dn K mg "_law_is_word" sLIsWord ["text"] f fd) : FnOk P w K mg base CX0 1 f fd ["text"] spWordL := by
  refine F.F.ok scLIsWord (fun vs H Q E h => ?_) (fun cdv A outer s H vs Q E hr h => ?_)
  · obtain ⟨z, rfl, _⟩ := h
    rfl
  obtain ⟨z, rfl, hz, q⟩ := h
  have nd := scLIsWord.nd
  refine ⟨_, (pss_cons (ps_for PassesOwn.never rfl (pi_str (pv 0)) (pg_name (i := 1) nd rfl (Or.inl rfl)) (pss_one (ps_if (pt_cmpR op_notInS (pv 1) pe_str rfl) (pss_one (ps_ret pe_bl)) pss_nil)))
  (pss_one (ps_ret (pe_cmpR op_gt (pe_callB c_lenX rfl T.m_len PySem.boot_len (pa_cons (pv 0) pa_nil)) pe_int (nomark _))))), ?_⟩
  walk_at "rd"
  refine rd_istr ?_
  walk_at "rd"
  refine for_it walk_str (fun i σ' H' => ∃ v1 : Option V, σ' = [some (.str z), v1] ∧ H' = H ∧ ((sg z).take i).all (fun c => decide (c ∈ sg abc)) = true) ⟨none, rfl, rfl, rfl⟩ (fun _ _ _ _ _ => trivial) ?_ ?_
  · rintro i x σ' H1 H2 hi ⟨v1, rfl, rfl, ha⟩ ⟨rfl, c, hc, rfl⟩
    walk_at "rd"
    refine rd_notInX ?_
    walk_at "rd"
    have hc' : (sg z)[i]? = some c := by show z.cps.toList[i]? = _; rw [Array.getElem?_toList]; exact hc
    refine iteB (fun d => ?_) (fun d => ?_)
    · walk_at "rd"
      have e : wordB z = false := by
        unfold wordB
        rw [Bool.and_eq_false_iff]
        left
        rw [Bool.eq_false_iff]
        intro al
        have := List.all_eq_true.mp al c (List.mem_of_getElem? hc')
        rw [show (sg abc) = sg "abcdefghijklmnopqrstuvwxyz" from rfl] at this
        rw [this] at d
        cases d
      rw [e] at q
      exact q
    · walk_at "rd"
      refine ⟨_, rfl, rfl, ?_⟩
      have d' : decide (c ∈ sg abc) = true := by
        cases e : decide (c ∈ sg abc) with
        | true => rfl
        | false => rw [show (sg "abcdefghijklmnopqrstuvwxyz") = sg abc from rfl, e] at d; cases d
      rw [List.take_succ, hc', List.all_append, ha]
      show (true && (decide (c ∈ sg abc) && true)) = true
      rw [d']; rfl
  · rintro σ' H1 ⟨v1, rfl, rfl, ha⟩
    walk_at "rd"
    refine rd_lenX (Nat.le_trans hz (by decide)) ?_
    walk_at "rd"
    have hl : (sg z).take z.cps.size = sg z := List.take_of_length_le (Nat.le_refl _)
    rw [hl] at ha
    have e : wordB z = decide ((z.length : Int) > 0) := by
      unfold wordB
      rw [ha, Bool.true_and, decide_eq_decide]
      omega
    rw [e] at q
    exact q

end
section
variable {P : Program} {w : World} {K : PySem.W.Frag} {mg : Str → Option Value} {base : Heap}
/-! terms as data that are compared -/
section
variable {K : PySem.W.Frag} {H : Hp} {Q : VK}
theorem hu65 {A : Around} {k : Nat} (hr : Room k A) : A.units + 65 < cLine := by have := hr.un; omega
theorem k_notInD {X : Cx} (K : PySem.W.Frag) (h : X.K = K) (hu : X.A.units + 65 < cLine) : OpR X (compareOp .NotIn) (rNotInD K) := by subst h; exact op_notInD hu
end
theorem ok_parts {w : Int} {j : Jn} (h : Jn.ok w j = true) : (j.hd.length : Int) = w ∧ j.bd.length ≤ 8 ∧ (∀ t ∈ j.hd, t.ok = true) ∧ (∀ a ∈ j.bd, a.ok = true) ∧ ∀ z ∈ varsT j.hd, z ∈ varsB j.bd := by
  unfold Jn.ok at h
  simp only [Bool.and_eq_true, decide_eq_true_eq, List.all_eq_true] at h
  exact ⟨h.1.1.1.1, h.1.1.1.2, h.1.1.2, h.1.2, h.2⟩
theorem no_of {b : Bool} (h : b = true → False) : b = false := by
  cases b with
  | false => rfl
  | true => exact (h rfl).elim
theorem at_long {a : At} (h : 8 < a.ts.length) : a.ok = false := no_of fun e => by
  unfold At.ok at e
  simp only [Bool.and_eq_true, decide_eq_true_eq] at e
  omega
theorem at_term {a : At} {t : Tm} (h : t ∈ a.ts) (n : t.ok = false) : a.ok = false := no_of fun e => by
  unfold At.ok at e
  simp only [Bool.and_eq_true, decide_eq_true_eq, List.all_eq_true] at e
  rw [e.2.2 t h] at n
  cases n
theorem at_name {a : At} (h : wordB a.nm = false) : a.ok = false := no_of fun e => by
  unfold At.ok at e
  simp only [Bool.and_eq_true, decide_eq_true_eq, List.all_eq_true] at e
  rw [e.1] at h
  cases h
theorem tm_inj {a b : Tm} (h : a.td = b.td) : a = b := by
  cases a <;> cases b <;> (unfold Tm.td at h; injection h with h; injection h with h1 h2; injection h2 with h2 _) <;> first
    | (exfalso; injection h1 with h1; exact absurd h1 (by decide +kernel))
    | (exfalso; cases h2; done)
    | (injection h2 with h2; rw [h2])
def isVar (z : Str) : Tm → Bool
  | .var y => y == z
  | _ => false
def Tm.py : Tm → PyData
  | .var z => .tuple [.str "var", .str z]
  | .num i => .tuple [.str "value", .int i]
  | .wrd z => .tuple [.str "value", .str z]
theorem eqv_var (z : Str) (m : Tm) : PyData.eqv m.py (Tm.var z).py = isVar z m := by
  cases m with
  | var y => show ((("var" : Str) == "var") && ((y == z) && true)) = (y == z); rw [Bool.and_true, beq_self_eq_true, Bool.true_and]
  | num i => show ((("value" : Str) == "var") && (false && true)) = false; rw [Bool.false_and, Bool.and_false]
  | wrd y => show ((("value" : Str) == "var") && ((y == z) && true)) = false; rw [show (("value" : Str) == "var") = false by decide +kernel, Bool.false_and]
theorem str_ok {z : Str} (h : wordB z = true) : PyData.strOk z = true := by
  unfold wordB at h
  rw [Bool.and_eq_true, List.all_eq_true] at h
  unfold PyData.strOk
  rw [Array.all_eq_true_iff_forall_mem]
  intro c hc
  have m := of_decide_eq_true (h.1 c (by show c ∈ z.cps.toList; exact Array.mem_toList_iff.mpr hc))
  rw [abc_is] at m
  simp only [List.mem_cons, List.not_mem_nil, or_false] at m
  exact decide_eq_true (by omega)
theorem py_lay {m : Tm} (h : m.ok = true) : m.py.canLay0 = true := by
  cases m with
  | var y => show (PyData.strOk "var" && (PyData.strOk y && true)) = true; rw [str_ok h, show PyData.strOk "var" = true by decide +kernel]; rfl
  | num i => show (PyData.strOk "value" && (true && true)) = true; rw [show PyData.strOk "value" = true by decide +kernel]; rfl
  | wrd y => show (PyData.strOk "value" && (PyData.strOk y && true)) = true; rw [str_ok h, show PyData.strOk "value" = true by decide +kernel]; rfl
theorem py_depth (m : Tm) : m.py.depth = 1 := by cases m <;> rfl
theorem py_lays : ∀ ms : List Tm, (∀ m ∈ ms, m.ok = true) → PyData.canLayAll0 (ms.map Tm.py) = true
  | [], _ => rfl
  | m :: r, h => by
    show (m.py.canLay0 && PyData.canLayAll0 (r.map Tm.py)) = true
    rw [py_lay (h m List.mem_cons_self), py_lays r fun x hx => h x (List.mem_cons_of_mem _ hx)]; rfl
theorem py_depths : ∀ ms : List Tm, PyData.depthAll (ms.map Tm.py) ≤ 1
  | [] => Nat.zero_le _
  | m :: r => by
    show max m.py.depth (PyData.depthAll (r.map Tm.py)) ≤ 1
    have := py_depths r
    rw [py_depth]; omega
theorem py_shape {m : Tm} (h : m.ok = true) : SeqAt.shaped m.py = true := by
  unfold SeqAt.shaped
  rw [py_lay h, py_depth]; rfl
theorem py_shapes {ms : List Tm} (h : ∀ m ∈ ms, m.ok = true) : SeqAt.shaped (.list (ms.map Tm.py)) = true := by
  unfold SeqAt.shaped
  rw [show (PyData.list (ms.map Tm.py)).canLay0 = true from py_lays ms h, Bool.true_and]
  exact decide_eq_true (show PyData.depthAll (ms.map Tm.py) + 1 ≤ 64 by have := py_depths ms; omega)
section
variable {K : PySem.W.Frag} {H : Hp}
theorem Rp.dp {v : V} {m : Tm} (r : Rp K H v m.td) : Dp K H v m.py := by
  rcases r.tm with ⟨a, z, rfl, rfl, s⟩ | ⟨a, i, rfl, rfl, s⟩ | ⟨a, z, rfl, rfl, s⟩
  · exact .tup s (.cons (.str _) (.cons (.str _) .nil))
  · exact .tup s (.cons (.str _) (.cons (.int _) .nil))
  · exact .tup s (.cons (.str _) (.cons (.str _) .nil))
theorem RpA.dp : ∀ {ms : List Tm} {vs : List V}, RpA K H vs (ms.map Tm.td) → DpAll K H vs (ms.map Tm.py)
  | [], _, r => by cases r; exact .nil
  | m :: r, _, h => by
    cases h with
    | cons a b => exact .cons (Rp.dp a) (RpA.dp b)
end
/-- the terms of a body -/
def termsB (bd : List At) : List Tm := bd.flatMap At.ts
theorem terms_len : ∀ (bd : List At), (∀ a ∈ bd, a.fits) → (termsB bd).length ≤ bd.length * 20
  | [], _ => Nat.zero_le _
  | a :: r, h => by
    unfold termsB
    rw [List.flatMap_cons, List.length_append, List.length_cons, Nat.add_mul, Nat.one_mul]
    have h2 := (h a List.mem_cons_self).2.1
    have h3 := terms_len r fun x hx => h x (List.mem_cons_of_mem _ hx)
    unfold termsB at h3
    omega
theorem var_any {z : Str} {bd : List At} (h : z ∈ varsB bd) : (termsB bd).any (isVar z) = true := by
  obtain ⟨a, ha, hz⟩ := List.mem_flatMap.mp h
  obtain ⟨t, ht, e⟩ := List.mem_filterMap.mp hz
  rw [List.any_eq_true]
  refine ⟨t, List.mem_flatMap.mpr ⟨a, ha, ht⟩, ?_⟩
  cases t with
  | var y => rw [Option.some.inj e]; exact beq_self_eq_true z
  | num i => cases e
  | wrd y => cases e
theorem any_var {z : Str} {bd : List At} (h : (termsB bd).any (isVar z) = true) : z ∈ varsB bd := by
  rw [List.any_eq_true] at h
  obtain ⟨t, ht, e⟩ := h
  obtain ⟨a, ha, hta⟩ := List.mem_flatMap.mp ht
  refine List.mem_flatMap.mpr ⟨a, ha, List.mem_filterMap.mpr ⟨t, hta, ?_⟩⟩
  cases t with
  | var y => exact congrArg some (eq_of_beq e)
  | num i => cases e
  | wrd y => cases e
theorem filter_snocS {l : List Str} {i : Nat} {z : Str} (h : l[i]? = some z) (f : Str → Bool) : (l.take (i + 1)).filter f = (l.take i).filter f ++ if f z = true then [z] else [] := filter_snoc h f

end
section
variable {P : Program} {w : World} {K : PySem.W.Frag} {mg : Str → Option Value} {base : Heap}
theorem k_catA {X : Cx} (K : PySem.W.Frag) (h : X.K = K) : OpR X (binaryOp .Add) (rCatA K) := by subst h; exact op_catA
section
variable {K : PySem.W.Frag} {H : Hp} {Q : VK}
theorem rp_cat {v u : V} {ts us : List TD} (r1 : Rp K H v (.tup ts)) (r2 : Rp K H u (.tup us)) (z : ts.length + us.length ≤ sizeLine) (q : ∀ w H', Same H H' → Rp K H' w (.tup (ts ++ us)) → Q w H') : rCatA K v u H Q := by
  obtain ⟨a, xs, rfl, s1, a1⟩ := r1.seq
  obtain ⟨b, ys, rfl, s2, a2⟩ := r2.seq
  refine ⟨a, b, xs, ys, rfl, rfl, s1, s2, by rw [a1.length, a2.length]; exact z, fun e => ?_, fun _ e => ?_, fun _ _ p hp => ?_⟩
  · subst e
    cases a1
    exact q _ _ (.refl _) (.tup s2 a2)
  · subst e
    cases a2
    rw [List.append_nil] at q
    exact q _ _ (.refl _) (.tup s1 a1)
  · exact q _ _ (same_new hp) (.tup (SqT.of upd_same) (RpA.app (same_rpa (same_new hp) a1) (same_rpa (same_new hp) a2)))
theorem rpa_take' {xs : List V} {ts : List TD} : ∀ (n : Nat), RpA K H xs ts → RpA K H (xs.take n) (ts.take n) := by
  intro n r
  induction n generalizing xs ts with
  | zero => exact .nil
  | succ n ih =>
    cases r with
    | nil => exact .nil
    | cons a b => exact .cons a (ih b)
theorem rpa_drop' {xs : List V} {ts : List TD} : ∀ (n : Nat), RpA K H xs ts → RpA K H (xs.drop n) (ts.drop n) := by
  intro n r
  induction n generalizing xs ts with
  | zero => exact r
  | succ n ih =>
    cases r with
    | nil => exact .nil
    | cons a b => exact ih b
theorem rp_cut {v : V} {ts : List TD} {lo hi : Option Int} (r : Rp K H v (.tup ts)) (q : ∀ w H' us, Same H H' → Rp K H' w (.tup us) → (∀ x ∈ us, x ∈ ts) → us.length = HT.sIx ts.length ts.length hi - HT.sIx ts.length 0 lo → Q w H') : rSlA K v lo hi H Q := by
  obtain ⟨a, xs, rfl, s1, a1⟩ := r.seq
  have e := a1.length
  have q2 : ∀ w H', Same H H' → Rp K H' w (.tup ((ts.drop (HT.sIx xs.length 0 lo)).take (HT.sIx xs.length xs.length hi - HT.sIx xs.length 0 lo))) → Q w H' := fun w H' s r => q w H' _ s r (fun x hx => List.mem_of_mem_drop (List.mem_of_mem_take hx)) (by
    have := HT.sIx_le ts.length ts.length (Nat.le_refl _) hi
    rw [List.length_take, List.length_drop, e]
    omega)
  refine ⟨a, xs, rfl, s1, fun w => q2 _ _ (.refl _) ?_, fun _ p hp => q2 _ _ (same_new hp) (.tup (SqT.of upd_same) (same_rpa (same_new hp) (rpa_take' _ (rpa_drop' _ a1))))⟩
  rw [w.1, w.2, List.drop_zero, Nat.sub_zero, e, List.take_length]
  exact .tup s1 a1
end
/-! what is drawn may be written, be it valid or not -/
def termW (t : TD) : Prop := ∃ m : Tm, t = m.td ∧ TmW m
def atomW (t : TD) : Prop := ∃ z ts, t = .tup [.str z, .tup ts] ∧ WordOk z ∧ ts.length ≤ 18 ∧ ∀ x ∈ ts, termW x
def joinW (n : Nat) (t : TD) : Prop := ∃ hd bd, t = .tup [.tup hd, .tup bd] ∧ hd.length = n ∧ bd.length ≤ 18 ∧ (∀ x ∈ hd, termW x) ∧ ∀ x ∈ bd, atomW x
theorem term_W {t : TD} (h : termT PIN t) : termW t := by
  obtain ⟨m, rfl, _⟩ := tm_of h
  exact ⟨m, rfl, tmW_of h⟩
theorem atom_W {m : Nat} {t : TD} (hm : m ≤ 18) (h : atomT PIN m t) : atomW t := by
  obtain ⟨z, ts, rfl, hz, hl, ht⟩ := h
  exact ⟨z, ts, rfl, hz, by omega, fun x hx => term_W (ht x hx)⟩
theorem join_W {n a m : Nat} {t : TD} (ha : a ≤ 18) (hm : m ≤ 18) (h : joinT PIN n a m t) : joinW n t := by
  obtain ⟨hd, bd, rfl, l1, l2, hb, hh⟩ := h
  refine ⟨hd, bd, rfl, l1, by omega, fun x hx => ?_, fun x hx => atom_W hm (hb x hx)⟩
  rcases hh x hx with ⟨u, rfl, hu⟩ | ⟨hv, _⟩
  · exact term_W (.inl ⟨u, rfl, hu⟩)
  · exact term_W (.inr hv)
theorem terms_Tm : ∀ {ts : List TD}, (∀ x ∈ ts, termW x) → ∃ ms : List Tm, ts = ms.map Tm.td ∧ ∀ m ∈ ms, TmW m
  | [], _ => ⟨[], rfl, fun _ h => (nomatch h)⟩
  | t :: r, h => by
    obtain ⟨m, e, f⟩ := h t List.mem_cons_self
    obtain ⟨ms, e2, f2⟩ := terms_Tm fun x hx => h x (List.mem_cons_of_mem _ hx)
    refine ⟨m :: ms, by rw [e, e2]; rfl, fun x hx => ?_⟩
    rcases List.mem_cons.mp hx with q | q
    · rw [q]; exact f
    · exact f2 x q
theorem atoms_At : ∀ {ts : List TD}, (∀ x ∈ ts, atomW x) → ∃ ms : List At, ts = ms.map At.td ∧ ∀ m ∈ ms, AtW m
  | [], _ => ⟨[], rfl, fun _ h => (nomatch h)⟩
  | t :: r, h => by
    obtain ⟨z, us, e, hz, hl, hu⟩ := h t List.mem_cons_self
    obtain ⟨m, rfl, f⟩ := terms_Tm hu
    rw [List.length_map] at hl
    obtain ⟨ms, e2, f2⟩ := atoms_At fun x hx => h x (List.mem_cons_of_mem _ hx)
    refine ⟨⟨z, m⟩ :: ms, by rw [e, e2]; rfl, fun x hx => ?_⟩
    rcases List.mem_cons.mp hx with q | q
    · rw [q]; exact ⟨letB hz.1, hz.2, hl, f⟩
    · exact f2 x q
theorem joins_Jn {n : Nat} (hn : n ≤ 18) : ∀ {ts : List TD}, (∀ x ∈ ts, joinW n x) → ∃ js : List Jn, ts = js.map Jn.td ∧ ∀ j ∈ js, JnW j ∧ j.hd.length = n
  | [], _ => ⟨[], rfl, fun _ h => (nomatch h)⟩
  | t :: r, h => by
    obtain ⟨hd, bd, e, l1, l2, hh, hb⟩ := h t List.mem_cons_self
    obtain ⟨ms, rfl, fm⟩ := terms_Tm hh
    obtain ⟨as, rfl, fa⟩ := atoms_At hb
    rw [List.length_map] at l1 l2
    obtain ⟨js, e2, f2⟩ := joins_Jn hn fun x hx => h x (List.mem_cons_of_mem _ hx)
    refine ⟨⟨ms, as⟩ :: js, by rw [e, e2]; rfl, fun x hx => ?_⟩
    rcases List.mem_cons.mp hx with q | q
    · rw [q]; exact ⟨⟨by show ms.length ≤ 18; omega, l2, fm, fa⟩, l1⟩
    · exact f2 x q
theorem var_W {z : Str} (h : WordOk z) : termW (.tup [.str "var", .str z]) := ⟨.var z, rfl, tmW_var h⟩
/-- a drawn question that need not be valid -/
structure OddQ (n : Nat) (js : List Jn) : Prop where
  n60 : n < 10 ^ 60
  l15 : js.length ≤ 15
  jw : ∀ j ∈ js, JnW j
  hl : ∀ j ∈ js, j.hd.length = n
theorem small18 {n : Nat} (h : n ≤ 18) : n < 10 ^ 60 := Nat.lt_of_le_of_lt h (by decide)
theorem odd_mk {n : Nat} {ts : List TD} (hn : n ≤ 18) (h : ∀ x ∈ ts, joinW n x) (l : ts.length ≤ 15) : ∃ js, TD.tup [.int n, .tup ts] = questD n js ∧ OddQ n js := by
  obtain ⟨js, rfl, f⟩ := joins_Jn hn h
  rw [List.length_map] at l
  exact ⟨js, rfl, small18 hn, l, fun j hj => (f j hj).1, fun j hj => (f j hj).2⟩
def spOddW (K : PySem.W.Frag) : Sp := fun vs H Q _ => ∃ (d a L : Addr) (ns : List Int) (ws : List Str), vs = [.ref d, .ref a, .ref L] ∧ DrAt d H ∧ Sc K H d a ns ∧ ns.length ≤ 63 ∧ Hyp PIN ns ws ∧ Wl d L ws H ∧ 4 ≤ ws.length ∧
  ∀ (v : V) (n : Nat) (js : List Jn) (H' : Hp), Dr d H H' → Rp K H' v (questD n js) → OddQ n js → Q v H'
theorem nine_more {m : Nat} (h : ((m : Int)).natAbs < 10 ^ 15) : 9 + m < 10 ^ 60 := by
  have : 10 ^ 15 + 9 < 10 ^ 60 := by decide
  omega
theorem cut_hi {n m : Nat} {k : Int} (h0 : 0 ≤ k) (h1 : k ≤ n) (e : m = HT.sIx n n (some k) - HT.sIx n 0 none) : m = k.toNat := by
  obtain ⟨k, rfl⟩ : ∃ j : Nat, k = (j : Int) := ⟨k.toNat, by omega⟩
  rw [HT.sIx_nat, HT.sIx_none] at e
  omega
theorem cut_lo {n m : Nat} {k : Int} (h0 : 0 ≤ k) (h1 : k < n) (e : m = HT.sIx n n none - HT.sIx n 0 (some (k + 1))) : m = n - (k.toNat + 1) := by
  obtain ⟨k, rfl⟩ : ∃ j : Nat, k = (j : Int) := ⟨k.toNat, by omega⟩
  rw [show ((k : Int) + 1) = ((k + 1 : Nat) : Int) by omega, HT.sIx_nat, HT.sIx_none] at e
  omega
set_option maxHeartbeats 8000000 in
theorem ok_odd (T : Tx mg) {f f1 f2 f3 f4 f5 f6 f7 : Addr} {fd d1 d2 d3 d4 d5 d6 d7 : FuncData} (F : Dn K mg "_law_odd_question" sLOddQuestion ["draws", "script", "words"] f fd) (DLTake : Dn K mg "_law_take" sLTake ["draws", "many"] f1 d1) (GLTake : FnOk P w K mg base CX0 1 f1 d1 ["draws", "many"] spTake)
    (DLPick : Dn K mg "_law_pick" sLPick ["draws", "row"] f2 d2) (GLPick : FnOk P w K mg base CX0 2 f2 d2 ["draws", "row"] (spPick K)) (DLAnyTerm : Dn K mg "_law_any_term" sLAnyTerm ["draws", "script", "words"] f3 d3) (GLAnyTerm : FnOk P w K mg base CX0 5 f3 d3 ["draws", "script", "words"] (spTerm PIN K))
    (DLAnyAtom : Dn K mg "_law_any_atom" sLAnyAtom ["draws", "script", "words", "most"] f4 d4) (GLAnyAtom : FnOk P w K mg base CX0 6 f4 d4 ["draws", "script", "words", "most"] (spAtom PIN K)) (DLAnyJoin : Dn K mg "_law_any_join" sLAnyJoin ["draws", "script", "words", "width", "atoms", "most"] f5 d5) (GLAnyJoin : FnOk P w K mg base CX0 7 f5 d5 ["draws", "script", "words", "width", "atoms", "most"] (spJoin PIN K))
    (DLAnyQuestion : Dn K mg "_law_any_question" sLAnyQuestion ["draws", "script", "words"] f6 d6) (GLAnyQuestion : FnOk P w K mg base CX0 8 f6 d6 ["draws", "script", "words"] (spQuest PIN K)) (DLSize : Dn K mg "_law_size" sLSize ["draws", "script"] f7 d7) (GLSize : FnOk P w K mg base CX0 2 f7 d7 ["draws", "script"] (spSize K)) :
    FnOk P w K mg base CX0 9 f fd ["draws", "script", "words"] (spOddW K) := by
  refine F.F.ok scLOddQuestion (fun vs H Q E h => ?_) (fun cdv A outer s H vs Q E hr h => ?_)
  · obtain ⟨d, a, L, ns, ws, rfl, _⟩ := h
    rfl
  obtain ⟨d, a, L, ns, ws, rfl, hd, hS, h63, hP, wl, h4, q⟩ := h
  have nd := scLOddQuestion.nd
  refine ⟨_, (pss_cons (ps_set (i := 3) nd rfl (Or.inl rfl) (pe_call GLAnyQuestion (hr.mono (by omega)) rfl DLAnyQuestion.m DLAnyQuestion.F.kp DLAnyQuestion.b .nil pass0 (pa_cons (pv 0) (pa_cons (pv 1) (pa_cons (pv 2) pa_nil)))))
  (pss_cons (ps_set (i := 4) nd rfl (Or.inl rfl) (pe_ix (k_ixT K rfl) (pv 3) pe_int (fun _ _ => rfl)))
  (pss_cons (ps_set (i := 5) nd rfl (Or.inl rfl) (pe_callTy (k_list K rfl) rfl T.m_list (by decide +kernel) (pa_cons (pe_ix (k_ixT K rfl) (pv 3) pe_int (fun _ _ => rfl)) pa_nil)))
  (pss_cons (ps_set (i := 6) nd rfl (Or.inl rfl) (pe_call GLTake (hr.mono (by omega)) rfl DLTake.m DLTake.F.kp DLTake.b .nil pass0 (pa_cons (pv 0) (pa_cons pe_int pa_nil))))
  (pss_cons (ps_if (PW.pt (pw_or (pt_cmpR op_eq (pv 6) pe_int (nomark _)) (pw_or1 (pt_cmpR op_eq (pe_callB (k_len K rfl) rfl T.m_len PySem.boot_len (pa_cons (pv 5) pa_nil)) pe_int (nomark _))))) (pss_one (ps_ret (pe_tup (pa_cons (pe_op op_add pe_int (pe_call GLSize (hr.mono (by omega)) rfl DLSize.m DLSize.F.kp DLSize.b .nil pass0 (pa_cons (pv 0) (pa_cons (pe_lst pa_nil) pa_nil)))) (pa_cons (pe_tup pa_nil) pa_nil))))) pss_nil)
  (pss_cons (ps_set (i := 7) nd rfl (Or.inl rfl) (pe_call GLTake (hr.mono (by omega)) rfl DLTake.m DLTake.F.kp DLTake.b .nil pass0 (pa_cons (pv 0) (pa_cons (pe_callB (k_len K rfl) rfl T.m_len PySem.boot_len (pa_cons (pv 5) pa_nil)) pa_nil))))
  (pss_cons (ps_set (i := 8) nd rfl (Or.inl rfl) (pe_ix (k_ixT K rfl) (pe_ix (k_ixL K rfl) (pv 5) (pv 7) (fun _ _ => rfl)) pe_int (fun _ _ => rfl)))
  (pss_cons (ps_set (i := 9) nd rfl (Or.inl rfl) (pe_ix (k_ixT K rfl) (pe_ix (k_ixL K rfl) (pv 5) (pv 7) (fun _ _ => rfl)) pe_int (fun _ _ => rfl)))
  (C8.pss_cut (ps_if (PW.pt (pw_and (pt_cmpR op_eq (pv 6) pe_int (nomark _)) (pw_and1 (pt_cmpR op_gt (pv 4) pe_int (nomark _))))) (pss_cons (ps_set (i := 10) nd rfl (Or.inl rfl) (pe_call GLTake (hr.mono (by omega)) rfl DLTake.m DLTake.F.kp DLTake.b .nil pass0 (pa_cons (pv 0) (pa_cons (pv 4) pa_nil))))
  (pss_one (ps_asg (pe_tup (pa_cons (pe_op (k_catA K rfl) (pe_op (k_catA K rfl) (pe_slice (k_slA K rfl) (pv 8) po_none (po_some (pv 10))) (pe_tup (pa_cons (pe_tup (pa_cons pe_str (pa_cons (pe_call GLPick (hr.mono (by omega)) rfl DLPick.m DLPick.F.kp DLPick.b .nil pass0 (pa_cons (pv 0) (pa_cons (pv 2) pa_nil))) pa_nil))) pa_nil))) (pe_slice (k_slA K rfl) (pv 8) (po_some (pe_op op_add (pv 10) pe_int)) po_none)) (pa_cons (pv 9) pa_nil))) (pg_sub (pv 5) (pv 7) set_list)))) (pss_one (ps_if (pt_cmpR op_eq (pv 6) pe_int (nomark _)) (pss_one (ps_for PassesOwn.never rfl (pi_range1 rfl T.m_range (pa_cons (pe_op op_add (pe_op op_sub pe_int (pe_callB (k_len K rfl) rfl T.m_len PySem.boot_len (pa_cons (pv 5) pa_nil))) (pe_call GLTake (hr.mono (by omega)) rfl DLTake.m DLTake.F.kp DLTake.b .nil pass0 (pa_cons (pv 0) (pa_cons pe_int pa_nil)))) pa_nil)) (pg_name (i := 10) nd rfl (Or.inl rfl)) (pss_one (ps_expr (k_bm K rfl (pe_bm PySem.F.plainAttrs_list PySem.F.slot_list_append PySem.F.type_list_append mt_append (pv 5) (pa_cons (pe_call GLAnyJoin (hr.mono (by omega)) rfl DLAnyJoin.m DLAnyJoin.F.kp DLAnyJoin.b .nil pass0 (pa_cons (pv 0) (pa_cons (pv 1) (pa_cons (pv 2) (pa_cons (pv 4) (pa_cons pe_int (pa_cons pe_int pa_nil))))))) pa_nil))))))) (pss_one (ps_if (pt_cmpR op_eq (pv 6) pe_int (nomark _)) (pss_cons (ps_setLc (i := 11) (own := [("k", (10 : Nat))]) (g := gName 10) rfl nd rfl rfl (sw_true rfl rfl rfl (by decide +kernel)) (pi_range1 rfl T.m_range (pa_cons (pe_op op_add pe_int (pe_call GLTake (hr.mono (by omega)) rfl DLTake.m DLTake.F.kp DLTake.b .nil pass0 (pa_cons (pv 0) (pa_cons pe_int pa_nil)))) pa_nil)) (blkOk_by (own := [("k", (10 : Nat))]) (N := nLOddQuestion) (sc := defScope sLOddQuestion) (by decide +kernel)) (fun _ _ _ _ _ => pg_name (i := 10) nd rfl (Or.inl rfl)) (fun _ _ _ _ _ => pts_nil) (fun _ _ _ _ _ => (pe_call GLAnyTerm (hr.mono (by omega)) rfl DLAnyTerm.m DLAnyTerm.F.kp DLAnyTerm.b .nil pass0 (pa_cons (pv 0) (pa_cons (pv 1) (pa_cons (pv 2) pa_nil))))))
  (pss_one (ps_asg (pe_tup (pa_cons (pv 8) (pa_cons (pe_op (k_catA K rfl) (pv 9) (pe_tup (pa_cons (pe_tup (pa_cons (pe_call GLPick (hr.mono (by omega)) rfl DLPick.m DLPick.F.kp DLPick.b .nil pass0 (pa_cons (pv 0) (pa_cons (pv 2) pa_nil))) (pa_cons (pe_callTy (k_tuple K rfl) rfl T.m_tuple (by decide +kernel) (pa_cons (pv 11) pa_nil)) pa_nil))) pa_nil))) pa_nil))) (pg_sub (pv 5) (pv 7) set_list)))) (pss_one (ps_if (pt_cmpR op_eq (pv 6) pe_int (nomark _)) (pss_cons (ps_setLc (i := 12) (own := [("k", (10 : Nat))]) (g := gName 10) rfl nd rfl rfl (sw_true rfl rfl rfl (by decide +kernel)) (pi_range1 rfl T.m_range (pa_cons (pe_op op_add (pe_op op_sub pe_int (pe_callB (k_len K rfl) rfl T.m_len PySem.boot_len (pa_cons (pv 9) pa_nil))) (pe_call GLTake (hr.mono (by omega)) rfl DLTake.m DLTake.F.kp DLTake.b .nil pass0 (pa_cons (pv 0) (pa_cons pe_int pa_nil)))) pa_nil)) (blkOk_by (own := [("k", (10 : Nat))]) (N := nLOddQuestion) (sc := defScope sLOddQuestion) (by decide +kernel)) (fun _ _ _ _ _ => pg_name (i := 10) nd rfl (Or.inl rfl)) (fun _ _ _ _ _ => pts_nil) (fun _ _ _ _ _ => (pe_call GLAnyAtom (hr.mono (by omega)) rfl DLAnyAtom.m DLAnyAtom.F.kp DLAnyAtom.b .nil pass0 (pa_cons (pv 0) (pa_cons (pv 1) (pa_cons (pv 2) (pa_cons pe_int pa_nil)))))))
  (pss_one (ps_asg (pe_tup (pa_cons (pv 8) (pa_cons (pe_op (k_catA K rfl) (pv 9) (pe_callTy (k_tuple K rfl) rfl T.m_tuple (by decide +kernel) (pa_cons (pv 12) pa_nil))) pa_nil))) (pg_sub (pv 5) (pv 7) set_list)))) (pss_one (ps_if (PW.pt (pw_and (pt_cmpR op_eq (pv 6) pe_int (nomark _)) (pw_and1 (pt_cmpR op_lt (pe_callB (k_len K rfl) rfl T.m_len PySem.boot_len (pa_cons (pv 5) pa_nil)) pe_int (nomark _))))) (pss_cons (ps_set (i := 13) nd rfl (Or.inr rfl) (pe_callTy (k_tuple K rfl) rfl T.m_tuple (by decide +kernel) (pa_cons (pe_lc (own := [("k", (10 : Nat))]) (g := gName 10) rfl nd (pi_range1 rfl T.m_range (pa_cons (pe_op op_add (pe_op op_sub pe_int (pv 4)) (pe_call GLTake (hr.mono (by omega)) rfl DLTake.m DLTake.F.kp DLTake.b .nil pass0 (pa_cons (pv 0) (pa_cons pe_int pa_nil)))) pa_nil)) (blkOk_by (own := [("k", (10 : Nat))]) (N := nLOddQuestion) (sc := defScope sLOddQuestion) (by decide +kernel)) (fun _ _ _ _ _ => pg_name (i := 10) nd rfl (Or.inl rfl)) (fun _ _ _ _ _ => pts_nil) (fun _ _ _ _ _ => (pe_call GLAnyTerm (hr.mono (by omega)) rfl DLAnyTerm.m DLAnyTerm.F.kp DLAnyTerm.b .nil pass0 (pa_cons (pv 0) (pa_cons (pv 1) (pa_cons (pv 2) pa_nil)))))) pa_nil)))
  (pss_cons (ps_setLc (i := 5) (own := [("join", (14 : Nat))]) (g := gName 14) rfl nd rfl rfl (sw_true rfl rfl rfl (by decide +kernel)) (k_pil K rfl (pv 5)) (blkOk_by (own := [("join", (14 : Nat))]) (N := nLOddQuestion) (sc := defScope sLOddQuestion) (by decide +kernel)) (fun _ _ _ _ _ => pg_name (i := 14) nd rfl (Or.inl rfl)) (fun _ _ _ _ _ => pts_nil) (fun _ _ _ _ _ => (pe_tup (pa_cons (pe_op (k_catA K rfl) (pe_ix (k_ixT K rfl) (pv 14) pe_int (fun _ _ => rfl)) (pv 13)) (pa_cons (pe_ix (k_ixT K rfl) (pv 14) pe_int (fun _ _ => rfl)) pa_nil)))))
  (pss_one (ps_set (i := 4) nd rfl (Or.inl rfl) (pe_op op_add (pv 4) (pe_callB (k_len K rfl) rfl T.m_len PySem.boot_len (pa_cons (pv 13) pa_nil))))))) pss_nil)))))))))
  (pss_one (ps_ret (pe_tup (pa_cons (pv 4) (pa_cons (pe_callTy (k_tuple K rfl) rfl T.m_tuple (by decide +kernel) (pa_cons (pv 5) pa_nil)) pa_nil)))))))))))))), ?_⟩
  have ne : ws ≠ [] := fun e => by rw [e] at h4; cases h4
  walk_at "rd"
  refine ⟨d, a, L, ns, ws, rfl, hd, hS, h63, hP, wl, h4, fun v t H1 g1 rv qt => ?_⟩
  walk_at "rd"
  obtain ⟨wd, js, rfl, w8, l12, hj⟩ := qt
  obtain ⟨qa, qx, rfl, sq, ra⟩ := rv.seq
  cases ra with
  | cons r1 rb =>
  cases r1
  cases rb with
  | cons r2 rc =>
  cases rc
  obtain ⟨ja, jx, rfl, sqj, rj⟩ := r2.seq
  have lj : jx.length = js.length := rj.length
  refine rd_ixT sq rfl ?_
  walk_at "rd"
  refine rd_ixT sq rfl ?_
  walk_at "rd"
  refine rd_listT sqj fun R hR => ?_
  walk_at "rd"
  have s2 : Same H1 (upd H1 R (.lst jx)) := same_new hR
  have g2 := g1.same s2
  have nR : R ≠ d := g1.ne_new hR
  have fR : H R = none := g1.fresh hR
  refine take_step (by decide) g2.isD fun kind H3 k0 k1 g3 => ?_
  walk_at "rd"
  have g13 := g2.trans g3
  have e3 : H3 R = some (.lst jx) := g3.kp _ _ nR upd_same
  have rj3 : RpA K H3 jx js := g3.rpa (same_rpa s2 rj)
  have gL := g13
  refine iteD (fun c0 => ?_) (fun c0 => ?_)
  · walk_at "rd"
    refine rd_mk (len_ok rfl) fun EL HE nE eE sE => ?_
    walk_at "rd"
    have nEd : EL ≠ d := gL.ne_new nE
    have gE := gL.same sE
    refine ⟨d, EL, [], rfl, gE.isD, fun H' g' => SqL.of (g'.kp _ _ nEd eE), by decide, fun n HF n0 gF hn => ?_⟩
    walk_at "rd"
    refine rd_mk (len_ok rfl) fun ET HG nG eG sG => ?_
    walk_at "rd"
    refine rd_mk (len_ok rfl) fun TQ HI nI eI sI => ?_
    obtain ⟨m, rfl⟩ : ∃ m : Nat, n = (m : Int) := ⟨n.toNat, by omega⟩
    have hb : 9 + m < 10 ^ 60 := by
      rcases hn with hn | ⟨x, hx, _⟩
      · exact nine_more hn
      · cases hx
    have e9 : (9 : Int) + (m : Int) = ((9 + m : Nat) : Int) := by omega
    rw [e9] at eI
    exact q _ (9 + m) [] _ (((gE.trans gF).same sG).same sI) (.tup (SqT.of eI) (.cons (.int _) (.cons (.tup (SqT.of (sI _ _ eG)) .nil) .nil))) ⟨hb, by decide, fun _ h => (nomatch h), fun _ h => (nomatch h)⟩
  walk_at "rd"
  refine rd_len (SqL.of e3) ?_
  walk_at "rd"
  refine iteD (fun c1 => ?_) (fun c1 => ?_)
  · walk_at "rd"
    refine rd_mk (len_ok rfl) fun EL HE nE eE sE => ?_
    walk_at "rd"
    have nEd : EL ≠ d := gL.ne_new nE
    have gE := gL.same sE
    refine ⟨d, EL, [], rfl, gE.isD, fun H' g' => SqL.of (g'.kp _ _ nEd eE), by decide, fun n HF n0 gF hn => ?_⟩
    walk_at "rd"
    refine rd_mk (len_ok rfl) fun ET HG nG eG sG => ?_
    walk_at "rd"
    refine rd_mk (len_ok rfl) fun TQ HI nI eI sI => ?_
    obtain ⟨m, rfl⟩ : ∃ m : Nat, n = (m : Int) := ⟨n.toNat, by omega⟩
    have hb : 9 + m < 10 ^ 60 := by
      rcases hn with hn | ⟨x, hx, _⟩
      · exact nine_more hn
      · cases hx
    have e9 : (9 : Int) + (m : Int) = ((9 + m : Nat) : Int) := by omega
    rw [e9] at eI
    exact q _ (9 + m) [] _ (((gE.trans gF).same sG).same sI) (.tup (SqT.of eI) (.cons (.int _) (.cons (.tup (SqT.of (sI _ _ eG)) .nil) .nil))) ⟨hb, by decide, fun _ h => (nomatch h), fun _ h => (nomatch h)⟩
  have lpos : 0 < jx.length := by
    rcases Nat.eq_zero_or_pos jx.length with e | e
    · exact absurd (by rw [e]; rfl) c1
    · exact e
  walk_at "rd"
  refine rd_len (SqL.of e3) ?_
  walk_at "rd"
  refine take_step (by omega) g3.isD fun at_ H5 a0 a1 g5 => ?_
  obtain ⟨an, rfl⟩ : ∃ an : Nat, at_ = (an : Int) := ⟨at_.toNat, by omega⟩
  have la : an < jx.length := by omega
  have g15 := g13.trans g5
  have e5 := g5.kp _ _ nR e3
  have rj5 := g5.rpa rj3
  obtain ⟨t, et, rt⟩ := rpa_at rj5 (List.getElem?_eq_getElem la)
  have jt := hj t (List.mem_of_getElem? et)
  obtain ⟨hd_, bd, rfl, lh, lb, hb, hh⟩ := jt
  have jS := join_W (n := wd) (a := 8) (m := 8) (by decide) (by decide) (hj _ (List.mem_of_getElem? et))
  have hjS : ∀ j ∈ js, joinW wd j := fun j h => join_W (by decide) (by decide) (hj j h)
  obtain ⟨_, _, e, _, _, hhS, hbS⟩ := jS
  cases e
  obtain ⟨ta, tx, ex, sqt, rt2⟩ := rt.seq
  cases rt2 with
  | cons rh rt3 =>
  cases rt3 with
  | cons rb rt4 =>
  cases rt4
  walk_at "rd"
  refine rd_ixL (SqL.of e5) (atI_nat (List.getElem?_eq_getElem la)) ?_
  rw [ex]
  refine rd_ixT sqt rfl ?_
  walk_at "rd"
  refine rd_ixL (SqL.of e5) (atI_nat (List.getElem?_eq_getElem la)) ?_
  rw [ex]
  refine rd_ixT sqt rfl ?_
  walk_at "rd"
  obtain ⟨ha, hx, rfl, _, _⟩ := rh.seq
  obtain ⟨ba, bx, rfl, sqb, rbx⟩ := rb.seq
  have lbx : bx.length = bd.length := rbx.length
  have w18 : wd ≤ 18 := by omega
  refine ⟨fun σ' H' => ∃ (w' : Nat) (R' : Addr) (ys : List V) (js' : List TD) (v10 v11 v12 v13 : Option V), σ' = [some (.ref d), some (.ref a), some (.ref L), some (.ref qa), some (.int w'), some (.ref R'), some (.int kind), some (.int an), some (.ref ha), some (.ref ba), v10, v11, v12, v13, none] ∧ w' ≤ 18 ∧ js'.length ≤ 15 ∧ (∀ j ∈ js', joinW w' j) ∧ RpA K H' ys js' ∧ H' R' = some (.lst ys) ∧ Dr d H H', ?_, ?_⟩
  · walk_at "rd"
    refine iteD (fun c1' => ?_) (fun c1' => ?_)
    · walk_at "rd"
      refine iteD (fun cw => ?_) (fun cw => ?_)
      · walk_at "rd"
        refine take_step (by omega) g15.isD fun k H6 k0' k1' g6 => ?_
        walk_at "rd"
        refine rp_cut (ts := hd_) (g6.rp rh) fun u1 H7 us1 s7 ru1 m1 l1' => ?_
        have l1 : us1.length = k.toNat := cut_hi (by omega) (by omega) l1'
        walk_at "rd"
        have g7 := (g15.trans g6).same s7
        have t7 : Dr d H5 H7 := g6.same s7
        refine ⟨d, L, _, rfl, g7.isD, (wl.dr g7).at_, wl.ne, by simpa using ne, fun v H8 g8 mv => ?_⟩
        obtain ⟨z, rfl, mz⟩ := strs_mem mv
        walk_at "rd"
        refine rd_mk (len_ok rfl) fun tp1 H9 n9 e9 s9 => ?_
        walk_at "rd"
        refine rd_mk (len_ok rfl) fun tp2 H10 n10 e10 s10 => ?_
        walk_at "rd"
        have s910 := s9.trans s10
        have t10 : Dr d H5 H10 := (t7.trans g8).same s910
        have ru1' := same_rp s910 (g8.rp ru1)
        have rv : Rp K H10 (.ref tp2) (.tup [.tup [.str "var", .str z]]) := .tup (SqT.of e10) (.cons (.tup (SqT.of (s10 _ _ e9)) (.cons (.str _) (.cons (.str z) .nil))) .nil)
        have vS : termW (.tup [.str "var", .str z]) := var_W (wl.ok z mz)
        refine rp_cat ru1' rv (Nat.le_trans (m := 100) (by show us1.length + 1 ≤ 100; omega) (by decide)) fun u2 H11 s11 ru2 => ?_
        walk_at "rd"
        refine rp_cut (ts := hd_) ((t10.same s11).rp rh) fun u3 H12 us3 s12 ru3 m3 l3' => ?_
        have l3 : us3.length = wd - (k.toNat + 1) := cut_lo (by omega) (by omega) (by rw [lh] at l3'; exact l3')
        have ru2' := same_rp s12 ru2
        refine rp_cat ru2' ru3 (Nat.le_trans (m := 100) (by rw [List.length_append]; show us1.length + 1 + us3.length ≤ 100; omega) (by decide)) fun u4 H13 s13 ru4 => ?_
        walk_at "rd"
        refine rd_mk (len_ok rfl) fun tq H14 n14 e14 s14 => ?_
        walk_at "rd"
        have t14 : Dr d H5 H14 := (((t10.same s11).same s12).same s13).same s14
        have e14' := t14.kp _ _ nR e5
        have rq : Rp K H14 (.ref tq) (.tup [.tup ((us1 ++ [.tup [.str "var", .str z]]) ++ us3), .tup bd]) := .tup (SqT.of e14) (.cons (same_rp s14 ru4) (.cons (t14.rp rb) .nil))
        refine rd_setL e14' (by omega) (by omega) ?_
        walk_at "rd"
        refine ⟨wd, R, jx.set an (.ref tq), js.set an _, _, none, none, none, rfl, w18, by rw [List.length_set]; omega, ?_, rpa_put e14' (rpa_set an (t14.rpa rj5) rq), upd_same, (g15.trans t14).own fR⟩
        intro j hj'
        rcases List.mem_or_eq_of_mem_set hj' with e | e
        · exact hjS j e
        · rw [e]
          refine ⟨_, bd, rfl, by rw [List.length_append, List.length_append]; show us1.length + 1 + us3.length = wd; omega, by omega, ?_, hbS⟩
          intro y hy
          rcases List.mem_append.mp hy with h | h
          · rcases List.mem_append.mp h with h | h
            · exact hhS y (m1 y h)
            · rw [List.mem_singleton.mp h]; exact vS
          · exact hhS y (m3 y h)
      · walk_at "rd"
        refine iteD (fun c2 => ?_) (fun c2 => ?_)
        · walk_at "rd"
          refine rd_len (SqL.of e5) ?_
          walk_at "rd"
          refine take_step (by decide) g15.isD fun r H6 r0 r1 g6 => ?_
          walk_at "rd"
          obtain ⟨rn, hrn⟩ : ∃ rn : Nat, (13 - (jx.length : Int) + r) = (rn : Int) := ⟨(13 - (jx.length : Int) + r).toNat, by omega⟩
          rw [hrn]
          refine rd_r1 ⟨by omega, by omega⟩ ?_
          rw [show ((rn : Int)).toNat = rn by omega]
          refine for_range (lo := 0) (n := rn) (fun i σ' H' => ∃ (v10 : Option V) (ys : List V) (js' : List TD), σ' = [some (.ref d), some (.ref a), some (.ref L), some (.ref qa), some (.int wd), some (.ref R), some (.int kind), some (.int an), some (.ref ha), some (.ref ba), v10, none, none, none, none] ∧ js'.length = js.length + i ∧ (∀ j ∈ js', joinW wd j) ∧ RpA K H' ys js' ∧ H' R = some (.lst ys) ∧ Dr d H H') ⟨none, jx, js, rfl, rfl, hjS, g6.rpa rj5, g6.kp _ _ nR e5, g15.trans g6⟩ ?_ ?_
          · rintro i σ' H7 hi ⟨v10, ys, js', rfl, ll, hjs, ry, e7, g7⟩
            have ly : ys.length = js'.length := ry.length
            walk_at "rd"
            refine rd_ty (SqL.of e7) ?_
            walk_at "rd"
            refine ⟨d, a, L, wd, 1, 2, ns, ws, rfl, g7.isD, hS.dr g7, h63, hP, wl.dr g7, h4, w8, by decide, by decide, fun v t H8 g8 rv tv => ?_⟩
            have e8 := g8.kp _ _ nR e7
            walk_at "rd"
            refine rd_append e8 (small1000 (by omega)) ?_
            walk_at "rd"
            refine ⟨_, ys ++ [v], js' ++ [t], rfl, by rw [List.length_append, ll]; rfl, ?_, RpA.app (rpa_put e8 (g8.rpa ry)) (.cons (rp_put e8 rv) .nil), upd_same, (g7.trans g8).own fR⟩
            intro y hy
            rcases List.mem_append.mp hy with h | h
            · exact hjs y h
            · rw [List.mem_singleton.mp h]; exact join_W (by decide) (by decide) tv
          · rintro σ' H7 ⟨v10, ys, js', rfl, ll, hjs, ry, e7, g7⟩
            exact ⟨wd, R, ys, js', v10, none, none, none, rfl, w18, by omega, hjs, ry, e7, g7⟩
        · walk_at "rd"
          refine iteD (fun c3 => ?_) (fun c3 => ?_)
          · walk_at "rd"
            refine take_step (by decide) g15.isD fun r H6 r0 r1 g6 => ?_
            walk_at "rd"
            obtain ⟨rn, hrn⟩ : ∃ rn : Nat, (8 + r) = (rn : Int) := ⟨(8 + r).toNat, by omega⟩
            rw [hrn]
            refine rd_r1 ⟨by omega, by omega⟩ fun D hD => ?_
            rw [show ((rn : Int)).toNat = rn by omega]
            have nD : D ≠ d := (g15.trans g6).ne_new hD
            have fD : H D = none := (g15.trans g6).fresh hD
            have f5D : H5 D = none := g6.fresh hD
            refine lc_range (lo := 0) (n := rn) (fun i H' => ∃ (xs : List V) (ts : List TD), ts.length = i ∧ RpA K H' xs ts ∧ (∀ t ∈ ts, termW t) ∧ H' D = some (.lst xs) ∧ Dr d H5 H') ⟨[], [], rfl, .nil, fun _ h => (nomatch h), upd_same, g6.own f5D⟩ ?_ ?_
            · rintro i H7 hi ⟨xs, ts, hl, ra, ht, e7, g7⟩
              refine ⟨rfl, ?_⟩
              walk_at "rd"
              have g57 := g15.trans g7
              refine ⟨d, a, L, ns, ws, rfl, g7.isD, hS.dr g57, h63, hP, wl.dr g57, ne, fun v t H8 g8 rv tv => ?_⟩
              have lx : xs.length = ts.length := ra.length
              have e8 := g8.kp _ _ nD e7
              refine ⟨_, e8, small1000 (by omega), ⟨xs ++ [v], ts ++ [t], by rw [List.length_append, hl]; rfl, RpA.app (rpa_put e8 (g8.rpa ra)) (.cons (rp_put e8 rv) .nil), ?_, upd_same, (g7.trans g8).own f5D⟩⟩
              intro x hx
              rcases List.mem_append.mp hx with h | h
              · exact ht x h
              · rw [List.mem_singleton.mp h]; exact term_W tv
            rintro H7 ⟨xs, ts, hlt, ra, ht, e7, g7⟩
            walk_at "rd"
            refine ⟨d, L, _, rfl, g7.isD, (wl.dr (g15.trans g7)).at_, wl.ne, by simpa using ne, fun v H8 g8 mv => ?_⟩
            obtain ⟨z, rfl, mz⟩ := strs_mem mv
            walk_at "rd"
            refine rd_tuple (SqL.of (g8.kp _ _ nD e7)) fun tp htp => ?_
            walk_at "rd"
            have s9 : Same H8 (upd H8 tp (.tup xs)) := same_new htp
            refine rd_mk (len_ok rfl) fun tp1 H10 n10 e10 s10 => ?_
            walk_at "rd"
            refine rd_mk (len_ok rfl) fun tp2 H11 n11 e11 s11 => ?_
            walk_at "rd"
            have sA := (s9.trans s10).trans s11
            have t11 : Dr d H5 H11 := (g7.trans g8).same sA
            have rts : Rp K H11 (.ref tp) (.tup ts) := .tup (same_sqt (s10.trans s11) (SqT.of upd_same)) (same_rpa sA (g8.rpa ra))
            have rat : Rp K H11 (.ref tp2) (.tup [.tup [.str z, .tup ts]]) := .tup (SqT.of e11) (.cons (.tup (SqT.of (s11 _ _ e10)) (.cons (.str z) (.cons rts .nil))) .nil)
            refine rp_cat (t11.rp rb) rat (Nat.le_trans (m := 100) (by show bd.length + 1 ≤ 100; omega) (by decide)) fun u2 H12 s12 ru2 => ?_
            walk_at "rd"
            refine rd_mk (len_ok rfl) fun tq H14 n14 e14 s14 => ?_
            walk_at "rd"
            have t14 : Dr d H5 H14 := (t11.same s12).same s14
            have e14' := t14.kp _ _ nR e5
            have rq : Rp K H14 (.ref tq) (.tup [.tup hd_, .tup (bd ++ [.tup [.str z, .tup ts]])]) := .tup (SqT.of e14) (.cons (t14.rp rh) (.cons (same_rp s14 ru2) .nil))
            refine rd_setL e14' (by omega) (by omega) ?_
            walk_at "rd"
            refine ⟨wd, R, jx.set an (.ref tq), js.set an _, none, _, none, none, rfl, w18, by rw [List.length_set]; omega, ?_, rpa_put e14' (rpa_set an (t14.rpa rj5) rq), upd_same, (g15.trans t14).own fR⟩
            intro j hj'
            rcases List.mem_or_eq_of_mem_set hj' with e | e
            · exact hjS j e
            · rw [e]
              refine ⟨hd_, _, rfl, by omega, by rw [List.length_append]; show bd.length + 1 ≤ 18; omega, hhS, ?_⟩
              intro y hy
              rcases List.mem_append.mp hy with h | h
              · exact hbS y h
              · rw [List.mem_singleton.mp h]; exact ⟨z, ts, rfl, wl.ok z mz, by omega, ht⟩
          · walk_at "rd"
            refine iteD (fun c4 => ?_) (fun c4 => ?_)
            · walk_at "rd"
              refine rd_lenT sqb ?_
              walk_at "rd"
              refine take_step (by decide) g15.isD fun r H6 r0 r1 g6 => ?_
              walk_at "rd"
              obtain ⟨rn, hrn⟩ : ∃ rn : Nat, (9 - (bx.length : Int) + r) = (rn : Int) := ⟨(9 - (bx.length : Int) + r).toNat, by omega⟩
              rw [hrn]
              refine rd_r1 ⟨by omega, by omega⟩ fun D hD => ?_
              rw [show ((rn : Int)).toNat = rn by omega]
              have nD : D ≠ d := (g15.trans g6).ne_new hD
              have f5D : H5 D = none := g6.fresh hD
              refine lc_range (lo := 0) (n := rn) (fun i H' => ∃ (xs : List V) (ts : List TD), ts.length = i ∧ RpA K H' xs ts ∧ (∀ t ∈ ts, atomW t) ∧ H' D = some (.lst xs) ∧ Dr d H5 H') ⟨[], [], rfl, .nil, fun _ h => (nomatch h), upd_same, g6.own f5D⟩ ?_ ?_
              · rintro i H7 hi ⟨xs, ts, hl, ra, ht, e7, g7⟩
                refine ⟨rfl, ?_⟩
                walk_at "rd"
                have g57 := g15.trans g7
                refine ⟨d, a, L, 1, ns, ws, rfl, g7.isD, hS.dr g57, h63, hP, wl.dr g57, h4, by decide, fun v t H8 g8 rv tv => ?_⟩
                have lx : xs.length = ts.length := ra.length
                have e8 := g8.kp _ _ nD e7
                refine ⟨_, e8, small1000 (by omega), ⟨xs ++ [v], ts ++ [t], by rw [List.length_append, hl]; rfl, RpA.app (rpa_put e8 (g8.rpa ra)) (.cons (rp_put e8 rv) .nil), ?_, upd_same, (g7.trans g8).own f5D⟩⟩
                intro x hx
                rcases List.mem_append.mp hx with h | h
                · exact ht x h
                · rw [List.mem_singleton.mp h]; exact atom_W (by decide) tv
              rintro H7 ⟨xs, ts, hlt, ra, ht, e7, g7⟩
              walk_at "rd"
              refine rd_tuple (SqL.of e7) fun tp htp => ?_
              walk_at "rd"
              have s9 : Same H7 (upd H7 tp (.tup xs)) := same_new htp
              have t9 : Dr d H5 (upd H7 tp (.tup xs)) := g7.same s9
              have rts : Rp K (upd H7 tp (.tup xs)) (.ref tp) (.tup ts) := .tup (SqT.of upd_same) (same_rpa s9 ra)
              refine rp_cat (t9.rp rb) rts (Nat.le_trans (m := 100) (by omega) (by decide)) fun u2 H12 s12 ru2 => ?_
              walk_at "rd"
              refine rd_mk (len_ok rfl) fun tq H14 n14 e14 s14 => ?_
              walk_at "rd"
              have t14 : Dr d H5 H14 := (t9.same s12).same s14
              have e14' := t14.kp _ _ nR e5
              have rq : Rp K H14 (.ref tq) (.tup [.tup hd_, .tup (bd ++ ts)]) := .tup (SqT.of e14) (.cons (t14.rp rh) (.cons (same_rp s14 ru2) .nil))
              refine rd_setL e14' (by omega) (by omega) ?_
              walk_at "rd"
              refine ⟨wd, R, jx.set an (.ref tq), js.set an _, none, none, _, none, rfl, w18, by rw [List.length_set]; omega, ?_, rpa_put e14' (rpa_set an (t14.rpa rj5) rq), upd_same, (g15.trans t14).own fR⟩
              intro j hj'
              rcases List.mem_or_eq_of_mem_set hj' with e | e
              · exact hjS j e
              · rw [e]
                refine ⟨hd_, _, rfl, by omega, by rw [List.length_append]; omega, hhS, ?_⟩
                intro y hy
                rcases List.mem_append.mp hy with h | h
                · exact hbS y h
                · exact ht y h
            · walk_at "rd"
              refine iteD (fun c5 => ?_) (fun c5 => ?_)
              · walk_at "rd"
                refine rd_len (SqL.of e5) ?_
                walk_at "rd"
                refine iteD (fun c6 => ?_) (fun c6 => ?_)
                · walk_at "rd"
                  refine take_step (by decide) g15.isD fun r H6 r0 r1 g6 => ?_
                  walk_at "rd"
                  obtain ⟨rn, hrn⟩ : ∃ rn : Nat, (9 - (wd : Int) + r) = (rn : Int) := ⟨(9 - (wd : Int) + r).toNat, by omega⟩
                  rw [hrn]
                  refine rd_r1 ⟨by omega, by omega⟩ fun D hD => ?_
                  rw [show ((rn : Int)).toNat = rn by omega]
                  have nD : D ≠ d := (g15.trans g6).ne_new hD
                  have fD : H D = none := (g15.trans g6).fresh hD
                  have f5D : H5 D = none := g6.fresh hD
                  refine lc_range (lo := 0) (n := rn) (fun i H' => ∃ (xs : List V) (ts : List TD), ts.length = i ∧ RpA K H' xs ts ∧ (∀ t ∈ ts, termW t) ∧ H' D = some (.lst xs) ∧ Dr d H5 H') ⟨[], [], rfl, .nil, fun _ h => (nomatch h), upd_same, g6.own f5D⟩ ?_ ?_
                  · rintro i H7 hi ⟨xs, ts, hl, ra, ht, e7, g7⟩
                    refine ⟨rfl, ?_⟩
                    walk_at "rd"
                    have g57 := g15.trans g7
                    refine ⟨d, a, L, ns, ws, rfl, g7.isD, hS.dr g57, h63, hP, wl.dr g57, ne, fun v t H8 g8 rv tv => ?_⟩
                    have lx : xs.length = ts.length := ra.length
                    have e8 := g8.kp _ _ nD e7
                    refine ⟨_, e8, small1000 (by omega), ⟨xs ++ [v], ts ++ [t], by rw [List.length_append, hl]; rfl, RpA.app (rpa_put e8 (g8.rpa ra)) (.cons (rp_put e8 rv) .nil), ?_, upd_same, (g7.trans g8).own f5D⟩⟩
                    intro x hx
                    rcases List.mem_append.mp hx with h | h
                    · exact ht x h
                    · rw [List.mem_singleton.mp h]; exact term_W tv
                  rintro H7 ⟨xs, ts, hlt, ra, ht, e7, g7⟩
                  walk_at "rd"
                  refine rd_tuple (SqL.of e7) fun M hM => ?_
                  walk_at "rd"
                  have s8 : Same H7 (upd H7 M (.tup xs)) := same_new hM
                  have t8 : Dr d H5 (upd H7 M (.tup xs)) := g7.same s8
                  have rM : Rp K (upd H7 M (.tup xs)) (.ref M) (.tup ts) := .tup (SqT.of upd_same) (same_rpa s8 ra)
                  have sqM : SqT K (upd H7 M (.tup xs)) M xs := SqT.of upd_same
                  have lxs : xs.length = ts.length := ra.length
                  generalize upd H7 M (.tup xs) = H8 at *
                  have e8 := t8.kp _ _ nR e5
                  have rj8 := t8.rpa rj5
                  refine rd_il (SqL.of e8) fun D2 hD2 => ?_
                  refine lc_list (K := K) (a := R) (xs := jx) (fun i H' => ∃ (zs : List V) (zt : List TD), zt.length = i ∧ RpA K H' zs zt ∧ (∀ j ∈ zt, joinW (wd + xs.length) j) ∧ H' D2 = some (.lst zs) ∧ Same H8 H') ⟨[], [], rfl, .nil, fun _ h => (nomatch h), upd_same, same_new hD2⟩ (fun i H' _ p => by obtain ⟨_, _, _, _, _, _, sm⟩ := p; exact SqL.of (sm _ _ e8)) ?_ ?_
                  · rintro i x H9 hx' ⟨zs, zt, hlz, rz, hz, eD2, s9⟩
                    refine ⟨rfl, ?_⟩
                    obtain ⟨t2, et2, rt2⟩ := rpa_at (same_rpa s9 rj8) hx'
                    have li := (List.getElem?_eq_some_iff.mp et2).1
                    have j2S := hjS t2 (List.mem_of_getElem? et2)
                    obtain ⟨hd2, bd2, rfl, lh2, _, _, _⟩ := hj t2 (List.mem_of_getElem? et2)
                    obtain ⟨_, _, e2', lhS2, lbS2, hhS2, hbS2⟩ := j2S
                    cases e2'
                    obtain ⟨xa, xx, rfl, sqx, rx2⟩ := rt2.seq
                    cases rx2 with
                    | cons rh2 rx3 =>
                    cases rx3 with
                    | cons rb2 rx4 =>
                    cases rx4
                    have lzz : zs.length = zt.length := rz.length
                    walk_at "rd"
                    refine rd_ixT sqx rfl ?_
                    walk_at "rd"
                    refine rp_cat rh2 (same_rp s9 rM) (Nat.le_trans (m := 100) (by omega) (by decide)) fun u2 H12 s12 ru2 => ?_
                    walk_at "rd"
                    refine rd_ixT (same_sqt s12 sqx) rfl ?_
                    walk_at "rd"
                    refine rd_mk (len_ok rfl) fun tq H14 n14 e14 s14 => ?_
                    have sB := s12.trans s14
                    have eD := sB _ _ eD2
                    have rq : Rp K H14 (.ref tq) (.tup [.tup (hd2 ++ ts), .tup bd2]) := .tup (SqT.of e14) (.cons (same_rp s14 ru2) (.cons (same_rp sB rb2) .nil))
                    refine ⟨_, eD, small1000 (by omega), ⟨zs ++ [.ref tq], zt ++ [_], by rw [List.length_append, hlz]; rfl, RpA.app (rpa_put eD (same_rpa sB rz)) (.cons (rp_put eD rq) .nil), ?_, upd_same, same_own (s9.trans sB) hD2⟩⟩
                    intro y hy
                    rcases List.mem_append.mp hy with h | h
                    · exact hz y h
                    · rw [List.mem_singleton.mp h]
                      refine ⟨_, bd2, rfl, by rw [List.length_append]; omega, lbS2, ?_, hbS2⟩
                      intro w hw
                      rcases List.mem_append.mp hw with h | h
                      · exact hhS2 w h
                      · exact ht w h
                  rintro H9 ⟨zs, zt, hlz, rz, hz, eD2, s9⟩
                  walk_at "rd"
                  refine rd_lenT (same_sqt s9 sqM) ?_
                  walk_at "rd"
                  exact ⟨wd + xs.length, D2, zs, zt, none, none, none, _, by rw [Int.natCast_add]; rfl, by omega, by omega, hz, rz, eD2, (g15.trans t8).same s9⟩
                · walk_at "rd"
                  exact ⟨wd, R, jx, js, none, none, none, none, rfl, w18, by omega, hjS, rj5, e5, g15⟩
              · walk_at "rd"
                exact ⟨wd, R, jx, js, none, none, none, none, rfl, w18, by omega, hjS, rj5, e5, g15⟩
    · walk_at "rd"
      refine iteD (fun c2 => ?_) (fun c2 => ?_)
      · walk_at "rd"
        refine rd_len (SqL.of e5) ?_
        walk_at "rd"
        refine take_step (by decide) g15.isD fun r H6 r0 r1 g6 => ?_
        walk_at "rd"
        obtain ⟨rn, hrn⟩ : ∃ rn : Nat, (13 - (jx.length : Int) + r) = (rn : Int) := ⟨(13 - (jx.length : Int) + r).toNat, by omega⟩
        rw [hrn]
        refine rd_r1 ⟨by omega, by omega⟩ ?_
        rw [show ((rn : Int)).toNat = rn by omega]
        refine for_range (lo := 0) (n := rn) (fun i σ' H' => ∃ (v10 : Option V) (ys : List V) (js' : List TD), σ' = [some (.ref d), some (.ref a), some (.ref L), some (.ref qa), some (.int wd), some (.ref R), some (.int kind), some (.int an), some (.ref ha), some (.ref ba), v10, none, none, none, none] ∧ js'.length = js.length + i ∧ (∀ j ∈ js', joinW wd j) ∧ RpA K H' ys js' ∧ H' R = some (.lst ys) ∧ Dr d H H') ⟨none, jx, js, rfl, rfl, hjS, g6.rpa rj5, g6.kp _ _ nR e5, g15.trans g6⟩ ?_ ?_
        · rintro i σ' H7 hi ⟨v10, ys, js', rfl, ll, hjs, ry, e7, g7⟩
          have ly : ys.length = js'.length := ry.length
          walk_at "rd"
          refine rd_ty (SqL.of e7) ?_
          walk_at "rd"
          refine ⟨d, a, L, wd, 1, 2, ns, ws, rfl, g7.isD, hS.dr g7, h63, hP, wl.dr g7, h4, w8, by decide, by decide, fun v t H8 g8 rv tv => ?_⟩
          have e8 := g8.kp _ _ nR e7
          walk_at "rd"
          refine rd_append e8 (small1000 (by omega)) ?_
          walk_at "rd"
          refine ⟨_, ys ++ [v], js' ++ [t], rfl, by rw [List.length_append, ll]; rfl, ?_, RpA.app (rpa_put e8 (g8.rpa ry)) (.cons (rp_put e8 rv) .nil), upd_same, (g7.trans g8).own fR⟩
          intro y hy
          rcases List.mem_append.mp hy with h | h
          · exact hjs y h
          · rw [List.mem_singleton.mp h]; exact join_W (by decide) (by decide) tv
        · rintro σ' H7 ⟨v10, ys, js', rfl, ll, hjs, ry, e7, g7⟩
          exact ⟨wd, R, ys, js', v10, none, none, none, rfl, w18, by omega, hjs, ry, e7, g7⟩
      · walk_at "rd"
        refine iteD (fun c3 => ?_) (fun c3 => ?_)
        · walk_at "rd"
          refine take_step (by decide) g15.isD fun r H6 r0 r1 g6 => ?_
          walk_at "rd"
          obtain ⟨rn, hrn⟩ : ∃ rn : Nat, (8 + r) = (rn : Int) := ⟨(8 + r).toNat, by omega⟩
          rw [hrn]
          refine rd_r1 ⟨by omega, by omega⟩ fun D hD => ?_
          rw [show ((rn : Int)).toNat = rn by omega]
          have nD : D ≠ d := (g15.trans g6).ne_new hD
          have fD : H D = none := (g15.trans g6).fresh hD
          have f5D : H5 D = none := g6.fresh hD
          refine lc_range (lo := 0) (n := rn) (fun i H' => ∃ (xs : List V) (ts : List TD), ts.length = i ∧ RpA K H' xs ts ∧ (∀ t ∈ ts, termW t) ∧ H' D = some (.lst xs) ∧ Dr d H5 H') ⟨[], [], rfl, .nil, fun _ h => (nomatch h), upd_same, g6.own f5D⟩ ?_ ?_
          · rintro i H7 hi ⟨xs, ts, hl, ra, ht, e7, g7⟩
            refine ⟨rfl, ?_⟩
            walk_at "rd"
            have g57 := g15.trans g7
            refine ⟨d, a, L, ns, ws, rfl, g7.isD, hS.dr g57, h63, hP, wl.dr g57, ne, fun v t H8 g8 rv tv => ?_⟩
            have lx : xs.length = ts.length := ra.length
            have e8 := g8.kp _ _ nD e7
            refine ⟨_, e8, small1000 (by omega), ⟨xs ++ [v], ts ++ [t], by rw [List.length_append, hl]; rfl, RpA.app (rpa_put e8 (g8.rpa ra)) (.cons (rp_put e8 rv) .nil), ?_, upd_same, (g7.trans g8).own f5D⟩⟩
            intro x hx
            rcases List.mem_append.mp hx with h | h
            · exact ht x h
            · rw [List.mem_singleton.mp h]; exact term_W tv
          rintro H7 ⟨xs, ts, hlt, ra, ht, e7, g7⟩
          walk_at "rd"
          refine ⟨d, L, _, rfl, g7.isD, (wl.dr (g15.trans g7)).at_, wl.ne, by simpa using ne, fun v H8 g8 mv => ?_⟩
          obtain ⟨z, rfl, mz⟩ := strs_mem mv
          walk_at "rd"
          refine rd_tuple (SqL.of (g8.kp _ _ nD e7)) fun tp htp => ?_
          walk_at "rd"
          have s9 : Same H8 (upd H8 tp (.tup xs)) := same_new htp
          refine rd_mk (len_ok rfl) fun tp1 H10 n10 e10 s10 => ?_
          walk_at "rd"
          refine rd_mk (len_ok rfl) fun tp2 H11 n11 e11 s11 => ?_
          walk_at "rd"
          have sA := (s9.trans s10).trans s11
          have t11 : Dr d H5 H11 := (g7.trans g8).same sA
          have rts : Rp K H11 (.ref tp) (.tup ts) := .tup (same_sqt (s10.trans s11) (SqT.of upd_same)) (same_rpa sA (g8.rpa ra))
          have rat : Rp K H11 (.ref tp2) (.tup [.tup [.str z, .tup ts]]) := .tup (SqT.of e11) (.cons (.tup (SqT.of (s11 _ _ e10)) (.cons (.str z) (.cons rts .nil))) .nil)
          refine rp_cat (t11.rp rb) rat (Nat.le_trans (m := 100) (by show bd.length + 1 ≤ 100; omega) (by decide)) fun u2 H12 s12 ru2 => ?_
          walk_at "rd"
          refine rd_mk (len_ok rfl) fun tq H14 n14 e14 s14 => ?_
          walk_at "rd"
          have t14 : Dr d H5 H14 := (t11.same s12).same s14
          have e14' := t14.kp _ _ nR e5
          have rq : Rp K H14 (.ref tq) (.tup [.tup hd_, .tup (bd ++ [.tup [.str z, .tup ts]])]) := .tup (SqT.of e14) (.cons (t14.rp rh) (.cons (same_rp s14 ru2) .nil))
          refine rd_setL e14' (by omega) (by omega) ?_
          walk_at "rd"
          refine ⟨wd, R, jx.set an (.ref tq), js.set an _, none, _, none, none, rfl, w18, by rw [List.length_set]; omega, ?_, rpa_put e14' (rpa_set an (t14.rpa rj5) rq), upd_same, (g15.trans t14).own fR⟩
          intro j hj'
          rcases List.mem_or_eq_of_mem_set hj' with e | e
          · exact hjS j e
          · rw [e]
            refine ⟨hd_, _, rfl, by omega, by rw [List.length_append]; show bd.length + 1 ≤ 18; omega, hhS, ?_⟩
            intro y hy
            rcases List.mem_append.mp hy with h | h
            · exact hbS y h
            · rw [List.mem_singleton.mp h]; exact ⟨z, ts, rfl, wl.ok z mz, by omega, ht⟩
        · walk_at "rd"
          refine iteD (fun c4 => ?_) (fun c4 => ?_)
          · walk_at "rd"
            refine rd_lenT sqb ?_
            walk_at "rd"
            refine take_step (by decide) g15.isD fun r H6 r0 r1 g6 => ?_
            walk_at "rd"
            obtain ⟨rn, hrn⟩ : ∃ rn : Nat, (9 - (bx.length : Int) + r) = (rn : Int) := ⟨(9 - (bx.length : Int) + r).toNat, by omega⟩
            rw [hrn]
            refine rd_r1 ⟨by omega, by omega⟩ fun D hD => ?_
            rw [show ((rn : Int)).toNat = rn by omega]
            have nD : D ≠ d := (g15.trans g6).ne_new hD
            have f5D : H5 D = none := g6.fresh hD
            refine lc_range (lo := 0) (n := rn) (fun i H' => ∃ (xs : List V) (ts : List TD), ts.length = i ∧ RpA K H' xs ts ∧ (∀ t ∈ ts, atomW t) ∧ H' D = some (.lst xs) ∧ Dr d H5 H') ⟨[], [], rfl, .nil, fun _ h => (nomatch h), upd_same, g6.own f5D⟩ ?_ ?_
            · rintro i H7 hi ⟨xs, ts, hl, ra, ht, e7, g7⟩
              refine ⟨rfl, ?_⟩
              walk_at "rd"
              have g57 := g15.trans g7
              refine ⟨d, a, L, 1, ns, ws, rfl, g7.isD, hS.dr g57, h63, hP, wl.dr g57, h4, by decide, fun v t H8 g8 rv tv => ?_⟩
              have lx : xs.length = ts.length := ra.length
              have e8 := g8.kp _ _ nD e7
              refine ⟨_, e8, small1000 (by omega), ⟨xs ++ [v], ts ++ [t], by rw [List.length_append, hl]; rfl, RpA.app (rpa_put e8 (g8.rpa ra)) (.cons (rp_put e8 rv) .nil), ?_, upd_same, (g7.trans g8).own f5D⟩⟩
              intro x hx
              rcases List.mem_append.mp hx with h | h
              · exact ht x h
              · rw [List.mem_singleton.mp h]; exact atom_W (by decide) tv
            rintro H7 ⟨xs, ts, hlt, ra, ht, e7, g7⟩
            walk_at "rd"
            refine rd_tuple (SqL.of e7) fun tp htp => ?_
            walk_at "rd"
            have s9 : Same H7 (upd H7 tp (.tup xs)) := same_new htp
            have t9 : Dr d H5 (upd H7 tp (.tup xs)) := g7.same s9
            have rts : Rp K (upd H7 tp (.tup xs)) (.ref tp) (.tup ts) := .tup (SqT.of upd_same) (same_rpa s9 ra)
            refine rp_cat (t9.rp rb) rts (Nat.le_trans (m := 100) (by omega) (by decide)) fun u2 H12 s12 ru2 => ?_
            walk_at "rd"
            refine rd_mk (len_ok rfl) fun tq H14 n14 e14 s14 => ?_
            walk_at "rd"
            have t14 : Dr d H5 H14 := (t9.same s12).same s14
            have e14' := t14.kp _ _ nR e5
            have rq : Rp K H14 (.ref tq) (.tup [.tup hd_, .tup (bd ++ ts)]) := .tup (SqT.of e14) (.cons (t14.rp rh) (.cons (same_rp s14 ru2) .nil))
            refine rd_setL e14' (by omega) (by omega) ?_
            walk_at "rd"
            refine ⟨wd, R, jx.set an (.ref tq), js.set an _, none, none, _, none, rfl, w18, by rw [List.length_set]; omega, ?_, rpa_put e14' (rpa_set an (t14.rpa rj5) rq), upd_same, (g15.trans t14).own fR⟩
            intro j hj'
            rcases List.mem_or_eq_of_mem_set hj' with e | e
            · exact hjS j e
            · rw [e]
              refine ⟨hd_, _, rfl, by omega, by rw [List.length_append]; omega, hhS, ?_⟩
              intro y hy
              rcases List.mem_append.mp hy with h | h
              · exact hbS y h
              · exact ht y h
          · walk_at "rd"
            refine iteD (fun c5 => ?_) (fun c5 => ?_)
            · walk_at "rd"
              refine rd_len (SqL.of e5) ?_
              walk_at "rd"
              refine iteD (fun c6 => ?_) (fun c6 => ?_)
              · walk_at "rd"
                refine take_step (by decide) g15.isD fun r H6 r0 r1 g6 => ?_
                walk_at "rd"
                obtain ⟨rn, hrn⟩ : ∃ rn : Nat, (9 - (wd : Int) + r) = (rn : Int) := ⟨(9 - (wd : Int) + r).toNat, by omega⟩
                rw [hrn]
                refine rd_r1 ⟨by omega, by omega⟩ fun D hD => ?_
                rw [show ((rn : Int)).toNat = rn by omega]
                have nD : D ≠ d := (g15.trans g6).ne_new hD
                have fD : H D = none := (g15.trans g6).fresh hD
                have f5D : H5 D = none := g6.fresh hD
                refine lc_range (lo := 0) (n := rn) (fun i H' => ∃ (xs : List V) (ts : List TD), ts.length = i ∧ RpA K H' xs ts ∧ (∀ t ∈ ts, termW t) ∧ H' D = some (.lst xs) ∧ Dr d H5 H') ⟨[], [], rfl, .nil, fun _ h => (nomatch h), upd_same, g6.own f5D⟩ ?_ ?_
                · rintro i H7 hi ⟨xs, ts, hl, ra, ht, e7, g7⟩
                  refine ⟨rfl, ?_⟩
                  walk_at "rd"
                  have g57 := g15.trans g7
                  refine ⟨d, a, L, ns, ws, rfl, g7.isD, hS.dr g57, h63, hP, wl.dr g57, ne, fun v t H8 g8 rv tv => ?_⟩
                  have lx : xs.length = ts.length := ra.length
                  have e8 := g8.kp _ _ nD e7
                  refine ⟨_, e8, small1000 (by omega), ⟨xs ++ [v], ts ++ [t], by rw [List.length_append, hl]; rfl, RpA.app (rpa_put e8 (g8.rpa ra)) (.cons (rp_put e8 rv) .nil), ?_, upd_same, (g7.trans g8).own f5D⟩⟩
                  intro x hx
                  rcases List.mem_append.mp hx with h | h
                  · exact ht x h
                  · rw [List.mem_singleton.mp h]; exact term_W tv
                rintro H7 ⟨xs, ts, hlt, ra, ht, e7, g7⟩
                walk_at "rd"
                refine rd_tuple (SqL.of e7) fun M hM => ?_
                walk_at "rd"
                have s8 : Same H7 (upd H7 M (.tup xs)) := same_new hM
                have t8 : Dr d H5 (upd H7 M (.tup xs)) := g7.same s8
                have rM : Rp K (upd H7 M (.tup xs)) (.ref M) (.tup ts) := .tup (SqT.of upd_same) (same_rpa s8 ra)
                have sqM : SqT K (upd H7 M (.tup xs)) M xs := SqT.of upd_same
                have lxs : xs.length = ts.length := ra.length
                generalize upd H7 M (.tup xs) = H8 at *
                have e8 := t8.kp _ _ nR e5
                have rj8 := t8.rpa rj5
                refine rd_il (SqL.of e8) fun D2 hD2 => ?_
                refine lc_list (K := K) (a := R) (xs := jx) (fun i H' => ∃ (zs : List V) (zt : List TD), zt.length = i ∧ RpA K H' zs zt ∧ (∀ j ∈ zt, joinW (wd + xs.length) j) ∧ H' D2 = some (.lst zs) ∧ Same H8 H') ⟨[], [], rfl, .nil, fun _ h => (nomatch h), upd_same, same_new hD2⟩ (fun i H' _ p => by obtain ⟨_, _, _, _, _, _, sm⟩ := p; exact SqL.of (sm _ _ e8)) ?_ ?_
                · rintro i x H9 hx' ⟨zs, zt, hlz, rz, hz, eD2, s9⟩
                  refine ⟨rfl, ?_⟩
                  obtain ⟨t2, et2, rt2⟩ := rpa_at (same_rpa s9 rj8) hx'
                  have li := (List.getElem?_eq_some_iff.mp et2).1
                  have j2S := hjS t2 (List.mem_of_getElem? et2)
                  obtain ⟨hd2, bd2, rfl, lh2, _, _, _⟩ := hj t2 (List.mem_of_getElem? et2)
                  obtain ⟨_, _, e2', lhS2, lbS2, hhS2, hbS2⟩ := j2S
                  cases e2'
                  obtain ⟨xa, xx, rfl, sqx, rx2⟩ := rt2.seq
                  cases rx2 with
                  | cons rh2 rx3 =>
                  cases rx3 with
                  | cons rb2 rx4 =>
                  cases rx4
                  have lzz : zs.length = zt.length := rz.length
                  walk_at "rd"
                  refine rd_ixT sqx rfl ?_
                  walk_at "rd"
                  refine rp_cat rh2 (same_rp s9 rM) (Nat.le_trans (m := 100) (by omega) (by decide)) fun u2 H12 s12 ru2 => ?_
                  walk_at "rd"
                  refine rd_ixT (same_sqt s12 sqx) rfl ?_
                  walk_at "rd"
                  refine rd_mk (len_ok rfl) fun tq H14 n14 e14 s14 => ?_
                  have sB := s12.trans s14
                  have eD := sB _ _ eD2
                  have rq : Rp K H14 (.ref tq) (.tup [.tup (hd2 ++ ts), .tup bd2]) := .tup (SqT.of e14) (.cons (same_rp s14 ru2) (.cons (same_rp sB rb2) .nil))
                  refine ⟨_, eD, small1000 (by omega), ⟨zs ++ [.ref tq], zt ++ [_], by rw [List.length_append, hlz]; rfl, RpA.app (rpa_put eD (same_rpa sB rz)) (.cons (rp_put eD rq) .nil), ?_, upd_same, same_own (s9.trans sB) hD2⟩⟩
                  intro y hy
                  rcases List.mem_append.mp hy with h | h
                  · exact hz y h
                  · rw [List.mem_singleton.mp h]
                    refine ⟨_, bd2, rfl, by rw [List.length_append]; omega, lbS2, ?_, hbS2⟩
                    intro w hw
                    rcases List.mem_append.mp hw with h | h
                    · exact hhS2 w h
                    · exact ht w h
                rintro H9 ⟨zs, zt, hlz, rz, hz, eD2, s9⟩
                walk_at "rd"
                refine rd_lenT (same_sqt s9 sqM) ?_
                walk_at "rd"
                exact ⟨wd + xs.length, D2, zs, zt, none, none, none, _, by rw [Int.natCast_add]; rfl, by omega, by omega, hz, rz, eD2, (g15.trans t8).same s9⟩
              · walk_at "rd"
                exact ⟨wd, R, jx, js, none, none, none, none, rfl, w18, by omega, hjS, rj5, e5, g15⟩
            · walk_at "rd"
              exact ⟨wd, R, jx, js, none, none, none, none, rfl, w18, by omega, hjS, rj5, e5, g15⟩
  rintro σ' H6 ⟨w', R', ys, js', v10, v11, v12, v13, rfl, hw, hl', hjs, ry, eR, g6⟩
  walk_at "rd"
  refine rd_tuple (SqL.of eR) fun t1 h1 => ?_
  walk_at "rd"
  have sE : Same H6 (upd H6 t1 (.tup ys)) := same_new h1
  refine rd_mk (len_ok rfl) fun tq HF nF eF sF => ?_
  have r1 : Rp K HF (.ref t1) (.tup js') := .tup (same_sqt sF (SqT.of upd_same)) (same_rpa (sE.trans sF) ry)
  obtain ⟨jl, ej, oq⟩ := odd_mk hw hjs hl'
  exact q _ w' jl _ ((g6.same sE).same sF) (by rw [← ej]; exact .tup (SqT.of eF) (.cons (.int w') (.cons r1 .nil))) oq

end
section
variable {P : Program} {w : World} {K : PySem.W.Frag} {mg : Str → Option Value} {base : Heap}
theorem letW {z : Str} (h : LetB z) : wordB z = true := by
  unfold wordB
  rw [Bool.and_eq_true, List.all_eq_true]
  refine ⟨fun c hc => decide_eq_true (h.1 c hc), decide_eq_true ?_⟩
  have : (sg z).length ≠ 0 := fun e => h.2 (List.length_eq_zero_iff.mp e)
  have e : (sg z).length = z.length := rfl
  omega
theorem TmW.good {t : Tm} (h : TmW t) : t.ok = true := by
  cases t with
  | var z => exact letW h.1
  | num i => rfl
  | wrd z => exact letW h.1
def spTFits (K : PySem.W.Frag) : Sp := fun vs H Q _ => ∃ (v : V) (t : Tm), vs = [v] ∧ Rp K H v t.td ∧ t.ok = true ∧ t.fits ∧ Q (.bl true) H
theorem ok_tfits (T : Tx mg)  {f f1 : Addr} {fd d1 : FuncData} (F : Dn K mg "_law_term_fits" sLTermFits ["term"] f fd)
    (DLIsWord : Dn K mg "_law_is_word" sLIsWord ["text"] f1 d1) (GLIsWord : FnOk P w K mg base CX0 1 f1 d1 ["text"] spWordL) :
    FnOk P w K mg base CX0 2 f fd ["term"] (spTFits K) := by
  refine F.F.ok scLTermFits (fun vs H Q E h => ?_) (fun cdv A outer s H vs Q E hr h => ?_)
  · obtain ⟨v, t, rfl, _⟩ := h
    rfl
  obtain ⟨v, t, rfl, r, ok, ft, q⟩ := h
  have nd := scLTermFits.nd
  refine ⟨_, (pss_one (ps_ret (pe_or (pe_and (pe_cmpR op_eq (pe_ix (k_ixT K rfl) (pv 0) pe_int (fun _ _ => rfl)) pe_str (nomark _)) (pe_one (pe_not (pe_callB (k_isi K rfl) rfl T.m_isinstance (by decide +kernel) (pa_cons (pe_ix (k_ixT K rfl) (pv 0) pe_int (fun _ _ => rfl)) (pa_cons (pe_bltn (v := .ty "str") rfl T.m_str (by decide +kernel) rfl) pa_nil)))))) (pe_one (pe_call GLIsWord (hr.mono (by omega)) rfl DLIsWord.m DLIsWord.F.kp DLIsWord.b .nil pass0 (pa_cons (pe_ix (k_ixT K rfl) (pv 0) pe_int (fun _ _ => rfl)) pa_nil)))))), ?_⟩
  have fin : ∀ z : Str, wordB z = true → z.length ≤ 200 → spWordL [.str z] H Q E0 := fun z hz l => ⟨z, rfl, by omega, by rw [hz]; exact q⟩
  rcases r.tm with ⟨p, z, rfl, rfl, s⟩ | ⟨p, z, rfl, rfl, s⟩ | ⟨p, z, rfl, rfl, s⟩
  · walk_at "rd"
    refine rd_ixT s rfl ?_
    walk_at "dec"
    refine rd_ixT s rfl ?_
    walk_at "rd"
    exact fin z ok ft
  · walk_at "rd"
    refine rd_ixT s rfl ?_
    walk_at "dec"
    unfold tNotV
    walk_at "rd"
    refine rd_ixT s rfl ?_
    walk_at "rd"
    refine rd_isi (.ty _) (.base (.int z)) (kit_ty (r := false) (by decide +kernel)) ?_
    refine ⟨false, rfl, true, rfl, ?_⟩
    exact q
  · walk_at "rd"
    refine rd_ixT s rfl ?_
    walk_at "dec"
    unfold tNotV
    walk_at "rd"
    refine rd_ixT s rfl ?_
    walk_at "rd"
    refine rd_isi (.ty _) (.base (.str z)) (kit_ty (r := true) (by decide +kernel)) ?_
    refine ⟨true, rfl, false, rfl, ?_⟩
    walk_at "dec"
    refine rd_ixT s rfl ?_
    walk_at "rd"
    exact fin z ok ft
/-- what the law says of a join whose names and terms are well made -/
def spJFits (K : PySem.W.Frag) : Sp := fun vs H Q _ => ∃ (v : V) (j : Jn) (n : Nat), vs = [v, .int n] ∧ Rp K H v j.td ∧ JnW j ∧ ∀ H', Same H H' → Q (.bl (j.ok n)) H'
theorem jn_ok_eq {j : Jn} {n : Int} (h : JnW j) : j.ok n = (decide ((j.hd.length : Int) = n) && decide (j.bd.length ≤ 8) && j.bd.all (fun a => decide (a.ts.length ≤ 8)) && (varsT j.hd).all fun z => decide (z ∈ varsB j.bd)) := by
  unfold Jn.ok
  have e1 : j.hd.all Tm.ok = true := List.all_eq_true.mpr fun t ht => (h.2.2.1 t ht).good
  have e2 : j.bd.all At.ok = j.bd.all (fun a => decide (a.ts.length ≤ 8)) := by
    rw [Bool.eq_iff_iff, List.all_eq_true, List.all_eq_true]
    refine forall_congr' fun a => forall_congr' fun ha => ?_
    obtain ⟨l, _, _, f⟩ := h.2.2.2 a ha
    unfold At.ok
    rw [letW l, show a.ts.all Tm.ok = true from List.all_eq_true.mpr fun t ht => (f t ht).good, Bool.true_and, Bool.and_true]
  rw [e1, e2, Bool.and_true]
def freeV (bd : List At) : Tm → Bool
  | .var z => !(termsB bd).any (isVar z)
  | _ => false
theorem vars_all {hd : List Tm} {bd : List At} : ((varsT hd).all fun z => decide (z ∈ varsB bd)) = decide (hd.filter (freeV bd) = []) := by
  rw [Bool.eq_iff_iff, List.all_eq_true, decide_eq_true_iff, List.filter_eq_nil_iff]
  constructor
  · intro h t ht
    cases t with
    | var z =>
      have := of_decide_eq_true (h z (List.mem_filterMap.mpr ⟨.var z, ht, rfl⟩))
      show ¬ ((!(termsB bd).any (isVar z)) = true)
      rw [var_any this]; decide
    | num i => exact Bool.false_ne_true
    | wrd z => exact Bool.false_ne_true
  · intro h z hz
    obtain ⟨t, ht, e⟩ := List.mem_filterMap.mp hz
    cases t with
    | var y =>
      have ey : y = z := Option.some.inj e
      subst ey
      have := h _ ht
      refine decide_eq_true (any_var ?_)
      cases e2 : (termsB bd).any (isVar y) with
      | true => rfl
      | false => exact absurd (show (!(termsB bd).any (isVar y)) = true by rw [e2]; rfl) this
    | num i => cases e
    | wrd y => cases e
set_option maxHeartbeats 2000000 in
theorem ok_jfits (T : Tx mg)  {f f1 f2 : Addr} {fd d1 d2 : FuncData} (F : Dn K mg "_law_join_fits" sLJoinFits ["join", "width"] f fd)
    (DLIsWord : Dn K mg "_law_is_word" sLIsWord ["text"] f1 d1) (GLIsWord : FnOk P w K mg base CX0 1 f1 d1 ["text"] spWordL)
    (DLTermFits : Dn K mg "_law_term_fits" sLTermFits ["term"] f2 d2) (GLTermFits : FnOk P w K mg base CX0 2 f2 d2 ["term"] (spTFits K)) :
    FnOk P w K mg base CX0 3 f fd ["join", "width"] (spJFits K) := by
  refine F.F.ok scLJoinFits (fun vs H Q E h => ?_) (fun cdv A outer s H vs Q E hr h => ?_)
  · obtain ⟨v, j, n, rfl, _⟩ := h
    rfl
  obtain ⟨v, j, n, rfl, r, jw, q⟩ := h
  have nd := scLJoinFits.nd
  refine ⟨_, (pss_cons (ps_set (i := 2) nd rfl (Or.inl rfl) (pe_callTy (k_list K rfl) rfl T.m_list (by decide +kernel) (pa_cons (pe_ix (k_ixT K rfl) (pv 0) pe_int (fun _ _ => rfl)) pa_nil)))
  (pss_cons (ps_set (i := 3) nd rfl (Or.inr rfl) (pe_lst pa_nil))
  (pss_cons (ps_for PassesOwn.never rfl (k_pit K rfl (pe_ix (k_ixT K rfl) (pv 0) pe_int (fun _ _ => rfl))) (pg_name (i := 4) nd rfl (Or.inl rfl)) (pss_cons (ps_if (PW.pt (pw_or (pt_not (pt_val (pe_call GLIsWord (hr.mono (by omega)) rfl DLIsWord.m DLIsWord.F.kp DLIsWord.b .nil pass0 (pa_cons (pe_ix (k_ixT K rfl) (pv 4) pe_int (fun _ _ => rfl)) pa_nil)))) (pw_or1 (pt_cmpR op_gt (pe_callB (k_len K rfl) rfl T.m_len PySem.boot_len (pa_cons (pe_ix (k_ixT K rfl) (pv 4) pe_int (fun _ _ => rfl)) pa_nil)) pe_int (nomark _))))) (pss_one (ps_ret pe_bl)) pss_nil)
  (pss_one (ps_set (i := 3) nd rfl (Or.inr rfl) (pe_op op_cat (pv 3) (pe_callTy (k_list K rfl) rfl T.m_list (by decide +kernel) (pa_cons (pe_ix (k_ixT K rfl) (pv 4) pe_int (fun _ _ => rfl)) pa_nil)))))))
  (pss_cons (ps_if (PW.pt (pw_or (pt_cmpR op_ne (pe_callB (k_len K rfl) rfl T.m_len PySem.boot_len (pa_cons (pe_ix (k_ixT K rfl) (pv 0) pe_int (fun _ _ => rfl)) pa_nil)) (pv 1) (nomark _)) (pw_or1 (pt_cmpR op_gt (pe_callB (k_len K rfl) rfl T.m_len PySem.boot_len (pa_cons (pe_ix (k_ixT K rfl) (pv 0) pe_int (fun _ _ => rfl)) pa_nil)) pe_int (nomark _))))) (pss_one (ps_ret pe_bl)) pss_nil)
  (pss_cons (ps_if (pt_cmpR op_gt (pe_callB (k_len K rfl) rfl T.m_len PySem.boot_len (pa_cons (pe_lc (own := [("term", (5 : Nat))]) (g := gName 5) rfl nd (k_pil K rfl (pv 2)) (blkOk_by (own := [("term", (5 : Nat))]) (N := nLJoinFits) (sc := defScope sLJoinFits) (by decide +kernel)) (fun _ _ _ _ _ => pg_name (i := 5) nd rfl (Or.inl rfl)) (fun _ _ _ _ _ => (pts_one (PW.pt (pw_and (pt_cmpR op_eq (pe_ix (k_ixT K rfl) (pv 5) pe_int (fun _ _ => rfl)) pe_str (nomark _)) (pw_and1 (pt_cmpR (k_notInD K rfl (hu65 hr)) (pv 5) (pv 3) rfl)))))) (fun _ _ _ _ _ => (pv 5))) pa_nil)) pe_int (nomark _)) (pss_one (ps_ret pe_bl)) pss_nil)
  (pss_one (ps_ret (pe_cmpR op_eq (pe_callB (k_len K rfl) rfl T.m_len PySem.boot_len (pa_cons (pe_lc (own := [("term", (5 : Nat))]) (g := gName 5) rfl nd (k_pil K rfl (pe_op op_cat (pv 2) (pv 3))) (blkOk_by (own := [("term", (5 : Nat))]) (N := nLJoinFits) (sc := defScope sLJoinFits) (by decide +kernel)) (fun _ _ _ _ _ => pg_name (i := 5) nd rfl (Or.inl rfl)) (fun _ _ _ _ _ => (pts_one (pt_not (pt_val (pe_call GLTermFits (hr.mono (by omega)) rfl DLTermFits.m DLTermFits.F.kp DLTermFits.b .nil pass0 (pa_cons (pv 5) pa_nil)))))) (fun _ _ _ _ _ => (pv 5))) pa_nil)) pe_int (nomark _))))))))), ?_⟩
  obtain ⟨p, x, y, rfl, s, rx, ry⟩ := r.duo
  obtain ⟨a, xs, rfl, sa, ra⟩ := rx.seq
  obtain ⟨b, ys, rfl, sb, rb⟩ := ry.seq
  have lx : xs.length = j.hd.length := by rw [ra.length, List.length_map]
  have ly : ys.length = j.bd.length := by rw [rb.length, List.length_map]
  have l18 := jw.1
  have b18 := jw.2.1
  have eq := jn_ok_eq (n := n) jw
  have no : ∀ H1 : Hp, Same H H1 → j.ok n = false → Q (.bl false) H1 := fun H1 g e => by have z := q H1 g; rw [e] at z; exact z
  walk_at "rd"
  refine rd_ixT s rfl ?_
  walk_at "rd"
  refine rd_listT sa fun R hR => ?_
  walk_at "rd"
  have s1 : Same H (upd H R (.lst xs)) := same_new hR
  refine rd_mk (len_ok rfl) fun Kn H2 nK eK s2 => ?_
  walk_at "rd"
  have s12 := s1.trans s2
  have eR2 : H2 R = some (.lst xs) := s2 _ _ upd_same
  have nKR : Kn ≠ R := fun e => by rw [e, upd_same] at nK; cases nK
  have nK0 : H Kn = none := by
    cases e : H Kn with
    | none => rfl
    | some o => rw [s1 _ _ e] at nK; cases nK
  refine rd_ixT (same_sqt s12 s) rfl ?_
  refine rd_it (same_sqt s12 sb) ?_
  refine for_tup (K := K) (a := b) (xs := ys) (fun i σ' H' => ∃ (v4 : Option V) (Kn : Addr) (ks : List V), σ' = [some (.ref p), some (.int n), some (.ref R), some (.ref Kn), v4, none] ∧ Same H H' ∧ H' R = some (.lst xs) ∧ H' Kn = some (.lst ks) ∧ RpA K H' ks ((termsB (j.bd.take i)).map Tm.td) ∧ (∀ a ∈ j.bd.take i, a.ts.length ≤ 8)) ⟨none, Kn, [], rfl, s12, eR2, eK, .nil, fun _ h => (nomatch h)⟩ (fun i σ' H' _ p => by obtain ⟨_, _, _, _, sm, _⟩ := p; exact same_sqt sm sb) ?_ ?_
  · rintro i x σ' H5 hx ⟨v4, Kn, ks, rfl, sm5, eR5, eKn, rk, l8⟩
    obtain ⟨t, et, rt⟩ := rpa_at rb hx
    obtain ⟨am', ea, rfl⟩ := map_at et
    have rt5 := same_rp sm5 rt
    obtain ⟨pa, ux, rfl, sqa, rts⟩ := rt5.atm
    obtain ⟨ta, tx, rfl, sqt, rat⟩ := rts.seq
    have mem : am' ∈ j.bd := List.mem_of_getElem? ea
    obtain ⟨nm, nl, tl, tw⟩ := jw.2.2.2 am' mem
    have ltx2 := rat.length
    rw [List.length_map] at ltx2
    walk_at "rd"
    refine rd_ixT sqa rfl ?_
    walk_at "rd"
    refine ⟨am'.nm, rfl, by omega, ?_⟩
    rw [letW nm]
    walk_at "rd"
    rw [if_neg (show ¬ ((!true) = true) by decide)]
    walk_at "rd"
    refine rd_ixT sqa rfl ?_
    walk_at "rd"
    refine rd_lenT sqt ?_
    walk_at "rd"
    refine iteD (fun c => ?_) (fun c => ?_)
    · walk_at "rd"
      refine no _ sm5 ?_
      have e8 : j.bd.all (fun a => decide (a.ts.length ≤ 8)) = false := by
        rw [List.all_eq_false]
        exact ⟨am', mem, fun h => by have := of_decide_eq_true h; omega⟩
      rw [eq, e8, Bool.and_false, Bool.false_and]
    walk_at "rd"
    refine rd_ixT sqa rfl ?_
    walk_at "rd"
    refine rd_listT sqt fun LL hLL => ?_
    have s6 : Same H5 (upd H5 LL (.lst tx)) := same_new hLL
    have lks := rk.length
    rw [List.length_map] at lks
    have tlen := terms_len (j.bd.take i) fun a ha => (jw.fits).2.2.2 a (List.mem_of_mem_take ha)
    have li : (j.bd.take i).length ≤ 18 := by rw [List.length_take]; omega
    refine rd_cat (s6 _ _ eKn) upd_same (Nat.le_trans (m := 1000) (by omega) (by decide)) fun L2 H7 n7 e7 s7 => ?_
    walk_at "rd"
    refine ⟨_, L2, ks ++ tx, rfl, sm5.trans (s6.trans s7), s7 _ _ (s6 _ _ eR5), e7, ?_, fun a ha => ?_⟩
    · unfold termsB
      rw [take_flat ea, List.map_append]
      exact RpA.app (same_rpa (s6.trans s7) rk) (same_rpa (s6.trans s7) rat)
    · rw [take_snoc ea] at ha
      rcases List.mem_append.mp ha with h | h
      · exact l8 a h
      · rw [List.mem_singleton.mp h]; omega
  rintro σ' H5 ⟨v4, Kn', ks, rfl, sm5, eR5, eKn, rk, l8⟩
  rw [show j.bd.take ys.length = j.bd from List.take_of_length_le (by omega)] at rk l8
  have lks := rk.length
  rw [List.length_map] at lks
  have tlen := terms_len j.bd jw.fits.2.2.2
  have okt : ∀ m ∈ termsB j.bd, m.ok = true := fun m hm => by
    obtain ⟨a, ha, hma⟩ := List.mem_flatMap.mp hm
    exact ((jw.2.2.2 a ha).2.2.2 m hma).good
  have e8 : j.bd.all (fun a => decide (a.ts.length ≤ 8)) = true := List.all_eq_true.mpr fun a ha => decide_eq_true (l8 a ha)
  rw [e8, Bool.and_true, vars_all] at eq
  walk_at "rd"
  refine rd_ixT (same_sqt sm5 s) rfl ?_
  walk_at "rd"
  refine rd_lenT (same_sqt sm5 sa) ?_
  walk_at "rd"
  refine iteB (fun c => ?_) (fun c => ?_)
  · walk_at "dec"
    refine no _ sm5 ?_
    have e : ¬ ((j.hd.length : Int) = n) := fun e => by
      rw [lx, e, decide_eq_true rfl] at c
      cases c
    rw [eq, decide_eq_false e]; rfl
  have hw : ((j.hd.length : Int) = n) := by
    have e : decide (V.int (xs.length : Int) = V.int n) = true := by
      cases h : decide (V.int (xs.length : Int) = V.int n) with
      | true => rfl
      | false => rw [h] at c; cases c
    have := of_decide_eq_true e
    injection this with this
    rw [← lx]; exact this
  rw [decide_eq_true hw, Bool.true_and] at eq
  walk_at "rd"
  refine rd_ixT (same_sqt sm5 s) rfl ?_
  walk_at "rd"
  refine rd_lenT (same_sqt sm5 sb) ?_
  walk_at "rd"
  refine iteD (fun c1 => ?_) (fun c1 => ?_)
  · walk_at "rd"
    refine no _ sm5 ?_
    rw [eq, decide_eq_false (by omega : ¬ j.bd.length ≤ 8)]; rfl
  rw [decide_eq_true (by omega : j.bd.length ≤ 8), Bool.true_and] at eq
  walk_at "rd"
  refine rd_il (SqL.of eR5) fun D hD => ?_
  refine lc_list (K := K) (a := R) (xs := xs) (fun i H' => ∃ zs : List V, H' D = some (.lst zs) ∧ zs.length = ((j.hd.take i).filter (freeV j.bd)).length ∧ Same H5 H') ⟨[], upd_same, rfl, same_new hD⟩ (fun i H' _ p => by obtain ⟨_, _, _, sm⟩ := p; exact SqL.of (sm _ _ eR5)) ?_ ?_
  · rintro i y H6 hy ⟨zs, eD, lz, sm6⟩
    obtain ⟨t0, et0, rt⟩ := rpa_at (same_rpa (sm5.trans sm6) ra) hy
    obtain ⟨t, et, rfl⟩ := map_at et0
    have ft : ((j.hd.take (i + 1)).filter (freeV j.bd)) = (j.hd.take i).filter (freeV j.bd) ++ if freeV j.bd t = true then [t] else [] := by rw [take_snoc et, List.filter_append]; congr 1; rw [List.filter_cons]; split <;> rfl
    have lf := List.length_filter_le (freeV j.bd) (j.hd.take i)
    have lt : (j.hd.take i).length ≤ 18 := by rw [List.length_take]; omega
    refine ⟨rfl, ?_⟩
    walk_at "rd"
    have rt' := rt
    rcases rt.tm with ⟨p1, z, rfl, rfl, s1⟩ | ⟨p1, z, rfl, rfl, s1⟩ | ⟨p1, z, rfl, rfl, s1⟩
    · refine rd_ixT s1 rfl ?_
      walk_at "dec"
      refine ⟨(Tm.var z).py, (termsB j.bd).map Tm.py, Rp.dp rt', .lst (SqL.of (sm6 _ _ eKn)) (RpA.dp (same_rpa sm6 rk)), py_shape (jw.2.2.1 _ (List.mem_of_getElem? et)).good, py_shapes okt, ?_⟩
      have ea : ((termsB j.bd).map Tm.py).any (fun u => PyData.eqv u (Tm.var z).py) = (termsB j.bd).any (isVar z) := by
        rw [List.any_map]
        congr 1
        funext m
        exact eqv_var z m
      rw [ea]
      walk_at "rd"
      refine iteB (fun c => ?_) (fun c => ?_)
      · walk_at "rd"
        refine ⟨_, eD, small1000 (by omega), ⟨zs ++ [.ref p1], upd_same, ?_, same_own sm6 hD⟩⟩
        rw [ft, if_pos (show freeV j.bd (.var z) = true from c), List.length_append, List.length_append, lz]; rfl
      · refine ⟨zs, eD, ?_, sm6⟩
        rw [ft, if_neg (show ¬ (freeV j.bd (.var z) = true) from by show ¬ ((!(termsB j.bd).any (isVar z)) = true); rw [c]; exact Bool.false_ne_true), List.append_nil, lz]
    · refine rd_ixT s1 rfl ?_
      walk_at "dec"
      exact ⟨zs, eD, by rw [ft, if_neg (show ¬ (freeV j.bd (.num z) = true) from Bool.false_ne_true), List.append_nil, lz], sm6⟩
    · refine rd_ixT s1 rfl ?_
      walk_at "dec"
      exact ⟨zs, eD, by rw [ft, if_neg (show ¬ (freeV j.bd (.wrd z) = true) from Bool.false_ne_true), List.append_nil, lz], sm6⟩
  rintro H6 ⟨zs, eD, lz, sm6⟩
  rw [show j.hd.take xs.length = j.hd from List.take_of_length_le (by omega)] at lz
  walk_at "rd"
  refine rd_len (SqL.of eD) ?_
  walk_at "rd"
  refine iteD (fun c2 => ?_) (fun c2 => ?_)
  · walk_at "rd"
    refine no _ (sm5.trans sm6) ?_
    rw [eq]
    refine decide_eq_false fun e => ?_
    rw [e] at lz
    have : zs.length = 0 := lz
    omega
  have e0 : j.hd.filter (freeV j.bd) = [] := List.length_eq_zero_iff.mp (by omega)
  rw [decide_eq_true e0] at eq
  walk_at "rd"
  refine rd_cat (sm6 _ _ eR5) (sm6 _ _ eKn) (Nat.le_trans (m := 1000) (by omega) (by decide)) fun L2 H7 n7 e7 s7 => ?_
  walk_at "rd"
  refine rd_il (SqL.of e7) fun D2 hD2 => ?_
  have rall : RpA K H7 (xs ++ ks) ((j.hd ++ termsB j.bd).map Tm.td) := by
    rw [List.map_append]
    exact RpA.app (same_rpa ((sm5.trans sm6).trans s7) ra) (same_rpa (sm6.trans s7) rk)
  refine lc_list (K := K) (a := L2) (xs := xs ++ ks) (fun i H' => H' D2 = some (.lst []) ∧ Same H7 H') ⟨upd_same, same_new hD2⟩ (fun i H' _ p => SqL.of (p.2 _ _ e7)) ?_ ?_
  · rintro i y H8 hy ⟨eD2, sm8⟩
    obtain ⟨t0, et0, rt⟩ := rpa_at (same_rpa sm8 rall) hy
    obtain ⟨t, et, rfl⟩ := map_at et0
    have tw : TmW t := by
      rcases List.mem_append.mp (List.mem_of_getElem? et) with h | h
      · exact jw.2.2.1 t h
      · obtain ⟨a, ha, hma⟩ := List.mem_flatMap.mp h
        exact (jw.2.2.2 a ha).2.2.2 t hma
    refine ⟨rfl, ?_⟩
    walk_at "rd"
    refine ⟨y, t, rfl, rt, tw.good, tm_fits tw, ?_⟩
    walk_at "rd"
    rw [if_neg (show ¬ ((!true) = true) by decide)]
    exact ⟨eD2, sm8⟩
  rintro H8 ⟨eD2, sm8⟩
  walk_at "rd"
  refine rd_len (SqL.of eD2) ?_
  walk_at "rd"
  have z := q H8 (((sm5.trans sm6).trans s7).trans sm8)
  rw [eq] at z
  exact z

end
section
variable {P : Program} {w : World} {K : PySem.W.Frag} {mg : Str → Option Value} {base : Heap}
/-- what the law's fault is -/
def refT (o : Option V) : List V := match o with | none => [] | some x => [x]
def spFaultQ (K : PySem.W.Frag) : Sp := fun vs H Q _ => ∃ (v : V) (n : Nat) (js : List Jn), vs = [v] ∧ Rp K H v (questD n js) ∧ OddQ n js ∧ ∀ (p : Addr) (H' : Hp), Same H H' → H' p = some (.tup (refT (bad n js))) → Q (.ref p) H'
theorem bad_out {n : Int} {js : List Jn} (h : (decide (0 ≤ n ∧ n ≤ 8) && decide (js.length ≤ 12)) = false) : bad n js = some .non := by
  unfold bad
  rw [h, if_neg Bool.false_ne_true]
theorem bad_in {n : Int} {js : List Jn} (h : (decide (0 ≤ n ∧ n ≤ 8) && decide (js.length ≤ 12)) = true) : bad n js = (js.findIdx? fun j => !j.ok n).map fun i => V.int (i : Nat) := by
  unfold bad
  rw [h, if_pos rfl]
set_option maxHeartbeats 1000000 in
theorem ok_faultQ (T : Tx mg)  {f f1 : Addr} {fd d1 : FuncData} (F : Dn K mg "_law_fault" sLFault ["question"] f fd)
    (DLJoinFits : Dn K mg "_law_join_fits" sLJoinFits ["join", "width"] f1 d1) (GLJoinFits : FnOk P w K mg base CX0 3 f1 d1 ["join", "width"] (spJFits K)) :
    FnOk P w K mg base CX0 4 f fd ["question"] (spFaultQ K) := by
  refine F.F.ok scLFault (fun vs H Q E h => ?_) (fun cdv A outer s H vs Q E hr h => ?_)
  · obtain ⟨v, n, js, rfl, _⟩ := h
    rfl
  obtain ⟨v, n, js, rfl, r, oq, q⟩ := h
  have nd := scLFault.nd
  refine ⟨_, (pss_cons (ps_if (PW.pt (pw_or (pt_cmpR op_lt (pe_ix (k_ixT K rfl) (pv 0) pe_int (fun _ _ => rfl)) pe_int (nomark _)) (pw_or (pt_cmpR op_gt (pe_ix (k_ixT K rfl) (pv 0) pe_int (fun _ _ => rfl)) pe_int (nomark _)) (pw_or1 (pt_cmpR op_gt (pe_callB (k_len K rfl) rfl T.m_len PySem.boot_len (pa_cons (pe_ix (k_ixT K rfl) (pv 0) pe_int (fun _ _ => rfl)) pa_nil)) pe_int (nomark _)))))) (pss_one (ps_ret (pe_tup (pa_cons pe_non pa_nil)))) pss_nil)
  (pss_cons (ps_for PassesOwn.never rfl (pi_range1 rfl T.m_range (pa_cons (pe_callB (k_len K rfl) rfl T.m_len PySem.boot_len (pa_cons (pe_ix (k_ixT K rfl) (pv 0) pe_int (fun _ _ => rfl)) pa_nil)) pa_nil)) (pg_name (i := 1) nd rfl (Or.inl rfl)) (pss_one (ps_if (pt_not (pt_val (pe_call GLJoinFits (hr.mono (by omega)) rfl DLJoinFits.m DLJoinFits.F.kp DLJoinFits.b .nil pass0 (pa_cons (pe_ix (k_ixT K rfl) (pe_ix (k_ixT K rfl) (pv 0) pe_int (fun _ _ => rfl)) (pv 1) (fun _ _ => rfl)) (pa_cons (pe_ix (k_ixT K rfl) (pv 0) pe_int (fun _ _ => rfl)) pa_nil))))) (pss_one (ps_ret (pe_tup (pa_cons (pv 1) pa_nil)))) pss_nil)))
  (pss_one (ps_ret (pe_tup pa_nil))))), ?_⟩
  obtain ⟨p, x, y, rfl, s, rx, ry⟩ := r.duo
  cases rx
  obtain ⟨b, ys, rfl, sb, rb⟩ := ry.seq
  have ly : ys.length = js.length := by rw [rb.length, List.length_map]
  have l15 := oq.l15
  have out : ∀ H1 : Hp, Same H H1 → (decide (0 ≤ (n : Int) ∧ (n : Int) ≤ 8) && decide (js.length ≤ 12)) = false → ∀ (p : Addr) (H2 : Hp), Same H1 H2 → H2 p = some (.tup [.non]) → Q (.ref p) H2 := fun H1 g c p H2 g2 e => q p H2 (g.trans g2) (by rw [bad_out c]; exact e)
  walk_at "rd"
  refine rd_ixT s rfl ?_
  walk_at "rd"
  refine iteD (fun c => ?_) (fun c => ?_)
  · omega
  walk_at "rd"
  refine rd_ixT s rfl ?_
  walk_at "rd"
  refine iteD (fun c1 => ?_) (fun c1 => ?_)
  · walk_at "rd"
    refine rd_mk (len_ok rfl) fun p2 H2 _ e2 g2 => ?_
    walk_at "rd"
    exact out H (.refl _) (by rw [decide_eq_false (by omega : ¬ (0 ≤ (n : Int) ∧ (n : Int) ≤ 8)), Bool.false_and]) p2 H2 g2 e2
  walk_at "rd"
  refine rd_ixT s rfl ?_
  walk_at "rd"
  refine rd_lenT sb ?_
  walk_at "rd"
  refine iteD (fun c2 => ?_) (fun c2 => ?_)
  · walk_at "rd"
    refine rd_mk (len_ok rfl) fun p2 H2 _ e2 g2 => ?_
    walk_at "rd"
    exact out H (.refl _) (by rw [decide_eq_false (by omega : ¬ (js.length ≤ 12)), Bool.and_false]) p2 H2 g2 e2
  have eb : bad n js = (js.findIdx? fun j => !j.ok n).map fun i => V.int (i : Nat) := bad_in (by rw [decide_eq_true (by omega : 0 ≤ (n : Int) ∧ (n : Int) ≤ 8), decide_eq_true (by omega : js.length ≤ 12)]; rfl)
  walk_at "rd"
  refine rd_ixT s rfl ?_
  walk_at "rd"
  refine rd_lenT sb ?_
  walk_at "rd"
  refine rd_r1 ⟨by omega, by omega⟩ ?_
  refine for_range (lo := 0) (n := ((ys.length : Int)).toNat) (fun i σ' H' => ∃ (v1 : Option V), σ' = [some (.ref p), v1] ∧ Same H H' ∧ ∀ k, k < i → ∀ x, js[k]? = some x → x.ok n = true) ⟨none, rfl, .refl _, fun _ h => (nomatch h)⟩ ?_ ?_
  · rintro i σ' H5 hi ⟨v1, rfl, sm, all⟩
    have li : i < ys.length := by omega
    have ey := List.getElem?_eq_getElem li
    obtain ⟨t0, et0, rt⟩ := rpa_at (same_rpa sm rb) ey
    obtain ⟨j, ej, rfl⟩ := map_at et0
    walk_at "rd"
    rw [Int.zero_add]
    refine rd_ixT (same_sqt sm s) rfl ?_
    walk_at "rd"
    refine rd_ixT (same_sqt sm sb) (atI_nat ey) ?_
    walk_at "rd"
    refine rd_ixT (same_sqt sm s) rfl ?_
    walk_at "rd"
    refine ⟨_, j, n, rfl, rt, oq.jw j (List.mem_of_getElem? ej), fun H6 s6 => ?_⟩
    walk_at "rd"
    refine iteB (fun c => ?_) (fun c => ?_)
    · have ok : j.ok n = false := by cases h : j.ok n with | false => rfl | true => rw [h] at c; cases c
      walk_at "rd"
      refine rd_mk (len_ok rfl) fun p2 H2 _ e2 g2 => ?_
      walk_at "rd"
      refine q p2 H2 ((sm.trans s6).trans g2) ?_
      rw [eb, find_first ej all ok]
      exact e2
    · have ok : j.ok n = true := by cases h : j.ok n with | true => rfl | false => rw [h] at c; cases c
      walk_at "rd"
      refine ⟨_, rfl, sm.trans s6, fun k hk x hx => ?_⟩
      rcases Nat.lt_or_ge k i with h | h
      · exact all k h x hx
      · have : k = i := by omega
        subst this
        rw [ej] at hx
        cases hx
        exact ok
  rintro σ' H5 ⟨v1, rfl, sm, all⟩
  walk_at "rd"
  refine rd_mk (len_ok rfl) fun p2 H2 _ e2 g2 => ?_
  walk_at "rd"
  refine q p2 H2 (sm.trans g2) ?_
  rw [eb, find_none fun k hk x hx => all k (by omega) x hx]
  exact e2

end
section
variable {P : Program} {w : World} {K : PySem.W.Frag} {mg : Str → Option Value} {base : Heap}
/-- what the law's try tells of a text that can be read -/
def spTold (K : PySem.W.Frag) : Sp := fun vs H Q _ => ∃ (z : Str) (n : Int) (js : List Jn) (l' : List Tok), vs = [.str z] ∧ z.length ≤ 800000 ∧ NumsOk (sg z) ∧ readQ (toks (sg z)) = .ok ((n, js), l') ∧ FitsQ (n, js) ∧
  (bad n js = none → ∀ (p : Addr) (v : V) (H' : Hp), Same H H' → H' p = some (.tup [.str "question", v]) → Rp K H' v (questD n js) → Q (.ref p) H') ∧
  ∀ y, bad n js = some y → ∀ (p : Addr) (H' : Hp), Same H H' → H' p = some (.tup [.str "join", y]) → Q (.ref p) H'
set_option maxHeartbeats 2000000 in
theorem ok_told (T : Tx mg) {C CB fI cW : Addr} (low : PySem.NoQX.NoQTxt K mg C fI) (er : ErrC K C) (hWE : mg "WorthError" = some (.ref cW)) (hB : mg "BadText" = some (.ref CB))
    (iW : PySem.W.kitOne K (.ref C) (.ref cW) = some true) (iV : PySem.W.kitOne K (.ref C) (.type "ValueError") = some true) (iA : PySem.W.kitOne K (.ref C) (.ref CB) = some false)
    {f f1 : Addr} {fd d1 : FuncData} (F : Dn K mg "_law_told" sLTold ["text"] f fd) (DReadQuestion : Dn K mg "read_question" sReadQuestion ["text"] f1 d1) (GReadQuestion : FnOk P w K mg base (L2.CX P w) 9 f1 d1 ["text"] (spReadQ K C CB)) :
    FnOk P w K mg base CX0 10 f fd ["text"] (spTold K) := by
  refine F.F.ok scLTold (fun vs H Q E h => ?_) (fun cdv A outer s H vs Q E hr h => ?_)
  · obtain ⟨z, n, js, l', rfl, _⟩ := h
    rfl
  obtain ⟨z, n, js, l', rfl, hz, nok, rq, fq, q1, q2⟩ := h
  have nd := scLTold.nd
  refine ⟨_, (pss_cons (ps_try_as (i := 2) (Wout := fun _ _ _ _ => False) rfl rfl nd rfl rfl ⟨rfl, by decide, Or.inl low.gC⟩ takes0
      (fun W pn xe tk _ => pss_one (ps_set (i := 1) nd rfl (Or.inl rfl) (pe_callS GReadQuestion hr rfl DReadQuestion.m DReadQuestion.F.kp DReadQuestion.b (fun σ => passAt tk σ) (pa_cons (pv 0) pa_nil))))
      (fun a oe cls d pn hz hf => pss_cons (ps_if (PW.pt (pw_or (pt_not (pt_val (pe_callB (call_isX er hz hf) rfl T.m_isinstance (by decide +kernel) (pa_cons (pv 2) (pa_cons (pe_glob (v := .ref cW) rfl hWE rfl) pa_nil))))) (pw_or (pt_not (pt_val (pe_callB (call_isX er hz hf) rfl T.m_isinstance (by decide +kernel) (pa_cons (pv 2) (pa_cons (pe_bltn (v := .ty "ValueError") rfl T.m_ValueError (by decide +kernel) rfl) pa_nil))))) (pw_or1 (pt_val (pe_callB (call_isX er hz hf) rfl T.m_isinstance (by decide +kernel) (pa_cons (pv 2) (pa_cons (pe_glob (v := .ref CB) rfl hB rfl) pa_nil)))))))) pss_never pss_nil)
        (pss_one (ps_ret (pe_tup (pa_cons pe_str (pa_cons (pe_joinOf low hz hf (pv 2)) pa_nil)))))))
    (pss_one (ps_ret (pe_tup (pa_cons pe_str (pa_cons (pv 1) pa_nil)))))), ?_⟩
  walk_at "rd"
  unfold tCallS
  walk_at "rd"
  refine ⟨z, rfl, hz, nok, fun m em => ?_, fun x l2 ex => ?_⟩
  · rw [rq] at em; cases em
  rw [rq] at ex
  cases ex
  refine ⟨fq, fun eb v H1 g rv => ?_, fun y ey d H1 g hd => ?_⟩
  · walk_at "rd"
    refine rd_mk (len_ok rfl) fun p H2 _ e2 g2 => ?_
    walk_at "rd"
    exact q1 eb p v _ (g.trans g2) e2 (same_rp g2 rv)
  · refine ⟨true, low.te, fun _ a0 ha => ?_, fun z => Bool.noConfusion z⟩
    walk_at "rd"
    refine ⟨rfl, _, _, true, d, _, rfl, .own cW, rfl, hd, iW, ?_⟩
    walk_at "dec"
    refine ⟨rfl, _, _, true, d, _, rfl, .ty _, rfl, hd, iV, ?_⟩
    walk_at "dec"
    refine ⟨rfl, _, _, false, d, _, rfl, .own CB, rfl, hd, iA, ?_⟩
    walk_at "dec"
    unfold tJoinOf
    walk_at "rd"
    refine ⟨rfl, rfl, d, y, rfl, hd, ?_⟩
    walk_at "rd"
    refine rd_mk (len_ok rfl) fun p H3 _ e3 g3 => ?_
    walk_at "rd"
    exact q2 y ey p _ (g.trans g3) e3

end
section
variable {P : Program} {w : World} {K : PySem.W.Frag} {mg : Str → Option Value} {base : Heap}
def spLaw (K : PySem.W.Frag) : Sp := fun vs H Q _ => ∃ (a : Addr) (ns : List Int), vs = [.ref a] ∧ SqL K H a (ns.map V.int) ∧ ns.length ≤ 63 ∧ ∀ H', Q (.bl true) H'
theorem OddQ.form {n : Nat} {js : List Jn} (h : OddQ n js) : Form n js := by
  cases js with
  | nil => exact Int.natCast_nonneg n
  | cons j r => exact fun x hx => by rw [h.hl x hx]
theorem OddQ.small {n : Nat} {js : List Jn} (h : OddQ n js) : ((n : Int)).natAbs < 10 ^ 60 := h.n60
theorem fit_told {z : Str} {t : TD} (h : t.fit 8) : (TD.tup [.str z, t]).fit 9 := ⟨show 2 ≤ 20000 by decide, fun d hd => by
  simp only [List.mem_cons, List.not_mem_nil, or_false] at hd
  rcases hd with rfl | rfl
  · trivial
  · exact h⟩
/-- a fault as data -/
theorem bad_td {n : Int} {js : List Jn} {y : V} (h : bad n js = some y) : ∃ t : TD, (∀ (K : PySem.W.Frag) (H : Hp), Rp K H y t) ∧ t.fit 8 := by
  unfold bad at h
  split at h
  · cases e : js.findIdx? fun j => !j.ok n with
    | none => rw [e] at h; cases h
    | some i => rw [e] at h; cases h; exact ⟨.int (i : Nat), fun _ _ => .int _, trivial⟩
  · cases h; exact ⟨.non, fun _ _ => .non, trivial⟩
set_option maxHeartbeats 8000000 in
theorem ok_law (T : Tx mg)  {f f1 f2 f3 f4 f5 f6 f7 : Addr} {fd d1 d2 d3 d4 d5 d6 d7 : FuncData} (F : Dn K mg "law" sLaw ["script"] f fd)
    (DLDraws : Dn K mg "_law_draws" sLDraws ["script", "many"] f1 d1) (GLDraws : FnOk P w K mg base CX0 1 f1 d1 ["script", "many"] (spDraws K))
    (DLSomeWords : Dn K mg "_law_some_words" sLSomeWords ["draws", "many"] f2 d2) (GLSomeWords : FnOk P w K mg base CX0 3 f2 d2 ["draws", "many"] spSomeWords)
    (DLOddQuestion : Dn K mg "_law_odd_question" sLOddQuestion ["draws", "script", "words"] f3 d3) (GLOddQuestion : FnOk P w K mg base CX0 9 f3 d3 ["draws", "script", "words"] (spOddW K))
    (DLFault : Dn K mg "_law_fault" sLFault ["question"] f4 d4) (GLFault : FnOk P w K mg base CX0 4 f4 d4 ["question"] (spFaultQ K))
    (DLSame : Dn K mg "_law_same" sLSame ["actual", "due"] f5 d5) (GLSame : FnOk P w K mg base CX0 9 f5 d5 ["actual", "due"] (spSame K 9))
    (DLTold : Dn K mg "_law_told" sLTold ["text"] f6 d6) (GLTold : FnOk P w K mg base CX0 10 f6 d6 ["text"] (spTold K))
    (DLWritten : Dn K mg "_law_written" sLWritten ["question"] f7 d7) (GLWritten : FnOk P w K mg base CX0 3 f7 d7 ["question"] (spWQ K)) :
    FnOk P w K mg base CX0 31 f fd ["script"] (spLaw K) := by
  refine F.F.ok scLaw (fun vs H Q E h => ?_) (fun cdv A outer s H vs Q E hr h => ?_)
  · obtain ⟨a, ns, rfl, _⟩ := h
    rfl
  obtain ⟨a, ns, rfl, hS, h63, q⟩ := h
  have nd := scLaw.nd
  refine ⟨_, (pss_cons (ps_set (i := 1) nd rfl (Or.inl rfl) (pe_call GLDraws (hr.mono (by omega)) rfl DLDraws.m DLDraws.F.kp DLDraws.b .nil pass0 (pa_cons (pv 0) (pa_cons pe_int pa_nil))))
  (pss_cons (ps_set (i := 2) nd rfl (Or.inl rfl) (pe_call GLSomeWords (hr.mono (by omega)) rfl DLSomeWords.m DLSomeWords.F.kp DLSomeWords.b .nil pass0 (pa_cons (pv 1) (pa_cons pe_int pa_nil))))
  (pss_cons (ps_setLc (i := 3) (own := [("cell", (4 : Nat))]) (g := gName 4) rfl nd rfl rfl (sw_true rfl rfl rfl (by decide +kernel)) (k_pil K rfl (pv 0)) (blkOk_by (own := [("cell", (4 : Nat))]) (N := nLaw) (sc := defScope sLaw) (by decide +kernel)) (fun _ _ _ _ _ => pg_name (i := 4) nd rfl (Or.inl rfl)) (fun _ _ _ _ _ => pts_nil) (fun _ _ _ _ _ => (pe_op op_modN (pe_callTy c_int rfl T.m_int (by decide +kernel) (pa_cons (pv 4) pa_nil)) (pe_op op_pow pe_int pe_int))))
  (pss_cons (ps_set (i := 5) nd rfl (Or.inl rfl) (pe_call GLOddQuestion (hr.mono (by omega)) rfl DLOddQuestion.m DLOddQuestion.F.kp DLOddQuestion.b .nil pass0 (pa_cons (pv 1) (pa_cons (pv 3) (pa_cons (pv 2) pa_nil)))))
  (pss_cons (ps_set (i := 6) nd rfl (Or.inl rfl) (pe_tup (pa_cons pe_str (pa_cons (pv 5) pa_nil))))
  (pss_cons (ps_set (i := 7) nd rfl (Or.inl rfl) (pe_call GLFault (hr.mono (by omega)) rfl DLFault.m DLFault.F.kp DLFault.b .nil pass0 (pa_cons (pv 5) pa_nil)))
  (C8.pss_cut (ps_if (pt_cmpR op_gt (pe_callB (k_len K rfl) rfl T.m_len PySem.boot_len (pa_cons (pv 7) pa_nil)) pe_int (nomark _)) (pss_one (ps_set (i := 6) nd rfl (Or.inl rfl) (pe_tup (pa_cons pe_str (pa_cons (pe_ix (k_ixT K rfl) (pv 7) pe_int (fun _ _ => rfl)) pa_nil))))) pss_nil)
  (pss_one (ps_ret (pe_call GLSame (hr.mono (by omega)) rfl DLSame.m DLSame.F.kp DLSame.b .nil pass0 (pa_cons (pe_call GLTold (hr.mono (by omega)) rfl DLTold.m DLTold.F.kp DLTold.b .nil pass0 (pa_cons (pe_call GLWritten (hr.mono (by omega)) rfl DLWritten.m DLWritten.F.kp DLWritten.b .nil pass0 (pa_cons (pv 5) pa_nil)) pa_nil)) (pa_cons (pv 6) pa_nil)))))))))))), ?_⟩
  walk_at "rd"
  refine ⟨a, 1000, ns, rfl, hS, by decide, by decide, h63, fun d ds H1 nd1 e1 s1 => ?_⟩
  walk_at "rd"
  have hS1 := sc_of hS nd1 s1
  have hd1 : DrAt d H1 := ⟨ds, e1⟩
  refine ⟨d, 10, rfl, hd1, by decide, by decide, fun L ws H2 g2 wl lw' => ?_⟩
  walk_at "rd"
  refine rd_il ((hS1.dr g2).now g2.isD) fun S hS0 => ?_
  have nS : S ≠ d := g2.ne_new hS0
  have fS : H1 S = none := g2.fresh hS0
  refine lc_list (K := K) (a := a) (xs := ns.map V.int) (fun i H' => ∃ ks : List Int, ks.length = i ∧ (∀ x ∈ ks, x.natAbs < 10 ^ 60) ∧ H' S = some (.lst (ks.map V.int)) ∧ Dr d H2 H') ⟨[], rfl, fun _ h => (nomatch h), upd_same, (Dr.refl g2.isD).new hS0⟩ (fun i H' _ p => by obtain ⟨_, _, _, _, g⟩ := p; exact (hS1.dr (g2.trans g)).now g.isD) ?_ ?_
  · rintro i x H' hx ⟨ks, lk, hk, e, g⟩
    obtain ⟨z, rfl, _⟩ := map_get hx
    have li : i < ns.length := by have := (List.getElem?_eq_some_iff.mp hx).1; rw [List.length_map] at this; exact this
    refine ⟨rfl, ?_⟩
    walk_at "rd"
    refine rd_i ⟨by decide, by decide, by decide⟩ ?_
    refine rd_i (by decide) ?_
    have b0 : 0 ≤ z.fmod ((10 : Int) ^ (60 : Int).toNat) := Int.fmod_nonneg_of_pos _ (by decide)
    have b1 : z.fmod ((10 : Int) ^ (60 : Int).toNat) < (10 : Int) ^ (60 : Int).toNat := Int.fmod_lt_of_pos _ (by decide)
    have b2 : (10 : Int) ^ (60 : Int).toNat = ((10 ^ 60 : Nat) : Int) := by decide
    refine ⟨_, e, by rw [List.length_map]; exact small1000 (by omega), ⟨ks ++ [_], by rw [List.length_append, lk]; rfl, ?_, by rw [upd_same, List.map_append]; rfl, ?_⟩⟩
    · intro y hy
      rcases List.mem_append.mp hy with h | h
      · exact hk y h
      · rw [List.mem_singleton.mp h]; omega
    · exact g.own hS0
  rintro H3 ⟨ks, lk, hk, e3, g3⟩
  rw [List.length_map] at lk
  walk_at "rd"
  have g13 := g2.trans g3
  have hS3 : Sc K H3 d S ks := fun H' g' => SqL.of (g'.kp _ _ nS e3)
  have hP : Hyp PIN ks ws := ⟨fun n hn => short_num hk hn, fun _ _ => trivial⟩
  refine ⟨d, S, L, ks, ws, rfl, g3.isD, hS3, by omega, hP, wl.dr g3, by omega, fun v n js H4 g4 rv oq => ?_⟩
  walk_at "rd"
  have n60 := oq.small
  have l15 := oq.l15
  have lw := lays_written n60 fun j mj => (oq.jw j mj).ok
  have wlen := wQ63 n60 oq.jw l15
  obtain ⟨l1, rq1⟩ := read_laid lw oq.form
  refine rd_mk (len_ok rfl) fun du H5 nD eD s5 => ?_
  walk_at "rd"
  have rv5 := same_rp s5 rv
  have rd5 : Rp K H5 (.ref du) (.tup [.str "question", questD n js]) := .tup (SqT.of eD) (.cons (.str _) (.cons rv5 .nil))
  refine ⟨v, n, js, rfl, rv5, oq, fun ft H6 s6 e6 => ?_⟩
  walk_at "rd"
  have rv6 := same_rp s6 rv5
  have rd6 := same_rp s6 rd5
  refine ⟨fun σ' H' => ∃ (du ft : Addr), σ' = [some (.ref a), some (.ref d), some (.ref L), some (.ref S), none, some v, some (.ref du), some (.ref ft)] ∧ Rp K H' v (questD n js) ∧ ((bad n js = none ∧ Rp K H' (.ref du) (.tup [.str "question", questD n js])) ∨ ∃ y t, bad n js = some y ∧ (∀ (K : PySem.W.Frag) (H : Hp), Rp K H y t) ∧ t.fit 8 ∧ Rp K H' (.ref du) (.tup [.str "join", t])), ?_, ?_⟩
  · walk_at "rd"
    cases eb : bad n js with
    | none =>
      rw [eb] at e6
      refine rd_lenT (SqT.of e6) ?_
      walk_at "dec"
      exact ⟨du, ft, rfl, rv6, .inl ⟨rfl, rd6⟩⟩
    | some y =>
      rw [eb, show refT (some y) = [y] from rfl] at e6
      obtain ⟨t, rt, f8⟩ := bad_td eb
      refine rd_lenT (SqT.of e6) ?_
      walk_at "rd"
      refine iteDT (show (0 : Int) < ((1 : Nat) : Int) by decide) ?_
      walk_at "rd"
      refine rd_ixT (SqT.of e6) (show atI [y] 0 = some y from rfl) ?_
      walk_at "rd"
      refine rd_mk (len_ok rfl) fun d2 H7 n7 e7 s7 => ?_
      walk_at "rd"
      exact ⟨d2, ft, rfl, same_rp s7 rv6, .inr ⟨y, t, rfl, rt, f8, .tup (SqT.of e7) (.cons (.str _) (.cons (rt _ _) .nil))⟩⟩
  rintro σ' H7 ⟨du, ft, rfl, rv7, hdue⟩
  walk_at "rd"
  refine ⟨v, _, rfl, rv7, questS_of n60 oq.jw l15, fun H8 s8 => ?_⟩
  walk_at "rd"
  refine ⟨_, n, js, l1, rfl, wlen, lays_nums lw, rq1, ⟨by show js.length ≤ 40; omega, fun j mj => (oq.jw j mj).fits⟩, fun eb p v2 H9 s9 e9 r9 => ?_, fun y ey p H9 s9 e9 => ?_⟩
  · rcases hdue with ⟨_, rdu⟩ | ⟨y, t, ey, _⟩
    · walk_at "rd"
      refine ⟨.ref p, .ref du, _, rfl, .tup (SqT.of e9) (.cons (.str _) (.cons r9 .nil)), same_rp (s8.trans s9) rdu, fit_told (fit_quest oq.jw l15), fun H10 s10 => ?_⟩
      walk_at "rd"
      exact q _
    · rw [eb] at ey; cases ey
  · rcases hdue with ⟨eb, _⟩ | ⟨y', t, ey', rt, ft8, rdu⟩
    · rw [eb] at ey; cases ey
    · rw [ey] at ey'; cases ey'
      walk_at "rd"
      refine ⟨.ref p, .ref du, _, rfl, .tup (SqT.of e9) (.cons (.str _) (.cons (rt _ _) .nil)), same_rp (s8.trans s9) rdu, fit_told ft8, fun H10 s10 => ?_⟩
      walk_at "rd"
      exact q _

end
set_option maxHeartbeats 8000000 in
theorem all_mk {l : PySem.W.OpenLaw} {w : World} {K : PySem.W.Frag} {h : Heap} {mg : Str → Option Value} {fa : Addr} (X : K.In h) (G : h.Ns mainGlobals mg) (hfa : mg "law" = some (.ref fa))
    {f1 : Addr} {od1 an1 : Option Addr} {sl1 : Array (Option Value)} {oc1 kV1 dc1 pm1 cd1 ct1 : Value} {f2 : Addr} {od2 an2 : Option Addr} {sl2 : Array (Option Value)} {oc2 kV2 dc2 pm2 cd2 ct2 : Value} {f3 : Addr} {od3 an3 : Option Addr} {sl3 : Array (Option Value)} {oc3 kV3 dc3 pm3 cd3 ct3 : Value} {f4 : Addr} {od4 an4 : Option Addr} {sl4 : Array (Option Value)} {oc4 kV4 dc4 pm4 cd4 ct4 : Value} {f5 : Addr} {od5 an5 : Option Addr} {sl5 : Array (Option Value)} {oc5 kV5 dc5 pm5 cd5 ct5 : Value} {f6 : Addr} {od6 an6 : Option Addr} {sl6 : Array (Option Value)} {oc6 kV6 dc6 pm6 cd6 ct6 : Value} {f7 : Addr} {od7 an7 : Option Addr} {sl7 : Array (Option Value)} {oc7 kV7 dc7 pm7 cd7 ct7 : Value} {f8 : Addr} {od8 an8 : Option Addr} {sl8 : Array (Option Value)} {oc8 kV8 dc8 pm8 cd8 ct8 : Value} {f9 : Addr} {od9 an9 : Option Addr} {sl9 : Array (Option Value)} {oc9 kV9 dc9 pm9 cd9 ct9 : Value} {f10 : Addr} {od10 an10 : Option Addr} {sl10 : Array (Option Value)} {oc10 kV10 dc10 pm10 cd10 ct10 : Value} {f11 : Addr} {od11 an11 : Option Addr} {sl11 : Array (Option Value)} {oc11 kV11 dc11 pm11 cd11 ct11 : Value} {f12 : Addr} {od12 an12 : Option Addr} {sl12 : Array (Option Value)} {oc12 kV12 dc12 pm12 cd12 ct12 : Value} {f13 : Addr} {od13 an13 : Option Addr} {sl13 : Array (Option Value)} {oc13 kV13 dc13 pm13 cd13 ct13 : Value} {f14 : Addr} {od14 an14 : Option Addr} {sl14 : Array (Option Value)} {oc14 kV14 dc14 pm14 cd14 ct14 : Value} {f15 : Addr} {od15 an15 : Option Addr} {sl15 : Array (Option Value)} {oc15 kV15 dc15 pm15 cd15 ct15 : Value} {f16 : Addr} {od16 an16 : Option Addr} {sl16 : Array (Option Value)} {oc16 kV16 dc16 pm16 cd16 ct16 : Value} {f17 : Addr} {od17 an17 : Option Addr} {sl17 : Array (Option Value)} {oc17 kV17 dc17 pm17 cd17 ct17 : Value} {f18 : Addr} {od18 an18 : Option Addr} {sl18 : Array (Option Value)} {oc18 kV18 dc18 pm18 cd18 ct18 : Value} {f19 : Addr} {od19 an19 : Option Addr} {sl19 : Array (Option Value)} {oc19 kV19 dc19 pm19 cd19 ct19 : Value} {f20 : Addr} {od20 an20 : Option Addr} {sl20 : Array (Option Value)} {oc20 kV20 dc20 pm20 cd20 ct20 : Value} {f21 : Addr} {od21 an21 : Option Addr} {sl21 : Array (Option Value)} {oc21 kV21 dc21 pm21 cd21 ct21 : Value} {f22 : Addr} {od22 an22 : Option Addr} {sl22 : Array (Option Value)} {oc22 kV22 dc22 pm22 cd22 ct22 : Value} {f23 : Addr} {od23 an23 : Option Addr} {sl23 : Array (Option Value)} {oc23 kV23 dc23 pm23 cd23 ct23 : Value} {f24 : Addr} {od24 an24 : Option Addr} {sl24 : Array (Option Value)} {oc24 kV24 dc24 pm24 cd24 ct24 : Value} {f25 : Addr} {od25 an25 : Option Addr} {sl25 : Array (Option Value)} {oc25 kV25 dc25 pm25 cd25 ct25 : Value} {f26 : Addr} {od26 an26 : Option Addr} {sl26 : Array (Option Value)} {oc26 kV26 dc26 pm26 cd26 ct26 : Value} {f27 : Addr} {od27 an27 : Option Addr} {sl27 : Array (Option Value)} {oc27 kV27 dc27 pm27 cd27 ct27 : Value} {f28 : Addr} {od28 an28 : Option Addr} {sl28 : Array (Option Value)} {oc28 kV28 dc28 pm28 cd28 ct28 : Value} {f29 : Addr} {od29 an29 : Option Addr} {sl29 : Array (Option Value)} {oc29 kV29 dc29 pm29 cd29 ct29 : Value} {f30 : Addr} {od30 an30 : Option Addr} {sl30 : Array (Option Value)} {oc30 kV30 dc30 pm30 cd30 ct30 : Value} {f31 : Addr} {od31 an31 : Option Addr} {sl31 : Array (Option Value)} {oc31 kV31 dc31 pm31 cd31 ct31 : Value} {f32 : Addr} {od32 an32 : Option Addr} {sl32 : Array (Option Value)} {oc32 kV32 dc32 pm32 cd32 ct32 : Value} {f33 : Addr} {od33 an33 : Option Addr} {sl33 : Array (Option Value)} {oc33 kV33 dc33 pm33 cd33 ct33 : Value} {f34 : Addr} {od34 an34 : Option Addr} {sl34 : Array (Option Value)} {oc34 kV34 dc34 pm34 cd34 ct34 : Value} {f35 : Addr} {od35 an35 : Option Addr} {sl35 : Array (Option Value)} {oc35 kV35 dc35 pm35 cd35 ct35 : Value} {f36 : Addr} {od36 an36 : Option Addr} {sl36 : Array (Option Value)} {oc36 kV36 dc36 pm36 cd36 ct36 : Value} {f37 : Addr} {od37 an37 : Option Addr} {sl37 : Array (Option Value)} {oc37 kV37 dc37 pm37 cd37 ct37 : Value} {f38 : Addr} {od38 an38 : Option Addr} {sl38 : Array (Option Value)} {oc38 kV38 dc38 pm38 cd38 ct38 : Value} {f39 : Addr} {od39 an39 : Option Addr} {sl39 : Array (Option Value)} {oc39 kV39 dc39 pm39 cd39 ct39 : Value} {f40 : Addr} {od40 an40 : Option Addr} {sl40 : Array (Option Value)} {oc40 kV40 dc40 pm40 cd40 ct40 : Value} {f41 : Addr} {od41 an41 : Option Addr} {sl41 : Array (Option Value)} {oc41 kV41 dc41 pm41 cd41 ct41 : Value} {f42 : Addr} {od42 an42 : Option Addr} {sl42 : Array (Option Value)} {oc42 kV42 dc42 pm42 cd42 ct42 : Value} {f43 : Addr} {od43 an43 : Option Addr} {sl43 : Array (Option Value)} {oc43 kV43 dc43 pm43 cd43 ct43 : Value} {f44 : Addr} {od44 an44 : Option Addr} {sl44 : Array (Option Value)} {oc44 kV44 dc44 pm44 cd44 ct44 : Value} {f45 : Addr} {od45 an45 : Option Addr} {sl45 : Array (Option Value)} {oc45 kV45 dc45 pm45 cd45 ct45 : Value} {f46 : Addr} {od46 an46 : Option Addr} {sl46 : Array (Option Value)} {oc46 kV46 dc46 pm46 cd46 ct46 : Value} {f47 : Addr} {od47 an47 : Option Addr} {sl47 : Array (Option Value)} {oc47 kV47 dc47 pm47 cd47 ct47 : Value} {f48 : Addr} {od48 an48 : Option Addr} {sl48 : Array (Option Value)} {oc48 kV48 dc48 pm48 cd48 ct48 : Value} {f49 : Addr} {od49 an49 : Option Addr} {sl49 : Array (Option Value)} {oc49 kV49 dc49 pm49 cd49 ct49 : Value} {f50 : Addr} {od50 an50 : Option Addr} {sl50 : Array (Option Value)} {oc50 kV50 dc50 pm50 cd50 ct50 : Value} {f51 : Addr} {od51 an51 : Option Addr} {sl51 : Array (Option Value)} {oc51 kV51 dc51 pm51 cd51 ct51 : Value} {f52 : Addr} {od52 an52 : Option Addr} {sl52 : Array (Option Value)} {oc52 kV52 dc52 pm52 cd52 ct52 : Value} {CR : Addr}
    (a1 : PySem.W.nsIn K mainGlobals "is_word" = some (some (.ref f1))) (l1 : K.lookup f1 = some ⟨oc1, od1, .func (PySem.W.fnOf "is_word" "is_word" (defArgs sIsWord) (defBody sIsWord) (defScope sIsWord) .none kV1 dc1 pm1 an1 cd1 ct1), sl1⟩) (c1 : PySem.W.codeIn K cd1 "is_word" = true) (k1 : PySem.W.keepIn K (.ref f1) = true)
    (a2 : PySem.W.nsIn K mainGlobals "is_value" = some (some (.ref f2))) (l2 : K.lookup f2 = some ⟨oc2, od2, .func (PySem.W.fnOf "is_value" "is_value" (defArgs sIsValue) (defBody sIsValue) (defScope sIsValue) .none kV2 dc2 pm2 an2 cd2 ct2), sl2⟩) (c2 : PySem.W.codeIn K cd2 "is_value" = true) (k2 : PySem.W.keepIn K (.ref f2) = true)
    (a3 : PySem.W.nsIn K mainGlobals "check_question" = some (some (.ref f3))) (l3 : K.lookup f3 = some ⟨oc3, od3, .func (PySem.W.fnOf "check_question" "check_question" (defArgs sCheckQuestion) (defBody sCheckQuestion) (defScope sCheckQuestion) .none kV3 dc3 pm3 an3 cd3 ct3), sl3⟩) (c3 : PySem.W.codeIn K cd3 "check_question" = true) (k3 : PySem.W.keepIn K (.ref f3) = true)
    (a4 : PySem.W.nsIn K mainGlobals "is_join" = some (some (.ref f4))) (l4 : K.lookup f4 = some ⟨oc4, od4, .func (PySem.W.fnOf "is_join" "is_join" (defArgs sIsJoin) (defBody sIsJoin) (defScope sIsJoin) .none kV4 dc4 pm4 an4 cd4 ct4), sl4⟩) (c4 : PySem.W.codeIn K cd4 "is_join" = true) (k4 : PySem.W.keepIn K (.ref f4) = true)
    (a5 : PySem.W.nsIn K mainGlobals "is_atom" = some (some (.ref f5))) (l5 : K.lookup f5 = some ⟨oc5, od5, .func (PySem.W.fnOf "is_atom" "is_atom" (defArgs sIsAtom) (defBody sIsAtom) (defScope sIsAtom) .none kV5 dc5 pm5 an5 cd5 ct5), sl5⟩) (c5 : PySem.W.codeIn K cd5 "is_atom" = true) (k5 : PySem.W.keepIn K (.ref f5) = true)
    (a6 : PySem.W.nsIn K mainGlobals "are_terms" = some (some (.ref f6))) (l6 : K.lookup f6 = some ⟨oc6, od6, .func (PySem.W.fnOf "are_terms" "are_terms" (defArgs sAreTerms) (defBody sAreTerms) (defScope sAreTerms) .none kV6 dc6 pm6 an6 cd6 ct6), sl6⟩) (c6 : PySem.W.codeIn K cd6 "are_terms" = true) (k6 : PySem.W.keepIn K (.ref f6) = true)
    (a7 : PySem.W.nsIn K mainGlobals "variables_in" = some (some (.ref f7))) (l7 : K.lookup f7 = some ⟨oc7, od7, .func (PySem.W.fnOf "variables_in" "variables_in" (defArgs sVariablesIn) (defBody sVariablesIn) (defScope sVariablesIn) .none kV7 dc7 pm7 an7 cd7 ct7), sl7⟩) (c7 : PySem.W.codeIn K cd7 "variables_in" = true) (k7 : PySem.W.keepIn K (.ref f7) = true)
    (a8 : PySem.W.nsIn K mainGlobals "variables_in_body" = some (some (.ref f8))) (l8 : K.lookup f8 = some ⟨oc8, od8, .func (PySem.W.fnOf "variables_in_body" "variables_in_body" (defArgs sVariablesInBody) (defBody sVariablesInBody) (defScope sVariablesInBody) .none kV8 dc8 pm8 an8 cd8 ct8), sl8⟩) (c8 : PySem.W.codeIn K cd8 "variables_in_body" = true) (k8 : PySem.W.keepIn K (.ref f8) = true)
    (a9 : PySem.W.nsIn K mainGlobals "tokens_of" = some (some (.ref f9))) (l9 : K.lookup f9 = some ⟨oc9, od9, .func (PySem.W.fnOf "tokens_of" "tokens_of" (defArgs sTokensOf) (defBody sTokensOf) (defScope sTokensOf) .none kV9 dc9 pm9 an9 cd9 ct9), sl9⟩) (c9 : PySem.W.codeIn K cd9 "tokens_of" = true) (k9 : PySem.W.keepIn K (.ref f9) = true)
    (a10 : PySem.W.nsIn K mainGlobals "end_of_run" = some (some (.ref f10))) (l10 : K.lookup f10 = some ⟨oc10, od10, .func (PySem.W.fnOf "end_of_run" "end_of_run" (defArgs sEndOfRun) (defBody sEndOfRun) (defScope sEndOfRun) .none kV10 dc10 pm10 an10 cd10 ct10), sl10⟩) (c10 : PySem.W.codeIn K cd10 "end_of_run" = true) (k10 : PySem.W.keepIn K (.ref f10) = true)
    (a11 : PySem.W.nsIn K mainGlobals "token_at" = some (some (.ref f11))) (l11 : K.lookup f11 = some ⟨oc11, od11, .func (PySem.W.fnOf "token_at" "token_at" (defArgs sTokenAt) (defBody sTokenAt) (defScope sTokenAt) .none kV11 dc11 pm11 an11 cd11 ct11), sl11⟩) (c11 : PySem.W.codeIn K cd11 "token_at" = true) (k11 : PySem.W.keepIn K (.ref f11) = true)
    (a12 : PySem.W.nsIn K mainGlobals "quoted_at" = some (some (.ref f12))) (l12 : K.lookup f12 = some ⟨oc12, od12, .func (PySem.W.fnOf "quoted_at" "quoted_at" (defArgs sQuotedAt) (defBody sQuotedAt) (defScope sQuotedAt) .none kV12 dc12 pm12 an12 cd12 ct12), sl12⟩) (c12 : PySem.W.codeIn K cd12 "quoted_at" = true) (k12 : PySem.W.keepIn K (.ref f12) = true)
    (a13 : PySem.W.nsIn K mainGlobals "number_at" = some (some (.ref f13))) (l13 : K.lookup f13 = some ⟨oc13, od13, .func (PySem.W.fnOf "number_at" "number_at" (defArgs sNumberAt) (defBody sNumberAt) (defScope sNumberAt) .none kV13 dc13 pm13 an13 cd13 ct13), sl13⟩) (c13 : PySem.W.codeIn K cd13 "number_at" = true) (k13 : PySem.W.keepIn K (.ref f13) = true)
    (a14 : PySem.W.findIn K (.ref CR) "__init__" = some (some (.ref f14))) (i14 : PySem.W.isFn K (.ref f14) = true) (l14 : K.lookup f14 = some ⟨oc14, od14, .func (PySem.W.fnOf "__init__" "Reader.__init__" (defArgs sReaderInit) (defBody sReaderInit) (defScope sReaderInit) .none kV14 dc14 pm14 an14 cd14 ct14), sl14⟩) (c14 : PySem.W.codeIn K cd14 "Reader.__init__" = true) (k14 : PySem.W.keepIn K (.ref f14) = true)
    (a15 : PySem.W.findIn K (.ref CR) "sees" = some (some (.ref f15))) (i15 : PySem.W.isFn K (.ref f15) = true) (l15 : K.lookup f15 = some ⟨oc15, od15, .func (PySem.W.fnOf "sees" "Reader.sees" (defArgs sReaderSees) (defBody sReaderSees) (defScope sReaderSees) .none kV15 dc15 pm15 an15 cd15 ct15), sl15⟩) (c15 : PySem.W.codeIn K cd15 "Reader.sees" = true) (k15 : PySem.W.keepIn K (.ref f15) = true)
    (a16 : PySem.W.findIn K (.ref CR) "sees_behind" = some (some (.ref f16))) (i16 : PySem.W.isFn K (.ref f16) = true) (l16 : K.lookup f16 = some ⟨oc16, od16, .func (PySem.W.fnOf "sees_behind" "Reader.sees_behind" (defArgs sReaderSeesBehind) (defBody sReaderSeesBehind) (defScope sReaderSeesBehind) .none kV16 dc16 pm16 an16 cd16 ct16), sl16⟩) (c16 : PySem.W.codeIn K cd16 "Reader.sees_behind" = true) (k16 : PySem.W.keepIn K (.ref f16) = true)
    (a17 : PySem.W.findIn K (.ref CR) "held" = some (some (.ref f17))) (i17 : PySem.W.isFn K (.ref f17) = true) (l17 : K.lookup f17 = some ⟨oc17, od17, .func (PySem.W.fnOf "held" "Reader.held" (defArgs sReaderHeld) (defBody sReaderHeld) (defScope sReaderHeld) .none kV17 dc17 pm17 an17 cd17 ct17), sl17⟩) (c17 : PySem.W.codeIn K cd17 "Reader.held" = true) (k17 : PySem.W.keepIn K (.ref f17) = true)
    (a18 : PySem.W.findIn K (.ref CR) "sees_word" = some (some (.ref f18))) (i18 : PySem.W.isFn K (.ref f18) = true) (l18 : K.lookup f18 = some ⟨oc18, od18, .func (PySem.W.fnOf "sees_word" "Reader.sees_word" (defArgs sReaderSeesWord) (defBody sReaderSeesWord) (defScope sReaderSeesWord) .none kV18 dc18 pm18 an18 cd18 ct18), sl18⟩) (c18 : PySem.W.codeIn K cd18 "Reader.sees_word" = true) (k18 : PySem.W.keepIn K (.ref f18) = true)
    (a19 : PySem.W.findIn K (.ref CR) "refuse" = some (some (.ref f19))) (i19 : PySem.W.isFn K (.ref f19) = true) (l19 : K.lookup f19 = some ⟨oc19, od19, .func (PySem.W.fnOf "refuse" "Reader.refuse" (defArgs sReaderRefuse) (defBody sReaderRefuse) (defScope sReaderRefuse) .none kV19 dc19 pm19 an19 cd19 ct19), sl19⟩) (c19 : PySem.W.codeIn K cd19 "Reader.refuse" = true) (k19 : PySem.W.keepIn K (.ref f19) = true)
    (a20 : PySem.W.findIn K (.ref CR) "take" = some (some (.ref f20))) (i20 : PySem.W.isFn K (.ref f20) = true) (l20 : K.lookup f20 = some ⟨oc20, od20, .func (PySem.W.fnOf "take" "Reader.take" (defArgs sReaderTake) (defBody sReaderTake) (defScope sReaderTake) .none kV20 dc20 pm20 an20 cd20 ct20), sl20⟩) (c20 : PySem.W.codeIn K cd20 "Reader.take" = true) (k20 : PySem.W.keepIn K (.ref f20) = true)
    (a21 : PySem.W.findIn K (.ref CR) "take_word" = some (some (.ref f21))) (i21 : PySem.W.isFn K (.ref f21) = true) (l21 : K.lookup f21 = some ⟨oc21, od21, .func (PySem.W.fnOf "take_word" "Reader.take_word" (defArgs sReaderTakeWord) (defBody sReaderTakeWord) (defScope sReaderTakeWord) .none kV21 dc21 pm21 an21 cd21 ct21), sl21⟩) (c21 : PySem.W.codeIn K cd21 "Reader.take_word" = true) (k21 : PySem.W.keepIn K (.ref f21) = true)
    (a22 : PySem.W.nsIn K mainGlobals "read_question" = some (some (.ref f22))) (l22 : K.lookup f22 = some ⟨oc22, od22, .func (PySem.W.fnOf "read_question" "read_question" (defArgs sReadQuestion) (defBody sReadQuestion) (defScope sReadQuestion) .none kV22 dc22 pm22 an22 cd22 ct22), sl22⟩) (c22 : PySem.W.codeIn K cd22 "read_question" = true) (k22 : PySem.W.keepIn K (.ref f22) = true)
    (a23 : PySem.W.nsIn K mainGlobals "read_none" = some (some (.ref f23))) (l23 : K.lookup f23 = some ⟨oc23, od23, .func (PySem.W.fnOf "read_none" "read_none" (defArgs sReadNone) (defBody sReadNone) (defScope sReadNone) .none kV23 dc23 pm23 an23 cd23 ct23), sl23⟩) (c23 : PySem.W.codeIn K cd23 "read_none" = true) (k23 : PySem.W.keepIn K (.ref f23) = true)
    (a24 : PySem.W.nsIn K mainGlobals "read_joins" = some (some (.ref f24))) (l24 : K.lookup f24 = some ⟨oc24, od24, .func (PySem.W.fnOf "read_joins" "read_joins" (defArgs sReadJoins) (defBody sReadJoins) (defScope sReadJoins) .none kV24 dc24 pm24 an24 cd24 ct24), sl24⟩) (c24 : PySem.W.codeIn K cd24 "read_joins" = true) (k24 : PySem.W.keepIn K (.ref f24) = true)
    (a25 : PySem.W.nsIn K mainGlobals "read_rest" = some (some (.ref f25))) (l25 : K.lookup f25 = some ⟨oc25, od25, .func (PySem.W.fnOf "read_rest" "read_rest" (defArgs sReadRest) (defBody sReadRest) (defScope sReadRest) .none kV25 dc25 pm25 an25 cd25 ct25), sl25⟩) (c25 : PySem.W.codeIn K cd25 "read_rest" = true) (k25 : PySem.W.keepIn K (.ref f25) = true)
    (a26 : PySem.W.nsIn K mainGlobals "read_atom" = some (some (.ref f26))) (l26 : K.lookup f26 = some ⟨oc26, od26, .func (PySem.W.fnOf "read_atom" "read_atom" (defArgs sReadAtom) (defBody sReadAtom) (defScope sReadAtom) .none kV26 dc26 pm26 an26 cd26 ct26), sl26⟩) (c26 : PySem.W.codeIn K cd26 "read_atom" = true) (k26 : PySem.W.keepIn K (.ref f26) = true)
    (a27 : PySem.W.nsIn K mainGlobals "read_terms" = some (some (.ref f27))) (l27 : K.lookup f27 = some ⟨oc27, od27, .func (PySem.W.fnOf "read_terms" "read_terms" (defArgs sReadTerms) (defBody sReadTerms) (defScope sReadTerms) .none kV27 dc27 pm27 an27 cd27 ct27), sl27⟩) (c27 : PySem.W.codeIn K cd27 "read_terms" = true) (k27 : PySem.W.keepIn K (.ref f27) = true)
    (a28 : PySem.W.nsIn K mainGlobals "read_head" = some (some (.ref f28))) (l28 : K.lookup f28 = some ⟨oc28, od28, .func (PySem.W.fnOf "read_head" "read_head" (defArgs sReadHead) (defBody sReadHead) (defScope sReadHead) .none kV28 dc28 pm28 an28 cd28 ct28), sl28⟩) (c28 : PySem.W.codeIn K cd28 "read_head" = true) (k28 : PySem.W.keepIn K (.ref f28) = true)
    (a29 : PySem.W.nsIn K mainGlobals "read_term" = some (some (.ref f29))) (l29 : K.lookup f29 = some ⟨oc29, od29, .func (PySem.W.fnOf "read_term" "read_term" (defArgs sReadTerm) (defBody sReadTerm) (defScope sReadTerm) .none kV29 dc29 pm29 an29 cd29 ct29), sl29⟩) (c29 : PySem.W.codeIn K cd29 "read_term" = true) (k29 : PySem.W.keepIn K (.ref f29) = true)
    (a30 : PySem.W.nsIn K mainGlobals "_law_draws" = some (some (.ref f30))) (l30 : K.lookup f30 = some ⟨oc30, od30, .func (PySem.W.fnOf "_law_draws" "_law_draws" (defArgs sLDraws) (defBody sLDraws) (defScope sLDraws) .none kV30 dc30 pm30 an30 cd30 ct30), sl30⟩) (c30 : PySem.W.codeIn K cd30 "_law_draws" = true) (k30 : PySem.W.keepIn K (.ref f30) = true)
    (a31 : PySem.W.nsIn K mainGlobals "_law_take" = some (some (.ref f31))) (l31 : K.lookup f31 = some ⟨oc31, od31, .func (PySem.W.fnOf "_law_take" "_law_take" (defArgs sLTake) (defBody sLTake) (defScope sLTake) .none kV31 dc31 pm31 an31 cd31 ct31), sl31⟩) (c31 : PySem.W.codeIn K cd31 "_law_take" = true) (k31 : PySem.W.keepIn K (.ref f31) = true)
    (a32 : PySem.W.nsIn K mainGlobals "_law_pick" = some (some (.ref f32))) (l32 : K.lookup f32 = some ⟨oc32, od32, .func (PySem.W.fnOf "_law_pick" "_law_pick" (defArgs sLPick) (defBody sLPick) (defScope sLPick) .none kV32 dc32 pm32 an32 cd32 ct32), sl32⟩) (c32 : PySem.W.codeIn K cd32 "_law_pick" = true) (k32 : PySem.W.keepIn K (.ref f32) = true)
    (a33 : PySem.W.nsIn K mainGlobals "_law_size" = some (some (.ref f33))) (l33 : K.lookup f33 = some ⟨oc33, od33, .func (PySem.W.fnOf "_law_size" "_law_size" (defArgs sLSize) (defBody sLSize) (defScope sLSize) .none kV33 dc33 pm33 an33 cd33 ct33), sl33⟩) (c33 : PySem.W.codeIn K cd33 "_law_size" = true) (k33 : PySem.W.keepIn K (.ref f33) = true)
    (a34 : PySem.W.nsIn K mainGlobals "_law_same" = some (some (.ref f34))) (l34 : K.lookup f34 = some ⟨oc34, od34, .func (PySem.W.fnOf "_law_same" "_law_same" (defArgs sLSame) (defBody sLSame) (defScope sLSame) .none kV34 dc34 pm34 an34 cd34 ct34), sl34⟩) (c34 : PySem.W.codeIn K cd34 "_law_same" = true) (k34 : PySem.W.keepIn K (.ref f34) = true)
    (a35 : PySem.W.nsIn K mainGlobals "_law_words" = some (some (.ref f35))) (l35 : K.lookup f35 = some ⟨oc35, od35, .func (PySem.W.fnOf "_law_words" "_law_words" (defArgs sLWords) (defBody sLWords) (defScope sLWords) .none kV35 dc35 pm35 an35 cd35 ct35), sl35⟩) (c35 : PySem.W.codeIn K cd35 "_law_words" = true) (k35 : PySem.W.keepIn K (.ref f35) = true)
    (a36 : PySem.W.nsIn K mainGlobals "_law_is_word" = some (some (.ref f36))) (l36 : K.lookup f36 = some ⟨oc36, od36, .func (PySem.W.fnOf "_law_is_word" "_law_is_word" (defArgs sLIsWord) (defBody sLIsWord) (defScope sLIsWord) .none kV36 dc36 pm36 an36 cd36 ct36), sl36⟩) (c36 : PySem.W.codeIn K cd36 "_law_is_word" = true) (k36 : PySem.W.keepIn K (.ref f36) = true)
    (a37 : PySem.W.nsIn K mainGlobals "_law_number" = some (some (.ref f37))) (l37 : K.lookup f37 = some ⟨oc37, od37, .func (PySem.W.fnOf "_law_number" "_law_number" (defArgs sLNumber) (defBody sLNumber) (defScope sLNumber) .none kV37 dc37 pm37 an37 cd37 ct37), sl37⟩) (c37 : PySem.W.codeIn K cd37 "_law_number" = true) (k37 : PySem.W.keepIn K (.ref f37) = true)
    (a38 : PySem.W.nsIn K mainGlobals "_law_any_value" = some (some (.ref f38))) (l38 : K.lookup f38 = some ⟨oc38, od38, .func (PySem.W.fnOf "_law_any_value" "_law_any_value" (defArgs sLAnyValue) (defBody sLAnyValue) (defScope sLAnyValue) .none kV38 dc38 pm38 an38 cd38 ct38), sl38⟩) (c38 : PySem.W.codeIn K cd38 "_law_any_value" = true) (k38 : PySem.W.keepIn K (.ref f38) = true)
    (a39 : PySem.W.nsIn K mainGlobals "_law_any_term" = some (some (.ref f39))) (l39 : K.lookup f39 = some ⟨oc39, od39, .func (PySem.W.fnOf "_law_any_term" "_law_any_term" (defArgs sLAnyTerm) (defBody sLAnyTerm) (defScope sLAnyTerm) .none kV39 dc39 pm39 an39 cd39 ct39), sl39⟩) (c39 : PySem.W.codeIn K cd39 "_law_any_term" = true) (k39 : PySem.W.keepIn K (.ref f39) = true)
    (a40 : PySem.W.nsIn K mainGlobals "_law_any_atom" = some (some (.ref f40))) (l40 : K.lookup f40 = some ⟨oc40, od40, .func (PySem.W.fnOf "_law_any_atom" "_law_any_atom" (defArgs sLAnyAtom) (defBody sLAnyAtom) (defScope sLAnyAtom) .none kV40 dc40 pm40 an40 cd40 ct40), sl40⟩) (c40 : PySem.W.codeIn K cd40 "_law_any_atom" = true) (k40 : PySem.W.keepIn K (.ref f40) = true)
    (a41 : PySem.W.nsIn K mainGlobals "_law_any_join" = some (some (.ref f41))) (l41 : K.lookup f41 = some ⟨oc41, od41, .func (PySem.W.fnOf "_law_any_join" "_law_any_join" (defArgs sLAnyJoin) (defBody sLAnyJoin) (defScope sLAnyJoin) .none kV41 dc41 pm41 an41 cd41 ct41), sl41⟩) (c41 : PySem.W.codeIn K cd41 "_law_any_join" = true) (k41 : PySem.W.keepIn K (.ref f41) = true)
    (a42 : PySem.W.nsIn K mainGlobals "_law_any_question" = some (some (.ref f42))) (l42 : K.lookup f42 = some ⟨oc42, od42, .func (PySem.W.fnOf "_law_any_question" "_law_any_question" (defArgs sLAnyQuestion) (defBody sLAnyQuestion) (defScope sLAnyQuestion) .none kV42 dc42 pm42 an42 cd42 ct42), sl42⟩) (c42 : PySem.W.codeIn K cd42 "_law_any_question" = true) (k42 : PySem.W.keepIn K (.ref f42) = true)
    (a43 : PySem.W.nsIn K mainGlobals "_law_term_fits" = some (some (.ref f43))) (l43 : K.lookup f43 = some ⟨oc43, od43, .func (PySem.W.fnOf "_law_term_fits" "_law_term_fits" (defArgs sLTermFits) (defBody sLTermFits) (defScope sLTermFits) .none kV43 dc43 pm43 an43 cd43 ct43), sl43⟩) (c43 : PySem.W.codeIn K cd43 "_law_term_fits" = true) (k43 : PySem.W.keepIn K (.ref f43) = true)
    (a44 : PySem.W.nsIn K mainGlobals "_law_join_fits" = some (some (.ref f44))) (l44 : K.lookup f44 = some ⟨oc44, od44, .func (PySem.W.fnOf "_law_join_fits" "_law_join_fits" (defArgs sLJoinFits) (defBody sLJoinFits) (defScope sLJoinFits) .none kV44 dc44 pm44 an44 cd44 ct44), sl44⟩) (c44 : PySem.W.codeIn K cd44 "_law_join_fits" = true) (k44 : PySem.W.keepIn K (.ref f44) = true)
    (a45 : PySem.W.nsIn K mainGlobals "_law_fault" = some (some (.ref f45))) (l45 : K.lookup f45 = some ⟨oc45, od45, .func (PySem.W.fnOf "_law_fault" "_law_fault" (defArgs sLFault) (defBody sLFault) (defScope sLFault) .none kV45 dc45 pm45 an45 cd45 ct45), sl45⟩) (c45 : PySem.W.codeIn K cd45 "_law_fault" = true) (k45 : PySem.W.keepIn K (.ref f45) = true)
    (a46 : PySem.W.nsIn K mainGlobals "_law_term_piece" = some (some (.ref f46))) (l46 : K.lookup f46 = some ⟨oc46, od46, .func (PySem.W.fnOf "_law_term_piece" "_law_term_piece" (defArgs sLTermPiece) (defBody sLTermPiece) (defScope sLTermPiece) .none kV46 dc46 pm46 an46 cd46 ct46), sl46⟩) (c46 : PySem.W.codeIn K cd46 "_law_term_piece" = true) (k46 : PySem.W.keepIn K (.ref f46) = true)
    (a47 : PySem.W.nsIn K mainGlobals "_law_written" = some (some (.ref f47))) (l47 : K.lookup f47 = some ⟨oc47, od47, .func (PySem.W.fnOf "_law_written" "_law_written" (defArgs sLWritten) (defBody sLWritten) (defScope sLWritten) .none kV47 dc47 pm47 an47 cd47 ct47), sl47⟩) (c47 : PySem.W.codeIn K cd47 "_law_written" = true) (k47 : PySem.W.keepIn K (.ref f47) = true)
    (a48 : PySem.W.nsIn K mainGlobals "_law_written_terms" = some (some (.ref f48))) (l48 : K.lookup f48 = some ⟨oc48, od48, .func (PySem.W.fnOf "_law_written_terms" "_law_written_terms" (defArgs sLWrittenTerms) (defBody sLWrittenTerms) (defScope sLWrittenTerms) .none kV48 dc48 pm48 an48 cd48 ct48), sl48⟩) (c48 : PySem.W.codeIn K cd48 "_law_written_terms" = true) (k48 : PySem.W.keepIn K (.ref f48) = true)
    (a49 : PySem.W.nsIn K mainGlobals "_law_some_words" = some (some (.ref f49))) (l49 : K.lookup f49 = some ⟨oc49, od49, .func (PySem.W.fnOf "_law_some_words" "_law_some_words" (defArgs sLSomeWords) (defBody sLSomeWords) (defScope sLSomeWords) .none kV49 dc49 pm49 an49 cd49 ct49), sl49⟩) (c49 : PySem.W.codeIn K cd49 "_law_some_words" = true) (k49 : PySem.W.keepIn K (.ref f49) = true)
    (a50 : PySem.W.nsIn K mainGlobals "_law_odd_question" = some (some (.ref f50))) (l50 : K.lookup f50 = some ⟨oc50, od50, .func (PySem.W.fnOf "_law_odd_question" "_law_odd_question" (defArgs sLOddQuestion) (defBody sLOddQuestion) (defScope sLOddQuestion) .none kV50 dc50 pm50 an50 cd50 ct50), sl50⟩) (c50 : PySem.W.codeIn K cd50 "_law_odd_question" = true) (k50 : PySem.W.keepIn K (.ref f50) = true)
    (a51 : PySem.W.nsIn K mainGlobals "_law_told" = some (some (.ref f51))) (l51 : K.lookup f51 = some ⟨oc51, od51, .func (PySem.W.fnOf "_law_told" "_law_told" (defArgs sLTold) (defBody sLTold) (defScope sLTold) .none kV51 dc51 pm51 an51 cd51 ct51), sl51⟩) (c51 : PySem.W.codeIn K cd51 "_law_told" = true) (k51 : PySem.W.keepIn K (.ref f51) = true)
    (a52 : PySem.W.nsIn K mainGlobals "law" = some (some (.ref f52))) (l52 : K.lookup f52 = some ⟨oc52, od52, .func (PySem.W.fnOf "law" "law" (defArgs sLaw) (defBody sLaw) (defScope sLaw) .none kV52 dc52 pm52 an52 cd52 ct52), sl52⟩) (c52 : PySem.W.codeIn K cd52 "law" = true) (k52 : PySem.W.keepIn K (.ref f52) = true)
    (z_len : PySem.W.nsIn K mainGlobals "len" = some none)
    (z_int : PySem.W.nsIn K mainGlobals "int" = some none)
    (z_list : PySem.W.nsIn K mainGlobals "list" = some none)
    (z_tuple : PySem.W.nsIn K mainGlobals "tuple" = some none)
    (z_bool : PySem.W.nsIn K mainGlobals "bool" = some none)
    (z_str : PySem.W.nsIn K mainGlobals "str" = some none)
    (z_range : PySem.W.nsIn K mainGlobals "range" = some none)
    (z_abs : PySem.W.nsIn K mainGlobals "abs" = some none)
    (z_min : PySem.W.nsIn K mainGlobals "min" = some none)
    (z_max : PySem.W.nsIn K mainGlobals "max" = some none)
    (z_isinstance : PySem.W.nsIn K mainGlobals "isinstance" = some none)
    (z_all : PySem.W.nsIn K mainGlobals "all" = some none)
    (z_enumerate : PySem.W.nsIn K mainGlobals "enumerate" = some none)
    (z_ValueError : PySem.W.nsIn K mainGlobals "ValueError" = some none)
    {tW tJ tA tM tS tL tD : PySem.Tok} (aW : PySem.W.nsIn K mainGlobals "WIDEST" = some (some (.int 8 tW))) (aJ : PySem.W.nsIn K mainGlobals "MOST_JOINS" = some (some (.int 12 tJ)))
    (aA : PySem.W.nsIn K mainGlobals "MOST_ATOMS" = some (some (.int 8 tA))) (aM : PySem.W.nsIn K mainGlobals "MOST_TERMS" = some (some (.int 8 tM)))
    (aS : PySem.W.nsIn K mainGlobals "SIGNS" = some (some (.str cSIGNS tS))) (aL : PySem.W.nsIn K mainGlobals "LETTERS" = some (some (.str cLETTERS tL))) (aD : PySem.W.nsIn K mainGlobals "DIGITS" = some (some (.str cDIGITS tD)))
    (aR : PySem.W.nsIn K mainGlobals "Reader" = some (some (.ref CR))) (pgR : PySem.W.plainGet K CR Str.empty = true) (hdR : PySem.W.hasDictIn K CR = true) (poR : PySem.W.plainOver K CR = true) (saR : PySem.W.findIn K (.ref CR) "__setattr__" = some (some (.builtin "object.__setattr__")))
    (mkR : PySem.W.makesIn K CR = true) (kcR : PySem.W.keepIn K (.ref CR) = true) (nTR : PySem.W.findIn K (.ref CR) "tokens" = some none) (nPR : PySem.W.findIn K (.ref CR) "place" = some none)
    {C cW fI : Addr} {nm q : Str} {N : Addr} {bs : List Value} {sn : List Str} {sub : List Value} {ab : Bool} {col : Option Bool} {dd : Option Addr} {m0 m1 m2 m3 m5 : Option Value} {odI anI : Option Addr} {slI : Array (Option Value)} {ocI dcI pmI cdI ctI : Value} {p1 p2 q1 q2 q3 q4 : Pos}
    (xC : PySem.W.nsIn K mainGlobals "NoQuestion" = some (some (.ref C))) (xW : PySem.W.nsIn K mainGlobals "WorthError" = some (some (.ref cW)))
    (xL : K.lookup C = some (PySem.excClassObj nm q C N bs [.ref cW, .type "ValueError", .type "Exception", .type "BaseException", .type "object"] true sn sub ab col dd m0 m1 m2 m3 m5 "ValueError.__new__"))
    (sa : PySem.W.findIn K (.ref C) "__setattr__" = some (some (.builtin "object.__setattr__"))) (ga : PySem.W.findIn K (.ref C) "__getattribute__" = some (some (.builtin "BaseException.__getattribute__"))) (gg : PySem.W.findIn K (.ref C) "__getattr__" = some none) (nb : PySem.W.findIn K (.ref C) "join" = some none)
    (xI : PySem.W.findIn K (.ref C) "__init__" = some (some (.ref fI))) (tI : PySem.W.typeIn K (.ref fI) = some (.type "function"))
    (lI : K.lookup fI = some ⟨ocI, odI, .func (PySem.W.fnOf "__init__" "NoQuestion.__init__" (PySem.NoQX.iA p1 p2) (PySem.NoQX.iB q1 q2 q3 q4) PySem.NoQX.iS .none .none dcI pmI anI cdI ctI), slI⟩) (cI : PySem.W.codeIn K cdI "NoQuestion.__init__" = true)
    (kC : PySem.W.keepIn K (.ref C) = true) (eC : PySem.W.subIn K (.ref C) (.type "BaseException") = some true) (tC : PySem.W.typeIn K (.ref C) = some (.type "type")) (hC : PySem.W.hasDictIn K C = true) (tE : PySem.W.exmOne K (.ref C) (.ref C) = some true)
    {CB cWB fIB : Addr} {nmB qB : Str} {NB : Addr} {bsB : List Value} {snB : List Str} {subB : List Value} {abB : Bool} {colB : Option Bool} {ddB : Option Addr} {m0B m1B m2B m3B m5B : Option Value} {odIB anIB : Option Addr} {slIB : Array (Option Value)} {ocIB dcIB pmIB cdIB ctIB : Value} {p1B p2B q1B q2B q3B q4B : Pos}
    (xCB : PySem.W.nsIn K mainGlobals "BadText" = some (some (.ref CB))) (xWB : PySem.W.nsIn K mainGlobals "WorthError" = some (some (.ref cWB)))
    (xLB : K.lookup CB = some (PySem.excClassObj nmB qB CB NB bsB [.ref cWB, .type "ValueError", .type "Exception", .type "BaseException", .type "object"] true snB subB abB colB ddB m0B m1B m2B m3B m5B "ValueError.__new__"))
    (saB : PySem.W.findIn K (.ref CB) "__setattr__" = some (some (.builtin "object.__setattr__"))) (gaB : PySem.W.findIn K (.ref CB) "__getattribute__" = some (some (.builtin "BaseException.__getattribute__"))) (ggB : PySem.W.findIn K (.ref CB) "__getattr__" = some none) (nbB : PySem.W.findIn K (.ref CB) "at" = some none)
    (xIB : PySem.W.findIn K (.ref CB) "__init__" = some (some (.ref fIB))) (tIB : PySem.W.typeIn K (.ref fIB) = some (.type "function"))
    (lIB : K.lookup fIB = some ⟨ocIB, odIB, .func (PySem.W.fnOf "__init__" "BadText.__init__" (PySem.BadX.iA p1B p2B) (PySem.BadX.iB q1B q2B q3B q4B) PySem.BadX.iS .none .none dcIB pmIB anIB cdIB ctIB), slIB⟩) (cIB : PySem.W.codeIn K cdIB "BadText.__init__" = true)
    (kCB : PySem.W.keepIn K (.ref CB) = true) (eCB : PySem.W.subIn K (.ref CB) (.type "BaseException") = some true) (tCB : PySem.W.typeIn K (.ref CB) = some (.type "type")) (hCB : PySem.W.hasDictIn K CB = true) (tEB : PySem.W.exmOne K (.ref CB) (.ref CB) = some true)

    (y1 : (PySem.W.clsIn K C).isSome = true) (y2 : PySem.W.findIn K (.ref C) "__class__" = some (some (.builtin "object.__class__"))) (y3 : PySem.W.specialIn K (.builtin "object.__class__") "__get__" = some (some (.builtin "getset_descriptor.__get__"))) (y4 : PySem.W.takesIn K (.builtin "object.__class__") = some true) (y5 : PySem.W.mroIn K C (.type "object") = some true)
    (iW : PySem.W.kitOne K (.ref C) (.ref cW) = some true) (iV : PySem.W.kitOne K (.ref C) (.type "ValueError") = some true) (iA : PySem.W.kitOne K (.ref C) (.ref CB) = some false)

    : ∃ fd : FuncData, (∀ (s : Shared) (v : Value), BindsTo s fd ⟨[v], []⟩ [("script", v)]) ∧ ∀ base : Heap, K.In base → base.Ns mainGlobals mg → FnOk l.prog w K mg base CX0 31 fa fd ["script"] (spLaw K) := by
  have e := hfa.symm.trans (PySem.W.mg_of X G a52)
  cases e
  have F1 := fun_mk (st := sIsWord) l1 c1 k1
  have DIsWord : Dn K mg "is_word" sIsWord ["text"] _ _ := ⟨F1, F1.binds (ps := ["text"]) fun _ _ _ _ _ _ us hl => match us, hl with | [_], _ => rfl, PySem.W.mg_of X G a1⟩
  have F2 := fun_mk (st := sIsValue) l2 c2 k2
  have DIsValue : Dn K mg "is_value" sIsValue ["value"] _ _ := ⟨F2, F2.binds (ps := ["value"]) fun _ _ _ _ _ _ us hl => match us, hl with | [_], _ => rfl, PySem.W.mg_of X G a2⟩
  have F3 := fun_mk (st := sCheckQuestion) l3 c3 k3
  have DCheckQuestion : Dn K mg "check_question" sCheckQuestion ["question"] _ _ := ⟨F3, F3.binds (ps := ["question"]) fun _ _ _ _ _ _ us hl => match us, hl with | [_], _ => rfl, PySem.W.mg_of X G a3⟩
  have F4 := fun_mk (st := sIsJoin) l4 c4 k4
  have DIsJoin : Dn K mg "is_join" sIsJoin ["join", "width"] _ _ := ⟨F4, F4.binds (ps := ["join", "width"]) fun _ _ _ _ _ _ us hl => match us, hl with | [_, _], _ => rfl, PySem.W.mg_of X G a4⟩
  have F5 := fun_mk (st := sIsAtom) l5 c5 k5
  have DIsAtom : Dn K mg "is_atom" sIsAtom ["atom"] _ _ := ⟨F5, F5.binds (ps := ["atom"]) fun _ _ _ _ _ _ us hl => match us, hl with | [_], _ => rfl, PySem.W.mg_of X G a5⟩
  have F6 := fun_mk (st := sAreTerms) l6 c6 k6
  have DAreTerms : Dn K mg "are_terms" sAreTerms ["terms"] _ _ := ⟨F6, F6.binds (ps := ["terms"]) fun _ _ _ _ _ _ us hl => match us, hl with | [_], _ => rfl, PySem.W.mg_of X G a6⟩
  have F7 := fun_mk (st := sVariablesIn) l7 c7 k7
  have DVariablesIn : Dn K mg "variables_in" sVariablesIn ["terms"] _ _ := ⟨F7, F7.binds (ps := ["terms"]) fun _ _ _ _ _ _ us hl => match us, hl with | [_], _ => rfl, PySem.W.mg_of X G a7⟩
  have F8 := fun_mk (st := sVariablesInBody) l8 c8 k8
  have DVariablesInBody : Dn K mg "variables_in_body" sVariablesInBody ["body"] _ _ := ⟨F8, F8.binds (ps := ["body"]) fun _ _ _ _ _ _ us hl => match us, hl with | [_], _ => rfl, PySem.W.mg_of X G a8⟩
  have F9 := fun_mk (st := sTokensOf) l9 c9 k9
  have DTokensOf : Dn K mg "tokens_of" sTokensOf ["text"] _ _ := ⟨F9, F9.binds (ps := ["text"]) fun _ _ _ _ _ _ us hl => match us, hl with | [_], _ => rfl, PySem.W.mg_of X G a9⟩
  have F10 := fun_mk (st := sEndOfRun) l10 c10 k10
  have DEndOfRun : Dn K mg "end_of_run" sEndOfRun ["text", "at", "characters"] _ _ := ⟨F10, F10.binds (ps := ["text", "at", "characters"]) fun _ _ _ _ _ _ us hl => match us, hl with | [_, _, _], _ => rfl, PySem.W.mg_of X G a10⟩
  have F11 := fun_mk (st := sTokenAt) l11 c11 k11
  have DTokenAt : Dn K mg "token_at" sTokenAt ["text", "at"] _ _ := ⟨F11, F11.binds (ps := ["text", "at"]) fun _ _ _ _ _ _ us hl => match us, hl with | [_, _], _ => rfl, PySem.W.mg_of X G a11⟩
  have F12 := fun_mk (st := sQuotedAt) l12 c12 k12
  have DQuotedAt : Dn K mg "quoted_at" sQuotedAt ["text", "at"] _ _ := ⟨F12, F12.binds (ps := ["text", "at"]) fun _ _ _ _ _ _ us hl => match us, hl with | [_, _], _ => rfl, PySem.W.mg_of X G a12⟩
  have F13 := fun_mk (st := sNumberAt) l13 c13 k13
  have DNumberAt : Dn K mg "number_at" sNumberAt ["text", "at"] _ _ := ⟨F13, F13.binds (ps := ["text", "at"]) fun _ _ _ _ _ _ us hl => match us, hl with | [_, _], _ => rfl, PySem.W.mg_of X G a13⟩
  have F14 := fun_mk (st := sReaderInit) l14 c14 k14
  have DReaderInit : Dm K CR "__init__" "Reader.__init__" sReaderInit ["self", "text"] _ _ := ⟨F14, F14.binds (ps := ["self", "text"]) fun _ _ _ _ _ _ us hl => match us, hl with | [_, _], _ => rfl, ⟨a14, i14, k14⟩⟩
  have F15 := fun_mk (st := sReaderSees) l15 c15 k15
  have DReaderSees : Dm K CR "sees" "Reader.sees" sReaderSees ["self", "kind"] _ _ := ⟨F15, F15.binds (ps := ["self", "kind"]) fun _ _ _ _ _ _ us hl => match us, hl with | [_, _], _ => rfl, ⟨a15, i15, k15⟩⟩
  have F16 := fun_mk (st := sReaderSeesBehind) l16 c16 k16
  have DReaderSeesBehind : Dm K CR "sees_behind" "Reader.sees_behind" sReaderSeesBehind ["self", "kind"] _ _ := ⟨F16, F16.binds (ps := ["self", "kind"]) fun _ _ _ _ _ _ us hl => match us, hl with | [_, _], _ => rfl, ⟨a16, i16, k16⟩⟩
  have F17 := fun_mk (st := sReaderHeld) l17 c17 k17
  have DReaderHeld : Dm K CR "held" "Reader.held" sReaderHeld ["self"] _ _ := ⟨F17, F17.binds (ps := ["self"]) fun _ _ _ _ _ _ us hl => match us, hl with | [_], _ => rfl, ⟨a17, i17, k17⟩⟩
  have F18 := fun_mk (st := sReaderSeesWord) l18 c18 k18
  have DReaderSeesWord : Dm K CR "sees_word" "Reader.sees_word" sReaderSeesWord ["self", "word"] _ _ := ⟨F18, F18.binds (ps := ["self", "word"]) fun _ _ _ _ _ _ us hl => match us, hl with | [_, _], _ => rfl, ⟨a18, i18, k18⟩⟩
  have F19 := fun_mk (st := sReaderRefuse) l19 c19 k19
  have DReaderRefuse : Dm K CR "refuse" "Reader.refuse" sReaderRefuse ["self"] _ _ := ⟨F19, F19.binds (ps := ["self"]) fun _ _ _ _ _ _ us hl => match us, hl with | [_], _ => rfl, ⟨a19, i19, k19⟩⟩
  have F20 := fun_mk (st := sReaderTake) l20 c20 k20
  have DReaderTake : Dm K CR "take" "Reader.take" sReaderTake ["self", "kind"] _ _ := ⟨F20, F20.binds (ps := ["self", "kind"]) fun _ _ _ _ _ _ us hl => match us, hl with | [_, _], _ => rfl, ⟨a20, i20, k20⟩⟩
  have F21 := fun_mk (st := sReaderTakeWord) l21 c21 k21
  have DReaderTakeWord : Dm K CR "take_word" "Reader.take_word" sReaderTakeWord ["self", "word"] _ _ := ⟨F21, F21.binds (ps := ["self", "word"]) fun _ _ _ _ _ _ us hl => match us, hl with | [_, _], _ => rfl, ⟨a21, i21, k21⟩⟩
  have F22 := fun_mk (st := sReadQuestion) l22 c22 k22
  have DReadQuestion : Dn K mg "read_question" sReadQuestion ["text"] _ _ := ⟨F22, F22.binds (ps := ["text"]) fun _ _ _ _ _ _ us hl => match us, hl with | [_], _ => rfl, PySem.W.mg_of X G a22⟩
  have F23 := fun_mk (st := sReadNone) l23 c23 k23
  have DReadNone : Dn K mg "read_none" sReadNone ["reader"] _ _ := ⟨F23, F23.binds (ps := ["reader"]) fun _ _ _ _ _ _ us hl => match us, hl with | [_], _ => rfl, PySem.W.mg_of X G a23⟩
  have F24 := fun_mk (st := sReadJoins) l24 c24 k24
  have DReadJoins : Dn K mg "read_joins" sReadJoins ["reader"] _ _ := ⟨F24, F24.binds (ps := ["reader"]) fun _ _ _ _ _ _ us hl => match us, hl with | [_], _ => rfl, PySem.W.mg_of X G a24⟩
  have F25 := fun_mk (st := sReadRest) l25 c25 k25
  have DReadRest : Dn K mg "read_rest" sReadRest ["reader"] _ _ := ⟨F25, F25.binds (ps := ["reader"]) fun _ _ _ _ _ _ us hl => match us, hl with | [_], _ => rfl, PySem.W.mg_of X G a25⟩
  have F26 := fun_mk (st := sReadAtom) l26 c26 k26
  have DReadAtom : Dn K mg "read_atom" sReadAtom ["reader"] _ _ := ⟨F26, F26.binds (ps := ["reader"]) fun _ _ _ _ _ _ us hl => match us, hl with | [_], _ => rfl, PySem.W.mg_of X G a26⟩
  have F27 := fun_mk (st := sReadTerms) l27 c27 k27
  have DReadTerms : Dn K mg "read_terms" sReadTerms ["reader"] _ _ := ⟨F27, F27.binds (ps := ["reader"]) fun _ _ _ _ _ _ us hl => match us, hl with | [_], _ => rfl, PySem.W.mg_of X G a27⟩
  have F28 := fun_mk (st := sReadHead) l28 c28 k28
  have DReadHead : Dn K mg "read_head" sReadHead ["reader", "width"] _ _ := ⟨F28, F28.binds (ps := ["reader", "width"]) fun _ _ _ _ _ _ us hl => match us, hl with | [_, _], _ => rfl, PySem.W.mg_of X G a28⟩
  have F29 := fun_mk (st := sReadTerm) l29 c29 k29
  have DReadTerm : Dn K mg "read_term" sReadTerm ["reader"] _ _ := ⟨F29, F29.binds (ps := ["reader"]) fun _ _ _ _ _ _ us hl => match us, hl with | [_], _ => rfl, PySem.W.mg_of X G a29⟩
  have F30 := fun_mk (st := sLDraws) l30 c30 k30
  have DLDraws : Dn K mg "_law_draws" sLDraws ["script", "many"] _ _ := ⟨F30, F30.binds (ps := ["script", "many"]) fun _ _ _ _ _ _ us hl => match us, hl with | [_, _], _ => rfl, PySem.W.mg_of X G a30⟩
  have F31 := fun_mk (st := sLTake) l31 c31 k31
  have DLTake : Dn K mg "_law_take" sLTake ["draws", "many"] _ _ := ⟨F31, F31.binds (ps := ["draws", "many"]) fun _ _ _ _ _ _ us hl => match us, hl with | [_, _], _ => rfl, PySem.W.mg_of X G a31⟩
  have F32 := fun_mk (st := sLPick) l32 c32 k32
  have DLPick : Dn K mg "_law_pick" sLPick ["draws", "row"] _ _ := ⟨F32, F32.binds (ps := ["draws", "row"]) fun _ _ _ _ _ _ us hl => match us, hl with | [_, _], _ => rfl, PySem.W.mg_of X G a32⟩
  have F33 := fun_mk (st := sLSize) l33 c33 k33
  have DLSize : Dn K mg "_law_size" sLSize ["draws", "script"] _ _ := ⟨F33, F33.binds (ps := ["draws", "script"]) fun _ _ _ _ _ _ us hl => match us, hl with | [_, _], _ => rfl, PySem.W.mg_of X G a33⟩
  have F34 := fun_mk (st := sLSame) l34 c34 k34
  have DLSame : Dn K mg "_law_same" sLSame ["actual", "due"] _ _ := ⟨F34, F34.binds (ps := ["actual", "due"]) fun _ _ _ _ _ _ us hl => match us, hl with | [_, _], _ => rfl, PySem.W.mg_of X G a34⟩
  have F35 := fun_mk (st := sLWords) l35 c35 k35
  have DLWords : Dn K mg "_law_words" sLWords ["draws", "many"] _ _ := ⟨F35, F35.binds (ps := ["draws", "many"]) fun _ _ _ _ _ _ us hl => match us, hl with | [_, _], _ => rfl, PySem.W.mg_of X G a35⟩
  have F36 := fun_mk (st := sLIsWord) l36 c36 k36
  have DLIsWord : Dn K mg "_law_is_word" sLIsWord ["text"] _ _ := ⟨F36, F36.binds (ps := ["text"]) fun _ _ _ _ _ _ us hl => match us, hl with | [_], _ => rfl, PySem.W.mg_of X G a36⟩
  have F37 := fun_mk (st := sLNumber) l37 c37 k37
  have DLNumber : Dn K mg "_law_number" sLNumber ["draws", "script"] _ _ := ⟨F37, F37.binds (ps := ["draws", "script"]) fun _ _ _ _ _ _ us hl => match us, hl with | [_, _], _ => rfl, PySem.W.mg_of X G a37⟩
  have F38 := fun_mk (st := sLAnyValue) l38 c38 k38
  have DLAnyValue : Dn K mg "_law_any_value" sLAnyValue ["draws", "script", "words"] _ _ := ⟨F38, F38.binds (ps := ["draws", "script", "words"]) fun _ _ _ _ _ _ us hl => match us, hl with | [_, _, _], _ => rfl, PySem.W.mg_of X G a38⟩
  have F39 := fun_mk (st := sLAnyTerm) l39 c39 k39
  have DLAnyTerm : Dn K mg "_law_any_term" sLAnyTerm ["draws", "script", "words"] _ _ := ⟨F39, F39.binds (ps := ["draws", "script", "words"]) fun _ _ _ _ _ _ us hl => match us, hl with | [_, _, _], _ => rfl, PySem.W.mg_of X G a39⟩
  have F40 := fun_mk (st := sLAnyAtom) l40 c40 k40
  have DLAnyAtom : Dn K mg "_law_any_atom" sLAnyAtom ["draws", "script", "words", "most"] _ _ := ⟨F40, F40.binds (ps := ["draws", "script", "words", "most"]) fun _ _ _ _ _ _ us hl => match us, hl with | [_, _, _, _], _ => rfl, PySem.W.mg_of X G a40⟩
  have F41 := fun_mk (st := sLAnyJoin) l41 c41 k41
  have DLAnyJoin : Dn K mg "_law_any_join" sLAnyJoin ["draws", "script", "words", "width", "atoms", "most"] _ _ := ⟨F41, F41.binds (ps := ["draws", "script", "words", "width", "atoms", "most"]) fun _ _ _ _ _ _ us hl => match us, hl with | [_, _, _, _, _, _], _ => rfl, PySem.W.mg_of X G a41⟩
  have F42 := fun_mk (st := sLAnyQuestion) l42 c42 k42
  have DLAnyQuestion : Dn K mg "_law_any_question" sLAnyQuestion ["draws", "script", "words"] _ _ := ⟨F42, F42.binds (ps := ["draws", "script", "words"]) fun _ _ _ _ _ _ us hl => match us, hl with | [_, _, _], _ => rfl, PySem.W.mg_of X G a42⟩
  have F43 := fun_mk (st := sLTermFits) l43 c43 k43
  have DLTermFits : Dn K mg "_law_term_fits" sLTermFits ["term"] _ _ := ⟨F43, F43.binds (ps := ["term"]) fun _ _ _ _ _ _ us hl => match us, hl with | [_], _ => rfl, PySem.W.mg_of X G a43⟩
  have F44 := fun_mk (st := sLJoinFits) l44 c44 k44
  have DLJoinFits : Dn K mg "_law_join_fits" sLJoinFits ["join", "width"] _ _ := ⟨F44, F44.binds (ps := ["join", "width"]) fun _ _ _ _ _ _ us hl => match us, hl with | [_, _], _ => rfl, PySem.W.mg_of X G a44⟩
  have F45 := fun_mk (st := sLFault) l45 c45 k45
  have DLFault : Dn K mg "_law_fault" sLFault ["question"] _ _ := ⟨F45, F45.binds (ps := ["question"]) fun _ _ _ _ _ _ us hl => match us, hl with | [_], _ => rfl, PySem.W.mg_of X G a45⟩
  have F46 := fun_mk (st := sLTermPiece) l46 c46 k46
  have DLTermPiece : Dn K mg "_law_term_piece" sLTermPiece ["term"] _ _ := ⟨F46, F46.binds (ps := ["term"]) fun _ _ _ _ _ _ us hl => match us, hl with | [_], _ => rfl, PySem.W.mg_of X G a46⟩
  have F47 := fun_mk (st := sLWritten) l47 c47 k47
  have DLWritten : Dn K mg "_law_written" sLWritten ["question"] _ _ := ⟨F47, F47.binds (ps := ["question"]) fun _ _ _ _ _ _ us hl => match us, hl with | [_], _ => rfl, PySem.W.mg_of X G a47⟩
  have F48 := fun_mk (st := sLWrittenTerms) l48 c48 k48
  have DLWrittenTerms : Dn K mg "_law_written_terms" sLWrittenTerms ["terms"] _ _ := ⟨F48, F48.binds (ps := ["terms"]) fun _ _ _ _ _ _ us hl => match us, hl with | [_], _ => rfl, PySem.W.mg_of X G a48⟩
  have F49 := fun_mk (st := sLSomeWords) l49 c49 k49
  have DLSomeWords : Dn K mg "_law_some_words" sLSomeWords ["draws", "many"] _ _ := ⟨F49, F49.binds (ps := ["draws", "many"]) fun _ _ _ _ _ _ us hl => match us, hl with | [_, _], _ => rfl, PySem.W.mg_of X G a49⟩
  have F50 := fun_mk (st := sLOddQuestion) l50 c50 k50
  have DLOddQuestion : Dn K mg "_law_odd_question" sLOddQuestion ["draws", "script", "words"] _ _ := ⟨F50, F50.binds (ps := ["draws", "script", "words"]) fun _ _ _ _ _ _ us hl => match us, hl with | [_, _, _], _ => rfl, PySem.W.mg_of X G a50⟩
  have F51 := fun_mk (st := sLTold) l51 c51 k51
  have DLTold : Dn K mg "_law_told" sLTold ["text"] _ _ := ⟨F51, F51.binds (ps := ["text"]) fun _ _ _ _ _ _ us hl => match us, hl with | [_], _ => rfl, PySem.W.mg_of X G a51⟩
  have F52 := fun_mk (st := sLaw) l52 c52 k52
  have DLaw : Dn K mg "law" sLaw ["script"] _ _ := ⟨F52, F52.binds (ps := ["script"]) fun _ _ _ _ _ _ us hl => match us, hl with | [_], _ => rfl, PySem.W.mg_of X G a52⟩
  have T : Tx mg := ⟨PySem.W.mg_none_of X G z_len, PySem.W.mg_none_of X G z_int, PySem.W.mg_none_of X G z_list, PySem.W.mg_none_of X G z_tuple, PySem.W.mg_none_of X G z_bool, PySem.W.mg_none_of X G z_str, PySem.W.mg_none_of X G z_range, PySem.W.mg_none_of X G z_abs, PySem.W.mg_none_of X G z_min, PySem.W.mg_none_of X G z_max, PySem.W.mg_none_of X G z_isinstance, PySem.W.mg_none_of X G z_all, PySem.W.mg_none_of X G z_enumerate, PySem.W.mg_none_of X G z_ValueError⟩
  refine ⟨PySem.W.fnOf "law" "law" (defArgs sLaw) (defBody sLaw) (defScope sLaw) .none kV52 dc52 pm52 an52 cd52 ct52, fun s v => .of_eq rfl, fun base _ _ => ?_⟩
  have hW := PySem.W.mg_of X G aW
  have hJ := PySem.W.mg_of X G aJ
  have hA := PySem.W.mg_of X G aA
  have hM := PySem.W.mg_of X G aM
  have hS := PySem.W.mg_of X G aS
  have hL := PySem.W.mg_of X G aL
  have hD := PySem.W.mg_of X G aD
  have mC := PySem.W.mg_of X G aR
  have cl : Cls K CR := ⟨pgR, hdR, poR, saR⟩
  have tx : RTxt K CR := ⟨cl, nTR, nPR⟩
  have mk : Mk K CR f14 := ⟨mkR, a14, i14, kcR⟩
  have low : PySem.NoQX.NoQTxt K mg C fI :=
    { gC := PySem.W.mg_of X G xC, cls := ⟨nm, q, N, bs, _, sn, sub, ab, col, dd, m0, m1, m2, m3, m5, xL, (show PySem.HandSPX.refsVE [.type "ValueError", .type "Exception", .type "BaseException", .type "object"] = true by decide +kernel)⟩, sa := sa, ga := ga, gg := gg, noN := nb, iC := xI, tC := tI, kC := kC, exC := eC, tyC := tC, hdC := hC, te := tE,
      fn := ⟨_, _, _, _, _, _, _, _, _, _, _, _, _, _, lI, cI⟩ }
  have lowB : PySem.BadX.BadTxt K mg CB fIB :=
    { gC := PySem.W.mg_of X G xCB, cls := ⟨nmB, qB, NB, bsB, _, snB, subB, abB, colB, ddB, m0B, m1B, m2B, m3B, m5B, xLB, (show PySem.HandSPX.refsVE [.type "ValueError", .type "Exception", .type "BaseException", .type "object"] = true by decide +kernel)⟩, sa := saB, ga := gaB, gg := ggB, noN := nbB, iC := xIB, tC := tIB, kC := kCB, exC := eCB, tyC := tCB, hdC := hCB, te := tEB,
      fn := ⟨_, _, _, _, _, _, _, _, _, _, _, _, _, _, lIB, cIB⟩ }
  have hWE := PySem.W.mg_of X G xW
  have hB := PySem.W.mg_of X G xCB
  have er : ErrC K C := ⟨y1, ga, gg, eC, y2, y3, y4, y5⟩
  have gLTake := ok_take (P := l.prog) (w := w) (K := K) (base := base) T DLTake
  have gLSame := ok_same (P := l.prog) (w := w) (K := K) (base := base) T DLSame 9
  have gLDraws := ok_draws (P := l.prog) (w := w) (K := K) (base := base) T DLDraws
  have gLSize := ok_size (P := l.prog) (w := w) (K := K) (base := base) T DLSize DLTake gLTake
  have gLPick := ok_pick (P := l.prog) (w := w) (K := K) (base := base) T DLPick DLTake gLTake
  have gLNumber := ok_number (P := l.prog) (w := w) (K := K) (base := base) T DLNumber DLTake gLTake DLSize gLSize
  have gLWords := ok_wordsN (P := l.prog) (w := w) (K := K) (base := base) T DLWords DLTake gLTake
  have gLWords := words_weak gLWords
  have gLAnyValue := ok_value (P := l.prog) (w := w) (K := K) (base := base) (PI := PIN) T DLAnyValue DLTake gLTake DLPick gLPick DLNumber gLNumber
  have gLAnyTerm := ok_term (P := l.prog) (w := w) (K := K) (base := base) (PI := PIN) T DLAnyTerm DLTake gLTake DLPick gLPick DLAnyValue gLAnyValue
  have gLAnyAtom := ok_atom (P := l.prog) (w := w) (K := K) (base := base) (PI := PIN) T DLAnyAtom DLTake gLTake DLPick gLPick DLAnyTerm gLAnyTerm
  have gLAnyJoin := ok_join (P := l.prog) (w := w) (K := K) (base := base) (PI := PIN) T DLAnyJoin DLTake gLTake DLPick gLPick DLAnyValue gLAnyValue DLAnyAtom gLAnyAtom
  have gLAnyQuestion := ok_quest (P := l.prog) (w := w) (K := K) (base := base) (PI := PIN) T DLAnyQuestion DLTake gLTake DLPick gLPick DLAnyJoin gLAnyJoin
  have gIsWord := ok_isWord (P := l.prog) (w := w) (K := K) (base := base) T DIsWord
  have gIsValue := ok_isValue (P := l.prog) (w := w) (K := K) (base := base) T DIsValue DIsWord gIsWord
  have gAreTerms := ok_areTerms (P := l.prog) (w := w) (K := K) (base := base) T DAreTerms DIsWord gIsWord DIsValue gIsValue
  have gVariablesIn := ok_varsIn (P := l.prog) (w := w) (K := K) (base := base) T DVariablesIn
  have gIsAtom := ok_isAtom (P := l.prog) (w := w) (K := K) (base := base) T hM DIsAtom DIsWord gIsWord DAreTerms gAreTerms
  have gVariablesInBody := ok_varsB (P := l.prog) (w := w) (K := K) (base := base) T DVariablesInBody DVariablesIn gVariablesIn
  have gIsJoin := ok_isJoin (P := l.prog) (w := w) (K := K) (base := base) T hA DIsJoin DAreTerms gAreTerms DIsAtom gIsAtom DVariablesInBody gVariablesInBody DVariablesIn gVariablesIn
  have gCheckQuestion := ok_checkX (P := l.prog) (w := w) (K := K) (base := base) T low hW hJ DCheckQuestion DIsJoin gIsJoin
  have gReaderSees := ok_sees (P := l.prog) (w := w) (K := K) (base := base) T tx DReaderSees
  have gReaderSeesBehind := ok_behind (P := l.prog) (w := w) (K := K) (base := base) T tx DReaderSeesBehind
  have gReaderHeld := ok_held (P := l.prog) (w := w) (K := K) (base := base) T tx DReaderHeld
  have gReaderSeesWord := ok_seesW (P := l.prog) (w := w) (K := K) (base := base) T cl DReaderSeesWord DReaderSees gReaderSees DReaderHeld gReaderHeld
  have gReaderRefuse := ok_refuse (P := l.prog) (w := w) (K := K) (base := base) T tx lowB DReaderRefuse
  have gReaderTake := ok_takeR (P := l.prog) (w := w) (K := K) (base := base) T tx cl DReaderTake DReaderSees gReaderSees DReaderHeld gReaderHeld DReaderRefuse gReaderRefuse
  have gReaderTakeWord := ok_takeW (P := l.prog) (w := w) (K := K) (base := base) T tx cl DReaderTakeWord DReaderSeesWord gReaderSeesWord DReaderRefuse gReaderRefuse
  have gReadTerm := ok_termR (P := l.prog) (w := w) (K := K) (base := base) T cl DReadTerm DReaderSees gReaderSees DReaderTake gReaderTake
  have gReadTerms := ok_termsR (P := l.prog) (w := w) (K := K) (base := base) T cl DReadTerms DReaderSees gReaderSees DReaderTake gReaderTake DReadTerm gReadTerm
  have gReadHead := ok_headR (P := l.prog) (w := w) (K := K) (base := base) T cl DReadHead DReaderSees gReaderSees DReaderTake gReaderTake DReadTerm gReadTerm
  have gReadAtom := ok_atomR (P := l.prog) (w := w) (K := K) (base := base) T cl DReadAtom DReaderTake gReaderTake DReadTerms gReadTerms
  have gReadRest := ok_restR (P := l.prog) (w := w) (K := K) (base := base) T cl DReadRest DReaderSeesWord gReaderSeesWord DReaderSeesBehind gReaderSeesBehind DReaderTakeWord gReaderTakeWord DReadAtom gReadAtom
  have gReadJoins := ok_joinsR (P := l.prog) (w := w) (K := K) (base := base) T cl DReadJoins DReaderSees gReaderSees DReaderTake gReaderTake DReadTerms gReadTerms DReadRest gReadRest DReadHead gReadHead
  have gReadNone := ok_noneR (P := l.prog) (w := w) (K := K) (base := base) T cl DReadNone DReaderTakeWord gReaderTakeWord DReaderSees gReaderSees DReaderHeld gReaderHeld DReaderRefuse gReaderRefuse DReaderTake gReaderTake
  have gEndOfRun := ok_endRun (P := l.prog) (w := w) (K := K) (base := base) T DEndOfRun
  have gQuotedAt := ok_quoted (P := l.prog) (w := w) (K := K) (base := base) T hL DQuotedAt DEndOfRun gEndOfRun
  have gNumberAt := ok_numAt (P := l.prog) (w := w) (K := K) (base := base) T hD DNumberAt DEndOfRun gEndOfRun
  have gTokenAt := ok_tokAt (P := l.prog) (w := w) (K := K) (base := base) T hS hL DTokenAt DEndOfRun gEndOfRun DQuotedAt gQuotedAt DNumberAt gNumberAt
  have gTokensOf := ok_toks (P := l.prog) (w := w) (K := K) (base := base) T DTokensOf DEndOfRun gEndOfRun DTokenAt gTokenAt
  have gReaderInit := ok_init (P := l.prog) (w := w) (K := K) (base := base) T tx DReaderInit DTokensOf gTokensOf
  have gReadQuestion := ok_readQ (P := l.prog) (w := w) (K := K) (base := base) T cl mk mC DReaderInit gReaderInit DReadQuestion DReaderSeesWord gReaderSeesWord DReadNone gReadNone DReadJoins gReadJoins DReaderTake gReaderTake DCheckQuestion gCheckQuestion
  have gLTermPiece := ok_piece (P := l.prog) (w := w) (K := K) (base := base) T DLTermPiece
  have gLWrittenTerms := ok_wterms (P := l.prog) (w := w) (K := K) (base := base) T DLWrittenTerms DLTermPiece gLTermPiece
  have gLWritten := ok_written (P := l.prog) (w := w) (K := K) (base := base) T DLWritten DLWrittenTerms gLWrittenTerms
  have gLSomeWords := ok_someW (P := l.prog) (w := w) (K := K) (base := base) T DLSomeWords DLTake gLTake DLWords gLWords
  have gLIsWord := ok_lword (P := l.prog) (w := w) (K := K) (base := base) T DLIsWord
  have gLOddQuestion := ok_odd (P := l.prog) (w := w) (K := K) (base := base) T DLOddQuestion DLTake gLTake DLPick gLPick DLAnyTerm gLAnyTerm DLAnyAtom gLAnyAtom DLAnyJoin gLAnyJoin DLAnyQuestion gLAnyQuestion DLSize gLSize
  have gLTermFits := ok_tfits (P := l.prog) (w := w) (K := K) (base := base) T DLTermFits DLIsWord gLIsWord
  have gLJoinFits := ok_jfits (P := l.prog) (w := w) (K := K) (base := base) T DLJoinFits DLIsWord gLIsWord DLTermFits gLTermFits
  have gLFault := ok_faultQ (P := l.prog) (w := w) (K := K) (base := base) T DLFault DLJoinFits gLJoinFits
  have gLTold := ok_told (P := l.prog) (w := w) (K := K) (base := base) T low er hWE hB iW iV iA DLTold DReadQuestion gReadQuestion
  exact ok_law T DLaw DLDraws gLDraws DLSomeWords gLSomeWords DLOddQuestion gLOddQuestion DLFault gLFault DLSame gLSame DLTold gLTold DLWritten gLWritten
theorem walk {l : PySem.W.OpenLaw} {q : Program} {loose : List Str} {XP : (Str → Option Value) → Heap → Prop} {YP : World → Heap → Prop} {d : DefRec} {K : Params → PySem.W.Frag} (hn : l.most = some 63) (hdf : d.params.defaults = [])
    (hY : ∀ (w : World) (h : Heap), YP w h → (K w.params).In h)
    (F : ∀ (w : World) (mg : Str → Option Value) (fa : Addr) (h : Heap), (K w.params).In h → h.Ns mainGlobals mg → mg d.name = some (.ref fa) →
      ∃ fd : FuncData, (∀ (s : Shared) (u : Value), BindsTo s fd ⟨[u], []⟩ [("script", u)]) ∧ ∀ base : Heap, (K w.params).In base → base.Ns mainGlobals mg → FnOk l.prog w (K w.params) mg base CX0 31 fa fd ["script"] (spLaw (K w.params))) :
    PySem.W.WalkO q loose XP YP l.row.toRowW d [] (fun f vs => PySem.call f vs) :=
  L2.walk_of (n := 63) (k := 31) (x := "script") (CX := fun _ => CX0) (sp := fun w => spLaw (K w.params)) hn (by decide) hdf ⟨rfl, by decide, by decide⟩ hY F (fun _ _ a ns hl _ hS => ⟨a, ns, rfl, hS, hl, fun _ => rfl⟩) fun _ _ _ _ _ z => z
end A1
open PySem PySem.W PyProof.Rows
set_option maxRecDepth 100000 in
set_option maxHeartbeats 0 in
theorem PySem.Challenge.cw_anyworth_k37_texts_of_odd_questions_holds : PySem.Challenge.rw_anyworth_k37_texts_of_odd_questions.Holds := by
  w_on; o_law; k_head; (case hw => w_witness2)
  k_fill
  refine A1.walk (l := PySem.Challenge.rw_anyworth_k37_texts_of_odd_questions) rfl rfl (fun w h Y => PySem.W.kIn_of Y) ?F
  case F =>
    intro w mg fa h KX G hmg
    refine' A1.all_mk KX G hmg ?a1 ?l1 ?c1 ?k1 ?a2 ?l2 ?c2 ?k2 ?a3 ?l3 ?c3 ?k3 ?a4 ?l4 ?c4 ?k4 ?a5 ?l5 ?c5 ?k5 ?a6 ?l6 ?c6 ?k6 ?a7 ?l7 ?c7 ?k7 ?a8 ?l8 ?c8 ?k8 ?a9 ?l9 ?c9 ?k9 ?a10 ?l10 ?c10 ?k10 ?a11 ?l11 ?c11 ?k11 ?a12 ?l12 ?c12 ?k12 ?a13 ?l13 ?c13 ?k13 ?a14 ?i14 ?l14 ?c14 ?k14 ?a15 ?i15 ?l15 ?c15 ?k15 ?a16 ?i16 ?l16 ?c16 ?k16 ?a17 ?i17 ?l17 ?c17 ?k17 ?a18 ?i18 ?l18 ?c18 ?k18 ?a19 ?i19 ?l19 ?c19 ?k19 ?a20 ?i20 ?l20 ?c20 ?k20 ?a21 ?i21 ?l21 ?c21 ?k21 ?a22 ?l22 ?c22 ?k22 ?a23 ?l23 ?c23 ?k23 ?a24 ?l24 ?c24 ?k24 ?a25 ?l25 ?c25 ?k25 ?a26 ?l26 ?c26 ?k26 ?a27 ?l27 ?c27 ?k27 ?a28 ?l28 ?c28 ?k28 ?a29 ?l29 ?c29 ?k29 ?a30 ?l30 ?c30 ?k30 ?a31 ?l31 ?c31 ?k31 ?a32 ?l32 ?c32 ?k32 ?a33 ?l33 ?c33 ?k33 ?a34 ?l34 ?c34 ?k34 ?a35 ?l35 ?c35 ?k35 ?a36 ?l36 ?c36 ?k36 ?a37 ?l37 ?c37 ?k37 ?a38 ?l38 ?c38 ?k38 ?a39 ?l39 ?c39 ?k39 ?a40 ?l40 ?c40 ?k40 ?a41 ?l41 ?c41 ?k41 ?a42 ?l42 ?c42 ?k42 ?a43 ?l43 ?c43 ?k43 ?a44 ?l44 ?c44 ?k44 ?a45 ?l45 ?c45 ?k45 ?a46 ?l46 ?c46 ?k46 ?a47 ?l47 ?c47 ?k47 ?a48 ?l48 ?c48 ?k48 ?a49 ?l49 ?c49 ?k49 ?a50 ?l50 ?c50 ?k50 ?a51 ?l51 ?c51 ?k51 ?a52 ?l52 ?c52 ?k52 ?z_len ?z_int ?z_list ?z_tuple ?z_bool ?z_str ?z_range ?z_abs ?z_min ?z_max ?z_isinstance ?z_all ?z_enumerate ?z_ValueError ?aW ?aJ ?aA ?aM ?aS ?aL ?aD ?aR ?pgR ?hdR ?poR ?saR ?mkR ?kcR ?nTR ?nPR ?xC ?xW ?xL ?sa ?ga ?gg ?nb ?xI ?tI ?lI ?cI ?kC ?eC ?tC ?hC ?tE ?xCB ?xWB ?xLB ?saB ?gaB ?ggB ?nbB ?xIB ?tIB ?lIB ?cIB ?kCB ?eCB ?tCB ?hCB ?tEB ?y1 ?y2 ?y3 ?y4 ?y5 ?iW ?iV ?iA
    (case aR => first | k_is | rfl)
    (case a1 => first | k_is | rfl)
    (case l1 => first | k_is | rfl)
    (case c1 => first | k_is | rfl)
    (case k1 => first | k_is | rfl)
    (case a2 => first | k_is | rfl)
    (case l2 => first | k_is | rfl)
    (case c2 => first | k_is | rfl)
    (case k2 => first | k_is | rfl)
    (case a3 => first | k_is | rfl)
    (case l3 => first | k_is | rfl)
    (case c3 => first | k_is | rfl)
    (case k3 => first | k_is | rfl)
    (case a4 => first | k_is | rfl)
    (case l4 => first | k_is | rfl)
    (case c4 => first | k_is | rfl)
    (case k4 => first | k_is | rfl)
    (case a5 => first | k_is | rfl)
    (case l5 => first | k_is | rfl)
    (case c5 => first | k_is | rfl)
    (case k5 => first | k_is | rfl)
    (case a6 => first | k_is | rfl)
    (case l6 => first | k_is | rfl)
    (case c6 => first | k_is | rfl)
    (case k6 => first | k_is | rfl)
    (case a7 => first | k_is | rfl)
    (case l7 => first | k_is | rfl)
    (case c7 => first | k_is | rfl)
    (case k7 => first | k_is | rfl)
    (case a8 => first | k_is | rfl)
    (case l8 => first | k_is | rfl)
    (case c8 => first | k_is | rfl)
    (case k8 => first | k_is | rfl)
    (case a9 => first | k_is | rfl)
    (case l9 => first | k_is | rfl)
    (case c9 => first | k_is | rfl)
    (case k9 => first | k_is | rfl)
    (case a10 => first | k_is | rfl)
    (case l10 => first | k_is | rfl)
    (case c10 => first | k_is | rfl)
    (case k10 => first | k_is | rfl)
    (case a11 => first | k_is | rfl)
    (case l11 => first | k_is | rfl)
    (case c11 => first | k_is | rfl)
    (case k11 => first | k_is | rfl)
    (case a12 => first | k_is | rfl)
    (case l12 => first | k_is | rfl)
    (case c12 => first | k_is | rfl)
    (case k12 => first | k_is | rfl)
    (case a13 => first | k_is | rfl)
    (case l13 => first | k_is | rfl)
    (case c13 => first | k_is | rfl)
    (case k13 => first | k_is | rfl)
    (case a14 => first | k_is | rfl)
    (case i14 => first | k_is | rfl)
    (case l14 => first | k_is | rfl)
    (case c14 => first | k_is | rfl)
    (case k14 => first | k_is | rfl)
    (case a15 => first | k_is | rfl)
    (case i15 => first | k_is | rfl)
    (case l15 => first | k_is | rfl)
    (case c15 => first | k_is | rfl)
    (case k15 => first | k_is | rfl)
    (case a16 => first | k_is | rfl)
    (case i16 => first | k_is | rfl)
    (case l16 => first | k_is | rfl)
    (case c16 => first | k_is | rfl)
    (case k16 => first | k_is | rfl)
    (case a17 => first | k_is | rfl)
    (case i17 => first | k_is | rfl)
    (case l17 => first | k_is | rfl)
    (case c17 => first | k_is | rfl)
    (case k17 => first | k_is | rfl)
    (case a18 => first | k_is | rfl)
    (case i18 => first | k_is | rfl)
    (case l18 => first | k_is | rfl)
    (case c18 => first | k_is | rfl)
    (case k18 => first | k_is | rfl)
    (case a19 => first | k_is | rfl)
    (case i19 => first | k_is | rfl)
    (case l19 => first | k_is | rfl)
    (case c19 => first | k_is | rfl)
    (case k19 => first | k_is | rfl)
    (case a20 => first | k_is | rfl)
    (case i20 => first | k_is | rfl)
    (case l20 => first | k_is | rfl)
    (case c20 => first | k_is | rfl)
    (case k20 => first | k_is | rfl)
    (case a21 => first | k_is | rfl)
    (case i21 => first | k_is | rfl)
    (case l21 => first | k_is | rfl)
    (case c21 => first | k_is | rfl)
    (case k21 => first | k_is | rfl)
    (case a22 => first | k_is | rfl)
    (case l22 => first | k_is | rfl)
    (case c22 => first | k_is | rfl)
    (case k22 => first | k_is | rfl)
    (case a23 => first | k_is | rfl)
    (case l23 => first | k_is | rfl)
    (case c23 => first | k_is | rfl)
    (case k23 => first | k_is | rfl)
    (case a24 => first | k_is | rfl)
    (case l24 => first | k_is | rfl)
    (case c24 => first | k_is | rfl)
    (case k24 => first | k_is | rfl)
    (case a25 => first | k_is | rfl)
    (case l25 => first | k_is | rfl)
    (case c25 => first | k_is | rfl)
    (case k25 => first | k_is | rfl)
    (case a26 => first | k_is | rfl)
    (case l26 => first | k_is | rfl)
    (case c26 => first | k_is | rfl)
    (case k26 => first | k_is | rfl)
    (case a27 => first | k_is | rfl)
    (case l27 => first | k_is | rfl)
    (case c27 => first | k_is | rfl)
    (case k27 => first | k_is | rfl)
    (case a28 => first | k_is | rfl)
    (case l28 => first | k_is | rfl)
    (case c28 => first | k_is | rfl)
    (case k28 => first | k_is | rfl)
    (case a29 => first | k_is | rfl)
    (case l29 => first | k_is | rfl)
    (case c29 => first | k_is | rfl)
    (case k29 => first | k_is | rfl)
    (case a30 => first | k_is | rfl)
    (case l30 => first | k_is | rfl)
    (case c30 => first | k_is | rfl)
    (case k30 => first | k_is | rfl)
    (case a31 => first | k_is | rfl)
    (case l31 => first | k_is | rfl)
    (case c31 => first | k_is | rfl)
    (case k31 => first | k_is | rfl)
    (case a32 => first | k_is | rfl)
    (case l32 => first | k_is | rfl)
    (case c32 => first | k_is | rfl)
    (case k32 => first | k_is | rfl)
    (case a33 => first | k_is | rfl)
    (case l33 => first | k_is | rfl)
    (case c33 => first | k_is | rfl)
    (case k33 => first | k_is | rfl)
    (case a34 => first | k_is | rfl)
    (case l34 => first | k_is | rfl)
    (case c34 => first | k_is | rfl)
    (case k34 => first | k_is | rfl)
    (case a35 => first | k_is | rfl)
    (case l35 => first | k_is | rfl)
    (case c35 => first | k_is | rfl)
    (case k35 => first | k_is | rfl)
    (case a36 => first | k_is | rfl)
    (case l36 => first | k_is | rfl)
    (case c36 => first | k_is | rfl)
    (case k36 => first | k_is | rfl)
    (case a37 => first | k_is | rfl)
    (case l37 => first | k_is | rfl)
    (case c37 => first | k_is | rfl)
    (case k37 => first | k_is | rfl)
    (case a38 => first | k_is | rfl)
    (case l38 => first | k_is | rfl)
    (case c38 => first | k_is | rfl)
    (case k38 => first | k_is | rfl)
    (case a39 => first | k_is | rfl)
    (case l39 => first | k_is | rfl)
    (case c39 => first | k_is | rfl)
    (case k39 => first | k_is | rfl)
    (case a40 => first | k_is | rfl)
    (case l40 => first | k_is | rfl)
    (case c40 => first | k_is | rfl)
    (case k40 => first | k_is | rfl)
    (case a41 => first | k_is | rfl)
    (case l41 => first | k_is | rfl)
    (case c41 => first | k_is | rfl)
    (case k41 => first | k_is | rfl)
    (case a42 => first | k_is | rfl)
    (case l42 => first | k_is | rfl)
    (case c42 => first | k_is | rfl)
    (case k42 => first | k_is | rfl)
    (case a43 => first | k_is | rfl)
    (case l43 => first | k_is | rfl)
    (case c43 => first | k_is | rfl)
    (case k43 => first | k_is | rfl)
    (case a44 => first | k_is | rfl)
    (case l44 => first | k_is | rfl)
    (case c44 => first | k_is | rfl)
    (case k44 => first | k_is | rfl)
    (case a45 => first | k_is | rfl)
    (case l45 => first | k_is | rfl)
    (case c45 => first | k_is | rfl)
    (case k45 => first | k_is | rfl)
    (case a46 => first | k_is | rfl)
    (case l46 => first | k_is | rfl)
    (case c46 => first | k_is | rfl)
    (case k46 => first | k_is | rfl)
    (case a47 => first | k_is | rfl)
    (case l47 => first | k_is | rfl)
    (case c47 => first | k_is | rfl)
    (case k47 => first | k_is | rfl)
    (case a48 => first | k_is | rfl)
    (case l48 => first | k_is | rfl)
    (case c48 => first | k_is | rfl)
    (case k48 => first | k_is | rfl)
    (case a49 => first | k_is | rfl)
    (case l49 => first | k_is | rfl)
    (case c49 => first | k_is | rfl)
    (case k49 => first | k_is | rfl)
    (case a50 => first | k_is | rfl)
    (case l50 => first | k_is | rfl)
    (case c50 => first | k_is | rfl)
    (case k50 => first | k_is | rfl)
    (case a51 => first | k_is | rfl)
    (case l51 => first | k_is | rfl)
    (case c51 => first | k_is | rfl)
    (case k51 => first | k_is | rfl)
    (case a52 => first | k_is | rfl)
    (case l52 => first | k_is | rfl)
    (case c52 => first | k_is | rfl)
    (case k52 => first | k_is | rfl)
    (case z_len => first | k_is | rfl)
    (case z_int => first | k_is | rfl)
    (case z_list => first | k_is | rfl)
    (case z_tuple => first | k_is | rfl)
    (case z_bool => first | k_is | rfl)
    (case z_str => first | k_is | rfl)
    (case z_range => first | k_is | rfl)
    (case z_abs => first | k_is | rfl)
    (case z_min => first | k_is | rfl)
    (case z_max => first | k_is | rfl)
    (case z_isinstance => first | k_is | rfl)
    (case z_all => first | k_is | rfl)
    (case z_enumerate => first | k_is | rfl)
    (case z_ValueError => first | k_is | rfl)
    (case aW => first | k_is | rfl)
    (case aJ => first | k_is | rfl)
    (case aA => first | k_is | rfl)
    (case aM => first | k_is | rfl)
    (case aS => first | k_is | rfl)
    (case aL => first | k_is | rfl)
    (case aD => first | k_is | rfl)
    (case pgR => first | k_is | rfl)
    (case hdR => first | k_is | rfl)
    (case poR => first | k_is | rfl)
    (case saR => first | k_is | rfl)
    (case mkR => first | k_is | rfl)
    (case kcR => first | k_is | rfl)
    (case nTR => first | k_is | rfl)
    (case nPR => first | k_is | rfl)
    (case xC => first | k_is | rfl)
    (case xW => first | k_is | rfl)
    (case xL => first | k_is | rfl)
    (case sa => first | k_is | rfl)
    (case ga => first | k_is | rfl)
    (case gg => first | k_is | rfl)
    (case nb => first | k_is | rfl)
    (case xI => first | k_is | rfl)
    (case tI => first | k_is | rfl)
    (case lI => first | k_is | rfl)
    (case cI => first | k_is | rfl)
    (case kC => first | k_is | rfl)
    (case eC => first | k_is | rfl)
    (case tC => first | k_is | rfl)
    (case hC => first | k_is | rfl)
    (case tE => first | k_is | rfl)
    (case xCB => first | k_is | rfl)
    (case xWB => first | k_is | rfl)
    (case xLB => first | k_is | rfl)
    (case saB => first | k_is | rfl)
    (case gaB => first | k_is | rfl)
    (case ggB => first | k_is | rfl)
    (case nbB => first | k_is | rfl)
    (case xIB => first | k_is | rfl)
    (case tIB => first | k_is | rfl)
    (case lIB => first | k_is | rfl)
    (case cIB => first | k_is | rfl)
    (case kCB => first | k_is | rfl)
    (case eCB => first | k_is | rfl)
    (case tCB => first | k_is | rfl)
    (case hCB => first | k_is | rfl)
    (case tEB => first | k_is | rfl)
    (case y1 => first | k_is | rfl)
    (case y2 => first | k_is | rfl)
    (case y3 => first | k_is | rfl)
    (case y4 => first | k_is | rfl)
    (case y5 => first | k_is | rfl)
    (case iW => first | k_is | rfl)
    (case iV => first | k_is | rfl)
    (case iA => first | k_is | rfl)
