import PyProof.Rows.All
import Wide.All
import OpenK.AllK
import Wide.FinOn
import PyProof.RulesMatch
import PyProof.ListMulRoad
import PyProof.FactsAll.tuple_2
import HandS.ForMost
import HandS.IsInst
import HandS.TupMul
import HandS.Codes
import HandS.Gcd
import HandS.Sort
import HandS.Star
import HandS.TupAny
import PySem.Challenge.RW_anyworth_k12_whole_tables_are_houses
set_option Elab.async false
set_option maxRecDepth 100000
namespace A1
open PySem L2 PySem.Spec PyProof.Rows
/-! a match over a text, by cases whose patterns are texts -/
structure PPt (X : Cx) (p : Pattern) (f : Str → Bool) : Prop where
  run : ∀ (pins : List (Addr × Obj)) (s : Shared) (σ : L2.St) (H : Hp) (z : Str) (t : Tok) (Q : Option (List (Str × Value)) → Shared → Prop), Inv X pins σ H s →
    (∀ s', Inv X pins σ H s' → Q (if f z = true then some [] else none) s') → wpAny (model X.prog X.w) X.A (matchPattern p X.env (.str z t)) Q X.xe s
structure PPs (X : Cx) (ps : List Pattern) (f : Str → Bool) : Prop where
  run : ∀ (pins : List (Addr × Obj)) (s : Shared) (σ : L2.St) (H : Hp) (z : Str) (t : Tok) (Q : Option (List (Str × Value)) → Shared → Prop), Inv X pins σ H s →
    (∀ s', Inv X pins σ H s' → Q (if f z = true then some [] else none) s') → wpAny (model X.prog X.w) X.A (matchFirst ps X.env (.str z t)) Q X.xe s
section
variable {X : Cx}
theorem pp_val {x : Str} {j} {pos pos' : Pos} : PPt X (.MatchValue (.Constant (.str x) j pos) pos') (fun z => decide (z = x)) := by
  refine ⟨fun pins s σ H z t Q I h => ?_⟩
  refine wpAny_matchPattern_Value ?_
  refine thn ((pe_str (X := X) (x := x) (j := j) (pos := pos)).run pins s σ H (fun v H' => v = .str x ∧ H' = H) I ⟨rfl, rfl⟩) fun u s1 ⟨v, H1, I1, r1, e1, e2⟩ => ?_
  subst e1 e2
  refine thn (op_eq pins s1 σ H1 (.str z) (.str x) (.str z t) u (fun v H' => v = .bl (decide (V.str z = V.str x)) ∧ H' = H1) I1 ⟨t, rfl⟩ r1 ⟨rfl, rfl, rfl⟩) fun c s2 ⟨v, H2, I2, r2, e1, e2⟩ => ?_
  subst e1 e2
  cases r2
  refine wpAny_truthy_bool ?_
  have q := h s2 I2
  by_cases e : z = x
  · subst e
    simpa using q
  · have e' : ¬ V.str z = V.str x := fun k => e (V.str.inj k)
    simpa [e, e'] using q
theorem pps_nil' : PPs X [] (fun _ => false) := by
  refine ⟨fun pins s σ H z t Q I h => ?_⟩
  exact wpAny_matchFirst_nil (by simpa using h s I)
theorem pps_cons' {p : Pattern} {ps : List Pattern} {f g : Str → Bool} (h1 : PPt X p f) (h2 : PPs X ps g) : PPs X (p :: ps) (fun z => f z || g z) := by
  refine ⟨fun pins s σ H z t Q I h => ?_⟩
  refine wpAny_matchFirst_cons (h1.run pins s σ H z t _ I fun s' I' => ?_)
  cases e : f z with
  | true =>
    have q := h s' I'
    simpa [e] using q
  | false =>
    have q : ∀ s', Inv X pins σ H s' → Q (if g z = true then some [] else none) s' := fun s' I' => by simpa [e] using h s' I'
    simpa [e] using h2.run pins s' σ H z t Q I' q
theorem pp_or {ps : List Pattern} {pos : Pos} {f : Str → Bool} (h : PPs X ps f) (hn : namesOfAll (ps.take 1) = [] := by rfl) : PPt X (.MatchOr ps pos) f := by
  refine ⟨fun pins s σ H z t Q I q => ?_⟩
  refine wpAny_matchPattern_Or (h.run pins s σ H z t _ I fun s' I' => ?_)
  rw [hn]
  have q' := q s' I'
  cases e : f z with
  | true => simpa [e] using q'
  | false => simpa [e] using q'
structure PM (X : Cx) (cs : List MatchCase) (t : Str → TS) : Prop where
  run : ∀ (pins : List (Addr × Obj)) (s : Shared) (σ : L2.St) (H : Hp) (z : Str) (k : Tok) (b : Bool) (D : Ends), Inv X pins σ H s → t z D σ H →
    wpAny (model X.prog X.w) X.A (matchCases cs X.env (.str z k) b) (SP X pins D) X.xe s
def tCase (f : Str → Bool) (t : TS) (u : Str → TS) : Str → TS := fun z D σ H => if f z = true then t D σ H else u z D σ H
theorem pm_nil : PM X [] (fun _ => tNext) := ⟨fun _ _ σ H _ _ _ _ I h => wpAny_matchCases_nil ⟨σ, H, I, h⟩⟩
theorem pm_cons {p : Pattern} {body : List Stmt} {rest : List MatchCase} {f : Str → Bool} {t : TS} {u : Str → TS} (hp : PPt X p f) (hb : PSs X body t) (hr : PM X rest u) : PM X (⟨p, none, body⟩ :: rest) (tCase f t u) := by
  refine ⟨fun pins s σ H z k b D I h => ?_⟩
  refine wpAny_matchCases_cons (hp.run pins s σ H z k _ I fun s' I' => ?_)
  unfold tCase at h
  cases e : f z with
  | true =>
    rw [e, if_pos rfl] at h
    exact wpAny_assignInOrder_none (hb.run pins s' σ H D I' h)
  | false =>
    rw [e, if_neg Bool.false_ne_true] at h
    exact hr.run pins s' σ H z k false D I' h
def tMatch (te : TE) (t : Str → TS) : TS := fun D σ H => te σ H fun v H1 => ∃ z, v = .str z ∧ t z D σ H1
theorem ps_match {e : Expr} {cs : List MatchCase} {pos : Pos} {te : TE} {t : Str → TS} (he : PE X e te) (hm : PM X cs t) : PS X (.Match e cs pos) (tMatch te t) := by
  refine ⟨fun pins s σ H D I h => ?_⟩
  refine wpAny_Match (thn (he.run pins s σ H _ I h) fun v s1 ⟨x, H1, I1, r1, q1⟩ => ?_)
  obtain ⟨z, rfl, q⟩ := q1
  obtain ⟨k, rfl⟩ := r1
  exact hm.run pins s1 σ H1 z k true D I1 q
end
end A1

namespace A1
open PySem L2 PySem.Spec PyProof.Rows
/-! data that never changes, and how a value stands for it -/
inductive TD where
  | non | bl (b : Bool) | int (i : Int) | str (x : Str) | tup (ds : List TD)
mutual
inductive Rp (K : PySem.W.Frag) (H : Hp) : V → TD → Prop
  | non : Rp K H .non .non
  | bl (b : Bool) : Rp K H (.bl b) (.bl b)
  | int (i : Int) : Rp K H (.int i) (.int i)
  | str (x : Str) : Rp K H (.str x) (.str x)
  | tup {a : Addr} {xs : List V} {ds : List TD} : SqT K H a xs → RpA K H xs ds → Rp K H (.ref a) (.tup ds)
inductive RpA (K : PySem.W.Frag) (H : Hp) : List V → List TD → Prop
  | nil : RpA K H [] []
  | cons {v : V} {vs : List V} {d : TD} {ds : List TD} : Rp K H v d → RpA K H vs ds → RpA K H (v :: vs) (d :: ds)
end
section
variable {K : PySem.W.Frag} {H H' H1 H2 : Hp} {d p : Addr}
mutual
theorem Rp.mono (h : ∀ a xs, SqT K H a xs → SqT K H' a xs) : ∀ (t : TD) (v : V), Rp K H v t → Rp K H' v t
  | .non, _, r => by cases r; exact .non
  | .bl b, _, r => by cases r; exact .bl b
  | .int i, _, r => by cases r; exact .int i
  | .str x, _, r => by cases r; exact .str x
  | .tup ds, _, r => by
    cases r with
    | tup s a => exact .tup (h _ _ s) (RpA.mono h ds _ a)
theorem RpA.mono (h : ∀ a xs, SqT K H a xs → SqT K H' a xs) : ∀ (ts : List TD) (vs : List V), RpA K H vs ts → RpA K H' vs ts
  | [], _, r => by cases r; exact .nil
  | t :: ts, _, r => by
    cases r with
    | cons a b => exact .cons (Rp.mono h t _ a) (RpA.mono h ts _ b)
end
theorem RpA.length : ∀ {ts : List TD} {vs : List V}, RpA K H vs ts → vs.length = ts.length
  | [], _, r => by cases r; rfl
  | _ :: _, _, r => by
    cases r with
    | cons _ b => exact congrArg (· + 1) (RpA.length b)
theorem RpA.get : ∀ {ts : List TD} {vs : List V} {i : Nat} {t : TD}, RpA K H vs ts → ts[i]? = some t → ∃ v, vs[i]? = some v ∧ Rp K H v t
  | [], _, i, t, r, e => by simp at e
  | t :: ts, _, 0, t', r, e => by
    cases r with
    | cons a b =>
      have e' : t = t' := Option.some.inj e
      subst e'
      exact ⟨_, rfl, a⟩
  | t :: ts, _, i + 1, t', r, e => by
    cases r with
    | cons a b =>
      obtain ⟨v, h1, h2⟩ := RpA.get (i := i) b (by simpa using e)
      exact ⟨v, by simpa using h1, h2⟩
theorem RpA.app : ∀ {ts us : List TD} {vs ws : List V}, RpA K H vs ts → RpA K H ws us → RpA K H (vs ++ ws) (ts ++ us)
  | [], _, _, _, r, s => by cases r; exact s
  | _ :: _, _, _, _, r, s => by
    cases r with
    | cons a b => exact .cons a (RpA.app b s)
/-- d is a list of ints that a call may change; all else stays -/
structure Dr (d : Addr) (H H' : Hp) : Prop where
  st : ∃ ds : List Int, H d = some (.lst (ds.map V.int))
  en : ∃ ds : List Int, H' d = some (.lst (ds.map V.int))
  kp : ∀ b u, b ≠ d → H b = some u → H' b = some u
theorem Dr.refl (h : ∃ ds : List Int, H d = some (.lst (ds.map V.int))) : Dr d H H := ⟨h, h, fun _ _ _ q => q⟩
theorem Dr.trans (a : Dr d H H1) (b : Dr d H1 H2) : Dr d H H2 := ⟨a.st, b.en, fun c u n q => b.kp c u n (a.kp c u n q)⟩
theorem Dr.ne_new (a : Dr d H H1) (h : H1 p = none) : p ≠ d := fun e => by
  obtain ⟨ds, q⟩ := a.en
  rw [e, q] at h; cases h
theorem Dr.fresh (a : Dr d H H1) (h : H1 p = none) : H p = none := by
  cases q : H p with
  | none => rfl
  | some u =>
    have := a.kp p u (a.ne_new h) q
    rw [h] at this; cases this
/-- an object that was not there at the start is written -/
theorem Dr.own (a : Dr d H H1) (h : H p = none) {o : HO} : Dr d H (upd H1 p o) := by
  have np : d ≠ p := fun e => by
    obtain ⟨ds, q⟩ := a.st
    rw [e, h] at q; cases q
  obtain ⟨ds, q⟩ := a.en
  exact ⟨a.st, ⟨ds, by rw [upd_ne np]; exact q⟩, fun b u n e => by rw [upd_ne (ne_of_none e h)]; exact a.kp b u n e⟩
theorem Dr.new (a : Dr d H H1) (h : H1 p = none) {o : HO} : Dr d H (upd H1 p o) := a.own (a.fresh h)
theorem Dr.put (a : Dr d H H1) (ds : List Int) : Dr d H (upd H1 d (.lst (ds.map V.int))) :=
  ⟨a.st, ⟨ds, upd_same⟩, fun b u n e => by rw [upd_ne n]; exact a.kp b u n e⟩
theorem Dr.same (a : Dr d H H1) (s : Same H1 H2) : Dr d H H2 := by
  obtain ⟨ds, q⟩ := a.en
  exact ⟨a.st, ⟨ds, s _ _ q⟩, fun b u n e => s _ _ (a.kp b u n e)⟩
theorem Dr.sqt (g : Dr d H H') {a : Addr} {xs : List V} (h : SqT K H a xs) : SqT K H' a xs := by
  have nd : ∀ {u : HO}, (∀ ys, u ≠ .lst ys) → H a = some u → a ≠ d := fun hu q e => by
    obtain ⟨ds, z⟩ := g.st
    rw [e, z] at q; cases q
    exact hu _ rfl
  rcases h with (h | ⟨o, h⟩) | h
  · exact .inl (.inl (g.kp _ _ (nd (fun _ z => by cases z) h) h))
  · exact .inl (.inr ⟨o, g.kp _ _ (nd (fun _ z => by cases z) h) h⟩)
  · exact .inr h
theorem Dr.rp (g : Dr d H H') {v : V} {t : TD} (h : Rp K H v t) : Rp K H' v t := Rp.mono (fun _ _ => g.sqt) t v h
theorem Dr.rpa (g : Dr d H H') {v : List V} {t : List TD} (h : RpA K H v t) : RpA K H' v t := RpA.mono (fun _ _ => g.sqt) t v h
theorem same_sqt (g : Same H H') {a : Addr} {xs : List V} (h : SqT K H a xs) : SqT K H' a xs := by
  rcases h with (h | ⟨o, h⟩) | h
  · exact .inl (.inl (g _ _ h))
  · exact .inl (.inr ⟨o, g _ _ h⟩)
  · exact .inr h
theorem same_rp (g : Same H H') {v : V} {t : TD} (h : Rp K H v t) : Rp K H' v t := Rp.mono (fun _ _ => same_sqt g) t v h
theorem same_rpa (g : Same H H') {v : List V} {t : List TD} (h : RpA K H v t) : RpA K H' v t := RpA.mono (fun _ _ => same_sqt g) t v h
theorem same_new {o : HO} (h : H p = none) : Same H (upd H p o) := fun b u q => by rw [upd_ne (ne_of_none q h)]; exact q
/-- an object that was not there at the start is written -/
theorem same_own {o : HO} (g : Same H H1) (h : H p = none) : Same H (upd H1 p o) := fun b u q => by rw [upd_ne (ne_of_none q h)]; exact g b u q
/-- the script, whatever is drawn -/
def Sc (K : PySem.W.Frag) (H : Hp) (d a : Addr) (ns : List Int) : Prop := ∀ H', Dr d H H' → SqL K H' a (ns.map V.int)
theorem Sc.dr {a : Addr} {ns : List Int} (s : Sc K H d a ns) (g : Dr d H H') : Sc K H' d a ns := fun H2 g2 => s H2 (g.trans g2)
theorem Sc.now {a : Addr} {ns : List Int} (s : Sc K H d a ns) (h : ∃ ds : List Int, H d = some (.lst (ds.map V.int))) : SqL K H a (ns.map V.int) := s H (.refl h)
end
/-! ## the reading, step by step -/
def rNew (c : List V → HO) (xs : List V) (H : Hp) (Q : VK) : Prop := xs.length ≤ sizeLine ∧ ∀ p, H p = none → Q (.ref p) (upd H p (c xs))
def rInt : List V → Hp → VK → Prop := fun xs H Q => (∃ i, xs = [.int i] ∧ Q (.int i) H) ∨ ∃ k, xs = [.bl k] ∧ Q (.int (if k = true then 1 else 0)) H
def rLen (K : PySem.W.Frag) : List V → Hp → VK → Prop := fun xs H Q => ∃ p ys, xs = [.ref p] ∧ (SqL K H p ys ∨ SqT K H p ys) ∧ Q (.int ys.length) H
def rList (K : PySem.W.Frag) : List V → Hp → VK → Prop := fun xs H Q => ∃ p ys, xs = [.ref p] ∧ (SqL K H p ys ∨ SqT K H p ys) ∧ ∀ l, H l = none → Q (.ref l) (upd H l (.lst ys))
def rTuple (K : PySem.W.Frag) : List V → Hp → VK → Prop := fun xs H Q => ∃ p ys, xs = [.ref p] ∧ ((SqL K H p ys ∧ ∀ l, H l = none → Q (.ref l) (upd H l (.tup ys))) ∨ (SqT K H p ys ∧ Q (.ref p) H))
def rAbs : List V → Hp → VK → Prop := fun xs H Q => ∃ i, xs = [.int i] ∧ Q (.int (if i < 0 then -i else i)) H
def rMax2 : List V → Hp → VK → Prop := fun xs H Q => ∃ i j, xs = [.int i, .int j] ∧ Q (.int (if j > i then j else i)) H
def rMin2 : List V → Hp → VK → Prop := fun xs H Q => ∃ i j, xs = [.int i, .int j] ∧ Q (.int (if j < i then j else i)) H
def tForJ (J : It) (g : TG) (tb : TS) : TS := tFor (fun _ H R => R J H) g tb
def tLcJ (J : It) (g : TG) (tt : TT) (te : TE) (vs : List Nat) : TE := tLc (fun _ H R => R J H) g tt te vs
def rRng1 (R : It → Hp → Prop) (vs : List V) (H : Hp) : Prop := ∃ j : Int, vs = [.int j] ∧ -(2 ^ 62) ≤ j ∧ j < 2 ^ 62 ∧ R (Itr 0 j.toNat) H
def rRng2 (R : It → Hp → Prop) (vs : List V) (H : Hp) : Prop := ∃ i j : Int, vs = [.int i, .int j] ∧ (-(2 ^ 62) ≤ i ∧ i < 2 ^ 62 ∧ -(2 ^ 62) ≤ j ∧ j < 2 ^ 62) ∧ R (Itr i (j - i).toNat) H
def rIl (K : PySem.W.Frag) (R : It → Hp → Prop) (x : V) (H : Hp) : Prop := ∃ a, x = .ref a ∧ (∃ xs, SqL K H a xs) ∧ R (Itl K a) H
def rIsN : R2 := fun x y H Q => y = .non ∧ Q (.bl (decide (x = .non))) H
section
variable {X : Cx}
theorem c_int : CallR X (.type "int") rInt := call_int1
theorem c_len : CallR X (.builtin "len") (rLen X.K) := call_len_seq
theorem c_list : CallR X (.type "list") (rList X.K) := call_list_of
theorem c_tuple : CallR X (.type "tuple") (rTuple X.K) := call_tuple_of
theorem c_abs : CallR X (.builtin "abs") rAbs := call_abs
theorem c_max (hc : X.calm = true) : CallR X (.builtin "max") rMax2 := call_max2 hc
theorem c_min (hc : X.calm = true) : CallR X (.builtin "min") rMin2 := call_min2 hc
theorem o_isN : OpR X (compareOp .Is) rIsN := op_isN
end
section
variable {σ : L2.St} {H : Hp} {Q : VK} {D : Ends}
theorem rd_seq {t u : TS} (q : t { D with nx := u D } σ H) : tSeq t u D σ H := q
theorem rd_asg {te : TE} {g : TG} (q : te σ H fun x H1 => g x σ H1 D.nx) : tAsg te g D σ H := q
theorem rd_name {i : Nat} {v : V} {R : L2.St → Hp → Prop} (q : R (σ.set i (some v)) H) : gName i v σ H R := q
theorem rd_var {i : Nat} {v : V} (e : σ[i]? = some (some v)) (q : Q v H) : tVar i σ H Q := ⟨v, e, q⟩
theorem rd_c {v : V} (q : Q v H) : tC v σ H Q := q
theorem rd_op {r : R2} {ta tb : TE} (q : ta σ H fun x H1 => tb σ H1 fun y H2 => r x y H2 Q) : tOp r ta tb σ H Q := q
theorem rd_un {r : V → Hp → VK → Prop} {ta : TE} (q : ta σ H fun x H1 => r x H1 Q) : tUn r ta σ H Q := q
theorem rd_i0 {g : Int → Int → V} {i j : Int} (q : Q (g i j) H) : rI0 g (.int i) (.int j) H Q := ⟨i, j, rfl, rfl, q⟩
theorem rd_i {C : Int → Int → Prop} {g : Int → Int → V} {i j : Int} (c : C i j) (q : Q (g i j) H) : rI C g (.int i) (.int j) H Q := ⟨i, j, rfl, rfl, c, q⟩
theorem rd_u {g : Int → V} {i : Int} (q : Q (g i) H) : rU g (.int i) H Q := ⟨i, rfl, q⟩
theorem rd_eq {x y : V} (c : scal x y = true) (q : Q (.bl (decide (x = y))) H) : rEq x y H Q := ⟨c, q⟩
theorem rd_ne {x y : V} (c : scal x y = true) (q : Q (.bl (!decide (x = y))) H) : rNe x y H Q := ⟨c, q⟩
theorem rd_test {t : TE} {R : Bool → Hp → Prop} (q : t σ H fun x H' => ∃ k, x = .bl k ∧ R k H') : tTest t σ H R := q
theorem rd_tb {t : TE} {R : Bool → Hp → Prop} (q : t σ H fun x H' => ∃ k, x = .bl k ∧ R k H') : tB t σ H R := q
theorem rd_bl {b : Bool} {R : Bool → Prop} (q : R b) : ∃ k, V.bl b = .bl k ∧ R k := ⟨b, rfl, q⟩
theorem rd_if {c : TT} {t u : TS} (q : c σ H fun b H1 => if b = true then t D σ H1 else u D σ H1) : tIfS c t u D σ H := q
theorem rd_ret {te : TE} (q : te σ H D.rt) : tRet te D σ H := q
theorem rd_next (q : D.nx σ H) : tNext D σ H := q
theorem rd_drop {te : TE} (q : te σ H fun _ H1 => D.nx σ H1) : tDrop te D σ H := q
theorem rd_nil {R : List V → Hp → Prop} (q : R [] H) : tNil σ H R := q
theorem rd_cons {ta : TE} {tr : TA} {R : List V → Hp → Prop} (q : ta σ H fun x H1 => tr σ H1 fun xs H2 => R (x :: xs) H2) : tCons ta tr σ H R := q
theorem rd_cb {r : List V → Hp → VK → Prop} {t : TA} (q : t σ H fun vs H1 => r vs H1 Q) : tCB r t σ H Q := q
theorem rd_call {sp : Sp} {dvs : List V} {E : XK} {t : TA} (q : t σ H fun vs H1 => sp (vs ++ dvs) H1 Q E) : tCall sp dvs E t σ H Q := q
theorem rd_tup {t : TA} (q : t σ H fun xs H1 => rNew .tup xs H1 Q) : tTup t σ H Q := q
theorem rd_lst {t : TA} (q : t σ H fun xs H1 => rNew .lst xs H1 Q) : tLst t σ H Q := q
theorem rd_new {c : List V → HO} {xs : List V} (z : xs.length ≤ sizeLine) (q : ∀ p, H p = none → Q (.ref p) (upd H p (c xs))) : rNew c xs H Q := ⟨z, q⟩
theorem rd_andV {ta tb : TE} (q : ta σ H fun x H1 => ∃ c, x = .bl c ∧ if c = true then tb σ H1 Q else Q (.bl false) H1) : tAndV ta tb σ H Q := q
theorem rd_orV {ta tb : TE} (q : ta σ H fun x H1 => ∃ c, x = .bl c ∧ if c = true then Q (.bl true) H1 else tb σ H1 Q) : tOrV ta tb σ H Q := q
theorem rd_and {t u : TT} {R : Bool → Hp → Prop} (q : t σ H fun c H1 => if c = true then u σ H1 R else R false H1) : tAnd t u σ H R := q
theorem rd_or {t u : TT} {R : Bool → Hp → Prop} (q : t σ H fun c H1 => if c = true then R true H1 else u σ H1 R) : tOr t u σ H R := q
theorem rd_not {t : TT} {R : Bool → Hp → Prop} (q : t σ H fun c H1 => R (!c) H1) : tNot t σ H R := q
theorem rd_ifE {t : TT} {ta tb : TE} (q : t σ H fun c H1 => if c = true then ta σ H1 Q else tb σ H1 Q) : tIf t ta tb σ H Q := q
theorem rd_ixT {K : PySem.W.Frag} {p : Addr} {xs : List V} {i : Int} {v : V} (s : SqT K H p xs) (a : atI xs i = some v) (q : Q v H) : rIxT K (.ref p) (.int i) H Q := ⟨p, xs, i, v, rfl, rfl, s, a, q⟩
theorem rd_ixL {K : PySem.W.Frag} {p : Addr} {xs : List V} {i : Int} {v : V} (s : SqL K H p xs) (a : atI xs i = some v) (q : Q v H) : rIxL K (.ref p) (.int i) H Q := ⟨p, xs, i, v, rfl, rfl, s, a, q⟩
theorem rd_bm0 {K : PySem.W.Frag} {T : String} {r : V → List V → Hp → VK → Prop} {to : TE} (q : to σ H fun x H1 => tyV K T x H1 ∧ r x [] H1 Q) : tBM0 K T r to σ H Q := q
theorem rd_bm {K : PySem.W.Frag} {T : String} {r : V → List V → Hp → VK → Prop} {to : TE} {t : TA} (q : to σ H fun x H1 => tyV K T x H1 ∧ t σ H1 fun xs H2 => r x xs H2 Q) : tBM K T r to t σ H Q := q
theorem rd_match {te : TE} {t : Str → TS} (q : te σ H fun v H1 => ∃ z, v = .str z ∧ t z D σ H1) : tMatch te t D σ H := q
theorem rd_str {z : Str} {R : Str → Prop} (q : R z) : ∃ z', V.str z = .str z' ∧ R z' := ⟨z, rfl, q⟩
theorem rd_caseT {f : Str → Bool} {t : TS} {u : Str → TS} {z : Str} (c : f z = true) (q : t D σ H) : tCase f t u z D σ H := by
  unfold tCase; rw [if_pos c]; exact q
theorem rd_caseF {f : Str → Bool} {t : TS} {u : Str → TS} {z : Str} (c : f z = false) (q : u z D σ H) : tCase f t u z D σ H := by
  unfold tCase; rw [if_neg (by rw [c]; exact Bool.false_ne_true)]; exact q
theorem rd_isN {x : V} (q : Q (.bl (decide (x = .non))) H) : rIsN x .non H Q := ⟨rfl, q⟩
theorem rd_int {i : Int} (q : Q (.int i) H) : rInt [.int i] H Q := .inl ⟨i, rfl, q⟩
theorem rd_intB {k : Bool} (q : Q (.int (if k = true then 1 else 0)) H) : rInt [.bl k] H Q := .inr ⟨k, rfl, q⟩
theorem rd_len {K : PySem.W.Frag} {p : Addr} {ys : List V} (h : SqL K H p ys) (q : Q (.int ys.length) H) : rLen K [.ref p] H Q := ⟨p, ys, rfl, .inl h, q⟩
theorem rd_lenT {K : PySem.W.Frag} {p : Addr} {ys : List V} (h : SqT K H p ys) (q : Q (.int ys.length) H) : rLen K [.ref p] H Q := ⟨p, ys, rfl, .inr h, q⟩
theorem rd_list {K : PySem.W.Frag} {p : Addr} {ys : List V} (h : SqL K H p ys) (q : ∀ l, H l = none → Q (.ref l) (upd H l (.lst ys))) : rList K [.ref p] H Q := ⟨p, ys, rfl, .inl h, q⟩
theorem rd_tuple {K : PySem.W.Frag} {p : Addr} {ys : List V} (h : SqL K H p ys) (q : ∀ l, H l = none → Q (.ref l) (upd H l (.tup ys))) : rTuple K [.ref p] H Q := ⟨p, ys, rfl, .inl ⟨h, q⟩⟩
theorem rd_abs {i : Int} (q : Q (.int (if i < 0 then -i else i)) H) : rAbs [.int i] H Q := ⟨i, rfl, q⟩
theorem rd_max {i j : Int} (q : Q (.int (if j > i then j else i)) H) : rMax2 [.int i, .int j] H Q := ⟨i, j, rfl, q⟩
theorem rd_min {i j : Int} (q : Q (.int (if j < i then j else i)) H) : rMin2 [.int i, .int j] H Q := ⟨i, j, rfl, q⟩
theorem rd_append {l : Addr} {xs : List V} {y : V} (h : H l = some (.lst xs)) (z : xs.length < sizeLine) (q : Q .non (upd H l (.lst (xs ++ [y])))) : rAppend (.ref l) [y] H Q := ⟨l, xs, y, rfl, rfl, h, z, q⟩
theorem rd_pop {l : Addr} {xs : List V} {y : V} (h : H l = some (.lst xs)) (z : xs[xs.length - 1]? = some y) (q : Q y (upd H l (.lst xs.dropLast))) : rPop (.ref l) [] H Q := ⟨l, xs, y, rfl, rfl, h, z, q⟩
theorem rd_ty {K : PySem.W.Frag} {p : Addr} {ys : List V} {R : Prop} (h : SqL K H p ys) (q : R) : tyV K "list" (.ref p) H ∧ R := ⟨.inl ⟨rfl, _, h⟩, q⟩
theorem rd_for {wi : TI} {g : TG} {tb : TS} (q : wi σ H fun J H1 => tForJ J g tb D σ H1) : tFor wi g tb D σ H := q
theorem rd_lc {wi : TI} {g : TG} {tt : TT} {te : TE} {vs : List Nat} (q : wi σ H fun J H1 => tLcJ J g tt te vs σ H1 Q) : tLc wi g tt te vs σ H Q := q
theorem rd_rng1 {ta : TA} {R : It → Hp → Prop} (q : ta σ H fun vs H1 => rRng1 R vs H1) : iRng1 ta σ H R := q
theorem rd_rng2 {ta : TA} {R : It → Hp → Prop} (q : ta σ H fun vs H1 => rRng2 R vs H1) : iRng2 ta σ H R := q
theorem rd_ilist {K : PySem.W.Frag} {ta : TE} {R : It → Hp → Prop} (q : ta σ H fun x H1 => rIl K R x H1) : iList K ta σ H R := q
theorem rd_r1 {j : Int} {R : It → Hp → Prop} (h : -1000000 ≤ j ∧ j < 1000000) (q : R (Itr 0 j.toNat) H) : rRng1 R [.int j] H := ⟨_, rfl, by omega, by omega, q⟩
theorem rd_r2 {i j : Int} {R : It → Hp → Prop} (h : -1000000 ≤ i ∧ i < 1000000) (h' : -1000000 ≤ j ∧ j < 1000000) (q : R (Itr i (j - i).toNat) H) : rRng2 R [.int i, .int j] H := ⟨_, _, rfl, ⟨by omega, by omega, by omega, by omega⟩, q⟩
theorem rd_il {K : PySem.W.Frag} {a : Addr} {xs : List V} {R : It → Hp → Prop} (h : SqL K H a xs) (q : R (Itl K a) H) : rIl K R (.ref a) H := ⟨a, rfl, ⟨xs, h⟩, q⟩
theorem len_ok {n : Nat} (h : n.ble sizeLine = true) : n ≤ sizeLine := Nat.le_of_ble_eq_true h
theorem iteB {b : Bool} {A B : Prop} (h1 : b = true → A) (h2 : b = false → B) : if b = true then A else B := by
  cases b with
  | true => rw [if_pos rfl]; exact h1 rfl
  | false => rw [if_neg Bool.false_ne_true]; exact h2 rfl
theorem iteD {p : Prop} [Decidable p] {A B : Prop} (h1 : p → A) (h2 : ¬ p → B) : if decide p = true then A else B := by
  by_cases h : p
  · rw [decide_eq_true h, if_pos rfl]; exact h1 h
  · rw [decide_eq_false h, if_neg Bool.false_ne_true]; exact h2 h
theorem iteDT {p : Prop} [Decidable p] {A B : Prop} (h : p) (q : A) : if decide p = true then A else B := by rw [decide_eq_true h, if_pos rfl]; exact q
theorem iteDF {p : Prop} [Decidable p] {A B : Prop} (h : ¬ p) (q : B) : if decide p = true then A else B := by rw [decide_eq_false h, if_neg Bool.false_ne_true]; exact q
end
end A1
namespace A1
open PySem L2 PySem.Spec PyProof.Rows
section
variable {σ : L2.St} {H : Hp} {Q : VK} {D : Ends}
theorem rd_yes {R : Bool → Hp → Prop} (q : R true H) : tYes σ H R := q
theorem at_ints {ns : List Int} {z : Int} (h0 : 0 ≤ z) (h1 : z < ns.length) : atI (ns.map V.int) z = some (.int (ns.getD z.toNat 0)) := by
  obtain ⟨k, rfl⟩ : ∃ k : Nat, z = (k : Int) := ⟨z.toNat, by omega⟩
  have hz : k < ns.length := by omega
  refine atI_nat ?_
  rw [List.getElem?_map, List.getElem?_eq_getElem hz]
  simp [List.getD_eq_getElem?_getD, hz]
theorem map_get {ns : List Int} {i : Nat} {x : V} (h : (ns.map V.int)[i]? = some x) : ∃ z, x = .int z ∧ ns[i]? = some z := by
  rw [List.getElem?_map] at h
  cases e : ns[i]? with
  | none => rw [e] at h; cases h
  | some z => rw [e] at h; exact ⟨z, (Option.some.inj h).symm, rfl⟩
theorem take_snoc {α : Type} {ns : List α} {i : Nat} {z : α} (h : ns[i]? = some z) : ns.take (i + 1) = ns.take i ++ [z] := by
  rw [List.take_add_one, h]; rfl
end
end A1
namespace A1
open PySem L2 PySem.Spec PyProof.Rows
/-- a list of draws stands at d -/
def DrAt (d : Addr) (H : Hp) : Prop := ∃ ds : List Int, H d = some (.lst (ds.map V.int))
theorem Dr.isD {d : Addr} {H H' : Hp} (g : Dr d H H') : DrAt d H' := g.en
/-! ## houses -/
inductive Hs where
  | counts | yes | least | sums | families | formulas
  | capped (n : Int) | modulo (n : Int) | chain (n : Int) | divisors (n : Int) | prices (n : Int)
  | table (o : Int) (p t : List (List Int))
  | pair (h k : Hs)
  deriving DecidableEq
def rowsT (p : List (List Int)) : TD := .tup (p.map fun r => .tup (r.map .int))
def Hs.td : Hs → TD
  | .counts => .tup [.str "counts"]
  | .yes => .tup [.str "yes"]
  | .least => .tup [.str "least"]
  | .sums => .tup [.str "sums"]
  | .families => .tup [.str "families"]
  | .formulas => .tup [.str "formulas"]
  | .capped n => .tup [.str "capped", .int n]
  | .modulo n => .tup [.str "modulo", .int n]
  | .chain n => .tup [.str "chain", .int n]
  | .divisors n => .tup [.str "divisors", .int n]
  | .prices n => .tup [.str "prices", .int n]
  | .table o p t => .tup [.str "table", .int o, rowsT p, rowsT t]
  | .pair h k => .tup [.str "pair", h.td, k.td]
def Hs.name : Hs → Str
  | .counts => "counts"
  | .yes => "yes"
  | .least => "least"
  | .sums => "sums"
  | .families => "families"
  | .formulas => "formulas"
  | .capped _ => "capped"
  | .modulo _ => "modulo"
  | .chain _ => "chain"
  | .divisors _ => "divisors"
  | .prices _ => "prices"
  | .table _ _ _ => "table"
  | .pair _ _ => "pair"
def Hs.rest : Hs → List TD
  | .capped n | .modulo n | .chain n | .divisors n | .prices n => [.int n]
  | .table o p t => [.int o, rowsT p, rowsT t]
  | .pair h k => [h.td, k.td]
  | _ => []
theorem Hs.td_eq (h : Hs) : h.td = .tup (.str h.name :: h.rest) := by cases h <;> rfl
/-- the small houses that tables are made of -/
def smalls : List Hs := [.modulo 1, .modulo 2, .modulo 3, .modulo 4, .modulo 5, .capped 1, .capped 2, .capped 3, .capped 4, .capped 5, .chain 1, .chain 2, .chain 3, .chain 4, .chain 5,
  .divisors 6, .divisors 4, .divisors 8, .divisors 5, .divisors 12, .yes]
def Hs.wsI : Hs → List Int
  | .modulo n => (List.range n.toNat).map Int.ofNat
  | .capped n | .chain n => (List.range (n + 1).toNat).map Int.ofNat
  | .yes => [0, 1]
  | .divisors n => ((List.range (n + 1).toNat).map Int.ofNat).filter fun k => decide (1 ≤ k) && decide (n % k = 0)
  | _ => []
def Hs.oneI : Hs → Int
  | .modulo n => 1 % n
  | .chain n | .divisors n => n
  | _ => 1
def Hs.plusI : Hs → Int → Int → Int
  | .modulo n, a, b => (a + b) % n
  | .capped n, a, b => if a + b < n then a + b else n
  | .divisors _, a, b => a * b / (Int.gcd a b : Int)
  | _, a, b => if b > a then b else a
def Hs.timesI : Hs → Int → Int → Int
  | .modulo n, a, b => (a * b) % n
  | .capped n, a, b => if a * b < n then a * b else n
  | .divisors _, a, b => (Int.gcd a b : Int)
  | _, a, b => if b < a then b else a
def idxI (ns : List Int) (v : Int) : Int := ((ns.idxOf v : Nat) : Int)
/-- the tables that are drawn: a small house with its worths named anew, zero first -/
def TOk (o : Int) (p t : List (List Int)) : Prop := ∃ (h : Hs) (ns : List Int), h ∈ smalls ∧ ns.Perm h.wsI ∧ ns.head? = h.wsI.head? ∧ o = idxI ns h.oneI ∧
  p = (ns.map fun a => ns.map fun b => idxI ns (h.plusI a b)) ∧ t = (ns.map fun a => ns.map fun b => idxI ns (h.timesI a b))
def Hs.ok : Hs → Prop
  | .capped n | .modulo n | .chain n | .divisors n => 1 ≤ n
  | .prices n => 1 ≤ n ∧ n ≤ 40
  | .table o p t => TOk o p t
  | .pair h k => h.ok ∧ k.ok
  | _ => True
def Hs.depth : Hs → Nat
  | .pair h k => max h.depth k.depth + 1
  | _ => 1
def Hs.smallB : Hs → Bool
  | .capped n | .modulo n | .chain n | .divisors n => decide (1 ≤ n)
  | .yes => true
  | _ => false
theorem small_b : ∀ h ∈ smalls, h.smallB = true := by decide
theorem small_ok {h : Hs} (hh : h ∈ smalls) : h.ok ∧ h.depth = 1 := by
  have q := small_b h hh
  cases h <;> first | exact ⟨trivial, rfl⟩ | exact ⟨of_decide_eq_true (p := 1 ≤ _) q, rfl⟩ | exact Bool.noConfusion q
/-- the parts of a house's tuple -/
theorem Rp.house {K : PySem.W.Frag} {H : Hp} {v : V} {h : Hs} (r : Rp K H v h.td) : ∃ a xs, v = .ref a ∧ SqT K H a (.str h.name :: xs) ∧ RpA K H xs h.rest := by
  rw [h.td_eq] at r
  cases r with
  | tup s ra =>
    cases ra with
    | cons r1 r2 =>
      cases r1
      exact ⟨_, _, rfl, s, r2⟩
end A1
namespace A1
open PySem L2 PySem.Spec PyProof.Rows
theorem sm_rng : ∀ h ∈ smalls, ∀ a ∈ h.wsI, 0 ≤ a ∧ a ≤ 12 := by decide +kernel
theorem sm_div : ∀ n ∈ [(6 : Int), 4, 8, 5, 12], ∀ a ∈ (Hs.divisors n).wsI, 1 ≤ a := by decide +kernel
theorem sm_plus : ∀ h ∈ smalls, ∀ a ∈ h.wsI, ∀ b ∈ h.wsI, h.plusI a b ∈ h.wsI := by decide +kernel
theorem sm_times : ∀ h ∈ smalls, ∀ a ∈ h.wsI, ∀ b ∈ h.wsI, h.timesI a b ∈ h.wsI := by decide +kernel
theorem sm_one : ∀ h ∈ smalls, h.oneI ∈ h.wsI := by decide +kernel
theorem sm_len : ∀ h ∈ smalls, 1 ≤ h.wsI.length ∧ h.wsI.length ≤ 6 := by decide +kernel
theorem sm_num : ∀ h ∈ smalls, (match h with | .capped n | .modulo n | .chain n | .divisors n => decide (1 ≤ n ∧ n ≤ 12) | .yes => true | _ => false) = true := by decide +kernel
theorem sm_dv : ∀ h ∈ smalls, (match h with | .divisors n => decide (n ∈ [(6 : Int), 4, 8, 5, 12]) | _ => true) = true := by decide +kernel
theorem sm_divs {n : Int} (h : Hs.divisors n ∈ smalls) : n ∈ [(6 : Int), 4, 8, 5, 12] := of_decide_eq_true (sm_dv _ h)
/-- what a drawn small house is -/
theorem small_is {h : Hs} (hh : h ∈ smalls) : (∃ n, h = .capped n ∧ 1 ≤ n ∧ n ≤ 12) ∨ (∃ n, h = .modulo n ∧ 1 ≤ n ∧ n ≤ 12) ∨ (∃ n, h = .chain n ∧ 1 ≤ n ∧ n ≤ 12) ∨ (∃ n, h = .divisors n ∧ 1 ≤ n ∧ n ≤ 12) ∨ h = .yes := by
  have q := sm_num h hh
  cases h with
  | capped n => exact .inl ⟨n, rfl, of_decide_eq_true q⟩
  | modulo n => exact .inr (.inl ⟨n, rfl, of_decide_eq_true q⟩)
  | chain n => exact .inr (.inr (.inl ⟨n, rfl, of_decide_eq_true q⟩))
  | divisors n => exact .inr (.inr (.inr (.inl ⟨n, rfl, of_decide_eq_true q⟩)))
  | yes => exact .inr (.inr (.inr (.inr rfl)))
  | counts => exact Bool.noConfusion q
  | least => exact Bool.noConfusion q
  | sums => exact Bool.noConfusion q
  | families => exact Bool.noConfusion q
  | formulas => exact Bool.noConfusion q
  | prices n => exact Bool.noConfusion q
  | table o p t => exact Bool.noConfusion q
  | pair h k => exact Bool.noConfusion q
section
variable {K : PySem.W.Frag} {H : Hp} {v : V}
theorem Rp.one {z : Str} {n : Int} (r : Rp K H v (.tup [.str z, .int n])) : ∃ a, v = .ref a ∧ SqT K H a [.str z, .int n] := by
  cases r with
  | tup s ra =>
    cases ra with
    | cons r1 r2 =>
      cases r2 with
      | cons r3 r4 =>
        cases r1; cases r3; cases r4
        exact ⟨_, rfl, s⟩
theorem Rp.nul {z : Str} (r : Rp K H v (.tup [.str z])) : ∃ a, v = .ref a ∧ SqT K H a [.str z] := by
  cases r with
  | tup s ra =>
    cases ra with
    | cons r1 r2 =>
      cases r1; cases r2
      exact ⟨_, rfl, s⟩
theorem Rp.two {z : Str} {x y : TD} (r : Rp K H v (.tup [.str z, x, y])) : ∃ a u w, v = .ref a ∧ SqT K H a [.str z, u, w] ∧ Rp K H u x ∧ Rp K H w y := by
  cases r with
  | tup s ra =>
    cases ra with
    | cons r1 r2 =>
      cases r2 with
      | cons r3 r4 =>
        cases r4 with
        | cons r5 r6 =>
          cases r1; cases r6
          exact ⟨_, _, _, rfl, s, r3, r5⟩
theorem Rp.three {z : Str} {o : Int} {x y : TD} (r : Rp K H v (.tup [.str z, .int o, x, y])) : ∃ a u w, v = .ref a ∧ SqT K H a [.str z, .int o, u, w] ∧ Rp K H u x ∧ Rp K H w y := by
  cases r with
  | tup s ra =>
    cases ra with
    | cons r1 r2 =>
      cases r2 with
      | cons r0 r2 =>
        cases r2 with
        | cons r3 r4 =>
          cases r4 with
          | cons r5 r6 =>
            cases r1; cases r0; cases r6
            exact ⟨_, _, _, rfl, s, r3, r5⟩
theorem rp_one {z : Str} {n : Int} {a : Addr} (s : SqT K H a [.str z, .int n]) : Rp K H (.ref a) (.tup [.str z, .int n]) := .tup s (.cons (.str z) (.cons (.int n) .nil))
theorem rp_nul {z : Str} {a : Addr} (s : SqT K H a [.str z]) : Rp K H (.ref a) (.tup [.str z]) := .tup s (.cons (.str z) .nil)
theorem rp_two {z : Str} {a : Addr} {u w : V} {x y : TD} (s : SqT K H a [.str z, u, w]) (r : Rp K H u x) (r' : Rp K H w y) : Rp K H (.ref a) (.tup [.str z, x, y]) := .tup s (.cons (.str z) (.cons r (.cons r' .nil)))
theorem rp_three {z : Str} {o : Int} {a : Addr} {u w : V} {x y : TD} (s : SqT K H a [.str z, .int o, u, w]) (r : Rp K H u x) (r' : Rp K H w y) : Rp K H (.ref a) (.tup [.str z, .int o, x, y]) := .tup s (.cons (.str z) (.cons (.int o) (.cons r (.cons r' .nil))))
end
end A1
namespace A1
open PySem L2 PySem.Spec PyProof.Rows
/-! the same rules, with the written part named (within a comprehension) -/
section
variable {X : Cx} (K : PySem.W.Frag) (h : X.K = K)
include h
theorem k_ixT : IxR X (rIxT K) := by subst h; exact ix_tup
theorem k_ixL : IxR X (rIxL K) := by subst h; exact ix_list
theorem k_len : CallR X (.builtin "len") (rLen K) := by subst h; exact c_len
theorem k_list : CallR X (.type "list") (rList K) := by subst h; exact c_list
theorem k_tuple : CallR X (.type "tuple") (rTuple K) := by subst h; exact c_tuple
theorem k_in : OpR X (compareOp .In) (rIn K false) := by subst h; exact op_in_seq
theorem k_notIn : OpR X (compareOp .NotIn) (rIn K true) := by subst h; exact op_notIn_seq
theorem k_index : MtR X "list.index" (rIndex K) := by subst h; exact mt_index
theorem k_isi : CallR X (.builtin "isinstance") (rIsi K) := by subst h; exact call_isi
theorem k_isiT : CallR X (.builtin "isinstance") (rIsiT K) := by subst h; exact call_isiT
theorem k_slL : SlR X (rSlL K) := by subst h; exact sl_list
theorem k_pil {tg l : Expr} {tl : TE} (hl : PE X l tl) : PI X tg l (iList K tl) := by subst h; exact pi_list hl
end
section
variable {X : Cx} (K : PySem.W.Frag) (h : X.K = K)
include h
theorem k_bm0 {e : Expr} {T : String} {r : V → List V → Hp → VK → Prop} {to : TE} (p : PE X e (tBM0 X.K T r to)) : PE X e (tBM0 K T r to) := by subst h; exact p
theorem k_bm {e : Expr} {T : String} {r : V → List V → Hp → VK → Prop} {to : TE} {t : TA} (p : PE X e (tBM X.K T r to t)) : PE X e (tBM K T r to t) := by subst h; exact p
end
end A1
namespace A1
open PySem L2 PySem.Spec PyProof.Rows
/-- data of a depth below n, no tuple too long -/
def TD.fit : Nat → TD → Prop
  | 0, _ => False
  | n + 1, .tup ds => ds.length ≤ 20000 ∧ ∀ d ∈ ds, d.fit n
  | _ + 1, _ => True
theorem TD.fit_mono {n m : Nat} (h : n ≤ m) : ∀ {t : TD}, t.fit n → t.fit m := by
  induction n generalizing m with
  | zero => intro t q; exact q.elim
  | succ n ih =>
    intro t q
    obtain ⟨m, rfl⟩ : ∃ k, m = k + 1 := ⟨m - 1, by omega⟩
    cases t with
    | tup ds => exact ⟨q.1, fun d hd => ih (by omega) (q.2 d hd)⟩
    | non => trivial
    | bl b => trivial
    | int i => trivial
    | str x => trivial
section
variable {K : PySem.W.Frag} {H : Hp} {Q : VK}
theorem rd_isi {x c : V} {t u : Value} {b : Bool} (k : ClsV c u) (ty : TyX K H x t) (e : PySem.W.kitOne K t u = some b) (q : Q (.bl b) H) : rIsi K [x, c] H Q := ⟨x, c, t, u, b, rfl, k, ty, e, q⟩
theorem rd_isiT {x : V} {tp : Addr} {cs : List V} {t : Value} {us : List Value} {b : Bool} (hT : H tp = some (.tup cs)) (k : Paired ClsV cs us) (ty : TyX K H x t) (e : PySem.W.kitAny K t us = some b) (q : Q (.bl b) H) : rIsiT K [x, .ref tp] H Q :=
  ⟨x, tp, cs, t, us, b, rfl, hT, k, ty, e, q⟩
theorem iteNF {p : Prop} [Decidable p] {A B : Prop} (h : p) (q : B) : if (!decide p) = true then A else B := by rw [decide_eq_true h]; exact iteF q
theorem iteNT {p : Prop} [Decidable p] {A B : Prop} (h : ¬ p) (q : A) : if (!decide p) = true then A else B := by rw [decide_eq_false h]; exact iteT q
theorem sqt_ty {a : Addr} {xs : List V} (h : SqT K H a xs) : TyX K H (.ref a) (.type "tuple") := by
  rcases h with (h | ⟨o, h⟩) | ⟨o, its, n, e, c, _⟩
  · exact .base (.tup h)
  · exact .fTuple h
  · exact .kTuple e c
theorem kt_tup : PySem.W.kitAny K (.type "tuple") [.type "tuple", .type "list"] = some true := kitAny_cons (b := true) (kit_ty (by decide +kernel)) (fun z => nomatch z) (fun _ => rfl)
theorem kt_no {a : String} (h1 : kitB a "tuple" = some false) (h2 : kitB a "list" = some false) : PySem.W.kitAny K (.type a) [.type "tuple", .type "list"] = some false :=
  kitAny_cons (b := false) (kit_ty h1) (fun _ => kitAny_cons (b := false) (kit_ty h2) (fun _ => kitAny_nil) (fun z => z)) (fun z => z)
theorem rd_notIn {x : V} {p : Addr} {xs : List V} (h : SqL K H p xs) (f : flatV x = true) (fs : xs.all flatV = true) (q : Q (.bl (!inV x xs)) H) : rIn K true x (.ref p) H Q := ⟨p, xs, rfl, .inl h, f, fs, q⟩
theorem rd_in {x : V} {p : Addr} {xs : List V} (h : SqL K H p xs) (f : flatV x = true) (fs : xs.all flatV = true) (q : Q (.bl (inV x xs)) H) : rIn K false x (.ref p) H Q := ⟨p, xs, rfl, .inl h, f, fs, q⟩
theorem trues_flat (n : Nat) : (List.replicate n (V.bl true)).all flatV = true := by
  induction n with
  | zero => rfl
  | succ n ih => rw [List.replicate_succ, List.all_cons, ih]; rfl
theorem trues_no (n : Nat) : inV (.bl false) (List.replicate n (V.bl true)) = false := by
  unfold inV
  induction n with
  | zero => rfl
  | succ n ih => rw [List.replicate_succ, List.any_cons, ih]; rfl
end
end A1
namespace A1
open PySem L2 PySem.Spec PyProof.Rows
def Hs.zeroT : Hs → TD
  | .divisors _ => .int 1
  | .least => .non
  | .prices _ | .sums | .families | .formulas => .tup []
  | .pair h k => .tup [h.zeroT, k.zeroT]
  | _ => .int 0
def Hs.oneT : Hs → TD
  | .modulo n => .int (1 % n)
  | .chain n | .divisors n => .int n
  | .table o _ _ => .int o
  | .least => .int 0
  | .prices n => .tup [.tup (List.replicate n.toNat (.int 0))]
  | .sums | .families => .tup [.int 0]
  | .formulas => .tup [.tup [.tup [], .int 1]]
  | .pair h k => .tup [h.oneT, k.oneT]
  | _ => .int 1
theorem iteVT {b : Bool} {A B : Prop} (h : b = true) (q : A) : if b = true then A else B := by rw [if_pos h]; exact q
theorem iteVF {b : Bool} {A B : Prop} (h : b = false) (q : B) : if b = true then A else B := by rw [h]; exact iteF q
theorem depth_pos (h : Hs) : 1 ≤ h.depth := by cases h <;> simp [Hs.depth]
theorem zero_fit : ∀ (h : Hs) (n : Nat), h.ok → h.depth ≤ n → h.zeroT.fit (n + 3)
  | .pair h k, n + 1, ho, hd => by
    have hd' : max h.depth k.depth ≤ n := Nat.le_of_succ_le_succ hd
    refine ⟨by simp, fun d hm => ?_⟩
    simp only [List.mem_cons, List.not_mem_nil, or_false] at hm
    rcases hm with rfl | rfl
    · exact zero_fit h n ho.1 (by omega)
    · exact zero_fit k n ho.2 (by omega)
  | .pair h k, 0, _, hd => absurd hd (by simp [Hs.depth])
  | .counts, _, _, _ => trivial
  | .yes, _, _, _ => trivial
  | .least, _, _, _ => trivial
  | .capped _, _, _, _ => trivial
  | .modulo _, _, _, _ => trivial
  | .chain _, _, _, _ => trivial
  | .divisors _, _, _, _ => trivial
  | .table _ _ _, _, _, _ => trivial
  | .prices _, _, _, _ => ⟨by simp, fun _ h => nomatch h⟩
  | .sums, _, _, _ => ⟨by simp, fun _ h => nomatch h⟩
  | .families, _, _, _ => ⟨by simp, fun _ h => nomatch h⟩
  | .formulas, _, _, _ => ⟨by simp, fun _ h => nomatch h⟩
theorem one_fit : ∀ (h : Hs) (n : Nat), h.ok → h.depth ≤ n → h.oneT.fit (n + 4)
  | .pair h k, n + 1, ho, hd => by
    have hd' : max h.depth k.depth ≤ n := Nat.le_of_succ_le_succ hd
    refine ⟨by simp, fun d hm => ?_⟩
    simp only [List.mem_cons, List.not_mem_nil, or_false] at hm
    rcases hm with rfl | rfl
    · exact one_fit h n ho.1 (by omega)
    · exact one_fit k n ho.2 (by omega)
  | .pair h k, 0, _, hd => absurd hd (by simp [Hs.depth])
  | .counts, _, _, _ => trivial
  | .yes, _, _, _ => trivial
  | .least, _, _, _ => trivial
  | .capped _, _, _, _ => trivial
  | .modulo _, _, _, _ => trivial
  | .chain _, _, _, _ => trivial
  | .divisors _, _, _, _ => trivial
  | .table _ _ _, _, _, _ => trivial
  | .prices m, _, ho, _ => by
    have h1 : 1 ≤ m := ho.1
    have h2 : m ≤ 40 := ho.2
    refine ⟨by simp, fun d hm => ?_⟩
    simp only [List.mem_cons, List.not_mem_nil, or_false] at hm
    subst hm
    refine ⟨by rw [List.length_replicate]; omega, fun d hm => ?_⟩
    rw [List.eq_of_mem_replicate hm]
    trivial
  | .sums, _, _, _ => ⟨by simp, fun d hm => by simp only [List.mem_cons, List.not_mem_nil, or_false] at hm; subst hm; trivial⟩
  | .families, _, _, _ => ⟨by simp, fun d hm => by simp only [List.mem_cons, List.not_mem_nil, or_false] at hm; subst hm; trivial⟩
  | .formulas, _, _, _ => ⟨by simp, fun d hm => by
      simp only [List.mem_cons, List.not_mem_nil, or_false] at hm
      subst hm
      refine ⟨by simp, fun d hm => ?_⟩
      simp only [List.mem_cons, List.not_mem_nil, or_false] at hm
      rcases hm with rfl | rfl
      · exact ⟨by simp, fun _ h => nomatch h⟩
      · trivial⟩
theorem rpa_rep {K : PySem.W.Frag} {H : Hp} (n : Nat) : RpA K H (List.replicate n (V.int 0)) (List.replicate n (TD.int 0)) := by
  induction n with
  | zero => exact .nil
  | succ n ih => rw [List.replicate_succ, List.replicate_succ]; exact .cons (.int 0) ih
theorem flat_single {α : Type} (n : Nat) (x : α) : (List.replicate n [x]).flatten = List.replicate n x := by
  induction n with
  | zero => rfl
  | succ n ih => rw [List.replicate_succ, List.flatten_cons, ih, List.replicate_succ]; rfl
end A1

namespace A1
open PySem L2 PySem.Spec PyProof.Rows
theorem tup_mul_one {a : Addr} {its : Array Value} {n : Nat} {dd : Option Addr} {sl : Array (Option Value)} {k : Tok} :
    Meets (Builtin.«tuple.__mul__» ⟨[.ref a, .int 1 k], []⟩)
      (fun _ R s => s.heap.get? a = some { cls := .type "tuple", dict := dd, data := .seq its n, slots := sl } ∧ R (.ok (.ret (Value.ref a))) s) :=
  .of_wp fun prog w A R s h => by
    obtain ⟨hp, g, d, tk, os⟩ := s
    obtain ⟨ha, h⟩ := h
    have f1 := AutoSeq1.idx_int
    wp_walk using wpAny_loadPart' ha
    exact ⟨_, rfl, h⟩
/-- a tuple taken once is itself -/
def rOnce (K : PySem.W.Frag) : R2 := fun x y H Q => ∃ a xs, x = .ref a ∧ y = .int 1 ∧ SqT K H a xs ∧ Q (.ref a) H
section
variable {X : Cx}
theorem op_once : OpR X (binaryOp .Mult) (rOnce X.K) := by
  rintro pins s σ H _ _ v u Q I rx ry ⟨a, xs, rfl, rfl, hT, q⟩
  cases rx
  obtain ⟨tk, rfl⟩ := ry
  obtain ⟨its, _, ⟨⟨oc, od, ot, osl⟩, hg, e1, m, e2⟩, _⟩ := I.tuple hT
  dsimp only at e1 e2
  subst e1 e2
  have mulI := @call_meets
  refine wpAny_binaryOp_repeat_ref (T := "tuple") (U := "int") (by decide) ⟨_, hg, rfl⟩
    (fun s' => typeIs_int s' 1 tk) noFill_tuple_mul F.fills_int_mul F.slot_int_rmul repeat_tuple F.slot_int_index.lookup ?_
  refine call_meets F.slot_int_rmul (typeIs_int s 1 tk) F.entry_int_rmul (F.args_int_rmul_2 _ _)
    (int_rmul_tuple 1 tk a its.toArray m od osl) ⟨hg, rfl, ⟨_, hg, rfl⟩, ?_⟩
  exact call_meets F.slot_tuple_mul ⟨_, hg, rfl⟩ F.entry_tuple_mul (F.args_tuple_mul_2 _ _)
    (tup_mul_one (a := a) (k := tk)) ⟨hg, .ref a, H, I, rfl, q⟩
def rRepAny (K : PySem.W.Frag) : R2 := fun x y H Q => rRepT K x y H Q ∨ rOnce K x y H Q
theorem k_rep (K : PySem.W.Frag) (h : X.K = K) : OpR X (binaryOp .Mult) (rRepAny K) := by subst h; exact op_repT.or op_once
end
end A1

namespace A1
open PySem L2 PySem.Spec PyProof.Rows
section
variable {K : PySem.W.Frag} {σ : L2.St} {H : Hp} {Q : VK} {D : Ends}
theorem rd_mk {c : List V → HO} {xs : List V} (z : xs.length ≤ sizeLine) (q : ∀ (p : Addr) (H' : Hp), H p = none → H' p = some (c xs) → Same H H' → Q (.ref p) H') : rNew c xs H Q :=
  ⟨z, fun p hp => q p _ hp upd_same (same_new hp)⟩
theorem eqV_int (a b : Int) : eqV (.int a) (.int b) = (a == b) := rfl
theorem flat_ints (ns : List Int) : (ns.map V.int).all flatV = true := by
  rw [List.all_map]
  exact List.all_eq_true.mpr fun _ _ => rfl
theorem rd_index {p : Addr} {ns : List Int} {v : Int} (h : SqL K H p (ns.map V.int)) (m : v ∈ ns) (q : Q (.int (idxI ns v)) H) : rIndex K (.ref p) [.int v] H Q := by
  have hj : ns.idxOf v < ns.length := List.idxOf_lt_length_of_mem m
  refine ⟨p, _, .int v, ns.idxOf v, .int v, rfl, rfl, h, rfl, flat_ints ns, ?_, by rw [eqV_int, beq_self_eq_true], fun k z' hk hz => ?_, q⟩
  · rw [List.getElem?_map, List.getElem?_eq_getElem hj, List.getElem_idxOf hj]; rfl
  · rw [List.getElem?_map] at hz
    have hk' : k < ns.length := Nat.lt_trans hk hj
    rw [List.getElem?_eq_getElem hk'] at hz
    cases hz
    rw [eqV_int]
    exact List.not_of_lt_findIdx (p := fun x => x == v) (xs := ns) hk
theorem erase_map {α β : Type} (f : α → β) : ∀ (l : List α) (k : Nat), (l.map f).eraseIdx k = (l.eraseIdx k).map f
  | [], _ => by simp
  | _ :: _, 0 => rfl
  | a :: r, k + 1 => congrArg (f a :: ·) (erase_map f r k)
theorem rd_popAt {l : Addr} {xs : List Int} {i : Int} (h : H l = some (.lst (xs.map V.int))) (h0 : 0 ≤ i) (h1 : i < xs.length) (h2 : xs.length ≤ 1000)
    (q : ∀ y, xs[i.toNat]? = some y → Q (.int y) (upd H l (.lst ((xs.eraseIdx i.toNat).map V.int)))) : rPopAt (.ref l) [.int i] H Q := by
  have hi : i.toNat < xs.length := by omega
  refine ⟨l, _, i, i.toNat, .int xs[i.toNat], rfl, rfl, h, by omega, by omega, ?_, ?_, ?_⟩
  · unfold seqIndex?
    rw [List.length_map]
    rw [if_neg (by omega : ¬ i < 0)]
    simp only [Bool.and_eq_true, decide_eq_true_eq]
    rw [if_pos ⟨h0, h1⟩]
  · rw [List.getElem?_map, List.getElem?_eq_getElem hi]; rfl
  · rw [erase_map]
    exact q _ (List.getElem?_eq_getElem hi)
theorem erase_perm : ∀ {l : List Int} {k : Nat} {y : Int}, l[k]? = some y → (y :: l.eraseIdx k).Perm l
  | [], _, _, h => by simp at h
  | a :: r, 0, y, h => by
    have e : a = y := Option.some.inj h
    subst e
    exact .refl _
  | a :: r, k + 1, y, h => by
    have ih := erase_perm (l := r) (k := k) (y := y) (by simpa using h)
    exact (List.Perm.swap a y _).trans (ih.cons a)
/-- a slice's parts -/
def rPart (R : Option Int → Hp → Prop) (x : V) (H : Hp) : Prop := ∃ i, x = .int i ∧ R (some i) H
theorem rd_sl {r : V → Option Int → Option Int → Hp → VK → Prop} {te : TE} {tl th : TO} (q : te σ H fun x H1 => tl σ H1 fun l H2 => th σ H2 fun u H3 => r x l u H3 Q) : tSl r te tl th σ H Q := q
theorem rd_po0 {R : Option Int → Hp → Prop} (q : R none H) : tNoPart σ H R := q
theorem rd_po1 {t : TE} {R : Option Int → Hp → Prop} (q : t σ H fun x H1 => rPart R x H1) : tPart t σ H R := q
theorem rd_poI {R : Option Int → Hp → Prop} {i : Int} (q : R (some i) H) : rPart R (.int i) H := ⟨i, rfl, q⟩
theorem rd_cut {a : Addr} {xs : List V} {lo hi : Option Int} (h : SqL K H a xs) (q : ∀ p, H p = none → Q (.ref p) (upd H p (.lst (cutV xs lo hi)))) : rSlL K (.ref a) lo hi H Q := ⟨a, xs, rfl, h, q⟩
theorem cut_from {xs : List V} (h : 1 ≤ xs.length) : cutV xs (some 1) none = xs.drop 1 := by
  have e1 : HT.sIx xs.length 0 (some 1) = 1 := by
    have := HT.sIx_nat xs.length 0 1
    rw [show ((1 : Nat) : Int) = 1 from rfl] at this
    rw [this]; omega
  unfold cutV
  rw [e1, HT.sIx_none]
  exact List.take_of_length_le (by rw [List.length_drop]; exact Nat.le_refl _)
theorem cut_to {xs : List V} (h : 1 ≤ xs.length) : cutV xs none (some 1) = xs.take 1 := by
  have e1 : HT.sIx xs.length xs.length (some 1) = 1 := by
    have := HT.sIx_nat xs.length xs.length 1
    rw [show ((1 : Nat) : Int) = 1 from rfl] at this
    rw [this]; omega
  unfold cutV
  rw [e1, HT.sIx_none]
  rfl
theorem atI_mem {xs : List V} {r : Int} (h0 : 0 ≤ r) (h1 : r < xs.length) : ∃ v, atI xs r = some v ∧ v ∈ xs := by
  obtain ⟨k, rfl⟩ : ∃ k : Nat, r = (k : Int) := ⟨r.toNat, by omega⟩
  have hk : k < xs.length := by omega
  exact ⟨xs[k], atI_nat (List.getElem?_eq_getElem hk), List.getElem_mem hk⟩
theorem sm_pick {r : Int} (h0 : 0 ≤ r) (h1 : r < 5) : Hs.modulo (r + 1) ∈ smalls ∧ Hs.capped (r + 1) ∈ smalls ∧ Hs.chain (r + 1) ∈ smalls ∧ ∃ z : Int, atI [V.int 6, V.int 4, V.int 8, V.int 5, V.int 12] r = some (.int z) ∧ Hs.divisors z ∈ smalls := by
  have : r = 0 ∨ r = 1 ∨ r = 2 ∨ r = 3 ∨ r = 4 := by omega
  rcases this with rfl | rfl | rfl | rfl | rfl
  · exact ⟨by decide, by decide, by decide, 6, rfl, by decide⟩
  · exact ⟨by decide, by decide, by decide, 4, rfl, by decide⟩
  · exact ⟨by decide, by decide, by decide, 8, rfl, by decide⟩
  · exact ⟨by decide, by decide, by decide, 5, rfl, by decide⟩
  · exact ⟨by decide, by decide, by decide, 12, rfl, by decide⟩
theorem rpa_ints : ∀ (ns : List Int), RpA K H (ns.map V.int) (ns.map TD.int)
  | [] => .nil
  | n :: r => .cons (.int n) (rpa_ints r)
theorem sqt_put {a b : Addr} {xs ys : List V} {o : HO} (h : H a = some (.lst ys)) (s : SqT K H b xs) : SqT K (upd H a o) b xs := by
  rcases s with (s | ⟨u, s⟩) | s
  · exact .inl (.inl (by rw [upd_ne (ne_of s h (fun z => by cases z))]; exact s))
  · exact .inl (.inr ⟨u, by rw [upd_ne (ne_of s h (fun z => by cases z))]; exact s⟩)
  · exact .inr s
theorem rp_put {a : Addr} {ys : List V} {o : HO} (h : H a = some (.lst ys)) {v : V} {t : TD} (r : Rp K H v t) : Rp K (upd H a o) v t := Rp.mono (fun _ _ => sqt_put h) t v r
theorem rpa_put {a : Addr} {ys : List V} {o : HO} (h : H a = some (.lst ys)) {v : List V} {t : List TD} (r : RpA K H v t) : RpA K (upd H a o) v t := RpA.mono (fun _ _ => sqt_put h) t v r
theorem small_oneT {h : Hs} (hh : h ∈ smalls) : h.oneT = .int h.oneI := by
  rcases small_is hh with ⟨n, rfl, _⟩ | ⟨n, rfl, _⟩ | ⟨n, rfl, _⟩ | ⟨n, rfl, _⟩ | rfl <;> rfl
theorem rd_cat {l b : Addr} {xs zs : List V} (h1 : H l = some (.lst xs)) (h2 : H b = some (.lst zs)) (z : xs.length + zs.length ≤ sizeLine) (q : ∀ (p : Addr) (H' : Hp), H p = none → H' p = some (.lst (xs ++ zs)) → Same H H' → Q (.ref p) H') : rCat (.ref l) (.ref b) H Q :=
  ⟨l, b, xs, zs, rfl, rfl, h1, h2, z, fun p hp => q p _ hp upd_same (same_new hp)⟩
theorem pick6 {r : Int} (h0 : 1 ≤ r) (h1 : r ≤ 6) : ∃ z : Int, atI [V.int 1, V.int 12, V.int 30, V.int 7, V.int 16, V.int 36] (r - 1) = some (.int z) ∧ 1 ≤ z := by
  have : r = 1 ∨ r = 2 ∨ r = 3 ∨ r = 4 ∨ r = 5 ∨ r = 6 := by omega
  rcases this with rfl | rfl | rfl | rfl | rfl | rfl
  · exact ⟨1, rfl, by decide⟩
  · exact ⟨12, rfl, by decide⟩
  · exact ⟨30, rfl, by decide⟩
  · exact ⟨7, rfl, by decide⟩
  · exact ⟨16, rfl, by decide⟩
  · exact ⟨36, rfl, by decide⟩
theorem pick40 (n r : Int) : ∃ z : Int, atI [V.int (1 + n.fmod 7), V.int 40] (if decide (V.int r = V.int 0) = true then 1 else 0) = some (.int z) ∧ 1 ≤ z ∧ z ≤ 40 := by
  rw [Int.fmod_eq_emod_of_nonneg _ (by decide)]
  have h0 := Int.emod_nonneg n (show (7 : Int) ≠ 0 by decide)
  have h1 := Int.emod_lt_of_pos n (show (0 : Int) < 7 by decide)
  by_cases e : V.int r = V.int 0
  · rw [decide_eq_true e, if_pos rfl]
    exact ⟨40, rfl, by decide, by decide⟩
  · rw [decide_eq_false e, if_neg Bool.false_ne_true]
    exact ⟨_, rfl, by omega, by omega⟩
theorem sc_of {d a : Addr} {ns : List Int} {H1 : Hp} (h : SqL K H a (ns.map V.int)) (hd : H d = none) (s : Same H H1) : Sc K H1 d a ns := fun H2 g => by
  rcases h with (h | ⟨o, h⟩) | h
  · exact .inl (.inl (g.kp _ _ (ne_of_none h hd) (s _ _ h)))
  · exact .inl (.inr ⟨o, g.kp _ _ (ne_of_none h hd) (s _ _ h)⟩)
  · exact .inr h
theorem sm_head : ∀ h ∈ smalls, ∃ z, h.wsI.head? = some z := by
  intro h hh
  have := (sm_len h hh).1
  cases e : h.wsI with
  | nil => rw [e] at this; exact absurd this (by decide)
  | cons a r => exact ⟨a, rfl⟩
end
end A1

namespace A1
open PySem L2 PySem.Spec PyProof.Rows
/-! ranges that are kept, unpacked tuples, starred items -/
def rRngV : List V → Hp → VK → Prop := fun vs H Q => ∃ j, vs = [.int j] ∧ ∀ p, H p = none → Q (.ref p) (upd H p (.rng 0 j))
def rRngW (R : It → Hp → Prop) (x : V) (H : Hp) : Prop := ∃ a lo hi, x = .ref a ∧ H a = some (.rng lo hi) ∧ (-(2 ^ 62) ≤ lo ∧ lo < 2 ^ 62 ∧ -(2 ^ 62) ≤ hi ∧ hi < 2 ^ 62) ∧ R (Itr lo (hi - lo).toNat) H
def iRngW (tl : TE) : TI := fun σ H R => tl σ H fun x H1 => rRngW R x H1
section
variable {X : Cx} {tg : Expr}
theorem c_range : CallR X (.type "range") rRngV := by
  rintro pins s σ H vs us Q I r ⟨j, rfl, q⟩
  obtain ⟨u, rfl, r1⟩ := vals1 r
  obtain ⟨t, rfl⟩ := r1
  refine call_range_1 ?_
  refine ⟨.ref s.heap.objs.size, upd H s.heap.objs.size (.rng 0 j), I.laid (t' := s.toks + 1 + 1) (fun b o e => Heap.get?_push_of_some _ e) (Nat.le_refl _) ?_, rfl, q _ (I.hok.fresh (Nat.le_refl _))⟩
  exact ⟨_, _, _, Heap.get?_push_size _ rfl⟩
theorem pi_rng {l : Expr} {tl : TE} (hl : PE X l tl) : PI X tg l (iRngW tl) := by
  refine ⟨fun pins s σ H R I h => ?_⟩
  refine thn (hl.run pins s σ H _ I h) fun v s1 ⟨x, H1, I1, r1, q1⟩ => ?_
  obtain ⟨a, lo, hi, rfl, ha, ⟨h1, h2, h3, h4⟩, q⟩ := q1
  cases r1
  obtain ⟨t, u, w, hg⟩ := (show ObjOk X.prog X.w H1 s1.heap a (.rng lo hi) from I1.hok a _ ha)
  refine wpAny_pyIter_range (t := t) (u := u) (v := w) (show IsRange _ _ _ _ _ _ _ _ from hg) (small_one h1 h2 h3 h4) ?_
  refine ⟨s1.heap.objs.size, [s1.heap.objs.size], _, _, H1, rfl, I1.kept (t' := s1.toks) fun b o e => Heap.get?_push_of_some _ e, turn_range _ lo (hi - lo).toNat, ?_, fun b hb => ?_, q⟩
  · have e1 : lo + ((0 : Nat) : Int) * 1 = lo := by simp
    have e2 : (((hi - lo).toNat : Nat) : Int) - ((0 : Nat) : Int) = Builtin.Range.rangeSize lo hi 1 := by rw [rangeSize_one]; split <;> omega
    show IsRangeIter _ _ (lo + ((0 : Nat) : Int) * 1) _ 1
    rw [e1, e2]
    exact Heap.get?_push_size _ rfl
  · have e : b = s1.heap.objs.size := by simpa using hb
    subst e
    exact I1.fpOk (Nat.le_refl _) (I1.hok.fresh (Nat.le_refl _))
end
section
variable {X : Cx} (K : PySem.W.Frag) (h : X.K = K)
include h
theorem k_pit {tg l : Expr} {tl : TE} (hl : PE X l tl) : PI X tg l (iTup K tl) := by subst h; exact pi_tup hl
theorem k_all (hc : X.calm = true) : CallR X (.builtin "all") (rAll K) := by subst h; exact cr_all hc
theorem k_slT : SlR X (rSlT K) := by subst h; exact sl_tup
theorem k_slA : SlR X (rSlA K) := by subst h; exact sl_tupA
theorem k_star {e : Expr} {es : List Expr} {te : TE} {t : TA} {p : Pos} (he : PE X e te) (hr : PA X es t) (hs : starEach (.Starred e p :: es) X.env = (true, eval e X.env) :: starEach es X.env := by rfl) : PA X (.Starred e p :: es) (StX.tStar K te t) := by
  subst h; exact StX.pa_star he hr hs
end
section
variable {K : PySem.W.Frag} {σ : L2.St} {H : Hp} {Q : VK} {D : Ends}
def rNotN : R2 := fun x y H Q => y = .non ∧ Q (.bl (!decide (x = .non))) H
theorem o_notN {X : Cx} : OpR X (compareOp .IsNot) rNotN := op_notN
theorem rd_notN {x : V} (q : Q (.bl (!decide (x = .non))) H) : rNotN x .non H Q := ⟨rfl, q⟩
theorem rd_chain {r r' : R2} {ta tb tc : TE} (q : ta σ H fun x H1 => tb σ H1 fun y H2 => r x y H2 fun z H3 => ∃ k, z = .bl k ∧ if k = true then (tc σ H3 fun w H4 => r' y w H4 Q) else Q (.bl false) H3) : tChain r r' ta tb tc σ H Q := q
def rStar (K : PySem.W.Frag) (R : List V → Hp → Prop) (t : TA) (σ : L2.St) (x : V) (H : Hp) : Prop := ∃ a xs, x = .ref a ∧ (SqT K H a xs ∨ SqL K H a xs) ∧ t σ H fun vs H2 => R (xs ++ vs) H2
theorem rd_star {te : TE} {t : TA} {R : List V → Hp → Prop} (q : te σ H fun x H1 => rStar K R t σ x H1) : StX.tStar K te t σ H R := q
theorem rd_starT {a : Addr} {xs : List V} {t : TA} {R : List V → Hp → Prop} (h : SqT K H a xs) (q : t σ H fun vs H2 => R (xs ++ vs) H2) : rStar K R t σ (.ref a) H := ⟨a, xs, rfl, .inl h, q⟩
theorem rd_rngv {j : Int} (q : ∀ (p : Addr) (H' : Hp), H p = none → H' p = some (.rng 0 j) → Same H H' → Q (.ref p) H') : rRngV [.int j] H Q := ⟨j, rfl, fun p hp => q p _ hp upd_same (same_new hp)⟩
theorem rd_irng {tl : TE} {R : It → Hp → Prop} (q : tl σ H fun x H1 => rRngW R x H1) : iRngW tl σ H R := q
theorem rd_rw {a : Addr} {j : Int} {R : It → Hp → Prop} (h : H a = some (.rng 0 j)) (hj : 0 ≤ j ∧ j < 1000000) (q : R (Itr 0 j.toNat) H) : rRngW R (.ref a) H :=
  ⟨a, 0, j, rfl, h, ⟨by omega, by omega, by omega, by omega⟩, by rw [Int.sub_zero]; exact q⟩
def rTw (K : PySem.W.Frag) (R : It → Hp → Prop) (x : V) (H : Hp) : Prop := ∃ a, x = .ref a ∧ (∃ xs, SqT K H a xs) ∧ R (Itt K a) H
theorem rd_itup {tl : TE} {R : It → Hp → Prop} (q : tl σ H fun x H1 => rTw K R x H1) : iTup K tl σ H R := q
theorem rd_it {a : Addr} {xs : List V} {R : It → Hp → Prop} (h : SqT K H a xs) (q : R (Itt K a) H) : rTw K R (.ref a) H := ⟨a, rfl, ⟨xs, h⟩, q⟩
theorem rd_gtup {a : Addr} {xs : List V} {n : Nat} {t : TGs} {R : L2.St → Hp → Prop} (h : SqT K H a xs) (e : xs.length = n) (q : t xs σ H R) : gTup K n t (.ref a) σ H R := ⟨a, xs, rfl, h, e, q⟩
theorem rd_gcons {v : V} {r : List V} {t : TG} {u : TGs} {R : L2.St → Hp → Prop} (q : t v σ H fun σ' H' => u r σ' H' R) : gCons t u (v :: r) σ H R := ⟨v, r, rfl, q⟩
theorem rd_gnil {R : L2.St → Hp → Prop} (q : R σ H) : gNil [] σ H R := ⟨rfl, q⟩
theorem rd_all {a : Addr} {bs : List Bool} (h : SqL K H a (bs.map V.bl)) (q : Q (.bl (bs.all id)) H) : rAll K [.ref a] H Q := ⟨a, bs, rfl, h, q⟩
def rSub (o i : TE) (t : TSet) (v : V) (σ : L2.St) (R : L2.St → Hp → Prop) (H : Hp) : Prop := o σ H fun x H1 => i σ H1 fun y H2 => t x y v H2 fun H3 => R σ H3
theorem rd_gsub {o i : TE} {t : TSet} {v : V} {R : L2.St → Hp → Prop} (q : o σ H fun x H1 => i σ H1 fun y H2 => t x y v H2 fun H3 => R σ H3) : gSub o i t v σ H R := q
theorem rd_setL {p : Addr} {xs : List V} {i : Int} {v : V} {R : Hp → Prop} (h : H p = some (.lst xs)) (h0 : 0 ≤ i) (h1 : i < xs.length) (q : R (upd H p (.lst (xs.set i.toNat v)))) : rSetL (.ref p) (.int i) v H R := by
  refine ⟨p, xs, i, i.toNat, rfl, rfl, h, ?_, q⟩
  unfold ixN
  rw [if_pos h0, if_pos h1]
theorem rd_listT {p : Addr} {ys : List V} (h : SqT K H p ys) (q : ∀ l, H l = none → Q (.ref l) (upd H l (.lst ys))) : rList K [.ref p] H Q := ⟨p, ys, rfl, .inr h, q⟩
/-- all but the first item of a table's tuple -/
theorem rd_tab {a : Addr} {z v1 v2 v3 : V} (hs : SqT K H a [z, v1, v2, v3]) (q : ∀ (c : Addr) (H' : Hp), H' c = some (.tup [v1, v2, v3]) → Same H H' → Q (.ref c) H') : rSlT K (.ref a) (some 1) none H Q := by
  refine ⟨a, _, rfl, hs, ?_, fun c hc => ?_⟩
  · show ¬ (HT.sIx 4 0 (some 1) = 0 ∧ HT.sIx 4 4 none = 4)
    decide
  · have e : cutV [z, v1, v2, v3] (some 1) none = [v1, v2, v3] := cut_from (xs := [z, v1, v2, v3]) (by show 1 ≤ 4; decide)
    rw [e]
    exact q c _ upd_same (same_new hc)
end
end A1

namespace A1
open PySem L2 PySem.Spec PyProof.Rows
/-! ## tables and their faults -/
def at2 (p : List (List Int)) (x y : Int) : Int := (p.getD x.toNat []).getD y.toNat 0
/-- the eight equations of a table -/
def eqn (o : Int) (p t : List (List Int)) : Nat → Int → Int → Int → Bool
  | 0, a, b, _ => decide (at2 p a b = at2 p b a)
  | 1, a, b, c => decide (at2 p (at2 p a b) c = at2 p a (at2 p b c))
  | 2, a, _, _ => decide (at2 p 0 a = a)
  | 3, a, b, _ => decide (at2 t a b = at2 t b a)
  | 4, a, b, c => decide (at2 t (at2 t a b) c = at2 t a (at2 t b c))
  | 5, a, _, _ => decide (at2 t o a = a)
  | 6, a, b, c => decide (at2 t a (at2 p b c) = at2 p (at2 t a b) (at2 t a c))
  | _, a, _, _ => decide (at2 t 0 a = 0)
def rowB (s : Nat) (r : List Int) : Bool := decide (r.length = s) && r.all fun z => decide (0 ≤ z ∧ z < (s : Int))
def sqB (p : List (List Int)) (s : Nat) : Bool := decide (p.length = s) && p.all (rowB s)
def formB (o : Int) (p t : List (List Int)) : Bool := decide (1 ≤ p.length ∧ p.length ≤ 6) && sqB p p.length && sqB t p.length && decide (0 ≤ o ∧ o < (p.length : Int))
def nums (n : Nat) : List Int := (List.range n).map Int.ofNat
theorem nums_succ (i : Nat) : nums (i + 1) = nums i ++ [(i : Int)] := by
  unfold nums
  rw [List.range_succ, List.map_append]; rfl
theorem nums_split {i n : Nat} (h : i < n) : ∃ r, nums n = nums i ++ (i : Int) :: r := by
  induction n with
  | zero => omega
  | succ n ih =>
    by_cases e : i = n
    · subst e
      exact ⟨[], by rw [nums_succ]⟩
    · obtain ⟨r, hr⟩ := ih (by omega)
      exact ⟨r ++ [(n : Int)], by rw [nums_succ, hr, List.append_assoc]; rfl⟩
theorem fs_app {α β : Type} (f : α → Option β) : ∀ (l m : List α), (l ++ m).findSome? f = match l.findSome? f with | some x => some x | none => m.findSome? f
  | [], m => rfl
  | a :: r, m => by
    rw [List.cons_append, List.findSome?_cons, List.findSome?_cons]
    cases f a with
    | some x => rfl
    | none => exact fs_app f r m
theorem fs_step {β : Type} {f : Int → Option β} {i : Nat} (h : (nums i).findSome? f = none) (h2 : f i = none) : (nums (i + 1)).findSome? f = none := by
  rw [nums_succ, fs_app, h, List.findSome?_cons, h2]; rfl
theorem fs_hit {β : Type} {f : Int → Option β} {i n : Nat} {x : β} (hi : i < n) (h : (nums i).findSome? f = none) (h2 : f i = some x) : (nums n).findSome? f = some x := by
  obtain ⟨r, hr⟩ := nums_split hi
  rw [hr, fs_app, h, List.findSome?_cons, h2]
abbrev T3 : Type := Int × Int × Int
def hit (P : Int → Int → Int → Bool) (a b c : Int) : Option T3 := if P a b c = true then none else some (a, b, c)
def in3 (n : Nat) (P : Int → Int → Int → Bool) (a b : Int) : Option T3 := (nums n).findSome? fun c => hit P a b c
def in2 (m n : Nat) (P : Int → Int → Int → Bool) (a : Int) : Option T3 := (nums m).findSome? fun b => in3 n P a b
/-- the first triple for which P does not hold -/
def fst3 (l m n : Nat) (P : Int → Int → Int → Bool) : Option T3 := (nums l).findSome? fun a => in2 m n P a
theorem nums_pos {n : Nat} (h : 1 ≤ n) : ∃ r, nums n = 0 :: r := by
  obtain ⟨r, hr⟩ := nums_split (i := 0) (n := n) h
  exact ⟨r, hr⟩
theorem fs_none {β : Type} (l : List Int) : l.findSome? (fun _ => (none : Option β)) = none := by
  induction l with
  | nil => rfl
  | cons a r ih => rw [List.findSome?_cons]; exact ih
theorem in3_one {n : Nat} (h : 1 ≤ n) {P : Int → Int → Int → Bool} (hP : ∀ a b c, P a b c = P a b 0) (a b : Int) : in3 n P a b = in3 1 P a b := by
  obtain ⟨r, hr⟩ := nums_pos h
  unfold in3
  rw [hr, show nums 1 = [0] from rfl, List.findSome?_cons, List.findSome?_cons]
  unfold hit
  by_cases e : P a b 0 = true
  · rw [if_pos e]
    show r.findSome? _ = none
    have : (fun c => if P a b c = true then none else some (a, b, c)) = fun _ => (none : Option T3) := by
      funext c; rw [hP, if_pos e]
    rw [this, fs_none]
  · rw [if_neg e]
theorem in2_one {m n : Nat} (h : 1 ≤ m) {P : Int → Int → Int → Bool} (hP : ∀ a b c, P a b c = P a 0 c) (hP2 : ∀ a b c, P a b c = P a b 0) (hn : 1 ≤ n) (a : Int) : in2 m n P a = in2 1 1 P a := by
  unfold in2
  obtain ⟨r, hr⟩ := nums_pos h
  rw [show (fun b => in3 n P a b) = fun b => in3 1 P a b from funext fun b => in3_one hn hP2 a b]
  rw [hr, show nums 1 = [0] from rfl, List.findSome?_cons, List.findSome?_cons]
  have e0 : in3 1 P a 0 = hit P a 0 0 := by
    unfold in3
    rw [show nums 1 = [0] from rfl, List.findSome?_cons]
    cases hit P a 0 0 <;> rfl
  rw [e0]
  unfold hit
  by_cases e : P a 0 0 = true
  · rw [if_pos e]
    show r.findSome? _ = none
    have : (fun b => in3 1 P a b) = fun _ => (none : Option T3) := by
      funext b
      unfold in3
      rw [show nums 1 = [0] from rfl, List.findSome?_cons]
      unfold hit
      rw [hP, if_pos e]; rfl
    rw [this, fs_none]
  · rw [if_neg e]
/-- how many worths stand in an equation -/
def many : Nat → Nat
  | 0 | 3 => 2
  | 1 | 4 | 6 => 3
  | _ => 1
def fstOf (o : Int) (p t : List (List Int)) (k : Nat) : Option T3 := fst3 p.length p.length p.length (eqn o p t k)
/-- the law asks fewer triples -/
def fstLaw (o : Int) (p t : List (List Int)) (k : Nat) : Option T3 := fst3 p.length (if many k > 1 then p.length else 1) (if many k > 2 then p.length else 1) (eqn o p t k)
theorem fst_same {o : Int} {p t : List (List Int)} (hp : 1 ≤ p.length) (k : Nat) : fstOf o p t k = fstLaw o p t k := by
  unfold fstOf fstLaw fst3
  have one : many k = 1 → (∀ a b c, eqn o p t k a b c = eqn o p t k a 0 c) ∧ ∀ a b c, eqn o p t k a b c = eqn o p t k a b 0 := by
    intro h
    match k, h with
    | 2, _ => exact ⟨fun _ _ _ => rfl, fun _ _ _ => rfl⟩
    | 5, _ => exact ⟨fun _ _ _ => rfl, fun _ _ _ => rfl⟩
    | k + 7, _ => exact ⟨fun _ _ _ => rfl, fun _ _ _ => rfl⟩
    | 0, h => exact absurd h (by decide)
    | 1, h => exact absurd h (by decide)
    | 3, h => exact absurd h (by decide)
    | 4, h => exact absurd h (by decide)
    | 6, h => exact absurd h (by decide)
  have two : many k = 2 → ∀ a b c, eqn o p t k a b c = eqn o p t k a b 0 := by
    intro h
    match k, h with
    | 0, _ => exact fun _ _ _ => rfl
    | 3, _ => exact fun _ _ _ => rfl
    | 1, h => exact absurd h (by decide)
    | 2, h => exact absurd h (by decide)
    | 4, h => exact absurd h (by decide)
    | 5, h => exact absurd h (by decide)
    | 6, h => exact absurd h (by decide)
    | k + 7, h => exact absurd h (by simp [many])
  have cs : many k = 1 ∨ many k = 2 ∨ many k = 3 := by
    match k with
    | 0 => exact .inr (.inl rfl)
    | 1 => exact .inr (.inr rfl)
    | 2 => exact .inl rfl
    | 3 => exact .inr (.inl rfl)
    | 4 => exact .inr (.inr rfl)
    | 5 => exact .inl rfl
    | 6 => exact .inr (.inr rfl)
    | k + 7 => exact .inl rfl
  rcases cs with h | h | h
  · rw [h]
    congr 1
    funext a
    exact in2_one hp (one h).1 (one h).2 hp a
  · rw [h]
    have e1 : (if 2 > 1 then p.length else 1) = p.length := if_pos (by decide)
    have e2 : (if 2 > 2 then p.length else 1) = 1 := if_neg (by decide)
    rw [e1, e2]
    congr 1
    funext a
    unfold in2
    congr 1
    funext b
    exact in3_one hp (two h) a b
  · rw [h]
    congr 1
/-- the names of the equations -/
def nmS : Nat → Str
  | 0 => "plus turns"
  | 1 => "plus joins"
  | 2 => "zero adds"
  | 3 => "times turns"
  | 4 => "times joins"
  | 5 => "one keeps"
  | 6 => "spreads"
  | _ => "zero kills"
def fltT (k : Nat) (x : T3) : TD := .tup [.str (nmS k), .int x.1, .int x.2.1, .int x.2.2]
/-- the fault of a table, as data -/
def faultT (o : Int) (p t : List (List Int)) : TD :=
  if formB o p t = true then (match (List.range 8).findSome? fun k => (fstOf o p t k).map (fltT k) with | none => .non | some d => d) else .tup [.str "form"]
theorem fsr_step {β : Type} {f : Nat → Option β} {i : Nat} (h : (List.range i).findSome? f = none) (h2 : f i = none) : (List.range (i + 1)).findSome? f = none := by
  rw [List.range_succ, fs_app, h, List.findSome?_cons, h2]; rfl
theorem range_split {i n : Nat} (h : i < n) : ∃ r, List.range n = List.range i ++ i :: r := by
  induction n with
  | zero => omega
  | succ n ih =>
    by_cases e : i = n
    · subst e
      exact ⟨[], by rw [List.range_succ]⟩
    · obtain ⟨r, hr⟩ := ih (by omega)
      exact ⟨r ++ [n], by rw [List.range_succ, hr, List.append_assoc]; rfl⟩
theorem fsr_hit {β : Type} {f : Nat → Option β} {i n : Nat} {x : β} (hi : i < n) (h : (List.range i).findSome? f = none) (h2 : f i = some x) : (List.range n).findSome? f = some x := by
  obtain ⟨r, hr⟩ := range_split hi
  rw [hr, fs_app, h, List.findSome?_cons, h2]
/-! ### a table as it stands -/
section
variable {K : PySem.W.Frag} {H H' : Hp} {v : V} {p : List (List Int)} {Q : VK}
theorem rpa_rows : ∀ {p : List (List Int)} {xs : List V}, RpA K H xs (p.map fun r => TD.tup (r.map TD.int)) → ∀ (i : Nat) (r : List Int), p[i]? = some r → ∃ b, xs[i]? = some (.ref b) ∧ SqT K H b (r.map V.int)
  | [], _, _, _, _, h => by simp at h
  | r :: p, _, ra, 0, r', h => by
    cases ra with
    | cons r1 r2 =>
      have e : r = r' := Option.some.inj h
      subst e
      cases r1 with
      | tup s a =>
        refine ⟨_, rfl, ?_⟩
        have : ∀ {ys : List V} {ns : List Int}, RpA K H ys (ns.map TD.int) → ys = ns.map V.int := by
          intro ys ns
          induction ns generalizing ys with
          | nil => intro q; cases q; rfl
          | cons n ns ih => intro q; cases q with | cons q1 q2 => cases q1; rw [ih q2]; rfl
        rw [← this a]; exact s
  | r :: p, _, ra, i + 1, r', h => by
    cases ra with
    | cons r1 r2 =>
      obtain ⟨b, h1, h2⟩ := rpa_rows r2 i r' (by simpa using h)
      exact ⟨b, by simpa using h1, h2⟩
theorem Rp.rows (r : Rp K H v (rowsT p)) : ∃ a xs, v = .ref a ∧ SqT K H a xs ∧ xs.length = p.length ∧ ∀ (i : Nat) (r : List Int), p[i]? = some r → ∃ b, xs[i]? = some (.ref b) ∧ SqT K H b (r.map V.int) := by
  cases r with
  | tup s ra => exact ⟨_, _, rfl, s, by rw [ra.length, List.length_map], rpa_rows ra⟩
/-- an index of the table -/
def InS (s : Nat) (x : Int) : Prop := 0 ≤ x ∧ x < s
structure Tab (K : PySem.W.Frag) (H : Hp) (v : V) (p : List (List Int)) (s : Nat) : Prop where
  rp : Rp K H v (rowsT p)
  sq : sqB p s = true
def RowOf (K : PySem.W.Frag) (H : Hp) (b : Addr) (p : List (List Int)) (s : Nat) (x : Int) : Prop := SqT K H b ((p.getD x.toNat []).map V.int) ∧ (p.getD x.toNat []).length = s
theorem sq_row {s : Nat} (h : sqB p s = true) {x : Int} (hx : InS s x) : p[x.toNat]? = some (p.getD x.toNat []) ∧ (p.getD x.toNat []).length = s ∧ ∀ z ∈ p.getD x.toNat [], InS s z := by
  unfold sqB at h
  rw [Bool.and_eq_true, decide_eq_true_eq, List.all_eq_true] at h
  obtain ⟨x0, x1⟩ := hx
  have hl : x.toNat < p.length := by omega
  have e : p[x.toNat]? = some (p.getD x.toNat []) := by rw [List.getElem?_eq_getElem hl, List.getD_eq_getElem?_getD, List.getElem?_eq_getElem hl]; rfl
  have m := h.2 _ (List.mem_of_getElem? e)
  unfold rowB at m
  rw [Bool.and_eq_true, decide_eq_true_eq, List.all_eq_true] at m
  exact ⟨e, m.1, fun z hz => of_decide_eq_true (p := 0 ≤ z ∧ z < (s : Int)) (m.2 z hz)⟩
theorem Tab.rng {s : Nat} (T : Tab K H v p s) {x y : Int} (hx : InS s x) (hy : InS s y) : InS s (at2 p x y) := by
  obtain ⟨_, l, m⟩ := sq_row T.sq hx
  obtain ⟨y0, y1⟩ := hy
  have hl : y.toNat < (p.getD x.toNat []).length := by omega
  unfold at2
  rw [List.getD_eq_getElem?_getD, List.getElem?_eq_getElem hl]
  exact m _ (List.getElem_mem hl)
theorem rd_row {s : Nat} (T : Tab K H v p s) {x : Int} (hx : InS s x) (q : ∀ b, RowOf K H b p s x → Q (.ref b) H) : rIxT K v (.int x) H Q := by
  obtain ⟨e, l, _⟩ := sq_row T.sq hx
  obtain ⟨a, xs, rfl, hs, hl, hr⟩ := T.rp.rows
  obtain ⟨b, hb, sb⟩ := hr _ _ e
  refine rd_ixT hs ?_ (q b ⟨sb, l⟩)
  obtain ⟨x0, x1⟩ := hx
  have ex : x = ((x.toNat : Nat) : Int) := by omega
  rw [ex]
  exact atI_nat hb
theorem rd_item {s : Nat} {b : Addr} {x y : Int} (R : RowOf K H b p s x) (hy : InS s y) (q : Q (.int (at2 p x y)) H) : rIxT K (.ref b) (.int y) H Q := by
  obtain ⟨sb, l⟩ := R
  obtain ⟨y0, y1⟩ := hy
  exact rd_ixT sb (at_ints y0 (by omega)) q
theorem Tab.mono {s : Nat} (T : Tab K H v p s) (h : Same H H') : Tab K H' v p s := ⟨same_rp h T.rp, T.sq⟩
end
end A1
namespace A1
open PySem L2 PySem.Spec PyProof.Rows
theorem dec_len {a b : Nat} : decide (V.int (a : Int) = V.int (b : Int)) = decide (a = b) := by
  by_cases h : a = b
  · subst h; simp
  · have : ¬ V.int (a : Int) = V.int (b : Int) := fun e => h (by have := V.int.inj e; omega)
    rw [decide_eq_false this, decide_eq_false h]
/-- 0 <= z < s, as it is asked -/
def inB (s : Nat) (z : Int) : Bool := decide (0 ≤ z ∧ z < (s : Int))
theorem rowB_eq (s : Nat) (r : List Int) : rowB s r = (decide (r.length = s) && (r.map (inB s)).all id) := by
  unfold rowB
  rw [List.all_map]
  rfl
theorem sqB_eq (p : List (List Int)) (s : Nat) : sqB p s = (decide (p.length = s) && (p.map (rowB s)).all id) := by
  unfold sqB
  rw [List.all_map]
  rfl
/-- a small table -/
def Few (p : List (List Int)) : Prop := p.length ≤ 100 ∧ ∀ r ∈ p, r.length ≤ 100
section
variable {K : PySem.W.Frag} {H : Hp} {Q : VK} {σ : L2.St}
theorem blist {α : Type} {l : List α} (f : α → Bool) {i : Nat} {z : α} (h : l[i]? = some z) : ((l.take i).map f).map V.bl ++ [V.bl (f z)] = ((l.take (i + 1)).map f).map V.bl := by
  rw [take_snoc h, List.map_append, List.map_append]; rfl
end
end A1
namespace A1
open PySem L2 PySem.Spec PyProof.Rows
theorem decI (x y : Int) : decide (V.int x = V.int y) = decide (x = y) := by
  by_cases h : x = y
  · subst h; simp
  · rw [decide_eq_false h, decide_eq_false fun e => h (V.int.inj e)]
theorem form_of {o : Int} {p t : List (List Int)} (h : formB o p t = true) : 1 ≤ p.length ∧ p.length ≤ 6 ∧ sqB p p.length = true ∧ sqB t p.length = true ∧ InS p.length o := by
  unfold formB at h
  simp only [Bool.and_eq_true, decide_eq_true_eq] at h
  exact ⟨h.1.1.1.1, h.1.1.1.2, h.1.1.2, h.1.2, h.2⟩
end A1

namespace A1
open PySem L2 PySem.Spec PyProof.Rows
theorem inV_no (bs : List Bool) : inV (.bl false) (bs.map V.bl) = !(bs.all id) := by
  unfold inV
  induction bs with
  | nil => rfl
  | cons b r ih =>
    rw [List.map_cons, List.any_cons, ih, List.all_cons]
    cases b <;> rfl
theorem flat_bl (bs : List Bool) : (bs.map V.bl).all flatV = true := by
  rw [List.all_map]
  exact List.all_eq_true.mpr fun _ _ => rfl
def eqNames : List V := [.str "plus turns", .str "plus joins", .str "zero adds", .str "times turns", .str "times joins", .str "one keeps", .str "spreads", .str "zero kills"]
theorem nm_at {i : Nat} (h : i < 8) : atI eqNames (i : Int) = some (.str (nmS i)) := by
  have : i = 0 ∨ i = 1 ∨ i = 2 ∨ i = 3 ∨ i = 4 ∨ i = 5 ∨ i = 6 ∨ i = 7 := by omega
  rcases this with rfl | rfl | rfl | rfl | rfl | rfl | rfl | rfl <;> rfl
theorem many_at {i : Nat} (h : i < 8) : atI [V.int 2, V.int 3, V.int 1, V.int 2, V.int 3, V.int 1, V.int 3, V.int 1] (i : Int) = some (.int (many i : Nat)) := by
  have : i = 0 ∨ i = 1 ∨ i = 2 ∨ i = 3 ∨ i = 4 ∨ i = 5 ∨ i = 6 ∨ i = 7 := by omega
  rcases this with rfl | rfl | rfl | rfl | rfl | rfl | rfl | rfl <;> rfl
/-- so many turns -/
theorem turns_eq {n m x : Nat} (hn : 1 ≤ n) : (if (n : Int) * (if decide ((x : Int) < (m : Int)) = true then 1 else 0) > 1 then (n : Int) * (if decide ((x : Int) < (m : Int)) = true then 1 else 0) else 1) = (((if m > x then n else 1) : Nat) : Int) := by
  by_cases h : m > x
  · have e : (x : Int) < (m : Int) := by omega
    rw [decide_eq_true e, if_pos rfl, if_pos h, Int.mul_one]
    split <;> omega
  · have e : ¬ (x : Int) < (m : Int) := by omega
    rw [decide_eq_false e, if_neg Bool.false_ne_true, if_neg h, Int.mul_zero]
    rfl
theorem turns_1 {n m : Nat} (hn : 1 ≤ n) : (if (n : Int) * (if decide ((1 : Int) < (m : Int)) = true then 1 else 0) > 1 then (n : Int) * (if decide ((1 : Int) < (m : Int)) = true then 1 else 0) else 1) = (((if m > 1 then n else 1) : Nat) : Int) := turns_eq (x := 1) hn
theorem turns_2 {n m : Nat} (hn : 1 ≤ n) : (if (n : Int) * (if decide ((2 : Int) < (m : Int)) = true then 1 else 0) > 1 then (n : Int) * (if decide ((2 : Int) < (m : Int)) = true then 1 else 0) else 1) = (((if m > 2 then n else 1) : Nat) : Int) := turns_eq (x := 2) hn
/-- a list of lists of ints, each s long, all made behind H0 -/
def Grid (H0 H : Hp) (b : Addr) (s : Nat) : Prop := H0 b = none ∧ ∃ as : List Addr, H b = some (.lst (as.map V.ref)) ∧ as.length = s ∧ ∀ a ∈ as, H0 a = none ∧ ∃ r : List Int, H a = some (.lst (r.map V.int)) ∧ r.length = s
/-- .. or not much more -/
def GridW (H0 H : Hp) (b : Addr) (s : Nat) : Prop := H0 b = none ∧ ∃ as : List Addr, H b = some (.lst (as.map V.ref)) ∧ as.length ≤ s + 1 ∧ ∀ a ∈ as, H0 a = none ∧ ∃ r : List Int, H a = some (.lst (r.map V.int)) ∧ r.length ≤ s + 1
theorem Grid.weak {H0 H : Hp} {b : Addr} {s : Nat} (g : Grid H0 H b s) : GridW H0 H b s := by
  obtain ⟨h0, as, h1, h2, h3⟩ := g
  refine ⟨h0, as, h1, by omega, fun a ha => ?_⟩
  obtain ⟨q0, r, q1, q2⟩ := h3 a ha
  exact ⟨q0, r, q1, by omega⟩
theorem refs_ints {as : List Addr} {r : List Int} (h : as.map V.ref = r.map V.int) : as = [] := by
  cases as with
  | nil => rfl
  | cons a as => cases r with
    | nil => cases h
    | cons n r => cases h
/-- a row is written -/
theorem Grid.put {H0 H : Hp} {b c : Addr} {s : Nat} {r' : List Int} {r0 : List Int} (hs : 1 ≤ s) (g : Grid H0 H b s) (hc : H c = some (.lst (r0.map V.int))) (hl : r'.length = s) : Grid H0 (upd H c (.lst (r'.map V.int))) b s := by
  obtain ⟨h0, as, h1, h2, h3⟩ := g
  have nbc : b ≠ c := fun e => by
    rw [e, hc] at h1
    have : as = [] := refs_ints (r := r0) (by injection h1 with h1; injection h1 with h1; exact h1.symm)
    subst this
    simp at h2; omega
  refine ⟨h0, as, by rw [upd_ne nbc]; exact h1, h2, fun a ha => ?_⟩
  obtain ⟨q0, r, q1, q2⟩ := h3 a ha
  by_cases e : a = c
  · subst e; exact ⟨q0, r', upd_same, hl⟩
  · exact ⟨q0, r, by rw [upd_ne e]; exact q1, q2⟩
theorem GridW.put {H0 H : Hp} {b c : Addr} {s : Nat} {r' : List Int} {r0 : List Int} (hs : 1 ≤ s) (g : Grid H0 H b s) (hc : H c = some (.lst (r0.map V.int))) (hl : r'.length ≤ s + 1) : GridW H0 (upd H c (.lst (r'.map V.int))) b s := by
  obtain ⟨h0, as, h1, h2, h3⟩ := g
  have nbc : b ≠ c := fun e => by
    rw [e, hc] at h1
    have : as = [] := refs_ints (r := r0) (by injection h1 with h1; injection h1 with h1; exact h1.symm)
    subst this
    simp at h2; omega
  refine ⟨h0, as, by rw [upd_ne nbc]; exact h1, by omega, fun a ha => ?_⟩
  obtain ⟨q0, r, q1, q2⟩ := h3 a ha
  by_cases e : a = c
  · subst e; exact ⟨q0, r', upd_same, hl⟩
  · exact ⟨q0, r, by rw [upd_ne e]; exact q1, by omega⟩
theorem Grid.row {H0 H : Hp} {b : Addr} {s : Nat} (g : Grid H0 H b s) {x : Int} (hx : InS s x) : ∃ (as : List Addr) (c : Addr) (r : List Int), H b = some (.lst (as.map V.ref)) ∧ atI (as.map V.ref) x = some (.ref c) ∧ H0 c = none ∧ H c = some (.lst (r.map V.int)) ∧ r.length = s := by
  obtain ⟨h0, as, h1, h2, h3⟩ := g
  obtain ⟨x0, x1⟩ := hx
  have hl : x.toNat < as.length := by omega
  obtain ⟨q0, r, q1, q2⟩ := h3 as[x.toNat] (List.getElem_mem hl)
  refine ⟨as, as[x.toNat], r, h1, ?_, q0, q1, q2⟩
  have ex : x = ((x.toNat : Nat) : Int) := by omega
  have : atI (as.map V.ref) ((x.toNat : Nat) : Int) = some (.ref as[x.toNat]) := atI_nat (by rw [List.getElem?_map, List.getElem?_eq_getElem hl]; rfl)
  rw [← ex] at this
  exact this
theorem Grid.dr {H0 H H' : Hp} {b d : Addr} {s : Nat} (g : Grid H0 H b s) (hd : DrAt d H0) (q : Dr d H H') : Grid H0 H' b s := by
  obtain ⟨h0, as, h1, h2, h3⟩ := g
  have nd : ∀ a, H0 a = none → a ≠ d := fun a n e => by
    obtain ⟨_, w⟩ := hd
    rw [← e, n] at w; cases w
  refine ⟨h0, as, q.kp _ _ (nd b h0) h1, h2, fun a ha => ?_⟩
  obtain ⟨q0, r, q1, q2⟩ := h3 a ha
  exact ⟨q0, r, q.kp _ _ (nd a q0) q1, q2⟩
theorem Grid.same {H0 H H' : Hp} {b : Addr} {s : Nat} (g : Grid H0 H b s) (q : Same H H') : Grid H0 H' b s := by
  obtain ⟨h0, as, h1, h2, h3⟩ := g
  refine ⟨h0, as, q _ _ h1, h2, fun a ha => ?_⟩
  obtain ⟨q0, r, q1, q2⟩ := h3 a ha
  exact ⟨q0, r, q _ _ q1, q2⟩
theorem GridW.dr {H0 H H' : Hp} {b d : Addr} {s : Nat} (g : GridW H0 H b s) (hd : DrAt d H0) (q : Dr d H H') : GridW H0 H' b s := by
  obtain ⟨h0, as, h1, h2, h3⟩ := g
  have nd : ∀ a, H0 a = none → a ≠ d := fun a n e => by
    obtain ⟨_, w⟩ := hd
    rw [← e, n] at w; cases w
  refine ⟨h0, as, q.kp _ _ (nd b h0) h1, h2, fun a ha => ?_⟩
  obtain ⟨q0, r, q1, q2⟩ := h3 a ha
  exact ⟨q0, r, q.kp _ _ (nd a q0) q1, q2⟩
theorem GridW.same {H0 H H' : Hp} {b : Addr} {s : Nat} (g : GridW H0 H b s) (q : Same H H') : GridW H0 H' b s := by
  obtain ⟨h0, as, h1, h2, h3⟩ := g
  refine ⟨h0, as, q _ _ h1, h2, fun a ha => ?_⟩
  obtain ⟨q0, r, q1, q2⟩ := h3 a ha
  exact ⟨q0, r, q _ _ q1, q2⟩
/-- square, s by s -/
def SqN (p : List (List Int)) (s : Nat) : Prop := p.length = s ∧ ∀ r ∈ p, r.length = s
theorem TOk.square {o : Int} {p t : List (List Int)} (h : TOk o p t) : ∃ s, 1 ≤ s ∧ s ≤ 6 ∧ SqN p s ∧ SqN t s ∧ InS s o := by
  obtain ⟨h, ns, hs, pm, _, ho, rfl, rfl⟩ := h
  have hl := pm.length_eq
  have h2 := sm_len h hs
  refine ⟨ns.length, by omega, by omega, ⟨by rw [List.length_map], fun r hr => ?_⟩, ⟨by rw [List.length_map], fun r hr => ?_⟩, ?_⟩
  · obtain ⟨a, _, rfl⟩ := List.mem_map.mp hr
    rw [List.length_map]
  · obtain ⟨a, _, rfl⟩ := List.mem_map.mp hr
    rw [List.length_map]
  · subst ho
    have := List.idxOf_lt_length_of_mem (pm.mem_iff.mpr (sm_one h hs))
    unfold idxI
    exact ⟨by omega, by omega⟩
theorem SqN.few {p : List (List Int)} {s : Nat} (h : SqN p s) (hs : s ≤ 7) : Few p := ⟨by rw [h.1]; omega, fun r hr => by rw [h.2 r hr]; omega⟩
section
variable {K : PySem.W.Frag} {H : Hp} {Q : VK}
theorem rpa_take : ∀ {ts : List TD} {vs : List V} (n : Nat), RpA K H vs ts → RpA K H (vs.take n) (ts.take n)
  | [], _, n, r => by cases r; cases n <;> exact .nil
  | _ :: _, _, 0, _ => .nil
  | t :: ts, _, n + 1, r => by
    cases r with
    | cons a b => exact .cons a (rpa_take n b)
theorem cut_upto {xs : List V} {k : Nat} : cutV xs none (some (k : Int)) = xs.take k := by
  unfold cutV
  rw [HT.sIx_none, HT.sIx_nat]
  show (xs.drop 0).take (min k xs.length - 0) = xs.take k
  rw [List.drop_zero, Nat.sub_zero]
  rcases Nat.le_total k xs.length with h | h
  · rw [Nat.min_eq_left h]
  · rw [Nat.min_eq_right h, List.take_of_length_le (Nat.le_refl _), List.take_of_length_le h]
/-- the first rows of a table -/
theorem rd_upto {v : V} {p : List (List Int)} {k : Nat} (r : Rp K H v (rowsT p)) (q : ∀ u H', Same H H' → Rp K H' u (rowsT (p.take k)) → Q u H') : rSlA K v none (some (k : Int)) H Q := by
  cases r with
  | @tup a xs _ s ra =>
    refine ⟨a, xs, rfl, s, fun w => ?_, fun _ c hc => ?_⟩
    · have hl : xs.length ≤ k := by
        have := w.2
        rw [HT.sIx_nat] at this
        omega
      have e : p.take k = p := List.take_of_length_le (by rw [ra.length, List.length_map] at hl; exact hl)
      refine q _ _ (.refl _) ?_
      rw [e]
      exact .tup s ra
    · rw [cut_upto]
      refine q _ _ (same_new hc) ?_
      refine .tup (SqT.of upd_same) ?_
      rw [List.map_take]
      exact same_rpa (same_new hc) (rpa_take k ra)
end
end A1

namespace A1
open PySem L2 PySem.Spec PyProof.Rows
/-! ## kinds -/
def five : List Str := ["all", "once", "sets", "prices", "yes"]
def tabOnce (p : List (List Int)) : Bool := (nums p.length).all fun a => decide (at2 p a a = a)
def tabSq (p t : List (List Int)) : Bool := (nums p.length).all fun a => decide (at2 t a a = a)
def tabTop (o : Int) (p : List (List Int)) : Bool := (nums p.length).all fun a => decide (at2 p o a = o)
def kindsB (once sq top : Bool) : List Str := [("all" : Str)] ++ (if once = true then [("once" : Str)] else []) ++ (if (once && sq) = true then [("sets" : Str)] else []) ++ (if top = true then [("prices" : Str)] else []) ++ (if (top && sq) = true then [("yes" : Str)] else [])
def Hs.kinds : Hs → List Str
  | .counts | .formulas => ["all"]
  | .yes | .chain _ | .divisors _ => five
  | .capped n | .modulo n => if n = 1 then five else ["all"]
  | .least | .prices _ => ["all", "once", "prices"]
  | .sums => ["all", "once"]
  | .families => ["all", "once", "sets"]
  | .table o p t => kindsB (tabOnce p) (tabSq p t) (tabTop o p)
  | .pair h k => h.kinds.filter fun z => decide (z ∈ k.kinds)
def strsT (l : List Str) : TD := .tup (l.map .str)
theorem kindsB_len (a b c : Bool) : (kindsB a b c).length ≤ 5 := by cases a <;> cases b <;> cases c <;> decide
theorem kinds_len : ∀ h : Hs, h.kinds.length ≤ 5
  | .counts | .formulas | .yes | .chain _ | .divisors _ | .least | .prices _ | .sums | .families => by simp [Hs.kinds, five]
  | .capped n => by show (if n = 1 then five else ["all"]).length ≤ 5; split <;> decide
  | .modulo n => by show (if n = 1 then five else ["all"]).length ≤ 5; split <;> decide
  | .table o p t => kindsB_len _ _ _
  | .pair h k => Nat.le_trans (List.length_filter_le _ _) (kinds_len h)
theorem strs_fit (l : List Str) (h : l.length ≤ 5) : (strsT l).fit 2 := ⟨by rw [List.length_map]; omega, fun d hd => by
  obtain ⟨z, _, rfl⟩ := List.mem_map.mp hd
  trivial⟩
/-- the tables of a house have their form -/
def Hs.formed : Hs → Prop
  | .table o p t => formB o p t = true
  | .pair h k => h.formed ∧ k.formed
  | _ => True
theorem idx_in {ns : List Int} {z : Int} (h : z ∈ ns) : 0 ≤ idxI ns z ∧ idxI ns z < (ns.length : Int) := by
  have := List.idxOf_lt_length_of_mem h
  unfold idxI
  omega
theorem TOk.formed {o : Int} {p t : List (List Int)} (h : TOk o p t) : formB o p t = true := by
  obtain ⟨h, ns, hs, pm, _, ho, rfl, rfl⟩ := h
  have hl := pm.length_eq
  have h2 := sm_len h hs
  have sq : ∀ g : Int → Int → Int, (∀ a ∈ h.wsI, ∀ b ∈ h.wsI, g a b ∈ h.wsI) → sqB (ns.map fun a => ns.map fun b => idxI ns (g a b)) ns.length = true := by
    intro g hg
    unfold sqB
    rw [List.length_map, decide_eq_true rfl, Bool.true_and, List.all_eq_true]
    intro r hr
    obtain ⟨a, ha, rfl⟩ := List.mem_map.mp hr
    unfold rowB
    rw [List.length_map, decide_eq_true rfl, Bool.true_and, List.all_eq_true]
    intro z hz
    obtain ⟨b, hb, rfl⟩ := List.mem_map.mp hz
    exact decide_eq_true (idx_in (pm.mem_iff.mpr (hg a (pm.mem_iff.mp ha) b (pm.mem_iff.mp hb))))
  unfold formB
  rw [List.length_map, sq _ (sm_plus h hs), sq _ (sm_times h hs), decide_eq_true (show 1 ≤ ns.length ∧ ns.length ≤ 6 by omega), ho, decide_eq_true (idx_in (pm.mem_iff.mpr (sm_one h hs)))]
  rfl
theorem ok_formed : ∀ h : Hs, h.ok → h.formed
  | .table _ _ _, h => h.formed
  | .pair h k, q => ⟨ok_formed h q.1, ok_formed k q.2⟩
  | .counts, _ | .formulas, _ | .yes, _ | .chain _, _ | .divisors _, _ | .least, _ | .prices _, _ | .sums, _ | .families, _ | .capped _, _ | .modulo _, _ => trivial
theorem strs_inV (z : Str) (l : List Str) : inV (.str z) (l.map V.str) = decide (z ∈ l) := by
  unfold inV
  induction l with
  | nil => rfl
  | cons a r ih =>
    rw [List.map_cons, List.any_cons, ih]
    show ((a == z) || decide (z ∈ r)) = _
    by_cases e : z = a
    · subst e; simp
    · have : (a == z) = false := beq_eq_false_iff_ne.mpr fun q => e q.symm
      rw [this, Bool.false_or]
      simp [e]
theorem strs_flat (l : List Str) : (l.map V.str).all flatV = true := by
  rw [List.all_map]
  exact List.all_eq_true.mpr fun _ _ => rfl
section
variable {K : PySem.W.Frag} {H : Hp} {Q : VK}
theorem rd_inT {x : V} {p : Addr} {xs : List V} (h : SqT K H p xs) (f : flatV x = true) (fs : xs.all flatV = true) (q : Q (.bl (inV x xs)) H) : rIn K false x (.ref p) H Q := ⟨p, xs, rfl, .inr h, f, fs, q⟩
theorem rpa_strs : ∀ (l : List Str), RpA K H (l.map V.str) (l.map TD.str)
  | [] => .nil
  | n :: r => .cons (.str n) (rpa_strs r)
theorem Rp.strs {v : V} {l : List Str} (r : Rp K H v (strsT l)) : ∃ a, v = .ref a ∧ SqT K H a (l.map V.str) := by
  cases r with
  | @tup a xs _ s ra =>
    refine ⟨a, rfl, ?_⟩
    have : ∀ {ys : List V} {ns : List Str}, RpA K H ys (ns.map TD.str) → ys = ns.map V.str := by
      intro ys ns
      induction ns generalizing ys with
      | nil => intro q; cases q; rfl
      | cons n ns ih => intro q; cases q with | cons q1 q2 => cases q1; rw [ih q2]; rfl
    rw [← this ra]; exact s
theorem strs_get {l : List Str} {i : Nat} {x : V} (h : (l.map V.str)[i]? = some x) : ∃ z, x = .str z ∧ l[i]? = some z := by
  rw [List.getElem?_map] at h
  cases e : l[i]? with
  | none => rw [e] at h; cases h
  | some z => rw [e] at h; exact ⟨z, (Option.some.inj h).symm, rfl⟩
theorem nlist (f : Int → Bool) (i : Nat) : ((nums i).map f).map V.bl ++ [V.bl (f i)] = ((nums (i + 1)).map f).map V.bl := by
  rw [nums_succ, List.map_append, List.map_append]; rfl
theorem nums_len (i : Nat) : (nums i).length = i := by simp [nums]
theorem filter_snoc {l : List Str} {i : Nat} {z : Str} (h : l[i]? = some z) (f : Str → Bool) : (l.take (i + 1)).filter f = (l.take i).filter f ++ if f z = true then [z] else [] := by
  rw [take_snoc h, List.filter_append]
  congr 1
  by_cases e : f z = true
  · rw [if_pos e, List.filter_cons, if_pos e]; rfl
  · rw [if_neg e, List.filter_cons, if_neg e]; rfl
end
end A1

namespace A1
open PySem L2
local macro_rules | `(tactic| walk_at "rd1") => `(tactic| first
  | with_reducible refine rd_seq ?_ | with_reducible refine rd_asg ?_ | with_reducible refine rd_name ?_ | ((with_reducible refine' rd_var ?e ?_); (case e => rfl)) | with_reducible refine rd_c ?_ | with_reducible refine rd_op ?_ | with_reducible refine rd_un ?_ | with_reducible refine rd_i0 ?_ | with_reducible refine rd_u ?_
  | ((with_reducible refine' rd_eq ?e ?_); (case e => rfl)) | ((with_reducible refine' rd_ne ?e ?_); (case e => rfl)) | with_reducible refine rd_test ?_ | with_reducible refine rd_tb ?_ | with_reducible refine rd_bl ?_ | with_reducible refine rd_if ?_ | with_reducible refine rd_ret ?_ | with_reducible refine rd_next ?_ | with_reducible refine rd_drop ?_
  | with_reducible refine rd_nil ?_ | with_reducible refine rd_cons ?_ | with_reducible refine rd_cb ?_ | with_reducible refine rd_call ?_ | with_reducible refine rd_tup ?_ | with_reducible refine rd_lst ?_ | with_reducible refine rd_andV ?_ | with_reducible refine rd_orV ?_ | with_reducible refine rd_and ?_ | with_reducible refine rd_or ?_ | with_reducible refine rd_not ?_ | with_reducible refine rd_ifE ?_
  | with_reducible refine rd_bm0 ?_ | with_reducible refine rd_bm ?_ | with_reducible refine rd_match ?_ | with_reducible refine rd_str ?_ | with_reducible refine rd_yes ?_ | with_reducible refine rd_int ?_ | with_reducible refine rd_intB ?_ | with_reducible refine rd_isN ?_ | with_reducible refine rd_abs ?_ | with_reducible refine rd_max ?_ | with_reducible refine rd_min ?_ | with_reducible refine rd_for ?_ | with_reducible refine rd_lc ?_ | with_reducible refine rd_rng1 ?_ | with_reducible refine rd_rng2 ?_ | with_reducible refine rd_ilist ?_ | with_reducible refine iteT ?_ | with_reducible refine iteF ?_ | with_reducible refine rd_sl ?_ | with_reducible refine rd_po0 ?_ | with_reducible refine rd_po1 ?_ | with_reducible refine rd_poI ?_ | with_reducible refine rd_star ?_ | with_reducible refine rd_irng ?_ | with_reducible refine rd_itup ?_ | with_reducible refine rd_gcons ?_ | with_reducible refine rd_gnil ?_ | with_reducible refine rd_gsub ?_ | with_reducible refine rd_notN ?_ | with_reducible refine rd_chain ?_)
local macro_rules | `(tactic| walk_at "rd") => `(tactic| repeat walk_at "rd1")
local macro_rules | `(tactic| walk_at "dec") => `(tactic| repeat first | walk_at "rd1" | with_reducible refine iteDF (by decide +kernel) ?_ | with_reducible refine iteDT (by decide +kernel) ?_ | with_reducible refine iteNF (by decide +kernel) ?_ | with_reducible refine iteNT (by decide +kernel) ?_ | with_reducible refine rd_caseF (by decide +kernel) ?_ | with_reducible refine rd_caseT (by decide +kernel) ?_ | with_reducible refine iteVF (by decide +kernel) ?_ | with_reducible refine iteVT (by decide +kernel) ?_)
local macro_rules | `(tactic| walk_at "inS") => `(tactic| first | assumption | (refine' Tab.rng (by assumption) ?_ ?_ <;> first | assumption | (refine' Tab.rng (by assumption) ?_ ?_ <;> assumption)))
local macro_rules | `(tactic| walk_at "tab") => `(tactic| repeat first | walk_at "rd1" | (refine' rd_row (by assumption) (by walk_at "inS") ?_; intro b sb) | refine' rd_item (by assumption) (by walk_at "inS") ?_)
def top (i : Nat) : Stmt := PySem.Challenge.pw_anyworth_k12_whole_tables_are_houses.main.body.getD i (.Pass ⟨0, 0, 0, 0⟩)
/-- a def of the text, found by its name -/
structure Dn (K : PySem.W.Frag) (mg : Str → Option Value) (x : Str) (st : Stmt) (ps : List Str) (f : Addr) (fd : FuncData) : Prop where
  F : Fun K x x st f fd
  b : Binds K fd ps []
  m : mg x = some (.ref f)
structure Tx (mg : Str → Option Value) : Prop where
  m_len : mg "len" = none
  m_int : mg "int" = none
  m_list : mg "list" = none
  m_tuple : mg "tuple" = none
  m_bool : mg "bool" = none
  m_str : mg "str" = none
  m_range : mg "range" = none
  m_abs : mg "abs" = none
  m_min : mg "min" = none
  m_max : mg "max" = none
  m_isinstance : mg "isinstance" = none
  m_all : mg "all" = none
abbrev sFaultOf : Stmt := top 4
abbrev nFaultOf : List Str := ["house", "name", "triple"]
theorem scFaultOf : FnScope nFaultOf ["house"] (defScope sFaultOf) := ⟨rfl, rfl, rfl, by decide +kernel, rfl, by decide +kernel, by decide +kernel⟩
abbrev sHasForm : Stmt := top 5
abbrev nHasForm : List Str := ["house", "one", "plus", "times", "size"]
theorem scHasForm : FnScope nHasForm ["house"] (defScope sHasForm) := ⟨rfl, rfl, rfl, by decide +kernel, rfl, by decide +kernel, by decide +kernel⟩
abbrev sIsSquare : Stmt := top 6
abbrev nIsSquare : List Str := ["rows", "size", "row"]
theorem scIsSquare : FnScope nIsSquare ["rows", "size"] (defScope sIsSquare) := ⟨rfl, rfl, rfl, by decide +kernel, rfl, by decide +kernel, by decide +kernel⟩
abbrev sIsTableRow : Stmt := top 7
abbrev nIsTableRow : List Str := ["row", "size", "item"]
theorem scIsTableRow : FnScope nIsTableRow ["row", "size"] (defScope sIsTableRow) := ⟨rfl, rfl, rfl, by decide +kernel, rfl, by decide +kernel, by decide +kernel⟩
abbrev sLeastBreak : Stmt := top 8
abbrev nLeastBreak : List Str := ["house", "name", "worths", "a", "b", "c"]
theorem scLeastBreak : FnScope nLeastBreak ["house", "name"] (defScope sLeastBreak) := ⟨rfl, rfl, rfl, by decide +kernel, rfl, by decide +kernel, by decide +kernel⟩
abbrev sHolds : Stmt := top 9
abbrev nHolds : List Str := ["house", "name", "a", "b", "c", "one", "plus", "times"]
theorem scHolds : FnScope nHolds ["house", "name", "a", "b", "c"] (defScope sHolds) := ⟨rfl, rfl, rfl, by decide +kernel, rfl, by decide +kernel, by decide +kernel⟩
abbrev sIsBetween : Stmt := top 12
abbrev nIsBetween : List Str := ["value", "least", "greatest"]
theorem scIsBetween : FnScope nIsBetween ["value", "least", "greatest"] (defScope sIsBetween) := ⟨rfl, rfl, rfl, by decide +kernel, rfl, by decide +kernel, by decide +kernel⟩
abbrev sIsHouse : Stmt := top 44
abbrev nIsHouse : List Str := ["house"]
theorem scIsHouse : FnScope nIsHouse ["house"] (defScope sIsHouse) := ⟨rfl, rfl, rfl, by decide +kernel, rfl, by decide +kernel, by decide +kernel⟩
abbrev sIsHouseWithin : Stmt := top 45
abbrev nIsHouseWithin : List Str := ["house", "depth"]
theorem scIsHouseWithin : FnScope nIsHouseWithin ["house", "depth"] (defScope sIsHouseWithin) := ⟨rfl, rfl, rfl, by decide +kernel, rfl, by decide +kernel, by decide +kernel⟩
abbrev sZero : Stmt := top 46
abbrev nZero : List Str := ["house"]
theorem scZero : FnScope nZero ["house"] (defScope sZero) := ⟨rfl, rfl, rfl, by decide +kernel, rfl, by decide +kernel, by decide +kernel⟩
abbrev sOne : Stmt := top 47
abbrev nOne : List Str := ["house"]
theorem scOne : FnScope nOne ["house"] (defScope sOne) := ⟨rfl, rfl, rfl, by decide +kernel, rfl, by decide +kernel, by decide +kernel⟩
abbrev sIsWorth : Stmt := top 48
abbrev nIsWorth : List Str := ["house", "worth"]
theorem scIsWorth : FnScope nIsWorth ["house", "worth"] (defScope sIsWorth) := ⟨rfl, rfl, rfl, by decide +kernel, rfl, by decide +kernel, by decide +kernel⟩
abbrev sPlus : Stmt := top 49
abbrev nPlus : List Str := ["house", "one_worth", "other"]
theorem scPlus : FnScope nPlus ["house", "one_worth", "other"] (defScope sPlus) := ⟨rfl, rfl, rfl, by decide +kernel, rfl, by decide +kernel, by decide +kernel⟩
abbrev sTimes : Stmt := top 50
abbrev nTimes : List Str := ["house", "one_worth", "other"]
theorem scTimes : FnScope nTimes ["house", "one_worth", "other"] (defScope sTimes) := ⟨rfl, rfl, rfl, by decide +kernel, rfl, by decide +kernel, by decide +kernel⟩
abbrev sLDraws : Stmt := top 54
abbrev nLDraws : List Str := ["script", "many", "cells", "cell", "rest", "draws", "k", "at", "mixed"]
theorem scLDraws : FnScope nLDraws ["script", "many"] (defScope sLDraws) := ⟨rfl, rfl, rfl, by decide +kernel, rfl, by decide +kernel, by decide +kernel⟩
abbrev sLTake : Stmt := top 55
abbrev nLTake : List Str := ["draws", "many"]
theorem scLTake : FnScope nLTake ["draws", "many"] (defScope sLTake) := ⟨rfl, rfl, rfl, by decide +kernel, rfl, by decide +kernel, by decide +kernel⟩
abbrev sLSize : Stmt := top 56
abbrev nLSize : List Str := ["draws", "script", "kind", "number", "k"]
theorem scLSize : FnScope nLSize ["draws", "script"] (defScope sLSize) := ⟨rfl, rfl, rfl, by decide +kernel, rfl, by decide +kernel, by decide +kernel⟩
abbrev sLSame : Stmt := top 57
abbrev nLSame : List Str := ["actual", "due", "k"]
theorem scLSame : FnScope nLSame ["actual", "due"] (defScope sLSame) := ⟨rfl, rfl, rfl, by decide +kernel, rfl, by decide +kernel, by decide +kernel⟩
abbrev sLGcd : Stmt := top 60
abbrev nLGcd : List Str := ["a", "b", "k", "rest"]
theorem scLGcd : FnScope nLGcd ["a", "b"] (defScope sLGcd) := ⟨rfl, rfl, rfl, by decide +kernel, rfl, by decide +kernel, by decide +kernel⟩
abbrev sLOne : Stmt := top 63
abbrev nLOne : List Str := ["house", "form", "k"]
theorem scLOne : FnScope nLOne ["house"] (defScope sLOne) := ⟨rfl, rfl, rfl, by decide +kernel, rfl, by decide +kernel, by decide +kernel⟩
abbrev sLPlus : Stmt := top 64
abbrev nLPlus : List Str := ["house", "a", "b", "form", "x"]
theorem scLPlus : FnScope nLPlus ["house", "a", "b"] (defScope sLPlus) := ⟨rfl, rfl, rfl, by decide +kernel, rfl, by decide +kernel, by decide +kernel⟩
abbrev sLTimes : Stmt := top 65
abbrev nLTimes : List Str := ["house", "a", "b", "form", "found", "x", "y", "k"]
theorem scLTimes : FnScope nLTimes ["house", "a", "b"] (defScope sLTimes) := ⟨rfl, rfl, rfl, by decide +kernel, rfl, by decide +kernel, by decide +kernel⟩
abbrev sLAllWorths : Stmt := top 66
abbrev nLAllWorths : List Str := ["house", "k"]
theorem scLAllWorths : FnScope nLAllWorths ["house"] (defScope sLAllWorths) := ⟨rfl, rfl, rfl, by decide +kernel, rfl, by decide +kernel, by decide +kernel⟩
abbrev sLTableHouse : Stmt := top 67
abbrev nLTableHouse : List Str := ["draws", "n", "house", "worths", "rest", "named", "k", "added", "b", "a", "multiplied"]
theorem scLTableHouse : FnScope nLTableHouse ["draws"] (defScope sLTableHouse) := ⟨rfl, rfl, rfl, by decide +kernel, rfl, by decide +kernel, by decide +kernel⟩
abbrev sLSquare : Stmt := top 68
abbrev nLSquare : List Str := ["rows", "size", "row", "item"]
theorem scLSquare : FnScope nLSquare ["rows", "size"] (defScope sLSquare) := ⟨rfl, rfl, rfl, by decide +kernel, rfl, by decide +kernel, by decide +kernel⟩
abbrev sLEquation : Stmt := top 69
abbrev nLEquation : List Str := ["house", "k", "a", "b", "c", "added", "multiplied"]
theorem scLEquation : FnScope nLEquation ["house", "k", "a", "b", "c"] (defScope sLEquation) := ⟨rfl, rfl, rfl, by decide +kernel, rfl, by decide +kernel, by decide +kernel⟩
abbrev sLFault : Stmt := top 70
abbrev nLFault : List Str := ["house", "size", "names", "k", "many", "a", "b", "c"]
theorem scLFault : FnScope nLFault ["house"] (defScope sLFault) := ⟨rfl, rfl, rfl, by decide +kernel, rfl, by decide +kernel, by decide +kernel⟩
abbrev sLOperation : Stmt := top 71
abbrev nLOperation : List Str := ["draws", "size", "kind", "rows", "a", "row", "b", "sums"]
theorem scLOperation : FnScope nLOperation ["draws", "size"] (defScope sLOperation) := ⟨rfl, rfl, rfl, by decide +kernel, rfl, by decide +kernel, by decide +kernel⟩
abbrev sLSpoilt : Stmt := top 72
abbrev nLSpoilt : List Str := ["draws", "script", "house", "both", "row", "size", "neutral", "kind", "rows", "a", "b", "worth"]
theorem scLSpoilt : FnScope nLSpoilt ["draws", "script", "house"] (defScope sLSpoilt) := ⟨rfl, rfl, rfl, by decide +kernel, rfl, by decide +kernel, by decide +kernel⟩
abbrev sLAnyTable : Stmt := top 73
abbrev nLAnyTable : List Str := ["draws", "script", "kind", "size", "house"]
theorem scLAnyTable : FnScope nLAnyTable ["draws", "script"] (defScope sLAnyTable) := ⟨rfl, rfl, rfl, by decide +kernel, rfl, by decide +kernel, by decide +kernel⟩
abbrev sLThree : Stmt := top 74
abbrev nLThree : List Str := ["house", "a", "b", "c"]
theorem scLThree : FnScope nLThree ["house", "a", "b", "c"] (defScope sLThree) := ⟨rfl, rfl, rfl, by decide +kernel, rfl, by decide +kernel, by decide +kernel⟩
abbrev sLActs : Stmt := top 75
abbrev nLActs : List Str := ["house", "size", "a", "b", "c"]
theorem scLActs : FnScope nLActs ["house"] (defScope sLActs) := ⟨rfl, rfl, rfl, by decide +kernel, rfl, by decide +kernel, by decide +kernel⟩
abbrev sLaw : Stmt := top 76
abbrev nLaw : List Str := ["script", "draws", "house", "good"]
theorem scLaw : FnScope nLaw ["script"] (defScope sLaw) := ⟨rfl, rfl, rfl, by decide +kernel, rfl, by decide +kernel, by decide +kernel⟩
section
variable {P : Program} {w : World} {K : PySem.W.Frag} {mg : Str → Option Value} {base : Heap}
def spTake : Sp := fun vs H Q _ => ∃ (d : Addr) (m : Int) (ds : List Int), vs = [.ref d, .int m] ∧ 0 < m ∧ H d = some (.lst (ds.map V.int)) ∧ ∀ (r : Int) (H' : Hp), 0 ≤ r → r < m → Dr d H H' → Q (.int r) H'
theorem ok_take (T : Tx mg) {f : Addr} {fd : FuncData} (F : Dn K mg "_law_take" sLTake ["draws", "many"] f fd) : FnOk P w K mg base CX0 1 f fd ["draws", "many"] spTake := by
  refine F.F.ok scLTake (fun vs H Q E h => ?_) (fun cdv A outer s H vs Q E hr h => ?_)
  · obtain ⟨d, m, ds, rfl, _⟩ := h
    rfl
  obtain ⟨d, m, ds, rfl, hm, hd, q⟩ := h
  have nd := scLTake.nd
  refine ⟨_, (pss_cons (ps_if (pt_cmpR op_eq (pe_callB (k_len K rfl) rfl T.m_len PySem.boot_len (pa_cons (pv 0) pa_nil)) pe_int (nomark _)) (pss_one (ps_ret pe_int)) pss_nil)
  (pss_one (ps_ret (pe_op op_modN (pe_callTy c_int rfl T.m_int (by decide +kernel) (pa_cons (pe_bm0 PySem.F.plainAttrs_list PySem.F.slot_list_pop PySem.F.type_list_pop mt_pop (pv 0)) pa_nil)) (pv 1))))), ?_⟩
  walk_at "rd"
  refine rd_len (SqL.of hd) ?_
  walk_at "rd"
  refine iteD (fun c => ?_) (fun c => ?_)
  · walk_at "rd"
    exact q 0 _ (Int.le_refl 0) hm (.refl ⟨ds, hd⟩)
  · walk_at "rd"
    refine ⟨.inl ⟨rfl, _, SqL.of hd⟩, ?_⟩
    have hne : ds ≠ [] := fun e => c (by subst e; rfl)
    have hl : ds[ds.length - 1]? = some (ds.getLast hne) := by rw [List.getLast_eq_getElem]; exact List.getElem?_eq_getElem _
    refine ⟨d, _, V.int (ds.getLast hne), rfl, rfl, hd, by rw [List.length_map, List.getElem?_map, hl]; rfl, ?_⟩
    walk_at "rd"
    refine rd_i (by omega) ?_
    have e := Int.fmod_eq_emod_of_nonneg (ds.getLast hne) (show 0 ≤ m by omega)
    rw [e]
    refine q _ _ (Int.emod_nonneg _ (by omega)) (Int.emod_lt_of_pos _ hm) ?_
    rw [← List.map_dropLast]
    exact (Dr.refl ⟨ds, hd⟩).put _

end
section
variable {P : Program} {w : World} {K : PySem.W.Frag} {mg : Str → Option Value} {base : Heap}
def spDraws (K : PySem.W.Frag) : Sp := fun vs H Q _ => ∃ (a : Addr) (n : Int) (ns : List Int), vs = [.ref a, .int n] ∧ SqL K H a (ns.map V.int) ∧ 0 ≤ n ∧ n ≤ 1000 ∧ ns.length ≤ 63 ∧
  ∀ (d : Addr) (ds : List Int) (H' : Hp), H d = none → H' d = some (.lst (ds.map V.int)) → Same H H' → Q (.ref d) H'
theorem ok_draws (T : Tx mg) {f : Addr} {fd : FuncData} (F : Dn K mg "_law_draws" sLDraws ["script", "many"] f fd) : FnOk P w K mg base CX0 1 f fd ["script", "many"] (spDraws K) := by
  refine F.F.ok scLDraws (fun vs H Q E h => ?_) (fun cdv A outer s H vs Q E hr h => ?_)
  · obtain ⟨d, m, ds, rfl, _⟩ := h
    rfl
  obtain ⟨a, n, ns, rfl, hS, hn0, hn1, h63, q⟩ := h
  have nd := scLDraws.nd
  refine ⟨_, (pss_cons (ps_setLc (i := 2) (own := [("cell", (3 : Nat))]) (g := gName 3) rfl nd rfl rfl (sw_true rfl rfl rfl (by decide +kernel)) (k_pil K rfl (pv 0)) (blkOk_by (own := [("cell", (3 : Nat))]) (N := nLDraws) (sc := defScope sLDraws) (by decide +kernel)) (fun _ _ _ _ _ => pg_name (i := 3) nd rfl (Or.inl rfl)) (fun _ _ _ _ _ => pts_nil) (fun _ _ _ _ _ => (pe_callTy c_int rfl T.m_int (by decide +kernel) (pa_cons (pv 3) pa_nil))))
  (C8.pss_cut (ps_if (pt_cmpR op_eq (pe_callB (k_len K rfl) rfl T.m_len PySem.boot_len (pa_cons (pv 2) pa_nil)) pe_int (nomark _)) (pss_one (ps_expr (pe_bm PySem.F.plainAttrs_list PySem.F.slot_list_append PySem.F.type_list_append mt_append (pv 2) (pa_cons pe_int pa_nil)))) pss_nil)
  (pss_cons (ps_set (i := 4) nd rfl (Or.inl rfl) (pe_callTy (k_list K rfl) rfl T.m_list (by decide +kernel) (pa_cons (pv 2) pa_nil)))
  (pss_cons (ps_set (i := 5) nd rfl (Or.inl rfl) (pe_lst pa_nil))
  (pss_cons (ps_for PassesOwn.never rfl (pi_range1 rfl T.m_range (pa_cons (pv 1) pa_nil)) (pg_name (i := 6) nd rfl (Or.inl rfl)) (pss_cons (ps_set (i := 7) nd rfl (Or.inl rfl) (pe_op op_modN (pv 6) (pe_callB (k_len K rfl) rfl T.m_len PySem.boot_len (pa_cons (pv 2) pa_nil))))
  (pss_one (ps_if (pt_cmpR op_ge (pe_ix (k_ixL K rfl) (pv 2) (pv 7) (fun _ _ => rfl)) (pe_op op_pow pe_int pe_int) (nomark _)) (pss_cons (ps_expr (pe_bm PySem.F.plainAttrs_list PySem.F.slot_list_append PySem.F.type_list_append mt_append (pv 5) (pa_cons (pe_op op_modN (pe_callTy c_int rfl T.m_int (by decide +kernel) (pa_cons (pe_ix (k_ixL K rfl) (pv 4) (pv 7) (fun _ _ => rfl)) pa_nil)) pe_int) pa_nil)))
  (pss_one (ps_asg (pe_op op_fdiv (pe_ix (k_ixL K rfl) (pv 4) (pv 7) (fun _ _ => rfl)) pe_int) (pg_sub (pv 4) (pv 7) set_list)))) (pss_cons (ps_set (i := 8) nd rfl (Or.inl rfl) (pe_op op_modN (pe_callTy c_int rfl T.m_int (by decide +kernel) (pa_cons (pe_op op_add (pe_op op_add (pe_op op_mul (pe_ix (k_ixL K rfl) (pv 2) (pv 7) (fun _ _ => rfl)) pe_int) (pe_op op_mul (pv 6) pe_int)) pe_int) pa_nil)) pe_int))
  (pss_one (ps_expr (pe_bm PySem.F.plainAttrs_list PySem.F.slot_list_append PySem.F.type_list_append mt_append (pv 5) (pa_cons (pe_op op_modN (pe_callTy c_int rfl T.m_int (by decide +kernel) (pa_cons (pe_op op_add (pe_op op_add (pe_op op_mul (pv 8) (pv 8)) (pe_op op_mul pe_int (pv 8))) (pv 6)) pa_nil)) pe_int) pa_nil)))))))))
  (pss_cons (ps_expr (pe_bm0 PySem.F.plainAttrs_list PySem.F.slot_list_reverse PySem.F.type_list_reverse mt_reverse (pv 5)))
  (pss_one (ps_ret (pv 5))))))))), ?_⟩
  walk_at "rd"
  refine rd_il hS fun C hC => (lc_list (K := K) (a := a) (xs := ns.map V.int) (fun i H' => H' C = some (.lst ((ns.take i).map V.int)) ∧ Same H H') ⟨upd_same, same_new hC⟩ (fun i H' _ p => p.2.seq hS) ?_ ?_)
  · rintro i x H' hx ⟨p1, p2⟩
    obtain ⟨z, rfl, hz⟩ := map_get hx
    refine ⟨rfl, ?_⟩
    walk_at "rd"
    refine ⟨_, p1, ?_, ?_, ?_⟩
    · rw [List.length_map, List.length_take]
      exact small1000 (by omega)
    · rw [take_snoc hz, List.map_append]; exact upd_same
    · exact same_own p2 hC
  rintro H1 ⟨c1, g1⟩
  rw [List.length_map, List.take_of_length_le (Nat.le_refl _)] at c1
  walk_at "rd"
  refine ⟨fun σ' H' => σ' = [some (.ref a), some (.int n), some (.ref C), none, none, none, none, none, none] ∧ ∃ cs : List Int, H' C = some (.lst (cs.map V.int)) ∧ Same H H' ∧ cs ≠ [] ∧ cs.length ≤ 64, ?_, ?_⟩
  · walk_at "rd"
    refine rd_len (SqL.of c1) ?_
    walk_at "rd"
    refine iteD (fun c => ?_) (fun c => ?_)
    · walk_at "rd"
      refine ⟨.inl ⟨rfl, _, SqL.of c1⟩, ?_⟩
      walk_at "rd"
      refine ⟨C, _, _, rfl, rfl, c1, by rw [List.length_map]; exact small1000 (by omega), ?_⟩
      refine ⟨rfl, ns ++ [0], by rw [List.map_append]; exact upd_same, same_own g1 hC, by simp, by simp; omega⟩
    · walk_at "rd"
      refine ⟨rfl, ns, c1, g1, fun e => c (by subst e; rfl), by omega⟩
  rintro σ' H2 ⟨rfl, cs, c2, g2, cne, c64⟩
  have clen : 0 < cs.length := List.length_pos_iff.mpr cne
  walk_at "rd"
  refine rd_list (SqL.of c2) fun R hR => ?_
  walk_at "rd"
  refine rd_new (len_ok rfl) fun Dd hD => ?_
  walk_at "rd"
  have nRD : Dd ≠ R := fun e => by rw [e, upd_same] at hD; cases hD
  have hR0 : H R = none := by
    cases e : H R with
    | none => rfl
    | some u => rw [g2 _ _ e] at hR; cases hR
  have hD0 : H Dd = none := by
    cases e : H Dd with
    | none => rfl
    | some u => rw [upd_ne nRD, g2 _ _ e] at hD; cases hD
  have nCR : C ≠ R := ne_of_none c2 hR
  have nCD : C ≠ Dd := fun e => by rw [← e, upd_ne nCR, c2] at hD; cases hD
  refine rd_r1 ⟨by omega, by omega⟩ (for_range (lo := 0) (n := n.toNat) (fun i σ' H' => ∃ (v6 v7 v8 : Option V) (rs ds : List Int), σ' = [some (.ref a), some (.int n), some (.ref C), none, some (.ref R), some (.ref Dd), v6, v7, v8] ∧
    H' C = some (.lst (cs.map V.int)) ∧ H' R = some (.lst (rs.map V.int)) ∧ rs.length = cs.length ∧ H' Dd = some (.lst (ds.map V.int)) ∧ ds.length = i ∧ Same H H')
    ⟨none, none, none, cs, [], rfl, by rw [upd_ne nCD, upd_ne nCR]; exact c2, by rw [upd_ne nRD.symm]; exact upd_same, rfl, upd_same, rfl, same_own (same_own g2 hR0) hD0⟩ ?_ ?_)
  · rintro i σ' H' hi ⟨v6, v7, v8, rs, ds, rfl, e1, e2, e3, e4, e5, g3⟩
    walk_at "rd"
    refine rd_len (SqL.of e1) ?_
    walk_at "rd"
    refine rd_i (by rw [List.length_map]; omega) ?_
    walk_at "rd"
    generalize hj : (0 + (i : Int)).fmod _ = j
    have hj0 : 0 ≤ j ∧ j < cs.length := by
      rw [List.length_map, Int.fmod_eq_emod_of_nonneg _ (by omega)] at hj
      rw [← hj]
      exact ⟨Int.emod_nonneg _ (by omega), Int.emod_lt_of_pos _ (by omega)⟩
    have ixj : ixN rs.length j = some j.toNat := by
      unfold ixN
      rw [if_pos hj0.1, if_pos (by omega)]
    refine rd_ixL (SqL.of e1) (at_ints hj0.1 hj0.2) ?_
    walk_at "rd"
    refine rd_i ⟨by decide, by decide, by decide⟩ ?_
    walk_at "rd"
    have dlen : (ds.map V.int).length < sizeLine := by rw [List.length_map]; exact small1000 (by omega)
    refine iteD (fun c => ?_) (fun c => ?_)
    · walk_at "rd"
      refine ⟨.inl ⟨rfl, _, SqL.of e4⟩, ?_⟩
      walk_at "rd"
      refine rd_ixL (SqL.of e2) (at_ints hj0.1 (by omega)) ?_
      walk_at "rd"
      refine rd_i (by decide) ?_
      walk_at "rd"
      refine ⟨Dd, _, _, rfl, rfl, e4, dlen, ?_⟩
      walk_at "rd"
      refine rd_ixL (SqL.of (by rw [upd_ne nRD.symm]; exact e2)) (at_ints hj0.1 (by omega)) ?_
      walk_at "rd"
      refine rd_i ⟨by decide, by decide⟩ ?_
      refine ⟨_, rfl, _, rfl, R, _, _, j.toNat, rfl, rfl, (by rw [upd_ne nRD.symm]; exact e2), (by rw [List.length_map]; exact ixj), ?_⟩
      refine ⟨_, _, _, rs.set j.toNat ((rs.getD j.toNat 0) / 1000), ds ++ [(rs.getD j.toNat 0).fmod 1000], rfl, ?_, ?_, ?_, ?_, ?_, ?_⟩
      · rw [upd_ne nCR, upd_ne nCD]; exact e1
      · rw [upd_same, List.map_set]
      · rw [List.length_set]; exact e3
      · rw [upd_ne nRD, upd_same, List.map_append]; rfl
      · rw [List.length_append, e5]; rfl
      · exact same_own (same_own g3 hD0) hR0
    · walk_at "rd"
      refine rd_ixL (SqL.of e1) (at_ints hj0.1 hj0.2) ?_
      walk_at "rd"
      refine rd_i (.inr ⟨by decide, by decide⟩) ?_
      walk_at "rd"
      refine rd_i (.inr ⟨by decide, by decide⟩) ?_
      walk_at "rd"
      refine rd_i (by decide) ?_
      walk_at "rd"
      generalize hm : Int.fmod _ 2147483647 = m
      have hm0 : 0 ≤ m ∧ m < 2147483647 := by
        rw [Int.fmod_eq_emod_of_nonneg _ (by decide)] at hm
        rw [← hm]
        exact ⟨Int.emod_nonneg _ (by decide), Int.emod_lt_of_pos _ (by decide)⟩
      refine ⟨.inl ⟨rfl, _, SqL.of e4⟩, ?_⟩
      walk_at "rd"
      refine rd_i (.inl ⟨by omega, by omega⟩) ?_
      walk_at "rd"
      refine rd_i (.inl ⟨by decide, by decide⟩) ?_
      walk_at "rd"
      refine rd_i (by decide) ?_
      walk_at "rd"
      generalize Int.fmod _ 1000003 = x
      refine ⟨Dd, _, _, rfl, rfl, e4, dlen, ?_⟩
      walk_at "rd"
      refine ⟨_, _, _, rs, ds ++ [x], rfl, ?_, ?_, e3, ?_, ?_, ?_⟩
      · rw [upd_ne nCD]; exact e1
      · rw [upd_ne nRD.symm]; exact e2
      · rw [upd_same, List.map_append]; rfl
      · rw [List.length_append, e5]; rfl
      · exact same_own g3 hD0
  · rintro σ' H' ⟨v6, v7, v8, rs, ds, rfl, e1, e2, e3, e4, e5, g3⟩
    walk_at "rd"
    refine ⟨.inl ⟨rfl, _, SqL.of e4⟩, ?_⟩
    refine ⟨Dd, _, rfl, rfl, e4, ?_⟩
    walk_at "rd"
    refine q Dd ds.reverse _ hD0 (by rw [upd_same, List.map_reverse]) (same_own g3 hD0)

end
section
variable {P : Program} {w : World} {K : PySem.W.Frag} {mg : Str → Option Value} {base : Heap}
theorem take_step {d : Addr} {m : Int} {H : Hp} {Q : VK} {E : XK} (hm : 0 < m) (hd : DrAt d H) (q : ∀ (r : Int) (H' : Hp), 0 ≤ r → r < m → Dr d H H' → Q (.int r) H') : spTake [.ref d, .int m] H Q E := by
  obtain ⟨ds, e⟩ := hd
  exact ⟨d, m, ds, rfl, hm, e, q⟩
def spSize (K : PySem.W.Frag) : Sp := fun vs H Q _ => ∃ (d a : Addr) (ns : List Int), vs = [.ref d, .ref a] ∧ DrAt d H ∧ Sc K H d a ns ∧ ns.length ≤ 63 ∧ ∀ (n : Int) (H' : Hp), 0 ≤ n → Dr d H H' → Q (.int n) H'
theorem ok_size (T : Tx mg) {f : Addr} {fd : FuncData} (F : Dn K mg "_law_size" sLSize ["draws", "script"] f fd) {fT : Addr} {fdT : FuncData} (DLTake : Dn K mg "_law_take" sLTake ["draws", "many"] fT fdT) (GLTake : FnOk P w K mg base CX0 1 fT fdT ["draws", "many"] spTake) :
    FnOk P w K mg base CX0 2 f fd ["draws", "script"] (spSize K) := by
  refine F.F.ok scLSize (fun vs H Q E h => ?_) (fun cdv A outer s H vs Q E hr h => ?_)
  · obtain ⟨d, a, ns, rfl, _⟩ := h
    rfl
  obtain ⟨d, a, ns, rfl, hd, hS, h63, q⟩ := h
  have nd := scLSize.nd
  refine ⟨_, (pss_cons (ps_set (i := 2) nd rfl (Or.inl rfl) (pe_call GLTake (hr.mono (by omega)) rfl DLTake.m DLTake.F.kp DLTake.b .nil pass0 (pa_cons (pv 0) (pa_cons pe_int pa_nil))))
  (pss_cons (ps_if (pt_cmpR op_lt (pv 2) pe_int (nomark _)) (pss_one (ps_ret (pe_call GLTake (hr.mono (by omega)) rfl DLTake.m DLTake.F.kp DLTake.b .nil pass0 (pa_cons (pv 0) (pa_cons pe_int pa_nil))))) pss_nil)
  (pss_cons (ps_if (pt_cmpR op_eq (pv 2) pe_int (nomark _)) (pss_one (ps_ret (pe_call GLTake (hr.mono (by omega)) rfl DLTake.m DLTake.F.kp DLTake.b .nil pass0 (pa_cons (pv 0) (pa_cons pe_int pa_nil))))) pss_nil)
  (pss_cons (ps_if (PW.pt (pw_or (pt_cmpR op_eq (pv 2) pe_int (nomark _)) (pw_or1 (pt_cmpR op_eq (pe_callB (k_len K rfl) rfl T.m_len PySem.boot_len (pa_cons (pv 1) pa_nil)) pe_int (nomark _))))) (pss_cons (ps_set (i := 3) nd rfl (Or.inl rfl) pe_int)
  (pss_cons (ps_for PassesOwn.never rfl (pi_range1 rfl T.m_range (pa_cons pe_int pa_nil)) (pg_name (i := 4) nd rfl (Or.inl rfl)) (pss_one (ps_set (i := 3) nd rfl (Or.inl rfl) (pe_op op_add (pe_op op_mul (pv 3) pe_int) (pe_call GLTake (hr.mono (by omega)) rfl DLTake.m DLTake.F.kp DLTake.b .nil pass0 (pa_cons (pv 0) (pa_cons pe_int pa_nil)))))))
  (pss_one (ps_ret (pv 3))))) pss_nil)
  (pss_one (ps_ret (pe_callB c_abs rfl T.m_abs (by decide +kernel) (pa_cons (pe_callTy c_int rfl T.m_int (by decide +kernel) (pa_cons (pe_ix (k_ixL K rfl) (pv 1) (pe_call GLTake (hr.mono (by omega)) rfl DLTake.m DLTake.F.kp DLTake.b .nil pass0 (pa_cons (pv 0) (pa_cons (pe_callB (k_len K rfl) rfl T.m_len PySem.boot_len (pa_cons (pv 1) pa_nil)) pa_nil))) (fun _ _ => rfl)) pa_nil)) pa_nil)))))))), ?_⟩
  walk_at "rd"
  refine take_step (by decide) hd fun r H1 r0 r1 g1 => ?_
  walk_at "rd"
  refine iteD (fun c => ?_) (fun c => ?_)
  · walk_at "rd"
    exact take_step (by decide) g1.isD fun r2 H2 b0 b1 g2 => q _ _ b0 (g1.trans g2)
  walk_at "rd"
  refine iteD (fun c2 => ?_) (fun c2 => ?_)
  · walk_at "rd"
    exact take_step (by decide) g1.isD fun r2 H2 b0 b1 g2 => q _ _ b0 (g1.trans g2)
  walk_at "rd"
  have num : ∀ H1, Dr d H H1 → tSeq (tAsg (tC (V.int 0)) (gName 3)) (tSeq (tFor (iRng1 (tCons (tC (V.int 5)) tNil)) (gName 4) (tAsg (tOp (rI0 fun i j => V.int (i + j)) (tOp (rI CMul fun i j => V.int (i * j)) (tVar 3) (tC (V.int 1000))) (tCall spTake [] E0 (tCons (tVar 0) (tCons (tC (V.int 1000)) tNil)))) (gName 3))) (tRet (tVar 3)))
      { nx := fun _ _ => False, rt := Q } [some (.ref d), some (.ref a), some (.int r), none, none] H1 := by
    intro H1 g1
    walk_at "rd"
    refine rd_r1 ⟨by decide, by decide⟩ (for_range (lo := 0) (n := 5) (fun i σ' H' => ∃ (v4 : Option V) (num : Int), σ' = [some (.ref d), some (.ref a), some (.int r), some (.int num), v4] ∧ 0 ≤ num ∧ Dr d H H') ⟨none, 0, rfl, Int.le_refl 0, g1⟩ ?_ ?_)
    · rintro i σ' H' hi ⟨v4, num, rfl, n0, g2⟩
      walk_at "rd"
      refine rd_i (.inr ⟨by decide, by decide⟩) ?_
      walk_at "rd"
      refine take_step (by decide) g2.isD fun r2 H2 b0 b1 g3 => ?_
      walk_at "rd"
      exact ⟨_, _, rfl, by omega, g2.trans g3⟩
    · rintro σ' H' ⟨v4, num, rfl, n0, g2⟩
      walk_at "rd"
      exact q _ _ n0 g2
  refine iteD (fun c3 => ?_) (fun c3 => ?_)
  · exact num H1 g1
  walk_at "rd"
  have hS1 := (hS.dr g1).now g1.isD
  refine rd_len hS1 ?_
  walk_at "rd"
  refine iteD (fun c4 => ?_) (fun c4 => ?_)
  · exact num H1 g1
  walk_at "rd"
  refine rd_len hS1 ?_
  walk_at "rd"
  have hl : (ns.map V.int).length = ns.length := List.length_map _
  have hpos : 0 < ns.length := by
    rw [hl] at c4
    rcases Nat.eq_zero_or_pos ns.length with e | e
    · exact absurd (by rw [e]; rfl) c4
    · exact e
  refine take_step (by omega) g1.isD fun r2 H2 b0 b1 g2 => ?_
  refine rd_ixL ((hS.dr (g1.trans g2)).now g2.isD) (at_ints b0 (by omega)) ?_
  walk_at "rd"
  refine q _ _ ?_ (g1.trans g2)
  split <;> omega


end
section
variable {P : Program} {w : World} {K : PySem.W.Frag} {mg : Str → Option Value} {base : Heap}
def spGcd : Sp := fun vs H Q _ => ∃ (a b : Nat), vs = [.int a, .int b] ∧ 0 < a ∧ b < 2 ^ 900 ∧ Q (.int (Nat.gcd a b)) H
theorem gcd_turn {x y C i : Nat} (hy : y ≠ 0) (h : i = 0 ∧ y * y ≤ C ∨ 1 ≤ i ∧ y < x ∧ x * y * 2 ^ (i - 1) ≤ C) : x % y < y ∧ y * (x % y) * 2 ^ (i + 1 - 1) ≤ C := by
  have hlt : x % y < y := Nat.mod_lt _ (Nat.pos_of_ne_zero hy)
  refine ⟨hlt, ?_⟩
  rcases h with ⟨rfl, h⟩ | ⟨hi, hxy, h⟩
  · show y * (x % y) * 1 ≤ C
    rw [Nat.mul_one]
    exact Nat.le_trans (Nat.mul_le_mul_left y (Nat.le_of_lt hlt)) h
  · obtain ⟨j, rfl⟩ : ∃ j, i = j + 1 := ⟨i - 1, by omega⟩
    show y * (x % y) * 2 ^ (j + 1) ≤ C
    have h' : x * y * 2 ^ j ≤ C := h
    have q : 1 ≤ x / y := (Nat.one_le_div_iff (Nat.pos_of_ne_zero hy)).mpr (Nat.le_of_lt hxy)
    have e : y * (x / y) + x % y = x := Nat.div_add_mod x y
    have e2 : y + x % y ≤ x := by
      have : y * 1 ≤ y * (x / y) := Nat.mul_le_mul_left y q
      omega
    have e3 : 2 * (x % y) ≤ x := by omega
    have e4 : y * (x % y) * 2 ≤ x * y := by
      calc y * (x % y) * 2 = y * (2 * (x % y)) := by rw [Nat.mul_assoc, Nat.mul_comm (x % y) 2]
        _ ≤ y * x := Nat.mul_le_mul_left y e3
        _ = x * y := Nat.mul_comm y x
    calc y * (x % y) * 2 ^ (j + 1) = y * (x % y) * 2 * 2 ^ j := by rw [Nat.pow_succ, Nat.mul_comm (2 ^ j) 2, Nat.mul_assoc (y * (x % y))]
      _ ≤ x * y * 2 ^ j := Nat.mul_le_mul_right _ e4
      _ ≤ C := h'
theorem gcd_end {x y C n : Nat} (hn : 1 ≤ n) (hC : C < 2 ^ (n - 1)) (h : n = 0 ∧ y * y ≤ C ∨ 1 ≤ n ∧ y < x ∧ x * y * 2 ^ (n - 1) ≤ C) : y = 0 := by
  rcases h with ⟨rfl, _⟩ | ⟨_, hxy, h⟩
  · omega
  · rcases Nat.eq_zero_or_pos y with e | e
    · exact e
    · have h1 : 1 ≤ x * y := Nat.mul_pos (by omega) e
      have h2 : 1 * 2 ^ (n - 1) ≤ x * y * 2 ^ (n - 1) := Nat.mul_le_mul_right _ h1
      omega
theorem big_sq {b : Nat} (h : b < 2 ^ 900) : b * b < 2 ^ (2000 - 1) := by
  have h1 : b * b < 2 ^ 900 * 2 ^ 900 := Nat.mul_lt_mul'' h h
  rw [← Nat.pow_add] at h1
  exact Nat.lt_of_lt_of_le h1 (Nat.pow_le_pow_right (by decide) (by decide))
theorem ok_gcd (T : Tx mg) {f : Addr} {fd : FuncData} (F : Dn K mg "_law_gcd" sLGcd ["a", "b"] f fd) : FnOk P w K mg base CX0 1 f fd ["a", "b"] spGcd := by
  refine F.F.ok scLGcd (fun vs H Q E h => ?_) (fun cdv A outer s H vs Q E hr h => ?_)
  · obtain ⟨d, m, rfl, _⟩ := h
    rfl
  obtain ⟨a, b, rfl, ha, hb, q⟩ := h
  have nd := scLGcd.nd
  refine ⟨_, (pss_cons (ps_for PassesOwn.never rfl (pi_range1 rfl T.m_range (pa_cons pe_int pa_nil)) (pg_name (i := 2) nd rfl (Or.inl rfl)) (pss_cons (ps_if (pt_cmpR op_eq (pv 1) pe_int (nomark _)) (pss_one ps_break) pss_nil)
  (pss_cons (ps_set (i := 3) nd rfl (Or.inl rfl) (pe_op op_modN (pe_callTy c_int rfl T.m_int (by decide +kernel) (pa_cons (pv 0) pa_nil)) (pv 1)))
  (pss_cons (ps_set (i := 0) nd rfl (Or.inl rfl) (pv 1))
  (pss_one (ps_set (i := 1) nd rfl (Or.inl rfl) (pv 3)))))))
  (pss_one (ps_ret (pv 0)))), ?_⟩
  walk_at "rd"
  refine rd_r1 ⟨by decide, by decide⟩ (for_range (lo := 0) (n := 2000) (fun i σ' H' => ∃ (v2 v3 : Option V) (x y : Nat), σ' = [some (.int x), some (.int y), v2, v3] ∧ 0 < x ∧ Nat.gcd x y = Nat.gcd a b ∧ (i = 0 ∧ y * y ≤ b * b ∨ 1 ≤ i ∧ y < x ∧ x * y * 2 ^ (i - 1) ≤ b * b) ∧ H' = H)
    ⟨none, none, a, b, rfl, ha, rfl, .inl ⟨rfl, Nat.le_refl _⟩, rfl⟩ ?_ ?_)
  · rintro i σ' H' hi ⟨v2, v3, x, y, rfl, hx, hg, hm, rfl⟩
    walk_at "rd"
    refine iteD (fun c => ?_) (fun c => ?_)
    · show tBreak _ _ _
      have ey : y = 0 := by
        have := V.int.inj c
        omega
      subst ey
      rw [Nat.gcd_zero_right] at hg
      subst hg
      show tRet (tVar 0) _ _ _
      walk_at "rd"
      exact q
    · walk_at "rd"
      have ey : y ≠ 0 := fun e => c (by subst e; rfl)
      refine rd_i (by omega) ?_
      walk_at "rd"
      have em : ((x : Int)).fmod (y : Int) = ((x % y : Nat) : Int) := by
        rw [Int.fmod_eq_emod_of_nonneg _ (by omega), Int.natCast_emod]
      rw [em]
      obtain ⟨t1, t2⟩ := gcd_turn (x := x) (C := b * b) ey hm
      refine ⟨_, _, y, x % y, rfl, by omega, ?_, .inr ⟨by omega, t1, t2⟩, rfl⟩
      rw [← hg, Nat.gcd_comm y (x % y), ← Nat.gcd_rec, Nat.gcd_comm]
  · rintro σ' H' ⟨v2, v3, x, y, rfl, hx, hg, hm, rfl⟩
    walk_at "rd"
    have ey : y = 0 := gcd_end (by decide) (big_sq hb) hm
    subst ey
    rw [Nat.gcd_zero_right] at hg
    subst hg
    exact q

end
section
variable {P : Program} {w : World} {K : PySem.W.Frag} {mg : Str → Option Value} {base : Heap}
def spPlusS (K : PySem.W.Frag) : Sp := fun vs H Q _ => ∃ (v : V) (h : Hs) (a b : Int), vs = [v, .int a, .int b] ∧ Rp K H v h.td ∧ h ∈ smalls ∧ a ∈ h.wsI ∧ b ∈ h.wsI ∧ Q (.int (h.plusI a b)) H
theorem ok_plusS (T : Tx mg) {f : Addr} {fd : FuncData} (F : Dn K mg "_law_plus" sLPlus ["house", "a", "b"] f fd) {fG : Addr} {fdG : FuncData} (DLGcd : Dn K mg "_law_gcd" sLGcd ["a", "b"] fG fdG) (GLGcd : FnOk P w K mg base CX0 1 fG fdG ["a", "b"] spGcd) :
    FnOk P w K mg base CX0 2 f fd ["house", "a", "b"] (spPlusS K) := by
  refine F.F.ok scLPlus (fun vs H Q E h => ?_) (fun cdv A outer s H vs Q E hr h => ?_)
  · obtain ⟨v, h, a, b, rfl, _⟩ := h
    rfl
  obtain ⟨v, h, a, b, rfl, r, hh, ha, hb, q⟩ := h
  have nd := scLPlus.nd
  have ra := sm_rng h hh a ha
  have rb := sm_rng h hh b hb
  refine ⟨_, (pss_cons (ps_set (i := 3) nd rfl (Or.inl rfl) (pe_ix (k_ixT K rfl) (pv 0) pe_int (fun _ _ => rfl)))
  (pss_cons (ps_if (pt_cmpR op_eq (pv 3) pe_str (nomark _)) pss_never pss_nil)
  (pss_cons (ps_if (pt_cmpR op_eq (pv 3) pe_str (nomark _)) pss_never pss_nil)
  (pss_cons (ps_if (pt_cmpR op_eq (pv 3) pe_str (nomark _)) pss_never pss_nil)
  (pss_cons (ps_if (pt_cmpR op_eq (pv 3) pe_str (nomark _)) (pss_one (ps_ret (pe_callB (c_min rfl) rfl T.m_min (by decide +kernel) (pa_cons (pe_ix (k_ixT K rfl) (pv 0) pe_int (fun _ _ => rfl)) (pa_cons (pe_op op_add (pv 1) (pv 2)) pa_nil))))) pss_nil)
  (pss_cons (ps_if (pt_cmpR op_eq (pv 3) pe_str (nomark _)) (pss_one (ps_ret (pe_op op_modN (pe_callTy c_int rfl T.m_int (by decide +kernel) (pa_cons (pe_op op_add (pv 1) (pv 2)) pa_nil)) (pe_ix (k_ixT K rfl) (pv 0) pe_int (fun _ _ => rfl))))) pss_nil)
  (pss_cons (ps_if (PW.pt (pw_or (pt_cmpR op_eq (pv 3) pe_str (nomark _)) (pw_or1 (pt_cmpR op_eq (pv 3) pe_str (nomark _))))) (pss_one (ps_ret (pe_callB (c_max rfl) rfl T.m_max (by decide +kernel) (pa_cons (pv 1) (pa_cons (pv 2) pa_nil))))) pss_nil)
  (pss_cons (ps_if (pt_cmpR op_eq (pv 3) pe_str (nomark _)) (pss_one (ps_ret (pe_op op_fdiv (pe_op op_mul (pv 1) (pv 2)) (pe_call GLGcd (hr.mono (by omega)) rfl DLGcd.m DLGcd.F.kp DLGcd.b .nil pass0 (pa_cons (pv 1) (pa_cons (pv 2) pa_nil)))))) pss_nil)
  pss_never)))))))), ?_⟩
  rcases small_is hh with ⟨n, rfl, n1, n2⟩ | ⟨n, rfl, n1, n2⟩ | ⟨n, rfl, n1, n2⟩ | ⟨n, rfl, n1, n2⟩ | rfl
  · obtain ⟨p, rfl, s⟩ := r.one
    walk_at "rd"
    refine rd_ixT s rfl ?_
    walk_at "dec"
    refine rd_ixT s rfl ?_
    walk_at "dec"
    exact q
  · obtain ⟨p, rfl, s⟩ := r.one
    walk_at "rd"
    refine rd_ixT s rfl ?_
    walk_at "dec"
    refine rd_ixT s rfl ?_
    refine rd_i (by omega) ?_
    rw [Int.fmod_eq_emod_of_nonneg _ (by omega)]
    exact q
  · obtain ⟨p, rfl, s⟩ := r.one
    walk_at "rd"
    refine rd_ixT s rfl ?_
    walk_at "dec"
    exact q
  · obtain ⟨p, rfl, s⟩ := r.one
    have a1 := sm_div n (sm_divs hh) a ha
    have b1 := sm_div n (sm_divs hh) b hb
    obtain ⟨x, rfl⟩ : ∃ x : Nat, a = (x : Int) := ⟨a.toNat, by omega⟩
    obtain ⟨y, rfl⟩ : ∃ y : Nat, b = (y : Int) := ⟨b.toNat, by omega⟩
    walk_at "rd"
    refine rd_ixT s rfl ?_
    walk_at "dec"
    refine rd_i (.inl ⟨by omega, by omega⟩) ?_
    walk_at "rd"
    have hg : 0 < Nat.gcd x y := Nat.gcd_pos_of_pos_left _ (by omega)
    have hg2 : Nat.gcd x y ≤ x := Nat.gcd_le_left _ (by omega)
    refine ⟨x, y, rfl, by omega, Nat.lt_of_lt_of_le (show y < 2 ^ 4 by omega) (Nat.pow_le_pow_right (by decide) (by decide)), ?_⟩
    refine rd_i ⟨by omega, by omega⟩ ?_
    exact q
  · obtain ⟨p, rfl, s⟩ := r.nul
    walk_at "rd"
    refine rd_ixT s rfl ?_
    walk_at "dec"
    exact q


end
section
variable {P : Program} {w : World} {K : PySem.W.Frag} {mg : Str → Option Value} {base : Heap}
def spTimesS (K : PySem.W.Frag) : Sp := fun vs H Q _ => ∃ (v : V) (h : Hs) (a b : Int), vs = [v, .int a, .int b] ∧ Rp K H v h.td ∧ h ∈ smalls ∧ a ∈ h.wsI ∧ b ∈ h.wsI ∧ Q (.int (h.timesI a b)) H
theorem ok_timesS (T : Tx mg) {f : Addr} {fd : FuncData} (F : Dn K mg "_law_times" sLTimes ["house", "a", "b"] f fd) {fG : Addr} {fdG : FuncData} (DLGcd : Dn K mg "_law_gcd" sLGcd ["a", "b"] fG fdG) (GLGcd : FnOk P w K mg base CX0 1 fG fdG ["a", "b"] spGcd) :
    FnOk P w K mg base CX0 2 f fd ["house", "a", "b"] (spTimesS K) := by
  refine F.F.ok scLTimes (fun vs H Q E h => ?_) (fun cdv A outer s H vs Q E hr h => ?_)
  · obtain ⟨v, h, a, b, rfl, _⟩ := h
    rfl
  obtain ⟨v, h, a, b, rfl, r, hh, ha, hb, q⟩ := h
  have nd := scLTimes.nd
  have ra := sm_rng h hh a ha
  have rb := sm_rng h hh b hb
  refine ⟨_, (pss_cons (ps_set (i := 3) nd rfl (Or.inl rfl) (pe_ix (k_ixT K rfl) (pv 0) pe_int (fun _ _ => rfl)))
  (pss_cons (ps_if (pt_cmpR op_eq (pv 3) pe_str (nomark _)) pss_never pss_nil)
  (pss_cons (ps_if (pt_cmpR op_eq (pv 3) pe_str (nomark _)) pss_never pss_nil)
  (pss_cons (ps_if (pt_cmpR op_eq (pv 3) pe_str (nomark _)) pss_never pss_nil)
  (pss_cons (ps_if (pt_cmpR op_eq (pv 3) pe_str (nomark _)) (pss_one (ps_ret (pe_callB (c_min rfl) rfl T.m_min (by decide +kernel) (pa_cons (pe_ix (k_ixT K rfl) (pv 0) pe_int (fun _ _ => rfl)) (pa_cons (pe_op op_mul (pv 1) (pv 2)) pa_nil))))) pss_nil)
  (pss_cons (ps_if (pt_cmpR op_eq (pv 3) pe_str (nomark _)) (pss_one (ps_ret (pe_op op_modN (pe_callTy c_int rfl T.m_int (by decide +kernel) (pa_cons (pe_op op_mul (pv 1) (pv 2)) pa_nil)) (pe_ix (k_ixT K rfl) (pv 0) pe_int (fun _ _ => rfl))))) pss_nil)
  (pss_cons (ps_if (PW.pt (pw_or (pt_cmpR op_eq (pv 3) pe_str (nomark _)) (pw_or1 (pt_cmpR op_eq (pv 3) pe_str (nomark _))))) (pss_one (ps_ret (pe_callB (c_min rfl) rfl T.m_min (by decide +kernel) (pa_cons (pv 1) (pa_cons (pv 2) pa_nil))))) pss_nil)
  (pss_cons (ps_if (pt_cmpR op_eq (pv 3) pe_str (nomark _)) (pss_one (ps_ret (pe_call GLGcd (hr.mono (by omega)) rfl DLGcd.m DLGcd.F.kp DLGcd.b .nil pass0 (pa_cons (pv 1) (pa_cons (pv 2) pa_nil))))) pss_nil)
  pss_never)))))))), ?_⟩
  rcases small_is hh with ⟨n, rfl, n1, n2⟩ | ⟨n, rfl, n1, n2⟩ | ⟨n, rfl, n1, n2⟩ | ⟨n, rfl, n1, n2⟩ | rfl
  · obtain ⟨p, rfl, s⟩ := r.one
    walk_at "rd"
    refine rd_ixT s rfl ?_
    walk_at "dec"
    refine rd_ixT s rfl ?_
    walk_at "dec"
    refine rd_i (.inl ⟨by omega, by omega⟩) ?_
    walk_at "dec"
    exact q
  · obtain ⟨p, rfl, s⟩ := r.one
    walk_at "rd"
    refine rd_ixT s rfl ?_
    walk_at "dec"
    refine rd_i (.inl ⟨by omega, by omega⟩) ?_
    walk_at "dec"
    refine rd_ixT s rfl ?_
    refine rd_i (by omega) ?_
    rw [Int.fmod_eq_emod_of_nonneg _ (by omega)]
    exact q
  · obtain ⟨p, rfl, s⟩ := r.one
    walk_at "rd"
    refine rd_ixT s rfl ?_
    walk_at "dec"
    exact q
  · obtain ⟨p, rfl, s⟩ := r.one
    have a1 := sm_div n (sm_divs hh) a ha
    have b1 := sm_div n (sm_divs hh) b hb
    obtain ⟨x, rfl⟩ : ∃ x : Nat, a = (x : Int) := ⟨a.toNat, by omega⟩
    obtain ⟨y, rfl⟩ : ∃ y : Nat, b = (y : Int) := ⟨b.toNat, by omega⟩
    walk_at "rd"
    refine rd_ixT s rfl ?_
    walk_at "dec"
    exact ⟨x, y, rfl, by omega, Nat.lt_of_lt_of_le (show y < 2 ^ 4 by omega) (Nat.pow_le_pow_right (by decide) (by decide)), q⟩
  · obtain ⟨p, rfl, s⟩ := r.nul
    walk_at "rd"
    refine rd_ixT s rfl ?_
    walk_at "dec"
    exact q


end
section
variable {P : Program} {w : World} {K : PySem.W.Frag} {mg : Str → Option Value} {base : Heap}
def spAllW (K : PySem.W.Frag) : Sp := fun vs H Q _ => ∃ (v : V) (h : Hs), vs = [v] ∧ Rp K H v h.td ∧ h ∈ smalls ∧ ∀ (l : Addr) (H' : Hp), H l = none → Same H H' → H' l = some (.lst (h.wsI.map V.int)) → Q (.ref l) H'
def divsTo (n : Int) (i : Nat) : List Int := ((List.range i).map fun j => (1 : Int) + (j : Nat)).filter fun k => decide (n % k = 0)
theorem divsTo_succ (n : Int) (i : Nat) : divsTo n (i + 1) = divsTo n i ++ (if n % (1 + (i : Int)) = 0 then [1 + (i : Int)] else []) := by
  unfold divsTo
  rw [List.range_succ, List.map_append, List.filter_append]
  congr 1
  by_cases h : n % (1 + (i : Int)) = 0 <;> simp [h]
theorem divsTo_len (n : Int) (i : Nat) : (divsTo n i).length ≤ i := by
  refine Nat.le_trans (List.length_filter_le _ _) ?_
  simp
theorem divs_end : ∀ n ∈ [(6 : Int), 4, 8, 5, 12], divsTo n n.toNat = (Hs.divisors n).wsI := by decide +kernel
def cnt (i : Nat) : List Int := (List.range i).map Int.ofNat
theorem cnt_succ (i : Nat) : cnt (i + 1) = cnt i ++ [(i : Int)] := by
  unfold cnt
  rw [List.range_succ, List.map_append]; rfl
theorem cnt_len (i : Nat) : (cnt i).length = i := by simp [cnt]
theorem ok_allw (T : Tx mg) {f : Addr} {fd : FuncData} (F : Dn K mg "_law_all_worths" sLAllWorths ["house"] f fd) : FnOk P w K mg base CX0 1 f fd ["house"] (spAllW K) := by
  refine F.F.ok scLAllWorths (fun vs H Q E h => ?_) (fun cdv A outer s H vs Q E hr h => ?_)
  · obtain ⟨v, h, rfl, _⟩ := h
    rfl
  obtain ⟨v, h, rfl, r, hh, q⟩ := h
  have nd := scLAllWorths.nd
  refine ⟨_, (pss_cons (ps_if (pt_cmpR op_eq (pe_ix (k_ixT K rfl) (pv 0) pe_int (fun _ _ => rfl)) pe_str (nomark _)) (pss_one (ps_ret (pe_lc (own := [("k", (1 : Nat))]) (g := gName 1) rfl nd (pi_range2 rfl T.m_range (pa_cons pe_int (pa_cons (pe_op op_add (pe_ix (k_ixT K rfl) (pv 0) pe_int (fun _ _ => rfl)) pe_int) pa_nil))) (blkOk_by (own := [("k", (1 : Nat))]) (N := nLAllWorths) (sc := defScope sLAllWorths) (by decide +kernel)) (fun _ _ _ _ _ => pg_name (i := 1) nd rfl (Or.inl rfl)) (fun _ _ _ _ _ => (pts_one (pt_cmpR op_eq (pe_op op_modN (pe_callTy c_int rfl T.m_int (by decide +kernel) (pa_cons (pe_ix (k_ixT K rfl) (pv 0) pe_int (fun _ _ => rfl)) pa_nil)) (pv 1)) pe_int (nomark _)))) (fun _ _ _ _ _ => (pv 1))))) pss_nil)
  (pss_cons (ps_if (pt_cmpR op_eq (pe_ix (k_ixT K rfl) (pv 0) pe_int (fun _ _ => rfl)) pe_str (nomark _)) (pss_one (ps_ret (pe_lst (pa_cons pe_int (pa_cons pe_int pa_nil))))) pss_nil)
  (pss_one (ps_ret (pe_lc (own := [("k", (1 : Nat))]) (g := gName 1) rfl nd (pi_range1 rfl T.m_range (pa_cons (pe_op op_add (pe_ix (k_ixT K rfl) (pv 0) pe_int (fun _ _ => rfl)) (pe_callTy c_int rfl T.m_int (by decide +kernel) (pa_cons (pe_cmpR op_ne (pe_ix (k_ixT K rfl) (pv 0) pe_int (fun _ _ => rfl)) pe_str (nomark _)) pa_nil))) pa_nil)) (blkOk_by (own := [("k", (1 : Nat))]) (N := nLAllWorths) (sc := defScope sLAllWorths) (by decide +kernel)) (fun _ _ _ _ _ => pg_name (i := 1) nd rfl (Or.inl rfl)) (fun _ _ _ _ _ => pts_nil) (fun _ _ _ _ _ => (pv 1))))))), ?_⟩
  have fin : ∀ {σ : L2.St} {m : Nat}, m ≤ 100 → h.wsI = cnt m → σ.length = 2 → tLcJ (Itr 0 m) (gName 1) tYes (tVar 1) [1] σ H Q := by
    intro σ m hm e hσ L hL
    refine lc_range (lo := 0) (n := m) (fun i H' => H' L = some (.lst ((cnt i).map V.int)) ∧ Same H H') ⟨upd_same, same_new hL⟩ ?_ ?_
    · rintro i H' hi ⟨e1, g⟩
      have hw : (wipe σ [1]).length = 2 := by rw [wipe_length, hσ]
      refine ⟨by simp [wipe], ?_⟩
      walk_at "rd"
      refine rd_var (List.getElem?_set_self (by omega)) ?_
      refine ⟨_, e1, by rw [List.length_map, cnt_len]; exact small1000 (by omega), ?_, same_own g hL⟩
      rw [upd_same, cnt_succ, List.map_append, Int.zero_add]; rfl
    · rintro H' ⟨e1, g⟩
      exact q L H' hL g (by rw [e]; exact e1)
  rcases small_is hh with ⟨n, rfl, n1, n2⟩ | ⟨n, rfl, n1, n2⟩ | ⟨n, rfl, n1, n2⟩ | ⟨n, rfl, n1, n2⟩ | rfl
  · obtain ⟨p, rfl, s⟩ := r.one
    walk_at "rd"
    refine rd_ixT s rfl ?_
    walk_at "dec"
    refine rd_ixT s rfl ?_
    walk_at "dec"
    refine rd_ixT s rfl ?_
    walk_at "dec"
    refine rd_ixT s rfl ?_
    walk_at "dec"
    rw [show (if (!decide (V.str "capped" = V.str "modulo")) = true then (1 : Int) else 0) = 1 by decide +kernel]
    exact rd_r1 ⟨by omega, by omega⟩ (fin (by omega) rfl rfl)
  · obtain ⟨p, rfl, s⟩ := r.one
    walk_at "rd"
    refine rd_ixT s rfl ?_
    walk_at "dec"
    refine rd_ixT s rfl ?_
    walk_at "dec"
    refine rd_ixT s rfl ?_
    walk_at "dec"
    refine rd_ixT s rfl ?_
    walk_at "dec"
    rw [show (if (!decide (V.str "modulo" = V.str "modulo")) = true then (1 : Int) else 0) = 0 by decide +kernel, Int.add_zero]
    exact rd_r1 ⟨by omega, by omega⟩ (fin (by omega) rfl rfl)
  · obtain ⟨p, rfl, s⟩ := r.one
    walk_at "rd"
    refine rd_ixT s rfl ?_
    walk_at "dec"
    refine rd_ixT s rfl ?_
    walk_at "dec"
    refine rd_ixT s rfl ?_
    walk_at "dec"
    refine rd_ixT s rfl ?_
    walk_at "dec"
    rw [show (if (!decide (V.str "chain" = V.str "modulo")) = true then (1 : Int) else 0) = 1 by decide +kernel]
    exact rd_r1 ⟨by omega, by omega⟩ (fin (by omega) rfl rfl)
  · obtain ⟨p, rfl, s⟩ := r.one
    walk_at "rd"
    refine rd_ixT s rfl ?_
    walk_at "dec"
    refine rd_ixT s rfl ?_
    walk_at "dec"
    refine rd_r2 ⟨by omega, by omega⟩ ⟨by omega, by omega⟩ fun L hL => ?_
    refine lc_range (lo := 1) (n := (n + 1 - 1).toNat) (fun i H' => H' L = some (.lst ((divsTo n i).map V.int)) ∧ Same H H') ⟨upd_same, same_new hL⟩ ?_ ?_
    · rintro i H' hi ⟨e1, g⟩
      refine ⟨rfl, ?_⟩
      walk_at "rd"
      refine rd_ixT (same_sqt g s) rfl ?_
      walk_at "rd"
      refine rd_i (by omega) ?_
      walk_at "rd"
      rw [Int.fmod_eq_emod_of_nonneg _ (by omega)]
      refine iteD (fun c => ?_) (fun c => ?_)
      · walk_at "rd"
        refine ⟨_, e1, ?_, ?_, same_own g hL⟩
        · rw [List.length_map]; exact small1000 (Nat.le_trans (divsTo_len n i) (by omega))
        · rw [upd_same, divsTo_succ, if_pos (V.int.inj c), List.map_append]; rfl
      · refine ⟨?_, g⟩
        rw [divsTo_succ, if_neg (fun e => c (by rw [e])), List.append_nil]; exact e1
    · rintro H' ⟨e1, g⟩
      rw [show (n + 1 - 1).toNat = n.toNat by omega, divs_end n (sm_divs hh)] at e1
      exact q L H' hL g e1
  · obtain ⟨p, rfl, s⟩ := r.nul
    walk_at "rd"
    refine rd_ixT s rfl ?_
    walk_at "dec"
    refine rd_ixT s rfl ?_
    walk_at "dec"
    refine rd_new (len_ok rfl) fun L hL => ?_
    exact q L _ hL (same_new hL) upd_same

end
section
variable {P : Program} {w : World} {K : PySem.W.Frag} {mg : Str → Option Value} {base : Heap}
def spSame (K : PySem.W.Frag) (n : Nat) : Sp := fun vs H Q _ => ∃ (x y : V) (t : TD), vs = [x, y] ∧ Rp K H x t ∧ Rp K H y t ∧ t.fit n ∧ ∀ H', Same H H' → Q (.bl true) H'
theorem ok_same_turn (T : Tx mg) {n : Nat} {f : Addr} {fd : FuncData} (DLSame : Dn K mg "_law_same" sLSame ["actual", "due"] f fd) (GLSame : FnOk P w K mg base CX0 n f fd ["actual", "due"] (spSame K n)) :
    FnOk P w K mg base CX0 (n + 1) f fd ["actual", "due"] (spSame K (n + 1)) := by
  refine DLSame.F.ok scLSame (fun vs H Q E h => ?_) (fun cdv A outer s H vs Q E hr h => ?_)
  · obtain ⟨x, y, t, rfl, _⟩ := h
    rfl
  obtain ⟨x, y, t, rfl, rx, ry, ft, q⟩ := h
  have nd := scLSame.nd
  refine ⟨_, (pss_cons (ps_if (pt_val (pe_callB (k_isiT K rfl) rfl T.m_isinstance (by decide +kernel) (pa_cons (pv 1) (pa_cons (pe_tup (pa_cons (pe_bltn (v := .ty "tuple") rfl T.m_tuple (by decide +kernel) rfl) (pa_cons (pe_bltn (v := .ty "list") rfl T.m_list (by decide +kernel) rfl) pa_nil))) pa_nil)))) (pss_cons (ps_if (PW.pt (pw_or (pt_cmpR op_ne (pe_callB (k_isi K rfl) rfl T.m_isinstance (by decide +kernel) (pa_cons (pv 0) (pa_cons (pe_bltn (v := .ty "tuple") rfl T.m_tuple (by decide +kernel) rfl) pa_nil))) (pe_callB (k_isi K rfl) rfl T.m_isinstance (by decide +kernel) (pa_cons (pv 1) (pa_cons (pe_bltn (v := .ty "tuple") rfl T.m_tuple (by decide +kernel) rfl) pa_nil))) (nomark _)) (pw_or1 (pt_cmpR op_ne (pe_callB (k_isi K rfl) rfl T.m_isinstance (by decide +kernel) (pa_cons (pv 0) (pa_cons (pe_bltn (v := .ty "list") rfl T.m_list (by decide +kernel) rfl) pa_nil))) (pe_callB (k_isi K rfl) rfl T.m_isinstance (by decide +kernel) (pa_cons (pv 1) (pa_cons (pe_bltn (v := .ty "list") rfl T.m_list (by decide +kernel) rfl) pa_nil))) (nomark _))))) (pss_one (ps_ret pe_bl)) pss_nil)
  (pss_cons (ps_if (pt_cmpR op_ne (pe_callB (k_len K rfl) rfl T.m_len PySem.boot_len (pa_cons (pv 0) pa_nil)) (pe_callB (k_len K rfl) rfl T.m_len PySem.boot_len (pa_cons (pv 1) pa_nil)) (nomark _)) (pss_one (ps_ret pe_bl)) pss_nil)
  (pss_one (ps_ret (pe_cmpR (k_notIn K rfl) pe_bl (pe_lc (own := [("k", (2 : Nat))]) (g := gName 2) rfl nd (pi_range1 rfl T.m_range (pa_cons (pe_callB (k_len K rfl) rfl T.m_len PySem.boot_len (pa_cons (pv 1) pa_nil)) pa_nil)) (blkOk_by (own := [("k", (2 : Nat))]) (N := nLSame) (sc := defScope sLSame) (by decide +kernel)) (fun _ _ _ _ _ => pg_name (i := 2) nd rfl (Or.inl rfl)) (fun _ _ _ _ _ => pts_nil) (fun _ _ _ _ _ => (pe_call GLSame (hr.mono (by omega)) rfl DLSame.m DLSame.F.kp DLSame.b .nil pass0 (pa_cons (pe_ix (k_ixT K rfl) (pv 0) (pv 2) (fun _ _ => rfl)) (pa_cons (pe_ix (k_ixT K rfl) (pv 1) (pv 2) (fun _ _ => rfl)) pa_nil))))) rfl))))) pss_nil)
  (pss_cons (ps_if (PW.pt (pw_or (pt_cmpR op_ne (pe_callB (k_isi K rfl) rfl T.m_isinstance (by decide +kernel) (pa_cons (pv 0) (pa_cons (pe_bltn (v := .ty "bool") rfl T.m_bool (by decide +kernel) rfl) pa_nil))) (pe_callB (k_isi K rfl) rfl T.m_isinstance (by decide +kernel) (pa_cons (pv 1) (pa_cons (pe_bltn (v := .ty "bool") rfl T.m_bool (by decide +kernel) rfl) pa_nil))) (nomark _)) (pw_or1 (pt_cmpR op_ne (pe_callB (k_isi K rfl) rfl T.m_isinstance (by decide +kernel) (pa_cons (pv 0) (pa_cons (pe_bltn (v := .ty "int") rfl T.m_int (by decide +kernel) rfl) pa_nil))) (pe_callB (k_isi K rfl) rfl T.m_isinstance (by decide +kernel) (pa_cons (pv 1) (pa_cons (pe_bltn (v := .ty "int") rfl T.m_int (by decide +kernel) rfl) pa_nil))) (nomark _))))) (pss_one (ps_ret pe_bl)) pss_nil)
  (pss_cons (ps_if (PW.pt (pw_or (pt_cmpR op_ne (pe_callB (k_isi K rfl) rfl T.m_isinstance (by decide +kernel) (pa_cons (pv 0) (pa_cons (pe_bltn (v := .ty "str") rfl T.m_str (by decide +kernel) rfl) pa_nil))) (pe_callB (k_isi K rfl) rfl T.m_isinstance (by decide +kernel) (pa_cons (pv 1) (pa_cons (pe_bltn (v := .ty "str") rfl T.m_str (by decide +kernel) rfl) pa_nil))) (nomark _)) (pw_or1 (pt_cmpR op_ne (pe_cmpR o_isN (pv 0) pe_non (nomark _)) (pe_cmpR o_isN (pv 1) pe_non (nomark _)) (nomark _))))) (pss_one (ps_ret pe_bl)) pss_nil)
  (pss_one (ps_ret (pe_cmpR op_eq (pv 0) (pv 1) (nomark _))))))), ?_⟩
  cases t with
  | tup ds =>
    obtain ⟨flen, fall⟩ := ft
    cases rx with
    | @tup a xs _ sx ax =>
    cases ry with
    | @tup b ys _ sy ay =>
    have lx : xs.length = ds.length := ax.length
    have ly : ys.length = ds.length := ay.length
    walk_at "rd"
    refine rd_new (len_ok rfl) fun tp htp => ?_
    walk_at "rd"
    have g0 : Same H (upd H tp (.tup [.ty "tuple", .ty "list"])) := same_new htp
    refine rd_isiT (b := true) upd_same (.cons (.ty _) (.cons (.ty _) .nil)) (sqt_ty (same_sqt g0 sy)) kt_tup ?_
    walk_at "rd"
    refine rd_isi (.ty _) (sqt_ty (same_sqt g0 sx)) (kit_ty (r := true) (by decide +kernel)) ?_
    walk_at "rd"
    refine rd_isi (.ty _) (sqt_ty (same_sqt g0 sy)) (kit_ty (r := true) (by decide +kernel)) ?_
    walk_at "dec"
    refine rd_isi (.ty _) (sqt_ty (same_sqt g0 sx)) (kit_ty (r := false) (by decide +kernel)) ?_
    walk_at "rd"
    refine rd_isi (.ty _) (sqt_ty (same_sqt g0 sy)) (kit_ty (r := false) (by decide +kernel)) ?_
    walk_at "dec"
    refine rd_lenT (same_sqt g0 sx) ?_
    walk_at "rd"
    refine rd_lenT (same_sqt g0 sy) ?_
    walk_at "rd"
    refine iteNF (by rw [lx, ly]) ?_
    walk_at "rd"
    refine rd_lenT (same_sqt g0 sy) ?_
    walk_at "rd"
    refine rd_r1 ⟨by omega, by omega⟩ fun D hD => ?_
    refine lc_range (lo := 0) (n := (ys.length : Int).toNat) (fun i H' => H' D = some (.lst (List.replicate i (.bl true))) ∧ Same H H') ⟨upd_same, (g0.trans (same_new hD))⟩ ?_ ?_
    · rintro i H' hi ⟨e1, g1⟩
      refine ⟨rfl, ?_⟩
      have hi' : i < ds.length := by omega
      obtain ⟨v, hv, rv⟩ := ax.get (i := i) (List.getElem?_eq_getElem hi')
      obtain ⟨u, hu, ru⟩ := ay.get (i := i) (List.getElem?_eq_getElem hi')
      walk_at "rd"
      rw [Int.zero_add]
      refine rd_ixT (same_sqt g1 sx) (atI_nat hv) ?_
      walk_at "rd"
      refine rd_ixT (same_sqt g1 sy) (atI_nat hu) ?_
      refine ⟨v, u, ds[i], rfl, same_rp g1 rv, same_rp g1 ru, fall _ (List.getElem_mem hi'), fun H2 g2 => ?_⟩
      refine ⟨_, g2 _ _ e1, by rw [List.length_replicate]; exact Nat.lt_of_le_of_lt (show i ≤ 20000 by omega) (by decide), ?_, ?_⟩
      · rw [upd_same, List.replicate_succ']
      · exact same_own (g1.trans g2) (g0.free hD)
    · rintro H' ⟨e1, g1⟩
      refine rd_notIn (SqL.of e1) rfl (trues_flat _) ?_
      rw [trues_no]
      exact q _ g1
  | non =>
    cases rx; cases ry
    walk_at "rd"
    refine rd_new (len_ok rfl) fun tp htp => ?_
    walk_at "rd"
    refine rd_isiT (b := false) upd_same (.cons (.ty _) (.cons (.ty _) .nil)) (.base .non) (kt_no (by decide +kernel) (by decide +kernel)) ?_
    iterate 6 (walk_at "dec"; refine rd_isi (.ty _) (.base .non) (kit_ty (r := false) (by decide +kernel)) ?_)
    walk_at "dec"
    exact q _ (same_new htp)
  | bl z =>
    cases rx; cases ry
    walk_at "rd"
    refine rd_new (len_ok rfl) fun tp htp => ?_
    walk_at "rd"
    refine rd_isiT (b := false) upd_same (.cons (.ty _) (.cons (.ty _) .nil)) (.base (.bl z)) (kt_no (by decide +kernel) (by decide +kernel)) ?_
    iterate 6 (walk_at "dec"; first | refine rd_isi (.ty _) (.base (.bl z)) (kit_ty (r := false) (by decide +kernel)) ?_ | refine rd_isi (.ty _) (.base (.bl z)) (kit_ty (r := true) (by decide +kernel)) ?_)
    walk_at "dec"
    refine iteNF rfl ?_
    walk_at "dec"
    rw [decide_eq_true rfl]
    exact q _ (same_new htp)
  | int z =>
    cases rx; cases ry
    walk_at "rd"
    refine rd_new (len_ok rfl) fun tp htp => ?_
    walk_at "rd"
    refine rd_isiT (b := false) upd_same (.cons (.ty _) (.cons (.ty _) .nil)) (.base (.int z)) (kt_no (by decide +kernel) (by decide +kernel)) ?_
    iterate 6 (walk_at "dec"; first | refine rd_isi (.ty _) (.base (.int z)) (kit_ty (r := false) (by decide +kernel)) ?_ | refine rd_isi (.ty _) (.base (.int z)) (kit_ty (r := true) (by decide +kernel)) ?_)
    walk_at "dec"
    refine iteNF rfl ?_
    walk_at "dec"
    rw [decide_eq_true rfl]
    exact q _ (same_new htp)
  | str z =>
    cases rx; cases ry
    walk_at "rd"
    refine rd_new (len_ok rfl) fun tp htp => ?_
    walk_at "rd"
    refine rd_isiT (b := false) upd_same (.cons (.ty _) (.cons (.ty _) .nil)) (.base (.str z)) (kt_no (by decide +kernel) (by decide +kernel)) ?_
    iterate 6 (walk_at "dec"; first | refine rd_isi (.ty _) (.base (.str z)) (kit_ty (r := false) (by decide +kernel)) ?_ | refine rd_isi (.ty _) (.base (.str z)) (kit_ty (r := true) (by decide +kernel)) ?_)
    walk_at "dec"
    refine iteNF rfl ?_
    walk_at "dec"
    rw [decide_eq_true rfl]
    exact q _ (same_new htp)
theorem ok_same (T : Tx mg) {f : Addr} {fd : FuncData} (D : Dn K mg "_law_same" sLSame ["actual", "due"] f fd) : ∀ n : Nat, FnOk P w K mg base CX0 n f fd ["actual", "due"] (spSame K n)
  | 0 => by
    have no : ∀ vs H Q E, ¬ spSame K 0 vs H Q E := fun vs H Q E h => by
      obtain ⟨x, y, t, _, _, _, ft, _⟩ := h
      exact ft
    exact ⟨fun vs H Q E h => absurd h (no vs H Q E), fun A outer s H args us vs Q E _ _ _ _ h => absurd h (no vs H Q E)⟩
  | n + 1 => ok_same_turn T D (ok_same T D n)

end
section
variable {P : Program} {w : World} {K : PySem.W.Frag} {mg : Str → Option Value} {base : Heap}
def spLOne (K : PySem.W.Frag) (n : Nat) : Sp := fun vs H Q _ => ∃ (v : V) (h : Hs), vs = [v] ∧ Rp K H v h.td ∧ h.ok ∧ h.depth ≤ n ∧ ∀ (u : V) (H' : Hp), Same H H' → Rp K H' u h.oneT → Q u H'
theorem ok_LOne_turn (T : Tx mg) {n : Nat} {f : Addr} {fd : FuncData} (DLOne : Dn K mg "_law_one" sLOne ["house"] f fd) (GLOne : FnOk P w K mg base CX0 n f fd ["house"] (spLOne K n)) :
    FnOk P w K mg base CX0 (n + 1) f fd ["house"] (spLOne K (n + 1)) := by
  refine DLOne.F.ok scLOne (fun vs H Q E h => ?_) (fun cdv A outer s H vs Q E hr h => ?_)
  · obtain ⟨v, h, rfl, _⟩ := h
    rfl
  obtain ⟨v, h, rfl, r, ho, hd, q⟩ := h
  have nd := scLOne.nd
  refine ⟨_, (pss_cons (ps_set (i := 1) nd rfl (Or.inl rfl) (pe_ix (k_ixT K rfl) (pv 0) pe_int (fun _ _ => rfl)))
  (pss_cons (ps_if (pt_cmpR op_eq (pv 1) pe_str (nomark _)) (pss_one (ps_ret (pe_tup (pa_cons (pe_call GLOne (hr.mono (by omega)) rfl DLOne.m DLOne.F.kp DLOne.b .nil pass0 (pa_cons (pe_ix (k_ixT K rfl) (pv 0) pe_int (fun _ _ => rfl)) pa_nil)) (pa_cons (pe_call GLOne (hr.mono (by omega)) rfl DLOne.m DLOne.F.kp DLOne.b .nil pass0 (pa_cons (pe_ix (k_ixT K rfl) (pv 0) pe_int (fun _ _ => rfl)) pa_nil)) pa_nil))))) pss_nil)
  (pss_cons (ps_if (pt_cmpR op_eq (pv 1) pe_str (nomark _)) (pss_one (ps_ret (pe_tup (pa_cons (pe_callTy (k_tuple K rfl) rfl T.m_tuple (by decide +kernel) (pa_cons (pe_lc (own := [("k", (2 : Nat))]) (g := gName 2) rfl nd (pi_range1 rfl T.m_range (pa_cons (pe_ix (k_ixT K rfl) (pv 0) pe_int (fun _ _ => rfl)) pa_nil)) (blkOk_by (own := [("k", (2 : Nat))]) (N := nLOne) (sc := defScope sLOne) (by decide +kernel)) (fun _ _ _ _ _ => pg_name (i := 2) nd rfl (Or.inl rfl)) (fun _ _ _ _ _ => pts_nil) (fun _ _ _ _ _ => pe_int)) pa_nil)) pa_nil)))) pss_nil)
  (pss_cons (ps_if (PW.pt (pw_or (pt_cmpR op_eq (pv 1) pe_str (nomark _)) (pw_or1 (pt_cmpR op_eq (pv 1) pe_str (nomark _))))) (pss_one (ps_ret (pe_tup (pa_cons pe_int pa_nil)))) pss_nil)
  (pss_cons (ps_if (pt_cmpR op_eq (pv 1) pe_str (nomark _)) (pss_one (ps_ret (pe_tup (pa_cons (pe_tup (pa_cons (pe_tup pa_nil) (pa_cons pe_int pa_nil))) pa_nil)))) pss_nil)
  (pss_cons (ps_if (PW.pt (pw_or (pt_cmpR op_eq (pv 1) pe_str (nomark _)) (pw_or (pt_cmpR op_eq (pv 1) pe_str (nomark _)) (pw_or1 (pt_cmpR op_eq (pv 1) pe_str (nomark _)))))) (pss_one (ps_ret (pe_ix (k_ixT K rfl) (pv 0) pe_int (fun _ _ => rfl)))) pss_nil)
  (pss_cons (ps_if (pt_cmpR op_eq (pv 1) pe_str (nomark _)) (pss_one (ps_ret (pe_op op_modN (pe_callTy c_int rfl T.m_int (by decide +kernel) (pa_cons pe_int pa_nil)) (pe_ix (k_ixT K rfl) (pv 0) pe_int (fun _ _ => rfl))))) pss_nil)
  (pss_one (ps_ret (pe_callTy c_int rfl T.m_int (by decide +kernel) (pa_cons (pe_cmpR op_ne (pv 1) pe_str (nomark _)) pa_nil))))))))))), ?_⟩
  cases h with
  | counts =>
    obtain ⟨p, rfl, s⟩ := r.nul
    walk_at "rd"
    refine rd_ixT s rfl ?_
    walk_at "dec"
    rw [show (if (!decide (V.str "counts" = V.str "least")) = true then (1 : Int) else 0) = 1 by decide +kernel]
    exact q _ _ (.refl _) (.int _)
  | yes =>
    obtain ⟨p, rfl, s⟩ := r.nul
    walk_at "rd"
    refine rd_ixT s rfl ?_
    walk_at "dec"
    rw [show (if (!decide (V.str "yes" = V.str "least")) = true then (1 : Int) else 0) = 1 by decide +kernel]
    exact q _ _ (.refl _) (.int _)
  | least =>
    obtain ⟨p, rfl, s⟩ := r.nul
    walk_at "rd"
    refine rd_ixT s rfl ?_
    walk_at "dec"
    rw [show (if (!decide (V.str "least" = V.str "least")) = true then (1 : Int) else 0) = 0 by decide +kernel]
    exact q _ _ (.refl _) (.int _)
  | sums =>
    obtain ⟨p, rfl, s⟩ := r.nul
    walk_at "rd"
    refine rd_ixT s rfl ?_
    walk_at "dec"
    refine rd_new (len_ok rfl) fun tp htp => ?_
    walk_at "rd"
    exact q _ _ (same_new htp) (.tup (SqT.of upd_same) (.cons (.int 0) .nil))
  | families =>
    obtain ⟨p, rfl, s⟩ := r.nul
    walk_at "rd"
    refine rd_ixT s rfl ?_
    walk_at "dec"
    refine rd_new (len_ok rfl) fun tp htp => ?_
    walk_at "rd"
    exact q _ _ (same_new htp) (.tup (SqT.of upd_same) (.cons (.int 0) .nil))
  | formulas =>
    obtain ⟨p, rfl, s⟩ := r.nul
    walk_at "rd"
    refine rd_ixT s rfl ?_
    walk_at "dec"
    refine rd_new (len_ok rfl) fun t1 h1 => ?_
    walk_at "rd"
    refine rd_new (len_ok rfl) fun t2 h2 => ?_
    walk_at "rd"
    refine rd_new (len_ok rfl) fun t3 h3 => ?_
    walk_at "rd"
    exact q _ _ ((same_new h1).trans ((same_new h2).trans (same_new h3))) (.tup (SqT.of upd_same) (.cons (.tup (SqT.of (same_new h3 _ _ upd_same)) (.cons (.tup (SqT.of (same_new h3 _ _ (same_new h2 _ _ upd_same))) .nil) (.cons (.int 1) .nil))) .nil))
  | capped n =>
    obtain ⟨p, rfl, s⟩ := r.one
    walk_at "rd"
    refine rd_ixT s rfl ?_
    walk_at "dec"
    rw [show (if (!decide (V.str "capped" = V.str "least")) = true then (1 : Int) else 0) = 1 by decide +kernel]
    exact q _ _ (.refl _) (.int _)
  | modulo n =>
    obtain ⟨p, rfl, s⟩ := r.one
    walk_at "rd"
    refine rd_ixT s rfl ?_
    walk_at "dec"
    refine rd_ixT s rfl ?_
    have hn : 1 ≤ n := ho
    refine rd_i (by omega) ?_
    rw [Int.fmod_eq_emod_of_nonneg _ (by omega)]
    exact q _ _ (.refl _) (.int _)
  | chain n =>
    obtain ⟨p, rfl, s⟩ := r.one
    walk_at "rd"
    refine rd_ixT s rfl ?_
    walk_at "dec"
    refine rd_ixT s rfl ?_
    exact q _ _ (.refl _) (.int _)
  | divisors n =>
    obtain ⟨p, rfl, s⟩ := r.one
    walk_at "rd"
    refine rd_ixT s rfl ?_
    walk_at "dec"
    refine rd_ixT s rfl ?_
    exact q _ _ (.refl _) (.int _)
  | prices n =>
    obtain ⟨p, rfl, s⟩ := r.one
    walk_at "rd"
    refine rd_ixT s rfl ?_
    walk_at "dec"
    refine rd_ixT s rfl ?_
    walk_at "rd"
    have n1 : 1 ≤ n := ho.1
    have n2 : n ≤ 40 := ho.2
    refine rd_r1 ⟨by omega, by omega⟩ fun L hL => ?_
    refine lc_range (lo := 0) (n := n.toNat) (fun i H' => H' L = some (.lst (List.replicate i (V.int 0))) ∧ Same H H') ⟨upd_same, same_new hL⟩ ?_ ?_
    · rintro i H' hi ⟨e1, g1⟩
      refine ⟨rfl, ?_⟩
      walk_at "rd"
      refine ⟨_, e1, by rw [List.length_replicate]; exact small1000 (by omega), ?_, same_own g1 hL⟩
      rw [upd_same, List.replicate_succ']
    · rintro H' ⟨e1, g1⟩
      walk_at "rd"
      refine rd_tuple (SqL.of e1) fun tp htp => ?_
      walk_at "rd"
      refine rd_new (len_ok rfl) fun tq htq => ?_
      walk_at "rd"
      exact q _ _ ((g1.trans (same_new htp)).trans (same_new htq)) (.tup (SqT.of upd_same) (.cons (.tup (SqT.of (same_new htq _ _ upd_same)) (rpa_rep _)) .nil))
  | table o t1 t2 =>
    obtain ⟨p, u1, u2, rfl, s, _, _⟩ := r.three
    walk_at "rd"
    refine rd_ixT s rfl ?_
    walk_at "dec"
    refine rd_ixT s rfl ?_
    exact q _ _ (.refl _) (.int _)
  | pair h1 h2 =>
    obtain ⟨p, u1, u2, rfl, s, r1, r2⟩ := r.two
    walk_at "rd"
    refine rd_ixT s rfl ?_
    walk_at "dec"
    refine rd_ixT s rfl ?_
    walk_at "rd"
    have hdm : max h1.depth h2.depth ≤ n := Nat.le_of_succ_le_succ hd
    refine ⟨u1, h1, rfl, r1, ho.1, by omega, fun w1 H1 g1 p1 => ?_⟩
    walk_at "rd"
    refine rd_ixT (same_sqt g1 s) rfl ?_
    walk_at "rd"
    refine ⟨u2, h2, rfl, same_rp g1 r2, ho.2, by omega, fun w2 H2 g2 p2 => ?_⟩
    walk_at "rd"
    refine rd_new (len_ok rfl) fun tp htp => ?_
    walk_at "rd"
    exact q _ _ ((g1.trans g2).trans (same_new htp)) (.tup (SqT.of upd_same) (.cons (same_rp (g2.trans (same_new htp)) p1) (.cons (same_rp (same_new htp) p2) .nil)))
theorem ok_LOne (T : Tx mg) {f : Addr} {fd : FuncData} (D : Dn K mg "_law_one" sLOne ["house"] f fd) : ∀ n : Nat, FnOk P w K mg base CX0 n f fd ["house"] (spLOne K n)
  | 0 => by
    have no : ∀ vs H Q E, ¬ spLOne K 0 vs H Q E := fun vs H Q E h => by
      obtain ⟨v, h, _, _, _, hd, _⟩ := h
      have := depth_pos h
      omega
    exact ⟨fun vs H Q E h => absurd h (no vs H Q E), fun A outer s H args us vs Q E _ _ _ _ h => absurd h (no vs H Q E)⟩
  | n + 1 => ok_LOne_turn T D (ok_LOne T D n)

end
section
variable {P : Program} {w : World} {K : PySem.W.Frag} {mg : Str → Option Value} {base : Heap}
def spTableH (K : PySem.W.Frag) : Sp := fun vs H Q _ => ∃ (d : Addr), vs = [.ref d] ∧ DrAt d H ∧ ∀ (v : V) (H' : Hp) (o : Int) (p t : List (List Int)), Dr d H H' → TOk o p t → Rp K H' v (Hs.table o p t).td → Q v H'
theorem ok_tableH (T : Tx mg) {f f1 f2 f3 f4 f5 : Addr} {fd d1 d2 d3 d4 d5 : FuncData} (F : Dn K mg "_law_table_house" sLTableHouse ["draws"] f fd)
    (DLTake : Dn K mg "_law_take" sLTake ["draws", "many"] f1 d1) (GLTake : FnOk P w K mg base CX0 1 f1 d1 ["draws", "many"] spTake)
    (DLAllWorths : Dn K mg "_law_all_worths" sLAllWorths ["house"] f2 d2) (GLAllWorths : FnOk P w K mg base CX0 1 f2 d2 ["house"] (spAllW K))
    (DLPlus : Dn K mg "_law_plus" sLPlus ["house", "a", "b"] f3 d3) (GLPlus : FnOk P w K mg base CX0 2 f3 d3 ["house", "a", "b"] (spPlusS K))
    (DLTimes : Dn K mg "_law_times" sLTimes ["house", "a", "b"] f4 d4) (GLTimes : FnOk P w K mg base CX0 2 f4 d4 ["house", "a", "b"] (spTimesS K))
    (DLOne : Dn K mg "_law_one" sLOne ["house"] f5 d5) (GLOne : FnOk P w K mg base CX0 1 f5 d5 ["house"] (spLOne K 1)) :
    FnOk P w K mg base CX0 3 f fd ["draws"] (spTableH K) := by
  refine F.F.ok scLTableHouse (fun vs H Q E h => ?_) (fun cdv A outer s H vs Q E hr h => ?_)
  · obtain ⟨d, rfl, _⟩ := h
    rfl
  obtain ⟨d, rfl, hd, q⟩ := h
  have nd := scLTableHouse.nd
  refine ⟨_, (pss_cons (ps_set (i := 1) nd rfl (Or.inl rfl) (pe_call GLTake (hr.mono (by omega)) rfl DLTake.m DLTake.F.kp DLTake.b .nil pass0 (pa_cons (pv 0) (pa_cons pe_int pa_nil))))
  (pss_cons (ps_set (i := 2) nd rfl (Or.inr rfl) (pe_ix (k_ixL K rfl) (pe_lst (pa_cons (pe_tup (pa_cons pe_str (pa_cons (pe_op op_add (pv 1) pe_int) pa_nil))) (pa_cons (pe_tup (pa_cons pe_str (pa_cons (pe_op op_add (pv 1) pe_int) pa_nil))) (pa_cons (pe_tup (pa_cons pe_str (pa_cons (pe_op op_add (pv 1) pe_int) pa_nil))) (pa_cons (pe_tup (pa_cons pe_str (pa_cons (pe_ix (k_ixL K rfl) (pe_lst (pa_cons pe_int (pa_cons pe_int (pa_cons pe_int (pa_cons pe_int (pa_cons pe_int pa_nil)))))) (pv 1) (fun _ _ => rfl)) pa_nil))) (pa_cons (pe_tup (pa_cons pe_str pa_nil)) pa_nil)))))) (pv 1) (fun _ _ => rfl)))
  (pss_cons (ps_set (i := 2) nd rfl (Or.inr rfl) (pe_ix (k_ixL K rfl) (pe_lst (pa_cons (pv 2) (pa_cons (pe_tup (pa_cons pe_str (pa_cons (pe_op op_add (pv 1) pe_int) pa_nil))) (pa_cons (pe_tup (pa_cons pe_str (pa_cons (pe_op op_add (pv 1) pe_int) pa_nil))) (pa_cons (pe_tup (pa_cons pe_str (pa_cons (pe_ix (k_ixL K rfl) (pe_lst (pa_cons pe_int (pa_cons pe_int (pa_cons pe_int (pa_cons pe_int (pa_cons pe_int pa_nil)))))) (pv 1) (fun _ _ => rfl)) pa_nil))) pa_nil))))) (pe_call GLTake (hr.mono (by omega)) rfl DLTake.m DLTake.F.kp DLTake.b .nil pass0 (pa_cons (pv 0) (pa_cons pe_int pa_nil))) (fun _ _ => rfl)))
  (pss_cons (ps_set (i := 3) nd rfl (Or.inl rfl) (pe_call GLAllWorths (hr.mono (by omega)) rfl DLAllWorths.m DLAllWorths.F.kp DLAllWorths.b .nil pass0 (pa_cons (pv 2) pa_nil)))
  (pss_cons (ps_set (i := 4) nd rfl (Or.inl rfl) (pe_callTy (k_list K rfl) rfl T.m_list (by decide +kernel) (pa_cons (pe_slice (k_slL K rfl) (pv 3) (po_some pe_int) po_none) pa_nil)))
  (pss_cons (ps_set (i := 5) nd rfl (Or.inr rfl) (pe_slice (k_slL K rfl) (pv 3) po_none (po_some pe_int)))
  (pss_cons (ps_for PassesOwn.never rfl (pi_range1 rfl T.m_range (pa_cons (pe_op op_sub (pe_callB (k_len K rfl) rfl T.m_len PySem.boot_len (pa_cons (pv 3) pa_nil)) pe_int) pa_nil)) (pg_name (i := 6) nd rfl (Or.inl rfl)) (pss_one (ps_expr (k_bm K rfl (pe_bm PySem.F.plainAttrs_list PySem.F.slot_list_append PySem.F.type_list_append mt_append (pv 5) (pa_cons (k_bm K rfl (pe_bm PySem.F.plainAttrs_list PySem.F.slot_list_pop PySem.F.type_list_pop mt_popAt (pv 4) (pa_cons (pe_call GLTake (hr.mono (by omega)) rfl DLTake.m DLTake.F.kp DLTake.b .nil pass0 (pa_cons (pv 0) (pa_cons (pe_callB (k_len K rfl) rfl T.m_len PySem.boot_len (pa_cons (pv 4) pa_nil)) pa_nil))) pa_nil))) pa_nil))))))
  (pss_cons (ps_set (i := 7) nd rfl (Or.inl rfl) (pe_callTy (k_tuple K rfl) rfl T.m_tuple (by decide +kernel) (pa_cons (pe_lc (own := [("a", (9 : Nat))]) (g := gName 9) rfl nd (k_pil K rfl (pv 5)) (blkOk_by (own := [("a", (9 : Nat))]) (N := nLTableHouse) (sc := defScope sLTableHouse) (by decide +kernel)) (fun _ _ _ _ _ => pg_name (i := 9) nd rfl (Or.inr rfl)) (fun _ _ _ _ _ => pts_nil) (fun _ _ _ _ _ => (pe_callTy (k_tuple K rfl) rfl T.m_tuple (by decide +kernel) (pa_cons (pe_lc (own := [("b", (8 : Nat))]) (g := gName 8) rfl nd (k_pil K rfl (pv 5)) (blkOk_by (own := [("b", (8 : Nat))]) (N := nLTableHouse) (by with_unfolding_all rfl)) (fun _ _ _ _ _ => pg_name (i := 8) nd rfl (Or.inl rfl)) (fun _ _ _ _ _ => pts_nil) (fun _ _ _ _ _ => (k_bm K rfl (pe_bm PySem.F.plainAttrs_list PySem.F.slot_list_index PySem.F.type_list_index (k_index K rfl) (pv 5) (pa_cons (pe_call GLPlus (hr.mono (by omega)) rfl DLPlus.m DLPlus.F.kp DLPlus.b .nil pass0 (pa_cons (pv 2) (pa_cons (pv 9) (pa_cons (pv 8) pa_nil)))) pa_nil))))) pa_nil)))) pa_nil)))
  (pss_cons (ps_set (i := 10) nd rfl (Or.inl rfl) (pe_callTy (k_tuple K rfl) rfl T.m_tuple (by decide +kernel) (pa_cons (pe_lc (own := [("a", (9 : Nat))]) (g := gName 9) rfl nd (k_pil K rfl (pv 5)) (blkOk_by (own := [("a", (9 : Nat))]) (N := nLTableHouse) (sc := defScope sLTableHouse) (by decide +kernel)) (fun _ _ _ _ _ => pg_name (i := 9) nd rfl (Or.inr rfl)) (fun _ _ _ _ _ => pts_nil) (fun _ _ _ _ _ => (pe_callTy (k_tuple K rfl) rfl T.m_tuple (by decide +kernel) (pa_cons (pe_lc (own := [("b", (8 : Nat))]) (g := gName 8) rfl nd (k_pil K rfl (pv 5)) (blkOk_by (own := [("b", (8 : Nat))]) (N := nLTableHouse) (by with_unfolding_all rfl)) (fun _ _ _ _ _ => pg_name (i := 8) nd rfl (Or.inl rfl)) (fun _ _ _ _ _ => pts_nil) (fun _ _ _ _ _ => (k_bm K rfl (pe_bm PySem.F.plainAttrs_list PySem.F.slot_list_index PySem.F.type_list_index (k_index K rfl) (pv 5) (pa_cons (pe_call GLTimes (hr.mono (by omega)) rfl DLTimes.m DLTimes.F.kp DLTimes.b .nil pass0 (pa_cons (pv 2) (pa_cons (pv 9) (pa_cons (pv 8) pa_nil)))) pa_nil))))) pa_nil)))) pa_nil)))
  (pss_one (ps_ret (pe_tup (pa_cons pe_str (pa_cons (k_bm K rfl (pe_bm PySem.F.plainAttrs_list PySem.F.slot_list_index PySem.F.type_list_index (k_index K rfl) (pv 5) (pa_cons (pe_call GLOne (hr.mono (by omega)) rfl DLOne.m DLOne.F.kp DLOne.b .nil pass0 (pa_cons (pv 2) pa_nil)) pa_nil))) (pa_cons (pv 7) (pa_cons (pv 10) pa_nil)))))))))))))))), ?_⟩
  walk_at "rd"
  refine take_step (by decide) hd fun r H1 r0 r1 g1 => ?_
  obtain ⟨mM, mC, mH, z, ez, mD⟩ := sm_pick r0 r1
  walk_at "rd"
  refine rd_mk (len_ok rfl) fun p1 H2 n1 e1 s1 => ?_
  walk_at "rd"
  refine rd_mk (len_ok rfl) fun p2 H3 n2 e2 s2 => ?_
  walk_at "rd"
  refine rd_mk (len_ok rfl) fun p3 H4 n3 e3 s3 => ?_
  walk_at "rd"
  refine rd_mk (len_ok rfl) fun l1 H5 n4 e4 s4 => ?_
  walk_at "rd"
  refine rd_ixL (SqL.of e4) ez ?_
  walk_at "rd"
  refine rd_mk (len_ok rfl) fun p4 H6 n5 e5 s5 => ?_
  walk_at "rd"
  refine rd_mk (len_ok rfl) fun p5 H7 n6 e6 s6 => ?_
  walk_at "rd"
  refine rd_mk (len_ok rfl) fun l2 H8 n7 e7 s7 => ?_
  walk_at "rd"
  obtain ⟨v1, ev1, m1⟩ := atI_mem (xs := [V.ref p1, V.ref p2, V.ref p3, V.ref p4, V.ref p5]) r0 (by simpa using r1)
  refine rd_ixL (SqL.of e7) ev1 ?_
  have s27 := s2.trans (s3.trans (s4.trans (s5.trans (s6.trans s7))))
  have s37 := s3.trans (s4.trans (s5.trans (s6.trans s7)))
  have s47 := s4.trans (s5.trans (s6.trans s7))
  have s67 := s6.trans s7
  have hv1 : ∃ h ∈ smalls, Rp K H8 v1 h.td := by
    simp only [List.mem_cons, List.not_mem_nil, or_false] at m1
    rcases m1 with rfl | rfl | rfl | rfl | rfl
    · exact ⟨_, mM, rp_one (SqT.of (s27 _ _ e1))⟩
    · exact ⟨_, mC, rp_one (SqT.of (s37 _ _ e2))⟩
    · exact ⟨_, mH, rp_one (SqT.of (s47 _ _ e3))⟩
    · exact ⟨_, mD, rp_one (SqT.of (s67 _ _ e5))⟩
    · exact ⟨.yes, by decide, rp_nul (SqT.of (s7 _ _ e6))⟩
  have g8 : Dr d H H8 := g1.same (s1.trans s27)
  clear e1 e2 e3 e4 e5 e6 e7 m1 ev1 s27 s37 s47 s67 s1 s2 s3 s4 s5 s6 s7 n1 n2 n3 n4 n5 n6 n7
  obtain ⟨h1, mh1, rv1⟩ := hv1
  walk_at "rd"
  refine rd_mk (len_ok rfl) fun p1 H2 n1 e1 s1 => ?_
  walk_at "rd"
  refine rd_mk (len_ok rfl) fun p2 H3 n2 e2 s2 => ?_
  walk_at "rd"
  refine rd_mk (len_ok rfl) fun l1 H4 n3 e3 s3 => ?_
  walk_at "rd"
  refine rd_ixL (SqL.of e3) ez ?_
  walk_at "rd"
  refine rd_mk (len_ok rfl) fun p3 H5 n4 e4 s4 => ?_
  walk_at "rd"
  refine rd_mk (len_ok rfl) fun l2 H6 n5 e5 s5 => ?_
  walk_at "rd"
  have g6 : Dr d H H6 := g8.same (s1.trans (s2.trans (s3.trans (s4.trans s5))))
  have nl2 : l2 ≠ d := fun e => by
    obtain ⟨_, w⟩ := (g8.same (s1.trans (s2.trans (s3.trans s4)))).en
    rw [← e, n5] at w; cases w
  refine take_step (by decide) g6.isD fun r' H7 b0 b1 g7 => ?_
  obtain ⟨v2, ev2, m2⟩ := atI_mem (xs := [v1, V.ref p1, V.ref p2, V.ref p3]) b0 (by simpa using b1)
  refine rd_ixL (SqL.of (g7.kp _ _ nl2 e5)) ev2 ?_
  have hv2 : ∃ h ∈ smalls, Rp K H7 v2 h.td := by
    simp only [List.mem_cons, List.not_mem_nil, or_false] at m2
    rcases m2 with rfl | rfl | rfl | rfl
    · exact ⟨_, mh1, g7.rp (same_rp (s1.trans (s2.trans (s3.trans (s4.trans s5)))) rv1)⟩
    · exact ⟨_, mM, g7.rp (rp_one (SqT.of ((s2.trans (s3.trans (s4.trans s5))) _ _ e1)))⟩
    · exact ⟨_, mH, g7.rp (rp_one (SqT.of ((s3.trans (s4.trans s5)) _ _ e2)))⟩
    · exact ⟨_, mD, g7.rp (rp_one (SqT.of (s5 _ _ e4)))⟩
  have gA : Dr d H H7 := g6.trans g7
  clear rv1 mh1 h1 e1 e2 e3 e4 e5 m2 ev2 s1 s2 s3 s4 s5 n1 n2 n3 n4 n5 nl2 g6 g7 g8 g1
  obtain ⟨h, mh, rv⟩ := hv2
  obtain ⟨w1, w6⟩ := sm_len h mh
  walk_at "rd"
  refine ⟨v2, h, rfl, rv, mh, fun l H8 nl s8 e8 => ?_⟩
  walk_at "rd"
  refine rd_cut (SqL.of e8) fun pc npc => ?_
  rw [cut_from (by rw [List.length_map]; exact w1), ← List.map_drop]
  walk_at "rd"
  refine rd_list (SqL.of upd_same) fun rs0 nrs => ?_
  walk_at "rd"
  have e8' := same_new (o := .lst ((h.wsI.drop 1).map V.int)) npc _ _ e8
  refine rd_cut (SqL.of (same_new nrs _ _ e8')) fun nm nnm => ?_
  rw [cut_to (by rw [List.length_map]; exact w1), ← List.map_take]
  walk_at "rd"
  have sB := (s8.trans (same_new (o := .lst ((h.wsI.drop 1).map V.int)) npc)).trans ((same_new (o := .lst ((h.wsI.drop 1).map V.int)) nrs).trans (same_new (o := .lst ((h.wsI.take 1).map V.int)) nnm))
  have gB := gA.same sB
  have rB := same_rp sB rv
  have nrn : rs0 ≠ nm := ne_of_none upd_same nnm
  refine rd_len (SqL.of (same_new nnm _ _ (same_new nrs _ _ e8'))) ?_
  walk_at "rd"
  have erB := same_new (o := .lst ((h.wsI.take 1).map V.int)) nnm _ _ (upd_same (H := upd H8 pc (.lst ((h.wsI.drop 1).map V.int))) (a := rs0) (o := .lst ((h.wsI.drop 1).map V.int)))
  have freshr : ∀ {o : HO}, Dr d H (upd (upd H8 pc (.lst ((h.wsI.drop 1).map V.int))) rs0 o) → H rs0 = none := fun _ => gA.fresh (H1 := H7) (by
    cases w : H7 rs0 with
    | none => rfl
    | some u => rw [same_new npc _ _ (s8 _ _ w)] at nrs; cases nrs)
  have fr0 : H rs0 = none := freshr (gA.same ((s8.trans (same_new (o := .lst ((h.wsI.drop 1).map V.int)) npc)).trans (same_new (o := .lst ((h.wsI.drop 1).map V.int)) nrs)))
  have fn0 : H nm = none := (gA.same ((s8.trans (same_new (o := .lst ((h.wsI.drop 1).map V.int)) npc)).trans (same_new (o := .lst ((h.wsI.drop 1).map V.int)) nrs))).fresh nnm
  generalize hHB : upd (upd (upd H8 pc (.lst ((h.wsI.drop 1).map V.int))) rs0 (.lst ((h.wsI.drop 1).map V.int))) nm (.lst ((h.wsI.take 1).map V.int)) = HB at *
  have enB : HB nm = some (.lst ((h.wsI.take 1).map V.int)) := by rw [← hHB]; exact upd_same
  have nrd : rs0 ≠ d := fun e => by
    obtain ⟨_, w⟩ := hd
    rw [← e, fr0] at w; cases w
  have nnd : nm ≠ d := fun e => by
    obtain ⟨_, w⟩ := hd
    rw [← e, fn0] at w; cases w
  have hlen : (h.wsI.map V.int).length = h.wsI.length := List.length_map _
  obtain ⟨hd0, ehd⟩ := sm_head h mh
  refine rd_r1 ⟨by omega, by omega⟩ (for_range (lo := 0) (n := _) (fun i σ' H' => ∃ (v6 : Option V) (ms rs : List Int), σ' = [some (.ref d), some (.int r), some v2, some (.ref l), some (.ref rs0), some (.ref nm), v6, none, none, none, none] ∧
    H' nm = some (.lst (ms.map V.int)) ∧ H' rs0 = some (.lst (rs.map V.int)) ∧ (ms ++ rs).Perm h.wsI ∧ ms.head? = some hd0 ∧ rs.length = h.wsI.length - 1 - i ∧ Dr d H H' ∧ Rp K H' v2 h.td)
    ⟨none, h.wsI.take 1, h.wsI.drop 1, rfl, enB, erB, by rw [List.take_append_drop], by rw [List.head?_take, if_neg (by decide), ehd], by rw [List.length_drop]; omega, gB, rB⟩ ?_ ?_)
  · rintro i σ' H' hi ⟨v6, ms, rs, rfl, em, er, pm, hh, hl, g, rr⟩
    have pl := pm.length_eq
    rw [List.length_append] at pl
    walk_at "rd"
    refine rd_ty (SqL.of em) ?_
    walk_at "rd"
    refine rd_ty (SqL.of er) ?_
    walk_at "rd"
    refine rd_len (SqL.of er) ?_
    walk_at "rd"
    have hrl : (rs.map V.int).length = rs.length := List.length_map _
    refine take_step (by omega) g.isD fun k H9 k0 k1 g9 => ?_
    have em9 := g9.kp _ _ nnd em
    have er9 := g9.kp _ _ nrd er
    walk_at "rd"
    refine rd_popAt er9 k0 (by omega) (by omega) fun y hy => ?_
    walk_at "rd"
    refine rd_append (xs := ms.map V.int) (by rw [upd_ne nrn.symm]; exact em9) (by rw [List.length_map]; exact small1000 (by omega)) ?_
    walk_at "rd"
    refine ⟨_, ms ++ [y], rs.eraseIdx k.toNat, rfl, by (rw [upd_same, List.map_append]; try rfl), by rw [upd_ne nrn]; exact upd_same, ?_, ?_, ?_, ?_, ?_⟩
    · rw [List.append_assoc]
      exact ((erase_perm hy).append_left ms).trans pm
    · rw [List.head?_append, hh]; rfl
    · rw [List.length_eraseIdx, if_pos (by omega)]; omega
    · exact ((g.trans g9).own fr0).own fn0
    · exact rp_put (by rw [upd_ne nrn.symm]; exact em9) (rp_put er9 (g9.rp rr))
  · rintro σ' H9 ⟨v6, ms, rs, rfl, em, er, pm, hh, hl, g, rr⟩
    have hr0 : rs = [] := List.eq_nil_of_length_eq_zero (by omega)
    subst hr0
    rw [List.append_nil] at pm
    have hml : (ms.map V.int).length = ms.length := List.length_map _
    have pl := pm.length_eq
    walk_at "rd"
    refine rd_il (SqL.of em) fun D1 hD1 => ?_
    refine lc_list (K := K) (a := nm) (xs := ms.map V.int) (fun i H2 => ∃ vs, H2 D1 = some (.lst vs) ∧ vs.length = i ∧ RpA K H2 vs ((ms.take i).map fun a => TD.tup ((ms.map fun b => idxI ms (h.plusI a b)).map TD.int)) ∧ Same H9 H2)
      ⟨[], upd_same, rfl, .nil, same_new hD1⟩ (fun i H2 _ ⟨_, _, _, _, s⟩ => SqL.of (s _ _ em)) ?_ ?_
    · rintro i x H2 hx ⟨vs, e1, lvs, ra, s⟩
      obtain ⟨a, rfl, ha⟩ := map_get hx
      have ma : a ∈ h.wsI := pm.mem_iff.mp (List.mem_of_getElem? ha)
      have hi : i < ms.length := (List.getElem?_eq_some_iff.mp ha).1
      refine ⟨rfl, ?_⟩
      walk_at "rd"
      refine rd_il (SqL.of (s _ _ em)) fun D2 hD2 => ?_
      refine lc_list (K := K) (a := nm) (xs := ms.map V.int) (fun j H3 => H3 D2 = some (.lst (((ms.take j).map fun b => idxI ms (h.plusI a b)).map V.int)) ∧ Same H2 H3)
        ⟨upd_same, same_new hD2⟩ (fun j H3 _ ⟨_, s3⟩ => SqL.of (s3 _ _ (s _ _ em))) ?_ ?_
      · rintro j y H3 hy ⟨e2, s3⟩
        obtain ⟨b, rfl, hb⟩ := map_get hy
        have mb : b ∈ h.wsI := pm.mem_iff.mp (List.mem_of_getElem? hb)
        have hj : j < ms.length := (List.getElem?_eq_some_iff.mp hb).1
        refine ⟨rfl, ?_⟩
        walk_at "rd"
        refine rd_ty (SqL.of (s3 _ _ (s _ _ em))) ?_
        walk_at "rd"
        refine ⟨v2, h, a, b, rfl, same_rp (s.trans s3) rr, mh, ma, mb, ?_⟩
        walk_at "rd"
        refine rd_index (SqL.of (s3 _ _ (s _ _ em))) (pm.mem_iff.mpr (sm_plus h mh a ma b mb)) ?_
        refine ⟨_, e2, ?_, ?_, same_own s3 hD2⟩
        · rw [List.length_map, List.length_map, List.length_take]; exact small1000 (by omega)
        · rw [upd_same, take_snoc hb, List.map_append, List.map_append]; rfl
      · rintro H3 ⟨e2, s3⟩
        rw [hml, List.take_of_length_le (Nat.le_refl _)] at e2
        walk_at "rd"
        refine rd_tuple (SqL.of e2) fun tp htp => ?_
        have e1' := same_new (o := .tup ((ms.map fun b => idxI ms (h.plusI a b)).map V.int)) htp _ _ (s3 _ _ e1)
        have ntp : tp ≠ D1 := fun e => by rw [e, s3 _ _ e1] at htp; cases htp
        refine ⟨_, e1', by rw [lvs]; exact small1000 (by omega), vs ++ [.ref tp], upd_same, by rw [List.length_append, lvs]; rfl, ?_, same_own ((s.trans s3).trans (same_new htp)) hD1⟩
        rw [take_snoc ha, List.map_append]
        refine RpA.app (rpa_put e1' (same_rpa (s3.trans (same_new htp)) ra)) (.cons (.tup (SqT.of (by rw [upd_ne ntp]; exact upd_same)) (rpa_ints _)) .nil)
    rintro Aa ⟨vs, e1, _, ra, As⟩
    rw [hml, List.take_of_length_le (Nat.le_refl _)] at ra
    walk_at "rd"
    refine rd_tuple (SqL.of e1) fun At hAt => ?_
    have Aw : Rp K (upd Aa At (.tup vs)) (.ref At) (rowsT (ms.map fun a => ms.map fun b => idxI ms (h.plusI a b))) := by
      refine .tup (SqT.of upd_same) ?_
      rw [List.map_map]
      exact same_rpa (same_new hAt) ra
    have AS : Same H9 (upd Aa At (.tup vs)) := As.trans (same_new hAt)
    generalize upd Aa At (.tup vs) = AH at *
    walk_at "rd"
    have em2 := AS _ _ em
    have rr2 := same_rp AS rr
    refine rd_il (SqL.of em2) fun D1 hD1 => ?_
    refine lc_list (K := K) (a := nm) (xs := ms.map V.int) (fun i H2 => ∃ vs, H2 D1 = some (.lst vs) ∧ vs.length = i ∧ RpA K H2 vs ((ms.take i).map fun a => TD.tup ((ms.map fun b => idxI ms (h.timesI a b)).map TD.int)) ∧ Same AH H2)
      ⟨[], upd_same, rfl, .nil, same_new hD1⟩ (fun i H2 _ ⟨_, _, _, _, s⟩ => SqL.of (s _ _ em2)) ?_ ?_
    · rintro i x H2 hx ⟨vs, e1, lvs, ra, s⟩
      obtain ⟨a, rfl, ha⟩ := map_get hx
      have ma : a ∈ h.wsI := pm.mem_iff.mp (List.mem_of_getElem? ha)
      have hi : i < ms.length := (List.getElem?_eq_some_iff.mp ha).1
      refine ⟨rfl, ?_⟩
      walk_at "rd"
      refine rd_il (SqL.of (s _ _ em2)) fun D2 hD2 => ?_
      refine lc_list (K := K) (a := nm) (xs := ms.map V.int) (fun j H3 => H3 D2 = some (.lst (((ms.take j).map fun b => idxI ms (h.timesI a b)).map V.int)) ∧ Same H2 H3)
        ⟨upd_same, same_new hD2⟩ (fun j H3 _ ⟨_, s3⟩ => SqL.of (s3 _ _ (s _ _ em2))) ?_ ?_
      · rintro j y H3 hy ⟨e2, s3⟩
        obtain ⟨b, rfl, hb⟩ := map_get hy
        have mb : b ∈ h.wsI := pm.mem_iff.mp (List.mem_of_getElem? hb)
        have hj : j < ms.length := (List.getElem?_eq_some_iff.mp hb).1
        refine ⟨rfl, ?_⟩
        walk_at "rd"
        refine rd_ty (SqL.of (s3 _ _ (s _ _ em2))) ?_
        walk_at "rd"
        refine ⟨v2, h, a, b, rfl, same_rp (s.trans s3) rr2, mh, ma, mb, ?_⟩
        walk_at "rd"
        refine rd_index (SqL.of (s3 _ _ (s _ _ em2))) (pm.mem_iff.mpr (sm_times h mh a ma b mb)) ?_
        refine ⟨_, e2, ?_, ?_, same_own s3 hD2⟩
        · rw [List.length_map, List.length_map, List.length_take]; exact small1000 (by omega)
        · rw [upd_same, take_snoc hb, List.map_append, List.map_append]; rfl
      · rintro H3 ⟨e2, s3⟩
        rw [hml, List.take_of_length_le (Nat.le_refl _)] at e2
        walk_at "rd"
        refine rd_tuple (SqL.of e2) fun tp htp => ?_
        have e1' := same_new (o := .tup ((ms.map fun b => idxI ms (h.timesI a b)).map V.int)) htp _ _ (s3 _ _ e1)
        have ntp : tp ≠ D1 := fun e => by rw [e, s3 _ _ e1] at htp; cases htp
        refine ⟨_, e1', by rw [lvs]; exact small1000 (by omega), vs ++ [.ref tp], upd_same, by rw [List.length_append, lvs]; rfl, ?_, same_own ((s.trans s3).trans (same_new htp)) hD1⟩
        rw [take_snoc ha, List.map_append]
        refine RpA.app (rpa_put e1' (same_rpa (s3.trans (same_new htp)) ra)) (.cons (.tup (SqT.of (by rw [upd_ne ntp]; exact upd_same)) (rpa_ints _)) .nil)
    rintro Ba ⟨vs, e1, _, ra, Bs⟩
    rw [hml, List.take_of_length_le (Nat.le_refl _)] at ra
    walk_at "rd"
    refine rd_tuple (SqL.of e1) fun Bt hBt => ?_
    have Bw : Rp K (upd Ba Bt (.tup vs)) (.ref Bt) (rowsT (ms.map fun a => ms.map fun b => idxI ms (h.timesI a b))) := by
      refine .tup (SqT.of upd_same) ?_
      rw [List.map_map]
      exact same_rpa (same_new hBt) ra
    have BS : Same AH (upd Ba Bt (.tup vs)) := Bs.trans (same_new hBt)
    generalize upd Ba Bt (.tup vs) = BH at *
    walk_at "rd"
    have em3 := BS _ _ em2
    refine rd_ty (SqL.of em3) ?_
    walk_at "rd"
    refine ⟨v2, h, rfl, same_rp BS rr2, (small_ok mh).1, by rw [(small_ok mh).2]; exact Nat.le_refl _, fun u H5 s5 p5 => ?_⟩
    rw [small_oneT mh] at p5
    cases p5
    walk_at "rd"
    refine rd_index (SqL.of (s5 _ _ em3)) (pm.mem_iff.mpr (sm_one h mh)) ?_
    walk_at "rd"
    refine rd_mk (len_ok rfl) fun tp H6 n6 e6 s6 => ?_
    walk_at "rd"
    exact q _ _ _ _ _ (g.same (AS.trans (BS.trans (s5.trans s6)))) ⟨h, ms, mh, pm, by rw [hh, ehd], rfl, rfl, rfl⟩
      (rp_three (SqT.of e6) (same_rp (BS.trans (s5.trans s6)) Aw) (same_rp (s5.trans s6) Bw))

end
section
variable {P : Program} {w : World} {K : PySem.W.Frag} {mg : Str → Option Value} {base : Heap}
def spRowB (K : PySem.W.Frag) : Sp := fun vs H Q _ => ∃ (b : Addr) (s : Nat) (r : List Int), vs = [.ref b, .int s] ∧ SqT K H b (r.map V.int) ∧ r.length ≤ 100 ∧ ∀ H', Same H H' → Q (.bl (rowB s r)) H'
theorem ok_rowB (T : Tx mg) {f : Addr} {fd : FuncData} (F : Dn K mg "is_table_row" sIsTableRow ["row", "size"] f fd) : FnOk P w K mg base CX0 1 f fd ["row", "size"] (spRowB K) := by
  refine F.F.ok scIsTableRow (fun vs H Q E h => ?_) (fun cdv A outer s H vs Q E hr h => ?_)
  · obtain ⟨b, s, r, rfl, _⟩ := h
    rfl
  obtain ⟨b, m, r, rfl, hs, hl, q⟩ := h
  have nd := scIsTableRow.nd
  refine ⟨_, (pss_one (ps_ret (pe_and (pe_cmpR op_eq (pe_callB (k_len K rfl) rfl T.m_len PySem.boot_len (pa_cons (pv 0) pa_nil)) (pv 1) (nomark _)) (pe_one (pe_callB (k_all K rfl rfl) rfl T.m_all (by decide +kernel) (pa_cons (pe_lc (own := [("item", (2 : Nat))]) (g := gName 2) rfl nd (k_pit K rfl (pv 0)) (blkOk_by (own := [("item", (2 : Nat))]) (N := nIsTableRow) (sc := defScope sIsTableRow) (by decide +kernel)) (fun _ _ _ _ _ => pg_name (i := 2) nd rfl (Or.inl rfl)) (fun _ _ _ _ _ => pts_nil) (fun _ _ _ _ _ => (pe_chain op_le op_lt pe_int (pv 2) (pv 1)))) pa_nil)))))), ?_⟩
  have hml : (r.map V.int).length = r.length := List.length_map _
  walk_at "rd"
  refine rd_lenT hs ?_
  walk_at "rd"
  rw [hml, dec_len]
  refine iteB (fun c => ?_) (fun c => ?_)
  · walk_at "rd"
    refine rd_it hs fun D hD => ?_
    refine lc_tup (K := K) (a := b) (xs := r.map V.int) (fun i H' => H' D = some (.lst (((r.take i).map (inB m)).map V.bl)) ∧ Same H H') ⟨upd_same, same_new hD⟩ (fun i H' _ p => same_sqt p.2 hs) ?_ ?_
    · rintro i x H' hx ⟨e1, g⟩
      obtain ⟨z, rfl, hz⟩ := map_get hx
      have hi : i < r.length := (List.getElem?_eq_some_iff.mp hz).1
      refine ⟨rfl, ?_⟩
      have fin : ∀ k : Bool, k = inB m z → ∃ acc, H' D = some (.lst acc) ∧ acc.length < sizeLine ∧ (upd H' D (.lst (acc ++ [V.bl k])) D = some (.lst (((r.take (i + 1)).map (inB m)).map V.bl)) ∧ Same H (upd H' D (.lst (acc ++ [V.bl k])))) := by
        rintro k rfl
        refine ⟨_, e1, ?_, ?_, same_own g hD⟩
        · rw [List.length_map, List.length_map, List.length_take]; exact small1000 (by omega)
        · rw [upd_same, blist (inB m) hz]
      walk_at "rd"
      refine iteB (fun c1 => ?_) (fun c1 => ?_)
      · walk_at "rd"
        refine fin _ ?_
        unfold inB
        have c1' := of_decide_eq_true c1
        by_cases c2 : z < (m : Int)
        · rw [decide_eq_true c2, decide_eq_true ⟨c1', c2⟩]
        · rw [decide_eq_false c2, decide_eq_false fun w => c2 w.2]
      · refine fin _ ?_
        unfold inB
        rw [decide_eq_false fun w => of_decide_eq_false c1 w.1]
    · rintro H' ⟨e1, g⟩
      rw [hml, List.take_of_length_le (Nat.le_refl _)] at e1
      walk_at "rd"
      refine rd_all (SqL.of e1) ?_
      have e : rowB m r = (r.map (inB m)).all id := by rw [rowB_eq, c]; rfl
      rw [← e]
      exact q _ g
  · have e : rowB m r = false := by rw [rowB_eq, c]; rfl
    have z := q H (.refl _)
    rw [e] at z
    exact z

end
section
variable {P : Program} {w : World} {K : PySem.W.Frag} {mg : Str → Option Value} {base : Heap}
def spSqB (K : PySem.W.Frag) : Sp := fun vs H Q _ => ∃ (v : V) (s : Nat) (p : List (List Int)), vs = [v, .int s] ∧ Rp K H v (rowsT p) ∧ Few p ∧ ∀ H', Same H H' → Q (.bl (sqB p s)) H'
theorem ok_sqB (T : Tx mg) {f f1 : Addr} {fd d1 : FuncData} (F : Dn K mg "is_square" sIsSquare ["rows", "size"] f fd) (DIsTableRow : Dn K mg "is_table_row" sIsTableRow ["row", "size"] f1 d1) (GIsTableRow : FnOk P w K mg base CX0 1 f1 d1 ["row", "size"] (spRowB K)) :
    FnOk P w K mg base CX0 2 f fd ["rows", "size"] (spSqB K) := by
  refine F.F.ok scIsSquare (fun vs H Q E h => ?_) (fun cdv A outer s H vs Q E hr h => ?_)
  · obtain ⟨v, s, r, rfl, _⟩ := h
    rfl
  obtain ⟨v, m, p, rfl, rp, ⟨hl, hl2⟩, q⟩ := h
  have nd := scIsSquare.nd
  refine ⟨_, (pss_one (ps_ret (pe_and (pe_cmpR op_eq (pe_callB (k_len K rfl) rfl T.m_len PySem.boot_len (pa_cons (pv 0) pa_nil)) (pv 1) (nomark _)) (pe_one (pe_callB (k_all K rfl rfl) rfl T.m_all (by decide +kernel) (pa_cons (pe_lc (own := [("row", (2 : Nat))]) (g := gName 2) rfl nd (k_pit K rfl (pv 0)) (blkOk_by (own := [("row", (2 : Nat))]) (N := nIsSquare) (sc := defScope sIsSquare) (by decide +kernel)) (fun _ _ _ _ _ => pg_name (i := 2) nd rfl (Or.inl rfl)) (fun _ _ _ _ _ => pts_nil) (fun _ _ _ _ _ => (pe_call GIsTableRow (hr.mono (by omega)) rfl DIsTableRow.m DIsTableRow.F.kp DIsTableRow.b .nil pass0 (pa_cons (pv 2) (pa_cons (pv 1) pa_nil))))) pa_nil)))))), ?_⟩
  obtain ⟨a, xs, rfl, hs, hml, rows⟩ := rp.rows
  walk_at "rd"
  refine rd_lenT hs ?_
  walk_at "rd"
  rw [hml, dec_len]
  refine iteB (fun c => ?_) (fun c => ?_)
  · walk_at "rd"
    refine rd_it hs fun D hD => ?_
    refine lc_tup (K := K) (a := a) (xs := xs) (fun i H' => H' D = some (.lst (((p.take i).map (rowB m)).map V.bl)) ∧ Same H H') ⟨upd_same, same_new hD⟩ (fun i H' _ p => same_sqt p.2 hs) ?_ ?_
    · rintro i x H' hx ⟨e1, g⟩
      have hi : i < p.length := by rw [← hml]; exact (List.getElem?_eq_some_iff.mp hx).1
      have hz : p[i]? = some p[i] := List.getElem?_eq_getElem hi
      obtain ⟨b, hb, sb⟩ := rows i _ hz
      rw [hx] at hb
      cases hb
      refine ⟨rfl, ?_⟩
      walk_at "rd"
      refine ⟨b, m, p[i], rfl, same_sqt g sb, hl2 _ (List.getElem_mem hi), fun H2 g2 => ?_⟩
      refine ⟨_, g2 _ _ e1, ?_, ?_, same_own (g.trans g2) hD⟩
      · rw [List.length_map, List.length_map, List.length_take]; exact small1000 (by omega)
      · rw [upd_same, blist (rowB m) hz]
    · rintro H' ⟨e1, g⟩
      rw [hml, List.take_of_length_le (Nat.le_refl _)] at e1
      walk_at "rd"
      refine rd_all (SqL.of e1) ?_
      have e : sqB p m = (p.map (rowB m)).all id := by rw [sqB_eq, c]; rfl
      rw [← e]
      exact q _ g
  · have e : sqB p m = false := by rw [sqB_eq, c]; rfl
    have z := q H (.refl _)
    rw [e] at z
    exact z

end
section
variable {P : Program} {w : World} {K : PySem.W.Frag} {mg : Str → Option Value} {base : Heap}
/-- the constants of tables -/
structure Te (K : PySem.W.Frag) (mg : Str → Option Value) (eA : Addr) : Prop where
  g_LARGEST : ∃ t, mg "LARGEST" = some (.int 6 t)
  g_EQUATIONS : mg "EQUATIONS" = some (.ref eA)
  p_EQUATIONS : ∀ H, SqT K H eA ((List.range 8).map fun k => V.str (nmS k))
def spForm (K : PySem.W.Frag) : Sp := fun vs H Q _ => ∃ (v : V) (o : Int) (p t : List (List Int)), vs = [v] ∧ Rp K H v (Hs.table o p t).td ∧ Few p ∧ Few t ∧ ∀ H', Same H H' → Q (.bl (formB o p t)) H'
theorem formB_eq (o : Int) (p t : List (List Int)) : formB o p t = (decide (1 ≤ p.length ∧ p.length ≤ 6) && (sqB p p.length && (sqB t p.length && decide (0 ≤ o ∧ o < (p.length : Int))))) := by
  unfold formB
  rw [Bool.and_assoc, Bool.and_assoc]
theorem ok_form (T : Tx mg) {eA : Addr} (C : Te K mg eA) {f f1 : Addr} {fd d1 : FuncData} (F : Dn K mg "has_form" sHasForm ["house"] f fd) (DIsSquare : Dn K mg "is_square" sIsSquare ["rows", "size"] f1 d1) (GIsSquare : FnOk P w K mg base CX0 2 f1 d1 ["rows", "size"] (spSqB K)) :
    FnOk P w K mg base CX0 3 f fd ["house"] (spForm K) := by
  refine F.F.ok scHasForm (fun vs H Q E h => ?_) (fun cdv A outer s H vs Q E hr h => ?_)
  · obtain ⟨v, o, p, t, rfl, _⟩ := h
    rfl
  obtain ⟨v, o, p, t, rfl, r, fp, ft, q⟩ := h
  have nd := scHasForm.nd
  obtain ⟨tk, hL⟩ := C.g_LARGEST
  refine ⟨_, (pss_cons (ps_asg (pe_slice (k_slT K rfl) (pv 0) (po_some pe_int) po_none) (pg_tup rfl (pgs_cons (pg_name (i := 1) nd rfl (Or.inl rfl)) (pgs_cons (pg_name (i := 2) nd rfl (Or.inl rfl)) (pgs_cons (pg_name (i := 3) nd rfl (Or.inl rfl)) pgs_nil)))))
  (pss_cons (ps_set (i := 4) nd rfl (Or.inl rfl) (pe_callB (k_len K rfl) rfl T.m_len PySem.boot_len (pa_cons (pv 2) pa_nil)))
  (pss_one (ps_ret (pe_and (pe_chain op_le op_le pe_int (pv 4) (pe_glob (v := .int 6) rfl hL ⟨_, rfl⟩)) (pe_and (pe_call GIsSquare (hr.mono (by omega)) rfl DIsSquare.m DIsSquare.F.kp DIsSquare.b .nil pass0 (pa_cons (pv 2) (pa_cons (pv 4) pa_nil))) (pe_and (pe_call GIsSquare (hr.mono (by omega)) rfl DIsSquare.m DIsSquare.F.kp DIsSquare.b .nil pass0 (pa_cons (pv 3) (pa_cons (pv 4) pa_nil))) (pe_one (pe_chain op_le op_lt pe_int (pv 1) (pv 4)))))))))), ?_⟩
  obtain ⟨a, pv', tv', rfl, hs, rp, rt⟩ := r.three
  walk_at "rd"
  refine rd_tab hs fun c H1 e1 g0 => ?_
  refine rd_gtup (SqT.of e1) rfl ?_
  walk_at "rd"
  obtain ⟨ap, xp, rfl, hsp, hmp, _⟩ := (same_rp g0 rp).rows
  refine rd_lenT hsp ?_
  walk_at "rd"
  rw [hmp]
  have eq := formB_eq o p t
  have low : ∀ H' (k : Bool), k = formB o p t → Same H H' → Q (.bl k) H' := fun H' k e g => by rw [e]; exact q _ g
  refine iteB (fun c1 => ?_) (fun c1 => ?_)
  · walk_at "rd"
    have c1' := of_decide_eq_true c1
    refine iteB (fun c2 => ?_) (fun c2 => ?_)
    · have c2' := of_decide_eq_true c2
      have e1 : decide (1 ≤ p.length ∧ p.length ≤ 6) = true := decide_eq_true ⟨by omega, by omega⟩
      rw [e1, Bool.true_and] at eq
      walk_at "rd"
      refine ⟨_, p.length, p, rfl, same_rp g0 rp, fp, fun H2 g2 => ?_⟩
      walk_at "rd"
      refine iteB (fun c3 => ?_) (fun c3 => ?_)
      · rw [c3, Bool.true_and] at eq
        walk_at "rd"
        refine ⟨tv', p.length, t, rfl, same_rp (g0.trans g2) rt, ft, fun H3 g3 => ?_⟩
        walk_at "rd"
        refine iteB (fun c4 => ?_) (fun c4 => ?_)
        · rw [c4, Bool.true_and] at eq
          walk_at "rd"
          refine iteB (fun c5 => ?_) (fun c5 => ?_)
          · walk_at "rd"
            have c5' := of_decide_eq_true c5
            refine low _ _ ?_ (g0.trans (g2.trans g3))
            rw [eq]
            by_cases c6 : o < (p.length : Int)
            · rw [decide_eq_true c6, decide_eq_true ⟨c5', c6⟩]
            · rw [decide_eq_false c6, decide_eq_false fun w => c6 w.2]
          · refine low _ _ ?_ (g0.trans (g2.trans g3))
            rw [eq, decide_eq_false fun w => of_decide_eq_false c5 w.1]
        · rw [c4] at eq
          exact low _ _ eq.symm (g0.trans (g2.trans g3))
      · rw [c3] at eq
        exact low _ _ eq.symm (g0.trans g2)
    · rw [decide_eq_false fun w : 1 ≤ p.length ∧ p.length ≤ 6 => of_decide_eq_false c2 (by omega)] at eq
      exact low _ _ eq.symm g0
  · rw [decide_eq_false fun w : 1 ≤ p.length ∧ p.length ≤ 6 => of_decide_eq_false c1 (by omega)] at eq
    walk_at "rd"
    exact low H1 false eq.symm g0

end
section
variable {P : Program} {w : World} {K : PySem.W.Frag} {mg : Str → Option Value} {base : Heap}
def spHolds (K : PySem.W.Frag) : Sp := fun vs H Q _ => ∃ (v : V) (o : Int) (p t : List (List Int)) (k : Nat) (a b c : Int), vs = [v, .str (nmS k), .int a, .int b, .int c] ∧ Rp K H v (Hs.table o p t).td ∧ formB o p t = true ∧ k < 8 ∧
  InS p.length a ∧ InS p.length b ∧ InS p.length c ∧ ∀ H', Same H H' → Q (.bl (eqn o p t k a b c)) H'
theorem ok_holds (T : Tx mg) {f : Addr} {fd : FuncData} (F : Dn K mg "holds" sHolds ["house", "name", "a", "b", "c"] f fd) : FnOk P w K mg base CX0 1 f fd ["house", "name", "a", "b", "c"] (spHolds K) := by
  refine F.F.ok scHolds (fun vs H Q E h => ?_) (fun cdv A outer s H vs Q E hr h => ?_)
  · obtain ⟨v, o, p, t, k, a, b, c, rfl, _⟩ := h
    rfl
  obtain ⟨v, o, p, t, k, a, b, c, rfl, r, hf, hk, ha, hb, hc, q⟩ := h
  have nd := scHolds.nd
  obtain ⟨f1, f2, f3, f4, ho⟩ := form_of hf
  have h0 : InS p.length 0 := ⟨Int.le_refl 0, by omega⟩
  refine ⟨_, (pss_cons (ps_asg (pe_slice (k_slT K rfl) (pv 0) (po_some pe_int) po_none) (pg_tup rfl (pgs_cons (pg_name (i := 5) nd rfl (Or.inl rfl)) (pgs_cons (pg_name (i := 6) nd rfl (Or.inl rfl)) (pgs_cons (pg_name (i := 7) nd rfl (Or.inl rfl)) pgs_nil)))))
  (pss_one (ps_match (pv 1) (pm_cons pp_val (pss_one (ps_ret (pe_cmpR op_eq (pe_ix (k_ixT K rfl) (pe_ix (k_ixT K rfl) (pv 6) (pv 2) (fun _ _ => rfl)) (pv 3) (fun _ _ => rfl)) (pe_ix (k_ixT K rfl) (pe_ix (k_ixT K rfl) (pv 6) (pv 3) (fun _ _ => rfl)) (pv 2) (fun _ _ => rfl)) (nomark _))))
   (pm_cons pp_val (pss_one (ps_ret (pe_cmpR op_eq (pe_ix (k_ixT K rfl) (pe_ix (k_ixT K rfl) (pv 6) (pe_ix (k_ixT K rfl) (pe_ix (k_ixT K rfl) (pv 6) (pv 2) (fun _ _ => rfl)) (pv 3) (fun _ _ => rfl)) (fun _ _ => rfl)) (pv 4) (fun _ _ => rfl)) (pe_ix (k_ixT K rfl) (pe_ix (k_ixT K rfl) (pv 6) (pv 2) (fun _ _ => rfl)) (pe_ix (k_ixT K rfl) (pe_ix (k_ixT K rfl) (pv 6) (pv 3) (fun _ _ => rfl)) (pv 4) (fun _ _ => rfl)) (fun _ _ => rfl)) (nomark _))))
   (pm_cons pp_val (pss_one (ps_ret (pe_cmpR op_eq (pe_ix (k_ixT K rfl) (pe_ix (k_ixT K rfl) (pv 6) pe_int (fun _ _ => rfl)) (pv 2) (fun _ _ => rfl)) (pv 2) (nomark _))))
   (pm_cons pp_val (pss_one (ps_ret (pe_cmpR op_eq (pe_ix (k_ixT K rfl) (pe_ix (k_ixT K rfl) (pv 7) (pv 2) (fun _ _ => rfl)) (pv 3) (fun _ _ => rfl)) (pe_ix (k_ixT K rfl) (pe_ix (k_ixT K rfl) (pv 7) (pv 3) (fun _ _ => rfl)) (pv 2) (fun _ _ => rfl)) (nomark _))))
   (pm_cons pp_val (pss_one (ps_ret (pe_cmpR op_eq (pe_ix (k_ixT K rfl) (pe_ix (k_ixT K rfl) (pv 7) (pe_ix (k_ixT K rfl) (pe_ix (k_ixT K rfl) (pv 7) (pv 2) (fun _ _ => rfl)) (pv 3) (fun _ _ => rfl)) (fun _ _ => rfl)) (pv 4) (fun _ _ => rfl)) (pe_ix (k_ixT K rfl) (pe_ix (k_ixT K rfl) (pv 7) (pv 2) (fun _ _ => rfl)) (pe_ix (k_ixT K rfl) (pe_ix (k_ixT K rfl) (pv 7) (pv 3) (fun _ _ => rfl)) (pv 4) (fun _ _ => rfl)) (fun _ _ => rfl)) (nomark _))))
   (pm_cons pp_val (pss_one (ps_ret (pe_cmpR op_eq (pe_ix (k_ixT K rfl) (pe_ix (k_ixT K rfl) (pv 7) (pv 5) (fun _ _ => rfl)) (pv 2) (fun _ _ => rfl)) (pv 2) (nomark _))))
   (pm_cons pp_val (pss_one (ps_ret (pe_cmpR op_eq (pe_ix (k_ixT K rfl) (pe_ix (k_ixT K rfl) (pv 7) (pv 2) (fun _ _ => rfl)) (pe_ix (k_ixT K rfl) (pe_ix (k_ixT K rfl) (pv 6) (pv 3) (fun _ _ => rfl)) (pv 4) (fun _ _ => rfl)) (fun _ _ => rfl)) (pe_ix (k_ixT K rfl) (pe_ix (k_ixT K rfl) (pv 6) (pe_ix (k_ixT K rfl) (pe_ix (k_ixT K rfl) (pv 7) (pv 2) (fun _ _ => rfl)) (pv 3) (fun _ _ => rfl)) (fun _ _ => rfl)) (pe_ix (k_ixT K rfl) (pe_ix (k_ixT K rfl) (pv 7) (pv 2) (fun _ _ => rfl)) (pv 4) (fun _ _ => rfl)) (fun _ _ => rfl)) (nomark _))))
   (pm_cons pp_val (pss_one (ps_ret (pe_cmpR op_eq (pe_ix (k_ixT K rfl) (pe_ix (k_ixT K rfl) (pv 7) pe_int (fun _ _ => rfl)) (pv 2) (fun _ _ => rfl)) pe_int (nomark _))))
   pm_nil))))))))))), ?_⟩
  obtain ⟨adr, pv', tv', rfl, hs, rp, rt⟩ := r.three
  walk_at "rd"
  refine rd_tab hs fun cc H1 e1 g0 => ?_
  refine rd_gtup (SqT.of e1) rfl ?_
  have TP : Tab K H1 pv' p p.length := ⟨same_rp g0 rp, f3⟩
  have TT : Tab K H1 tv' t p.length := ⟨same_rp g0 rt, f4⟩
  have cs : k = 0 ∨ k = 1 ∨ k = 2 ∨ k = 3 ∨ k = 4 ∨ k = 5 ∨ k = 6 ∨ k = 7 := by omega
  have fin := q H1 g0
  clear q
  rcases cs with rfl | rfl | rfl | rfl | rfl | rfl | rfl | rfl <;> walk_at "dec" <;> walk_at "tab" <;> rw [decI] <;> exact fin

end
section
variable {P : Program} {w : World} {K : PySem.W.Frag} {mg : Str → Option Value} {base : Heap}
def tripT : Option T3 → TD
  | none => .non
  | some (a, b, c) => .tup [.int a, .int b, .int c]
def spLeast (K : PySem.W.Frag) : Sp := fun vs H Q _ => ∃ (v : V) (o : Int) (p t : List (List Int)) (k : Nat), vs = [v, .str (nmS k)] ∧ Rp K H v (Hs.table o p t).td ∧ formB o p t = true ∧ k < 8 ∧ ∀ u H', Same H H' → Rp K H' u (tripT (fstOf o p t k)) → Q u H'
theorem ok_least (T : Tx mg) {f f1 : Addr} {fd d1 : FuncData} (F : Dn K mg "least_break" sLeastBreak ["house", "name"] f fd) (DHolds : Dn K mg "holds" sHolds ["house", "name", "a", "b", "c"] f1 d1) (GHolds : FnOk P w K mg base CX0 1 f1 d1 ["house", "name", "a", "b", "c"] (spHolds K)) :
    FnOk P w K mg base CX0 2 f fd ["house", "name"] (spLeast K) := by
  refine F.F.ok scLeastBreak (fun vs H Q E h => ?_) (fun cdv A outer s H vs Q E hr h => ?_)
  · obtain ⟨v, o, p, t, k, rfl, _⟩ := h
    rfl
  obtain ⟨v, o, p, t, k, rfl, r, hf, hk, q⟩ := h
  have nd := scLeastBreak.nd
  obtain ⟨f1, f2, f3, f4, ho⟩ := form_of hf
  refine ⟨_, (pss_cons (ps_set (i := 2) nd rfl (Or.inl rfl) (pe_callTy c_range rfl T.m_range (by decide +kernel) (pa_cons (pe_callB (k_len K rfl) rfl T.m_len PySem.boot_len (pa_cons (pe_ix (k_ixT K rfl) (pv 0) pe_int (fun _ _ => rfl)) pa_nil)) pa_nil)))
  (pss_cons (ps_for PassesOwn.never rfl (pi_rng (pv 2)) (pg_name (i := 3) nd rfl (Or.inl rfl)) (pss_one (ps_for PassesOwn.never rfl (pi_rng (pv 2)) (pg_name (i := 4) nd rfl (Or.inl rfl)) (pss_one (ps_for PassesOwn.never rfl (pi_rng (pv 2)) (pg_name (i := 5) nd rfl (Or.inl rfl)) (pss_one (ps_if (pt_not (pt_val (pe_call GHolds (hr.mono (by omega)) rfl DHolds.m DHolds.F.kp DHolds.b .nil pass0 (pa_cons (pv 0) (pa_cons (pv 1) (pa_cons (pv 3) (pa_cons (pv 4) (pa_cons (pv 5) pa_nil)))))))) (pss_one (ps_ret (pe_tup (pa_cons (pv 3) (pa_cons (pv 4) (pa_cons (pv 5) pa_nil)))))) pss_nil)))))))
  (pss_one (ps_ret pe_non)))), ?_⟩
  obtain ⟨adr, pv', tv', rfl, hs, rp, rt⟩ := r.three
  obtain ⟨ap, xp, rfl, hsp, hmp, _⟩ := rp.rows
  walk_at "rd"
  refine rd_ixT hs rfl ?_
  walk_at "rd"
  refine rd_lenT hsp ?_
  walk_at "rd"
  rw [hmp]
  refine rd_rngv fun W H1 nW eW g0 => ?_
  walk_at "rd"
  have hj : (0 : Int) ≤ (p.length : Int) ∧ (p.length : Int) < 1000000 := by omega
  have tn : ((p.length : Int)).toNat = p.length := by omega
  refine rd_rw eW hj ?_
  rw [tn]
  refine for_range (lo := 0) (n := p.length) (fun i σ' H' => ∃ (v3 v4 v5 : Option V), σ' = [some (.ref adr), some (.str (nmS k)), some (.ref W), v3, v4, v5] ∧ Same H1 H' ∧ (nums i).findSome? (in2 p.length p.length (eqn o p t k)) = none)
    ⟨none, none, none, rfl, .refl _, rfl⟩ ?_ ?_
  · rintro i σ' H' hi ⟨v3, v4, v5, rfl, g1, none1⟩
    walk_at "rd"
    rw [Int.zero_add]
    refine rd_rw (g1 _ _ eW) hj ?_
    rw [tn]
    refine for_range (lo := 0) (n := p.length) (fun j σ' H' => ∃ (v4 v5 : Option V), σ' = [some (.ref adr), some (.str (nmS k)), some (.ref W), some (.int i), v4, v5] ∧ Same H1 H' ∧ (nums j).findSome? (in3 p.length (eqn o p t k) i) = none)
      ⟨v4, v5, rfl, g1, rfl⟩ ?_ ?_
    · rintro j σ' H' hj' ⟨v4, v5, rfl, g2, none2⟩
      walk_at "rd"
      rw [Int.zero_add]
      refine rd_rw (g2 _ _ eW) hj ?_
      rw [tn]
      refine for_range (lo := 0) (n := p.length) (fun l σ' H' => ∃ (v5 : Option V), σ' = [some (.ref adr), some (.str (nmS k)), some (.ref W), some (.int i), some (.int j), v5] ∧ Same H1 H' ∧ (nums l).findSome? (hit (eqn o p t k) i j) = none)
        ⟨v5, rfl, g2, rfl⟩ ?_ ?_
      · rintro l σ' H' hl ⟨v5, rfl, g3, none3⟩
        walk_at "rd"
        rw [Int.zero_add]
        refine ⟨_, o, p, t, k, i, j, l, rfl, same_rp (g0.trans g3) r, hf, hk, ⟨by omega, by omega⟩, ⟨by omega, by omega⟩, ⟨by omega, by omega⟩, fun H2 g4 => ?_⟩
        walk_at "rd"
        refine iteB (fun c => ?_) (fun c => ?_)
        · walk_at "rd"
          refine rd_new (len_ok rfl) fun tp htp => ?_
          have h3 : hit (eqn o p t k) i j l = some ((i : Int), (j : Int), (l : Int)) := by
            unfold hit
            rw [if_neg (by rw [Bool.not_eq_true'] at c; rw [c]; exact Bool.false_ne_true)]
          have h2 : in3 p.length (eqn o p t k) i j = some ((i : Int), (j : Int), (l : Int)) := fs_hit hl none3 h3
          have h1 : in2 p.length p.length (eqn o p t k) i = some ((i : Int), (j : Int), (l : Int)) := fs_hit hj' none2 h2
          have h0 : fstOf o p t k = some ((i : Int), (j : Int), (l : Int)) := fs_hit hi none1 h1
          refine q _ _ (((g0.trans g3).trans g4).trans (same_new htp)) ?_
          rw [h0]
          exact .tup (SqT.of upd_same) (.cons (.int _) (.cons (.int _) (.cons (.int _) .nil)))
        · walk_at "rd"
          refine ⟨_, rfl, g3.trans g4, fs_step none3 ?_⟩
          unfold hit
          rw [if_pos (by rw [Bool.not_eq_false'] at c; exact c)]
      · rintro σ' H' ⟨v5, rfl, g3, none3⟩
        exact ⟨_, _, rfl, g3, fs_step none2 none3⟩
    · rintro σ' H' ⟨v4, v5, rfl, g2, none2⟩
      exact ⟨_, _, _, rfl, g2, fs_step none1 none2⟩
  · rintro σ' H' ⟨v3, v4, v5, rfl, g1, none1⟩
    walk_at "rd"
    refine q _ _ (g0.trans g1) ?_
    have h0 : fstOf o p t k = none := none1
    rw [h0]
    exact .non

end
section
variable {P : Program} {w : World} {K : PySem.W.Frag} {mg : Str → Option Value} {base : Heap}
def spFault (K : PySem.W.Frag) : Sp := fun vs H Q _ => ∃ (v : V) (o : Int) (p t : List (List Int)), vs = [v] ∧ Rp K H v (Hs.table o p t).td ∧ Few p ∧ Few t ∧ ∀ u H', Same H H' → Rp K H' u (faultT o p t) → Q u H'
theorem ok_fault (T : Tx mg) {eA : Addr} (C : Te K mg eA) {f f1 f2 : Addr} {fd d1 d2 : FuncData} (F : Dn K mg "fault_of" sFaultOf ["house"] f fd)
    (DHasForm : Dn K mg "has_form" sHasForm ["house"] f1 d1) (GHasForm : FnOk P w K mg base CX0 3 f1 d1 ["house"] (spForm K))
    (DLeastBreak : Dn K mg "least_break" sLeastBreak ["house", "name"] f2 d2) (GLeastBreak : FnOk P w K mg base CX0 2 f2 d2 ["house", "name"] (spLeast K)) :
    FnOk P w K mg base CX0 4 f fd ["house"] (spFault K) := by
  refine F.F.ok scFaultOf (fun vs H Q E h => ?_) (fun cdv A outer s H vs Q E hr h => ?_)
  · obtain ⟨v, o, p, t, rfl, _⟩ := h
    rfl
  obtain ⟨v, o, p, t, rfl, r, fp, ft, q⟩ := h
  have nd := scFaultOf.nd
  refine ⟨_, (pss_cons (ps_if (pt_not (pt_val (pe_call GHasForm (hr.mono (by omega)) rfl DHasForm.m DHasForm.F.kp DHasForm.b .nil pass0 (pa_cons (pv 0) pa_nil)))) (pss_one (ps_ret (pe_tup (pa_cons pe_str pa_nil)))) pss_nil)
  (pss_cons (ps_for PassesOwn.never rfl (k_pit K rfl (pe_glob (v := .ref eA) rfl C.g_EQUATIONS rfl)) (pg_name (i := 1) nd rfl (Or.inl rfl)) (pss_cons (ps_set (i := 2) nd rfl (Or.inl rfl) (pe_call GLeastBreak (hr.mono (by omega)) rfl DLeastBreak.m DLeastBreak.F.kp DLeastBreak.b .nil pass0 (pa_cons (pv 0) (pa_cons (pv 1) pa_nil))))
  (pss_one (ps_if (pt_cmpR o_notN (pv 2) pe_non (nomark _)) (pss_one (ps_ret (pe_tup (pa_cons (pv 1) (k_star K rfl (pv 2) pa_nil))))) pss_nil))))
  (pss_one (ps_ret pe_non)))), ?_⟩
  walk_at "rd"
  refine ⟨v, o, p, t, rfl, r, fp, ft, fun H1 g1 => ?_⟩
  walk_at "rd"
  refine iteB (fun c => ?_) (fun c => ?_)
  · walk_at "rd"
    refine rd_new (len_ok rfl) fun tp htp => ?_
    refine q _ _ (g1.trans (same_new htp)) ?_
    unfold faultT
    rw [if_neg (by rw [Bool.not_eq_true'] at c; rw [c]; exact Bool.false_ne_true)]
    exact .tup (SqT.of upd_same) (.cons (.str _) .nil)
  have hf : formB o p t = true := by rw [Bool.not_eq_false'] at c; exact c
  have ef : faultT o p t = match (List.range 8).findSome? fun k => (fstOf o p t k).map (fltT k) with | none => .non | some d => d := by unfold faultT; exact if_pos hf
  walk_at "rd"
  refine rd_it (C.p_EQUATIONS _) ?_
  refine for_tup (K := K) (a := eA) (xs := (List.range 8).map fun k => V.str (nmS k)) (fun i σ' H' => ∃ (v1 v2 : Option V), σ' = [some v, v1, v2] ∧ Same H1 H' ∧ (List.range i).findSome? (fun k => (fstOf o p t k).map (fltT k)) = none)
    ⟨none, none, rfl, .refl _, rfl⟩ (fun i σ' H' _ _ => C.p_EQUATIONS _) ?_ ?_
  · rintro i x σ' H' hx ⟨v1, v2, rfl, g2, none1⟩
    have hi : i < 8 := by
      have := (List.getElem?_eq_some_iff.mp hx).1
      simpa using this
    have ex : x = .str (nmS i) := by
      rw [List.getElem?_map, List.getElem?_range hi] at hx
      exact (Option.some.inj hx).symm
    subst ex
    walk_at "rd"
    refine ⟨v, o, p, t, i, rfl, same_rp (g1.trans g2) r, hf, hi, fun u H2 g3 ru => ?_⟩
    walk_at "rd"
    cases e : fstOf o p t i with
    | none =>
      rw [e] at ru
      cases ru
      refine iteNF rfl ?_
      walk_at "rd"
      exact ⟨_, _, rfl, g2.trans g3, fsr_step none1 (by rw [e]; rfl)⟩
    | some x =>
      obtain ⟨a, b, c⟩ := x
      rw [e] at ru
      cases ru with
      | @tup aa xs _ sx ax =>
      refine iteNT (fun z => by cases z) ?_
      cases ax with | cons x1 ax =>
      cases ax with | cons x2 ax =>
      cases ax with | cons x3 ax =>
      cases x1; cases x2; cases x3; cases ax
      walk_at "rd"
      refine rd_starT sx ?_
      walk_at "rd"
      refine rd_new (len_ok rfl) fun tp htp => ?_
      refine q _ _ ((g1.trans (g2.trans g3)).trans (same_new htp)) ?_
      rw [ef, fsr_hit hi none1 (show (fstOf o p t i).map (fltT i) = some (fltT i (a, b, c)) by rw [e]; rfl)]
      exact .tup (SqT.of upd_same) (.cons (.str _) (.cons (.int _) (.cons (.int _) (.cons (.int _) .nil))))
  · rintro σ' H' ⟨v1, v2, rfl, g2, none1⟩
    walk_at "rd"
    refine q _ _ (g1.trans g2) ?_
    rw [List.length_map, List.length_range] at none1
    rw [ef, none1]
    exact .non

end
section
variable {P : Program} {w : World} {K : PySem.W.Frag} {mg : Str → Option Value} {base : Heap}
theorem ok_lsq (T : Tx mg) {f : Addr} {fd : FuncData} (F : Dn K mg "_law_square" sLSquare ["rows", "size"] f fd) : FnOk P w K mg base CX0 1 f fd ["rows", "size"] (spSqB K) := by
  refine F.F.ok scLSquare (fun vs H Q E h => ?_) (fun cdv A outer s H vs Q E hr h => ?_)
  · obtain ⟨v, s, r, rfl, _⟩ := h
    rfl
  obtain ⟨v, m, p, rfl, rp, ⟨hl, hl2⟩, q⟩ := h
  have nd := scLSquare.nd
  refine ⟨_, (pss_cons (ps_if (PW.pt (pw_or (pt_cmpR op_ne (pe_callB (k_len K rfl) rfl T.m_len PySem.boot_len (pa_cons (pv 0) pa_nil)) (pv 1) (nomark _)) (pw_or1 (pt_cmpR (k_in K rfl) pe_bl (pe_lc (own := [("row", (2 : Nat))]) (g := gName 2) rfl nd (k_pit K rfl (pv 0)) (blkOk_by (own := [("row", (2 : Nat))]) (N := nLSquare) (sc := defScope sLSquare) (by decide +kernel)) (fun _ _ _ _ _ => pg_name (i := 2) nd rfl (Or.inl rfl)) (fun _ _ _ _ _ => pts_nil) (fun _ _ _ _ _ => (pe_cmpR op_eq (pe_callB (k_len K rfl) rfl T.m_len PySem.boot_len (pa_cons (pv 2) pa_nil)) (pv 1) (nomark _)))) rfl)))) (pss_one (ps_ret pe_bl)) pss_nil)
  (pss_cons (ps_for PassesOwn.never rfl (k_pit K rfl (pv 0)) (pg_name (i := 2) nd rfl (Or.inl rfl)) (pss_one (ps_if (pt_cmpR (k_in K rfl) pe_bl (pe_lc (own := [("item", (3 : Nat))]) (g := gName 3) rfl nd (k_pit K rfl (pv 2)) (blkOk_by (own := [("item", (3 : Nat))]) (N := nLSquare) (sc := defScope sLSquare) (by decide +kernel)) (fun _ _ _ _ _ => pg_name (i := 3) nd rfl (Or.inl rfl)) (fun _ _ _ _ _ => pts_nil) (fun _ _ _ _ _ => (pe_and (pe_cmpR op_le pe_int (pv 3) (nomark _)) (pe_one (pe_cmpR op_lt (pv 3) (pv 1) (nomark _)))))) rfl) (pss_one (ps_ret pe_bl)) pss_nil)))
  (pss_one (ps_ret pe_bl)))), ?_⟩
  obtain ⟨a, xs, rfl, hs, hml, rows⟩ := rp.rows
  walk_at "rd"
  refine rd_lenT hs ?_
  walk_at "rd"
  rw [hml, dec_len]
  refine iteB (fun c => ?_) (fun c => ?_)
  · walk_at "rd"
    have e : sqB p m = false := by rw [sqB_eq]; rw [Bool.not_eq_true'] at c; rw [c]; rfl
    have z := q H (.refl _)
    rw [e] at z
    exact z
  have cl : decide (p.length = m) = true := by rw [Bool.not_eq_false'] at c; exact c
  walk_at "rd"
  refine rd_it hs fun D hD => ?_
  refine lc_tup (K := K) (a := a) (xs := xs) (fun i H' => H' D = some (.lst (((p.take i).map (fun r => decide (r.length = m))).map V.bl)) ∧ Same H H') ⟨upd_same, same_new hD⟩ (fun i H' _ p => same_sqt p.2 hs) ?_ ?_
  · rintro i x H' hx ⟨e1, g⟩
    have hi : i < p.length := by rw [← hml]; exact (List.getElem?_eq_some_iff.mp hx).1
    have hz : p[i]? = some p[i] := List.getElem?_eq_getElem hi
    obtain ⟨b, hb, sb⟩ := rows i _ hz
    rw [hx] at hb
    cases hb
    refine ⟨rfl, ?_⟩
    walk_at "rd"
    refine rd_lenT (same_sqt g sb) ?_
    walk_at "rd"
    rw [List.length_map, dec_len]
    refine ⟨_, e1, ?_, ?_, same_own g hD⟩
    · rw [List.length_map, List.length_map, List.length_take]; exact small1000 (by omega)
    · rw [upd_same, blist (fun r => decide (r.length = m)) hz]
  rintro H1 ⟨e1, g1⟩
  rw [hml, List.take_of_length_le (Nat.le_refl _)] at e1
  refine rd_in (SqL.of e1) rfl (flat_bl _) ?_
  rw [inV_no]
  walk_at "rd"
  refine iteB (fun c => ?_) (fun c => ?_)
  · walk_at "rd"
    have e : sqB p m = false := by
      unfold sqB
      rw [cl, Bool.true_and]
      rw [Bool.not_eq_true', List.all_map] at c
      refine Bool.eq_false_iff.mpr fun h => ?_
      have : (p.all fun r => decide (r.length = m)) = true := by
        rw [List.all_eq_true] at h ⊢
        intro r hr
        have := h r hr
        unfold rowB at this
        rw [Bool.and_eq_true] at this
        exact this.1
      exact absurd (this.symm.trans c) (by decide)
    have z := q H1 g1
    rw [e] at z
    exact z
  have cr : ∀ r ∈ p, r.length = m := by
    rw [Bool.not_eq_false', List.all_map, List.all_eq_true] at c
    intro r hr
    exact of_decide_eq_true (c r hr)
  have esq : sqB p m = p.all fun r => r.all (inB m) := by
    unfold sqB
    rw [cl, Bool.true_and, Bool.eq_iff_iff, List.all_eq_true, List.all_eq_true]
    refine ⟨fun h r hr => ?_, fun h r hr => ?_⟩
    · have := h r hr
      unfold rowB at this
      rw [Bool.and_eq_true] at this
      exact this.2
    · unfold rowB
      rw [decide_eq_true (cr r hr), Bool.true_and]
      exact h r hr
  walk_at "rd"
  refine rd_it (same_sqt g1 hs) ?_
  refine for_tup (K := K) (a := a) (xs := xs) (fun i σ' H' => ∃ (v2 : Option V), σ' = [some (.ref a), some (.int m), v2, none] ∧ Same H1 H' ∧ ((p.take i).all fun r => r.all (inB m)) = true)
    ⟨none, rfl, .refl _, rfl⟩ (fun i σ' H' _ ⟨_, _, g, _⟩ => same_sqt (g1.trans g) hs) ?_ ?_
  · rintro i x σ' H' hx ⟨v2, rfl, g2, all1⟩
    have hi : i < p.length := by rw [← hml]; exact (List.getElem?_eq_some_iff.mp hx).1
    have hz : p[i]? = some p[i] := List.getElem?_eq_getElem hi
    obtain ⟨b, hb, sb⟩ := rows i _ hz
    rw [hx] at hb
    cases hb
    have sb' := same_sqt (g1.trans g2) sb
    have hrl : (p[i].map V.int).length = p[i].length := List.length_map _
    have hr100 := hl2 _ (List.getElem_mem hi)
    walk_at "rd"
    refine rd_it sb' fun D hD => ?_
    refine lc_tup (K := K) (a := b) (xs := p[i].map V.int) (fun j H3 => H3 D = some (.lst (((p[i].take j).map (inB m)).map V.bl)) ∧ Same H' H3) ⟨upd_same, same_new hD⟩ (fun i H' _ p => same_sqt p.2 sb') ?_ ?_
    · rintro j y H3 hy ⟨e3, g3⟩
      obtain ⟨z, rfl, hz'⟩ := map_get hy
      have hj : j < p[i].length := (List.getElem?_eq_some_iff.mp hz').1
      refine ⟨rfl, ?_⟩
      have fin : ∀ k : Bool, k = inB m z → ∃ acc, H3 D = some (.lst acc) ∧ acc.length < sizeLine ∧ (upd H3 D (.lst (acc ++ [V.bl k])) D = some (.lst (((p[i].take (j + 1)).map (inB m)).map V.bl)) ∧ Same H' (upd H3 D (.lst (acc ++ [V.bl k])))) := by
        rintro k rfl
        refine ⟨_, e3, ?_, ?_, same_own g3 hD⟩
        · rw [List.length_map, List.length_map, List.length_take]; exact small1000 (by omega)
        · rw [upd_same, blist (inB m) hz']
      walk_at "rd"
      refine iteB (fun c1 => ?_) (fun c1 => ?_)
      · walk_at "rd"
        refine fin _ ?_
        unfold inB
        have c1' := of_decide_eq_true c1
        by_cases c2 : z < (m : Int)
        · rw [decide_eq_true c2, decide_eq_true ⟨c1', c2⟩]
        · rw [decide_eq_false c2, decide_eq_false fun w => c2 w.2]
      · refine fin _ ?_
        unfold inB
        rw [decide_eq_false fun w => of_decide_eq_false c1 w.1]
    · rintro H3 ⟨e3, g3⟩
      rw [hrl, List.take_of_length_le (Nat.le_refl _)] at e3
      refine rd_in (SqL.of e3) rfl (flat_bl _) ?_
      rw [inV_no, List.all_map]
      walk_at "rd"
      refine iteB (fun c3 => ?_) (fun c3 => ?_)
      · walk_at "rd"
        have e : sqB p m = false := by
          rw [esq]
          refine Bool.eq_false_iff.mpr fun h => ?_
          rw [List.all_eq_true] at h
          have := h _ (List.getElem_mem hi)
          rw [Bool.not_eq_true'] at c3
          exact absurd (this.symm.trans c3) (by decide)
        have z := q H3 (g1.trans (g2.trans g3))
        rw [e] at z
        exact z
      · walk_at "rd"
        refine ⟨_, rfl, g2.trans g3, ?_⟩
        rw [take_snoc hz, List.all_append, all1, Bool.true_and, List.all_cons, List.all_nil, Bool.and_true]
        rw [Bool.not_eq_false'] at c3
        exact c3
  · rintro σ' H' ⟨v2, rfl, g2, all1⟩
    rw [hml, List.take_of_length_le (Nat.le_refl _)] at all1
    walk_at "rd"
    have z := q H' (g1.trans g2)
    rw [esq, all1] at z
    exact z

end
section
variable {P : Program} {w : World} {K : PySem.W.Frag} {mg : Str → Option Value} {base : Heap}
def spEqn (K : PySem.W.Frag) : Sp := fun vs H Q _ => ∃ (v : V) (o : Int) (p t : List (List Int)) (k : Nat) (a b c : Int), vs = [v, .int k, .int a, .int b, .int c] ∧ Rp K H v (Hs.table o p t).td ∧ formB o p t = true ∧ k < 8 ∧
  InS p.length a ∧ InS p.length b ∧ InS p.length c ∧ Q (.bl (eqn o p t k a b c)) H
theorem ok_eqn (T : Tx mg) {f : Addr} {fd : FuncData} (F : Dn K mg "_law_equation" sLEquation ["house", "k", "a", "b", "c"] f fd) : FnOk P w K mg base CX0 1 f fd ["house", "k", "a", "b", "c"] (spEqn K) := by
  refine F.F.ok scLEquation (fun vs H Q E h => ?_) (fun cdv A outer s H vs Q E hr h => ?_)
  · obtain ⟨v, o, p, t, k, a, b, c, rfl, _⟩ := h
    rfl
  obtain ⟨v, o, p, t, k, a, b, c, rfl, r, hf, hk, ha, hb, hc, fin⟩ := h
  have nd := scLEquation.nd
  obtain ⟨f1, f2, f3, f4, ho⟩ := form_of hf
  have h0 : InS p.length 0 := ⟨Int.le_refl 0, by omega⟩
  refine ⟨_, (pss_cons (ps_set (i := 5) nd rfl (Or.inl rfl) (pe_ix (k_ixT K rfl) (pv 0) pe_int (fun _ _ => rfl)))
  (pss_cons (ps_set (i := 6) nd rfl (Or.inl rfl) (pe_ix (k_ixT K rfl) (pv 0) pe_int (fun _ _ => rfl)))
  (pss_cons (ps_if (pt_cmpR op_eq (pv 1) pe_int (nomark _)) (pss_one (ps_ret (pe_cmpR op_eq (pe_ix (k_ixT K rfl) (pe_ix (k_ixT K rfl) (pv 5) (pv 2) (fun _ _ => rfl)) (pv 3) (fun _ _ => rfl)) (pe_ix (k_ixT K rfl) (pe_ix (k_ixT K rfl) (pv 5) (pv 3) (fun _ _ => rfl)) (pv 2) (fun _ _ => rfl)) (nomark _)))) pss_nil)
  (pss_cons (ps_if (pt_cmpR op_eq (pv 1) pe_int (nomark _)) (pss_one (ps_ret (pe_cmpR op_eq (pe_ix (k_ixT K rfl) (pe_ix (k_ixT K rfl) (pv 5) (pe_ix (k_ixT K rfl) (pe_ix (k_ixT K rfl) (pv 5) (pv 2) (fun _ _ => rfl)) (pv 3) (fun _ _ => rfl)) (fun _ _ => rfl)) (pv 4) (fun _ _ => rfl)) (pe_ix (k_ixT K rfl) (pe_ix (k_ixT K rfl) (pv 5) (pv 2) (fun _ _ => rfl)) (pe_ix (k_ixT K rfl) (pe_ix (k_ixT K rfl) (pv 5) (pv 3) (fun _ _ => rfl)) (pv 4) (fun _ _ => rfl)) (fun _ _ => rfl)) (nomark _)))) pss_nil)
  (pss_cons (ps_if (pt_cmpR op_eq (pv 1) pe_int (nomark _)) (pss_one (ps_ret (pe_cmpR op_eq (pe_ix (k_ixT K rfl) (pe_ix (k_ixT K rfl) (pv 5) pe_int (fun _ _ => rfl)) (pv 2) (fun _ _ => rfl)) (pv 2) (nomark _)))) pss_nil)
  (pss_cons (ps_if (pt_cmpR op_eq (pv 1) pe_int (nomark _)) (pss_one (ps_ret (pe_cmpR op_eq (pe_ix (k_ixT K rfl) (pe_ix (k_ixT K rfl) (pv 6) (pv 2) (fun _ _ => rfl)) (pv 3) (fun _ _ => rfl)) (pe_ix (k_ixT K rfl) (pe_ix (k_ixT K rfl) (pv 6) (pv 3) (fun _ _ => rfl)) (pv 2) (fun _ _ => rfl)) (nomark _)))) pss_nil)
  (pss_cons (ps_if (pt_cmpR op_eq (pv 1) pe_int (nomark _)) (pss_one (ps_ret (pe_cmpR op_eq (pe_ix (k_ixT K rfl) (pe_ix (k_ixT K rfl) (pv 6) (pe_ix (k_ixT K rfl) (pe_ix (k_ixT K rfl) (pv 6) (pv 2) (fun _ _ => rfl)) (pv 3) (fun _ _ => rfl)) (fun _ _ => rfl)) (pv 4) (fun _ _ => rfl)) (pe_ix (k_ixT K rfl) (pe_ix (k_ixT K rfl) (pv 6) (pv 2) (fun _ _ => rfl)) (pe_ix (k_ixT K rfl) (pe_ix (k_ixT K rfl) (pv 6) (pv 3) (fun _ _ => rfl)) (pv 4) (fun _ _ => rfl)) (fun _ _ => rfl)) (nomark _)))) pss_nil)
  (pss_cons (ps_if (pt_cmpR op_eq (pv 1) pe_int (nomark _)) (pss_one (ps_ret (pe_cmpR op_eq (pe_ix (k_ixT K rfl) (pe_ix (k_ixT K rfl) (pv 6) (pe_ix (k_ixT K rfl) (pv 0) pe_int (fun _ _ => rfl)) (fun _ _ => rfl)) (pv 2) (fun _ _ => rfl)) (pv 2) (nomark _)))) pss_nil)
  (pss_cons (ps_if (pt_cmpR op_eq (pv 1) pe_int (nomark _)) (pss_one (ps_ret (pe_cmpR op_eq (pe_ix (k_ixT K rfl) (pe_ix (k_ixT K rfl) (pv 6) (pv 2) (fun _ _ => rfl)) (pe_ix (k_ixT K rfl) (pe_ix (k_ixT K rfl) (pv 5) (pv 3) (fun _ _ => rfl)) (pv 4) (fun _ _ => rfl)) (fun _ _ => rfl)) (pe_ix (k_ixT K rfl) (pe_ix (k_ixT K rfl) (pv 5) (pe_ix (k_ixT K rfl) (pe_ix (k_ixT K rfl) (pv 6) (pv 2) (fun _ _ => rfl)) (pv 3) (fun _ _ => rfl)) (fun _ _ => rfl)) (pe_ix (k_ixT K rfl) (pe_ix (k_ixT K rfl) (pv 6) (pv 2) (fun _ _ => rfl)) (pv 4) (fun _ _ => rfl)) (fun _ _ => rfl)) (nomark _)))) pss_nil)
  (pss_one (ps_ret (pe_cmpR op_eq (pe_ix (k_ixT K rfl) (pe_ix (k_ixT K rfl) (pv 6) pe_int (fun _ _ => rfl)) (pv 2) (fun _ _ => rfl)) pe_int (nomark _))))))))))))), ?_⟩
  obtain ⟨adr, pv', tv', rfl, hs, rp, rt⟩ := r.three
  have TP : Tab K H pv' p p.length := ⟨rp, f3⟩
  have TT : Tab K H tv' t p.length := ⟨rt, f4⟩
  walk_at "rd"
  refine rd_ixT hs rfl ?_
  walk_at "rd"
  refine rd_ixT hs rfl ?_
  have cs : k = 0 ∨ k = 1 ∨ k = 2 ∨ k = 3 ∨ k = 4 ∨ k = 5 ∨ k = 6 ∨ k = 7 := by omega
  rcases cs with rfl | rfl | rfl | rfl | rfl | rfl | rfl | rfl <;> walk_at "dec" <;> walk_at "tab"
  iterate 5 (rw [decI]; exact fin)
  · refine rd_ixT hs rfl ?_
    walk_at "tab"
    rw [decI]; exact fin
  iterate 2 (rw [decI]; exact fin)

end
section
variable {P : Program} {w : World} {K : PySem.W.Frag} {mg : Str → Option Value} {base : Heap}
theorem bd_or {a b : Bool} (h : (a || b) = false) : a = false ∧ b = false := by cases a <;> cases b <;> simp_all
theorem ok_lfault (T : Tx mg) {f f1 f2 : Addr} {fd d1 d2 : FuncData} (F : Dn K mg "_law_fault" sLFault ["house"] f fd)
    (DLSquare : Dn K mg "_law_square" sLSquare ["rows", "size"] f1 d1) (GLSquare : FnOk P w K mg base CX0 1 f1 d1 ["rows", "size"] (spSqB K))
    (DLEquation : Dn K mg "_law_equation" sLEquation ["house", "k", "a", "b", "c"] f2 d2) (GLEquation : FnOk P w K mg base CX0 1 f2 d2 ["house", "k", "a", "b", "c"] (spEqn K)) :
    FnOk P w K mg base CX0 2 f fd ["house"] (spFault K) := by
  refine F.F.ok scLFault (fun vs H Q E h => ?_) (fun cdv A outer s H vs Q E hr h => ?_)
  · obtain ⟨v, o, p, t, rfl, _⟩ := h
    rfl
  obtain ⟨v, o, p, t, rfl, r, fp, ft, q⟩ := h
  have nd := scLFault.nd
  refine ⟨_, (pss_cons (ps_set (i := 1) nd rfl (Or.inl rfl) (pe_callB (k_len K rfl) rfl T.m_len PySem.boot_len (pa_cons (pe_ix (k_ixT K rfl) (pv 0) pe_int (fun _ _ => rfl)) pa_nil)))
  (pss_cons (ps_if (PW.pt (pw_or (pt_cmpR op_lt (pv 1) pe_int (nomark _)) (pw_or (pt_cmpR op_gt (pv 1) pe_int (nomark _)) (pw_or (pt_cmpR op_lt (pe_ix (k_ixT K rfl) (pv 0) pe_int (fun _ _ => rfl)) pe_int (nomark _)) (pw_or1 (pt_cmpR op_ge (pe_ix (k_ixT K rfl) (pv 0) pe_int (fun _ _ => rfl)) (pv 1) (nomark _))))))) (pss_one (ps_ret (pe_tup (pa_cons pe_str pa_nil)))) pss_nil)
  (pss_cons (ps_if (PW.pt (pw_or (pt_not (pt_val (pe_call GLSquare (hr.mono (by omega)) rfl DLSquare.m DLSquare.F.kp DLSquare.b .nil pass0 (pa_cons (pe_ix (k_ixT K rfl) (pv 0) pe_int (fun _ _ => rfl)) (pa_cons (pv 1) pa_nil))))) (pw_or1 (pt_not (pt_val (pe_call GLSquare (hr.mono (by omega)) rfl DLSquare.m DLSquare.F.kp DLSquare.b .nil pass0 (pa_cons (pe_ix (k_ixT K rfl) (pv 0) pe_int (fun _ _ => rfl)) (pa_cons (pv 1) pa_nil)))))))) (pss_one (ps_ret (pe_tup (pa_cons pe_str pa_nil)))) pss_nil)
  (pss_cons (ps_set (i := 2) nd rfl (Or.inl rfl) (pe_lst (pa_cons pe_str (pa_cons pe_str (pa_cons pe_str (pa_cons pe_str (pa_cons pe_str (pa_cons pe_str (pa_cons pe_str pa_nil)))))))))
  (pss_cons (ps_expr (k_bm K rfl (pe_bm PySem.F.plainAttrs_list PySem.F.slot_list_append PySem.F.type_list_append mt_append (pv 2) (pa_cons pe_str pa_nil))))
  (pss_cons (ps_for PassesOwn.never rfl (pi_range1 rfl T.m_range (pa_cons pe_int pa_nil)) (pg_name (i := 3) nd rfl (Or.inl rfl)) (pss_cons (ps_set (i := 4) nd rfl (Or.inl rfl) (pe_ix (k_ixL K rfl) (pe_lst (pa_cons pe_int (pa_cons pe_int (pa_cons pe_int (pa_cons pe_int (pa_cons pe_int (pa_cons pe_int (pa_cons pe_int (pa_cons pe_int pa_nil))))))))) (pv 3) (fun _ _ => rfl)))
  (pss_one (ps_for PassesOwn.never rfl (pi_range1 rfl T.m_range (pa_cons (pv 1) pa_nil)) (pg_name (i := 5) nd rfl (Or.inl rfl)) (pss_one (ps_for PassesOwn.never rfl (pi_range1 rfl T.m_range (pa_cons (pe_callB (c_max rfl) rfl T.m_max (by decide +kernel) (pa_cons pe_int (pa_cons (pe_op op_mul (pv 1) (pe_callTy c_int rfl T.m_int (by decide +kernel) (pa_cons (pe_cmpR op_gt (pv 4) pe_int (nomark _)) pa_nil))) pa_nil))) pa_nil)) (pg_name (i := 6) nd rfl (Or.inl rfl)) (pss_one (ps_for PassesOwn.never rfl (pi_range1 rfl T.m_range (pa_cons (pe_callB (c_max rfl) rfl T.m_max (by decide +kernel) (pa_cons pe_int (pa_cons (pe_op op_mul (pv 1) (pe_callTy c_int rfl T.m_int (by decide +kernel) (pa_cons (pe_cmpR op_gt (pv 4) pe_int (nomark _)) pa_nil))) pa_nil))) pa_nil)) (pg_name (i := 7) nd rfl (Or.inl rfl)) (pss_one (ps_if (pt_not (pt_val (pe_call GLEquation (hr.mono (by omega)) rfl DLEquation.m DLEquation.F.kp DLEquation.b .nil pass0 (pa_cons (pv 0) (pa_cons (pv 3) (pa_cons (pv 5) (pa_cons (pv 6) (pa_cons (pv 7) pa_nil)))))))) (pss_one (ps_ret (pe_tup (pa_cons (pe_ix (k_ixL K rfl) (pv 2) (pv 3) (fun _ _ => rfl)) (pa_cons (pv 5) (pa_cons (pv 6) (pa_cons (pv 7) pa_nil))))))) pss_nil))))))))))
  (pss_one (ps_ret pe_non)))))))), ?_⟩
  obtain ⟨adr, pv', tv', rfl, hs, rp, rt⟩ := r.three
  obtain ⟨ap, xp, rfl, hsp, hmp, _⟩ := rp.rows
  have bad : formB o p t = false → ∀ H', Same H H' → ∀ tp, H' tp = none → Q (.ref tp) (upd H' tp (.tup [.str "form"])) := by
    intro hf H' g tp htp
    refine q _ _ (g.trans (same_new htp)) ?_
    unfold faultT
    rw [hf, if_neg Bool.false_ne_true]
    exact .tup (SqT.of upd_same) (.cons (.str _) .nil)
  have eq := formB_eq o p t
  walk_at "rd"
  refine rd_ixT hs rfl ?_
  walk_at "rd"
  refine rd_lenT hsp ?_
  walk_at "rd"
  rw [hmp]
  have nform : ∀ {X : Prop}, (¬ (1 ≤ p.length ∧ p.length ≤ 6 ∧ InS p.length o)) → formB o p t = false := fun h => by
    refine Bool.eq_false_iff.mpr fun hf => h ?_
    obtain ⟨a1, a2, _, _, a3⟩ := form_of hf
    exact ⟨a1, a2, a3⟩
  refine iteB (fun c1 => ?_) (fun c1 => ?_)
  · walk_at "rd"
    refine rd_new (len_ok rfl) fun tp htp => ?_
    exact bad (nform (X := True) fun w => by have := of_decide_eq_true c1; omega) _ (.refl _) tp htp
  walk_at "rd"
  refine iteB (fun c2 => ?_) (fun c2 => ?_)
  · walk_at "rd"
    refine rd_new (len_ok rfl) fun tp htp => ?_
    exact bad (nform (X := True) fun w => by have := of_decide_eq_true c2; omega) _ (.refl _) tp htp
  walk_at "rd"
  refine rd_ixT hs rfl ?_
  walk_at "rd"
  refine iteB (fun c3 => ?_) (fun c3 => ?_)
  · walk_at "rd"
    refine rd_new (len_ok rfl) fun tp htp => ?_
    exact bad (nform (X := True) fun w => by have := of_decide_eq_true c3; have := w.2.2.1; omega) _ (.refl _) tp htp
  walk_at "rd"
  refine rd_ixT hs rfl ?_
  walk_at "rd"
  refine iteB (fun c4 => ?_) (fun c4 => ?_)
  · walk_at "rd"
    refine rd_new (len_ok rfl) fun tp htp => ?_
    exact bad (nform (X := True) fun w => by have := of_decide_eq_true c4; have := w.2.2.2; omega) _ (.refl _) tp htp
  have c1' := of_decide_eq_false c1
  have c2' := of_decide_eq_false c2
  have c3' := of_decide_eq_false c3
  have c4' := of_decide_eq_false c4
  rw [decide_eq_true (show 1 ≤ p.length ∧ p.length ≤ 6 by omega), decide_eq_true (show 0 ≤ o ∧ o < (p.length : Int) by omega), Bool.true_and, Bool.and_true] at eq
  walk_at "rd"
  refine rd_ixT hs rfl ?_
  walk_at "rd"
  refine ⟨_, p.length, p, rfl, rp, fp, fun H1 g1 => ?_⟩
  walk_at "rd"
  refine iteB (fun c5 => ?_) (fun c5 => ?_)
  · walk_at "rd"
    refine rd_new (len_ok rfl) fun tp htp => ?_
    exact bad (by rw [eq]; rw [Bool.not_eq_true'] at c5; rw [c5]; rfl) _ g1 tp htp
  walk_at "rd"
  refine rd_ixT (same_sqt g1 hs) rfl ?_
  walk_at "rd"
  refine ⟨tv', p.length, t, rfl, same_rp g1 rt, ft, fun H2 g2 => ?_⟩
  walk_at "rd"
  have g12 := g1.trans g2
  refine iteB (fun c6 => ?_) (fun c6 => ?_)
  · walk_at "rd"
    refine rd_new (len_ok rfl) fun tp htp => ?_
    exact bad (by rw [eq]; rw [Bool.not_eq_true'] at c6; rw [c6]; exact Bool.and_false _) _ g12 tp htp
  have hf : formB o p t = true := by
    rw [eq]
    rw [Bool.not_eq_false'] at c5 c6
    rw [c5, c6]; rfl
  have ef : faultT o p t = match (List.range 8).findSome? fun k => (fstOf o p t k).map (fltT k) with | none => .non | some d => d := by unfold faultT; exact if_pos hf
  clear bad nform eq
  walk_at "rd"
  refine rd_mk (len_ok rfl) fun N H3 nN eN g3 => ?_
  walk_at "rd"
  refine rd_ty (SqL.of eN) ?_
  walk_at "rd"
  refine rd_append eN (by decide) ?_
  walk_at "rd"
  have hN0 : H N = none := g12.free nN
  have g4 : Same H (upd H3 N (.lst eqNames)) := same_own (g12.trans g3) hN0
  have eN4 : (upd H3 N (.lst eqNames)) N = some (.lst eqNames) := upd_same
  refine rd_r1 ⟨by decide, by decide⟩ ?_
  show tForJ (Itr 0 8) _ _ _ _ (upd H3 N (.lst eqNames))
  generalize upd H3 N (.lst eqNames) = H4 at *
  refine for_range (lo := 0) (n := 8) (fun k σ' H' => ∃ (v3 v4 v5 v6 v7 : Option V), σ' = [some (.ref adr), some (.int p.length), some (.ref N), v3, v4, v5, v6, v7] ∧ Same H4 H' ∧ (List.range k).findSome? (fun k => (fstOf o p t k).map (fltT k)) = none)
    ⟨none, none, none, none, none, rfl, .refl _, rfl⟩ ?_ ?_
  · rintro k σ' H' hk ⟨v3, v4, v5, v6, v7, rfl, g5, none0⟩
    walk_at "rd"
    rw [Int.zero_add]
    refine rd_mk (len_ok rfl) fun L1 H5 n5 e5 s5 => ?_
    walk_at "rd"
    refine rd_ixL (SqL.of e5) (many_at hk) ?_
    walk_at "rd"
    have ps : 1 ≤ p.length := by omega
    have ek : fstOf o p t k = fst3 p.length (if many k > 1 then p.length else 1) (if many k > 2 then p.length else 1) (eqn o p t k) := fst_same ps k
    have b1 : (if many k > 1 then p.length else 1) ≤ p.length := by split <;> omega
    have b2 : (if many k > 2 then p.length else 1) ≤ p.length := by split <;> omega
    refine rd_r1 ⟨by omega, by omega⟩ ?_
    rw [show ((p.length : Int)).toNat = p.length by omega]
    refine for_range (lo := 0) (n := p.length) (fun i σ' H' => ∃ (v5 v6 v7 : Option V), σ' = [some (.ref adr), some (.int p.length), some (.ref N), some (.int k), some (.int (many k : Nat)), v5, v6, v7] ∧ Same H4 H' ∧ (nums i).findSome? (in2 (if many k > 1 then p.length else 1) (if many k > 2 then p.length else 1) (eqn o p t k)) = none)
      ⟨_, _, _, rfl, g5.trans s5, rfl⟩ ?_ ?_
    · rintro i σ' H' hi ⟨v5, v6, v7, rfl, g6, none1⟩
      walk_at "rd"
      rw [Int.zero_add]
      refine rd_i (.inl ⟨by omega, by omega⟩) ?_
      walk_at "rd"
      rw [turns_1 ps]
      refine rd_r1 ⟨by omega, by omega⟩ ?_
      rw [Int.toNat_natCast]
      refine for_range (lo := 0) (n := _) (fun j σ' H' => ∃ (v6 v7 : Option V), σ' = [some (.ref adr), some (.int p.length), some (.ref N), some (.int k), some (.int (many k : Nat)), some (.int i), v6, v7] ∧ Same H4 H' ∧ (nums j).findSome? (in3 (if many k > 2 then p.length else 1) (eqn o p t k) i) = none)
        ⟨_, _, rfl, g6, rfl⟩ ?_ ?_
      · rintro j σ' H' hj ⟨v6, v7, rfl, g7, none2⟩
        walk_at "rd"
        rw [Int.zero_add]
        refine rd_i (.inl ⟨by omega, by omega⟩) ?_
        walk_at "rd"
        rw [turns_2 ps]
        refine rd_r1 ⟨by omega, by omega⟩ ?_
        rw [Int.toNat_natCast]
        refine for_range (lo := 0) (n := _) (fun l σ' H' => ∃ (v7 : Option V), σ' = [some (.ref adr), some (.int p.length), some (.ref N), some (.int k), some (.int (many k : Nat)), some (.int i), some (.int j), v7] ∧ Same H4 H' ∧ (nums l).findSome? (hit (eqn o p t k) i j) = none)
          ⟨_, rfl, g7, rfl⟩ ?_ ?_
        · rintro l σ' H' hl ⟨v7, rfl, g8, none3⟩
          walk_at "rd"
          rw [Int.zero_add]
          refine ⟨_, o, p, t, k, i, j, l, rfl, same_rp (g4.trans g8) r, hf, hk, ⟨by omega, by omega⟩, ⟨by omega, by omega⟩, ⟨by omega, by omega⟩, ?_⟩
          walk_at "rd"
          refine iteB (fun c => ?_) (fun c => ?_)
          · walk_at "rd"
            refine rd_ixL (SqL.of (g8 _ _ eN4)) (nm_at hk) ?_
            walk_at "rd"
            refine rd_new (len_ok rfl) fun tp htp => ?_
            have h3 : hit (eqn o p t k) i j l = some ((i : Int), (j : Int), (l : Int)) := by
              unfold hit
              rw [if_neg (by rw [Bool.not_eq_true'] at c; rw [c]; exact Bool.false_ne_true)]
            have h2 : in3 (if many k > 2 then p.length else 1) (eqn o p t k) i j = some ((i : Int), (j : Int), (l : Int)) := fs_hit hl none3 h3
            have h1 : in2 (if many k > 1 then p.length else 1) (if many k > 2 then p.length else 1) (eqn o p t k) i = some ((i : Int), (j : Int), (l : Int)) := fs_hit hj none2 h2
            have h0 : fstOf o p t k = some ((i : Int), (j : Int), (l : Int)) := by rw [ek]; exact fs_hit hi none1 h1
            refine q _ _ ((g4.trans g8).trans (same_new htp)) ?_
            rw [ef, fsr_hit hk none0 (show (fstOf o p t k).map (fltT k) = some (fltT k (i, j, l)) by rw [h0]; rfl)]
            exact .tup (SqT.of upd_same) (.cons (.str _) (.cons (.int _) (.cons (.int _) (.cons (.int _) .nil))))
          · walk_at "rd"
            refine ⟨_, rfl, g8, fs_step none3 ?_⟩
            unfold hit
            rw [if_pos (by rw [Bool.not_eq_false'] at c; exact c)]
        · rintro σ' H' ⟨v7, rfl, g8, none3⟩
          exact ⟨_, _, rfl, g8, fs_step none2 none3⟩
      · rintro σ' H' ⟨v6, v7, rfl, g7, none2⟩
        exact ⟨_, _, _, rfl, g7, fs_step none1 none2⟩
    · rintro σ' H' ⟨v5, v6, v7, rfl, g6, none1⟩
      have e0 : fstOf o p t k = none := by rw [ek]; exact none1
      exact ⟨_, _, _, _, _, rfl, g6, fsr_step none0 (by rw [e0]; rfl)⟩
  · rintro σ' H' ⟨v3, v4, v5, v6, v7, rfl, g5, none0⟩
    walk_at "rd"
    refine q _ _ (g4.trans g5) ?_
    rw [ef, none0]
    exact .non

end
section
variable {P : Program} {w : World} {K : PySem.W.Frag} {mg : Str → Option Value} {base : Heap}
def spOp (K : PySem.W.Frag) : Sp := fun vs H Q _ => ∃ (d : Addr) (s : Nat), vs = [.ref d, .int s] ∧ DrAt d H ∧ 1 ≤ s ∧ s ≤ 7 ∧ ∀ (v : V) (H' : Hp) (p : List (List Int)), Dr d H H' → Rp K H' v (rowsT p) → SqN p s → Q v H'
theorem ok_op (T : Tx mg) {f f1 : Addr} {fd d1 : FuncData} (F : Dn K mg "_law_operation" sLOperation ["draws", "size"] f fd) (DLTake : Dn K mg "_law_take" sLTake ["draws", "many"] f1 d1) (GLTake : FnOk P w K mg base CX0 1 f1 d1 ["draws", "many"] spTake) :
    FnOk P w K mg base CX0 2 f fd ["draws", "size"] (spOp K) := by
  refine F.F.ok scLOperation (fun vs H Q E h => ?_) (fun cdv A outer s H vs Q E hr h => ?_)
  · obtain ⟨d, s, rfl, _⟩ := h
    rfl
  obtain ⟨d, m, rfl, hd, m1, m7, q⟩ := h
  have nd := scLOperation.nd
  refine ⟨_, (pss_cons (ps_set (i := 2) nd rfl (Or.inl rfl) (pe_call GLTake (hr.mono (by omega)) rfl DLTake.m DLTake.F.kp DLTake.b .nil pass0 (pa_cons (pv 0) (pa_cons pe_int pa_nil))))
  (pss_cons (ps_set (i := 3) nd rfl (Or.inl rfl) (pe_lst pa_nil))
  (pss_cons (ps_for PassesOwn.never rfl (pi_range1 rfl T.m_range (pa_cons (pv 1) pa_nil)) (pg_name (i := 4) nd rfl (Or.inl rfl)) (pss_cons (ps_set (i := 5) nd rfl (Or.inl rfl) (pe_lst pa_nil))
  (pss_cons (ps_for PassesOwn.never rfl (pi_range1 rfl T.m_range (pa_cons (pv 1) pa_nil)) (pg_name (i := 6) nd rfl (Or.inl rfl)) (pss_cons (ps_set (i := 7) nd rfl (Or.inl rfl) (pe_lst (pa_cons (pe_callB (c_max rfl) rfl T.m_max (by decide +kernel) (pa_cons (pv 4) (pa_cons (pv 6) pa_nil))) (pa_cons (pe_callB (c_min rfl) rfl T.m_min (by decide +kernel) (pa_cons (pv 4) (pa_cons (pv 6) pa_nil))) (pa_cons (pe_op op_modN (pe_callTy c_int rfl T.m_int (by decide +kernel) (pa_cons (pe_op op_add (pv 4) (pv 6)) pa_nil)) (pv 1)) (pa_cons (pe_callB (c_min rfl) rfl T.m_min (by decide +kernel) (pa_cons (pe_op op_sub (pv 1) pe_int) (pa_cons (pe_op op_add (pv 4) (pv 6)) pa_nil))) (pa_cons (pe_op op_modN (pe_callTy c_int rfl T.m_int (by decide +kernel) (pa_cons (pe_op op_mul (pv 4) (pv 6)) pa_nil)) (pv 1)) (pa_cons pe_int pa_nil))))))))
  (pss_one (ps_expr (k_bm K rfl (pe_bm PySem.F.plainAttrs_list PySem.F.slot_list_append PySem.F.type_list_append mt_append (pv 5) (pa_cons (pe_ix (k_ixL K rfl) (pe_op op_cat (pv 7) (pe_lst (pa_cons (pe_callB (c_min rfl) rfl T.m_min (by decide +kernel) (pa_cons (pe_op op_sub (pv 1) pe_int) (pa_cons (pe_op op_mul (pv 4) (pv 6)) pa_nil))) pa_nil))) (pv 2) (fun _ _ => rfl)) pa_nil)))))))
  (pss_one (ps_expr (k_bm K rfl (pe_bm PySem.F.plainAttrs_list PySem.F.slot_list_append PySem.F.type_list_append mt_append (pv 3) (pa_cons (pe_callTy (k_tuple K rfl) rfl T.m_tuple (by decide +kernel) (pa_cons (pv 5) pa_nil)) pa_nil))))))))
  (pss_one (ps_ret (pe_callTy (k_tuple K rfl) rfl T.m_tuple (by decide +kernel) (pa_cons (pv 3) pa_nil))))))), ?_⟩
  walk_at "rd"
  refine take_step (by decide) hd fun kind H1 k0 k1 g1 => ?_
  walk_at "rd"
  refine rd_mk (len_ok rfl) fun R H2 nR eR s2 => ?_
  walk_at "rd"
  have g2 := g1.same s2
  have fR : H R = none := g1.fresh nR
  have nRd : R ≠ d := g1.ne_new nR
  refine rd_r1 ⟨by omega, by omega⟩ ?_
  rw [show ((m : Int)).toNat = m by omega]
  refine for_range (lo := 0) (n := m) (fun i σ' H' => ∃ (v4 v5 v6 v7 : Option V) (xs : List V) (p : List (List Int)), σ' = [some (.ref d), some (.int m), some (.int kind), some (.ref R), v4, v5, v6, v7] ∧ Dr d H H' ∧ H' R = some (.lst xs) ∧ xs.length = i ∧
      RpA K H' xs (p.map fun r => TD.tup (r.map TD.int)) ∧ p.length = i ∧ ∀ r ∈ p, r.length = m)
    ⟨none, none, none, none, [], [], rfl, g2, eR, rfl, .nil, rfl, fun _ h => nomatch h⟩ ?_ ?_
  · rintro i σ' H3 hi ⟨v4, v5, v6, v7, xs, p, rfl, g3, e3, lx, ra, lp, lr⟩
    walk_at "rd"
    rw [Int.zero_add]
    refine rd_mk (len_ok rfl) fun W H4 nW eW s4 => ?_
    walk_at "rd"
    have fW : H W = none := g3.fresh nW
    have nWd : W ≠ d := g3.ne_new nW
    have nWR : W ≠ R := fun e => by rw [e, e3] at nW; cases nW
    refine rd_r1 ⟨by omega, by omega⟩ ?_
    rw [show ((m : Int)).toNat = m by omega]
    refine for_range (lo := 0) (n := m) (fun j σ' H' => ∃ (v6 v7 : Option V) (r : List Int), σ' = [some (.ref d), some (.int m), some (.int kind), some (.ref R), some (.int i), some (.ref W), v6, v7] ∧ Dr d H H' ∧ H' R = some (.lst xs) ∧
        RpA K H' xs (p.map fun r => TD.tup (r.map TD.int)) ∧ H' W = some (.lst (r.map V.int)) ∧ r.length = j)
      ⟨_, _, [], rfl, g3.same s4, s4 _ _ e3, same_rpa s4 ra, eW, rfl⟩ ?_ ?_
    · rintro j σ' H5 hj ⟨v6, v7, r, rfl, g5, e5, ra5, eW5, lr5⟩
      walk_at "rd"
      rw [Int.zero_add]
      refine rd_i (by omega) ?_
      walk_at "rd"
      refine rd_i (.inl ⟨by omega, by omega⟩) ?_
      walk_at "rd"
      refine rd_i (by omega) ?_
      walk_at "rd"
      refine rd_mk (len_ok rfl) fun L1 H6 n6 e6 s6 => ?_
      walk_at "rd"
      refine rd_ty (SqL.of (s6 _ _ eW5)) ?_
      walk_at "rd"
      refine rd_i (.inl ⟨by omega, by omega⟩) ?_
      walk_at "rd"
      refine rd_mk (len_ok rfl) fun L2 H7 n7 e7 s7 => ?_
      walk_at "rd"
      refine rd_cat (s7 _ _ e6) e7 (len_ok rfl) fun L3 H8 n8 e8 s8 => ?_
      walk_at "rd"
      have s58 := s6.trans (s7.trans s8)
      have pick : ∃ z : Int, atI ([V.int (if (j : Int) > i then j else i), V.int (if (j : Int) < i then j else i), V.int (Int.fmod ((i : Int) + j) m), V.int (if (i : Int) + j < (m : Int) - 1 then (i : Int) + j else (m : Int) - 1), V.int (Int.fmod ((i : Int) * j) m), V.int 0] ++
          [V.int (if (i : Int) * j < (m : Int) - 1 then (i : Int) * j else (m : Int) - 1)]) kind = some (.int z) := by
        have : kind = 0 ∨ kind = 1 ∨ kind = 2 ∨ kind = 3 ∨ kind = 4 ∨ kind = 5 ∨ kind = 6 := by omega
        rcases this with rfl | rfl | rfl | rfl | rfl | rfl | rfl <;> exact ⟨_, rfl⟩
      obtain ⟨z, ez⟩ := pick
      refine rd_ixL (SqL.of e8) ez ?_
      walk_at "rd"
      refine rd_append (s58 _ _ eW5) (by rw [List.length_map]; exact small1000 (by omega)) ?_
      walk_at "rd"
      have eW8 := s58 _ _ eW5
      refine ⟨_, _, r ++ [z], rfl, (g5.same s58).own fW, by rw [upd_ne nWR.symm]; exact s58 _ _ e5, rpa_put eW8 (same_rpa s58 ra5), by rw [upd_same, List.map_append]; rfl, by rw [List.length_append, lr5]; rfl⟩
    · rintro σ' H5 ⟨v6, v7, r, rfl, g5, e5, ra5, eW5, lr5⟩
      walk_at "rd"
      refine rd_ty (SqL.of e5) ?_
      walk_at "rd"
      refine rd_tuple (SqL.of eW5) fun tp htp => ?_
      walk_at "rd"
      have e5' := same_new (o := .tup (r.map V.int)) htp _ _ e5
      refine rd_append e5' (by rw [lx]; exact small1000 (by omega)) ?_
      walk_at "rd"
      have ntR : tp ≠ R := fun e => by rw [e, e5] at htp; cases htp
      refine ⟨_, _, _, _, xs ++ [.ref tp], p ++ [r], rfl, (g5.new htp).own fR, upd_same, by rw [List.length_append, lx]; rfl, ?_, by rw [List.length_append, lp]; rfl, fun r' hr' => ?_⟩
      · rw [List.map_append]
        refine RpA.app (rpa_put e5' (same_rpa (same_new htp) ra5)) (.cons (.tup (SqT.of (by rw [upd_ne ntR]; exact upd_same)) (rpa_ints _)) .nil)
      · rcases List.mem_append.mp hr' with h | h
        · exact lr _ h
        · rw [List.mem_singleton.mp h]; exact lr5
  · rintro σ' H3 ⟨v4, v5, v6, v7, xs, p, rfl, g3, e3, lx, ra, lp, lr⟩
    walk_at "rd"
    refine rd_tuple (SqL.of e3) fun tp htp => ?_
    exact q _ _ p (g3.new htp) (.tup (SqT.of upd_same) (same_rpa (same_new htp) ra)) ⟨lp, lr⟩

end
section
variable {P : Program} {w : World} {K : PySem.W.Frag} {mg : Str → Option Value} {base : Heap}
def spSpoil (K : PySem.W.Frag) : Sp := fun vs H Q _ => ∃ (d a : Addr) (ns : List Int) (v : V) (o : Int) (p t : List (List Int)) (s : Nat), vs = [.ref d, .ref a, v] ∧ DrAt d H ∧ Sc K H d a ns ∧ ns.length ≤ 63 ∧ Rp K H v (Hs.table o p t).td ∧ 1 ≤ s ∧ s ≤ 7 ∧ SqN p s ∧ SqN t s ∧
  ∀ (u : V) (H' : Hp) (o' : Int) (p' t' : List (List Int)), Dr d H H' → Rp K H' u (Hs.table o' p' t').td → Few p' → Few t' → Q u H'
theorem pick2 {r : Int} {x y : V} (h0 : 0 ≤ r) (h1 : r < 2) : ∃ u, atI [x, y] r = some u ∧ (u = x ∨ u = y) := by
  have : r = 0 ∨ r = 1 := by omega
  rcases this with rfl | rfl
  · exact ⟨x, rfl, .inl rfl⟩
  · exact ⟨y, rfl, .inr rfl⟩
theorem pickI {r : Int} {zs : List Int} (h0 : 0 ≤ r) (h1 : r < zs.length) : ∃ z : Int, atI (zs.map V.int) r = some (.int z) := ⟨_, at_ints h0 h1⟩
theorem ok_spoil (T : Tx mg) {f f1 f2 : Addr} {fd d1 d2 : FuncData} (F : Dn K mg "_law_spoilt" sLSpoilt ["draws", "script", "house"] f fd) (DLTake : Dn K mg "_law_take" sLTake ["draws", "many"] f1 d1) (GLTake : FnOk P w K mg base CX0 1 f1 d1 ["draws", "many"] spTake)
    (DLSize : Dn K mg "_law_size" sLSize ["draws", "script"] f2 d2) (GLSize : FnOk P w K mg base CX0 2 f2 d2 ["draws", "script"] (spSize K)) :
    FnOk P w K mg base CX0 3 f fd ["draws", "script", "house"] (spSpoil K) := by
  refine F.F.ok scLSpoilt (fun vs H Q E h => ?_) (fun cdv A outer s H vs Q E hr h => ?_)
  · obtain ⟨d, a, ns, v, o, p, t, s, rfl, _⟩ := h
    rfl
  obtain ⟨d, a, ns, v, o, p, t, m, rfl, hd, hS, h63, r, m1, m7, sqp, sqt, q⟩ := h
  have nd := scLSpoilt.nd
  refine ⟨_, (pss_cons (ps_set (i := 3) nd rfl (Or.inl rfl) (pe_lst (pa_cons (pe_lc (own := [("row", (4 : Nat))]) (g := gName 4) rfl nd (k_pit K rfl (pe_ix (k_ixT K rfl) (pv 2) pe_int (fun _ _ => rfl))) (blkOk_by (own := [("row", (4 : Nat))]) (N := nLSpoilt) (sc := defScope sLSpoilt) (by decide +kernel)) (fun _ _ _ _ _ => pg_name (i := 4) nd rfl (Or.inl rfl)) (fun _ _ _ _ _ => pts_nil) (fun _ _ _ _ _ => (pe_callTy (k_list K rfl) rfl T.m_list (by decide +kernel) (pa_cons (pv 4) pa_nil)))) (pa_cons (pe_lc (own := [("row", (4 : Nat))]) (g := gName 4) rfl nd (k_pit K rfl (pe_ix (k_ixT K rfl) (pv 2) pe_int (fun _ _ => rfl))) (blkOk_by (own := [("row", (4 : Nat))]) (N := nLSpoilt) (sc := defScope sLSpoilt) (by decide +kernel)) (fun _ _ _ _ _ => pg_name (i := 4) nd rfl (Or.inl rfl)) (fun _ _ _ _ _ => pts_nil) (fun _ _ _ _ _ => (pe_callTy (k_list K rfl) rfl T.m_list (by decide +kernel) (pa_cons (pv 4) pa_nil)))) pa_nil))))
  (pss_cons (ps_set (i := 5) nd rfl (Or.inl rfl) (pe_callB (k_len K rfl) rfl T.m_len PySem.boot_len (pa_cons (pe_ix (k_ixT K rfl) (pv 2) pe_int (fun _ _ => rfl)) pa_nil)))
  (pss_cons (ps_set (i := 6) nd rfl (Or.inl rfl) (pe_ix (k_ixT K rfl) (pv 2) pe_int (fun _ _ => rfl)))
  (pss_cons (ps_set (i := 7) nd rfl (Or.inl rfl) (pe_call GLTake (hr.mono (by omega)) rfl DLTake.m DLTake.F.kp DLTake.b .nil pass0 (pa_cons (pv 0) (pa_cons pe_int pa_nil))))
  (pss_cons (ps_set (i := 8) nd rfl (Or.inl rfl) (pe_ix (k_ixL K rfl) (pv 3) (pe_call GLTake (hr.mono (by omega)) rfl DLTake.m DLTake.F.kp DLTake.b .nil pass0 (pa_cons (pv 0) (pa_cons pe_int pa_nil))) (fun _ _ => rfl)))
  (pss_cons (ps_set (i := 9) nd rfl (Or.inl rfl) (pe_call GLTake (hr.mono (by omega)) rfl DLTake.m DLTake.F.kp DLTake.b .nil pass0 (pa_cons (pv 0) (pa_cons (pv 5) pa_nil))))
  (pss_cons (ps_set (i := 10) nd rfl (Or.inl rfl) (pe_call GLTake (hr.mono (by omega)) rfl DLTake.m DLTake.F.kp DLTake.b .nil pass0 (pa_cons (pv 0) (pa_cons (pv 5) pa_nil))))
  (pss_cons (ps_set (i := 11) nd rfl (Or.inl rfl) (pe_call GLTake (hr.mono (by omega)) rfl DLTake.m DLTake.F.kp DLTake.b .nil pass0 (pa_cons (pv 0) (pa_cons (pv 5) pa_nil))))
  (C8.pss_cut (ps_if (pt_cmpR op_lt (pv 7) pe_int (nomark _)) (pss_one (ps_asg (pv 11) (pg_sub (pe_ix (k_ixL K rfl) (pv 8) (pv 9) (fun _ _ => rfl)) (pv 10) set_list))) pss_nil)
  (C8.pss_cut (ps_if (pt_cmpR op_lt (pv 7) pe_int (nomark _)) (pss_one (ps_asg (pv 11) (pg_sub (pe_ix (k_ixL K rfl) (pv 8) (pv 10) (fun _ _ => rfl)) (pv 9) set_list))) pss_nil)
  (C8.pss_cut (ps_if (pt_cmpR op_eq (pv 7) pe_int (nomark _)) (pss_one (ps_asg (pe_ix (k_ixL K rfl) (pe_lst (pa_cons (pv 5) (pa_cons (pe_un un_neg pe_int) (pa_cons (pe_op op_sub (pe_un un_neg pe_int) (pe_call GLSize (hr.mono (by omega)) rfl DLSize.m DLSize.F.kp DLSize.b .nil pass0 (pa_cons (pv 0) (pa_cons (pv 1) pa_nil)))) (pa_cons (pe_op op_add (pv 5) (pe_call GLSize (hr.mono (by omega)) rfl DLSize.m DLSize.F.kp DLSize.b .nil pass0 (pa_cons (pv 0) (pa_cons (pv 1) pa_nil)))) pa_nil))))) (pe_call GLTake (hr.mono (by omega)) rfl DLTake.m DLTake.F.kp DLTake.b .nil pass0 (pa_cons (pv 0) (pa_cons pe_int pa_nil))) (fun _ _ => rfl)) (pg_sub (pe_ix (k_ixL K rfl) (pv 8) (pv 9) (fun _ _ => rfl)) (pv 10) set_list))) pss_nil)
  (C8.pss_cut (ps_if (pt_cmpR op_eq (pv 7) pe_int (nomark _)) (pss_one (ps_expr (k_bm0 K rfl (pe_bm0 PySem.F.plainAttrs_list PySem.F.slot_list_pop PySem.F.type_list_pop mt_pop (pv 8))))) pss_nil)
  (C8.pss_cut (ps_if (pt_cmpR op_eq (pv 7) pe_int (nomark _)) (pss_one (ps_expr (k_bm K rfl (pe_bm PySem.F.plainAttrs_list PySem.F.slot_list_append PySem.F.type_list_append mt_append (pe_ix (k_ixL K rfl) (pv 8) (pv 9) (fun _ _ => rfl)) (pa_cons (pv 11) pa_nil))))) pss_nil)
  (C8.pss_cut (ps_if (pt_cmpR op_eq (pv 7) pe_int (nomark _)) (pss_one (ps_set (i := 6) nd rfl (Or.inl rfl) (pe_ix (k_ixL K rfl) (pe_lst (pa_cons (pv 5) (pa_cons (pe_un un_neg pe_int) (pa_cons (pv 11) (pa_cons (pv 11) (pa_cons (pe_op op_add (pv 5) (pe_call GLSize (hr.mono (by omega)) rfl DLSize.m DLSize.F.kp DLSize.b .nil pass0 (pa_cons (pv 0) (pa_cons (pv 1) pa_nil)))) pa_nil)))))) (pe_call GLTake (hr.mono (by omega)) rfl DLTake.m DLTake.F.kp DLTake.b .nil pass0 (pa_cons (pv 0) (pa_cons pe_int pa_nil))) (fun _ _ => rfl)))) pss_nil)
  (pss_one (ps_ret (pe_tup (pa_cons pe_str (pa_cons (pv 6) (pa_cons (pe_callTy (k_tuple K rfl) rfl T.m_tuple (by decide +kernel) (pa_cons (pe_lc (own := [("row", (4 : Nat))]) (g := gName 4) rfl nd (k_pil K rfl (pe_ix (k_ixL K rfl) (pv 3) pe_int (fun _ _ => rfl))) (blkOk_by (own := [("row", (4 : Nat))]) (N := nLSpoilt) (sc := defScope sLSpoilt) (by decide +kernel)) (fun _ _ _ _ _ => pg_name (i := 4) nd rfl (Or.inl rfl)) (fun _ _ _ _ _ => pts_nil) (fun _ _ _ _ _ => (pe_callTy (k_tuple K rfl) rfl T.m_tuple (by decide +kernel) (pa_cons (pv 4) pa_nil)))) pa_nil)) (pa_cons (pe_callTy (k_tuple K rfl) rfl T.m_tuple (by decide +kernel) (pa_cons (pe_lc (own := [("row", (4 : Nat))]) (g := gName 4) rfl nd (k_pil K rfl (pe_ix (k_ixL K rfl) (pv 3) pe_int (fun _ _ => rfl))) (blkOk_by (own := [("row", (4 : Nat))]) (N := nLSpoilt) (sc := defScope sLSpoilt) (by decide +kernel)) (fun _ _ _ _ _ => pg_name (i := 4) nd rfl (Or.inl rfl)) (fun _ _ _ _ _ => pts_nil) (fun _ _ _ _ _ => (pe_callTy (k_tuple K rfl) rfl T.m_tuple (by decide +kernel) (pa_cons (pv 4) pa_nil)))) pa_nil)) pa_nil))))))))))))))))))))), ?_⟩
  obtain ⟨adr, pv', tv', rfl, hs, rp, rt⟩ := r.three
  obtain ⟨ap, xp, rfl, hsp, hmp, rowp⟩ := rp.rows
  obtain ⟨at', xt, rfl, hst, hmt, rowt⟩ := rt.rows
  walk_at "rd"
  refine rd_ixT hs rfl ?_
  walk_at "rd"
  refine rd_it hsp fun D0 hD0 => ?_
  refine lc_tup (K := K) (a := ap) (xs := xp) (fun i H' => ∃ as : List Addr, H' D0 = some (.lst (as.map V.ref)) ∧ as.length = i ∧ (∀ a ∈ as, a ≠ D0 ∧ H a = none ∧ ∃ r : List Int, H' a = some (.lst (r.map V.int)) ∧ r.length = m) ∧ Same H H')
    ⟨[], upd_same, rfl, (fun _ h => nomatch h), same_new hD0⟩ (fun i H' _ ⟨_, _, _, _, g⟩ => same_sqt g hsp) ?_ ?_
  · rintro i x H' hx ⟨as, e1, la, al, g⟩
    have hi : i < p.length := by rw [← hmp]; exact (List.getElem?_eq_some_iff.mp hx).1
    have hz : p[i]? = some p[i] := List.getElem?_eq_getElem hi
    obtain ⟨b, hb, sb⟩ := rowp i _ hz
    rw [hx] at hb
    cases hb
    refine ⟨rfl, ?_⟩
    walk_at "rd"
    refine rd_listT (same_sqt ((Same.refl H).trans g) sb) fun l hl => ?_
    have e1' := same_new (o := .lst (p[i].map V.int)) hl _ _ e1
    have nl : l ≠ D0 := fun e => by rw [e, e1] at hl; cases hl
    refine ⟨_, e1', by rw [List.length_map, la]; have := sqp.1; have := sqt.1; exact small1000 (by omega), as ++ [l], by rw [upd_same, List.map_append]; rfl, by rw [List.length_append, la]; rfl, fun a ha => ?_, same_own (g.trans (same_new hl)) hD0⟩
    rcases List.mem_append.mp ha with h | h
    · obtain ⟨w1, w2, r, w3, w4⟩ := al a h
      exact ⟨w1, w2, r, by rw [upd_ne w1]; exact same_new hl _ _ w3, w4⟩
    · rw [List.mem_singleton.mp h]
      exact ⟨nl, ((Same.refl H).trans g).free hl, p[i], by rw [upd_ne nl]; exact upd_same, sqp.2 _ (List.getElem_mem hi)⟩
  rintro H1 ⟨asD0, eD0, lD0, alD0, g1⟩
  have G0 : Grid H H1 D0 m := ⟨(Same.refl H).free hD0, asD0, eD0, by rw [lD0, hmp, sqp.1], fun a ha => (alD0 a ha).2⟩
  walk_at "rd"
  refine rd_ixT (same_sqt g1 hs) rfl ?_
  walk_at "rd"
  refine rd_it (same_sqt g1 hst) fun D1 hD1 => ?_
  refine lc_tup (K := K) (a := at') (xs := xt) (fun i H' => ∃ as : List Addr, H' D1 = some (.lst (as.map V.ref)) ∧ as.length = i ∧ (∀ a ∈ as, a ≠ D1 ∧ H a = none ∧ ∃ r : List Int, H' a = some (.lst (r.map V.int)) ∧ r.length = m) ∧ Same H1 H')
    ⟨[], upd_same, rfl, (fun _ h => nomatch h), same_new hD1⟩ (fun i H' _ ⟨_, _, _, _, g⟩ => same_sqt g (same_sqt g1 hst)) ?_ ?_
  · rintro i x H' hx ⟨as, e1, la, al, g⟩
    have hi : i < t.length := by rw [← hmt]; exact (List.getElem?_eq_some_iff.mp hx).1
    have hz : t[i]? = some t[i] := List.getElem?_eq_getElem hi
    obtain ⟨b, hb, sb⟩ := rowt i _ hz
    rw [hx] at hb
    cases hb
    refine ⟨rfl, ?_⟩
    walk_at "rd"
    refine rd_listT (same_sqt (g1.trans g) sb) fun l hl => ?_
    have e1' := same_new (o := .lst (t[i].map V.int)) hl _ _ e1
    have nl : l ≠ D1 := fun e => by rw [e, e1] at hl; cases hl
    refine ⟨_, e1', by rw [List.length_map, la]; have := sqp.1; have := sqt.1; exact small1000 (by omega), as ++ [l], by rw [upd_same, List.map_append]; rfl, by rw [List.length_append, la]; rfl, fun a ha => ?_, same_own (g.trans (same_new hl)) hD1⟩
    rcases List.mem_append.mp ha with h | h
    · obtain ⟨w1, w2, r, w3, w4⟩ := al a h
      exact ⟨w1, w2, r, by rw [upd_ne w1]; exact same_new hl _ _ w3, w4⟩
    · rw [List.mem_singleton.mp h]
      exact ⟨nl, (g1.trans g).free hl, t[i], by rw [upd_ne nl]; exact upd_same, sqt.2 _ (List.getElem_mem hi)⟩
  rintro H2 ⟨asD1, eD1, lD1, alD1, g2⟩
  have G1 : Grid H H2 D1 m := ⟨g1.free hD1, asD1, eD1, by rw [lD1, hmt, sqt.1], fun a ha => (alD1 a ha).2⟩
  walk_at "rd"
  have G0' := G0.same g2
  refine rd_mk (len_ok rfl) fun bo H3 n3 e3 s3 => ?_
  walk_at "rd"
  have g3 := (g1.trans g2).trans s3
  have hbo : H bo = none := (g1.trans g2).free n3
  have nbo : bo ≠ d := fun e => by
    obtain ⟨_, w⟩ := hd
    rw [← e, hbo] at w; cases w
  have dr3 : Dr d H H3 := (Dr.refl hd).same g3
  have G0 := G0'.same s3
  have G1 := G1.same s3
  refine rd_ixT (same_sqt g3 hs) rfl ?_
  walk_at "rd"
  refine rd_lenT (same_sqt g3 hsp) ?_
  walk_at "rd"
  rw [hmp, sqp.1]
  refine rd_ixT (same_sqt g3 hs) rfl ?_
  walk_at "rd"
  refine take_step (by decide) dr3.isD fun kind H4 k0 k1 q4 => ?_
  walk_at "rd"
  refine take_step (by decide) q4.isD fun rr H5 r0 r1 q5 => ?_
  have q45 := q4.trans q5
  obtain ⟨rv, erv, hrv⟩ := pick2 (x := V.ref D0) (y := V.ref D1) r0 r1
  obtain ⟨rw, rfl⟩ : ∃ rw, rv = V.ref rw := by rcases hrv with e | e <;> exact ⟨_, e⟩
  have hrw : rw = D0 ∨ rw = D1 := by rcases hrv with e | e <;> (injection e with e; simp [e])
  refine rd_ixL (SqL.of (q45.kp _ _ nbo e3)) erv ?_
  walk_at "rd"
  refine take_step (by omega) q5.isD fun x H6 x0 x1 q6 => ?_
  walk_at "rd"
  refine take_step (by omega) q6.isD fun y H7 y0 y1 q7 => ?_
  walk_at "rd"
  refine take_step (by omega) q7.isD fun z H8 z0 z1 q8 => ?_
  have q38 := q45.trans (q6.trans (q7.trans q8))
  have dr8 := dr3.trans q38
  have G0 := G0.dr hd q38
  have G1 := G1.dr hd q38
  have e8 := q38.kp _ _ nbo e3
  walk_at "rd"
  clear erv hrv rowp rowt alD0 alD1 eD0 eD1
  have put : ∀ {H' : Hp} {c : Addr} {r0 r' : List Int}, Dr d H H' → H' bo = some (.lst [.ref D0, .ref D1]) → Grid H H' D0 m → Grid H H' D1 m → H c = none → H' c = some (.lst (r0.map V.int)) → r'.length = m →
      Dr d H (upd H' c (.lst (r'.map V.int))) ∧ upd H' c (.lst (r'.map V.int)) bo = some (.lst [.ref D0, .ref D1]) ∧ Grid H (upd H' c (.lst (r'.map V.int))) D0 m ∧ Grid H (upd H' c (.lst (r'.map V.int))) D1 m := by
    intro H' c r0 r' dr eb h0 h1 hc ec hl
    have nb : bo ≠ c := fun e => by
      rw [e, ec] at eb
      have : ([D0, D1].map V.ref) = r0.map V.int := by injection eb with eb; injection eb with eb; exact eb.symm
      exact absurd (refs_ints this) (by simp)
    exact ⟨dr.own hc, by rw [upd_ne nb]; exact eb, h0.put m1 ec hl, h1.put m1 ec hl⟩
  have rowof : ∀ {H' : Hp} {j : Int}, Grid H H' D0 m → Grid H H' D1 m → InS m j → ∃ (as : List Addr) (c : Addr) (r : List Int), H' rw = some (.lst (as.map V.ref)) ∧ atI (as.map V.ref) j = some (.ref c) ∧ H c = none ∧ H' c = some (.lst (r.map V.int)) ∧ r.length = m := by
    intro H' j h0 h1 hj
    rcases hrw with rfl | rfl
    · exact h0.row hj
    · exact h1.row hj
  have ix : InS m x := ⟨x0, x1⟩
  have iy : InS m y := ⟨y0, y1⟩
  -- kind < 5
  refine ⟨(fun σ' H' => σ' = [some (.ref d), some (.ref a), some (.ref adr), some (.ref bo), none, some (.int m), some (.int o), some (.int kind), some (.ref rw), some (.int x), some (.int y), some (.int z)] ∧ Dr d H H' ∧ H' bo = some (.lst [.ref D0, .ref D1]) ∧ Grid H H' D0 m ∧ Grid H H' D1 m), ?_, ?_⟩
  · walk_at "rd"
    refine iteD (fun c => ?_) (fun c => ?_)
    · walk_at "rd"
      obtain ⟨as, c', rr', a1, a2, a3, a4, a5⟩ := rowof G0 G1 ix
      refine rd_ixL (SqL.of a1) a2 ?_
      walk_at "rd"
      refine rd_setL a4 y0 (by rw [List.length_map]; omega) ?_
      rw [← List.map_set]
      exact ⟨rfl, put dr8 e8 G0 G1 a3 a4 (by rw [List.length_set]; exact a5)⟩
    · walk_at "rd"
      exact ⟨rfl, dr8, e8, G0, G1⟩
  rintro σ' H9 ⟨rfl, dr9, e9, G0, G1⟩
  refine ⟨(fun σ' H' => σ' = [some (.ref d), some (.ref a), some (.ref adr), some (.ref bo), none, some (.int m), some (.int o), some (.int kind), some (.ref rw), some (.int x), some (.int y), some (.int z)] ∧ Dr d H H' ∧ H' bo = some (.lst [.ref D0, .ref D1]) ∧ Grid H H' D0 m ∧ Grid H H' D1 m), ?_, ?_⟩
  · walk_at "rd"
    refine iteD (fun c => ?_) (fun c => ?_)
    · walk_at "rd"
      obtain ⟨as, c', rr', a1, a2, a3, a4, a5⟩ := rowof G0 G1 iy
      refine rd_ixL (SqL.of a1) a2 ?_
      walk_at "rd"
      refine rd_setL a4 x0 (by rw [List.length_map]; omega) ?_
      rw [← List.map_set]
      exact ⟨rfl, put dr9 e9 G0 G1 a3 a4 (by rw [List.length_set]; exact a5)⟩
    · walk_at "rd"
      exact ⟨rfl, dr9, e9, G0, G1⟩
  rintro σ' HA ⟨rfl, drA, eA, G0, G1⟩
  refine ⟨(fun σ' H' => σ' = [some (.ref d), some (.ref a), some (.ref adr), some (.ref bo), none, some (.int m), some (.int o), some (.int kind), some (.ref rw), some (.int x), some (.int y), some (.int z)] ∧ Dr d H H' ∧ H' bo = some (.lst [.ref D0, .ref D1]) ∧ Grid H H' D0 m ∧ Grid H H' D1 m), ?_, ?_⟩
  · walk_at "rd"
    refine iteD (fun c => ?_) (fun c => ?_)
    · walk_at "rd"
      refine ⟨d, a, ns, rfl, drA.isD, hS.dr drA, h63, fun n1 HB b0 qB => ?_⟩
      walk_at "rd"
      have drB := drA.trans qB
      refine ⟨d, a, ns, rfl, drB.isD, hS.dr drB, h63, fun n2 HC c0 qC => ?_⟩
      walk_at "rd"
      refine rd_mk (len_ok rfl) fun L1 HD nD eD sD => ?_
      walk_at "rd"
      have drD := (drB.trans qC).same sD
      refine take_step (by decide) drD.isD fun kk HE w0 w1 qE => ?_
      obtain ⟨zz, ezz⟩ := pickI (zs := [(m : Int), -1, -1 - n1, (m : Int) + n2]) w0 (by show kk < 4; omega)
      have nL1 : L1 ≠ d := (drB.trans qC).ne_new nD
      refine rd_ixL (SqL.of (qE.kp _ _ nL1 eD)) ezz ?_
      walk_at "rd"
      have qAll := (qB.trans qC).trans ((Dr.refl qC.isD).same sD |>.trans qE)
      have drE := drD.trans qE
      have G0 := G0.dr hd qAll
      have G1 := G1.dr hd qAll
      have eE := qAll.kp _ _ nbo eA
      obtain ⟨as, c', rr', a1, a2, a3, a4, a5⟩ := rowof G0 G1 ix
      refine rd_ixL (SqL.of a1) a2 ?_
      walk_at "rd"
      refine rd_setL a4 y0 (by rw [List.length_map]; omega) ?_
      rw [← List.map_set]
      exact ⟨rfl, put drE eE G0 G1 a3 a4 (by rw [List.length_set]; exact a5)⟩
    · walk_at "rd"
      exact ⟨rfl, drA, eA, G0, G1⟩
  clear dr8 e8 dr9 e9 drA eA G0' q38
  rintro σ' HA ⟨rfl, drA, eA, G0, G1⟩
  -- kind == 6
  refine ⟨(fun σ' H' => σ' = [some (.ref d), some (.ref a), some (.ref adr), some (.ref bo), none, some (.int m), some (.int o), some (.int kind), some (.ref rw), some (.int x), some (.int y), some (.int z)] ∧ Dr d H H' ∧ H' bo = some (.lst [.ref D0, .ref D1]) ∧ (kind = 7 → Grid H H' D0 m ∧ Grid H H' D1 m) ∧ GridW H H' D0 m ∧ GridW H H' D1 m), ?_, ?_⟩
  · walk_at "rd"
    refine iteD (fun c => ?_) (fun c => ?_)
    · walk_at "rd"
      have ck := V.int.inj c
      have popped : ∀ {D : Addr}, Grid H HA D m → ∃ (as : List Addr) (l : Addr), HA D = some (.lst (as.map V.ref)) ∧ (as.map V.ref)[(as.map V.ref).length - 1]? = some (.ref l) ∧ H D = none ∧ as.length = m ∧ (∀ a ∈ as, H a = none ∧ ∃ r : List Int, HA a = some (.lst (r.map V.int)) ∧ r.length = m) := by
        rintro D ⟨w0, as, w1, w2, w3⟩
        have hl : as.length - 1 < as.length := by omega
        exact ⟨as, as[as.length - 1], w1, by rw [List.length_map, List.getElem?_map, List.getElem?_eq_getElem hl]; rfl, w0, w2, w3⟩
      obtain ⟨as, l, p1, p2, p3, p4, p5⟩ : ∃ (as : List Addr) (l : Addr), HA rw = some (.lst (as.map V.ref)) ∧ (as.map V.ref)[(as.map V.ref).length - 1]? = some (.ref l) ∧ H rw = none ∧ as.length = m ∧ (∀ a ∈ as, H a = none ∧ ∃ r : List Int, HA a = some (.lst (r.map V.int)) ∧ r.length = m) := by
        rcases hrw with rfl | rfl
        · exact popped G0
        · exact popped G1
      refine rd_ty (SqL.of p1) ?_
      refine rd_pop p1 p2 ?_
      walk_at "rd"
      rw [← List.map_dropLast]
      have nb : bo ≠ rw := fun e => by
        rw [e, p1] at eA
        obtain ⟨_, w⟩ := drA.en
        rcases hrw with e2 | e2
        · rw [e2] at p1
          have := drA
          obtain ⟨w0, as', w1, w2, w3⟩ := G0
          rw [p1] at w1
          have e4 : as = [D0, D1] := by
            have h5 : as.map V.ref = [D0, D1].map V.ref := by injection eA with eA; injection eA with eA
            exact List.map_inj_right (fun _ _ h => V.ref.inj h) |>.mp h5
          have := (p5 D0 (by rw [e4]; simp)).2
          obtain ⟨r5, r6, r7⟩ := this
          rw [p1] at r6
          have h6 : as.map V.ref = r5.map V.int := by injection r6 with r6; injection r6 with r6
          have := refs_ints h6
          rw [this] at p4; simp at p4; omega
        · rw [e2] at p1
          have e4 : as = [D0, D1] := by
            have h5 : as.map V.ref = [D0, D1].map V.ref := by injection eA with eA; injection eA with eA
            exact List.map_inj_right (fun _ _ h => V.ref.inj h) |>.mp h5
          have := (p5 D1 (by rw [e4]; simp)).2
          obtain ⟨r5, r6, r7⟩ := this
          rw [p1] at r6
          have h6 : as.map V.ref = r5.map V.int := by injection r6 with r6; injection r6 with r6
          have := refs_ints h6
          rw [this] at p4; simp at p4; omega
      have drop : ∀ {D : Addr}, Grid H HA D m → GridW H (upd HA rw (.lst (as.dropLast.map V.ref))) D m := by
        rintro D ⟨w0, bs, w1, w2, w3⟩
        have keep : ∀ b ∈ bs, H b = none ∧ ∃ r : List Int, upd HA rw (.lst (as.dropLast.map V.ref)) b = some (.lst (r.map V.int)) ∧ r.length ≤ m + 1 := by
          intro b hb
          obtain ⟨v0, r, v1, v2⟩ := w3 b hb
          refine ⟨v0, r, ?_, by omega⟩
          have nb' : b ≠ rw := fun e => by
            rw [e, p1] at v1
            have h6 : as.map V.ref = r.map V.int := by injection v1 with v1; injection v1 with v1
            have := refs_ints h6
            rw [this] at p4; simp at p4; omega
          rw [upd_ne nb']; exact v1
        by_cases e : D = rw
        · subst e
          rw [p1] at w1
          have e4 : as = bs := by
            have h5 : as.map V.ref = bs.map V.ref := by injection w1 with w1; injection w1 with w1
            exact List.map_inj_right (fun _ _ h => V.ref.inj h) |>.mp h5
          subst e4
          exact ⟨w0, as.dropLast, upd_same, by rw [List.length_dropLast]; omega, fun b hb => keep b ((List.dropLast_sublist _).subset hb)⟩
        · exact ⟨w0, bs, by rw [upd_ne e]; exact w1, by omega, keep⟩
      exact ⟨rfl, drA.own p3, by rw [upd_ne nb]; exact eA, fun e => by omega, drop G0, drop G1⟩
    · walk_at "rd"
      exact ⟨rfl, drA, eA, fun _ => ⟨G0, G1⟩, G0.weak, G1.weak⟩
  clear drA eA G0 G1
  rintro σ' HA ⟨rfl, drA, eA, st, W0, W1⟩
  refine ⟨(fun σ' H' => ∃ ne : Int, σ' = [some (.ref d), some (.ref a), some (.ref adr), some (.ref bo), none, some (.int m), some (.int ne), some (.int kind), some (.ref rw), some (.int x), some (.int y), some (.int z)] ∧ Dr d H H' ∧ H' bo = some (.lst [.ref D0, .ref D1]) ∧ GridW H H' D0 m ∧ GridW H H' D1 m), ?_, ?_⟩
  · walk_at "rd"
    refine iteD (fun c => ?_) (fun c => ?_)
    · walk_at "rd"
      obtain ⟨G0, G1⟩ := st (V.int.inj c)
      obtain ⟨as, c', rr', a1, a2, a3, a4, a5⟩ := rowof G0 G1 ix
      refine rd_ixL (SqL.of a1) a2 ?_
      refine rd_ty (SqL.of a4) ?_
      walk_at "rd"
      refine rd_append a4 (by rw [List.length_map]; exact small1000 (by omega)) ?_
      walk_at "rd"
      have el : rr'.map V.int ++ [V.int z] = (rr' ++ [z]).map V.int := by rw [List.map_append]; rfl
      rw [el]
      have nb : bo ≠ c' := fun e => by
        rw [e, a4] at eA
        have : ([D0, D1].map V.ref) = rr'.map V.int := by injection eA with eA; injection eA with eA; exact eA.symm
        exact absurd (refs_ints this) (by simp)
      have ll : (rr' ++ [z]).length ≤ m + 1 := by rw [List.length_append, a5]; exact Nat.le_refl _
      have wk : ∀ (D : Addr), Grid H HA D m → GridW H (upd HA c' (.lst ((rr' ++ [z]).map V.int))) D m := fun D g => by
        obtain ⟨w0, bs, w1, w2, w3⟩ := g
        have nbc : D ≠ c' := fun e => by
          rw [e, a4] at w1
          have : bs = [] := refs_ints (r := rr') (by injection w1 with w1; injection w1 with w1; exact w1.symm)
          subst this
          simp at w2; omega
        refine ⟨w0, bs, by rw [upd_ne nbc]; exact w1, by omega, fun b hb => ?_⟩
        obtain ⟨v0, r, v1, v2⟩ := w3 b hb
        by_cases e : b = c'
        · subst e; exact ⟨v0, _, upd_same, ll⟩
        · exact ⟨v0, r, by rw [upd_ne e]; exact v1, by omega⟩
      exact ⟨o, rfl, drA.own a3, by rw [upd_ne nb]; exact eA, wk _ G0, wk _ G1⟩
    · walk_at "rd"
      exact ⟨o, rfl, drA, eA, W0, W1⟩
  clear drA eA st W0 W1
  rintro σ' HA ⟨ne, rfl, drA, eA, W0, W1⟩
  refine ⟨(fun σ' H' => ∃ ne : Int, σ' = [some (.ref d), some (.ref a), some (.ref adr), some (.ref bo), none, some (.int m), some (.int ne), some (.int kind), some (.ref rw), some (.int x), some (.int y), some (.int z)] ∧ Dr d H H' ∧ H' bo = some (.lst [.ref D0, .ref D1]) ∧ GridW H H' D0 m ∧ GridW H H' D1 m), ?_, ?_⟩
  · walk_at "rd"
    refine iteD (fun c => ?_) (fun c => ?_)
    · walk_at "rd"
      refine ⟨d, a, ns, rfl, drA.isD, hS.dr drA, h63, fun n2 HC c0 qC => ?_⟩
      walk_at "rd"
      have drC := drA.trans qC
      refine rd_mk (len_ok rfl) fun L1 HD nD eD sD => ?_
      walk_at "rd"
      have drD := drC.same sD
      refine take_step (by decide) drD.isD fun kk HE w0 w1 qE => ?_
      obtain ⟨zz, ezz⟩ := pickI (zs := [(m : Int), -1, z, z, (m : Int) + n2]) w0 (by show kk < 5; omega)
      have nL1 : L1 ≠ d := drC.ne_new nD
      refine rd_ixL (SqL.of (qE.kp _ _ nL1 eD)) ezz ?_
      walk_at "rd"
      have qAll := qC.trans ((Dr.refl qC.isD).same sD |>.trans qE)
      exact ⟨zz, rfl, drA.trans qAll, qAll.kp _ _ nbo eA, W0.dr hd qAll, W1.dr hd qAll⟩
    · walk_at "rd"
      exact ⟨ne, rfl, drA, eA, W0, W1⟩
  clear drA eA W0 W1
  rintro σ' HA ⟨ne', rfl, drA, eA, W0, W1⟩
  · walk_at "rd"
    refine rd_ixL (SqL.of eA) rfl ?_
    walk_at "rd"
    obtain ⟨_, asE0, eaE0, laE0, alE0⟩ := W0
    refine rd_il (SqL.of eaE0) fun E0 hE0 => ?_
    refine lc_list (K := K) (a := D0) (xs := asE0.map V.ref) (fun i H' => ∃ (vs : List V) (p' : List (List Int)), H' E0 = some (.lst vs) ∧ vs.length = i ∧ RpA K H' vs (p'.map fun r => TD.tup (r.map TD.int)) ∧ p'.length = i ∧ (∀ r ∈ p', r.length ≤ m + 1) ∧ Same HA H')
      ⟨[], [], upd_same, rfl, .nil, rfl, (fun _ h => nomatch h), same_new hE0⟩ (fun i H' _ ⟨_, _, _, _, _, _, _, g⟩ => SqL.of (g _ _ eaE0)) ?_ ?_
    · rintro i x H' hx ⟨vs, p', e1, lv, ra, lp', lr', g⟩
      rw [List.getElem?_map] at hx
      have hi : i < asE0.length := by
        rcases Nat.lt_or_ge i asE0.length with h | h
        · exact h
        · rw [List.getElem?_eq_none h] at hx; cases hx
      rw [List.getElem?_eq_getElem hi] at hx
      cases hx
      obtain ⟨_, r, er, lr⟩ := alE0 _ (List.getElem_mem hi)
      refine ⟨rfl, ?_⟩
      walk_at "rd"
      refine rd_tuple (SqL.of (g _ _ er)) fun tp htp => ?_
      have e1' := same_new (o := .tup (r.map V.int)) htp _ _ e1
      have nt : tp ≠ E0 := fun e => by rw [e, e1] at htp; cases htp
      refine ⟨_, e1', by rw [lv]; exact small1000 (by omega), vs ++ [.ref tp], p' ++ [r], upd_same, by rw [List.length_append, lv]; rfl, ?_, by rw [List.length_append, lp']; rfl, fun r' hr' => ?_, same_own (g.trans (same_new htp)) hE0⟩
      · rw [List.map_append]
        exact RpA.app (rpa_put e1' (same_rpa (same_new htp) ra)) (.cons (.tup (SqT.of (by rw [upd_ne nt]; exact upd_same)) (rpa_ints _)) .nil)
      · rcases List.mem_append.mp hr' with h | h
        · exact lr' _ h
        · rw [List.mem_singleton.mp h]; exact lr
    rintro HB ⟨vsE0, pE0, eE0, _, raE0, lpE0, lrE0, gE0⟩
    rw [List.length_map] at lpE0
    walk_at "rd"
    refine rd_tuple (SqL.of eE0) fun tE0 htE0 => ?_
    walk_at "rd"
    have rE0 : Rp K (upd HB tE0 (.tup vsE0)) (.ref tE0) (rowsT pE0) := .tup (SqT.of upd_same) (same_rpa (same_new htE0) raE0)
    have sE0 : Same HA (upd HB tE0 (.tup vsE0)) := gE0.trans (same_new htE0)
    have fewE0 : Few pE0 := ⟨by omega, fun r hr => Nat.le_trans (lrE0 r hr) (by omega)⟩
    generalize upd HB tE0 (.tup vsE0) = HC at *
    have W1' := W1.same sE0
    refine rd_ixL (SqL.of (sE0 _ _ eA)) rfl ?_
    walk_at "rd"
    obtain ⟨_, asE1, eaE1, laE1, alE1⟩ := W1'
    refine rd_il (SqL.of eaE1) fun E1 hE1 => ?_
    refine lc_list (K := K) (a := D1) (xs := asE1.map V.ref) (fun i H' => ∃ (vs : List V) (p' : List (List Int)), H' E1 = some (.lst vs) ∧ vs.length = i ∧ RpA K H' vs (p'.map fun r => TD.tup (r.map TD.int)) ∧ p'.length = i ∧ (∀ r ∈ p', r.length ≤ m + 1) ∧ Same HC H')
      ⟨[], [], upd_same, rfl, .nil, rfl, (fun _ h => nomatch h), same_new hE1⟩ (fun i H' _ ⟨_, _, _, _, _, _, _, g⟩ => SqL.of (g _ _ eaE1)) ?_ ?_
    · rintro i x H' hx ⟨vs, p', e1, lv, ra, lp', lr', g⟩
      rw [List.getElem?_map] at hx
      have hi : i < asE1.length := by
        rcases Nat.lt_or_ge i asE1.length with h | h
        · exact h
        · rw [List.getElem?_eq_none h] at hx; cases hx
      rw [List.getElem?_eq_getElem hi] at hx
      cases hx
      obtain ⟨_, r, er, lr⟩ := alE1 _ (List.getElem_mem hi)
      refine ⟨rfl, ?_⟩
      walk_at "rd"
      refine rd_tuple (SqL.of (g _ _ er)) fun tp htp => ?_
      have e1' := same_new (o := .tup (r.map V.int)) htp _ _ e1
      have nt : tp ≠ E1 := fun e => by rw [e, e1] at htp; cases htp
      refine ⟨_, e1', by rw [lv]; exact small1000 (by omega), vs ++ [.ref tp], p' ++ [r], upd_same, by rw [List.length_append, lv]; rfl, ?_, by rw [List.length_append, lp']; rfl, fun r' hr' => ?_, same_own (g.trans (same_new htp)) hE1⟩
      · rw [List.map_append]
        exact RpA.app (rpa_put e1' (same_rpa (same_new htp) ra)) (.cons (.tup (SqT.of (by rw [upd_ne nt]; exact upd_same)) (rpa_ints _)) .nil)
      · rcases List.mem_append.mp hr' with h | h
        · exact lr' _ h
        · rw [List.mem_singleton.mp h]; exact lr
    rintro HD ⟨vsE1, pE1, eE1, _, raE1, lpE1, lrE1, gE1⟩
    rw [List.length_map] at lpE1
    walk_at "rd"
    refine rd_tuple (SqL.of eE1) fun tE1 htE1 => ?_
    walk_at "rd"
    have rE1 : Rp K (upd HD tE1 (.tup vsE1)) (.ref tE1) (rowsT pE1) := .tup (SqT.of upd_same) (same_rpa (same_new htE1) raE1)
    have sE1 : Same HC (upd HD tE1 (.tup vsE1)) := gE1.trans (same_new htE1)
    have fewE1 : Few pE1 := ⟨by omega, fun r hr => Nat.le_trans (lrE1 r hr) (by omega)⟩
    generalize upd HD tE1 (.tup vsE1) = HE at *
    refine rd_mk (len_ok rfl) fun tp HF nF eF sF => ?_
    exact q _ _ ne' pE0 pE1 (drA.same (sE0.trans (sE1.trans sF))) (rp_three (SqT.of eF) (same_rp (sE1.trans sF) rE0) (same_rp sF rE1)) fewE0 fewE1

end
section
variable {P : Program} {w : World} {K : PySem.W.Frag} {mg : Str → Option Value} {base : Heap}
def spAnyT (K : PySem.W.Frag) : Sp := fun vs H Q _ => ∃ (d a : Addr) (ns : List Int), vs = [.ref d, .ref a] ∧ DrAt d H ∧ Sc K H d a ns ∧ ns.length ≤ 63 ∧
  ∀ (u : V) (H' : Hp) (o : Int) (p t : List (List Int)), Dr d H H' → Rp K H' u (Hs.table o p t).td → Few p → Few t → Q u H'
theorem pick7 {r : Int} (h0 : 0 ≤ r) (h1 : r < 7) : ∃ s : Nat, atI [V.int 2, V.int 3, V.int 4, V.int 1, V.int 5, V.int 6, V.int 7] r = some (.int s) ∧ 1 ≤ s ∧ s ≤ 7 := by
  have : r = 0 ∨ r = 1 ∨ r = 2 ∨ r = 3 ∨ r = 4 ∨ r = 5 ∨ r = 6 := by omega
  rcases this with rfl | rfl | rfl | rfl | rfl | rfl | rfl
  · exact ⟨2, rfl, by decide, by decide⟩
  · exact ⟨3, rfl, by decide, by decide⟩
  · exact ⟨4, rfl, by decide, by decide⟩
  · exact ⟨1, rfl, by decide, by decide⟩
  · exact ⟨5, rfl, by decide, by decide⟩
  · exact ⟨6, rfl, by decide, by decide⟩
  · exact ⟨7, rfl, by decide, by decide⟩
theorem ok_anyT (T : Tx mg) {f f1 f2 f3 f4 : Addr} {fd d1 d2 d3 d4 : FuncData} (F : Dn K mg "_law_any_table" sLAnyTable ["draws", "script"] f fd) (DLTake : Dn K mg "_law_take" sLTake ["draws", "many"] f1 d1) (GLTake : FnOk P w K mg base CX0 1 f1 d1 ["draws", "many"] spTake)
    (DLTableHouse : Dn K mg "_law_table_house" sLTableHouse ["draws"] f2 d2) (GLTableHouse : FnOk P w K mg base CX0 3 f2 d2 ["draws"] (spTableH K))
    (DLSpoilt : Dn K mg "_law_spoilt" sLSpoilt ["draws", "script", "house"] f3 d3) (GLSpoilt : FnOk P w K mg base CX0 3 f3 d3 ["draws", "script", "house"] (spSpoil K))
    (DLOperation : Dn K mg "_law_operation" sLOperation ["draws", "size"] f4 d4) (GLOperation : FnOk P w K mg base CX0 2 f4 d4 ["draws", "size"] (spOp K)) :
    FnOk P w K mg base CX0 4 f fd ["draws", "script"] (spAnyT K) := by
  refine F.F.ok scLAnyTable (fun vs H Q E h => ?_) (fun cdv A outer s H vs Q E hr h => ?_)
  · obtain ⟨d, a, ns, rfl, _⟩ := h
    rfl
  obtain ⟨d, a, ns, rfl, hd, hS, h63, q⟩ := h
  have nd := scLAnyTable.nd
  refine ⟨_, (pss_cons (ps_set (i := 2) nd rfl (Or.inl rfl) (pe_call GLTake (hr.mono (by omega)) rfl DLTake.m DLTake.F.kp DLTake.b .nil pass0 (pa_cons (pv 0) (pa_cons pe_int pa_nil))))
  (pss_cons (ps_if (pt_cmpR op_eq (pv 2) pe_int (nomark _)) (pss_one (ps_ret (pe_call GLTableHouse (hr.mono (by omega)) rfl DLTableHouse.m DLTableHouse.F.kp DLTableHouse.b .nil pass0 (pa_cons (pv 0) pa_nil)))) pss_nil)
  (pss_cons (ps_if (pt_cmpR op_eq (pv 2) pe_int (nomark _)) (pss_one (ps_ret (pe_call GLSpoilt (hr.mono (by omega)) rfl DLSpoilt.m DLSpoilt.F.kp DLSpoilt.b .nil pass0 (pa_cons (pv 0) (pa_cons (pv 1) (pa_cons (pe_call GLTableHouse (hr.mono (by omega)) rfl DLTableHouse.m DLTableHouse.F.kp DLTableHouse.b .nil pass0 (pa_cons (pv 0) pa_nil)) pa_nil)))))) pss_nil)
  (pss_cons (ps_set (i := 3) nd rfl (Or.inl rfl) (pe_ix (k_ixL K rfl) (pe_lst (pa_cons pe_int (pa_cons pe_int (pa_cons pe_int (pa_cons pe_int (pa_cons pe_int (pa_cons pe_int (pa_cons pe_int pa_nil)))))))) (pe_call GLTake (hr.mono (by omega)) rfl DLTake.m DLTake.F.kp DLTake.b .nil pass0 (pa_cons (pv 0) (pa_cons pe_int pa_nil))) (fun _ _ => rfl)))
  (pss_cons (ps_set (i := 4) nd rfl (Or.inl rfl) (pe_tup (pa_cons pe_str (pa_cons (pe_call GLTake (hr.mono (by omega)) rfl DLTake.m DLTake.F.kp DLTake.b .nil pass0 (pa_cons (pv 0) (pa_cons (pv 3) pa_nil))) (pa_cons (pe_call GLOperation (hr.mono (by omega)) rfl DLOperation.m DLOperation.F.kp DLOperation.b .nil pass0 (pa_cons (pv 0) (pa_cons (pv 3) pa_nil))) (pa_cons (pe_call GLOperation (hr.mono (by omega)) rfl DLOperation.m DLOperation.F.kp DLOperation.b .nil pass0 (pa_cons (pv 0) (pa_cons (pv 3) pa_nil))) pa_nil))))))
  (pss_cons (ps_if (pt_cmpR op_eq (pv 2) pe_int (nomark _)) (pss_one (ps_ret (pv 4))) pss_nil)
  (pss_one (ps_ret (pe_call GLSpoilt (hr.mono (by omega)) rfl DLSpoilt.m DLSpoilt.F.kp DLSpoilt.b .nil pass0 (pa_cons (pv 0) (pa_cons (pv 1) (pa_cons (pv 4) pa_nil)))))))))))), ?_⟩
  walk_at "rd"
  refine take_step (by decide) hd fun kind H1 k0 k1 g1 => ?_
  walk_at "rd"
  refine iteD (fun c => ?_) (fun c => ?_)
  · walk_at "rd"
    refine ⟨d, rfl, g1.isD, fun v H2 o p t g2 ht rv => ?_⟩
    obtain ⟨s, s1, s6, sp, st, _⟩ := ht.square
    exact q _ _ o p t (g1.trans g2) rv (sp.few (by omega)) (st.few (by omega))
  walk_at "rd"
  refine iteD (fun c => ?_) (fun c => ?_)
  · walk_at "rd"
    refine ⟨d, rfl, g1.isD, fun v H2 o p t g2 ht rv => ?_⟩
    obtain ⟨s, s1, s6, sp, st, _⟩ := ht.square
    walk_at "rd"
    exact ⟨d, a, ns, v, o, p, t, s, rfl, g2.isD, hS.dr (g1.trans g2), h63, rv, s1, by omega, sp, st, fun u H' o' p' t' g3 ru fp ft => q _ _ o' p' t' ((g1.trans g2).trans g3) ru fp ft⟩
  walk_at "rd"
  refine rd_mk (len_ok rfl) fun L H2 n2 e2 s2 => ?_
  walk_at "rd"
  have g2 := g1.same s2
  refine take_step (by decide) g2.isD fun r H3 r0 r1 g3 => ?_
  obtain ⟨m, em, m1, m7⟩ := pick7 r0 r1
  refine rd_ixL (SqL.of (g3.kp _ _ (g1.ne_new n2) e2)) em ?_
  have g13 := g2.trans g3
  walk_at "rd"
  refine take_step (by omega) g3.isD fun o H4 o0 o1 g4 => ?_
  walk_at "rd"
  refine ⟨d, m, rfl, g4.isD, m1, m7, fun v1 H5 p g5 rp sp => ?_⟩
  walk_at "rd"
  refine ⟨d, m, rfl, g5.isD, m1, m7, fun v2 H6 t g6 rt st => ?_⟩
  walk_at "rd"
  refine rd_mk (len_ok rfl) fun tp H7 n7 e7 s7 => ?_
  walk_at "rd"
  have g7 := (g13.trans (g4.trans (g5.trans g6))).same s7
  have rh : Rp K H7 (.ref tp) (Hs.table o p t).td := rp_three (SqT.of e7) (same_rp s7 (g6.rp rp)) (same_rp s7 rt)
  refine iteD (fun c => ?_) (fun c => ?_)
  · walk_at "rd"
    exact q _ _ o p t g7 rh (sp.few m7) (st.few m7)
  walk_at "rd"
  exact ⟨d, a, ns, _, o, p, t, m, rfl, g7.isD, hS.dr g7, h63, rh, m1, m7, sp, st, fun u H' o' p' t' g8 ru fp ft => q _ _ o' p' t' (g7.trans g8) ru fp ft⟩

end
section
variable {P : Program} {w : World} {K : PySem.W.Frag} {mg : Str → Option Value} {base : Heap}
/-- a table without a fault -/
def fltB (o : Int) (p t : List (List Int)) : Bool := match faultT o p t with | .non => true | _ => false
theorem flt_isN {H : Hp} {u : V} {o : Int} {p t : List (List Int)} (r : Rp K H u (faultT o p t)) : decide (u = .non) = fltB o p t := by
  unfold fltB
  cases e : faultT o p t with
  | non => rw [e] at r; cases r; rfl
  | bl b => rw [e] at r; cases r; rfl
  | int i => rw [e] at r; cases r; rfl
  | str x => rw [e] at r; cases r; rfl
  | tup ds => rw [e] at r; cases r; rfl
/-- the tables of a house are not too large -/
def Hs.few : Hs → Prop
  | .table _ p t => Few p ∧ Few t
  | .pair h k => h.few ∧ k.few
  | _ => True
/-- valid, but for the depth -/
def Hs.good : Hs → Bool
  | .capped n | .modulo n | .chain n | .divisors n => decide (1 ≤ n)
  | .prices n => decide (1 ≤ n ∧ n ≤ 40)
  | .table o p t => fltB o p t
  | .pair h k => h.good && k.good
  | _ => true
def Hs.valid (h : Hs) (d : Nat) : Bool := decide (h.depth ≤ d) && h.good
theorem valid_pair (h k : Hs) (d : Nat) (hd : 1 ≤ d) : (Hs.pair h k).valid d = if d = 1 then false else (h.valid (d - 1) && k.valid (d - 1)) := by
  unfold Hs.valid
  have h1 := depth_pos h
  have h2 := depth_pos k
  by_cases e : d = 1
  · rw [if_pos e]
    have : ¬ (Hs.pair h k).depth ≤ d := by show ¬ max h.depth k.depth + 1 ≤ d; omega
    rw [decide_eq_false this]; rfl
  · rw [if_neg e]
    show (decide (max h.depth k.depth + 1 ≤ d) && (h.good && k.good)) = _
    have e1 : decide (max h.depth k.depth + 1 ≤ d) = (decide (h.depth ≤ d - 1) && decide (k.depth ≤ d - 1)) := by
      rw [Bool.eq_iff_iff]
      simp only [Bool.and_eq_true, decide_eq_true_eq]
      omega
    rw [e1]
    cases decide (h.depth ≤ d - 1) <;> cases decide (k.depth ≤ d - 1) <;> cases h.good <;> cases k.good <;> rfl

end
section
variable {P : Program} {w : World} {K : PySem.W.Frag} {mg : Str → Option Value} {base : Heap}
def spWithin (K : PySem.W.Frag) (n : Nat) : Sp := fun vs H Q _ => ∃ (v : V) (h : Hs) (d : Nat), vs = [v, .int d] ∧ Rp K H v h.td ∧ h.few ∧ 1 ≤ d ∧ d ≤ n ∧ ∀ H', Same H H' → Q (.bl (h.valid d)) H'
theorem ok_within_turn (T : Tx mg) {tW : Tok} (hW : mg "WIDEST" = some (.int 40 tW)) {n : Nat} {f f1 : Addr} {fd d1 : FuncData} (DIsHouseWithin : Dn K mg "is_house_within" sIsHouseWithin ["house", "depth"] f fd) (GIsHouseWithin : FnOk P w K mg base CX0 (n + 4) f fd ["house", "depth"] (spWithin K n))
    (DFaultOf : Dn K mg "fault_of" sFaultOf ["house"] f1 d1) (GFaultOf : FnOk P w K mg base CX0 4 f1 d1 ["house"] (spFault K)) :
    FnOk P w K mg base CX0 (n + 1 + 4) f fd ["house", "depth"] (spWithin K (n + 1)) := by
  refine DIsHouseWithin.F.ok scIsHouseWithin (fun vs H Q E h => ?_) (fun cdv A outer s H vs Q E hr h => ?_)
  · obtain ⟨v, h, d, rfl, _⟩ := h
    rfl
  obtain ⟨v, h, d, rfl, r, hw, hd, hdn, q⟩ := h
  have nd := scIsHouseWithin.nd
  refine ⟨_, (pss_cons (ps_match (pe_ix (k_ixT K rfl) (pv 0) pe_int (fun _ _ => rfl)) (pm_cons (pp_or (pps_cons' pp_val (pps_cons' pp_val (pps_cons' pp_val (pps_cons' pp_val (pps_cons' pp_val (pps_cons' pp_val pps_nil'))))))) (pss_one (ps_ret pe_bl))
   (pm_cons (pp_or (pps_cons' pp_val (pps_cons' pp_val (pps_cons' pp_val (pps_cons' pp_val pps_nil'))))) (pss_one (ps_ret (pe_cmpR op_ge (pe_ix (k_ixT K rfl) (pv 0) pe_int (fun _ _ => rfl)) pe_int (nomark _))))
   (pm_cons pp_val (pss_one (ps_ret (pe_chain op_le op_le pe_int (pe_ix (k_ixT K rfl) (pv 0) pe_int (fun _ _ => rfl)) (pe_glob (v := .int 40) rfl hW ⟨_, rfl⟩))))
   (pm_cons pp_val (pss_one (ps_ret (pe_cmpR o_isN (pe_call GFaultOf (hr.mono (by omega)) rfl DFaultOf.m DFaultOf.F.kp DFaultOf.b .nil pass0 (pa_cons (pv 0) pa_nil)) pe_non (nomark _))))
   (pm_cons pp_val (pss_cons (ps_if (pt_cmpR op_eq (pv 1) pe_int (nomark _)) (pss_one (ps_ret pe_bl)) pss_nil)
  (pss_one (ps_ret (pe_and (pe_call GIsHouseWithin (hr.mono (by omega)) rfl DIsHouseWithin.m DIsHouseWithin.F.kp DIsHouseWithin.b .nil pass0 (pa_cons (pe_ix (k_ixT K rfl) (pv 0) pe_int (fun _ _ => rfl)) (pa_cons (pe_op op_sub (pv 1) pe_int) pa_nil))) (pe_one (pe_call GIsHouseWithin (hr.mono (by omega)) rfl DIsHouseWithin.m DIsHouseWithin.F.kp DIsHouseWithin.b .nil pass0 (pa_cons (pe_ix (k_ixT K rfl) (pv 0) pe_int (fun _ _ => rfl)) (pa_cons (pe_op op_sub (pv 1) pe_int) pa_nil))))))))
   pm_nil))))))
  (pss_one (ps_ret pe_bl))), ?_⟩
  have val : ∀ (H' : Hp) (b : Bool), b = h.valid d → Same H H' → Q (.bl b) H' := fun H' b e g => by rw [e]; exact q H' g
  have leaf : h.depth = 1 → h.valid d = h.good := fun e => by unfold Hs.valid; rw [e, decide_eq_true hd, Bool.true_and]
  cases h with
  | counts =>
    obtain ⟨p, rfl, s⟩ := r.nul
    walk_at "rd"
    refine rd_ixT s rfl ?_
    walk_at "dec"
    exact val _ _ (leaf rfl).symm (.refl _)
  | yes =>
    obtain ⟨p, rfl, s⟩ := r.nul
    walk_at "rd"
    refine rd_ixT s rfl ?_
    walk_at "dec"
    exact val _ _ (leaf rfl).symm (.refl _)
  | least =>
    obtain ⟨p, rfl, s⟩ := r.nul
    walk_at "rd"
    refine rd_ixT s rfl ?_
    walk_at "dec"
    exact val _ _ (leaf rfl).symm (.refl _)
  | sums =>
    obtain ⟨p, rfl, s⟩ := r.nul
    walk_at "rd"
    refine rd_ixT s rfl ?_
    walk_at "dec"
    exact val _ _ (leaf rfl).symm (.refl _)
  | families =>
    obtain ⟨p, rfl, s⟩ := r.nul
    walk_at "rd"
    refine rd_ixT s rfl ?_
    walk_at "dec"
    exact val _ _ (leaf rfl).symm (.refl _)
  | formulas =>
    obtain ⟨p, rfl, s⟩ := r.nul
    walk_at "rd"
    refine rd_ixT s rfl ?_
    walk_at "dec"
    exact val _ _ (leaf rfl).symm (.refl _)
  | capped n =>
    obtain ⟨p, rfl, s⟩ := r.one
    walk_at "rd"
    refine rd_ixT s rfl ?_
    walk_at "dec"
    refine rd_ixT s rfl ?_
    walk_at "rd"
    exact val _ _ (leaf rfl).symm (.refl _)
  | modulo n =>
    obtain ⟨p, rfl, s⟩ := r.one
    walk_at "rd"
    refine rd_ixT s rfl ?_
    walk_at "dec"
    refine rd_ixT s rfl ?_
    walk_at "rd"
    exact val _ _ (leaf rfl).symm (.refl _)
  | chain n =>
    obtain ⟨p, rfl, s⟩ := r.one
    walk_at "rd"
    refine rd_ixT s rfl ?_
    walk_at "dec"
    refine rd_ixT s rfl ?_
    walk_at "rd"
    exact val _ _ (leaf rfl).symm (.refl _)
  | divisors n =>
    obtain ⟨p, rfl, s⟩ := r.one
    walk_at "rd"
    refine rd_ixT s rfl ?_
    walk_at "dec"
    refine rd_ixT s rfl ?_
    walk_at "rd"
    exact val _ _ (leaf rfl).symm (.refl _)
  | prices n =>
    obtain ⟨p, rfl, s⟩ := r.one
    walk_at "rd"
    refine rd_ixT s rfl ?_
    walk_at "dec"
    refine rd_ixT s rfl ?_
    walk_at "rd"
    have lf : (Hs.prices n).valid d = decide (1 ≤ n ∧ n ≤ 40) := leaf rfl
    refine iteB (fun c1 => ?_) (fun c1 => ?_)
    · walk_at "rd"
      refine val _ _ ?_ (.refl _)
      have c1' := of_decide_eq_true c1
      rw [lf]
      by_cases c2 : n ≤ 40
      · rw [decide_eq_true c2, decide_eq_true ⟨c1', c2⟩]
      · rw [decide_eq_false c2, decide_eq_false fun w => c2 w.2]
    · refine val _ _ ?_ (.refl _)
      rw [lf, decide_eq_false fun w => of_decide_eq_false c1 w.1]
  | table o t1 t2 =>
    obtain ⟨p, u1, u2, rfl, s, _, _⟩ := r.three
    walk_at "rd"
    refine rd_ixT s rfl ?_
    walk_at "dec"
    refine ⟨_, o, t1, t2, rfl, r, hw.1, hw.2, fun u H1 g1 ru => ?_⟩
    walk_at "rd"
    rw [flt_isN ru]
    exact val _ _ (leaf rfl).symm g1
  | pair h1 h2 =>
    obtain ⟨p, u1, u2, rfl, s, r1, r2⟩ := r.two
    walk_at "rd"
    refine rd_ixT s rfl ?_
    walk_at "dec"
    have vp := valid_pair h1 h2 d hd
    refine iteD (fun c => ?_) (fun c => ?_)
    · walk_at "rd"
      have e : d = 1 := by have := V.int.inj c; omega
      exact val _ _ (by rw [vp, if_pos e]) (.refl _)
    · walk_at "rd"
      have e : ¬ d = 1 := fun e => c (by rw [e]; rfl)
      rw [if_neg e] at vp
      refine rd_ixT s rfl ?_
      walk_at "rd"
      refine ⟨u1, h1, d - 1, by rw [show ((d : Int) - 1) = ((d - 1 : Nat) : Int) by omega]; rfl, r1, hw.1, by omega, by omega, fun H1 g1 => ?_⟩
      walk_at "rd"
      refine iteB (fun c1 => ?_) (fun c1 => ?_)
      · walk_at "rd"
        refine rd_ixT (same_sqt g1 s) rfl ?_
        walk_at "rd"
        refine ⟨u2, h2, d - 1, by rw [show ((d : Int) - 1) = ((d - 1 : Nat) : Int) by omega]; rfl, same_rp g1 r2, hw.2, by omega, by omega, fun H2 g2 => ?_⟩
        exact val _ _ (by rw [vp, c1, Bool.true_and]) (g1.trans g2)
      · exact val _ _ (by rw [vp, c1, Bool.false_and]) g1
theorem ok_within (T : Tx mg) {tW : Tok} (hW : mg "WIDEST" = some (.int 40 tW)) {f f1 : Addr} {fd d1 : FuncData} (D : Dn K mg "is_house_within" sIsHouseWithin ["house", "depth"] f fd)
    (D1 : Dn K mg "fault_of" sFaultOf ["house"] f1 d1) (G1 : FnOk P w K mg base CX0 4 f1 d1 ["house"] (spFault K)) : ∀ n : Nat, FnOk P w K mg base CX0 (n + 4) f fd ["house", "depth"] (spWithin K n)
  | 0 => by
    have no : ∀ vs H Q E, ¬ spWithin K 0 vs H Q E := fun vs H Q E h => by
      obtain ⟨v, h, d, _, _, _, h1, h2, _⟩ := h
      omega
    exact ⟨fun vs H Q E h => absurd h (no vs H Q E), fun A outer s H args us vs Q E _ _ _ _ h => absurd h (no vs H Q E)⟩
  | n + 1 => ok_within_turn T hW D (ok_within T hW D D1 G1 n) D1 G1

end
section
variable {P : Program} {w : World} {K : PySem.W.Frag} {mg : Str → Option Value} {base : Heap}
def spIsHouse (K : PySem.W.Frag) : Sp := fun vs H Q _ => ∃ (v : V) (h : Hs), vs = [v] ∧ Rp K H v h.td ∧ h.few ∧ ∀ H', Same H H' → Q (.bl (h.valid 6)) H'
theorem ok_isHouse (T : Tx mg) {tD : Tok} (hD : mg "DEEPEST" = some (.int 6 tD)) {f f1 : Addr} {fd d1 : FuncData} (F : Dn K mg "is_house" sIsHouse ["house"] f fd) (DIsHouseWithin : Dn K mg "is_house_within" sIsHouseWithin ["house", "depth"] f1 d1) (GIsHouseWithin : FnOk P w K mg base CX0 10 f1 d1 ["house", "depth"] (spWithin K 6)) :
    FnOk P w K mg base CX0 11 f fd ["house"] (spIsHouse K) := by
  refine F.F.ok scIsHouse (fun vs H Q E h => ?_) (fun cdv A outer s H vs Q E hr h => ?_)
  · obtain ⟨v, h, rfl, _⟩ := h
    rfl
  obtain ⟨v, h, rfl, r, hw, q⟩ := h
  refine ⟨_, (pss_one (ps_ret (pe_call GIsHouseWithin (hr.mono (by omega)) rfl DIsHouseWithin.m DIsHouseWithin.F.kp DIsHouseWithin.b .nil pass0 (pa_cons (pv 0) (pa_cons (pe_glob (v := .int 6) rfl hD ⟨_, rfl⟩) pa_nil))))), ?_⟩
  walk_at "rd"
  exact ⟨v, h, 6, rfl, r, hw, by decide, by decide, q⟩

end
section
variable {P : Program} {w : World} {K : PySem.W.Frag} {mg : Str → Option Value} {base : Heap}
def spBtw : Sp := fun vs H Q _ => ∃ (x l g : Int), vs = [.int x, .int l, .int g] ∧ Q (.bl (decide (l ≤ x ∧ x ≤ g))) H
theorem ok_btw (T : Tx mg) {f : Addr} {fd : FuncData} (F : Dn K mg "is_between" sIsBetween ["value", "least", "greatest"] f fd) : FnOk P w K mg base CX0 1 f fd ["value", "least", "greatest"] spBtw := by
  refine F.F.ok scIsBetween (fun vs H Q E h => ?_) (fun cdv A outer s H vs Q E hr h => ?_)
  · obtain ⟨x, l, g, rfl, _⟩ := h
    rfl
  obtain ⟨x, l, g, rfl, q⟩ := h
  have nd := scIsBetween.nd
  refine ⟨_, (pss_one (ps_ret (pe_and (pe_callB (k_isi K rfl) rfl T.m_isinstance (by decide +kernel) (pa_cons (pv 0) (pa_cons (pe_bltn (v := .ty "int") rfl T.m_int (by decide +kernel) rfl) pa_nil))) (pe_one (pe_chain op_le op_le (pv 1) (pv 0) (pv 2)))))), ?_⟩
  walk_at "rd"
  refine rd_isi (.ty _) (.base (.int x)) (kit_ty (r := true) (by decide +kernel)) ?_
  walk_at "dec"
  refine iteB (fun c => ?_) (fun c => ?_)
  · walk_at "rd"
    have c' := of_decide_eq_true c
    have e : decide (x ≤ g) = decide (l ≤ x ∧ x ≤ g) := by rw [decide_eq_decide]; exact ⟨fun z => ⟨c', z⟩, fun z => z.2⟩
    rw [e]
    exact q
  · have c' := of_decide_eq_false c
    rw [decide_eq_false (fun z => c' z.1)] at q
    exact q

end
section
variable {P : Program} {w : World} {K : PySem.W.Frag} {mg : Str → Option Value} {base : Heap}
def spTZ (K : PySem.W.Frag) : Sp := fun vs H Q _ => ∃ (v : V) (o : Int) (p t : List (List Int)), vs = [v] ∧ Rp K H v (Hs.table o p t).td ∧ formB o p t = true ∧ Q (.int 0) H
theorem ok_tZero (T : Tx mg) {f : Addr} {fd : FuncData} (F : Dn K mg "zero" sZero ["house"] f fd) : FnOk P w K mg base CX0 1 f fd ["house"] (spTZ K) := by
  refine F.F.ok scZero (fun vs H Q E h => ?_) (fun cdv A outer s H vs Q E hr h => ?_)
  · obtain ⟨v, o, p, t, rfl, _⟩ := h
    rfl
  obtain ⟨v, o, p, t, rfl, r, hf, q⟩ := h
  have nd := scZero.nd
  refine ⟨_, (pss_cons (ps_match (pe_ix (k_ixT K rfl) (pv 0) pe_int (fun _ _ => rfl)) (pm_cons pp_val pss_never
   (pm_cons pp_val pss_never
   (pm_cons (pp_or (pps_cons' pp_val (pps_cons' pp_val (pps_cons' pp_val pps_nil')))) pss_never
   (pm_cons pp_val pss_never
   (pm_cons pp_val pss_never
   pm_nil))))))
  (pss_one (ps_ret pe_int))), ?_⟩
  obtain ⟨adr, pv', tv', rfl, hs, rp, rt⟩ := r.three
  walk_at "rd"
  refine rd_ixT hs rfl ?_
  walk_at "dec"
  exact q
def spTO (K : PySem.W.Frag) : Sp := fun vs H Q _ => ∃ (v : V) (o : Int) (p t : List (List Int)), vs = [v] ∧ Rp K H v (Hs.table o p t).td ∧ formB o p t = true ∧ Q (.int o) H
theorem ok_tOne (T : Tx mg) {f : Addr} {fd : FuncData} (F : Dn K mg "one" sOne ["house"] f fd) : FnOk P w K mg base CX0 1 f fd ["house"] (spTO K) := by
  refine F.F.ok scOne (fun vs H Q E h => ?_) (fun cdv A outer s H vs Q E hr h => ?_)
  · obtain ⟨v, o, p, t, rfl, _⟩ := h
    rfl
  obtain ⟨v, o, p, t, rfl, r, hf, q⟩ := h
  have nd := scOne.nd
  refine ⟨_, (pss_cons (ps_match (pe_ix (k_ixT K rfl) (pv 0) pe_int (fun _ _ => rfl)) (pm_cons pp_val pss_never
   (pm_cons (pp_or (pps_cons' pp_val (pps_cons' pp_val (pps_cons' pp_val pps_nil')))) (pss_one (ps_ret (pe_ix (k_ixT K rfl) (pv 0) pe_int (fun _ _ => rfl))))
   (pm_cons pp_val pss_never
   (pm_cons pp_val pss_never
   (pm_cons (pp_or (pps_cons' pp_val (pps_cons' pp_val pps_nil'))) pss_never
   (pm_cons pp_val pss_never
   (pm_cons pp_val pss_never
   pm_nil))))))))
  (pss_one (ps_ret pe_int))), ?_⟩
  obtain ⟨adr, pv', tv', rfl, hs, rp, rt⟩ := r.three
  walk_at "rd"
  refine rd_ixT hs rfl ?_
  walk_at "dec"
  refine rd_ixT hs rfl ?_
  exact q
def spTPlus (K : PySem.W.Frag) : Sp := fun vs H Q _ => ∃ (v : V) (o : Int) (p t : List (List Int)) (a b : Int), vs = [v, .int a, .int b] ∧ Rp K H v (Hs.table o p t).td ∧ formB o p t = true ∧ InS p.length a ∧ InS p.length b ∧ Q (.int (at2 p a b)) H
theorem ok_tPlus (T : Tx mg) {f : Addr} {fd : FuncData} (F : Dn K mg "plus" sPlus ["house", "one_worth", "other"] f fd) : FnOk P w K mg base CX0 1 f fd ["house", "one_worth", "other"] (spTPlus K) := by
  refine F.F.ok scPlus (fun vs H Q E h => ?_) (fun cdv A outer s H vs Q E hr h => ?_)
  · obtain ⟨v, o, p, t, a, b, rfl, _⟩ := h
    rfl
  obtain ⟨v, o, p, t, a, b, rfl, r, hf, q⟩ := h
  have nd := scPlus.nd
  refine ⟨_, (pss_one (ps_match (pe_ix (k_ixT K rfl) (pv 0) pe_int (fun _ _ => rfl)) (pm_cons pp_val pss_never
   (pm_cons pp_val pss_never
   (pm_cons pp_val pss_never
   (pm_cons (pp_or (pps_cons' pp_val (pps_cons' pp_val pps_nil'))) pss_never
   (pm_cons pp_val pss_never
   (pm_cons pp_val pss_never
   (pm_cons pp_val pss_never
   (pm_cons pp_val pss_never
   (pm_cons pp_val pss_never
   (pm_cons pp_val pss_never
   (pm_cons pp_val (pss_one (ps_ret (pe_ix (k_ixT K rfl) (pe_ix (k_ixT K rfl) (pe_ix (k_ixT K rfl) (pv 0) pe_int (fun _ _ => rfl)) (pv 1) (fun _ _ => rfl)) (pv 2) (fun _ _ => rfl))))
   (pm_cons pp_val pss_never
   pm_nil)))))))))))))), ?_⟩
  obtain ⟨qa, qb, q⟩ := q
  obtain ⟨f1, f2, f3, f4, ho⟩ := form_of hf
  obtain ⟨adr, pv', tv', rfl, hs, rp, rt⟩ := r.three
  have TP : Tab K H pv' p p.length := ⟨rp, f3⟩
  have TT : Tab K H tv' t p.length := ⟨rt, f4⟩
  walk_at "rd"
  refine rd_ixT hs rfl ?_
  walk_at "dec"
  refine rd_ixT hs rfl ?_
  walk_at "tab"
  exact q
def spTTimes (K : PySem.W.Frag) : Sp := fun vs H Q _ => ∃ (v : V) (o : Int) (p t : List (List Int)) (a b : Int), vs = [v, .int a, .int b] ∧ Rp K H v (Hs.table o p t).td ∧ formB o p t = true ∧ InS p.length a ∧ InS p.length b ∧ Q (.int (at2 t a b)) H
theorem ok_tTimes (T : Tx mg) {f : Addr} {fd : FuncData} (F : Dn K mg "times" sTimes ["house", "one_worth", "other"] f fd) : FnOk P w K mg base CX0 1 f fd ["house", "one_worth", "other"] (spTTimes K) := by
  refine F.F.ok scTimes (fun vs H Q E h => ?_) (fun cdv A outer s H vs Q E hr h => ?_)
  · obtain ⟨v, o, p, t, a, b, rfl, _⟩ := h
    rfl
  obtain ⟨v, o, p, t, a, b, rfl, r, hf, q⟩ := h
  have nd := scTimes.nd
  refine ⟨_, (pss_one (ps_match (pe_ix (k_ixT K rfl) (pv 0) pe_int (fun _ _ => rfl)) (pm_cons pp_val pss_never
   (pm_cons pp_val pss_never
   (pm_cons pp_val pss_never
   (pm_cons (pp_or (pps_cons' pp_val (pps_cons' pp_val pps_nil'))) pss_never
   (pm_cons pp_val pss_never
   (pm_cons pp_val pss_never
   (pm_cons pp_val pss_never
   (pm_cons pp_val pss_never
   (pm_cons pp_val pss_never
   (pm_cons pp_val pss_never
   (pm_cons pp_val (pss_one (ps_ret (pe_ix (k_ixT K rfl) (pe_ix (k_ixT K rfl) (pe_ix (k_ixT K rfl) (pv 0) pe_int (fun _ _ => rfl)) (pv 1) (fun _ _ => rfl)) (pv 2) (fun _ _ => rfl))))
   (pm_cons pp_val pss_never
   pm_nil)))))))))))))), ?_⟩
  obtain ⟨qa, qb, q⟩ := q
  obtain ⟨f1, f2, f3, f4, ho⟩ := form_of hf
  obtain ⟨adr, pv', tv', rfl, hs, rp, rt⟩ := r.three
  have TP : Tab K H pv' p p.length := ⟨rp, f3⟩
  have TT : Tab K H tv' t p.length := ⟨rt, f4⟩
  walk_at "rd"
  refine rd_ixT hs rfl ?_
  walk_at "dec"
  refine rd_ixT hs rfl ?_
  walk_at "tab"
  exact q
def spTW (K : PySem.W.Frag) : Sp := fun vs H Q _ => ∃ (v : V) (o : Int) (p t : List (List Int)) (x : Int), vs = [v, .int x] ∧ Rp K H v (Hs.table o p t).td ∧ formB o p t = true ∧ Q (.bl (decide (0 ≤ x ∧ x ≤ (p.length : Int) - 1))) H
theorem ok_tWorth (T : Tx mg) {f : Addr} {fd : FuncData} (F : Dn K mg "is_worth" sIsWorth ["house", "worth"] f fd)
    {f1 : Addr} {d1 : FuncData} (DIsBetween : Dn K mg "is_between" sIsBetween ["value", "least", "greatest"] f1 d1) (GIsBetween : FnOk P w K mg base CX0 1 f1 d1 ["value", "least", "greatest"] spBtw) : FnOk P w K mg base CX0 2 f fd ["house", "worth"] (spTW K) := by
  refine F.F.ok scIsWorth (fun vs H Q E h => ?_) (fun cdv A outer s H vs Q E hr h => ?_)
  · obtain ⟨v, o, p, t, x, rfl, _⟩ := h
    rfl
  obtain ⟨v, o, p, t, x, rfl, r, hf, q⟩ := h
  have nd := scIsWorth.nd
  refine ⟨_, (pss_one (ps_match (pe_ix (k_ixT K rfl) (pv 0) pe_int (fun _ _ => rfl)) (pm_cons pp_val pss_never
   (pm_cons (pp_or (pps_cons' pp_val (pps_cons' pp_val pps_nil'))) pss_never
   (pm_cons pp_val pss_never
   (pm_cons pp_val pss_never
   (pm_cons pp_val pss_never
   (pm_cons pp_val pss_never
   (pm_cons pp_val pss_never
   (pm_cons pp_val pss_never
   (pm_cons pp_val pss_never
   (pm_cons pp_val pss_never
   (pm_cons pp_val (pss_one (ps_ret (pe_call GIsBetween (hr.mono (by omega)) rfl DIsBetween.m DIsBetween.F.kp DIsBetween.b .nil pass0 (pa_cons (pv 1) (pa_cons pe_int (pa_cons (pe_op op_sub (pe_callB (k_len K rfl) rfl T.m_len PySem.boot_len (pa_cons (pe_ix (k_ixT K rfl) (pv 0) pe_int (fun _ _ => rfl)) pa_nil)) pe_int) pa_nil))))))
   (pm_cons pp_val pss_never
   pm_nil)))))))))))))), ?_⟩
  obtain ⟨f1, f2, f3, f4, ho⟩ := form_of hf
  obtain ⟨adr, pv', tv', rfl, hs, rp, rt⟩ := r.three
  obtain ⟨ap, xp, rfl, hsp, hmp, _⟩ := rp.rows
  walk_at "rd"
  refine rd_ixT hs rfl ?_
  walk_at "dec"
  refine rd_ixT hs rfl ?_
  walk_at "rd"
  refine rd_lenT hsp ?_
  walk_at "rd"
  rw [hmp]
  exact ⟨x, 0, (p.length : Int) - 1, rfl, q⟩

end
section
variable {P : Program} {w : World} {K : PySem.W.Frag} {mg : Str → Option Value} {base : Heap}
/-- the table's equations hold -/
def Eqs (o : Int) (p t : List (List Int)) : Prop := ∀ k, k < 8 → ∀ a b c : Int, InS p.length a → InS p.length b → InS p.length c → eqn o p t k a b c = true
def spThree (K : PySem.W.Frag) : Sp := fun vs H Q _ => ∃ (v : V) (o : Int) (p t : List (List Int)) (a b c : Int), vs = [v, .int a, .int b, .int c] ∧ Rp K H v (Hs.table o p t).td ∧ formB o p t = true ∧ Eqs o p t ∧ InS p.length a ∧ InS p.length b ∧ InS p.length c ∧ Q (.bl true) H
theorem ok_three (T : Tx mg) {f : Addr} {fd : FuncData} (F : Dn K mg "_law_three" sLThree ["house", "a", "b", "c"] f fd) {f1 f2 f3 f4 : Addr} {d1 d2 d3 d4 : FuncData}
    (DPlus : Dn K mg "plus" sPlus ["house", "one_worth", "other"] f1 d1) (GPlus : FnOk P w K mg base CX0 1 f1 d1 ["house", "one_worth", "other"] (spTPlus K))
    (DTimes : Dn K mg "times" sTimes ["house", "one_worth", "other"] f2 d2) (GTimes : FnOk P w K mg base CX0 1 f2 d2 ["house", "one_worth", "other"] (spTTimes K))
    (DZero : Dn K mg "zero" sZero ["house"] f3 d3) (GZero : FnOk P w K mg base CX0 1 f3 d3 ["house"] (spTZ K))
    (DOne : Dn K mg "one" sOne ["house"] f4 d4) (GOne : FnOk P w K mg base CX0 1 f4 d4 ["house"] (spTO K)) :
    FnOk P w K mg base CX0 2 f fd ["house", "a", "b", "c"] (spThree K) := by
  refine F.F.ok scLThree (fun vs H Q E h => ?_) (fun cdv A outer s H vs Q E hr h => ?_)
  · obtain ⟨v, o, p, t, a, b, c, rfl, _⟩ := h
    rfl
  obtain ⟨v, o, p, t, a, b, c, rfl, rv, hf, eqs, ia, ib, ic, q⟩ := h
  have nd := scLThree.nd
  refine ⟨_, (pss_cons (ps_if (PW.pt (pw_or (pt_cmpR op_ne (pe_call GPlus (hr.mono (by omega)) rfl DPlus.m DPlus.F.kp DPlus.b .nil pass0 (pa_cons (pv 0) (pa_cons (pv 1) (pa_cons (pv 2) pa_nil)))) (pe_call GPlus (hr.mono (by omega)) rfl DPlus.m DPlus.F.kp DPlus.b .nil pass0 (pa_cons (pv 0) (pa_cons (pv 2) (pa_cons (pv 1) pa_nil)))) (nomark _)) (pw_or1 (pt_cmpR op_ne (pe_call GTimes (hr.mono (by omega)) rfl DTimes.m DTimes.F.kp DTimes.b .nil pass0 (pa_cons (pv 0) (pa_cons (pv 1) (pa_cons (pv 2) pa_nil)))) (pe_call GTimes (hr.mono (by omega)) rfl DTimes.m DTimes.F.kp DTimes.b .nil pass0 (pa_cons (pv 0) (pa_cons (pv 2) (pa_cons (pv 1) pa_nil)))) (nomark _))))) (pss_one (ps_ret pe_bl)) pss_nil)
  (pss_cons (ps_if (pt_cmpR op_ne (pe_call GPlus (hr.mono (by omega)) rfl DPlus.m DPlus.F.kp DPlus.b .nil pass0 (pa_cons (pv 0) (pa_cons (pe_call GPlus (hr.mono (by omega)) rfl DPlus.m DPlus.F.kp DPlus.b .nil pass0 (pa_cons (pv 0) (pa_cons (pv 1) (pa_cons (pv 2) pa_nil)))) (pa_cons (pv 3) pa_nil)))) (pe_call GPlus (hr.mono (by omega)) rfl DPlus.m DPlus.F.kp DPlus.b .nil pass0 (pa_cons (pv 0) (pa_cons (pv 1) (pa_cons (pe_call GPlus (hr.mono (by omega)) rfl DPlus.m DPlus.F.kp DPlus.b .nil pass0 (pa_cons (pv 0) (pa_cons (pv 2) (pa_cons (pv 3) pa_nil)))) pa_nil)))) (nomark _)) (pss_one (ps_ret pe_bl)) pss_nil)
  (pss_cons (ps_if (pt_cmpR op_ne (pe_call GTimes (hr.mono (by omega)) rfl DTimes.m DTimes.F.kp DTimes.b .nil pass0 (pa_cons (pv 0) (pa_cons (pe_call GTimes (hr.mono (by omega)) rfl DTimes.m DTimes.F.kp DTimes.b .nil pass0 (pa_cons (pv 0) (pa_cons (pv 1) (pa_cons (pv 2) pa_nil)))) (pa_cons (pv 3) pa_nil)))) (pe_call GTimes (hr.mono (by omega)) rfl DTimes.m DTimes.F.kp DTimes.b .nil pass0 (pa_cons (pv 0) (pa_cons (pv 1) (pa_cons (pe_call GTimes (hr.mono (by omega)) rfl DTimes.m DTimes.F.kp DTimes.b .nil pass0 (pa_cons (pv 0) (pa_cons (pv 2) (pa_cons (pv 3) pa_nil)))) pa_nil)))) (nomark _)) (pss_one (ps_ret pe_bl)) pss_nil)
  (pss_cons (ps_if (pt_cmpR op_ne (pe_call GTimes (hr.mono (by omega)) rfl DTimes.m DTimes.F.kp DTimes.b .nil pass0 (pa_cons (pv 0) (pa_cons (pv 1) (pa_cons (pe_call GPlus (hr.mono (by omega)) rfl DPlus.m DPlus.F.kp DPlus.b .nil pass0 (pa_cons (pv 0) (pa_cons (pv 2) (pa_cons (pv 3) pa_nil)))) pa_nil)))) (pe_call GPlus (hr.mono (by omega)) rfl DPlus.m DPlus.F.kp DPlus.b .nil pass0 (pa_cons (pv 0) (pa_cons (pe_call GTimes (hr.mono (by omega)) rfl DTimes.m DTimes.F.kp DTimes.b .nil pass0 (pa_cons (pv 0) (pa_cons (pv 1) (pa_cons (pv 2) pa_nil)))) (pa_cons (pe_call GTimes (hr.mono (by omega)) rfl DTimes.m DTimes.F.kp DTimes.b .nil pass0 (pa_cons (pv 0) (pa_cons (pv 1) (pa_cons (pv 3) pa_nil)))) pa_nil)))) (nomark _)) (pss_one (ps_ret pe_bl)) pss_nil)
  (pss_cons (ps_if (PW.pt (pw_or (pt_cmpR op_ne (pe_call GPlus (hr.mono (by omega)) rfl DPlus.m DPlus.F.kp DPlus.b .nil pass0 (pa_cons (pv 0) (pa_cons (pe_call GZero (hr.mono (by omega)) rfl DZero.m DZero.F.kp DZero.b .nil pass0 (pa_cons (pv 0) pa_nil)) (pa_cons (pv 1) pa_nil)))) (pv 1) (nomark _)) (pw_or1 (pt_cmpR op_ne (pe_call GTimes (hr.mono (by omega)) rfl DTimes.m DTimes.F.kp DTimes.b .nil pass0 (pa_cons (pv 0) (pa_cons (pe_call GOne (hr.mono (by omega)) rfl DOne.m DOne.F.kp DOne.b .nil pass0 (pa_cons (pv 0) pa_nil)) (pa_cons (pv 1) pa_nil)))) (pv 1) (nomark _))))) (pss_one (ps_ret pe_bl)) pss_nil)
  (pss_one (ps_ret (pe_cmpR op_eq (pe_call GTimes (hr.mono (by omega)) rfl DTimes.m DTimes.F.kp DTimes.b .nil pass0 (pa_cons (pv 0) (pa_cons (pe_call GZero (hr.mono (by omega)) rfl DZero.m DZero.F.kp DZero.b .nil pass0 (pa_cons (pv 0) pa_nil)) (pa_cons (pv 1) pa_nil)))) (pe_call GZero (hr.mono (by omega)) rfl DZero.m DZero.F.kp DZero.b .nil pass0 (pa_cons (pv 0) pa_nil)) (nomark _))))))))), ?_⟩
  obtain ⟨f1, f2, f3, f4, ho⟩ := form_of hf
  have h0 : InS p.length 0 := ⟨Int.le_refl 0, by omega⟩
  obtain ⟨adr, pv', tv', _, hs, rp, rt⟩ := rv.three
  have TP : Tab K H pv' p p.length := ⟨rp, f3⟩
  have TT : Tab K H tv' t p.length := ⟨rt, f4⟩
  have e0 : at2 p a b = at2 p b a := of_decide_eq_true (eqs 0 (by decide) a b c ia ib ic)
  have e1 : at2 p (at2 p a b) c = at2 p a (at2 p b c) := of_decide_eq_true (eqs 1 (by decide) a b c ia ib ic)
  have e2 : at2 p 0 a = a := of_decide_eq_true (eqs 2 (by decide) a b c ia ib ic)
  have e3 : at2 t a b = at2 t b a := of_decide_eq_true (eqs 3 (by decide) a b c ia ib ic)
  have e4 : at2 t (at2 t a b) c = at2 t a (at2 t b c) := of_decide_eq_true (eqs 4 (by decide) a b c ia ib ic)
  have e5 : at2 t o a = a := of_decide_eq_true (eqs 5 (by decide) a b c ia ib ic)
  have e6 : at2 t a (at2 p b c) = at2 p (at2 t a b) (at2 t a c) := of_decide_eq_true (eqs 6 (by decide) a b c ia ib ic)
  have e7 : at2 t 0 a = 0 := of_decide_eq_true (eqs 7 (by decide) a b c ia ib ic)
  walk_at "rd"
  refine ⟨_, o, p, t, _, _, rfl, rv, hf, ia, ib, ?_⟩
  walk_at "rd"
  refine ⟨_, o, p, t, _, _, rfl, rv, hf, ib, ia, ?_⟩
  walk_at "rd"
  refine iteNF (congrArg V.int e0) ?_
  walk_at "rd"
  refine ⟨_, o, p, t, _, _, rfl, rv, hf, ia, ib, ?_⟩
  walk_at "rd"
  refine ⟨_, o, p, t, _, _, rfl, rv, hf, ib, ia, ?_⟩
  walk_at "rd"
  refine iteNF (congrArg V.int e3) ?_
  walk_at "rd"
  refine ⟨_, o, p, t, _, _, rfl, rv, hf, ia, ib, ?_⟩
  walk_at "rd"
  refine ⟨_, o, p, t, _, _, rfl, rv, hf, (TP.rng ia ib), ic, ?_⟩
  walk_at "rd"
  refine ⟨_, o, p, t, _, _, rfl, rv, hf, ib, ic, ?_⟩
  walk_at "rd"
  refine ⟨_, o, p, t, _, _, rfl, rv, hf, ia, (TP.rng ib ic), ?_⟩
  walk_at "rd"
  refine iteNF (congrArg V.int e1) ?_
  walk_at "rd"
  refine ⟨_, o, p, t, _, _, rfl, rv, hf, ia, ib, ?_⟩
  walk_at "rd"
  refine ⟨_, o, p, t, _, _, rfl, rv, hf, (TT.rng ia ib), ic, ?_⟩
  walk_at "rd"
  refine ⟨_, o, p, t, _, _, rfl, rv, hf, ib, ic, ?_⟩
  walk_at "rd"
  refine ⟨_, o, p, t, _, _, rfl, rv, hf, ia, (TT.rng ib ic), ?_⟩
  walk_at "rd"
  refine iteNF (congrArg V.int e4) ?_
  walk_at "rd"
  refine ⟨_, o, p, t, _, _, rfl, rv, hf, ib, ic, ?_⟩
  walk_at "rd"
  refine ⟨_, o, p, t, _, _, rfl, rv, hf, ia, (TP.rng ib ic), ?_⟩
  walk_at "rd"
  refine ⟨_, o, p, t, _, _, rfl, rv, hf, ia, ib, ?_⟩
  walk_at "rd"
  refine ⟨_, o, p, t, _, _, rfl, rv, hf, ia, ic, ?_⟩
  walk_at "rd"
  refine ⟨_, o, p, t, _, _, rfl, rv, hf, (TT.rng ia ib), (TT.rng ia ic), ?_⟩
  walk_at "rd"
  refine iteNF (congrArg V.int e6) ?_
  walk_at "rd"
  refine ⟨_, o, p, t, rfl, rv, hf, ?_⟩
  walk_at "rd"
  refine ⟨_, o, p, t, _, _, rfl, rv, hf, h0, ia, ?_⟩
  walk_at "rd"
  refine iteNF (congrArg V.int e2) ?_
  walk_at "rd"
  refine ⟨_, o, p, t, rfl, rv, hf, ?_⟩
  walk_at "rd"
  refine ⟨_, o, p, t, _, _, rfl, rv, hf, ho, ia, ?_⟩
  walk_at "rd"
  refine iteNF (congrArg V.int e5) ?_
  walk_at "rd"
  refine ⟨_, o, p, t, rfl, rv, hf, ?_⟩
  walk_at "rd"
  refine ⟨_, o, p, t, _, _, rfl, rv, hf, h0, ia, ?_⟩
  walk_at "rd"
  refine ⟨_, o, p, t, rfl, rv, hf, ?_⟩
  walk_at "rd"
  rw [e7]
  exact q

end
section
variable {P : Program} {w : World} {K : PySem.W.Frag} {mg : Str → Option Value} {base : Heap}
def spActs (K : PySem.W.Frag) : Sp := fun vs H Q _ => ∃ (v : V) (o : Int) (p t : List (List Int)), vs = [v] ∧ Rp K H v (Hs.table o p t).td ∧ formB o p t = true ∧ Eqs o p t ∧ ∀ H', Same H H' → Q (.bl true) H'
theorem ok_acts (T : Tx mg) {f : Addr} {fd : FuncData} (F : Dn K mg "_law_acts" sLActs ["house"] f fd) {f1 f2 f3 f4 f5 : Addr} {d1 d2 d3 d4 d5 : FuncData}
    (DPlus : Dn K mg "plus" sPlus ["house", "one_worth", "other"] f1 d1) (GPlus : FnOk P w K mg base CX0 1 f1 d1 ["house", "one_worth", "other"] (spTPlus K))
    (DTimes : Dn K mg "times" sTimes ["house", "one_worth", "other"] f2 d2) (GTimes : FnOk P w K mg base CX0 1 f2 d2 ["house", "one_worth", "other"] (spTTimes K))
    (DIsWorth : Dn K mg "is_worth" sIsWorth ["house", "worth"] f3 d3) (GIsWorth : FnOk P w K mg base CX0 2 f3 d3 ["house", "worth"] (spTW K))
    (DLSame : Dn K mg "_law_same" sLSame ["actual", "due"] f4 d4) (GLSame : FnOk P w K mg base CX0 3 f4 d4 ["actual", "due"] (spSame K 3))
    (DLThree : Dn K mg "_law_three" sLThree ["house", "a", "b", "c"] f5 d5) (GLThree : FnOk P w K mg base CX0 2 f5 d5 ["house", "a", "b", "c"] (spThree K)) :
    FnOk P w K mg base CX0 4 f fd ["house"] (spActs K) := by
  refine F.F.ok scLActs (fun vs H Q E h => ?_) (fun cdv A outer s H vs Q E hr h => ?_)
  · obtain ⟨v, o, p, t, rfl, _⟩ := h
    rfl
  obtain ⟨v, o, p, t, rfl, rv, hf, eqs, q⟩ := h
  have nd := scLActs.nd
  refine ⟨_, (pss_cons (ps_set (i := 1) nd rfl (Or.inl rfl) (pe_callB (k_len K rfl) rfl T.m_len PySem.boot_len (pa_cons (pe_ix (k_ixT K rfl) (pv 0) pe_int (fun _ _ => rfl)) pa_nil)))
  (pss_cons (ps_for PassesOwn.never rfl (pi_range1 rfl T.m_range (pa_cons (pv 1) pa_nil)) (pg_name (i := 2) nd rfl (Or.inr rfl)) (pss_cons (ps_if (pt_not (pt_val (pe_call GLSame (hr.mono (by omega)) rfl DLSame.m DLSame.F.kp DLSame.b .nil pass0 (pa_cons (pe_call GIsWorth (hr.mono (by omega)) rfl DIsWorth.m DIsWorth.F.kp DIsWorth.b .nil pass0 (pa_cons (pv 0) (pa_cons (pv 2) pa_nil))) (pa_cons pe_bl pa_nil))))) (pss_one (ps_ret pe_bl)) pss_nil)
  (pss_one (ps_for PassesOwn.never rfl (pi_range1 rfl T.m_range (pa_cons (pv 1) pa_nil)) (pg_name (i := 3) nd rfl (Or.inr rfl)) (pss_cons (ps_if (PW.pt (pw_or (pt_not (pt_val (pe_call GLSame (hr.mono (by omega)) rfl DLSame.m DLSame.F.kp DLSame.b .nil pass0 (pa_cons (pe_call GPlus (hr.mono (by omega)) rfl DPlus.m DPlus.F.kp DPlus.b .nil pass0 (pa_cons (pv 0) (pa_cons (pv 2) (pa_cons (pv 3) pa_nil)))) (pa_cons (pe_ix (k_ixT K rfl) (pe_ix (k_ixT K rfl) (pe_ix (k_ixT K rfl) (pv 0) pe_int (fun _ _ => rfl)) (pv 2) (fun _ _ => rfl)) (pv 3) (fun _ _ => rfl)) pa_nil))))) (pw_or1 (pt_not (pt_val (pe_call GLSame (hr.mono (by omega)) rfl DLSame.m DLSame.F.kp DLSame.b .nil pass0 (pa_cons (pe_call GTimes (hr.mono (by omega)) rfl DTimes.m DTimes.F.kp DTimes.b .nil pass0 (pa_cons (pv 0) (pa_cons (pv 2) (pa_cons (pv 3) pa_nil)))) (pa_cons (pe_ix (k_ixT K rfl) (pe_ix (k_ixT K rfl) (pe_ix (k_ixT K rfl) (pv 0) pe_int (fun _ _ => rfl)) (pv 2) (fun _ _ => rfl)) (pv 3) (fun _ _ => rfl)) pa_nil)))))))) (pss_one (ps_ret pe_bl)) pss_nil)
  (pss_one (ps_if (pt_cmpR (k_in K rfl) pe_bl (pe_lc (own := [("c", (4 : Nat))]) (g := gName 4) rfl nd (pi_range1 rfl T.m_range (pa_cons (pv 1) pa_nil)) (blkOk_by (own := [("c", (4 : Nat))]) (N := nLActs) (sc := defScope sLActs) (by decide +kernel)) (fun _ _ _ _ _ => pg_name (i := 4) nd rfl (Or.inl rfl)) (fun _ _ _ _ _ => pts_nil) (fun _ _ _ _ _ => (pe_call GLThree (hr.mono (by omega)) rfl DLThree.m DLThree.F.kp DLThree.b .nil pass0 (pa_cons (pv 0) (pa_cons (pv 2) (pa_cons (pv 3) (pa_cons (pv 4) pa_nil))))))) rfl) (pss_one (ps_ret pe_bl)) pss_nil)))))))
  (pss_one (ps_ret (pe_and (pe_call GLSame (hr.mono (by omega)) rfl DLSame.m DLSame.F.kp DLSame.b .nil pass0 (pa_cons (pe_call GIsWorth (hr.mono (by omega)) rfl DIsWorth.m DIsWorth.F.kp DIsWorth.b .nil pass0 (pa_cons (pv 0) (pa_cons (pv 1) pa_nil))) (pa_cons pe_bl pa_nil))) (pe_one (pe_call GLSame (hr.mono (by omega)) rfl DLSame.m DLSame.F.kp DLSame.b .nil pass0 (pa_cons (pe_call GIsWorth (hr.mono (by omega)) rfl DIsWorth.m DIsWorth.F.kp DIsWorth.b .nil pass0 (pa_cons (pv 0) (pa_cons (pe_un un_neg pe_int) pa_nil))) (pa_cons pe_bl pa_nil))))))))), ?_⟩
  obtain ⟨f1, f2, f3, f4, ho⟩ := form_of hf
  obtain ⟨adr, pv', tv', rfl, hs, rp, rt⟩ := rv.three
  obtain ⟨ap, xp, rfl, hsp, hmp, _⟩ := rp.rows
  walk_at "rd"
  refine rd_ixT hs rfl ?_
  walk_at "rd"
  refine rd_lenT hsp ?_
  walk_at "rd"
  rw [hmp]
  refine rd_r1 ⟨by omega, by omega⟩ (for_range (lo := 0) (n := _) (fun i σ' H' => ∃ (x y : Option V), σ' = [some (.ref adr), some (.int p.length), x, y, none] ∧ Same H H') ⟨none, none, rfl, .refl H⟩ ?_ ?_)
  · rintro i σ' H1 hi ⟨x, y, rfl, g⟩
    have ii : InS p.length (i : Int) := ⟨by omega, by omega⟩
    walk_at "rd"
    refine ⟨_, o, p, t, _, rfl, same_rp g rv, hf, ?_⟩
    rw [decide_eq_true (show (0 : Int) ≤ 0 + (i : Int) ∧ 0 + (i : Int) ≤ (p.length : Int) - 1 by omega)]
    walk_at "rd"
    refine ⟨_, _, .bl true, rfl, .bl _, .bl _, trivial, fun H2 g2 => ?_⟩
    walk_at "dec"
    rw [Int.zero_add]
    refine rd_r1 ⟨by omega, by omega⟩ (for_range (lo := 0) (n := _) (fun j σ' H' => ∃ (y : Option V), σ' = [some (.ref adr), some (.int p.length), some (.int i), y, none] ∧ Same H H') ⟨y, rfl, g.trans g2⟩ ?_ ?_)
    · rintro j σ' H3 hj ⟨y, rfl, g3⟩
      have ij : InS p.length (j : Int) := ⟨by omega, by omega⟩
      have TP : Tab K H3 (.ref ap) p p.length := ⟨same_rp g3 rp, f3⟩
      have TT : Tab K H3 tv' t p.length := ⟨same_rp g3 rt, f4⟩
      walk_at "rd"
      rw [Int.zero_add]
      walk_at "rd"
      refine ⟨_, o, p, t, _, _, rfl, same_rp g3 rv, hf, ii, ij, ?_⟩
      walk_at "rd"
      refine rd_ixT (same_sqt g3 hs) rfl ?_
      walk_at "tab"
      refine ⟨_, _, .int _, rfl, .int _, .int _, trivial, fun H4 g4 => ?_⟩
      walk_at "dec"
      have g34 := g3.trans g4
      have TP4 := TP.mono g4
      have TT4 := TT.mono g4
      refine ⟨_, o, p, t, _, _, rfl, same_rp g34 rv, hf, ii, ij, ?_⟩
      walk_at "rd"
      refine rd_ixT (same_sqt g34 hs) rfl ?_
      walk_at "tab"
      refine ⟨_, _, .int _, rfl, .int _, .int _, trivial, fun H5 g5 => ?_⟩
      walk_at "dec"
      have g35 := g34.trans g5
      refine rd_r1 ⟨by omega, by omega⟩ fun D hD => ?_
      rw [show ((p.length : Int)).toNat = p.length by omega]
      refine lc_range (lo := 0) (n := p.length) (fun i H' => H' D = some (.lst (((nums i).map fun _ => true).map V.bl)) ∧ Same H5 H') ⟨upd_same, same_new hD⟩ ?_ ?_
      · rintro k H6 hk ⟨e6, g6⟩
        have ik : InS p.length (k : Int) := ⟨by omega, by omega⟩
        refine ⟨rfl, ?_⟩
        walk_at "rd"
        rw [Int.zero_add]
        walk_at "rd"
        refine ⟨_, o, p, t, _, _, _, rfl, same_rp (g35.trans g6) rv, hf, eqs, ii, ij, ik, ?_⟩
        walk_at "rd"
        refine ⟨_, e6, by rw [List.length_map, List.length_map, nums_len]; exact small1000 (by omega), ?_, same_own g6 hD⟩
        rw [upd_same, nlist fun _ => true]
      rintro H6 ⟨e6, g6⟩
      walk_at "rd"
      refine rd_in (SqL.of e6) rfl (flat_bl _) ?_
      rw [inV_no]
      walk_at "rd"
      rw [show (((nums p.length).map fun _ => true).all id) = true by rw [List.all_map]; exact List.all_eq_true.mpr fun _ _ => rfl]
      walk_at "dec"
      exact ⟨_, rfl, g35.trans g6⟩
    · rintro σ' H3 ⟨y, rfl, g3⟩
      walk_at "rd"
      exact ⟨_, _, rfl, g3⟩
  · rintro σ' H1 ⟨x, y, rfl, g⟩
    walk_at "rd"
    refine ⟨_, o, p, t, _, rfl, same_rp g rv, hf, ?_⟩
    rw [decide_eq_false (show ¬ ((0 : Int) ≤ (p.length : Int) ∧ (p.length : Int) ≤ (p.length : Int) - 1) by omega)]
    walk_at "rd"
    refine ⟨_, _, .bl false, rfl, .bl _, .bl _, trivial, fun H2 g2 => ?_⟩
    walk_at "dec"
    refine ⟨_, o, p, t, _, rfl, same_rp (g.trans g2) rv, hf, ?_⟩
    rw [decide_eq_false (show ¬ ((0 : Int) ≤ -1 ∧ (-1 : Int) ≤ (p.length : Int) - 1) by omega)]
    walk_at "rd"
    refine ⟨_, _, .bl false, rfl, .bl _, .bl _, trivial, fun H3 g3 => ?_⟩
    exact q _ (g.trans (g2.trans g3))

end
section
variable {P : Program} {w : World} {K : PySem.W.Frag} {mg : Str → Option Value} {base : Heap}
def spLaw (K : PySem.W.Frag) : Sp := fun vs H Q _ => ∃ (a : Addr) (ns : List Int), vs = [.ref a] ∧ SqL K H a (ns.map V.int) ∧ ns.length ≤ 63 ∧ ∀ H', Q (.bl true) H'
theorem nums_mem {n : Nat} {a : Int} (h : InS n a) : a ∈ nums n := by
  unfold nums
  obtain ⟨h0, h1⟩ := h
  exact List.mem_map.mpr ⟨a.toNat, List.mem_range.mpr (by omega), by show (a.toNat : Int) = a; omega⟩
theorem flt_good {o : Int} {p t : List (List Int)} (h : fltB o p t = true) : formB o p t = true ∧ Eqs o p t := by
  have hf : formB o p t = true := by
    by_cases c : formB o p t = true
    · exact c
    · unfold fltB faultT at h
      rw [if_neg c] at h
      cases h
  refine ⟨hf, fun k hk a b c ia ib ic => ?_⟩
  unfold fltB faultT at h
  rw [if_pos hf] at h
  cases e : (List.range 8).findSome? fun k => (fstOf o p t k).map (fltT k) with
  | some d =>
    rw [e] at h
    obtain ⟨k', _, ek⟩ := List.exists_of_findSome?_eq_some e
    cases e2 : fstOf o p t k' with
    | none => rw [e2] at ek; cases ek
    | some x => rw [e2] at ek; cases ek; cases h
  | none =>
    have h1 := List.findSome?_eq_none_iff.mp e k (List.mem_range.mpr hk)
    have h2 : fstOf o p t k = none := by
      cases e2 : fstOf o p t k with
      | none => rfl
      | some x => rw [e2] at h1; cases h1
    unfold fstOf fst3 at h2
    have h3 := List.findSome?_eq_none_iff.mp h2 a (nums_mem ia)
    unfold in2 at h3
    have h4 := List.findSome?_eq_none_iff.mp h3 b (nums_mem ib)
    unfold in3 at h4
    have h5 := List.findSome?_eq_none_iff.mp h4 c (nums_mem ic)
    unfold hit at h5
    by_cases c5 : eqn o p t k a b c = true
    · exact c5
    · rw [if_neg c5] at h5; cases h5
theorem ok_law (T : Tx mg) {f f1 f2 f3 f4 f5 f6 f7 f8 f9 : Addr} {fd d1 d2 d3 d4 d5 d6 d7 d8 d9 : FuncData} (F : Dn K mg "law" sLaw ["script"] f fd)
    (DLDraws : Dn K mg "_law_draws" sLDraws ["script", "many"] f1 d1) (GLDraws : FnOk P w K mg base CX0 1 f1 d1 ["script", "many"] (spDraws K))
    (DLAnyTable : Dn K mg "_law_any_table" sLAnyTable ["draws", "script"] f2 d2) (GLAnyTable : FnOk P w K mg base CX0 4 f2 d2 ["draws", "script"] (spAnyT K))
    (DFaultOf : Dn K mg "fault_of" sFaultOf ["house"] f3 d3) (GFaultOf : FnOk P w K mg base CX0 4 f3 d3 ["house"] (spFault K))
    (DLSame : Dn K mg "_law_same" sLSame ["actual", "due"] f4 d4) (GLSame : FnOk P w K mg base CX0 3 f4 d4 ["actual", "due"] (spSame K 3))
    (DIsHouse : Dn K mg "is_house" sIsHouse ["house"] f5 d5) (GIsHouse : FnOk P w K mg base CX0 11 f5 d5 ["house"] (spIsHouse K))
    (DLFault : Dn K mg "_law_fault" sLFault ["house"] f6 d6) (GLFault : FnOk P w K mg base CX0 2 f6 d6 ["house"] (spFault K))
    (DZero : Dn K mg "zero" sZero ["house"] f7 d7) (GZero : FnOk P w K mg base CX0 1 f7 d7 ["house"] (spTZ K))
    (DOne : Dn K mg "one" sOne ["house"] f8 d8) (GOne : FnOk P w K mg base CX0 1 f8 d8 ["house"] (spTO K))
    (DLActs : Dn K mg "_law_acts" sLActs ["house"] f9 d9) (GLActs : FnOk P w K mg base CX0 4 f9 d9 ["house"] (spActs K)) :
    FnOk P w K mg base CX0 12 f fd ["script"] (spLaw K) := by
  refine F.F.ok scLaw (fun vs H Q E h => ?_) (fun cdv A outer s H vs Q E hr h => ?_)
  · obtain ⟨a, ns, rfl, _⟩ := h
    rfl
  obtain ⟨a, ns, rfl, hS, h63, q⟩ := h
  have nd := scLaw.nd
  refine ⟨_, (pss_cons (ps_set (i := 1) nd rfl (Or.inl rfl) (pe_call GLDraws (hr.mono (by omega)) rfl DLDraws.m DLDraws.F.kp DLDraws.b .nil pass0 (pa_cons (pv 0) (pa_cons pe_int pa_nil))))
  (pss_cons (ps_set (i := 2) nd rfl (Or.inl rfl) (pe_call GLAnyTable (hr.mono (by omega)) rfl DLAnyTable.m DLAnyTable.F.kp DLAnyTable.b .nil pass0 (pa_cons (pv 1) (pa_cons (pv 0) pa_nil))))
  (pss_cons (ps_set (i := 3) nd rfl (Or.inl rfl) (pe_cmpR o_isN (pe_call GFaultOf (hr.mono (by omega)) rfl DFaultOf.m DFaultOf.F.kp DFaultOf.b .nil pass0 (pa_cons (pv 2) pa_nil)) pe_non (nomark _)))
  (pss_cons (ps_if (PW.pt (pw_or (pt_not (pt_val (pe_call GLSame (hr.mono (by omega)) rfl DLSame.m DLSame.F.kp DLSame.b .nil pass0 (pa_cons (pe_call GIsHouse (hr.mono (by omega)) rfl DIsHouse.m DIsHouse.F.kp DIsHouse.b .nil pass0 (pa_cons (pv 2) pa_nil)) (pa_cons (pv 3) pa_nil))))) (pw_or1 (pt_cmpR op_ne (pv 3) (pe_cmpR o_isN (pe_call GLFault (hr.mono (by omega)) rfl DLFault.m DLFault.F.kp DLFault.b .nil pass0 (pa_cons (pv 2) pa_nil)) pe_non (nomark _)) (nomark _))))) (pss_one (ps_ret pe_bl)) pss_nil)
  (pss_cons (ps_if (pt_not (pt_val (pv 3))) (pss_one (ps_ret pe_bl)) pss_nil)
  (pss_one (ps_ret (pe_and (pe_call GLSame (hr.mono (by omega)) rfl DLSame.m DLSame.F.kp DLSame.b .nil pass0 (pa_cons (pe_call GZero (hr.mono (by omega)) rfl DZero.m DZero.F.kp DZero.b .nil pass0 (pa_cons (pv 2) pa_nil)) (pa_cons pe_int pa_nil))) (pe_and (pe_call GLSame (hr.mono (by omega)) rfl DLSame.m DLSame.F.kp DLSame.b .nil pass0 (pa_cons (pe_call GOne (hr.mono (by omega)) rfl DOne.m DOne.F.kp DOne.b .nil pass0 (pa_cons (pv 2) pa_nil)) (pa_cons (pe_ix (k_ixT K rfl) (pv 2) pe_int (fun _ _ => rfl)) pa_nil))) (pe_one (pe_call GLActs (hr.mono (by omega)) rfl DLActs.m DLActs.F.kp DLActs.b .nil pass0 (pa_cons (pv 2) pa_nil)))))))))))), ?_⟩
  walk_at "rd"
  refine ⟨a, 200, ns, rfl, hS, by decide, by decide, h63, fun d ds H1 nd1 e1 s1 => ?_⟩
  walk_at "rd"
  have hS1 := sc_of hS nd1 s1
  have hd1 : DrAt d H1 := ⟨ds, e1⟩
  refine ⟨d, a, ns, rfl, hd1, hS1, h63, fun v H2 o p t g2 rv fp ft => ?_⟩
  walk_at "rd"
  refine ⟨v, o, p, t, rfl, rv, fp, ft, fun u3 H3 g3 r3 => ?_⟩
  walk_at "rd"
  rw [flt_isN r3]
  refine ⟨v, .table o p t, rfl, same_rp g3 rv, ⟨fp, ft⟩, fun H4 g4 => ?_⟩
  rw [show (Hs.table o p t).valid 6 = fltB o p t from Bool.true_and _]
  walk_at "rd"
  refine ⟨_, _, .bl (fltB o p t), rfl, .bl _, .bl _, trivial, fun H5 g5 => ?_⟩
  walk_at "dec"
  have g25 := g3.trans (g4.trans g5)
  refine ⟨v, o, p, t, rfl, same_rp g25 rv, fp, ft, fun u6 H6 g6 r6 => ?_⟩
  walk_at "rd"
  rw [flt_isN r6]
  refine iteNF rfl ?_
  walk_at "rd"
  refine iteB (fun c => ?_) (fun c => ?_)
  · walk_at "rd"
    exact q _
  have c' : fltB o p t = true := by cases e : fltB o p t with
    | true => rfl
    | false => rw [e] at c; cases c
  obtain ⟨hf, he⟩ := flt_good c'
  have g26 := g25.trans g6
  have rv6 := same_rp g26 rv
  walk_at "rd"
  refine ⟨v, o, p, t, rfl, rv6, hf, ?_⟩
  walk_at "rd"
  refine ⟨_, _, .int 0, rfl, .int _, .int _, trivial, fun H7 g7 => ?_⟩
  walk_at "dec"
  refine ⟨v, o, p, t, rfl, same_rp g7 rv6, hf, ?_⟩
  walk_at "rd"
  obtain ⟨adr, pv', tv', rfl, hs, _, _⟩ := rv6.three
  refine rd_ixT (same_sqt g7 hs) rfl ?_
  walk_at "rd"
  refine ⟨_, _, .int o, rfl, .int _, .int _, trivial, fun H8 g8 => ?_⟩
  walk_at "dec"
  exact ⟨_, o, p, t, rfl, same_rp (g7.trans g8) rv6, hf, he, fun H9 _ => q _⟩

end
set_option maxHeartbeats 8000000 in
theorem all_mk {l : PySem.W.OpenLaw} {w : World} {K : PySem.W.Frag} {h : Heap} {mg : Str → Option Value} {fa : Addr} (X : K.In h) (G : h.Ns mainGlobals mg) (hfa : mg "law" = some (.ref fa))
    {f1 : Addr} {od1 an1 : Option Addr} {sl1 : Array (Option Value)} {oc1 kV1 dc1 pm1 cd1 ct1 : Value} {f2 : Addr} {od2 an2 : Option Addr} {sl2 : Array (Option Value)} {oc2 kV2 dc2 pm2 cd2 ct2 : Value} {f3 : Addr} {od3 an3 : Option Addr} {sl3 : Array (Option Value)} {oc3 kV3 dc3 pm3 cd3 ct3 : Value} {f4 : Addr} {od4 an4 : Option Addr} {sl4 : Array (Option Value)} {oc4 kV4 dc4 pm4 cd4 ct4 : Value} {f5 : Addr} {od5 an5 : Option Addr} {sl5 : Array (Option Value)} {oc5 kV5 dc5 pm5 cd5 ct5 : Value} {f6 : Addr} {od6 an6 : Option Addr} {sl6 : Array (Option Value)} {oc6 kV6 dc6 pm6 cd6 ct6 : Value} {f7 : Addr} {od7 an7 : Option Addr} {sl7 : Array (Option Value)} {oc7 kV7 dc7 pm7 cd7 ct7 : Value} {f8 : Addr} {od8 an8 : Option Addr} {sl8 : Array (Option Value)} {oc8 kV8 dc8 pm8 cd8 ct8 : Value} {f9 : Addr} {od9 an9 : Option Addr} {sl9 : Array (Option Value)} {oc9 kV9 dc9 pm9 cd9 ct9 : Value} {f10 : Addr} {od10 an10 : Option Addr} {sl10 : Array (Option Value)} {oc10 kV10 dc10 pm10 cd10 ct10 : Value} {f11 : Addr} {od11 an11 : Option Addr} {sl11 : Array (Option Value)} {oc11 kV11 dc11 pm11 cd11 ct11 : Value} {f12 : Addr} {od12 an12 : Option Addr} {sl12 : Array (Option Value)} {oc12 kV12 dc12 pm12 cd12 ct12 : Value} {f13 : Addr} {od13 an13 : Option Addr} {sl13 : Array (Option Value)} {oc13 kV13 dc13 pm13 cd13 ct13 : Value} {f14 : Addr} {od14 an14 : Option Addr} {sl14 : Array (Option Value)} {oc14 kV14 dc14 pm14 cd14 ct14 : Value} {f15 : Addr} {od15 an15 : Option Addr} {sl15 : Array (Option Value)} {oc15 kV15 dc15 pm15 cd15 ct15 : Value} {f16 : Addr} {od16 an16 : Option Addr} {sl16 : Array (Option Value)} {oc16 kV16 dc16 pm16 cd16 ct16 : Value} {f17 : Addr} {od17 an17 : Option Addr} {sl17 : Array (Option Value)} {oc17 kV17 dc17 pm17 cd17 ct17 : Value} {f18 : Addr} {od18 an18 : Option Addr} {sl18 : Array (Option Value)} {oc18 kV18 dc18 pm18 cd18 ct18 : Value} {f19 : Addr} {od19 an19 : Option Addr} {sl19 : Array (Option Value)} {oc19 kV19 dc19 pm19 cd19 ct19 : Value} {f20 : Addr} {od20 an20 : Option Addr} {sl20 : Array (Option Value)} {oc20 kV20 dc20 pm20 cd20 ct20 : Value} {f21 : Addr} {od21 an21 : Option Addr} {sl21 : Array (Option Value)} {oc21 kV21 dc21 pm21 cd21 ct21 : Value} {f22 : Addr} {od22 an22 : Option Addr} {sl22 : Array (Option Value)} {oc22 kV22 dc22 pm22 cd22 ct22 : Value} {f23 : Addr} {od23 an23 : Option Addr} {sl23 : Array (Option Value)} {oc23 kV23 dc23 pm23 cd23 ct23 : Value} {f24 : Addr} {od24 an24 : Option Addr} {sl24 : Array (Option Value)} {oc24 kV24 dc24 pm24 cd24 ct24 : Value} {f25 : Addr} {od25 an25 : Option Addr} {sl25 : Array (Option Value)} {oc25 kV25 dc25 pm25 cd25 ct25 : Value} {f26 : Addr} {od26 an26 : Option Addr} {sl26 : Array (Option Value)} {oc26 kV26 dc26 pm26 cd26 ct26 : Value} {f27 : Addr} {od27 an27 : Option Addr} {sl27 : Array (Option Value)} {oc27 kV27 dc27 pm27 cd27 ct27 : Value} {f28 : Addr} {od28 an28 : Option Addr} {sl28 : Array (Option Value)} {oc28 kV28 dc28 pm28 cd28 ct28 : Value} {f29 : Addr} {od29 an29 : Option Addr} {sl29 : Array (Option Value)} {oc29 kV29 dc29 pm29 cd29 ct29 : Value} {f30 : Addr} {od30 an30 : Option Addr} {sl30 : Array (Option Value)} {oc30 kV30 dc30 pm30 cd30 ct30 : Value} {f31 : Addr} {od31 an31 : Option Addr} {sl31 : Array (Option Value)} {oc31 kV31 dc31 pm31 cd31 ct31 : Value} {f32 : Addr} {od32 an32 : Option Addr} {sl32 : Array (Option Value)} {oc32 kV32 dc32 pm32 cd32 ct32 : Value} {f33 : Addr} {od33 an33 : Option Addr} {sl33 : Array (Option Value)} {oc33 kV33 dc33 pm33 cd33 ct33 : Value}
    (a1 : PySem.W.nsIn K mainGlobals "fault_of" = some (some (.ref f1))) (l1 : K.lookup f1 = some ⟨oc1, od1, .func (PySem.W.fnOf "fault_of" "fault_of" (defArgs sFaultOf) (defBody sFaultOf) (defScope sFaultOf) .none kV1 dc1 pm1 an1 cd1 ct1), sl1⟩) (c1 : PySem.W.codeIn K cd1 "fault_of" = true) (k1 : PySem.W.keepIn K (.ref f1) = true)
    (a2 : PySem.W.nsIn K mainGlobals "has_form" = some (some (.ref f2))) (l2 : K.lookup f2 = some ⟨oc2, od2, .func (PySem.W.fnOf "has_form" "has_form" (defArgs sHasForm) (defBody sHasForm) (defScope sHasForm) .none kV2 dc2 pm2 an2 cd2 ct2), sl2⟩) (c2 : PySem.W.codeIn K cd2 "has_form" = true) (k2 : PySem.W.keepIn K (.ref f2) = true)
    (a3 : PySem.W.nsIn K mainGlobals "is_square" = some (some (.ref f3))) (l3 : K.lookup f3 = some ⟨oc3, od3, .func (PySem.W.fnOf "is_square" "is_square" (defArgs sIsSquare) (defBody sIsSquare) (defScope sIsSquare) .none kV3 dc3 pm3 an3 cd3 ct3), sl3⟩) (c3 : PySem.W.codeIn K cd3 "is_square" = true) (k3 : PySem.W.keepIn K (.ref f3) = true)
    (a4 : PySem.W.nsIn K mainGlobals "is_table_row" = some (some (.ref f4))) (l4 : K.lookup f4 = some ⟨oc4, od4, .func (PySem.W.fnOf "is_table_row" "is_table_row" (defArgs sIsTableRow) (defBody sIsTableRow) (defScope sIsTableRow) .none kV4 dc4 pm4 an4 cd4 ct4), sl4⟩) (c4 : PySem.W.codeIn K cd4 "is_table_row" = true) (k4 : PySem.W.keepIn K (.ref f4) = true)
    (a5 : PySem.W.nsIn K mainGlobals "least_break" = some (some (.ref f5))) (l5 : K.lookup f5 = some ⟨oc5, od5, .func (PySem.W.fnOf "least_break" "least_break" (defArgs sLeastBreak) (defBody sLeastBreak) (defScope sLeastBreak) .none kV5 dc5 pm5 an5 cd5 ct5), sl5⟩) (c5 : PySem.W.codeIn K cd5 "least_break" = true) (k5 : PySem.W.keepIn K (.ref f5) = true)
    (a6 : PySem.W.nsIn K mainGlobals "holds" = some (some (.ref f6))) (l6 : K.lookup f6 = some ⟨oc6, od6, .func (PySem.W.fnOf "holds" "holds" (defArgs sHolds) (defBody sHolds) (defScope sHolds) .none kV6 dc6 pm6 an6 cd6 ct6), sl6⟩) (c6 : PySem.W.codeIn K cd6 "holds" = true) (k6 : PySem.W.keepIn K (.ref f6) = true)
    (a7 : PySem.W.nsIn K mainGlobals "is_between" = some (some (.ref f7))) (l7 : K.lookup f7 = some ⟨oc7, od7, .func (PySem.W.fnOf "is_between" "is_between" (defArgs sIsBetween) (defBody sIsBetween) (defScope sIsBetween) .none kV7 dc7 pm7 an7 cd7 ct7), sl7⟩) (c7 : PySem.W.codeIn K cd7 "is_between" = true) (k7 : PySem.W.keepIn K (.ref f7) = true)
    (a8 : PySem.W.nsIn K mainGlobals "is_house" = some (some (.ref f8))) (l8 : K.lookup f8 = some ⟨oc8, od8, .func (PySem.W.fnOf "is_house" "is_house" (defArgs sIsHouse) (defBody sIsHouse) (defScope sIsHouse) .none kV8 dc8 pm8 an8 cd8 ct8), sl8⟩) (c8 : PySem.W.codeIn K cd8 "is_house" = true) (k8 : PySem.W.keepIn K (.ref f8) = true)
    (a9 : PySem.W.nsIn K mainGlobals "is_house_within" = some (some (.ref f9))) (l9 : K.lookup f9 = some ⟨oc9, od9, .func (PySem.W.fnOf "is_house_within" "is_house_within" (defArgs sIsHouseWithin) (defBody sIsHouseWithin) (defScope sIsHouseWithin) .none kV9 dc9 pm9 an9 cd9 ct9), sl9⟩) (c9 : PySem.W.codeIn K cd9 "is_house_within" = true) (k9 : PySem.W.keepIn K (.ref f9) = true)
    (a10 : PySem.W.nsIn K mainGlobals "zero" = some (some (.ref f10))) (l10 : K.lookup f10 = some ⟨oc10, od10, .func (PySem.W.fnOf "zero" "zero" (defArgs sZero) (defBody sZero) (defScope sZero) .none kV10 dc10 pm10 an10 cd10 ct10), sl10⟩) (c10 : PySem.W.codeIn K cd10 "zero" = true) (k10 : PySem.W.keepIn K (.ref f10) = true)
    (a11 : PySem.W.nsIn K mainGlobals "one" = some (some (.ref f11))) (l11 : K.lookup f11 = some ⟨oc11, od11, .func (PySem.W.fnOf "one" "one" (defArgs sOne) (defBody sOne) (defScope sOne) .none kV11 dc11 pm11 an11 cd11 ct11), sl11⟩) (c11 : PySem.W.codeIn K cd11 "one" = true) (k11 : PySem.W.keepIn K (.ref f11) = true)
    (a12 : PySem.W.nsIn K mainGlobals "is_worth" = some (some (.ref f12))) (l12 : K.lookup f12 = some ⟨oc12, od12, .func (PySem.W.fnOf "is_worth" "is_worth" (defArgs sIsWorth) (defBody sIsWorth) (defScope sIsWorth) .none kV12 dc12 pm12 an12 cd12 ct12), sl12⟩) (c12 : PySem.W.codeIn K cd12 "is_worth" = true) (k12 : PySem.W.keepIn K (.ref f12) = true)
    (a13 : PySem.W.nsIn K mainGlobals "plus" = some (some (.ref f13))) (l13 : K.lookup f13 = some ⟨oc13, od13, .func (PySem.W.fnOf "plus" "plus" (defArgs sPlus) (defBody sPlus) (defScope sPlus) .none kV13 dc13 pm13 an13 cd13 ct13), sl13⟩) (c13 : PySem.W.codeIn K cd13 "plus" = true) (k13 : PySem.W.keepIn K (.ref f13) = true)
    (a14 : PySem.W.nsIn K mainGlobals "times" = some (some (.ref f14))) (l14 : K.lookup f14 = some ⟨oc14, od14, .func (PySem.W.fnOf "times" "times" (defArgs sTimes) (defBody sTimes) (defScope sTimes) .none kV14 dc14 pm14 an14 cd14 ct14), sl14⟩) (c14 : PySem.W.codeIn K cd14 "times" = true) (k14 : PySem.W.keepIn K (.ref f14) = true)
    (a15 : PySem.W.nsIn K mainGlobals "_law_draws" = some (some (.ref f15))) (l15 : K.lookup f15 = some ⟨oc15, od15, .func (PySem.W.fnOf "_law_draws" "_law_draws" (defArgs sLDraws) (defBody sLDraws) (defScope sLDraws) .none kV15 dc15 pm15 an15 cd15 ct15), sl15⟩) (c15 : PySem.W.codeIn K cd15 "_law_draws" = true) (k15 : PySem.W.keepIn K (.ref f15) = true)
    (a16 : PySem.W.nsIn K mainGlobals "_law_take" = some (some (.ref f16))) (l16 : K.lookup f16 = some ⟨oc16, od16, .func (PySem.W.fnOf "_law_take" "_law_take" (defArgs sLTake) (defBody sLTake) (defScope sLTake) .none kV16 dc16 pm16 an16 cd16 ct16), sl16⟩) (c16 : PySem.W.codeIn K cd16 "_law_take" = true) (k16 : PySem.W.keepIn K (.ref f16) = true)
    (a17 : PySem.W.nsIn K mainGlobals "_law_size" = some (some (.ref f17))) (l17 : K.lookup f17 = some ⟨oc17, od17, .func (PySem.W.fnOf "_law_size" "_law_size" (defArgs sLSize) (defBody sLSize) (defScope sLSize) .none kV17 dc17 pm17 an17 cd17 ct17), sl17⟩) (c17 : PySem.W.codeIn K cd17 "_law_size" = true) (k17 : PySem.W.keepIn K (.ref f17) = true)
    (a18 : PySem.W.nsIn K mainGlobals "_law_same" = some (some (.ref f18))) (l18 : K.lookup f18 = some ⟨oc18, od18, .func (PySem.W.fnOf "_law_same" "_law_same" (defArgs sLSame) (defBody sLSame) (defScope sLSame) .none kV18 dc18 pm18 an18 cd18 ct18), sl18⟩) (c18 : PySem.W.codeIn K cd18 "_law_same" = true) (k18 : PySem.W.keepIn K (.ref f18) = true)
    (a19 : PySem.W.nsIn K mainGlobals "_law_gcd" = some (some (.ref f19))) (l19 : K.lookup f19 = some ⟨oc19, od19, .func (PySem.W.fnOf "_law_gcd" "_law_gcd" (defArgs sLGcd) (defBody sLGcd) (defScope sLGcd) .none kV19 dc19 pm19 an19 cd19 ct19), sl19⟩) (c19 : PySem.W.codeIn K cd19 "_law_gcd" = true) (k19 : PySem.W.keepIn K (.ref f19) = true)
    (a20 : PySem.W.nsIn K mainGlobals "_law_one" = some (some (.ref f20))) (l20 : K.lookup f20 = some ⟨oc20, od20, .func (PySem.W.fnOf "_law_one" "_law_one" (defArgs sLOne) (defBody sLOne) (defScope sLOne) .none kV20 dc20 pm20 an20 cd20 ct20), sl20⟩) (c20 : PySem.W.codeIn K cd20 "_law_one" = true) (k20 : PySem.W.keepIn K (.ref f20) = true)
    (a21 : PySem.W.nsIn K mainGlobals "_law_plus" = some (some (.ref f21))) (l21 : K.lookup f21 = some ⟨oc21, od21, .func (PySem.W.fnOf "_law_plus" "_law_plus" (defArgs sLPlus) (defBody sLPlus) (defScope sLPlus) .none kV21 dc21 pm21 an21 cd21 ct21), sl21⟩) (c21 : PySem.W.codeIn K cd21 "_law_plus" = true) (k21 : PySem.W.keepIn K (.ref f21) = true)
    (a22 : PySem.W.nsIn K mainGlobals "_law_times" = some (some (.ref f22))) (l22 : K.lookup f22 = some ⟨oc22, od22, .func (PySem.W.fnOf "_law_times" "_law_times" (defArgs sLTimes) (defBody sLTimes) (defScope sLTimes) .none kV22 dc22 pm22 an22 cd22 ct22), sl22⟩) (c22 : PySem.W.codeIn K cd22 "_law_times" = true) (k22 : PySem.W.keepIn K (.ref f22) = true)
    (a23 : PySem.W.nsIn K mainGlobals "_law_all_worths" = some (some (.ref f23))) (l23 : K.lookup f23 = some ⟨oc23, od23, .func (PySem.W.fnOf "_law_all_worths" "_law_all_worths" (defArgs sLAllWorths) (defBody sLAllWorths) (defScope sLAllWorths) .none kV23 dc23 pm23 an23 cd23 ct23), sl23⟩) (c23 : PySem.W.codeIn K cd23 "_law_all_worths" = true) (k23 : PySem.W.keepIn K (.ref f23) = true)
    (a24 : PySem.W.nsIn K mainGlobals "_law_table_house" = some (some (.ref f24))) (l24 : K.lookup f24 = some ⟨oc24, od24, .func (PySem.W.fnOf "_law_table_house" "_law_table_house" (defArgs sLTableHouse) (defBody sLTableHouse) (defScope sLTableHouse) .none kV24 dc24 pm24 an24 cd24 ct24), sl24⟩) (c24 : PySem.W.codeIn K cd24 "_law_table_house" = true) (k24 : PySem.W.keepIn K (.ref f24) = true)
    (a25 : PySem.W.nsIn K mainGlobals "_law_square" = some (some (.ref f25))) (l25 : K.lookup f25 = some ⟨oc25, od25, .func (PySem.W.fnOf "_law_square" "_law_square" (defArgs sLSquare) (defBody sLSquare) (defScope sLSquare) .none kV25 dc25 pm25 an25 cd25 ct25), sl25⟩) (c25 : PySem.W.codeIn K cd25 "_law_square" = true) (k25 : PySem.W.keepIn K (.ref f25) = true)
    (a26 : PySem.W.nsIn K mainGlobals "_law_equation" = some (some (.ref f26))) (l26 : K.lookup f26 = some ⟨oc26, od26, .func (PySem.W.fnOf "_law_equation" "_law_equation" (defArgs sLEquation) (defBody sLEquation) (defScope sLEquation) .none kV26 dc26 pm26 an26 cd26 ct26), sl26⟩) (c26 : PySem.W.codeIn K cd26 "_law_equation" = true) (k26 : PySem.W.keepIn K (.ref f26) = true)
    (a27 : PySem.W.nsIn K mainGlobals "_law_fault" = some (some (.ref f27))) (l27 : K.lookup f27 = some ⟨oc27, od27, .func (PySem.W.fnOf "_law_fault" "_law_fault" (defArgs sLFault) (defBody sLFault) (defScope sLFault) .none kV27 dc27 pm27 an27 cd27 ct27), sl27⟩) (c27 : PySem.W.codeIn K cd27 "_law_fault" = true) (k27 : PySem.W.keepIn K (.ref f27) = true)
    (a28 : PySem.W.nsIn K mainGlobals "_law_operation" = some (some (.ref f28))) (l28 : K.lookup f28 = some ⟨oc28, od28, .func (PySem.W.fnOf "_law_operation" "_law_operation" (defArgs sLOperation) (defBody sLOperation) (defScope sLOperation) .none kV28 dc28 pm28 an28 cd28 ct28), sl28⟩) (c28 : PySem.W.codeIn K cd28 "_law_operation" = true) (k28 : PySem.W.keepIn K (.ref f28) = true)
    (a29 : PySem.W.nsIn K mainGlobals "_law_spoilt" = some (some (.ref f29))) (l29 : K.lookup f29 = some ⟨oc29, od29, .func (PySem.W.fnOf "_law_spoilt" "_law_spoilt" (defArgs sLSpoilt) (defBody sLSpoilt) (defScope sLSpoilt) .none kV29 dc29 pm29 an29 cd29 ct29), sl29⟩) (c29 : PySem.W.codeIn K cd29 "_law_spoilt" = true) (k29 : PySem.W.keepIn K (.ref f29) = true)
    (a30 : PySem.W.nsIn K mainGlobals "_law_any_table" = some (some (.ref f30))) (l30 : K.lookup f30 = some ⟨oc30, od30, .func (PySem.W.fnOf "_law_any_table" "_law_any_table" (defArgs sLAnyTable) (defBody sLAnyTable) (defScope sLAnyTable) .none kV30 dc30 pm30 an30 cd30 ct30), sl30⟩) (c30 : PySem.W.codeIn K cd30 "_law_any_table" = true) (k30 : PySem.W.keepIn K (.ref f30) = true)
    (a31 : PySem.W.nsIn K mainGlobals "_law_three" = some (some (.ref f31))) (l31 : K.lookup f31 = some ⟨oc31, od31, .func (PySem.W.fnOf "_law_three" "_law_three" (defArgs sLThree) (defBody sLThree) (defScope sLThree) .none kV31 dc31 pm31 an31 cd31 ct31), sl31⟩) (c31 : PySem.W.codeIn K cd31 "_law_three" = true) (k31 : PySem.W.keepIn K (.ref f31) = true)
    (a32 : PySem.W.nsIn K mainGlobals "_law_acts" = some (some (.ref f32))) (l32 : K.lookup f32 = some ⟨oc32, od32, .func (PySem.W.fnOf "_law_acts" "_law_acts" (defArgs sLActs) (defBody sLActs) (defScope sLActs) .none kV32 dc32 pm32 an32 cd32 ct32), sl32⟩) (c32 : PySem.W.codeIn K cd32 "_law_acts" = true) (k32 : PySem.W.keepIn K (.ref f32) = true)
    (a33 : PySem.W.nsIn K mainGlobals "law" = some (some (.ref f33))) (l33 : K.lookup f33 = some ⟨oc33, od33, .func (PySem.W.fnOf "law" "law" (defArgs sLaw) (defBody sLaw) (defScope sLaw) .none kV33 dc33 pm33 an33 cd33 ct33), sl33⟩) (c33 : PySem.W.codeIn K cd33 "law" = true) (k33 : PySem.W.keepIn K (.ref f33) = true)
    (z_len : PySem.W.nsIn K mainGlobals "len" = some none)
    (z_int : PySem.W.nsIn K mainGlobals "int" = some none)
    (z_list : PySem.W.nsIn K mainGlobals "list" = some none)
    (z_tuple : PySem.W.nsIn K mainGlobals "tuple" = some none)
    (z_bool : PySem.W.nsIn K mainGlobals "bool" = some none)
    (z_str : PySem.W.nsIn K mainGlobals "str" = some none)
    (z_range : PySem.W.nsIn K mainGlobals "range" = some none)
    (z_abs : PySem.W.nsIn K mainGlobals "abs" = some none)
    (z_min : PySem.W.nsIn K mainGlobals "min" = some none)
    (z_max : PySem.W.nsIn K mainGlobals "max" = some none)
    (z_isinstance : PySem.W.nsIn K mainGlobals "isinstance" = some none)
    (z_all : PySem.W.nsIn K mainGlobals "all" = some none)
    {eA : Addr} {de : Option Addr} {ne : Nat} {t0 t1 t2 t3 t4 t5 t6 t7 t8 : Tok} {se : Array (Option Value)}
    {tW tD : Tok} (aW : PySem.W.nsIn K mainGlobals "WIDEST" = some (some (.int 40 tW))) (aD : PySem.W.nsIn K mainGlobals "DEEPEST" = some (some (.int 6 tD)))
    (aL : PySem.W.nsIn K mainGlobals "LARGEST" = some (some (.int 6 t0))) (aE : PySem.W.nsIn K mainGlobals "EQUATIONS" = some (some (.ref eA)))
    (lE : K.lookup eA = some ⟨.type "tuple", de, .seq #[.str "plus turns" t1, .str "plus joins" t2, .str "zero adds" t3, .str "times turns" t4, .str "times joins" t5, .str "one keeps" t6, .str "spreads" t7, .str "zero kills" t8] ne, se⟩)
    : ∃ fd : FuncData, (∀ (s : Shared) (v : Value), BindsTo s fd ⟨[v], []⟩ [("script", v)]) ∧ ∀ base : Heap, K.In base → base.Ns mainGlobals mg → FnOk l.prog w K mg base CX0 12 fa fd ["script"] (spLaw K) := by
  have e := hfa.symm.trans (PySem.W.mg_of X G a33)
  cases e
  have F1 := fun_mk (st := sFaultOf) l1 c1 k1
  have DFaultOf : Dn K mg "fault_of" sFaultOf ["house"] _ _ := ⟨F1, F1.binds (ps := ["house"]) fun _ _ _ _ _ _ us hl => match us, hl with | [_], _ => rfl, PySem.W.mg_of X G a1⟩
  have F2 := fun_mk (st := sHasForm) l2 c2 k2
  have DHasForm : Dn K mg "has_form" sHasForm ["house"] _ _ := ⟨F2, F2.binds (ps := ["house"]) fun _ _ _ _ _ _ us hl => match us, hl with | [_], _ => rfl, PySem.W.mg_of X G a2⟩
  have F3 := fun_mk (st := sIsSquare) l3 c3 k3
  have DIsSquare : Dn K mg "is_square" sIsSquare ["rows", "size"] _ _ := ⟨F3, F3.binds (ps := ["rows", "size"]) fun _ _ _ _ _ _ us hl => match us, hl with | [_, _], _ => rfl, PySem.W.mg_of X G a3⟩
  have F4 := fun_mk (st := sIsTableRow) l4 c4 k4
  have DIsTableRow : Dn K mg "is_table_row" sIsTableRow ["row", "size"] _ _ := ⟨F4, F4.binds (ps := ["row", "size"]) fun _ _ _ _ _ _ us hl => match us, hl with | [_, _], _ => rfl, PySem.W.mg_of X G a4⟩
  have F5 := fun_mk (st := sLeastBreak) l5 c5 k5
  have DLeastBreak : Dn K mg "least_break" sLeastBreak ["house", "name"] _ _ := ⟨F5, F5.binds (ps := ["house", "name"]) fun _ _ _ _ _ _ us hl => match us, hl with | [_, _], _ => rfl, PySem.W.mg_of X G a5⟩
  have F6 := fun_mk (st := sHolds) l6 c6 k6
  have DHolds : Dn K mg "holds" sHolds ["house", "name", "a", "b", "c"] _ _ := ⟨F6, F6.binds (ps := ["house", "name", "a", "b", "c"]) fun _ _ _ _ _ _ us hl => match us, hl with | [_, _, _, _, _], _ => rfl, PySem.W.mg_of X G a6⟩
  have F7 := fun_mk (st := sIsBetween) l7 c7 k7
  have DIsBetween : Dn K mg "is_between" sIsBetween ["value", "least", "greatest"] _ _ := ⟨F7, F7.binds (ps := ["value", "least", "greatest"]) fun _ _ _ _ _ _ us hl => match us, hl with | [_, _, _], _ => rfl, PySem.W.mg_of X G a7⟩
  have F8 := fun_mk (st := sIsHouse) l8 c8 k8
  have DIsHouse : Dn K mg "is_house" sIsHouse ["house"] _ _ := ⟨F8, F8.binds (ps := ["house"]) fun _ _ _ _ _ _ us hl => match us, hl with | [_], _ => rfl, PySem.W.mg_of X G a8⟩
  have F9 := fun_mk (st := sIsHouseWithin) l9 c9 k9
  have DIsHouseWithin : Dn K mg "is_house_within" sIsHouseWithin ["house", "depth"] _ _ := ⟨F9, F9.binds (ps := ["house", "depth"]) fun _ _ _ _ _ _ us hl => match us, hl with | [_, _], _ => rfl, PySem.W.mg_of X G a9⟩
  have F10 := fun_mk (st := sZero) l10 c10 k10
  have DZero : Dn K mg "zero" sZero ["house"] _ _ := ⟨F10, F10.binds (ps := ["house"]) fun _ _ _ _ _ _ us hl => match us, hl with | [_], _ => rfl, PySem.W.mg_of X G a10⟩
  have F11 := fun_mk (st := sOne) l11 c11 k11
  have DOne : Dn K mg "one" sOne ["house"] _ _ := ⟨F11, F11.binds (ps := ["house"]) fun _ _ _ _ _ _ us hl => match us, hl with | [_], _ => rfl, PySem.W.mg_of X G a11⟩
  have F12 := fun_mk (st := sIsWorth) l12 c12 k12
  have DIsWorth : Dn K mg "is_worth" sIsWorth ["house", "worth"] _ _ := ⟨F12, F12.binds (ps := ["house", "worth"]) fun _ _ _ _ _ _ us hl => match us, hl with | [_, _], _ => rfl, PySem.W.mg_of X G a12⟩
  have F13 := fun_mk (st := sPlus) l13 c13 k13
  have DPlus : Dn K mg "plus" sPlus ["house", "one_worth", "other"] _ _ := ⟨F13, F13.binds (ps := ["house", "one_worth", "other"]) fun _ _ _ _ _ _ us hl => match us, hl with | [_, _, _], _ => rfl, PySem.W.mg_of X G a13⟩
  have F14 := fun_mk (st := sTimes) l14 c14 k14
  have DTimes : Dn K mg "times" sTimes ["house", "one_worth", "other"] _ _ := ⟨F14, F14.binds (ps := ["house", "one_worth", "other"]) fun _ _ _ _ _ _ us hl => match us, hl with | [_, _, _], _ => rfl, PySem.W.mg_of X G a14⟩
  have F15 := fun_mk (st := sLDraws) l15 c15 k15
  have DLDraws : Dn K mg "_law_draws" sLDraws ["script", "many"] _ _ := ⟨F15, F15.binds (ps := ["script", "many"]) fun _ _ _ _ _ _ us hl => match us, hl with | [_, _], _ => rfl, PySem.W.mg_of X G a15⟩
  have F16 := fun_mk (st := sLTake) l16 c16 k16
  have DLTake : Dn K mg "_law_take" sLTake ["draws", "many"] _ _ := ⟨F16, F16.binds (ps := ["draws", "many"]) fun _ _ _ _ _ _ us hl => match us, hl with | [_, _], _ => rfl, PySem.W.mg_of X G a16⟩
  have F17 := fun_mk (st := sLSize) l17 c17 k17
  have DLSize : Dn K mg "_law_size" sLSize ["draws", "script"] _ _ := ⟨F17, F17.binds (ps := ["draws", "script"]) fun _ _ _ _ _ _ us hl => match us, hl with | [_, _], _ => rfl, PySem.W.mg_of X G a17⟩
  have F18 := fun_mk (st := sLSame) l18 c18 k18
  have DLSame : Dn K mg "_law_same" sLSame ["actual", "due"] _ _ := ⟨F18, F18.binds (ps := ["actual", "due"]) fun _ _ _ _ _ _ us hl => match us, hl with | [_, _], _ => rfl, PySem.W.mg_of X G a18⟩
  have F19 := fun_mk (st := sLGcd) l19 c19 k19
  have DLGcd : Dn K mg "_law_gcd" sLGcd ["a", "b"] _ _ := ⟨F19, F19.binds (ps := ["a", "b"]) fun _ _ _ _ _ _ us hl => match us, hl with | [_, _], _ => rfl, PySem.W.mg_of X G a19⟩
  have F20 := fun_mk (st := sLOne) l20 c20 k20
  have DLOne : Dn K mg "_law_one" sLOne ["house"] _ _ := ⟨F20, F20.binds (ps := ["house"]) fun _ _ _ _ _ _ us hl => match us, hl with | [_], _ => rfl, PySem.W.mg_of X G a20⟩
  have F21 := fun_mk (st := sLPlus) l21 c21 k21
  have DLPlus : Dn K mg "_law_plus" sLPlus ["house", "a", "b"] _ _ := ⟨F21, F21.binds (ps := ["house", "a", "b"]) fun _ _ _ _ _ _ us hl => match us, hl with | [_, _, _], _ => rfl, PySem.W.mg_of X G a21⟩
  have F22 := fun_mk (st := sLTimes) l22 c22 k22
  have DLTimes : Dn K mg "_law_times" sLTimes ["house", "a", "b"] _ _ := ⟨F22, F22.binds (ps := ["house", "a", "b"]) fun _ _ _ _ _ _ us hl => match us, hl with | [_, _, _], _ => rfl, PySem.W.mg_of X G a22⟩
  have F23 := fun_mk (st := sLAllWorths) l23 c23 k23
  have DLAllWorths : Dn K mg "_law_all_worths" sLAllWorths ["house"] _ _ := ⟨F23, F23.binds (ps := ["house"]) fun _ _ _ _ _ _ us hl => match us, hl with | [_], _ => rfl, PySem.W.mg_of X G a23⟩
  have F24 := fun_mk (st := sLTableHouse) l24 c24 k24
  have DLTableHouse : Dn K mg "_law_table_house" sLTableHouse ["draws"] _ _ := ⟨F24, F24.binds (ps := ["draws"]) fun _ _ _ _ _ _ us hl => match us, hl with | [_], _ => rfl, PySem.W.mg_of X G a24⟩
  have F25 := fun_mk (st := sLSquare) l25 c25 k25
  have DLSquare : Dn K mg "_law_square" sLSquare ["rows", "size"] _ _ := ⟨F25, F25.binds (ps := ["rows", "size"]) fun _ _ _ _ _ _ us hl => match us, hl with | [_, _], _ => rfl, PySem.W.mg_of X G a25⟩
  have F26 := fun_mk (st := sLEquation) l26 c26 k26
  have DLEquation : Dn K mg "_law_equation" sLEquation ["house", "k", "a", "b", "c"] _ _ := ⟨F26, F26.binds (ps := ["house", "k", "a", "b", "c"]) fun _ _ _ _ _ _ us hl => match us, hl with | [_, _, _, _, _], _ => rfl, PySem.W.mg_of X G a26⟩
  have F27 := fun_mk (st := sLFault) l27 c27 k27
  have DLFault : Dn K mg "_law_fault" sLFault ["house"] _ _ := ⟨F27, F27.binds (ps := ["house"]) fun _ _ _ _ _ _ us hl => match us, hl with | [_], _ => rfl, PySem.W.mg_of X G a27⟩
  have F28 := fun_mk (st := sLOperation) l28 c28 k28
  have DLOperation : Dn K mg "_law_operation" sLOperation ["draws", "size"] _ _ := ⟨F28, F28.binds (ps := ["draws", "size"]) fun _ _ _ _ _ _ us hl => match us, hl with | [_, _], _ => rfl, PySem.W.mg_of X G a28⟩
  have F29 := fun_mk (st := sLSpoilt) l29 c29 k29
  have DLSpoilt : Dn K mg "_law_spoilt" sLSpoilt ["draws", "script", "house"] _ _ := ⟨F29, F29.binds (ps := ["draws", "script", "house"]) fun _ _ _ _ _ _ us hl => match us, hl with | [_, _, _], _ => rfl, PySem.W.mg_of X G a29⟩
  have F30 := fun_mk (st := sLAnyTable) l30 c30 k30
  have DLAnyTable : Dn K mg "_law_any_table" sLAnyTable ["draws", "script"] _ _ := ⟨F30, F30.binds (ps := ["draws", "script"]) fun _ _ _ _ _ _ us hl => match us, hl with | [_, _], _ => rfl, PySem.W.mg_of X G a30⟩
  have F31 := fun_mk (st := sLThree) l31 c31 k31
  have DLThree : Dn K mg "_law_three" sLThree ["house", "a", "b", "c"] _ _ := ⟨F31, F31.binds (ps := ["house", "a", "b", "c"]) fun _ _ _ _ _ _ us hl => match us, hl with | [_, _, _, _], _ => rfl, PySem.W.mg_of X G a31⟩
  have F32 := fun_mk (st := sLActs) l32 c32 k32
  have DLActs : Dn K mg "_law_acts" sLActs ["house"] _ _ := ⟨F32, F32.binds (ps := ["house"]) fun _ _ _ _ _ _ us hl => match us, hl with | [_], _ => rfl, PySem.W.mg_of X G a32⟩
  have F33 := fun_mk (st := sLaw) l33 c33 k33
  have DLaw : Dn K mg "law" sLaw ["script"] _ _ := ⟨F33, F33.binds (ps := ["script"]) fun _ _ _ _ _ _ us hl => match us, hl with | [_], _ => rfl, PySem.W.mg_of X G a33⟩
  have T : Tx mg := ⟨PySem.W.mg_none_of X G z_len, PySem.W.mg_none_of X G z_int, PySem.W.mg_none_of X G z_list, PySem.W.mg_none_of X G z_tuple, PySem.W.mg_none_of X G z_bool, PySem.W.mg_none_of X G z_str, PySem.W.mg_none_of X G z_range, PySem.W.mg_none_of X G z_abs, PySem.W.mg_none_of X G z_min, PySem.W.mg_none_of X G z_max, PySem.W.mg_none_of X G z_isinstance, PySem.W.mg_none_of X G z_all⟩
  refine ⟨PySem.W.fnOf "law" "law" (defArgs sLaw) (defBody sLaw) (defScope sLaw) .none kV33 dc33 pm33 an33 cd33 ct33, fun s v => .of_eq rfl, fun base _ _ => ?_⟩
  have C : Te K mg eA := ⟨⟨_, PySem.W.mg_of X G aL⟩, PySem.W.mg_of X G aE, fun H => .inr ⟨_, _, _, lE, rfl, rfl, len_ok rfl, .cons ⟨_, rfl⟩ (.cons ⟨_, rfl⟩ (.cons ⟨_, rfl⟩ (.cons ⟨_, rfl⟩ (.cons ⟨_, rfl⟩ (.cons ⟨_, rfl⟩ (.cons ⟨_, rfl⟩ (.cons ⟨_, rfl⟩ .nil)))))))⟩⟩
  have g1 := ok_take (P := l.prog) (w := w) (base := base) T DLTake
  have g2 := ok_size (P := l.prog) (w := w) (base := base) T DLSize DLTake g1
  have g4 := ok_gcd (P := l.prog) (w := w) (base := base) T DLGcd
  have g5 := ok_plusS (P := l.prog) (w := w) (base := base) T DLPlus DLGcd g4
  have g6 := ok_timesS (P := l.prog) (w := w) (base := base) T DLTimes DLGcd g4
  have g7 := ok_allw (P := l.prog) (w := w) (base := base) T DLAllWorths
  have g8 := ok_LOne (P := l.prog) (w := w) (base := base) T DLOne
  have g9 := ok_tableH (P := l.prog) (w := w) (base := base) T DLTableHouse DLTake g1 DLAllWorths g7 DLPlus g5 DLTimes g6 DLOne (g8 1)
  have g10 := ok_spoil (P := l.prog) (w := w) (base := base) T DLSpoilt DLTake g1 DLSize g2
  have g11 := ok_op (P := l.prog) (w := w) (base := base) T DLOperation DLTake g1
  have g12 := ok_anyT (P := l.prog) (w := w) (base := base) T DLAnyTable DLTake g1 DLTableHouse g9 DLSpoilt g10 DLOperation g11
  have g13 := ok_draws (P := l.prog) (w := w) (base := base) T DLDraws
  have g14 := ok_same (P := l.prog) (w := w) (base := base) T DLSame 3
  have g15 := ok_rowB (P := l.prog) (w := w) (base := base) T DIsTableRow
  have g16 := ok_sqB (P := l.prog) (w := w) (base := base) T DIsSquare DIsTableRow g15
  have g17 := ok_form (P := l.prog) (w := w) (base := base) T C DHasForm DIsSquare g16
  have g18 := ok_holds (P := l.prog) (w := w) (base := base) T DHolds
  have g19 := ok_least (P := l.prog) (w := w) (base := base) T DLeastBreak DHolds g18
  have g20 := ok_fault (P := l.prog) (w := w) (base := base) T C DFaultOf DHasForm g17 DLeastBreak g19
  have g21 := ok_lsq (P := l.prog) (w := w) (base := base) T DLSquare
  have g22 := ok_eqn (P := l.prog) (w := w) (base := base) T DLEquation
  have g23 := ok_lfault (P := l.prog) (w := w) (base := base) T DLFault DLSquare g21 DLEquation g22
  have hW := PySem.W.mg_of X G aW
  have hD := PySem.W.mg_of X G aD
  have g24 := ok_within (P := l.prog) (w := w) (base := base) T hW DIsHouseWithin DFaultOf g20 6
  have g25 := ok_isHouse (P := l.prog) (w := w) (base := base) T hD DIsHouse DIsHouseWithin g24
  have g26 := ok_btw (P := l.prog) (w := w) (K := K) (base := base) T DIsBetween
  have g27 := ok_tZero (P := l.prog) (w := w) (base := base) T DZero
  have g28 := ok_tOne (P := l.prog) (w := w) (base := base) T DOne
  have g29 := ok_tPlus (P := l.prog) (w := w) (base := base) T DPlus
  have g30 := ok_tTimes (P := l.prog) (w := w) (base := base) T DTimes
  have g31 := ok_tWorth (P := l.prog) (w := w) (base := base) T DIsWorth DIsBetween g26
  have g32 := ok_three (P := l.prog) (w := w) (base := base) T DLThree DPlus g29 DTimes g30 DZero g27 DOne g28
  have g33 := ok_acts (P := l.prog) (w := w) (base := base) T DLActs DPlus g29 DTimes g30 DIsWorth g31 DLSame g14 DLThree g32
  exact ok_law T DLaw DLDraws g13 DLAnyTable g12 DFaultOf g20 DLSame g14 DIsHouse g25 DLFault g23 DZero g27 DOne g28 DLActs g33
theorem walk {l : PySem.W.OpenLaw} {q : Program} {loose : List Str} {XP : (Str → Option Value) → Heap → Prop} {YP : World → Heap → Prop} {d : DefRec} {K : Params → PySem.W.Frag} (hn : l.most = some 63) (hdf : d.params.defaults = [])
    (hY : ∀ (w : World) (h : Heap), YP w h → (K w.params).In h)
    (F : ∀ (w : World) (mg : Str → Option Value) (fa : Addr) (h : Heap), (K w.params).In h → h.Ns mainGlobals mg → mg d.name = some (.ref fa) →
      ∃ fd : FuncData, (∀ (s : Shared) (u : Value), BindsTo s fd ⟨[u], []⟩ [("script", u)]) ∧ ∀ base : Heap, (K w.params).In base → base.Ns mainGlobals mg → FnOk l.prog w (K w.params) mg base CX0 12 fa fd ["script"] (spLaw (K w.params))) :
    PySem.W.WalkO q loose XP YP l.row.toRowW d [] (fun f vs => PySem.call f vs) :=
  L2.walk_of (n := 63) (k := 12) (x := "script") (CX := fun _ => CX0) (sp := fun w => spLaw (K w.params)) hn (by decide) hdf ⟨rfl, by decide, by decide⟩ hY F (fun _ _ a ns hl _ hS => ⟨a, ns, rfl, hS, hl, fun _ => rfl⟩) fun _ _ _ _ _ z => z
end A1
open PySem PySem.W PyProof.Rows
set_option maxRecDepth 100000 in
set_option maxHeartbeats 0 in
theorem PySem.Challenge.cw_anyworth_k12_whole_tables_are_houses_holds : PySem.Challenge.rw_anyworth_k12_whole_tables_are_houses.Holds := by
  w_on; o_law; k_head; (case hw => w_witness2)
  k_fill
  refine A1.walk (l := PySem.Challenge.rw_anyworth_k12_whole_tables_are_houses) rfl rfl (fun w h Y => PySem.W.kIn_of Y) ?F
  case F =>
    intro w mg fa h KX G hmg
    refine' A1.all_mk KX G hmg ?a1 ?l1 ?c1 ?k1 ?a2 ?l2 ?c2 ?k2 ?a3 ?l3 ?c3 ?k3 ?a4 ?l4 ?c4 ?k4 ?a5 ?l5 ?c5 ?k5 ?a6 ?l6 ?c6 ?k6 ?a7 ?l7 ?c7 ?k7 ?a8 ?l8 ?c8 ?k8 ?a9 ?l9 ?c9 ?k9 ?a10 ?l10 ?c10 ?k10 ?a11 ?l11 ?c11 ?k11 ?a12 ?l12 ?c12 ?k12 ?a13 ?l13 ?c13 ?k13 ?a14 ?l14 ?c14 ?k14 ?a15 ?l15 ?c15 ?k15 ?a16 ?l16 ?c16 ?k16 ?a17 ?l17 ?c17 ?k17 ?a18 ?l18 ?c18 ?k18 ?a19 ?l19 ?c19 ?k19 ?a20 ?l20 ?c20 ?k20 ?a21 ?l21 ?c21 ?k21 ?a22 ?l22 ?c22 ?k22 ?a23 ?l23 ?c23 ?k23 ?a24 ?l24 ?c24 ?k24 ?a25 ?l25 ?c25 ?k25 ?a26 ?l26 ?c26 ?k26 ?a27 ?l27 ?c27 ?k27 ?a28 ?l28 ?c28 ?k28 ?a29 ?l29 ?c29 ?k29 ?a30 ?l30 ?c30 ?k30 ?a31 ?l31 ?c31 ?k31 ?a32 ?l32 ?c32 ?k32 ?a33 ?l33 ?c33 ?k33 ?z_len ?z_int ?z_list ?z_tuple ?z_bool ?z_str ?z_range ?z_abs ?z_min ?z_max ?z_isinstance ?z_all ?aW ?aD ?aL ?aE ?lE
    (case a1 => k_is)
    (case l1 => k_is)
    (case c1 => k_is)
    (case k1 => k_is)
    (case a2 => k_is)
    (case l2 => k_is)
    (case c2 => k_is)
    (case k2 => k_is)
    (case a3 => k_is)
    (case l3 => k_is)
    (case c3 => k_is)
    (case k3 => k_is)
    (case a4 => k_is)
    (case l4 => k_is)
    (case c4 => k_is)
    (case k4 => k_is)
    (case a5 => k_is)
    (case l5 => k_is)
    (case c5 => k_is)
    (case k5 => k_is)
    (case a6 => k_is)
    (case l6 => k_is)
    (case c6 => k_is)
    (case k6 => k_is)
    (case a7 => k_is)
    (case l7 => k_is)
    (case c7 => k_is)
    (case k7 => k_is)
    (case a8 => k_is)
    (case l8 => k_is)
    (case c8 => k_is)
    (case k8 => k_is)
    (case a9 => k_is)
    (case l9 => k_is)
    (case c9 => k_is)
    (case k9 => k_is)
    (case a10 => k_is)
    (case l10 => k_is)
    (case c10 => k_is)
    (case k10 => k_is)
    (case a11 => k_is)
    (case l11 => k_is)
    (case c11 => k_is)
    (case k11 => k_is)
    (case a12 => k_is)
    (case l12 => k_is)
    (case c12 => k_is)
    (case k12 => k_is)
    (case a13 => k_is)
    (case l13 => k_is)
    (case c13 => k_is)
    (case k13 => k_is)
    (case a14 => k_is)
    (case l14 => k_is)
    (case c14 => k_is)
    (case k14 => k_is)
    (case a15 => k_is)
    (case l15 => k_is)
    (case c15 => k_is)
    (case k15 => k_is)
    (case a16 => k_is)
    (case l16 => k_is)
    (case c16 => k_is)
    (case k16 => k_is)
    (case a17 => k_is)
    (case l17 => k_is)
    (case c17 => k_is)
    (case k17 => k_is)
    (case a18 => k_is)
    (case l18 => k_is)
    (case c18 => k_is)
    (case k18 => k_is)
    (case a19 => k_is)
    (case l19 => k_is)
    (case c19 => k_is)
    (case k19 => k_is)
    (case a20 => k_is)
    (case l20 => k_is)
    (case c20 => k_is)
    (case k20 => k_is)
    (case a21 => k_is)
    (case l21 => k_is)
    (case c21 => k_is)
    (case k21 => k_is)
    (case a22 => k_is)
    (case l22 => k_is)
    (case c22 => k_is)
    (case k22 => k_is)
    (case a23 => k_is)
    (case l23 => k_is)
    (case c23 => k_is)
    (case k23 => k_is)
    (case a24 => k_is)
    (case l24 => k_is)
    (case c24 => k_is)
    (case k24 => k_is)
    (case a25 => k_is)
    (case l25 => k_is)
    (case c25 => k_is)
    (case k25 => k_is)
    (case a26 => k_is)
    (case l26 => k_is)
    (case c26 => k_is)
    (case k26 => k_is)
    (case a27 => k_is)
    (case l27 => k_is)
    (case c27 => k_is)
    (case k27 => k_is)
    (case a28 => k_is)
    (case l28 => k_is)
    (case c28 => k_is)
    (case k28 => k_is)
    (case a29 => k_is)
    (case l29 => k_is)
    (case c29 => k_is)
    (case k29 => k_is)
    (case a30 => k_is)
    (case l30 => k_is)
    (case c30 => k_is)
    (case k30 => k_is)
    (case a31 => k_is)
    (case l31 => k_is)
    (case c31 => k_is)
    (case k31 => k_is)
    (case a32 => k_is)
    (case l32 => k_is)
    (case c32 => k_is)
    (case k32 => k_is)
    (case a33 => k_is)
    (case l33 => k_is)
    (case c33 => k_is)
    (case k33 => k_is)
    (case z_len => k_is)
    (case z_int => k_is)
    (case z_list => k_is)
    (case z_tuple => k_is)
    (case z_bool => k_is)
    (case z_str => k_is)
    (case z_range => k_is)
    (case z_abs => k_is)
    (case z_min => k_is)
    (case z_max => k_is)
    (case z_isinstance => k_is)
    (case z_all => k_is)
    (case aW => k_is)
    (case aD => k_is)
    (case aL => k_is)
    (case aE => k_is)
    (case lE => k_is)
