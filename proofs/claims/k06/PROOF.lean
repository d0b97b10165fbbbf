import PyProof.Rows.All
import Wide.All
import OpenK.AllK
import Wide.FinOn
import HandS.ForMost
import HandS.Wide
import HandS.TupAny
import HandS.TupMul
import HandS.Exc
import HandS.TryOnly
import HandS.WordsExc
import HandS.IsInst
import HandS.Conv
import HandS.Style
import HandS.EndBits
import HandS.Ends
import PyProof.ReprRoads
import HandS.RaiseMore
import HandS.Deep
import KE.GoesEnum
import KE.GoesMore
import HandS.SortInts
import HandS.WideBits
import HandS.WideMore
import HandS.NoneIn
import HandS.SetKeys
import HandS.Defaults
import HandS.OwnEq
import PyProof.InstNe
import HandS.ExcOwn
import PyProof.NeKinds
import HandS.ListEq
import HandS.Flow
import HandS.Lambda
import KE.KNest
import HandS.MakeKwOnly
import PyProof.LongRange
import HandS.Iter
import PySem.Challenge.RW_lumpplans_k06_plans_asked
set_option Elab.async false
set_option linter.all false
set_option maxRecDepth 100000
set_option maxHeartbeats 4000000
namespace DL
open PySem PySem.Spec PyProof.Rows L2
/-- data: what a value stands for, tuples and finished lists by their items -/
inductive D where
  | non
  | bl (b : Bool)
  | int (i : Int)
  | str (x : Str)
  | tup (ds : List D)
  | lst (ds : List D)
  | dic (ks : List Key) (ds : List D)
  | dit (ks : List (List Key)) (ds : List D)
  | ins (fs : List Str) (ds : List D)
section
variable (K : PySem.W.Frag) (im : Addr → Bool)
/-- a list that is not changed any more -/
def SqZ (H : Hp) (a : Addr) (xs : List V) : Prop := ∃ o, H a = some (.frz o (.lst xs))
/-- a tuple that the program made -/
def SqH (_ : PySem.W.Frag) (H : Hp) (a : Addr) (xs : List V) : Prop := H a = some (.tup xs)
mutual
inductive Rep (H : Hp) : V → D → Prop
  | non : Rep H .non .non
  | bl (b : Bool) : Rep H (.bl b) (.bl b)
  | int (i : Int) : Rep H (.int i) (.int i)
  | str (x : Str) : Rep H (.str x) (.str x)
  | tup {a : Addr} {vs : List V} {ds : List D} : SqH K H a vs → RepL H vs ds → Rep H (.ref a) (.tup ds)
  | lst {a : Addr} {vs : List V} {ds : List D} : SqZ H a vs → RepL H vs ds → Rep H (.ref a) (.lst ds)
  | dic {a : Addr} {o : Obj} {ks : List Key} {vs : List V} {ds : List D} : H a = some (.frz o (.dK (ks.zip vs))) → ks.length = vs.length → RepL H vs ds → Rep H (.ref a) (.dic ks ds)
  | dit {a : Addr} {o : Obj} {ks : List (List Key)} {vs : List V} {ds : List D} : H a = some (.frz o (.dT (ks.zip vs))) → ks.length = vs.length → RepL H vs ds → Rep H (.ref a) (.dit ks ds)
  | ins {a C dx : Addr} {fs : List Str} {vs : List V} {ds : List D} : im C = true → 2 ≤ fs.length → H a = some (.ins C dx (fs.zip vs)) → fs.length = vs.length → RepL H vs ds → Rep H (.ref a) (.ins fs ds)
inductive RepL (H : Hp) : List V → List D → Prop
  | nil : RepL H [] []
  | cons {v : V} {vs : List V} {d : D} {ds : List D} : Rep H v d → RepL H vs ds → RepL H (v :: vs) (d :: ds)
end
/-- what stays for ever -/
def stb : HO → Prop
  | .tup _ => True
  | .frz _ _ => True
  | .ext _ => True
  | .ins C _ kvs => im C = true ∧ 2 ≤ kvs.length
  | _ => False
def Sb (H H' : Hp) : Prop := ∀ b o, H b = some o → stb im o → H' b = some o
end
section
variable {K : PySem.W.Frag} {im : Addr → Bool} {H H' H1 H2 : Hp}
theorem Sb.refl : Sb im H H := fun _ _ e _ => e
theorem Sb.trans (a : Sb im H H1) (b : Sb im H1 H2) : Sb im H H2 := fun c o e s => b c o (a c o e s) s
theorem Sb.of (a : Same H H1) : Sb im H H1 := fun c o e _ => a c o e
theorem Sb.sqT {a : Addr} {xs : List V} (s : Sb im H H') (h : SqT K H a xs) : SqT K H' a xs := by
  rcases h with (h | ⟨o, h⟩) | h
  · exact .inl (.inl (s _ _ h trivial))
  · exact .inl (.inr ⟨o, s _ _ h trivial⟩)
  · exact .inr h
theorem Sb.sqZ {a : Addr} {xs : List V} (s : Sb im H H') (h : SqZ H a xs) : SqZ H' a xs := by
  obtain ⟨o, h⟩ := h
  exact ⟨o, s _ _ h trivial⟩
theorem SqH.q {a : Addr} {xs : List V} (h : SqH K H a xs) : SqT K H a xs := .inl (.inl h)
instance {a : Addr} {xs : List V} : Coe (SqH K H a xs) (SqT K H a xs) := ⟨SqH.q⟩
theorem Sb.sqH {a : Addr} {xs : List V} (s : Sb im H H') (h : SqH K H a xs) : SqH K H' a xs := s _ _ h trivial
theorem SqZ.l {a : Addr} {xs : List V} (h : SqZ H a xs) : SqL K H a xs := .inl (.inr h)
mutual
theorem Rep.mono (s : Sb im H H') : ∀ (d : D) (v : V), Rep K im H v d → Rep K im H' v d
  | .non, _, h => by cases h; exact .non
  | .bl _, _, h => by cases h; exact .bl _
  | .int _, _, h => by cases h; exact .int _
  | .str _, _, h => by cases h; exact .str _
  | .tup ds, _, h => by
    cases h with
    | tup h1 h2 => exact .tup (s.sqH h1) (RepL.mono s ds _ h2)
  | .lst ds, _, h => by
    cases h with
    | lst h1 h2 => exact .lst (s.sqZ h1) (RepL.mono s ds _ h2)
  | .dic ks ds, _, h => by
    cases h with
    | dic h1 h2 h3 => exact .dic (s _ _ h1 trivial) h2 (RepL.mono s ds _ h3)
  | .dit ks ds, _, h => by
    cases h with
    | dit h1 h2 h3 => exact .dit (s _ _ h1 trivial) h2 (RepL.mono s ds _ h3)
  | .ins fs ds, _, h => by
    cases h with
    | ins h0 h01 h1 h2 h3 => exact .ins h0 h01 (s _ _ h1 ⟨h0, by rw [List.length_zip, ← h2, Nat.min_self]; exact h01⟩) h2 (RepL.mono s ds _ h3)
theorem RepL.mono (s : Sb im H H') : ∀ (ds : List D) (vs : List V), RepL K im H vs ds → RepL K im H' vs ds
  | [], _, h => by cases h; exact .nil
  | d :: ds, _, h => by
    cases h with
    | cons h1 h2 => exact .cons (Rep.mono s d _ h1) (RepL.mono s ds _ h2)
end
theorem Rep.up {d : D} {v : V} (h : Rep K im H v d) (s : Sb im H H') : Rep K im H' v d := Rep.mono s d v h
theorem RepL.up {ds : List D} {vs : List V} (h : RepL K im H vs ds) (s : Sb im H H') : RepL K im H' vs ds := RepL.mono s ds vs h
theorem RepL.length : ∀ {ds : List D} {vs : List V}, RepL K im H vs ds → vs.length = ds.length
  | [], _, h => by cases h; rfl
  | _ :: ds, _, h => by
    cases h with
    | cons _ h2 => simp [RepL.length h2]
theorem RepL.get : ∀ {ds : List D} {vs : List V} {i : Nat} {d : D}, RepL K im H vs ds → ds[i]? = some d → ∃ v, vs[i]? = some v ∧ Rep K im H v d
  | [], _, _, _, h, e => by simp at e
  | _ :: ds, _, 0, d, h, e => by
    cases h with
    | cons h1 _ => simp at e; subst e; exact ⟨_, rfl, h1⟩
  | _ :: ds, _, i + 1, d, h, e => by
    cases h with
    | cons _ h2 =>
      obtain ⟨v, e1, r⟩ := RepL.get (i := i) h2 (by simpa using e)
      exact ⟨v, by simpa using e1, r⟩
theorem RepL.append : ∀ {ds es : List D} {vs ws : List V}, RepL K im H vs ds → RepL K im H ws es → RepL K im H (vs ++ ws) (ds ++ es)
  | [], _, _, _, h, k => by cases h; exact k
  | _ :: _, _, _, _, h, k => by
    cases h with
    | cons h1 h2 => exact .cons h1 (RepL.append h2 k)
theorem RepL.take : ∀ {ds : List D} {vs : List V} (n : Nat), RepL K im H vs ds → RepL K im H (vs.take n) (ds.take n)
  | _, _, 0, _ => by simp; exact .nil
  | [], _, n + 1, h => by cases h; simp; exact .nil
  | _ :: _, _, n + 1, h => by
    cases h with
    | cons h1 h2 => exact .cons h1 (RepL.take n h2)
theorem RepL.drop : ∀ {ds : List D} {vs : List V} (n : Nat), RepL K im H vs ds → RepL K im H (vs.drop n) (ds.drop n)
  | _, _, 0, h => h
  | [], _, n + 1, h => by cases h; simp; exact .nil
  | _ :: _, _, n + 1, h => by
    cases h with
    | cons h1 h2 => exact RepL.drop n h2
theorem RepL.reverse {ds : List D} {vs : List V} (h : RepL K im H vs ds) : RepL K im H vs.reverse ds.reverse := by
  induction ds generalizing vs with
  | nil => cases h; exact .nil
  | cons d ds ih =>
    cases h with
    | cons h1 h2 =>
      rw [List.reverse_cons, List.reverse_cons]
      exact RepL.append (ih h2) (.cons h1 .nil)
theorem RepL.rep {ds : List D} {vs : List V} (h : RepL K im H vs ds) : ∀ k : Nat, RepL K im H (List.replicate k vs).flatten (List.replicate k ds).flatten
  | 0 => .nil
  | k + 1 => by
    rw [List.replicate_succ, List.replicate_succ, List.flatten_cons, List.flatten_cons]
    exact RepL.append h (RepL.rep h k)
theorem RepL.one {v : V} {d : D} (h : Rep K im H v d) : RepL K im H [v] [d] := .cons h .nil
theorem RepL.dropLast {ds : List D} {vs : List V} (h : RepL K im H vs ds) : RepL K im H vs.dropLast ds.dropLast := by
  rw [List.dropLast_eq_take, List.dropLast_eq_take, h.length]
  exact h.take _
end
section
variable {X : Cx} {pins : List (Addr × Obj)} {σ : L2.St} {H : Hp} {s : Shared} {a : Addr} {xs : List V}
theorem Inv.freeze (I : Inv X pins σ H s) (h : H a = some (.lst xs)) : ∃ o, Inv X pins σ (upd H a (.frz o (.lst xs))) s := by
  obtain ⟨z, its, n, r, e⟩ := I.hok a _ h
  have ha : ∀ b, H b = none → b ≠ a := fun b hb q => by rw [q, h] at hb; cases hb
  have hne : ∀ b u, H b = some u → u ≠ .lst xs → b ≠ a := fun b u hb hu q => by rw [q, h] at hb; exact hu (Option.some.inj hb).symm
  refine ⟨{ cls := .type "list", data := .seq its.toArray n }, ⟨I.ok, I.os, I.bare, ⟨I.base.keep, I.base.slot, fun b ob q n hx => ?_, I.base.there, fun b ys q => ?_, fun b ob u q => ?_, fun b ps q => ?_⟩, I.loc, I.cell, ?_, fun x c q => ?_, fun p hp => ?_, fun b u q => ?_, I.len⟩⟩
  · have k := I.base.free b ob q n hx
    rw [upd_ne (ha b k)]; exact k
  · have k := I.base.tups b ys q
    rw [upd_ne (hne b _ k (by intro z; cases z))]; exact k
  · have k := I.base.frzs b ob u q
    rw [upd_ne (hne b _ k (by intro z; cases z))]; exact k
  · obtain ⟨m, k⟩ := I.base.tbls b ps q
    exact ⟨m, by rw [upd_ne (hne b _ k (by intro z; cases z))]; exact k⟩
  · rw [upd_ne (ha _ I.free)]; exact I.free
  · have k := I.freeC x c q
    rw [upd_ne (ha _ k)]; exact k
  · obtain ⟨p1, p2, p3⟩ := I.pin p hp
    exact ⟨p1, by rw [upd_ne (ha _ p2)]; exact p2, p3⟩
  · have own : ∀ c y, H c = some (.own y) → upd H a (.frz { cls := .type "list", data := .seq its.toArray n } (.lst xs)) c = some (.own y) := fun c y k => by
      rw [upd_ne (hne c _ k (by intro z; cases z))]; exact k
    have tup : ∀ c ys, H c = some (.tup ys) → upd H a (.frz { cls := .type "list", data := .seq its.toArray n } (.lst xs)) c = some (.tup ys) := fun c ys k => by
      rw [upd_ne (hne c _ k (by intro z; cases z))]; exact k
    by_cases hb : b = a
    · subst hb
      rw [upd_same] at q
      cases q
      exact ⟨e, z, its, n, r, e⟩
    · rw [upd_ne hb] at q
      exact (I.hok b u q).stay (fun _ _ _ k => k) (fun c k => own c b k) tup
/-- what e gives, a new list, finished -/
def tFrz (te : TE) : TE := fun σ H Q => te σ H fun v H1 => ∃ a xs, v = .ref a ∧ H1 a = some (.lst xs) ∧ ∀ o, Q (.ref a) (upd H1 a (.frz o (.lst xs)))
theorem EP.freeze {Q : VK} {u : Value} {s' : Shared} (h : EP X pins σ (fun v H1 => ∃ a xs, v = .ref a ∧ H1 a = some (.lst xs) ∧ ∀ o, Q (.ref a) (upd H1 a (.frz o (.lst xs)))) u s') : EP X pins σ Q u s' := by
  obtain ⟨v, H1, I, r, a, xs, rfl, ha, q⟩ := h
  obtain ⟨o, J⟩ := Inv.freeze I ha
  exact ⟨_, _, J, r, q o⟩
theorem pe_frz {e : Expr} {te : TE} (h : PE X e te) : PE X e (tFrz te) :=
  ⟨fun pins s σ H Q I q => thn (h.run pins s σ H _ I q) fun _ _ h => EP.freeze h⟩
end
end DL
namespace DL
open PySem PySem.Spec PyProof.Rows L2
theorem tuple_mul1 (l : Addr) (items : Array Value) (n : Nat) (dd : Option Addr) (sl : Array (Option Value)) (u : Tok) :
    Meets (Builtin.«tuple.__mul__» ⟨[.ref l, .int 1 u], []⟩) (fun _ R s => s.heap.get? l = some { cls := .type "tuple", dict := dd, data := .seq items n, slots := sl } ∧ R (.ok (.ret (.ref l))) s) :=
  .of_wp fun prog w A R s h => by
    obtain ⟨hp, g, d, tk, os⟩ := s
    obtain ⟨hl, h⟩ := h
    have f1 := AutoSeq1.idx_int
    wp_walk using wpAny_loadPart' hl
    have c1 : (items.isEmpty || (1 : Int) == 1) = true := by rw [Bool.or_eq_true]; exact .inr (by decide)
    repeat (first
      | (refine wpAny_ite_false (by decide) ?_; wp_walk using wpAny_loadPart' hl)
      | (refine wpAny_ite_true c1 ?_; wp_walk using wpAny_loadPart' hl)
      | (refine wpAny_ite_true (decide_eq_true c1) ?_; wp_walk using wpAny_loadPart' hl))
    exact ⟨_, rfl, h⟩
theorem tuple_mul0 (l : Addr) (items : Array Value) (n : Nat) (dd : Option Addr) (sl : Array (Option Value)) (x : Int) (u : Tok) (hx : x ≤ 0) (h0 : -(2 ^ 63) ≤ x) (hi : items.isEmpty = false) :
    Meets (Builtin.«tuple.__mul__» ⟨[.ref l, .int x u], []⟩) (fun _ R s => s.heap.get? l = some { cls := .type "tuple", dict := dd, data := .seq items n, slots := sl } ∧ R (.ok (.ret (.ref s.heap.objs.size))) { s with heap := s.heap.push { cls := Value.type "tuple", data := Data.seq #[] }, toks := s.toks }) :=
  .of_wp fun prog w A R s h => by
    obtain ⟨hp, g, d, tk, os⟩ := s
    obtain ⟨hl, h⟩ := h
    have f1 := AutoSeq1.idx_int
    have c0 : (decide (x < -(2 ^ 63)) || decide (x ≥ 2 ^ 63)) = false := by
      rw [decide_eq_false (by omega), decide_eq_false (by omega)] <;> rfl
    have c1 : (items.isEmpty || x == 1) = false := by
      rw [hi, Bool.false_or]
      exact beq_eq_false_iff_ne.mpr (by omega)
    have c2 : (decide (x ≤ 0) || items.isEmpty) = true := by
      rw [decide_eq_true hx]; rfl
    wp_walk using wpAny_loadPart' hl
    repeat (first
      | (refine wpAny_ite_false (decide_eq_false (by rw [c0]; exact Bool.false_ne_true)) ?_; wp_walk using wpAny_loadPart' hl)
      | (refine wpAny_ite_false (decide_eq_false (by rw [c1]; exact Bool.false_ne_true)) ?_; wp_walk using wpAny_loadPart' hl)
      | (refine wpAny_ite_true (decide_eq_true c2) ?_; wp_walk using wpAny_loadPart' hl))
    exact ⟨_, rfl, h⟩
def rRepT01 (K : PySem.W.Frag) : R2 := fun x y H Q => ∃ l k xs, x = .ref l ∧ y = .int k ∧ SqT K H l xs ∧ xs ≠ [] ∧ ((k = 1 ∧ Q (.ref l) H) ∨ (-(2 ^ 63) ≤ k ∧ k ≤ 0 ∧ ∀ p, H p = none → Q (.ref p) (upd H p (.tup []))))
section
variable {X : Cx}
theorem op_repT01 : OpR X (binaryOp .Mult) (rRepT01 X.K) := by
  intro pins s σ H x y v u Q I rx ry h
  obtain ⟨l, k, xs, rfl, rfl, hT, hne, q⟩ := h
  cases rx
  obtain ⟨t, rfl⟩ := ry
  obtain ⟨its, r, ⟨⟨cls, dd, data, sl⟩, ho, hc, n, hd⟩, hs⟩ := I.tuple hT
  simp only at hc hd
  subst hc hd
  have hle : its.length = xs.length := r.length.symm
  have hn : its ≠ [] := fun e => hne (by
    rw [e] at hle
    exact List.eq_nil_of_length_eq_zero hle.symm)
  have hi : its.toArray.isEmpty = false := by
    cases its with
    | nil => exact absurd rfl hn
    | cons a b => rfl
  rcases q with ⟨rfl, q⟩ | ⟨h0, h1, q⟩
  · refine wpAny_binaryOp_repeat_ref (T := "tuple") (U := "int") (by decide) ⟨_, ho, rfl⟩ (fun s' => typeIs_int s' 1 t) noFill_tuple_mul F.fills_int_mul F.slot_int_rmul repeat_tuple F.slot_int_index.lookup
      (call_meets F.slot_int_rmul (typeIs_int s 1 t) F.entry_int_rmul (F.args_int_rmul_2 _ _) (int_rmul_tuple 1 t l its.toArray n dd sl)
        ⟨ho, rfl, ⟨_, ho, rfl⟩, call_meets F.slot_tuple_mul ⟨_, ho, rfl⟩ F.entry_tuple_mul (F.args_tuple_mul_2 _ _) (tuple_mul1 l its.toArray n dd sl t) ⟨ho, ?_⟩⟩)
    exact ⟨.ref l, H, I, rfl, q⟩
  · refine wpAny_binaryOp_repeat_ref (T := "tuple") (U := "int") (by decide) ⟨_, ho, rfl⟩ (fun s' => typeIs_int s' k t) noFill_tuple_mul F.fills_int_mul F.slot_int_rmul repeat_tuple F.slot_int_index.lookup
      (call_meets F.slot_int_rmul (typeIs_int s k t) F.entry_int_rmul (F.args_int_rmul_2 _ _) (int_rmul_tuple k t l its.toArray n dd sl)
        ⟨ho, rfl, ⟨_, ho, rfl⟩, call_meets F.slot_tuple_mul ⟨_, ho, rfl⟩ F.entry_tuple_mul (F.args_tuple_mul_2 _ _) (tuple_mul0 l its.toArray n dd sl k t h1 h0 hi) ⟨ho, ?_⟩⟩)
    refine ⟨.ref s.heap.objs.size, _, I.laid (t' := s.toks) (o := .tup []) (fun b ob q => Heap.get?_push_of_some _ q) (Nat.le_refl _) ?_, rfl, q _ (I.hok.fresh (Nat.le_refl _))⟩
    exact ⟨by show 0 ≤ sizeLine; exact Nat.zero_le _, [], .nil, IsTup.new _ _⟩
end
mutual
def D.py : D → Option PyData
  | .non => some .none
  | .bl b => some (.bool b)
  | .int i => some (.int i)
  | .str x => some (.str x)
  | .tup ds => (D.pyL ds).map .tuple
  | .lst ds => (D.pyL ds).map .list
  | .dic _ _ => none
  | .dit _ _ => none
  | .ins _ _ => none
def D.pyL : List D → Option (List PyData)
  | [] => some []
  | d :: r => match D.py d, D.pyL r with
    | some x, some y => some (x :: y)
    | _, _ => none
end
section
variable {K : PySem.W.Frag} {im : Addr → Bool} {H : Hp}
mutual
theorem Rep.dp : ∀ (d : D) (v : V) (p : PyData), Rep K im H v d → d.py = some p → Dp K H v p
  | .non, _, _, h, e => by cases h; simp [D.py] at e; subst e; exact .non
  | .bl b, _, _, h, e => by cases h; simp [D.py] at e; subst e; exact .bl b
  | .int b, _, _, h, e => by cases h; simp [D.py] at e; subst e; exact .int b
  | .str b, _, _, h, e => by cases h; simp [D.py] at e; subst e; exact .str b
  | .tup ds, _, _, h, e => by
    cases h with
    | tup h1 h2 =>
      cases q : D.pyL ds with
      | none => simp [D.py, q] at e
      | some ps =>
        simp [D.py, q] at e
        subst e
        exact .tup h1 (RepL.dp ds _ ps h2 q)
  | .lst ds, _, _, h, e => by
    cases h with
    | lst h1 h2 =>
      cases q : D.pyL ds with
      | none => simp [D.py, q] at e
      | some ps =>
        simp [D.py, q] at e
        subst e
        exact .lst h1.l (RepL.dp ds _ ps h2 q)
  | .dic _ _, _, _, _, e => by simp [D.py] at e
  | .dit _ _, _, _, _, e => by simp [D.py] at e
  | .ins _ _, _, _, _, e => by simp [D.py] at e
theorem RepL.dp : ∀ (ds : List D) (vs : List V) (ps : List PyData), RepL K im H vs ds → D.pyL ds = some ps → DpAll K H vs ps
  | [], _, _, h, e => by cases h; simp [D.pyL] at e; subst e; exact .nil
  | d :: ds, _, _, h, e => by
    cases h with
    | cons h1 h2 =>
      cases q1 : D.py d with
      | none => simp [D.pyL, q1] at e
      | some p =>
        cases q2 : D.pyL ds with
        | none => simp [D.pyL, q1, q2] at e
        | some ps =>
          simp [D.pyL, q1, q2] at e
          subst e
          exact .cons (Rep.dp d _ p h1 q1) (RepL.dp ds _ ps h2 q2)
end
end
def eqB (d e : D) : Option Bool := match d.py, e.py with
  | some p, some q => if p.canLay0 = true ∧ q.canLay0 = true ∧ min p.depth q.depth ≤ 150 then some (PyData.eqv p q) else none
  | _, _ => none
def eqD (d e : D) : Option D := (eqB d e).map .bl
def neD (d e : D) : Option D := (eqB d e).map fun b => .bl (!b)
def addD : D → D → Option D
  | .int i, .int j => some (.int (i + j))
  | .str x, .str y => if x.length + y.length ≤ sizeLine then some (.str (x ++ y)) else none
  | .tup xs, .tup ys => if xs.length + ys.length ≤ sizeLine then some (.tup (xs ++ ys)) else none
  | .lst xs, .lst ys => if xs.length + ys.length ≤ sizeLine then some (.lst (xs ++ ys)) else none
  | _, _ => none
def subD : D → D → Option D
  | .int i, .int j => some (.int (i - j))
  | _, _ => none
instance {i j : Int} : Decidable (CMul i j) := by unfold CMul; infer_instance
instance {i j : Int} : Decidable (CMulW i j) := by unfold CMulW; infer_instance
def mulD : D → D → Option D
  | .int i, .int j => if CMul i j ∨ CMulW i j then some (.int (i * j)) else none
  | .lst xs, .int k => if -(2 ^ 63) ≤ k ∧ k < 2 ^ 63 ∧ xs.length * k.toNat ≤ sizeLine then some (.lst (List.replicate k.toNat xs).flatten) else none
  | .tup xs, .int k => if xs ≠ [] ∧ 2 ≤ k ∧ k ≤ 1000 ∧ xs.length ≤ 1000 then some (.tup (List.replicate k.toNat xs).flatten) else if xs ≠ [] ∧ k = 1 then some (.tup xs) else if xs ≠ [] ∧ -(2 ^ 63) ≤ k ∧ k ≤ 0 then some (.tup []) else none
  | _, _ => none
instance {i j : Int} : Decidable (CDivW i j) := by unfold CDivW; infer_instance
def fdivD : D → D → Option D
  | .int i, .int j => if CDivW i j then some (.int (i / j)) else none
  | _, _ => none
def modD : D → D → Option D
  | .int i, .int j => if 0 < j then some (.int (i % j)) else none
  | _, _ => none
def cmpD (f : Int → Int → Bool) : D → D → Option D
  | .int i, .int j => some (.bl (f i j))
  | _, _ => none
def ltD : D → D → Option D := cmpD fun i j => decide (i < j)
def gtD : D → D → Option D := cmpD fun i j => decide (j < i)
def notND : D → D → Option D
  | .non, .non => some (.bl false)
  | _, .non => some (.bl true)
  | .bl a, .bl b => some (.bl (!decide (a = b)))
  | _, _ => none
def ixD : D → D → Option D
  | .tup xs, .int i => atI xs i
  | .lst xs, .int i => atI xs i
  | .str z, .int i => if z.length ≤ sizeLine then (atI z.cps.toList i).map fun c => .str ⟨#[c]⟩ else none
  | _, _ => none
def negD : D → Option D
  | .int i => some (.int (-i))
  | _ => none
def cutL {α : Type} (xs : List α) (lo hi : Option Int) : List α := (xs.drop (HT.sIx xs.length 0 lo)).take (HT.sIx xs.length xs.length hi - HT.sIx xs.length 0 lo)
def sliceD : D → Option Int → Option Int → Option D
  | .tup xs, lo, hi => some (.tup (cutL xs lo hi))
  | .lst xs, lo, hi => some (.lst (cutL xs lo hi))
  | _, _, _ => none
def lenD : D → Option D
  | .tup xs => some (.int xs.length)
  | .lst xs => some (.int xs.length)
  | .str z => if z.length ≤ sizeLine then some (.int z.length) else none
  | _ => none
def tupleD : D → Option D
  | .tup xs => some (.tup xs)
  | .lst xs => some (.tup xs)
  | _ => none
def listD : D → Option D
  | .tup xs => some (.lst xs)
  | .lst xs => some (.lst xs)
  | _ => none
def intD : D → Option D
  | .int i => some (.int i)
  | .bl k => some (.int (if k then 1 else 0))
  | _ => none
def max2D : D → D → Option D
  | .int i, .int j => some (.int (if j > i then j else i))
  | _, _ => none
section
variable (K : PySem.W.Frag) (im : Addr → Bool)
/-- what a rule asks of data -/
def rD1 (f : D → Option D) : V → Hp → VK → Prop := fun x H Q => ∃ d z, Rep K im H x d ∧ f d = some z ∧ ∀ v H', Same H H' → Rep K im H' v z → Q v H'
def rD2 (f : D → D → Option D) : R2 := fun x y H Q => ∃ d e z, Rep K im H x d ∧ Rep K im H y e ∧ f d e = some z ∧ ∀ v H', Same H H' → Rep K im H' v z → Q v H'
def rDN (f : List D → Option D) : List V → Hp → VK → Prop := fun xs H Q => ∃ ds z, RepL K im H xs ds ∧ f ds = some z ∧ ∀ v H', Same H H' → Rep K im H' v z → Q v H'
end
section
variable {X : Cx} {im : Addr → Bool} {pins : List (Addr × Obj)} {σ : L2.St} {H : Hp} {s : Shared}
theorem Same.new {H : Hp} {p : Addr} {o : HO} (h : H p = none) : Same H (upd H p o) := fun a u e => by
  rw [upd_ne (ne_of_none e h)]
  exact e
theorem EP.newL {p : Addr} {zs : List V} {ds : List D} {Q : VK} {s' : Shared} (hp : H p = none) (I : Inv X pins σ (upd H p (.lst zs)) s') (r : RepL X.K im H zs ds)
    (q : ∀ v H', Same H H' → Rep X.K im H' v (.lst ds) → Q v H') : EP X pins σ Q (.ref p) s' := by
  obtain ⟨o, J⟩ := Inv.freeze I upd_same
  rw [upd_upd] at J
  have sm : Same H (upd H p (.frz o (.lst zs))) := Same.new hp
  exact ⟨.ref p, _, J, rfl, q _ _ sm (.lst ⟨o, upd_same⟩ (r.up (.of sm)))⟩
theorem newT_ {p : Addr} {zs : List V} {ds : List D} {Q : VK} (hp : H p = none) (r : RepL X.K im H zs ds)
    (q : ∀ v H', Same H H' → Rep X.K im H' v (.tup ds) → Q v H') : Q (.ref p) (upd H p (.tup zs)) := by
  have sm : Same H (upd H p (.tup zs)) := Same.new hp
  exact q _ _ sm (.tup upd_same (r.up (.of sm)))
theorem Inv.zlst {l : Addr} {xs : List V} (I : Inv X pins σ H s) (h : SqZ H l xs) : xs.length ≤ sizeLine ∧ ∃ (its : List Value) (n : Nat), Vals xs its ∧ xs.length = its.length ∧ s.heap.get? l = some { cls := .type "list", data := .seq its.toArray n } := by
  obtain ⟨o, h⟩ := h
  obtain ⟨_, z, its, n, r, e⟩ := I.hok l _ h
  exact ⟨z, its, n, r, r.length, e⟩
theorem atI_len {α β : Type} {xs : List α} {ys : List β} {i : Int} {d : α} (hl : ys.length = xs.length) (h : atI xs i = some d) : ∃ j : Nat, atI ys i = ys[j]? ∧ xs[j]? = some d := by
  unfold atI at h ⊢
  rw [hl]
  cases e : ixN xs.length i with
  | none => rw [e] at h; cases h
  | some j => rw [e] at h; exact ⟨j, rfl, h⟩
theorem RepL.at {ds : List D} {vs : List V} {i : Int} {d : D} {K : PySem.W.Frag} (h : RepL K im H vs ds) (e : atI ds i = some d) : ∃ v, atI vs i = some v ∧ Rep K im H v d := by
  obtain ⟨j, e1, e2⟩ := atI_len h.length e
  obtain ⟨v, e3, r⟩ := h.get e2
  exact ⟨v, by rw [e1, e3], r⟩
theorem RepL.cut {ds : List D} {vs : List V} {K : PySem.W.Frag} (h : RepL K im H vs ds) (lo hi : Option Int) : RepL K im H (cutL vs lo hi) (cutL ds lo hi) := by
  unfold cutL
  rw [h.length]
  exact (h.drop _).take _
theorem op_addD : OpR X (binaryOp .Add) (rD2 X.K im addD) := by
  intro pins s σ H x y v u Q I rx ry h
  obtain ⟨d, e, z, hd, he, hz, q⟩ := h
  cases hd with
  | int i =>
    cases he with
    | int j =>
      simp [addD] at hz; subst hz
      exact op_add pins s σ H _ _ v u Q I rx ry ⟨i, j, rfl, rfl, q _ _ (Same.refl _) (.int _)⟩
    | _ => simp [addD] at hz
  | str i =>
    cases he with
    | str j =>
      simp [addD] at hz
      obtain ⟨hl, rfl⟩ := hz
      exact op_add_str pins s σ H _ _ v u Q I rx ry ⟨i, j, rfl, rfl, hl, q _ _ (Same.refl _) (.str _)⟩
    | _ => simp [addD] at hz
  | @tup a vs ds h1 h2 =>
    cases he with
    | @tup b ws es h3 h4 =>
      simp [addD] at hz
      obtain ⟨hl, rfl⟩ := hz
      have l1 := h2.length
      have l2 := h4.length
      refine op_catA pins s σ H _ _ v u Q I rx ry ⟨a, b, vs, ws, rfl, rfl, h1, h3, by omega, fun e => ?_, fun e e' => ?_, fun _ _ p hp => newT_ hp (h2.append h4) q⟩
      · subst e
        cases h2
        exact q _ _ (Same.refl _) (.tup h3 h4)
      · subst e'
        cases h4
        rw [List.append_nil] at q
        exact q _ _ (Same.refl _) (.tup h1 h2)
    | _ => simp [addD] at hz
  | @lst a vs ds h1 h2 =>
    cases he with
    | @lst b ws es h3 h4 =>
      simp [addD] at hz
      obtain ⟨hl, rfl⟩ := hz
      have l1 := h2.length
      have l2 := h4.length
      cases rx
      cases ry
      obtain ⟨z, its, n, r, hl1, e⟩ := Inv.zlst I h1
      obtain ⟨z2, its2, n2, r2, hl2, e2⟩ := Inv.zlst I h3
      have room : its.toArray.size + its2.toArray.size ≤ sizeLine := by simp only [List.size_toArray]; omega
      have joined : its.toArray ++ its2.toArray = List.toArray (its ++ its2) := List.append_toArray its its2
      refine PySem.P.add_list e e2 (?_ : _) room
      rw [joined]
      exact EP.newL (Inv.fresh I) (Inv.lnew (t' := s.toks) I (r.append r2) (by rw [List.length_append]; omega)) (h2.append h4) q
    | _ => simp [addD] at hz
  | _ => simp [addD] at hz
theorem op_subD : OpR X (binaryOp .Sub) (rD2 X.K im subD) := by
  intro pins s σ H x y v u Q I rx ry h
  obtain ⟨d, e, z, hd, he, hz, q⟩ := h
  cases hd <;> cases he <;> simp [subD] at hz
  subst hz
  exact op_sub pins s σ H _ _ v u Q I rx ry ⟨_, _, rfl, rfl, q _ _ (Same.refl _) (.int _)⟩
theorem join_rep (its : List Value) (m : Nat) : List.foldl (fun x1 x2 => x1 ++ x2) #[] (List.replicate (if its.toArray.isEmpty = true then 0 else m) its.toArray) = (List.replicate m its).flatten.toArray := by
  rcases its with _ | ⟨b, r⟩
  · simp
  · simpa using foldl_rep (b :: r) m []
theorem op_mulD : OpR X (binaryOp .Mult) (rD2 X.K im mulD) := by
  intro pins s σ H x y v u Q I rx ry h
  obtain ⟨d, e, z, hd, he, hz, q⟩ := h
  cases hd with
  | int i =>
    cases he with
    | int j =>
      simp only [mulD] at hz
      split at hz
      · rename_i hc
        cases hz
        rcases hc with hc | hc
        · exact op_mul pins s σ H _ _ v u Q I rx ry ⟨i, j, rfl, rfl, hc, q _ _ (Same.refl _) (.int _)⟩
        · exact op_mulW pins s σ H _ _ v u Q I rx ry ⟨i, j, rfl, rfl, hc, q _ _ (Same.refl _) (.int _)⟩
      · cases hz
    | _ => simp [mulD] at hz
  | @tup a vs ds h1 h2 =>
    cases he with
    | int k =>
      simp only [mulD] at hz
      have l1 := h2.length
      have nev : ds ≠ [] → vs ≠ [] := fun c e => c (by subst e; cases h2; rfl)
      split at hz
      · rename_i hc
        cases hz
        obtain ⟨c1, c2, c3, c4⟩ := hc
        exact op_repT pins s σ H _ _ v u Q I rx ry ⟨a, k, vs, rfl, rfl, h1, nev c1, c2, c3, by omega, fun p hp => newT_ hp (h2.rep _) q⟩
      · split at hz
        · rename_i hc
          cases hz
          exact op_repT01 pins s σ H _ _ v u Q I rx ry ⟨a, k, vs, rfl, rfl, h1, nev hc.1, .inl ⟨hc.2, q _ _ (Same.refl _) (.tup h1 h2)⟩⟩
        · split at hz
          · rename_i hc
            cases hz
            exact op_repT01 pins s σ H _ _ v u Q I rx ry ⟨a, k, vs, rfl, rfl, h1, nev hc.1, .inr ⟨hc.2.1, hc.2.2, fun p hp => newT_ hp .nil q⟩⟩
          · cases hz
    | _ => simp [mulD] at hz
  | @lst a vs ds h1 h2 =>
    cases he with
    | int k =>
      simp only [mulD] at hz
      split at hz
      · rename_i hc
        cases hz
        obtain ⟨c1, c2, c3⟩ := hc
        have l1 := h2.length
        cases rx
        obtain ⟨t, rfl⟩ := ry
        obtain ⟨z, its, n, r, hl, e⟩ := Inv.zlst I h1
        have small : its.toArray.size * k.toNat ≤ sizeLine := by
          simp only [List.size_toArray]
          rw [← hl, l1]
          exact c3
        have below : ¬ (2 ^ 63 - 1) / 8 < its.toArray.size * k.toNat := by
          rw [sizeLine_eq] at small
          omega
        have fits := fitsIndex_both c1 c2
        have short := notLongL small
        refine wpAny_binaryOp_repeat_ref (T := "list") (U := "int") (by decide)
          ⟨_, e, rfl⟩ (fun _ => typeIs_int _ k t) noFill_list_mul F.fills_int_mul
          F.slot_int_rmul repeat_list F.slot_int_index.lookup ?_
        refine call_meets F.slot_int_rmul (typeIs_int s k t) F.entry_int_rmul (F.args_int_rmul_2 _ _)
          (int___rmul___int_list k t a its.toArray n) ⟨e, rfl, ⟨_, e, rfl⟩, ?_⟩
        refine call_meets F.slot_list_mul ⟨_, e, rfl⟩ F.entry_list_mul (F.args_list_mul_2 _ _)
          (AutoListH.list___mul___list_int_3 a its.toArray n k t (by rw [fits]; nofun) below (by rw [short]; nofun)) ⟨e, ?_⟩
        rw [join_rep]
        exact EP.newL (Inv.fresh I) (Inv.lnew (t' := s.toks) I (r.rep k.toNat) (by rw [PyProof.Rows.lm_len_rep_flat, Nat.mul_comm, l1]; exact c3)) (h2.rep _) q
      · cases hz
    | _ => simp [mulD] at hz
  | _ => simp [mulD] at hz
theorem op_fdivD : OpR X (binaryOp .FloorDiv) (rD2 X.K im fdivD) := by
  intro pins s σ H x y v u Q I rx ry h
  obtain ⟨d, e, z, hd, he, hz, q⟩ := h
  cases hd <;> cases he <;> simp [fdivD] at hz
  obtain ⟨hc, rfl⟩ := hz
  exact op_fdivW pins s σ H _ _ v u Q I rx ry ⟨_, _, rfl, rfl, hc, q _ _ (Same.refl _) (.int _)⟩
theorem op_modD : OpR X (binaryOp .Mod) (rD2 X.K im modD) := by
  intro pins s σ H x y v u Q I rx ry h
  obtain ⟨d, e, z, hd, he, hz, q⟩ := h
  cases hd <;> cases he <;> simp [modD] at hz
  obtain ⟨hc, rfl⟩ := hz
  exact op_mod pins s σ H _ _ v u Q I rx ry ⟨_, _, rfl, rfl, hc, q _ _ (Same.refl _) (.int _)⟩
theorem op_cmpD {op : CmpOp} {f : Int → Int → Bool} (ho : OpR X (compareOp op) (rI0 fun i j => .bl (f i j))) : OpR X (compareOp op) (rD2 X.K im (cmpD f)) := by
  intro pins s σ H x y v u Q I rx ry h
  obtain ⟨d, e, z, hd, he, hz, q⟩ := h
  cases hd <;> cases he <;> simp [cmpD] at hz
  subst hz
  exact ho pins s σ H _ _ v u Q I rx ry ⟨_, _, rfl, rfl, q _ _ (Same.refl _) (.bl _)⟩
theorem op_ltD : OpR X (compareOp .Lt) (rD2 X.K im ltD) := op_cmpD op_lt
theorem op_gtD : OpR X (compareOp .Gt) (rD2 X.K im gtD) := op_cmpD op_gt
theorem op_notND : OpR X (compareOp .IsNot) (rD2 X.K im notND) := by
  intro pins s σ H x y v u Q I rx ry h
  obtain ⟨d, e, z, hd, he, hz, q⟩ := h
  cases he with
  | non =>
    refine op_notN pins s σ H _ _ v u Q I rx ry ⟨rfl, ?_⟩
    cases hd <;> simp [notND] at hz <;> subst hz <;> exact q _ _ (Same.refl _) (.bl _)
  | bl b =>
    cases hd <;> simp only [notND] at hz <;> cases hz
    exact op_notBl pins s σ H _ _ v u Q I rx ry ⟨_, _, rfl, rfl, q _ _ (Same.refl _) (.bl _)⟩
  | _ => cases hd <;> simp [notND] at hz
theorem eqB_some {d e : D} {b : Bool} (h : eqB d e = some b) : ∃ p q, d.py = some p ∧ e.py = some q ∧ p.canLay0 = true ∧ q.canLay0 = true ∧ min p.depth q.depth ≤ 150 ∧ b = PyData.eqv p q := by
  unfold eqB at h
  cases h1 : d.py with
  | none => rw [h1] at h; simp at h
  | some p =>
    cases h2 : e.py with
    | none => rw [h1, h2] at h; simp at h
    | some q =>
      rw [h1, h2] at h
      simp only [Option.ite_none_right_eq_some] at h
      obtain ⟨⟨a, b, c⟩, e⟩ := h
      exact ⟨p, q, rfl, rfl, a, b, c, (Option.some.inj e).symm⟩
theorem op_eqDD (hu : X.A.units + 200 < cLine) : OpR X (compareOp .Eq) (rD2 X.K im eqD) := by
  intro pins s σ H x y v u Q I rx ry h
  obtain ⟨d, e, z, hd, he, hz, q⟩ := h
  unfold eqD at hz
  obtain ⟨b, hb, rfl⟩ := Option.map_eq_some_iff.mp hz
  obtain ⟨p1, p2, e1, e2, c1, c2, c3, rfl⟩ := eqB_some hb
  obtain ⟨as, r1⟩ := Dp.reads I p1 x v (Rep.dp _ _ _ hd e1) rx
  obtain ⟨bs, r2⟩ := Dp.reads I p2 y u (Rep.dp _ _ _ he e2) ry
  exact SeqAt.compareEq_reads r1 r2 c1 c2 (by omega) ⟨.bl _, H, I, rfl, q _ _ (Same.refl _) (.bl _)⟩
theorem op_neDD (hu : X.A.units + 200 < cLine) : OpR X (compareOp .NotEq) (rD2 X.K im neD) := by
  intro pins s σ H x y v u Q I rx ry h
  obtain ⟨d, e, z, hd, he, hz, q⟩ := h
  unfold neD at hz
  obtain ⟨b, hb, rfl⟩ := Option.map_eq_some_iff.mp hz
  obtain ⟨p1, p2, e1, e2, c1, c2, c3, rfl⟩ := eqB_some hb
  obtain ⟨as, r1⟩ := Dp.reads I p1 x v (Rep.dp _ _ _ hd e1) rx
  obtain ⟨bs, r2⟩ := Dp.reads I p2 y u (Rep.dp _ _ _ he e2) ry
  exact SeqAt.compareNe_reads r1 r2 c1 c2 (by omega) ⟨.bl _, H, I, rfl, q _ _ (Same.refl _) (.bl _)⟩
theorem un_negD : UnR X (unaryOp .USub) (rD1 X.K im negD) := by
  intro pins s σ H x v Q I rx h
  obtain ⟨d, z, hd, hz, q⟩ := h
  cases hd <;> simp [negD] at hz
  subst hz
  exact un_neg pins s σ H _ v Q I rx ⟨_, rfl, q _ _ (Same.refl _) (.int _)⟩
theorem ix_D : IxR X (rD2 X.K im ixD) := by
  intro a b pins s σ H x y v u Q I rx ry h
  obtain ⟨d, e, z, hd, he, hz, q⟩ := h
  cases he with
  | int i =>
    cases hd with
    | @tup a' vs ds h1 h2 =>
      obtain ⟨w, e1, r⟩ := h2.at hz
      exact ix_tup a b pins s σ H _ _ v u Q I rx ry ⟨a', vs, i, w, rfl, rfl, h1, e1, q _ _ (Same.refl _) r⟩
    | @lst a' vs ds h1 h2 =>
      obtain ⟨w, e1, r⟩ := h2.at hz
      exact ix_list a b pins s σ H _ _ v u Q I rx ry ⟨a', vs, i, w, rfl, rfl, h1.l, e1, q _ _ (Same.refl _) r⟩
    | str w =>
      simp only [ixD, Option.ite_none_right_eq_some] at hz
      obtain ⟨hl, hz⟩ := hz
      obtain ⟨c, e1, rfl⟩ := Option.map_eq_some_iff.mp hz
      exact ix_str a b pins s σ H _ _ v u Q I rx ry ⟨w, i, c, rfl, rfl, hl, e1, q _ _ (Same.refl _) (.str _)⟩
    | _ => simp [ixD] at hz
  | _ => cases hd <;> simp [ixD] at hz
/-- a slice -/
def rSlD (K : PySem.W.Frag) (im : Addr → Bool) : V → Option Int → Option Int → Hp → VK → Prop := fun x lo hi H Q => ∃ d z, Rep K im H x d ∧ sliceD d lo hi = some z ∧ ∀ v H', Same H H' → Rep K im H' v z → Q v H'
theorem sl_D : SlR X (rSlD X.K im) := by
  intro pins s σ H x v vl vu lo hi sl Q I rx hs pl pu h
  obtain ⟨d, z, hd, hz, q⟩ := h
  cases hd with
  | @tup a vs ds h1 h2 =>
    simp [sliceD] at hz
    subst hz
    refine sl_tupA pins s σ H _ v vl vu lo hi sl Q I rx hs pl pu ⟨a, vs, rfl, h1, fun e => ?_, fun _ p hp => newT_ hp (h2.cut lo hi) q⟩
    refine q _ _ (Same.refl _) (.tup h1 ?_)
    have l := h2.length
    have e2 : cutL ds lo hi = ds := by
      unfold cutL
      rw [← l, e.1, e.2, List.drop_zero, Nat.sub_zero, l, List.take_length]
    rw [e2]; exact h2
  | @lst a vs ds h1 h2 =>
    simp [sliceD] at hz
    subst hz
    obtain ⟨T, id, h3, h4, h5⟩ := sl_list pins s σ H _ v vl vu lo hi sl (fun v H1 => ∃ p zs, v = .ref p ∧ H1 = upd H p (.lst zs) ∧ H p = none ∧ zs = cutL vs lo hi) I rx hs pl pu ⟨a, vs, rfl, h1.l, fun p hp => ⟨p, _, rfl, rfl, hp, rfl⟩⟩
    refine ⟨T, id, h3, h4, thn h5 fun u s' hh => ?_⟩
    obtain ⟨w, H1, J, r, p, zs, rfl, rfl, hp, rfl⟩ := hh
    cases r
    exact EP.newL hp J (h2.cut lo hi) q
  | _ => simp [sliceD] at hz
theorem r1 {f : D → Option D} : ∀ {vs : List V} {ds : List D} {K : PySem.W.Frag}, RepL K im H vs ds → ∀ {z : D}, (match ds with | [d] => f d | _ => none) = some z → ∃ v d, vs = [v] ∧ ds = [d] ∧ Rep K im H v d ∧ f d = some z
  | _, [], _, _, _, e => by simp at e
  | _, [d], _, h, _, e => by
    cases h with
    | cons h1 h2 => cases h2; exact ⟨_, _, rfl, rfl, h1, e⟩
  | _, _ :: _ :: _, _, _, _, e => by simp at e
def un1 (f : D → Option D) : List D → Option D := fun ds => match ds with | [d] => f d | _ => none
def bi2 (f : D → D → Option D) : List D → Option D := fun ds => match ds with | [d, e] => f d e | _ => none
theorem un1_ok {f : D → Option D} {vs : List V} {ds : List D} {K : PySem.W.Frag} {z : D} (h : RepL K im H vs ds) (e : un1 f ds = some z) : ∃ v d, vs = [v] ∧ Rep K im H v d ∧ f d = some z := by
  obtain ⟨v, d, a, b, c, e⟩ := r1 h e
  exact ⟨v, d, a, c, e⟩
theorem bi2_ok {f : D → D → Option D} : ∀ {vs : List V} {ds : List D} {K : PySem.W.Frag} {z : D}, RepL K im H vs ds → bi2 f ds = some z → ∃ v w d e, vs = [v, w] ∧ Rep K im H v d ∧ Rep K im H w e ∧ f d e = some z
  | _, [], _, _, _, e => by simp [bi2] at e
  | _, [d], _, _, _, e => by simp [bi2] at e
  | _, [d, e], _, _, h, q => by
    cases h with
    | cons h1 h2 => cases h2 with | cons h2 h3 => cases h3; exact ⟨_, _, _, _, rfl, h1, h2, q⟩
  | _, _ :: _ :: _ :: _, _, _, _, e => by simp [bi2] at e
theorem call_lenDD : CallR X (.builtin "len") (rDN X.K im (un1 lenD)) := by
  intro pins s σ H xs us Q I r h
  obtain ⟨ds, z, hd, hz, q⟩ := h
  obtain ⟨v, d, rfl, hd, hz⟩ := un1_ok hd hz
  cases hd with
  | @tup a vs ds h1 h2 =>
    simp [lenD] at hz; subst hz
    have l := h2.length
    exact call_len_seq pins s σ H _ us Q I r ⟨a, vs, rfl, .inr h1, by rw [l]; exact q _ _ (Same.refl _) (.int _)⟩
  | @lst a vs ds h1 h2 =>
    simp [lenD] at hz; subst hz
    have l := h2.length
    exact call_len_seq pins s σ H _ us Q I r ⟨a, vs, rfl, .inl h1.l, by rw [l]; exact q _ _ (Same.refl _) (.int _)⟩
  | str w =>
    simp only [lenD, Option.ite_none_right_eq_some] at hz
    obtain ⟨hl, hz⟩ := hz
    cases hz
    exact call_len_str pins s σ H _ us Q I r ⟨w, rfl, hl, q _ _ (Same.refl _) (.int _)⟩
  | _ => simp [lenD] at hz
theorem call_tupleDD : CallR X (.type "tuple") (rDN X.K im (un1 tupleD)) := by
  intro pins s σ H xs us Q I r h
  obtain ⟨ds, z, hd, hz, q⟩ := h
  obtain ⟨v, d, rfl, hd, hz⟩ := un1_ok hd hz
  cases hd with
  | @tup a vs ds h1 h2 =>
    simp [tupleD] at hz; subst hz
    exact call_tuple_of pins s σ H _ us Q I r ⟨a, vs, rfl, .inr ⟨h1, q _ _ (Same.refl _) (.tup h1 h2)⟩⟩
  | @lst a vs ds h1 h2 =>
    simp [tupleD] at hz; subst hz
    exact call_tuple_of pins s σ H _ us Q I r ⟨a, vs, rfl, .inl ⟨h1.l, fun p hp => newT_ hp h2 q⟩⟩
  | _ => simp [tupleD] at hz
theorem call_listDD : CallR X (.type "list") (rDN X.K im (un1 listD)) := by
  intro pins s σ H xs us Q I r h
  obtain ⟨ds, z, hd, hz, q⟩ := h
  obtain ⟨v, d, rfl, hd, hz⟩ := un1_ok hd hz
  have fin : ∀ (a : Addr) (vs : List V) (es : List D), (SqL X.K H a vs ∨ SqT X.K H a vs) → RepL X.K im H vs es → z = .lst es → v = .ref a → wpAny (model X.prog X.w) X.A (call (.type "list") us) (EP X pins σ Q) X.xe s := fun a vs es hq hr e ev => by
    subst e ev
    refine thn (call_list_of pins s σ H _ us (fun v H1 => ∃ p, v = .ref p ∧ H1 = upd H p (.lst vs) ∧ H p = none) I r ⟨a, vs, rfl, hq, fun p hp => ⟨p, rfl, rfl, hp⟩⟩) fun u s' hh => ?_
    obtain ⟨w, H1, J, r', p, rfl, rfl, hp⟩ := hh
    cases r'
    exact EP.newL hp J hr q
  cases hd with
  | @tup a vs ds h1 h2 =>
    simp [listD] at hz; subst hz
    exact fin a vs ds (.inr h1) h2 rfl rfl
  | @lst a vs ds h1 h2 =>
    simp [listD] at hz; subst hz
    exact fin a vs ds (.inl h1.l) h2 rfl rfl
  | _ => simp [listD] at hz
theorem call_intDD : CallR X (.type "int") (rDN X.K im (un1 intD)) := by
  intro pins s σ H xs us Q I r h
  obtain ⟨ds, z, hd, hz, q⟩ := h
  obtain ⟨v, d, rfl, hd, hz⟩ := un1_ok hd hz
  cases hd <;> simp [intD] at hz <;> subst hz
  · exact call_int1 pins s σ H _ us Q I r (.inr ⟨_, rfl, q _ _ (Same.refl _) (.int _)⟩)
  · exact call_int1 pins s σ H _ us Q I r (.inl ⟨_, rfl, q _ _ (Same.refl _) (.int _)⟩)
theorem call_max2DD (hc : X.calm = true) : CallR X (.builtin "max") (rDN X.K im (bi2 max2D)) := by
  intro pins s σ H xs us Q I r h
  obtain ⟨ds, z, hd, hz, q⟩ := h
  obtain ⟨v, w, d, e, rfl, hd, he, hz⟩ := bi2_ok hd hz
  cases hd <;> cases he <;> simp [max2D] at hz
  subst hz
  exact call_max2 hc pins s σ H _ us Q I r ⟨_, _, rfl, q _ _ (Same.refl _) (.int _)⟩
end
end DL
namespace DL
open PySem PySem.Spec PyProof.Rows L2
structure Exn where
  cls : Addr
  fs : List Str
  ds : List D
inductive R (Ω α : Type) where
  | ok (a : α) (ω : Ω)
  | ex (x : Exn) (ω : Ω)
  | no
def R.bind {Ω α β : Type} (r : R Ω α) (f : α → Ω → R Ω β) : R Ω β := match r with
  | .ok a ω => f a ω
  | .ex x ω => .ex x ω
  | .no => .no
def R.ofO {Ω α : Type} (o : Option α) (ω : Ω) : R Ω α := match o with
  | some a => .ok a ω
  | none => .no
@[simp] theorem R.bind_ok {Ω α β : Type} (a : α) (ω : Ω) (f : α → Ω → R Ω β) : (R.ok a ω).bind f = f a ω := rfl
@[simp] theorem R.bind_ex {Ω α β : Type} (x : Exn) (ω : Ω) (f : α → Ω → R Ω β) : (R.ex x ω).bind f = .ex x ω := rfl
@[simp] theorem R.bind_no {Ω α β : Type} (f : α → Ω → R Ω β) : (R.no : R Ω α).bind f = .no := rfl
@[simp] theorem R.ofO_some {Ω α : Type} (a : α) (ω : Ω) : R.ofO (some a) ω = .ok a ω := rfl
@[simp] theorem R.ofO_none {Ω α : Type} (ω : Ω) : (R.ofO none ω : R Ω α) = .no := rfl
/-- a list, a dict by ints and texts, a dict by tuples of such -/
inductive OKd where
  | L
  | K (ks : List Key)
  | T (ks : List (List Key))
def OKd.ho : OKd → List V → HO
  | .L, vs => .lst vs
  | .K ks, vs => .dK (ks.zip vs)
  | .T ks, vs => .dT (ks.zip vs)
def OKd.len : OKd → Nat → Prop
  | .L, _ => True
  | .K ks, n => ks.length = n
  | .T ks, n => ks.length = n
inductive Cell where
  | d (x : D)
  | ow (k : OKd) (xs : List D)
  | src
abbrev Tau := List (Option Cell)
/-- the one thing that a def is handed and may change: what it is, where it lies -/
structure Gam (im : Addr → Bool) (Ω : Type) where
  At : Ω → Hp → Prop
  FP : Addr → Prop
  obj : V
  keep : ∀ {ω : Ω} {H H' : Hp}, At ω H → (∀ b o, FP b → H b = some o → H' b = some o) → Sb im H H' → At ω H'
  nost : ∀ {ω : Ω} {H : Hp}, At ω H → ∀ b o, FP b → H b = some o → ¬ stb im o
  trk : ∀ {ω : Ω} {H : Hp}, At ω H → ∀ b, FP b → H b ≠ none
/-- nothing -/
def gam0 (im : Addr → Bool) : Gam im Unit where
  At := fun _ _ => True
  FP := fun _ => False
  obj := .non
  keep := fun _ _ _ => trivial
  nost := fun _ _ _ h => h.elim
  trk := fun _ _ h => h.elim
section
variable {im : Addr → Bool} {Ω : Type} (G : Gam im Ω)
def Kp (H H' : Hp) : Prop := ∀ b o, H b = some o → ¬ G.FP b → H' b = some o
variable {G} {H H1 H2 H' : Hp} {ω : Ω}
theorem Kp.refl : Kp G H H := fun _ _ h _ => h
theorem Kp.trans (a : Kp G H H1) (b : Kp G H1 H2) : Kp G H H2 := fun c o e n => b c o (a c o e n) n
theorem Kp.of (a : Same H H1) : Kp G H H1 := fun c o e _ => a c o e
theorem Kp.sb (a : Kp G H H1) (t : G.At ω H) : Sb im H H1 := fun b o e s => a b o e fun f => G.nost t b o f e s
theorem At.same (t : G.At ω H) (a : Same H H1) : G.At ω H1 := G.keep t (fun b o _ e => a b o e) (.of a)
variable (G) (K : PySem.W.Frag)
inductive SlotOk (H0 H : Hp) : Option V → Option Cell → Prop
  | un {v : Option V} : SlotOk H0 H v none
  | d {v : V} {x : D} : Rep K im H v x → SlotOk H0 H (some v) (some (.d x))
  | ow {l : Addr} {k : OKd} {vs : List V} {xs : List D} : H l = some (k.ho vs) → RepL K im H vs xs → H0 l = none → ¬ G.FP l → k.len xs.length → SlotOk H0 H (some (.ref l)) (some (.ow k xs))
  | src : SlotOk H0 H (some G.obj) (some .src)
structure STT (H0 H : Hp) (σ : L2.St) (τ : Tau) : Prop where
  len : σ.length = τ.length
  ok : ∀ (i : Nat) (v : Option V) (c : Option Cell), σ[i]? = some v → τ[i]? = some c → SlotOk G K H0 H v c
  dj : ∀ (i j : Nat) (l : Addr) {k k' : OKd} (xs ys : List D), i ≠ j → σ[i]? = some (some (.ref l)) → τ[i]? = some (some (.ow k xs)) → σ[j]? = some (some (.ref l)) → τ[j]? = some (some (.ow k' ys)) → False
  fr : Kp G H0 H
variable {G} {K}
variable {H0 : Hp} {σ : L2.St} {τ : Tau}
theorem SlotOk.step {v : Option V} {c : Option Cell} (s : SlotOk G K H0 H v c) (t : G.At ω H) (k : Kp G H H') : SlotOk G K H0 H' v c := by
  cases s with
  | un => exact .un
  | d r => exact .d (r.up (k.sb t))
  | ow h1 h2 h3 h4 h5 => exact .ow (k _ _ h1 h4) (h2.up (k.sb t)) h3 h4 h5
  | src => exact .src
theorem STT.step (s : STT G K H0 H σ τ) (t : G.At ω H) (k : Kp G H H') : STT G K H0 H' σ τ :=
  ⟨s.len, fun i v c e1 e2 => (s.ok i v c e1 e2).step t k, s.dj, s.fr.trans k⟩
theorem STT.slot (s : STT G K H0 H σ τ) {i : Nat} {c : Cell} (h : τ[i]? = some (some c)) : ∃ v, σ[i]? = some v ∧ SlotOk G K H0 H v (some c) := by
  have hi : i < σ.length := by rw [s.len]; exact (List.getElem?_eq_some_iff.mp h).1
  exact ⟨σ[i], List.getElem?_eq_getElem hi, s.ok i _ _ (List.getElem?_eq_getElem hi) h⟩
theorem STT.get (s : STT G K H0 H σ τ) {i : Nat} {x : D} (h : τ[i]? = some (some (.d x))) : ∃ v, σ[i]? = some (some v) ∧ Rep K im H v x := by
  obtain ⟨v, e, k⟩ := s.slot h
  cases k with
  | d r => exact ⟨_, e, r⟩
theorem STT.getW (s : STT G K H0 H σ τ) {i : Nat} {k : OKd} {xs : List D} (h : τ[i]? = some (some (.ow k xs))) : ∃ l vs, σ[i]? = some (some (.ref l)) ∧ H l = some (k.ho vs) ∧ RepL K im H vs xs ∧ H0 l = none ∧ ¬ G.FP l ∧ k.len xs.length := by
  obtain ⟨v, e, k⟩ := s.slot h
  cases k with
  | ow h1 h2 h3 h4 h5 => exact ⟨_, _, e, h1, h2, h3, h4, h5⟩
theorem STT.getO (s : STT G K H0 H σ τ) {i : Nat} {xs : List D} (h : τ[i]? = some (some (.ow .L xs))) : ∃ l vs, σ[i]? = some (some (.ref l)) ∧ H l = some (.lst vs) ∧ RepL K im H vs xs ∧ H0 l = none ∧ ¬ G.FP l := by
  obtain ⟨l, vs, h1, h2, h3, h4, h5, _⟩ := s.getW h
  exact ⟨l, vs, h1, h2, h3, h4, h5⟩
theorem STT.getS (s : STT G K H0 H σ τ) {i : Nat} (h : τ[i]? = some (some .src)) : σ[i]? = some (some G.obj) := by
  obtain ⟨v, e, k⟩ := s.slot h
  cases k with
  | src => exact e
theorem STT.setD (s : STT G K H0 H σ τ) {v : V} {x : D} (r : Rep K im H v x) (i : Nat) : STT G K H0 H (σ.set i (some v)) (τ.set i (some (.d x))) := by
  refine ⟨by simp [s.len], fun j w c e1 e2 => ?_, fun j k l _ _ xs ys hjk e1 e2 e3 e4 => ?_, s.fr⟩
  · by_cases hj : i = j
    · subst hj
      have hi : i < σ.length := by simpa using (List.getElem?_eq_some_iff.mp e1).1
      rw [List.getElem?_set_self hi] at e1
      rw [List.getElem?_set_self (by rw [← s.len]; exact hi)] at e2
      cases e1; cases e2
      exact .d r
    · rw [List.getElem?_set_ne hj] at e1 e2
      exact s.ok j w c e1 e2
  · have a : i ≠ j := fun q => by
      subst q
      have hi : i < τ.length := by simpa using (List.getElem?_eq_some_iff.mp e2).1
      rw [List.getElem?_set_self hi] at e2
      cases e2
    have b : i ≠ k := fun q => by
      subst q
      have hi : i < τ.length := by simpa using (List.getElem?_eq_some_iff.mp e4).1
      rw [List.getElem?_set_self hi] at e4
      cases e4
    rw [List.getElem?_set_ne a] at e1 e2
    rw [List.getElem?_set_ne b] at e3 e4
    exact s.dj j k l xs ys hjk e1 e2 e3 e4
/-- a new owned list -/
theorem STT.setW (s : STT G K H0 H σ τ) (t : G.At ω H) {p : Addr} {kd : OKd} {vs : List V} {xs : List D} (hp : H p = none) (k : Kp G H H') (h : H' p = some (kd.ho vs)) (r : RepL K im H' vs xs) (hlen : kd.len xs.length) (i : Nat) :
    STT G K H0 H' (σ.set i (some (.ref p))) (τ.set i (some (.ow kd xs))) := by
  have nf : ¬ G.FP p := fun f => G.trk t p f hp
  have h0 : H0 p = none := by
    cases e : H0 p with
    | none => rfl
    | some o => have := s.fr p o e nf; rw [hp] at this; cases this
  have s' := s.step t k
  have nw : ∀ (j : Nat) {k : OKd} (ys : List D), τ[j]? = some (some (.ow k ys)) → σ[j]? ≠ some (some (.ref p)) := fun j k ys e q => by
    obtain ⟨l, ws, e1, e2, _⟩ := s.getW e
    rw [e1] at q
    cases q
    rw [hp] at e2; cases e2
  refine ⟨by simp [s.len], fun j w c e1 e2 => ?_, fun j k l _ _ ys zs hjk e1 e2 e3 e4 => ?_, s'.fr⟩
  · by_cases hj : i = j
    · subst hj
      have hi : i < σ.length := by simpa using (List.getElem?_eq_some_iff.mp e1).1
      rw [List.getElem?_set_self hi] at e1
      rw [List.getElem?_set_self (by rw [← s.len]; exact hi)] at e2
      cases e1; cases e2
      exact .ow h r h0 nf hlen
    · rw [List.getElem?_set_ne hj] at e1 e2
      exact s'.ok j w c e1 e2
  · by_cases a : i = j
    · subst a
      have hi : i < σ.length := by simpa using (List.getElem?_eq_some_iff.mp e1).1
      rw [List.getElem?_set_self hi] at e1
      cases e1
      rw [List.getElem?_set_ne hjk] at e3 e4
      exact nw k zs e4 e3
    · by_cases b : i = k
      · subst b
        have hi : i < σ.length := by simpa using (List.getElem?_eq_some_iff.mp e3).1
        rw [List.getElem?_set_self hi] at e3
        cases e3
        rw [List.getElem?_set_ne a] at e1 e2
        exact nw j ys e2 e1
      · rw [List.getElem?_set_ne a] at e1 e2
        rw [List.getElem?_set_ne b] at e3 e4
        exact s.dj j k l ys zs hjk e1 e2 e3 e4
/-- an owned list is changed -/
theorem OKd.nst {k : OKd} {vs : List V} : ¬ stb im (k.ho vs) := by cases k <;> exact id
theorem STT.mutW (s : STT G K H0 H σ τ) (t : G.At ω H) {i : Nat} {l : Addr} {kd kd' : OKd} {vs : List V} {xs ys : List D} (h : τ[i]? = some (some (.ow kd xs))) (e : σ[i]? = some (some (.ref l)))
    (r : RepL K im H vs ys) (hlen : kd'.len ys.length) : STT G K H0 (upd H l (kd'.ho vs)) σ (τ.set i (some (.ow kd' ys))) ∧ G.At ω (upd H l (kd'.ho vs)) ∧ Sb im H (upd H l (kd'.ho vs)) := by
  obtain ⟨l', ws', e', h1, h2, h3, h4, h5⟩ := s.getW h
  have el : l' = l := by rw [e] at e'; cases e'; rfl
  subst el
  have sb : Sb im H (upd H l' (kd'.ho vs)) := fun b o eb st => by
    have : b ≠ l' := fun q => by subst q; rw [h1] at eb; cases eb; exact OKd.nst st
    rw [upd_ne this]; exact eb
  have at' : G.At ω (upd H l' (kd'.ho vs)) := G.keep t (fun b o f eb => by
    have : b ≠ l' := fun q => h4 (q ▸ f)
    rw [upd_ne this]; exact eb) sb
  refine ⟨⟨by simp [s.len], fun j w c e1 e2 => ?_, fun j k a _ _ xs' zs hjk e1 e2 e3 e4 => ?_, fun b o eb nf => ?_⟩, at', sb⟩
  · by_cases hj : i = j
    · subst hj
      have hi : i < τ.length := (List.getElem?_eq_some_iff.mp h).1
      rw [List.getElem?_set_self hi] at e2
      cases e2
      rw [e] at e1; cases e1
      exact .ow upd_same (r.up sb) h3 h4 hlen
    · rw [List.getElem?_set_ne hj] at e2
      have q := s.ok j w c e1 e2
      cases q with
      | un => exact .un
      | d r => exact .d (r.up sb)
      | @ow l2 k2 vs2 xs2 a1 a2 a3 a4 a5 =>
        have ne : l2 ≠ l' := fun q => by
          subst q
          exact s.dj i j l2 _ _ hj e h e1 e2
        exact .ow (by rw [upd_ne ne]; exact a1) (a2.up sb) a3 a4 a5
      | src => exact .src
  · have a1 : ∃ k2 xs2, τ[j]? = some (some (.ow k2 xs2)) := by
      by_cases hj : i = j
      · subst hj; exact ⟨_, _, h⟩
      · rw [List.getElem?_set_ne hj] at e2; exact ⟨_, _, e2⟩
    have a2 : ∃ k2 xs2, τ[k]? = some (some (.ow k2 xs2)) := by
      by_cases hj : i = k
      · subst hj; exact ⟨_, _, h⟩
      · rw [List.getElem?_set_ne hj] at e4; exact ⟨_, _, e4⟩
    obtain ⟨_, _, a1⟩ := a1
    obtain ⟨_, _, a2⟩ := a2
    exact s.dj j k a _ _ hjk e1 a1 e3 a2
  · have k := s.fr b o eb nf
    have : b ≠ l' := fun q => by subst q; rw [h3] at eb; cases eb
    rw [upd_ne this]; exact k
theorem STT.setO (s : STT G K H0 H σ τ) (t : G.At ω H) {p : Addr} {vs : List V} {xs : List D} (hp : H p = none) (k : Kp G H H') (h : H' p = some (.lst vs)) (r : RepL K im H' vs xs) (i : Nat) :
    STT G K H0 H' (σ.set i (some (.ref p))) (τ.set i (some (.ow .L xs))) := s.setW (kd := .L) t hp k h r trivial i
theorem STT.mutO (s : STT G K H0 H σ τ) (t : G.At ω H) {i : Nat} {l : Addr} {vs : List V} {xs ys : List D} (h : τ[i]? = some (some (.ow .L xs))) (e : σ[i]? = some (some (.ref l))) (hl : ∃ ws, H l = some (.lst ws))
    (r : RepL K im H vs ys) : STT G K H0 (upd H l (.lst vs)) σ (τ.set i (some (.ow .L ys))) ∧ G.At ω (upd H l (.lst vs)) ∧ Sb im H (upd H l (.lst vs)) := s.mutW (kd' := .L) t h e r trivial
end
section
variable (K : PySem.W.Frag) (im : Addr → Bool)
def ExRep (H : Hp) (cls : Value) (dd : Option Addr) (x : Exn) : Prop :=
  cls = .ref x.cls ∧ ((x.fs = [] ∧ dd = none) ∨ ∃ (d : Addr) (vs : List V), dd = some d ∧ H d = some (.xd (x.fs.zip vs)) ∧ x.fs.length = vs.length ∧ RepL K im H vs x.ds)
end
section
variable {im : Addr → Bool} {Ω : Type} (G : Gam im Ω) (K : PySem.W.Frag)
def Res {α : Type} (r : R Ω α) (H : Hp) (k : α → Ω → Hp → Prop) (kx : Exn → Ω → Hp → Prop) : Prop := match r with
  | .ok a ω => ∀ H', Kp G H H' → G.At ω H' → k a ω H'
  | .ex x ω => ∀ H', Kp G H H' → G.At ω H' → kx x ω H'
  | .no => False
abbrev E (Ω α : Type) := Tau → Ω → R Ω α
def kX (G : Gam im Ω) (K : PySem.W.Frag) (W : WX) (σ : L2.St) : Exn → Ω → Hp → Prop := fun x _ H' => ∀ cls dd, ExRep K im H' cls dd x → W cls dd σ H'
def kD (G : Gam im Ω) (K : PySem.W.Frag) (Q : VK) : D → Ω → Hp → Prop := fun d _ H' => ∀ v, Rep K im H' v d → Q v H'
def kL (G : Gam im Ω) (K : PySem.W.Frag) (Q : List V → Hp → Prop) : List D → Ω → Hp → Prop := fun ds _ H' => ∀ vs, RepL K im H' vs ds → Q vs H'
def DE (W : WX) (te : TE) (F : E Ω D) : Prop := ∀ H0 σ H ω τ, STT G K H0 H σ τ → G.At ω H → ∀ Q : VK, Res G (F τ ω) H (kD G K Q) (kX G K W σ) → te σ H Q
def DT (W : WX) (tt : TT) (F : E Ω Bool) : Prop := ∀ H0 σ H ω τ, STT G K H0 H σ τ → G.At ω H → ∀ Q : Bool → Hp → Prop, Res G (F τ ω) H (fun b _ H' => Q b H') (kX G K W σ) → tt σ H Q
def DA (W : WX) (ta : TA) (F : E Ω (List D)) : Prop := ∀ H0 σ H ω τ, STT G K H0 H σ τ → G.At ω H → ∀ Q : List V → Hp → Prop, Res G (F τ ω) H (kL G K Q) (kX G K W σ) → ta σ H Q
def DO (W : WX) (to : TO) (F : E Ω (Option Int)) : Prop := ∀ H0 σ H ω τ, STT G K H0 H σ τ → G.At ω H → ∀ Q : Option Int → Hp → Prop, Res G (F τ ω) H (fun b _ H' => Q b H') (kX G K W σ) → to σ H Q
/-- a new list, not finished yet -/
def DL (W : WX) (te : TE) (F : E Ω (List D)) : Prop := ∀ H0 σ H ω τ, STT G K H0 H σ τ → G.At ω H → ∀ Q : VK, Res G (F τ ω) H (fun ds _ H' => ∀ p vs, H p = none → H' p = some (.lst vs) → RepL K im H' vs ds → Q (.ref p) H') (kX G K W σ) → te σ H Q
variable {G} {K}
theorem Res.mono {α : Type} {r : R Ω α} {H H1 : Hp} {k : α → Ω → Hp → Prop} {kx : Exn → Ω → Hp → Prop} (h : Res G r H k kx) (a : Kp G H H1) : Res G r H1 k kx := by
  cases r with
  | ok x ω => exact fun H' b t => h H' (a.trans b) t
  | ex x ω => exact fun H' b t => h H' (a.trans b) t
  | no => exact h
theorem Res.imp {α : Type} {r : R Ω α} {H : Hp} {k k' : α → Ω → Hp → Prop} {kx kx' : Exn → Ω → Hp → Prop} (h : Res G r H k kx) (f : ∀ a ω H', Kp G H H' → G.At ω H' → k a ω H' → k' a ω H') (g : ∀ x ω H', Kp G H H' → G.At ω H' → kx x ω H' → kx' x ω H') : Res G r H k' kx' := by
  cases r with
  | ok x ω => exact fun H' b t => f x ω H' b t (h H' b t)
  | ex x ω => exact fun H' b t => g x ω H' b t (h H' b t)
  | no => exact h
theorem Res.bind {α β : Type} {r : R Ω α} {f : α → Ω → R Ω β} {H : Hp} {k : β → Ω → Hp → Prop} {kx : Exn → Ω → Hp → Prop} (h : Res G (r.bind f) H k kx) : Res G r H (fun a ω1 _ => Res G (f a ω1) H k kx) kx := by
  cases r with
  | ok x ω => exact fun H' b t => h
  | ex x ω => exact h
  | no => exact h
end
section
variable {im : Addr → Bool} {Ω : Type} {G : Gam im Ω} {K : PySem.W.Frag} {W : WX} {ta tb te : TE} {Fa Fb : E Ω D}
def eVar (i : Nat) : E Ω D := fun τ ω => match τ[i]? with
  | some (some (.d x)) => .ok x ω
  | _ => .no
def eC (d : D) : E Ω D := fun _ ω => .ok d ω
def eOp (f : D → D → Option D) (a b : E Ω D) : E Ω D := fun τ ω => (a τ ω).bind fun x ω1 => (b τ ω1).bind fun y ω2 => .ofO (f x y) ω2
def eUn (f : D → Option D) (a : E Ω D) : E Ω D := fun τ ω => (a τ ω).bind fun x ω1 => .ofO (f x) ω1
def eCall (f : List D → Option D) (a : E Ω (List D)) : E Ω D := fun τ ω => (a τ ω).bind fun x ω1 => .ofO (f x) ω1
def aNil : E Ω (List D) := fun _ ω => .ok [] ω
def aCons (a : E Ω D) (r : E Ω (List D)) : E Ω (List D) := fun τ ω => (a τ ω).bind fun x ω1 => (r τ ω1).bind fun xs ω2 => .ok (x :: xs) ω2
def eTup (a : E Ω (List D)) : E Ω D := fun τ ω => (a τ ω).bind fun xs ω1 => if xs.length ≤ 1000 then .ok (.tup xs) ω1 else .no
def eLst (a : E Ω (List D)) : E Ω (List D) := fun τ ω => (a τ ω).bind fun xs ω1 => if xs.length ≤ 1000 then .ok xs ω1 else .no
def eFrz (a : E Ω (List D)) : E Ω D := fun τ ω => (a τ ω).bind fun xs ω1 => .ok (.lst xs) ω1
theorem de_var (i : Nat) : DE G K W (tVar i) (eVar i) := by
  intro H0 σ H ω τ s t Q h
  unfold eVar at h
  split at h
  · rename_i x hx
    obtain ⟨v, e, r⟩ := s.get hx
    exact ⟨v, e, h H .refl t v r⟩
  · exact h.elim
theorem de_c {v : V} {d : D} (r : ∀ H, Rep K im H v d) : DE G K W (tC v) (eC d) := fun H0 σ H ω τ s t Q h => h H .refl t v (r H)
theorem de_int {i : Int} : DE G K W (tC (.int i)) (eC (.int i)) := de_c fun _ => .int i
theorem de_str {x : Str} : DE G K W (tC (.str x)) (eC (.str x)) := de_c fun _ => .str x
theorem de_bl {b : Bool} : DE G K W (tC (.bl b)) (eC (.bl b)) := de_c fun _ => .bl b
theorem de_non : DE G K W (tC .non) (eC .non) := de_c fun _ => .non
/-- a written tuple of the module -/
theorem de_op {f : D → D → Option D} (ha : DE G K W ta Fa) (hb : DE G K W tb Fb) : DE G K W (tOp (rD2 K im f) ta tb) (eOp f Fa Fb) := by
  intro H0 σ H ω τ s t Q h
  refine ha H0 σ H ω τ s t _ (Res.imp (Res.bind h) (fun x ω1 H1 k1 t1 h1 v r => ?_) fun _ _ _ _ _ q => q)
  refine hb H0 σ H1 ω1 τ (s.step t k1) t1 _ (Res.imp (Res.bind (h1.mono k1)) (fun y ω2 H2 k2 t2 h2 w r2 => ?_) fun _ _ _ _ _ q => q)
  have h3 := (h2.mono k2)
  cases e : f x y with
  | none => rw [e] at h3; exact h3.elim
  | some z =>
    rw [e] at h3
    exact ⟨x, y, z, r.up (k2.sb t1), r2, e, fun v H' sm rv => h3 H' (.of sm) (At.same t2 sm) v rv⟩
theorem de_un {f : D → Option D} (ha : DE G K W ta Fa) : DE G K W (tUn (rD1 K im f) ta) (eUn f Fa) := by
  intro H0 σ H ω τ s t Q h
  refine ha H0 σ H ω τ s t _ (Res.imp (Res.bind h) (fun x ω1 H1 k1 t1 h1 v r => ?_) fun _ _ _ _ _ q => q)
  have h3 := h1.mono k1
  cases e : f x with
  | none => rw [e] at h3; exact h3.elim
  | some z =>
    rw [e] at h3
    exact ⟨x, z, r, e, fun v H' sm rv => h3 H' (.of sm) (At.same t1 sm) v rv⟩
theorem da_nil : DA G K W tNil aNil := fun H0 σ H ω τ s t Q h => h H .refl t [] .nil
theorem da_cons {tr : TA} {Fr : E Ω (List D)} (ha : DE G K W ta Fa) (hr : DA G K W tr Fr) : DA G K W (tCons ta tr) (aCons Fa Fr) := by
  intro H0 σ H ω τ s t Q h
  refine ha H0 σ H ω τ s t _ (Res.imp (Res.bind h) (fun x ω1 H1 k1 t1 h1 v r => ?_) fun _ _ _ _ _ q => q)
  refine hr H0 σ H1 ω1 τ (s.step t k1) t1 _ (Res.imp (Res.bind (h1.mono k1)) (fun ys ω2 H2 k2 t2 h2 ws r2 => ?_) fun _ _ _ _ _ q => q)
  exact (h2.mono k2) H2 .refl t2 _ (.cons (r.up (k2.sb t1)) r2)
theorem de_callN {f : List D → Option D} {tr : TA} {Fr : E Ω (List D)} (hr : DA G K W tr Fr) : DE G K W (tCB (rDN K im f) tr) (eCall f Fr) := by
  intro H0 σ H ω τ s t Q h
  refine hr H0 σ H ω τ s t _ (Res.imp (Res.bind h) (fun xs ω1 H1 k1 t1 h1 vs r => ?_) fun _ _ _ _ _ q => q)
  have h3 := h1.mono k1
  cases e : f xs with
  | none => rw [e] at h3; exact h3.elim
  | some z =>
    rw [e] at h3
    exact ⟨xs, z, r, e, fun v H' sm rv => h3 H' (.of sm) (At.same t1 sm) v rv⟩
theorem line1000 {n : Nat} (h : n ≤ 1000) : n ≤ sizeLine := Nat.le_of_lt (small1000 h)
theorem de_tup {tr : TA} {Fr : E Ω (List D)} (hr : DA G K W tr Fr) : DE G K W (tTup tr) (eTup Fr) := by
  intro H0 σ H ω τ s t Q h
  refine hr H0 σ H ω τ s t _ (Res.imp (Res.bind h) (fun xs ω1 H1 k1 t1 h1 vs r => ?_) fun _ _ _ _ _ q => q)
  have h3 := h1.mono k1
  split at h3
  · rename_i hl
    refine ⟨by rw [r.length]; exact line1000 hl, fun p hp => ?_⟩
    have sm : Same H1 (upd H1 p (.tup vs)) := Same.new hp
    exact h3 _ (.of sm) (At.same t1 sm) _ (.tup upd_same (r.up (.of sm)))
  · exact h3.elim
theorem dl_lst {tr : TA} {Fr : E Ω (List D)} (hr : DA G K W tr Fr) : DL G K W (tLst tr) (eLst Fr) := by
  intro H0 σ H ω τ s t Q h
  refine hr H0 σ H ω τ s t _ (Res.imp (Res.bind h) (fun xs ω1 H1 k1 t1 h1 vs r => ?_) fun _ _ _ _ _ q => q)
  have h3 := h1.mono k1
  split at h3
  · rename_i hl
    refine ⟨by rw [r.length]; exact line1000 hl, fun p hp => ?_⟩
    have sm : Same H1 (upd H1 p (.lst vs)) := Same.new hp
    have hp0 : H p = none := by
      cases e : H p with
      | none => rfl
      | some o =>
        by_cases f : G.FP p
        · exact absurd hp (G.trk t1 p f)
        · have := k1 p o e f; rw [hp] at this; cases this
    exact h3 _ (.of sm) (At.same t1 sm) _ _ hp0 upd_same (r.up (.of sm))
  · exact h3.elim
theorem de_frz {Fl : E Ω (List D)} (hl : DL G K W te Fl) : DE G K W (tFrz te) (eFrz Fl) := by
  intro H0 σ H ω τ s t Q h
  refine hl H0 σ H ω τ s t _ (Res.imp (Res.bind h) (fun xs ω1 H1 k1 t1 h1 p vs hp h2 r => ?_) fun _ _ _ _ _ q => q)
  refine ⟨p, vs, rfl, h2, fun o => ?_⟩
  have nf : ¬ G.FP p := fun f => G.trk t p f hp
  have sb : Sb im H1 (upd H1 p (.frz o (.lst vs))) := fun b u eb st => by
    have : b ≠ p := fun q => by subst q; rw [h2] at eb; cases eb; exact st
    rw [upd_ne this]; exact eb
  have at' : G.At ω1 (upd H1 p (.frz o (.lst vs))) := G.keep t1 (fun b u f eb => by
    have : b ≠ p := fun q => nf (q ▸ f)
    rw [upd_ne this]; exact eb) sb
  exact h1 _ (fun b u eb nfb => by
    have : b ≠ p := fun q => by subst q; rw [hp] at eb; cases eb
    rw [upd_ne this]; exact k1 b u eb nfb) at' _ (.lst ⟨o, upd_same⟩ (r.up sb))
end
end DL
namespace DL
open PySem PySem.Spec PyProof.Rows L2
section
variable {im : Addr → Bool} {Ω : Type} {G : Gam im Ω} {K : PySem.W.Frag} {W : WX} {ta tb te : TE} {Fa Fb : E Ω D} {t u : TT} {Ft Fu : E Ω Bool}
def D.bool : D → Option Bool
  | .bl b => some b
  | _ => none
def eB (a : E Ω D) : E Ω Bool := fun τ ω => (a τ ω).bind fun x ω1 => .ofO x.bool ω1
def bAnd (a b : E Ω Bool) : E Ω Bool := fun τ ω => (a τ ω).bind fun x ω1 => if x then b τ ω1 else .ok false ω1
def bOr (a b : E Ω Bool) : E Ω Bool := fun τ ω => (a τ ω).bind fun x ω1 => if x then .ok true ω1 else b τ ω1
def bNot (a : E Ω Bool) : E Ω Bool := fun τ ω => (a τ ω).bind fun x ω1 => .ok (!x) ω1
def bYes : E Ω Bool := fun _ ω => .ok true ω
def eIf (c : E Ω Bool) (a b : E Ω D) : E Ω D := fun τ ω => (c τ ω).bind fun x ω1 => if x then a τ ω1 else b τ ω1
def eAnd (a b : E Ω D) : E Ω D := fun τ ω => (a τ ω).bind fun x ω1 => match x with
  | .bl true => b τ ω1
  | .bl false => .ok (.bl false) ω1
  | _ => .no
def eNot (a : E Ω D) : E Ω D := fun τ ω => (a τ ω).bind fun x ω1 => match x with
  | .bl b => .ok (.bl (!b)) ω1
  | _ => .no
theorem bool_rep {H : Hp} {x : D} {b : Bool} {v : V} (r : Rep K im H v x) (e : x.bool = some b) : v = .bl b := by
  cases r <;> simp [D.bool] at e
  subst e; rfl
theorem dt_B (ha : DE G K W ta Fa) : DT G K W (tB ta) (eB Fa) := by
  intro H0 σ H ω τ s t Q h
  refine ha H0 σ H ω τ s t _ (Res.imp (Res.bind h) (fun x ω1 H1 k1 t1 h1 v r => ?_) fun _ _ _ _ _ q => q)
  cases e : x.bool with
  | none => rw [e] at h1; exact h1.elim
  | some b => rw [e] at h1; exact ⟨b, bool_rep r e, h1 H1 k1 t1⟩
theorem dt_test (ha : DE G K W ta Fa) : DT G K W (tTest ta) (eB Fa) := dt_B ha
theorem dt_and (ha : DT G K W t Ft) (hb : DT G K W u Fu) : DT G K W (tAnd t u) (bAnd Ft Fu) := by
  intro H0 σ H ω τ s t Q h
  refine ha H0 σ H ω τ s t _ (Res.imp (Res.bind h) (fun x ω1 H1 k1 t1 h1 => ?_) fun _ _ _ _ _ q => q)
  cases x with
  | true => exact hb H0 σ H1 ω1 τ (s.step t k1) t1 _ (h1.mono k1)
  | false => exact h1 H1 k1 t1
theorem dt_or (ha : DT G K W t Ft) (hb : DT G K W u Fu) : DT G K W (tOr t u) (bOr Ft Fu) := by
  intro H0 σ H ω τ s t Q h
  refine ha H0 σ H ω τ s t _ (Res.imp (Res.bind h) (fun x ω1 H1 k1 t1 h1 => ?_) fun _ _ _ _ _ q => q)
  cases x with
  | false => exact hb H0 σ H1 ω1 τ (s.step t k1) t1 _ (h1.mono k1)
  | true => exact h1 H1 k1 t1
theorem dt_not (ha : DT G K W t Ft) : DT G K W (tNot t) (bNot Ft) := by
  intro H0 σ H ω τ s t Q h
  exact ha H0 σ H ω τ s t _ (Res.imp (Res.bind h) (fun x ω1 H1 k1 t1 h1 => h1 H1 k1 t1) fun _ _ _ _ _ q => q)
theorem dt_yes : DT G K W tYes bYes := fun H0 σ H ω τ s t Q h => h H .refl t
theorem de_if (hc : DT G K W t Ft) (ha : DE G K W ta Fa) (hb : DE G K W tb Fb) : DE G K W (tIf t ta tb) (eIf Ft Fa Fb) := by
  intro H0 σ H ω τ s t Q h
  refine hc H0 σ H ω τ s t _ (Res.imp (Res.bind h) (fun x ω1 H1 k1 t1 h1 => ?_) fun _ _ _ _ _ q => q)
  cases x with
  | true => exact ha H0 σ H1 ω1 τ (s.step t k1) t1 _ (h1.mono k1)
  | false => exact hb H0 σ H1 ω1 τ (s.step t k1) t1 _ (h1.mono k1)
theorem de_and (ha : DE G K W ta Fa) (hb : DE G K W tb Fb) : DE G K W (tAndV ta tb) (eAnd Fa Fb) := by
  intro H0 σ H ω τ s t Q h
  refine ha H0 σ H ω τ s t _ (Res.imp (Res.bind h) (fun x ω1 H1 k1 t1 h1 v r => ?_) fun _ _ _ _ _ q => q)
  cases r with
  | bl b =>
    cases b with
    | true => exact ⟨true, rfl, hb H0 σ H1 ω1 τ (s.step t k1) t1 _ (h1.mono k1)⟩
    | false => exact ⟨false, rfl, h1 H1 k1 t1 _ (.bl false)⟩
  | _ => exact h1.elim
theorem de_not (ha : DE G K W ta Fa) : DE G K W (tNotV ta) (eNot Fa) := by
  intro H0 σ H ω τ s t Q h
  refine ha H0 σ H ω τ s t _ (Res.imp (Res.bind h) (fun x ω1 H1 k1 t1 h1 v r => ?_) fun _ _ _ _ _ q => q)
  cases r with
  | bl b => exact ⟨b, rfl, h1 H1 k1 t1 _ (.bl _)⟩
  | _ => exact h1.elim
def oNone : E Ω (Option Int) := fun _ ω => .ok none ω
def D.toI : D → Option (Option Int)
  | .int i => some (some i)
  | _ => none
def oSome (a : E Ω D) : E Ω (Option Int) := fun τ ω => (a τ ω).bind fun x ω1 => .ofO x.toI ω1
def eSl (a : E Ω D) (l h : E Ω (Option Int)) : E Ω D := fun τ ω => (a τ ω).bind fun x ω1 => (l τ ω1).bind fun lo ω2 => (h τ ω2).bind fun hi ω3 => .ofO (sliceD x lo hi) ω3
theorem do_none : DO G K W tNoPart oNone := fun H0 σ H ω τ s t Q h => h H .refl t
theorem do_some (ha : DE G K W ta Fa) : DO G K W (tPart ta) (oSome Fa) := by
  intro H0 σ H ω τ s t Q h
  refine ha H0 σ H ω τ s t _ (Res.imp (Res.bind h) (fun x ω1 H1 k1 t1 h1 v r => ?_) fun _ _ _ _ _ q => q)
  cases r with
  | int i => exact ⟨i, rfl, h1 H1 k1 t1⟩
  | _ => exact h1.elim
theorem de_sl {tl th : TO} {Fl Fh : E Ω (Option Int)} (ha : DE G K W ta Fa) (hl : DO G K W tl Fl) (hh : DO G K W th Fh) : DE G K W (tSl (rSlD K im) ta tl th) (eSl Fa Fl Fh) := by
  intro H0 σ H ω τ s t Q h
  refine ha H0 σ H ω τ s t _ (Res.imp (Res.bind h) (fun x ω1 H1 k1 t1 h1 v r => ?_) fun _ _ _ _ _ q => q)
  refine hl H0 σ H1 ω1 τ (s.step t k1) t1 _ (Res.imp (Res.bind (h1.mono k1)) (fun lo ω2 H2 k2 t2 h2 => ?_) fun _ _ _ _ _ q => q)
  refine hh H0 σ H2 ω2 τ ((s.step t k1).step t1 k2) t2 _ (Res.imp (Res.bind (h2.mono k2)) (fun hi ω3 H3 k3 t3 h3 => ?_) fun _ _ _ _ _ q => q)
  have h4 := h3.mono k3
  cases e : sliceD x lo hi with
  | none => rw [e] at h4; exact h4.elim
  | some z =>
    rw [e] at h4
    exact ⟨x, z, (r.up (k2.sb t1)).up (k3.sb t2), e, fun v H' sm rv => h4 H' (.of sm) (At.same t3 sm) v rv⟩
def oLen (i : Nat) : E Ω D := fun τ ω => match τ[i]? with
  | some (some (.ow .L xs)) => .ok (.int xs.length) ω
  | _ => .no
def oIx (i : Nat) (b : E Ω D) : E Ω D := fun τ ω => match τ[i]? with
  | some (some (.ow .L xs)) => (b τ ω).bind fun y ω1 => .ofO (ixD (.lst xs) y) ω1
  | _ => .no
def oTuple (i : Nat) : E Ω D := fun τ ω => match τ[i]? with
  | some (some (.ow .L xs)) => .ok (.tup xs) ω
  | _ => .no
theorem de_oLen {i : Nat} : DE G K W (tCB (fun xs H Q => ∃ p ys, xs = [.ref p] ∧ (SqL K H p ys ∨ SqT K H p ys) ∧ Q (.int ys.length) H) (tCons (tVar i) tNil)) (oLen i) := by
  intro H0 σ H ω τ s t Q h
  unfold oLen at h
  split at h
  · rename_i xs hx
    obtain ⟨l, vs, e, h1, h2, _⟩ := s.getO hx
    exact ⟨_, e, l, vs, rfl, .inl (SqL.of h1), by rw [h2.length]; exact h H .refl t _ (.int _)⟩
  · exact h.elim
theorem de_oTuple {i : Nat} : DE G K W (tCB (fun xs H Q => ∃ p ys, xs = [.ref p] ∧ ((SqL K H p ys ∧ ∀ l, H l = none → Q (.ref l) (upd H l (.tup ys))) ∨ (SqT K H p ys ∧ Q (.ref p) H))) (tCons (tVar i) tNil)) (oTuple i) := by
  intro H0 σ H ω τ s t Q h
  unfold oTuple at h
  split at h
  · rename_i xs hx
    obtain ⟨l, vs, e, h1, h2, _⟩ := s.getO hx
    refine ⟨_, e, l, vs, rfl, .inl ⟨SqL.of h1, fun p hp => ?_⟩⟩
    have sm : Same H (upd H p (.tup vs)) := Same.new hp
    exact h _ (.of sm) (At.same t sm) _ (.tup upd_same (h2.up (.of sm)))
  · exact h.elim
end
section
variable {im : Addr → Bool} (K : PySem.W.Frag)
/-- a def that changes nothing -/
def spD (im : Addr → Bool) (n : Nat) (F : List D → R Unit D) : Sp := fun vs H Q Ex => vs.length = n ∧ ∃ ds, RepL K im H vs ds ∧ (match F ds with
  | .ok d _ => ∀ v H', Same H H' → Rep K im H' v d → Q v H'
  | .ex x _ => ∀ cls dd H', Same H H' → ExRep K im H' cls dd x → Ex cls dd H'
  | .no => False)
/-- a def that is handed the one thing that it may change, at place j -/
def spW {Ω P : Type} (Γ : P → Gam im Ω) (n j : Nat) (F : List D → Ω → R Ω D) : Sp := fun vs H Q Ex => vs.length = n ∧ ∃ p ω ws ds, vs = ws.take j ++ (Γ p).obj :: ws.drop j ∧ (Γ p).At ω H ∧ RepL K im H ws ds ∧
  Res (Γ p) (F ds ω) H (kD (Γ p) K Q) (fun x _ H' => ∀ cls dd, ExRep K im H' cls dd x → Ex cls dd H')
variable {K} {Ω : Type} {G : Gam im Ω} {W : WX} {ta tb te : TE} {Fa Fb : E Ω D} {tr : TA} {Fr : E Ω (List D)}
def lift {Ω α : Type} (r : R Unit α) (ω : Ω) : R Ω α := match r with
  | .ok a _ => .ok a ω
  | .ex x _ => .ex x ω
  | .no => .no
@[simp] theorem lift_ok {Ω α : Type} (a : α) (ω : Ω) (u : Unit) : lift (.ok a u) ω = .ok a ω := rfl
@[simp] theorem lift_no {Ω α : Type} (ω : Ω) : lift (.no : R Unit α) ω = .no := rfl
/-- no exception is met -/
def nox {Ω α : Type} (r : R Ω α) : R Ω α := match r with
  | .ok a ω => .ok a ω
  | _ => .no
@[simp] theorem nox_ok {Ω α : Type} (a : α) (ω : Ω) : nox (.ok a ω) = .ok a ω := rfl
@[simp] theorem nox_no {Ω α : Type} : nox (.no : R Ω α) = .no := rfl
/-- so many arguments -/
def AN {Ω : Type} (Fr : E Ω (List D)) (n : Nat) : Prop := ∀ τ ω xs ω', Fr τ ω = .ok xs ω' → xs.length = n
theorem an_nil : AN (aNil : E Ω (List D)) 0 := fun _ _ _ _ e => by cases e; rfl
theorem an_cons {n : Nat} (h : AN Fr n) : AN (aCons Fa Fr) (n + 1) := fun τ ω xs ω' e => by
  unfold aCons at e
  cases h1 : Fa τ ω with
  | ok x ω1 =>
    rw [h1] at e
    simp only [R.bind_ok] at e
    cases h2 : Fr τ ω1 with
    | ok ys ω2 =>
      rw [h2] at e
      simp only [R.bind_ok] at e
      cases e
      rw [List.length_cons, h _ _ _ _ h2]
    | ex x ω2 => rw [h2] at e; cases e
    | no => rw [h2] at e; cases e
  | ex x ω1 => rw [h1] at e; cases e
  | no => rw [h1] at e; cases e
def cD (F : List D → R Unit D) (a : E Ω (List D)) : E Ω D := fun τ ω => (a τ ω).bind fun xs ω1 => nox (lift (F xs) ω1)
theorem dc_D {n : Nat} {F : List D → R Unit D} (hr : DA G K W tr Fr) (hn : AN Fr n) : DE G K W (tCall (spD K im n F) [] E0 tr) (cD F Fr) := by
  intro H0 σ H ω τ s t Q h
  have hr' := hr H0 σ H ω τ s t
  cases e0 : Fr τ ω with
  | ok xs ω1 =>
    have hl := hn τ ω xs ω1 e0
    unfold cD at h
    rw [e0] at h hr'
    refine hr' _ fun H1 k1 t1 vs r => ?_
    have h1 : Res G (nox (lift (F xs) ω1)) H (kD G K Q) (kX G K W σ) := h
    refine ⟨by rw [List.append_nil, r.length, hl], xs, by rw [List.append_nil]; exact r, ?_⟩
    cases e : F xs with
    | ok d u =>
      rw [e] at h1
      exact fun v H' sm rv => h1 H' (k1.trans (.of sm)) (At.same t1 sm) v rv
    | ex x u => rw [e] at h1; exact h1.elim
    | no => rw [e] at h1; exact h1.elim
  | ex x ω1 =>
    unfold cD at h
    rw [e0] at h hr'
    exact hr' _ h
  | no => unfold cD at h; rw [e0] at h; exact h.elim
/-- the thing itself stands in slot i and is handed on as the first argument -/
def cW (F : List D → Ω → R Ω D) (i : Nat) (a : E Ω (List D)) : E Ω D := fun τ ω => match τ[i]? with
  | some (some .src) => (a τ ω).bind fun xs ω1 => nox (F xs ω1)
  | _ => .no
theorem dc_W {P : Type} {Γ : P → Gam im Ω} {p : P} {n m i : Nat} {F : List D → Ω → R Ω D} {tr : TA} {Fr : E Ω (List D)} (hr : DA (Γ p) K W tr Fr) (hn : AN Fr m) (hm : m + 1 = n := by rfl) :
    DE (Γ p) K W (tCall (spW K Γ n 0 F) [] E0 (tCons (tVar i) tr)) (cW F i Fr) := by
  intro H0 σ H ω τ s t Q h
  unfold cW at h
  split at h
  · rename_i hx
    refine ⟨_, s.getS hx, ?_⟩
    have hr' := hr H0 σ H ω τ s t
    cases e0 : Fr τ ω with
    | ok xs ω1 =>
      have hl := hn τ ω xs ω1 e0
      rw [e0] at h hr'
      refine hr' _ fun H1 k1 t1 vs r => ?_
      have h1 : Res (Γ p) (nox (F xs ω1)) H (kD (Γ p) K Q) (kX (Γ p) K W σ) := h
      refine ⟨by rw [List.append_nil, List.length_cons, r.length, hl, hm], p, ω1, vs, xs, by rw [List.append_nil] <;> rfl, t1, r, ?_⟩
      have h2 := h1.mono k1
      cases e : F xs ω1 with
      | ok d u => rw [e] at h2; exact h2
      | ex x u => rw [e] at h2; exact h2.elim
      | no => rw [e] at h2; exact h2.elim
    | ex x ω1 =>
      rw [e0] at h hr'
      exact hr' _ h
    | no => rw [e0] at h; exact h.elim
  · exact h.elim
end
end DL
namespace DL
open PySem PySem.Spec PyProof.Rows L2
inductive Fl where
  | nx (τ : Tau)
  | rt (d : D)
  | bk (τ : Tau)
  | ct (τ : Tau)
  | rs (x : Exn) (τ : Tau)
  | rl (ds : List D)
section
variable {im : Addr → Bool} {Ω : Type} (G : Gam im Ω) (K : PySem.W.Frag)
abbrev S (Ω : Type) := Tau → Ω → Option (Fl × Ω)
def KS (H0 H : Hp) (D : Ends) (W : WX) : Option (Fl × Ω) → Prop
  | none => False
  | some (.nx τ, ω) => ∀ σ' H', Sb im H H' → STT G K H0 H' σ' τ → G.At ω H' → D.nx σ' H'
  | some (.bk τ, ω) => ∀ σ' H', Sb im H H' → STT G K H0 H' σ' τ → G.At ω H' → D.bk σ' H'
  | some (.ct τ, ω) => ∀ σ' H', Sb im H H' → STT G K H0 H' σ' τ → G.At ω H' → D.ct σ' H'
  | some (.rt d, ω) => ∀ v H', Sb im H H' → Kp G H0 H' → G.At ω H' → Rep K im H' v d → D.rt v H'
  | some (.rs x τ, ω) => ∀ σ' H', Sb im H H' → STT G K H0 H' σ' τ → G.At ω H' → ∀ cls dd, ExRep K im H' cls dd x → W cls dd σ' H'
  | some (.rl ds, ω) => ∀ p vs H', Sb im H H' → Kp G H0 H' → G.At ω H' → H0 p = none → ¬ G.FP p → H' p = some (.lst vs) → RepL K im H' vs ds → D.rt (.ref p) H'
def DS (W : WX) (ts : TS) (F : S Ω) : Prop := ∀ H0 σ H ω τ, STT G K H0 H σ τ → G.At ω H → ∀ D, KS G K H0 H D W (F τ ω) → ts D σ H
variable {G} {K}
theorem KS.mono {H0 H H1 : Hp} {D : Ends} {W : WX} {r : Option (Fl × Ω)} (h : KS G K H0 H D W r) (s : Sb im H H1) : KS G K H0 H1 D W r := by
  rcases r with _ | ⟨fl, ω⟩
  · exact h
  · cases fl with
    | nx τ => exact fun σ' H' sb => h σ' H' (s.trans sb)
    | bk τ => exact fun σ' H' sb => h σ' H' (s.trans sb)
    | ct τ => exact fun σ' H' sb => h σ' H' (s.trans sb)
    | rt d => exact fun v H' sb => h v H' (s.trans sb)
    | rs x τ => exact fun σ' H' sb => h σ' H' (s.trans sb)
    | rl ds => exact fun p vs H' sb => h p vs H' (s.trans sb)
end
section
variable {im : Addr → Bool} {Ω : Type} {G : Gam im Ω} {K : PySem.W.Frag} {W : WX} {te : TE} {Fe : E Ω D} {Fl' : E Ω (List D)} {t u : TS} {Ft Fu : S Ω} {c : TT} {Fc : E Ω Bool}
/-- an expression, then what follows with its value; what it raises leaves -/
def withE {α : Type} (e : E Ω α) (k : α → S Ω) : S Ω := fun τ ω => match e τ ω with
  | .ok a ω1 => k a τ ω1
  | .ex x ω1 => some (.rs x τ, ω1)
  | .no => none
def sNx : S Ω := fun τ ω => some (.nx τ, ω)
def sSeq (a b : S Ω) : S Ω := fun τ ω => match a τ ω with
  | some (.nx τ1, ω1) => b τ1 ω1
  | r => r
def sIf (c : E Ω Bool) (a b : S Ω) : S Ω := withE c fun x => if x then a else b
def sRet (e : E Ω D) : S Ω := withE e fun d _ ω => some (.rt d, ω)
def sRetO (i : Nat) : S Ω := fun τ ω => match τ[i]? with
  | some (some (.ow .L xs)) => some (.rt (.lst xs), ω)
  | _ => none
def sAsg (e : E Ω D) (B : D → Tau → Option Tau) : S Ω := withE e fun d τ ω => (B d τ).map fun τ' => (.nx τ', ω)
def sSetO (e : E Ω (List D)) (i : Nat) : S Ω := withE e fun ds τ ω => some (.nx (τ.set i (some (.ow .L ds))), ω)
def sApp (i : Nat) (e : E Ω D) : S Ω := fun τ ω => match τ[i]? with
  | some (some (.ow .L xs)) => withE e (fun d τ ω => if xs.length ≤ 100000 then some (.nx (τ.set i (some (.ow .L (xs ++ [d])))), ω) else none) τ ω
  | _ => none
theorem withE_kx {α : Type} {e : E Ω α} {k : α → S Ω} {τ : Tau} {ω : Ω} {H0 H : Hp} {σ : L2.St} {D : Ends} (s : STT G K H0 H σ τ) (t : G.At ω H) (h : KS G K H0 H D W (withE e k τ ω)) :
    Res G (e τ ω) H (fun a ω1 H1 => KS G K H0 H1 D W (k a τ ω1)) (kX G K W σ) := by
  unfold withE at h
  cases q : e τ ω with
  | ok a ω1 => rw [q] at h; exact fun H1 k1 t1 => h.mono (k1.sb t)
  | ex x ω1 =>
    rw [q] at h
    exact fun H1 k1 t1 cls dd r => h σ H1 (k1.sb t) (s.step t k1) t1 cls dd r
  | no => rw [q] at h; exact h.elim
theorem ds_nx : DS G K W tNext sNx := fun H0 σ H ω τ s t D h => h σ H .refl s t
theorem ds_seq (ha : DS G K W t Ft) (hb : DS G K W u Fu) : DS G K W (tSeq t u) (sSeq Ft Fu) := by
  intro H0 σ H ω τ s t' D h
  refine ha H0 σ H ω τ s t' _ ?_
  unfold sSeq at h
  cases q : Ft τ ω with
  | none => rw [q] at h; exact h
  | some p =>
    obtain ⟨fl, ω1⟩ := p
    rw [q] at h
    cases fl with
    | nx τ1 => exact fun σ' H' sb s1 t1 => hb H0 σ' H' ω1 τ1 s1 t1 D (h.mono sb)
    | bk τ1 => exact h
    | ct τ1 => exact h
    | rt d => exact h
    | rs x τ1 => exact h
    | rl d => exact h
theorem ds_if (hc : DT G K W c Fc) (ha : DS G K W t Ft) (hb : DS G K W u Fu) : DS G K W (tIfS c t u) (sIf Fc Ft Fu) := by
  intro H0 σ H ω τ s t' D h
  refine hc H0 σ H ω τ s t' _ (Res.imp (withE_kx s t' h) (fun x ω1 H1 k1 t1 h1 => ?_) fun _ _ _ _ _ q => q)
  cases x with
  | true => exact ha H0 σ H1 ω1 τ (s.step t' k1) t1 D h1
  | false => exact hb H0 σ H1 ω1 τ (s.step t' k1) t1 D h1
theorem ds_ret (he : DE G K W te Fe) : DS G K W (tRet te) (sRet Fe) := by
  intro H0 σ H ω τ s t' D h
  exact he H0 σ H ω τ s t' _ (Res.imp (withE_kx s t' h) (fun x ω1 H1 k1 t1 h1 v r => h1 v H1 .refl (s.step t' k1).fr t1 r) fun _ _ _ _ _ q => q)
theorem ds_retO {i : Nat} : DS G K W (tRet (tFrz (tVar i))) (sRetO i) := by
  intro H0 σ H ω τ s t D h
  unfold sRetO at h
  split at h
  · rename_i xs hx
    obtain ⟨l, vs, e, h1, h2, h3, h4⟩ := s.getO hx
    refine ⟨_, e, l, vs, rfl, h1, fun o => ?_⟩
    have sb : Sb im H (upd H l (.frz o (.lst vs))) := fun b u eb st => by
      have : b ≠ l := fun q => by subst q; rw [h1] at eb; cases eb; exact st
      rw [upd_ne this]; exact eb
    refine h _ _ sb (fun b u eb nf => ?_) (G.keep t (fun b u f eb => ?_) sb) (.lst ⟨o, upd_same⟩ (h2.up sb))
    · have k := s.fr b u eb nf
      have : b ≠ l := fun q => by subst q; rw [h3] at eb; cases eb
      rw [upd_ne this]; exact k
    · have : b ≠ l := fun q => h4 (q ▸ f)
      rw [upd_ne this]; exact eb
  · exact h.elim
def DG (G : Gam im Ω) (K : PySem.W.Frag) (g : TG) (sl : List Nat) (B : D → Tau → Option Tau) : Prop := ∀ H0 σ H τ v d τ', STT G K H0 H σ τ → Rep K im H v d → B d τ = some τ' →
  ∀ Q : L2.St → Hp → Prop, (∀ σ', STT G K H0 H σ' τ' → (∀ j, j ∉ sl → σ'[j]? = σ[j]?) → σ'.length = σ.length → Q σ' H) → g v σ H Q
def DGs (G : Gam im Ω) (K : PySem.W.Frag) (g : TGs) (sl : List Nat) (B : List D → Tau → Option Tau) : Prop := ∀ H0 σ H τ vs ds τ', STT G K H0 H σ τ → RepL K im H vs ds → B ds τ = some τ' →
  ∀ Q : L2.St → Hp → Prop, (∀ σ', STT G K H0 H σ' τ' → (∀ j, j ∉ sl → σ'[j]? = σ[j]?) → σ'.length = σ.length → Q σ' H) → g vs σ H Q
def bName (i : Nat) : D → Tau → Option Tau := fun d τ => some (τ.set i (some (.d d)))
def bNil : List D → Tau → Option Tau := fun ds τ => match ds with
  | [] => some τ
  | _ => none
def bCons (b : D → Tau → Option Tau) (r : List D → Tau → Option Tau) : List D → Tau → Option Tau := fun ds τ => match ds with
  | d :: ds => (b d τ).bind (r ds)
  | [] => none
def bTup (n : Nat) (r : List D → Tau → Option Tau) : D → Tau → Option Tau := fun d τ => match d with
  | .tup ds => if ds.length = n then r ds τ else none
  | .lst ds => if ds.length = n then r ds τ else none
  | _ => none
theorem dg_name {i : Nat} : DG G K (gName i) [i] (bName i) := by
  intro H0 σ H τ v d τ' s r e Q q
  cases e
  exact q _ (s.setD r i) (fun j hj => by rw [List.getElem?_set_ne]; intro z; exact hj (by simp [z])) (by simp)
theorem dgs_nil : DGs G K gNil [] bNil := by
  intro H0 σ H τ vs ds τ' s r e Q q
  cases ds with
  | nil => cases e; cases r; exact ⟨rfl, q σ s (fun _ _ => rfl) rfl⟩
  | cons d ds => cases e
theorem dgs_cons {g : TG} {gs : TGs} {sl sl' : List Nat} {b : D → Tau → Option Tau} {r : List D → Tau → Option Tau} (h1 : DG G K g sl b) (h2 : DGs G K gs sl' r) : DGs G K (gCons g gs) (sl ++ sl') (bCons b r) := by
  intro H0 σ H τ vs ds τ' s r' e Q q
  cases ds with
  | nil => cases e
  | cons d ds =>
    cases r' with
    | @cons v vs _ _ ra rb =>
      obtain ⟨τ1, e1, e2⟩ := Option.bind_eq_some_iff.mp e
      refine ⟨v, vs, rfl, h1 H0 σ H τ v d τ1 s ra e1 _ fun σ1 s1 f1 l1 => ?_⟩
      refine h2 H0 σ1 H τ1 vs ds τ' s1 rb e2 Q fun σ2 s2 f2 l2 => q σ2 s2 (fun j hj => ?_) (l2.trans l1)
      rw [List.mem_append, not_or] at hj
      rw [f2 j hj.2, f1 j hj.1]
/-- a tuple or a list is taken apart -/
def gSq (K : PySem.W.Frag) (n : Nat) (gs : TGs) : TG := fun v σ H Q => gTup K n gs v σ H Q ∨ gLst K n gs v σ H Q
theorem pg_sq {X : Cx} {pos : Pos} {es : List Expr} {k : Nat} {t : TGs} {n : Nat} (hc : X.calm = true) (h : PGs X es t)
    (hn : (assignEach es X.env).length = n := by rfl) (hst : (assignEach es X.env).findIdx? (·.1) = none := by rfl) : PG X (.Tuple es k pos) (gSq X.K n t) :=
  ⟨fun pins s σ H v u Q I r hw => hw.elim (fun q => (pg_tup (k := k) (pos := pos) hc h hn hst).run pins s σ H v u Q I r q) (fun q => (pg_lst (k := k) (pos := pos) hc h hn hst).run pins s σ H v u Q I r q)⟩
theorem dg_tup {n : Nat} {gs : TGs} {sl : List Nat} {r : List D → Tau → Option Tau} (h : DGs G K gs sl r) : DG G K (gSq K n gs) sl (bTup n r) := by
  intro H0 σ H τ v d τ' s r' e Q q
  cases r' with
  | @tup a vs ds h1 h2 =>
    simp only [bTup, Option.ite_none_right_eq_some] at e
    obtain ⟨hl, e⟩ := e
    exact .inl ⟨a, vs, rfl, h1, by rw [h2.length]; exact hl, h H0 σ H τ vs ds τ' s h2 e Q q⟩
  | @lst a vs ds h1 h2 =>
    simp only [bTup, Option.ite_none_right_eq_some] at e
    obtain ⟨hl, e⟩ := e
    exact .inr ⟨a, vs, rfl, h1.l, by rw [h2.length]; exact hl, h H0 σ H τ vs ds τ' s h2 e Q q⟩
  | _ => cases e
theorem ds_asg {g : TG} {sl : List Nat} {B : D → Tau → Option Tau} (he : DE G K W te Fe) (hg : DG G K g sl B) : DS G K W (tAsg te g) (sAsg Fe B) := by
  intro H0 σ H ω τ s t' D h
  refine he H0 σ H ω τ s t' _ (Res.imp (withE_kx s t' h) (fun d ω1 H1 k1 t1 h1 v r => ?_) fun _ _ _ _ _ q => q)
  cases e : B d τ with
  | none => rw [e] at h1; exact h1.elim
  | some τ' =>
    rw [e] at h1
    exact hg H0 σ H1 τ v d τ' (s.step t' k1) r e D.nx fun σ' s' _ _ => h1 σ' H1 .refl s' t1
theorem ds_setO {i : Nat} (he : DL G K W te Fl') : DS G K W (tAsg te (gName i)) (sSetO Fl' i) := by
  intro H0 σ H ω τ s t' D h
  refine he H0 σ H ω τ s t' _ (Res.imp (withE_kx s t' h) (fun ds ω1 H1 k1 t1 h1 p vs hp hl r => ?_) fun _ _ _ _ _ q => q)
  exact h1 _ H1 .refl (s.setO t' hp k1 hl r i) t1
theorem ds_app {i : Nat} (he : DE G K W te Fe) : DS G K W (tDrop (tBM K "list" rAppend (tVar i) (tCons te tNil))) (sApp i Fe) := by
  intro H0 σ H ω τ s t' D h
  unfold sApp at h
  split at h
  · rename_i xs hx
    obtain ⟨l, vs, e, h1, h2, h3, h4⟩ := s.getO hx
    refine ⟨_, e, .inl ⟨rfl, vs, SqL.of h1⟩, ?_⟩
    refine he H0 σ H ω τ s t' _ (Res.imp (withE_kx s t' h) (fun d ω1 H1 k1 t1 h1' v r => ?_) fun _ _ _ _ _ q => q)
    split at h1'
    · rename_i hlen
      have hl1 : H1 l = some (.lst vs) := k1 _ _ h1 h4
      have rr : RepL K im H1 (vs ++ [v]) (xs ++ [d]) := (h2.up (k1.sb t')).append (.one r)
      obtain ⟨s2, t2, sb⟩ := (s.step t' k1).mutO t1 hx e ⟨vs, hl1⟩ rr
      refine ⟨l, vs, v, rfl, rfl, hl1, Nat.lt_of_le_of_lt (by rw [h2.length]; exact hlen) (by rw [sizeLine_eq]; decide), h1' σ _ sb s2 t2⟩
    · exact h1'.elim
  · exact h.elim
def Yields (im : Addr → Bool) (K : PySem.W.Frag) (J : It) (H : Hp) (ds : List D) : Prop := ∀ (i : Nat) (H' : Hp), Sb im H H' →
  (∀ d, ds[i]? = some d → J.go i H' ∧ ∀ x H3, J.yld i H' x H3 → Same H' H3 ∧ Rep K im H3 x d) ∧ (ds.length ≤ i → J.stop i H')
def DI (G : Gam im Ω) (K : PySem.W.Frag) (W : WX) (wi : TI) (F : E Ω (List D)) : Prop := ∀ H0 σ H ω τ, STT G K H0 H σ τ → G.At ω H → ∀ R : It → Hp → Prop,
  Res G (F τ ω) H (fun ds _ H' => ∀ J, Yields im K J H' ds → R J H') (kX G K W σ) → wi σ H R
theorem yields_list {a : Addr} {H : Hp} {vs : List V} {ds : List D} (h1 : SqZ H a vs) (h2 : RepL K im H vs ds) : Yields im K (Itl K a) H ds := by
  intro i H' sb
  have q := sb.sqZ h1
  have r := h2.up sb
  refine ⟨fun d hd => ?_, fun hi => ⟨vs, q.l, by rw [r.length]; exact hi⟩⟩
  obtain ⟨v, hv, rv⟩ := r.get hd
  refine ⟨⟨vs, v, q.l, hv⟩, fun x H3 y => ?_⟩
  obtain ⟨rfl, y⟩ := y
  have := y vs q.l
  rw [hv] at this; cases this
  exact ⟨Same.refl _, rv⟩
theorem yields_tup {a : Addr} {H : Hp} {vs : List V} {ds : List D} (h1 : SqT K H a vs) (h2 : RepL K im H vs ds) : Yields im K (Itt K a) H ds := by
  intro i H' sb
  have q := sb.sqT h1
  have r := h2.up sb
  refine ⟨fun d hd => ?_, fun hi => ⟨vs, q, by rw [r.length]; exact hi⟩⟩
  obtain ⟨v, hv, rv⟩ := r.get hd
  refine ⟨⟨vs, v, q, hv⟩, fun x H3 y => ?_⟩
  obtain ⟨rfl, y⟩ := y
  have := y vs q
  rw [hv] at this; cases this
  exact ⟨Same.refl _, rv⟩
/-- lo, lo + c, .. -/
def rangeL (lo c : Int) : Nat → List D
  | 0 => []
  | n + 1 => .int lo :: rangeL (lo + c) c n
theorem rangeL_len (c : Int) : ∀ (n : Nat) (lo : Int), (rangeL lo c n).length = n
  | 0, _ => rfl
  | n + 1, lo => by rw [rangeL, List.length_cons, rangeL_len c n]
theorem rangeL_get (c : Int) : ∀ (n : Nat) (lo : Int) (i : Nat) (d : D), (rangeL lo c n)[i]? = some d → d = .int (lo + i * c) ∧ i < n
  | 0, _, i, d, h => by simp [rangeL] at h
  | n + 1, lo, 0, d, h => by
    simp [rangeL] at h
    subst h
    exact ⟨by simp, by omega⟩
  | n + 1, lo, i + 1, d, h => by
    simp only [rangeL, List.getElem?_cons_succ] at h
    obtain ⟨h1, h2⟩ := rangeL_get c n _ i d h
    refine ⟨?_, by omega⟩
    rw [h1]
    congr 1
    have : ((i + 1 : Nat) : Int) * c = (i : Int) * c + c := by rw [Int.natCast_add, Int.add_mul]; simp
    rw [this]; omega
def rg1 : List D → Option (List D)
  | [.int j] => if -(2 ^ 62) ≤ j ∧ j < 2 ^ 62 then some (rangeL 0 1 j.toNat) else none
  | _ => none
def rg2 : List D → Option (List D)
  | [.int i, .int j] => if -(2 ^ 62) ≤ i ∧ i < 2 ^ 62 ∧ -(2 ^ 62) ≤ j ∧ j < 2 ^ 62 then some (rangeL i 1 (j - i).toNat) else none
  | _ => none
def iRg (f : List D → Option (List D)) (a : E Ω (List D)) : E Ω (List D) := fun τ ω => (a τ ω).bind fun x ω1 => .ofO (f x) ω1
theorem yields_range {H : Hp} {lo : Int} {n : Nat} : Yields im K (Itr lo n) H (rangeL lo 1 n) := by
  intro i H' sb
  refine ⟨fun d hd => ?_, fun hi => by rw [rangeL_len] at hi; exact hi⟩
  obtain ⟨rfl, hi⟩ := rangeL_get 1 n lo i d hd
  refine ⟨hi, fun x H3 y => ?_⟩
  obtain ⟨rfl, rfl⟩ := y
  rw [Int.mul_one]
  exact ⟨Same.refl _, .int _⟩
theorem di_rg1 {ta : TA} {Fr : E Ω (List D)} (ha : DA G K W ta Fr) : DI G K W (iRng1 ta) (iRg rg1 Fr) := by
  intro H0 σ H ω τ s t' R h
  refine ha H0 σ H ω τ s t' _ (Res.imp (Res.bind h) (fun xs ω1 H1 k1 t1 h1 vs r => ?_) fun _ _ _ _ _ q => q)
  cases e : rg1 xs with
  | none => rw [e] at h1; exact h1.elim
  | some ds =>
    rw [e] at h1
    unfold rg1 at e
    split at e
    · cases r with
      | cons ra rb =>
        cases ra
        cases rb
        simp only [Option.ite_none_right_eq_some] at e
        obtain ⟨⟨e1, e2⟩, e3⟩ := e
        cases e3
        exact ⟨_, rfl, e1, e2, h1 H1 k1 t1 _ yields_range⟩
    · cases e
theorem di_rg2 {ta : TA} {Fr : E Ω (List D)} (ha : DA G K W ta Fr) : DI G K W (iRng2 ta) (iRg rg2 Fr) := by
  intro H0 σ H ω τ s t' R h
  refine ha H0 σ H ω τ s t' _ (Res.imp (Res.bind h) (fun xs ω1 H1 k1 t1 h1 vs r => ?_) fun _ _ _ _ _ q => q)
  cases e : rg2 xs with
  | none => rw [e] at h1; exact h1.elim
  | some ds =>
    rw [e] at h1
    unfold rg2 at e
    split at e
    · cases r with
      | cons ra rb =>
        cases ra
        cases rb with
        | cons rb rc =>
          cases rb
          cases rc
          simp only [Option.ite_none_right_eq_some] at e
          obtain ⟨⟨e1, e2, e4, e5⟩, e3⟩ := e
          cases e3
          exact ⟨_, _, rfl, ⟨e1, e2, e4, e5⟩, h1 H1 k1 t1 _ yields_range⟩
    · cases e
def loop (B : D → Tau → Option Tau) (F : S Ω) : List D → S Ω
  | [] => fun τ ω => some (.nx τ, ω)
  | d :: ds => fun τ ω => match B d τ with
    | none => none
    | some τ1 => match F τ1 ω with
      | some (.nx τ2, ω2) => loop B F ds τ2 ω2
      | some (.ct τ2, ω2) => loop B F ds τ2 ω2
      | some (.bk τ2, ω2) => some (.nx τ2, ω2)
      | r => r
def sFor (i : E Ω (List D)) (B : D → Tau → Option Tau) (F : S Ω) : S Ω := withE i fun ds => loop B F ds
theorem ds_for {wi : TI} {Fi : E Ω (List D)} {g : TG} {sl : List Nat} {B : D → Tau → Option Tau} (hi : DI G K W wi Fi) (hg : DG G K g sl B) (hb : DS G K W t Ft) : DS G K W (tFor wi g t) (sFor Fi B Ft) := by
  intro H0 σ H ω τ s t' D h
  refine hi H0 σ H ω τ s t' _ (Res.imp (withE_kx s t' h) (fun ds ω1 H1 k1 t1 h1 J y => ?_) fun _ _ _ _ _ q => q)
  refine ⟨fun i m σ' H' => m = ds.length - i ∧ i ≤ ds.length ∧ ∃ τ' ω', Sb im H1 H' ∧ STT G K H0 H' σ' τ' ∧ G.At ω' H' ∧ KS G K H0 H' D W (loop B Ft (ds.drop i) τ' ω'),
    ⟨ds.length, by simp, Nat.zero_le _, τ, ω1, .refl, s.step t' k1, t1, by simpa using h1⟩, ?_⟩
  rintro i m σ' H' ⟨rfl, hle, τ', ω', sb, s', t2, ks⟩
  by_cases hlt : i < ds.length
  · refine .inr ?_
    have hd : ds[i]? = some ds[i] := List.getElem?_eq_getElem hlt
    obtain ⟨go, yl⟩ := (y i H' sb).1 _ hd
    have hdrop : ds.drop i = ds[i] :: ds.drop (i + 1) := List.drop_eq_getElem_cons hlt
    rw [hdrop] at ks
    refine ⟨go, fun σ2 H2 => ∃ τ2 ω2, Sb im H1 H2 ∧ STT G K H0 H2 σ2 τ2 ∧ G.At ω2 H2 ∧ KS G K H0 H2 D W (loop B Ft (ds.drop (i + 1)) τ2 ω2), fun σ2 H2 ⟨τ2, ω2, a, b, c, d⟩ => ⟨_, by omega, rfl, hlt, τ2, ω2, a, b, c, d⟩, fun x H3 yx => ?_⟩
    obtain ⟨sm, rx⟩ := yl x H3 yx
    have s3 := s'.step t2 (.of sm)
    have t3 := At.same t2 sm
    unfold loop at ks
    cases eB : B ds[i] τ' with
    | none => rw [eB] at ks; exact ks.elim
    | some τ1 =>
      rw [eB] at ks
      have ks := ks.mono (Sb.of sm)
      refine hg H0 σ' H3 τ' x _ τ1 s3 rx eB _ fun σ4 s4 _ _ => ?_
      refine hb H0 σ4 H3 ω' τ1 s4 t3 _ ?_
      have base := sb.trans (Sb.of (im := im) sm)
      simp only at ks
      cases eF : Ft τ1 ω' with
      | none => rw [eF] at ks; exact ks.elim
      | some p =>
        obtain ⟨fl, ω5⟩ := p
        rw [eF] at ks
        cases fl with
        | nx τ5 => exact fun σ6 H6 sb6 s6 t6 => ⟨τ5, ω5, base.trans sb6, s6, t6, ks.mono sb6⟩
        | ct τ5 => exact fun σ6 H6 sb6 s6 t6 => ⟨τ5, ω5, base.trans sb6, s6, t6, ks.mono sb6⟩
        | bk τ5 => exact fun σ6 H6 sb6 s6 t6 => ks σ6 H6 sb6 s6 t6
        | rt d => exact ks
        | rs x τ5 => exact ks
        | rl d => exact ks
  · refine .inl ⟨(y i H' sb).2 (by omega), ?_⟩
    have : ds.drop i = [] := List.drop_eq_nil_of_le (by omega)
    rw [this] at ks
    exact ks σ' H' .refl s' t2
def wloop (c : E Ω Bool) (F : S Ω) : Nat → S Ω
  | 0 => fun _ _ => none
  | n + 1 => withE c fun b τ ω => if b then match F τ ω with
      | some (.nx τ2, ω2) => wloop c F n τ2 ω2
      | some (.ct τ2, ω2) => wloop c F n τ2 ω2
      | some (.bk τ2, ω2) => some (.nx τ2, ω2)
      | r => r
    else some (.nx τ, ω)
def sWhile (n : Tau → Ω → Nat) (c : E Ω Bool) (F : S Ω) : S Ω := fun τ ω => wloop c F (n τ ω) τ ω
theorem ds_while {n : Tau → Ω → Nat} (hc : DT G K W c Fc) (hb : DS G K W t Ft) : DS G K W (tWhile c t) (sWhile n Fc Ft) := by
  intro H0 σ H ω τ s t' D h
  refine ⟨fun m σ' H' => ∃ τ' ω', STT G K H0 H' σ' τ' ∧ G.At ω' H' ∧ KS G K H0 H' D W (wloop Fc Ft m τ' ω'), ⟨n τ ω, τ, ω, s, t', h⟩, ?_⟩
  rintro m σ' H' ⟨τ', ω', s', t2, ks⟩
  cases m with
  | zero => exact ks.elim
  | succ m =>
    unfold wloop at ks
    refine hc H0 σ' H' ω' τ' s' t2 _ (Res.imp (withE_kx s' t2 ks) (fun b ω1 H1 k1 t1 h1 => ?_) fun _ _ _ _ _ q => q)
    have s1 := s'.step t2 k1
    cases b with
    | false => exact h1 σ' H1 .refl s1 t1
    | true =>
      refine ⟨fun σ2 H2 => ∃ τ2 ω2, STT G K H0 H2 σ2 τ2 ∧ G.At ω2 H2 ∧ KS G K H0 H2 D W (wloop Fc Ft m τ2 ω2), fun σ2 H2 q => ⟨m, Nat.lt_succ_self m, q⟩, ?_⟩
      refine hb H0 σ' H1 ω1 τ' s1 t1 _ ?_
      simp only [if_true] at h1
      cases eF : Ft τ' ω1 with
      | none => rw [eF] at h1; exact h1.elim
      | some p =>
        obtain ⟨fl, ω5⟩ := p
        rw [eF] at h1
        cases fl with
        | nx τ5 => exact fun σ6 H6 sb6 s6 t6 => ⟨τ5, ω5, s6, t6, KS.mono (r := wloop Fc Ft m τ5 ω5) h1 sb6⟩
        | ct τ5 => exact fun σ6 H6 sb6 s6 t6 => ⟨τ5, ω5, s6, t6, KS.mono (r := wloop Fc Ft m τ5 ω5) h1 sb6⟩
        | bk τ5 => exact h1
        | rt d => exact h1
        | rs x τ5 => exact h1
        | rl d => exact h1
end
end DL
namespace DL
open PySem PySem.Spec PyProof.Rows L2
def wipeT (τ : Tau) : List Nat → Tau
  | [] => τ
  | v :: vs => (wipeT τ vs).set v none
section
variable {im : Addr → Bool} {Ω : Type} {G : Gam im Ω} {K : PySem.W.Frag} {W W' : WX} {te : TE} {Fe : E Ω D} {tt : TT} {Ft : E Ω Bool}
theorem STT.setN {H0 H : Hp} {σ : L2.St} {τ : Tau} (s : STT G K H0 H σ τ) (i : Nat) (v : Option V) : STT G K H0 H (σ.set i v) (τ.set i none) := by
  refine ⟨by simp [s.len], fun j w c e1 e2 => ?_, fun j k l _ _ xs ys hjk e1 e2 e3 e4 => ?_, s.fr⟩
  · by_cases hj : i = j
    · subst hj
      have hi : i < σ.length := by simpa using (List.getElem?_eq_some_iff.mp e1).1
      rw [List.getElem?_set_self (by rw [← s.len]; exact hi)] at e2
      cases e2
      exact .un
    · rw [List.getElem?_set_ne hj] at e1 e2
      exact s.ok j w c e1 e2
  · have a : i ≠ j := fun q => by
      subst q
      have hi : i < τ.length := by simpa using (List.getElem?_eq_some_iff.mp e2).1
      rw [List.getElem?_set_self hi] at e2
      cases e2
    have b : i ≠ k := fun q => by
      subst q
      have hi : i < τ.length := by simpa using (List.getElem?_eq_some_iff.mp e4).1
      rw [List.getElem?_set_self hi] at e4
      cases e4
    rw [List.getElem?_set_ne a] at e1 e2
    rw [List.getElem?_set_ne b] at e3 e4
    exact s.dj j k l xs ys hjk e1 e2 e3 e4
theorem STT.wipe {H0 H : Hp} {σ : L2.St} {τ : Tau} (s : STT G K H0 H σ τ) : ∀ vs : List Nat, STT G K H0 H (wipe σ vs) (wipeT τ vs)
  | [] => s
  | v :: vs => (STT.wipe s vs).setN v none
theorem wipe_get (σ : L2.St) : ∀ (vs : List Nat) (i : Nat), (wipe σ vs)[i]? = if i ∈ vs ∧ i < σ.length then some none else σ[i]?
  | [], i => by simp [wipe]
  | v :: vs, i => by
    unfold wipe
    by_cases hv : v = i
    · subst hv
      by_cases hl : v < σ.length
      · rw [List.getElem?_set_self (by rw [wipe_length]; exact hl), if_pos ⟨by simp, hl⟩]
      · rw [List.getElem?_eq_none (by rw [List.length_set, wipe_length]; omega), if_neg (fun h => hl h.2), List.getElem?_eq_none (by omega)]
    · rw [List.getElem?_set_ne hv, wipe_get σ vs i]
      have e : i ∈ v :: vs ↔ i ∈ vs := by simp [Ne.symm hv]
      simp only [e]
theorem wipe_ext {σ σ' : L2.St} {vs : List Nat} (h : ∀ j, j ∉ vs → σ'[j]? = (L2.wipe σ vs)[j]?) (hl : σ'.length = (L2.wipe σ vs).length) : L2.wipe σ' vs = L2.wipe σ vs := by
  apply List.ext_getElem?
  intro i
  rw [wipe_get, wipe_get]
  rw [wipe_length] at hl
  rw [hl]
  split
  · rfl
  · rename_i hn
    by_cases hm : i ∈ vs
    · have : ¬ i < σ.length := fun z => hn ⟨hm, z⟩
      rw [List.getElem?_eq_none (by omega), List.getElem?_eq_none (by omega)]
    · rw [h i hm, wipe_get, if_neg (fun z => hm z.1)]
def lcL (B : D → Tau → Option Tau) (Ft : E Ω Bool) (Fe : E Ω D) (τ : Tau) : List D → Ω → R Ω (List D)
  | [], ω => .ok [] ω
  | d :: ds, ω => match B d τ with
    | none => .no
    | some τ1 => (nox (Ft τ1 ω)).bind fun b ω1 => if b then (nox (Fe τ1 ω1)).bind fun x ω2 => (lcL B Ft Fe τ ds ω2).bind fun xs ω3 => .ok (x :: xs) ω3 else lcL B Ft Fe τ ds ω1
def eLc (vs : List Nat) (i : E Ω (List D)) (B : D → Tau → Option Tau) (Ft : E Ω Bool) (Fe : E Ω D) : E Ω (List D) := fun τ ω => (i τ ω).bind fun ds ω1 => if ds.length ≤ sizeLine then nox (lcL B Ft Fe (wipeT τ vs) ds ω1) else .no
theorem nox_eq {α : Type} {r : R Ω α} {a : α} {ω : Ω} (h : nox r = .ok a ω) : r = .ok a ω := by
  cases r <;> simp [nox] at h
  obtain ⟨rfl, rfl⟩ := h; rfl
theorem bind_eq {α β : Type} {r : R Ω α} {f : α → Ω → R Ω β} {b : β} {ω : Ω} (h : r.bind f = .ok b ω) : ∃ a ω1, r = .ok a ω1 ∧ f a ω1 = .ok b ω := by
  cases r with
  | ok a ω1 => exact ⟨a, ω1, rfl, h⟩
  | ex x ω1 => cases h
  | no => cases h
theorem dl_lc {wi : TI} {Fi : E Ω (List D)} {g : TG} {sl vs : List Nat} {B : D → Tau → Option Tau} (hi : DI G K W wi Fi) (hg : DG G K g sl B) (ht : DT G K W' tt Ft) (he : DE G K W' te Fe) (hsl : ∀ j, j ∉ vs → j ∉ sl) : DL G K W (tLc wi g tt te vs) (eLc vs Fi B Ft Fe) := by
  intro H0 σ H ω τ s t' Q h
  refine hi H0 σ H ω τ s t' _ (Res.imp (Res.bind h) (fun ds ω1 H1 k1 t1 h1 J y => ?_) fun _ _ _ _ _ q => q)
  have hlen : ds.length ≤ sizeLine := by
    by_cases hq : ds.length ≤ sizeLine
    · exact hq
    · rw [if_neg hq] at h1; exact h1.elim
  rw [if_pos hlen] at h1
  cases e0 : lcL B Ft Fe (wipeT τ vs) ds ω1 with
  | no => rw [e0] at h1; exact h1.elim
  | ex x u => rw [e0] at h1; exact h1.elim
  | ok total ωe =>
  rw [e0] at h1
  intro p hp
  have nf : ¬ G.FP p := fun f => G.trk t1 p f hp
  have hp0 : H p = none := by
    cases e : H p with
    | none => rfl
    | some o => have := k1 p o e nf; rw [hp] at this; cases this
  refine ⟨fun i m H' => m = ds.length - i ∧ i ≤ ds.length ∧ ∃ ω' acc accd rest, Kp G H1 H' ∧ H' p = some (.lst acc) ∧ RepL K im H' acc accd ∧ G.At ω' H' ∧ lcL B Ft Fe (wipeT τ vs) (ds.drop i) ω' = .ok rest ωe ∧ accd ++ rest = total ∧ acc.length ≤ i,
    ⟨ds.length, by simp, Nat.zero_le _, ω1, [], [], total, .of (Same.new hp), upd_same, .nil, At.same t1 (Same.new hp), by simpa using e0, rfl, Nat.le_refl _⟩, ?_⟩
  rintro i m H' ⟨rfl, hle, ω', acc, accd, rest, kp, hpl, racc, t2, el, eapp, hacc⟩
  have sb1 : Sb im H1 H' := kp.sb t1
  by_cases hlt : i < ds.length
  · refine .inr ?_
    have hd : ds[i]? = some ds[i] := List.getElem?_eq_getElem hlt
    obtain ⟨go, yl⟩ := (y i H' sb1).1 _ hd
    have hdrop : ds.drop i = ds[i] :: ds.drop (i + 1) := List.drop_eq_getElem_cons hlt
    rw [hdrop] at el
    unfold lcL at el
    cases eB : B ds[i] (wipeT τ vs) with
    | none => rw [eB] at el; cases el
    | some τ1 =>
    rw [eB] at el
    obtain ⟨b, ω5, ef, el⟩ := bind_eq el
    have ef := nox_eq ef
    refine ⟨go, fun H'' => ∃ m', m' = ds.length - (i + 1) ∧ i + 1 ≤ ds.length ∧ ∃ ω' acc accd rest, Kp G H1 H'' ∧ H'' p = some (.lst acc) ∧ RepL K im H'' acc accd ∧ G.At ω' H'' ∧ lcL B Ft Fe (wipeT τ vs) (ds.drop (i + 1)) ω' = .ok rest ωe ∧ accd ++ rest = total ∧ acc.length ≤ i + 1,
      fun H'' ⟨m', e, a⟩ => ⟨m', by omega, e, a⟩, fun x H3 yx => ?_⟩
    obtain ⟨sm, rx⟩ := yl x H3 yx
    have s3 : STT G K H0 H3 (L2.wipe σ vs) (wipeT τ vs) := ((((s.step t' k1).step t1 kp).step t2 (.of sm))).wipe vs
    have t3 := At.same t2 sm
    refine hg H0 (L2.wipe σ vs) H3 (wipeT τ vs) x _ τ1 s3 rx eB _ fun σ4 s4 f4 l4 => ⟨wipe_ext (fun j hj => f4 j (hsl j hj)) l4, ?_⟩
    refine ht H0 σ4 H3 ω' τ1 s4 t3 _ ?_
    rw [ef]
    intro H5 k5 t5
    have kk : Kp G H1 H5 := (kp.trans (.of sm)).trans k5
    have hp5 : H5 p = some (.lst acc) := k5 p _ (sm p _ hpl) nf
    have sb5 : Sb im H' H5 := (Sb.of sm).trans (k5.sb t3)
    cases b with
    | false =>
      simp only [Bool.false_eq_true, if_false] at el ⊢
      exact ⟨_, rfl, hlt, ω5, acc, accd, rest, kk, hp5, racc.up sb5, t5, el, eapp, by omega⟩
    | true =>
      simp only [if_true] at el ⊢
      obtain ⟨z, ω6, ee, el⟩ := bind_eq el
      have ee := nox_eq ee
      obtain ⟨rest', ω7, el2, er⟩ := bind_eq el
      cases er
      refine he H0 σ4 H5 ω5 τ1 (s4.step t3 k5) t5 _ ?_
      rw [ee]
      intro H6 k6 t6 v rv
      have hp6 : H6 p = some (.lst acc) := k6 p _ hp5 nf
      have sb6 : Sb im H' H6 := sb5.trans (k6.sb t5)
      have sbu : Sb im H6 (upd H6 p (.lst (acc ++ [v]))) := fun c u eb st => by
        have : c ≠ p := fun q => by subst q; rw [hp6] at eb; cases eb; exact st
        rw [upd_ne this]; exact eb
      refine ⟨acc, hp6, Nat.lt_of_lt_of_le (Nat.lt_of_le_of_lt hacc hlt) hlen, _, rfl, hlt, ω6, acc ++ [v], accd ++ [z], rest', fun c u eb nfc => ?_, upd_same, ((racc.up sb6).append (.one rv)).up sbu, G.keep t6 (fun c u f eb => ?_) sbu, el2, by rw [List.append_assoc]; exact eapp, by rw [List.length_append, List.length_singleton]; omega⟩
      · have : c ≠ p := fun q => by subst q; rw [hp] at eb; cases eb
        rw [upd_ne this]; exact k6 c u (kk c u eb nfc) nfc
      · have : c ≠ p := fun q => nf (q ▸ f)
        rw [upd_ne this]; exact eb
  · refine .inl ⟨(y i H' sb1).2 (by omega), ?_⟩
    have e1 : ds.drop i = [] := List.drop_eq_nil_of_le (by omega)
    rw [e1] at el
    unfold lcL at el
    cases el
    rw [List.append_nil] at eapp
    subst eapp
    exact h1 H' (k1.trans kp) t2 p acc hp0 hpl racc
end
section
variable {im : Addr → Bool} {P : Program} {w : World} {K : PySem.W.Frag} {mg : Str → Option Value} {base : Heap}
def startT (N : Nat) (cs : List Cell) : Tau := cs.map some ++ List.replicate (N - cs.length) none
/-- what a body gives -/
def runS {Ω : Type} (F : S Ω) (τ : Tau) (ω : Ω) : R Ω D := match F τ ω with
  | some (.rt d, ω') => .ok d ω'
  | some (.nx _, ω') => .ok .non ω'
  | some (.rs x _, ω') => .ex x ω'
  | _ => .no
theorem stt_start {Ω : Type} {G : Gam im Ω} {H : Hp} : ∀ {vs : List V} {cs : List Cell}, vs.length = cs.length → (∀ (i : Nat) v c, vs[i]? = some v → cs[i]? = some c → SlotOk G K H H (some v) (some c)) → (∀ c ∈ cs, ∀ k xs, c ≠ .ow k xs) → ∀ (n : Nat), STT G K H H (vs.map some ++ List.replicate (n - vs.length) none) (startT n cs) := by
  intro vs cs hl h ho n
  have no : ∀ (i : Nat) (k : OKd) (xs : List D), (startT n cs)[i]? ≠ some (some (.ow k xs)) := fun i k xs e => by
    unfold startT at e
    by_cases hi : i < cs.length
    · rw [List.getElem?_append_left (by simpa using hi), List.getElem?_map] at e
      cases q : cs[i]? with
      | none => rw [q] at e; cases e
      | some c =>
        rw [q] at e
        simp at e
        exact ho c (List.mem_of_getElem? q) k xs e
    · rw [List.getElem?_append_right (by simpa using hi)] at e
      rw [List.getElem?_replicate] at e
      split at e <;> cases e
  refine ⟨by unfold startT; simp [hl], fun i v c e1 e2 => ?_, fun i j l _ _ xs ys _ _ e2 _ _ => absurd e2 (no i _ xs), .refl⟩
  unfold startT at e2
  by_cases hi : i < cs.length
  · rw [List.getElem?_append_left (by simpa using hi), List.getElem?_map] at e2
    rw [List.getElem?_append_left (by simpa [hl] using hi), List.getElem?_map] at e1
    cases q2 : cs[i]? with
    | none => rw [q2] at e2; cases e2
    | some c' =>
      cases q1 : vs[i]? with
      | none => rw [q1] at e1; cases e1
      | some v' =>
        rw [q1] at e1; rw [q2] at e2
        simp at e1 e2
        subst e1 e2
        exact h i v' c' q1 q2
  · rw [List.getElem?_append_right (by simpa using hi)] at e2
    rw [List.getElem?_replicate] at e2
    split at e2
    · cases e2; exact .un
    · cases e2
/-- a def that changes nothing and raises nothing -/
theorem fn_D {x qual : Str} {st : Stmt} {f : Addr} {fd : FuncData} {N ps : List Str} {k : Nat} {F : S Unit} (Fn : Fun K x qual st f fd) (Sc : FnScope N ps (defScope st))
    (hb : ∀ (cdv : Value) (A : Around) (outer : List Env) (s : Shared) (H : Hp) (Ex : XK), Room k (A.deeper (envOfC qual (defScope st) s.heap.objs.size f cdv)) →
      ∃ t, PSs (cxOf CX0 P w K mg base N qual (defScope st) f cdv A outer s H Ex).nox (defBody st) t ∧ DS (gam0 im) K (fun _ _ _ _ => False) t F) :
    FnOk P w K mg base CX0 (k + 1) f fd ps (spD K im ps.length fun ds => nox (runS F (startT N.length (ds.map .d)) ())) := by
  refine Fn.ok Sc (fun vs H Q Ex h => h.1) fun cdv A outer s H vs Q Ex hr h => ?_
  obtain ⟨hl, ds, r, h⟩ := h
  obtain ⟨t, ht, hd⟩ := hb cdv A outer s H Ex hr
  refine ⟨t, ht, ?_⟩
  have st : STT (gam0 im) K H H (start N vs) (startT N.length (ds.map .d)) := stt_start (by rw [List.length_map, r.length]) (fun i v c e1 e2 => by
    rw [List.getElem?_map] at e2
    cases q : ds[i]? with
    | none => rw [q] at e2; cases e2
    | some d =>
      rw [q] at e2; cases e2
      obtain ⟨v', e3, r'⟩ := r.get q
      rw [e1] at e3; cases e3
      exact .d r') (fun c hc _ xs e => by
    obtain ⟨d, _, rfl⟩ := List.mem_map.mp hc
    cases e) _
  refine hd H (start N vs) H () _ st trivial _ ?_
  unfold runS at h
  dsimp only at h
  cases q : F (startT N.length (ds.map .d)) () with
  | none => rw [q] at h; exact h.elim
  | some p =>
    obtain ⟨fl, ω'⟩ := p
    rw [q] at h
    cases fl with
    | nx τ => exact fun σ' H' _ s t => h .non H' (fun b o e => s.fr b o e id) .non
    | rt d => exact fun v H' _ k t r => h v H' (fun b o e => k b o e id) r
    | bk τ => exact h.elim
    | ct τ => exact h.elim
    | rs x τ => exact h.elim
    | rl d => exact h.elim
/-- a def that is handed the one thing first -/
theorem fn_W {Ω Pp : Type} {Γ : Pp → Gam im Ω} {x qual : Str} {st : Stmt} {f : Addr} {fd : FuncData} {N ps : List Str} {k : Nat} {F : S Ω} (Fn : Fun K x qual st f fd) (Sc : FnScope N ps (defScope st))
    (hb : ∀ (p : Pp) (cdv : Value) (A : Around) (outer : List Env) (s : Shared) (H : Hp) (Ex : XK), Room k (A.deeper (envOfC qual (defScope st) s.heap.objs.size f cdv)) →
      ∃ t, PSs (cxOf CX0 P w K mg base N qual (defScope st) f cdv A outer s H Ex).nox (defBody st) t ∧ DS (Γ p) K (fun _ _ _ _ => False) t F) :
    FnOk P w K mg base CX0 (k + 1) f fd ps (spW K Γ ps.length 0 fun ds ω => nox (runS F (startT N.length (.src :: ds.map .d)) ω)) := by
  refine Fn.ok Sc (fun vs H Q Ex h => h.1) fun cdv A outer s H vs Q Ex hr h => ?_
  obtain ⟨hl, p, ω, ws, ds, rfl, at0, r, h⟩ := h
  obtain ⟨t, ht, hd⟩ := hb p cdv A outer s H Ex hr
  refine ⟨t, ht, ?_⟩
  have st : STT (Γ p) K H H (start N ((Γ p).obj :: ws)) (startT N.length (.src :: ds.map .d)) := stt_start (by simp [r.length]) (fun i v c e1 e2 => by
    cases i with
    | zero => simp at e1 e2; subst e1 e2; exact .src
    | succ i =>
      simp only [List.getElem?_cons_succ] at e1 e2
      rw [List.getElem?_map] at e2
      cases q : ds[i]? with
      | none => rw [q] at e2; cases e2
      | some d =>
        rw [q] at e2; cases e2
        obtain ⟨v', e3, r'⟩ := r.get q
        rw [e1] at e3; cases e3
        exact .d r') (fun c hc _ xs e => by
    rcases List.mem_cons.mp hc with q | q
    · rw [q] at e; cases e
    · obtain ⟨d, _, rfl⟩ := List.mem_map.mp q
      cases e) _
  refine hd H (start N ((Γ p).obj :: ws)) H ω _ st at0 _ ?_
  unfold runS at h
  dsimp only at h
  cases q : F (startT N.length (.src :: ds.map .d)) ω with
  | none => rw [q] at h; exact h.elim
  | some p' =>
    obtain ⟨fl, ω'⟩ := p'
    rw [q] at h
    cases fl with
    | nx τ => exact fun σ' H' _ s t => h H' s.fr t .non .non
    | rt d => exact fun v H' _ k t r => h H' k t v r
    | bk τ => exact h.elim
    | ct τ => exact h.elim
    | rs x τ => exact h.elim
    | rl d => exact h.elim
theorem FnOk.no {f : Addr} {fd : FuncData} {ps : List Str} {k : Nat} {CX : CXT} {sp : Sp} (h : ∀ vs H Q Ex, ¬ sp vs H Q Ex) : FnOk P w K mg base CX k f fd ps sp :=
  ⟨fun vs H Q Ex q => (h vs H Q Ex q).elim, fun _ _ _ H _ _ vs Q Ex _ _ _ _ q => (h vs H Q Ex q).elim⟩
theorem spD_no {n : Nat} {vs : List V} {H : Hp} {Q : VK} {Ex : XK} : ¬ spD K im n (fun _ => .no) vs H Q Ex := fun ⟨_, _, _, h⟩ => h
theorem spW_no {Ω Pp : Type} {Γ : Pp → Gam im Ω} {n j : Nat} {vs : List V} {H : Hp} {Q : VK} {Ex : XK} : ¬ spW K Γ n j (fun _ _ => .no) vs H Q Ex := fun ⟨_, _, _, _, _, _, _, _, h⟩ => h
end
end DL
namespace DL
open PySem PySem.Spec PyProof.Rows L2
section
variable {X : Cx} {tg : Expr}
def iSeq (K : PySem.W.Frag) (tl : TE) : TI := fun σ H R => tl σ H fun x H1 => ∃ a, x = .ref a ∧ (((∃ xs, SqL K H1 a xs) ∧ R (Itl K a) H1) ∨ ((∃ xs, SqT K H1 a xs) ∧ R (Itt K a) H1))
theorem pi_seq {l : Expr} {tl : TE} (hl : PE X l tl) : PI X tg l (iSeq X.K tl) := by
  constructor
  intro pn st slots hp Rr inv h
  apply thn (hl.run pn st slots hp _ inv h)
  rintro val st1 ⟨w, hp1, inv1, rel, adr, ew, q⟩
  cases ew
  cases rel
  -- the iterator is the one new object, and the heap has grown by it alone
  have grown := fun {ob : Obj} => inv1.kept (t' := st1.toks) (h' := st1.heap.push ob) fun _ _ e => Heap.get?_push_of_some _ e
  have mine : ∀ b ∈ [st1.heap.objs.size], FpOk X pn hp1 b := by
    intro b hb
    rw [List.mem_singleton.mp hb]
    exact inv1.fpOk (Nat.le_refl _) (inv1.hok.fresh (Nat.le_refl _))
  rcases q with ⟨⟨xs, hq⟩, q⟩ | ⟨⟨xs, hq⟩, q⟩
  · obtain ⟨its, _, pl, _⟩ := inv1.list hq
    apply wpAny_pyIter_list pl.isList
    exact ⟨st1.heap.objs.size, [st1.heap.objs.size], _, _, hp1, rfl, grown, turn_list adr _, ⟨_, Heap.get?_push_size _ rfl, rfl, rfl⟩, mine, q⟩
  · obtain ⟨its, _, pl, _⟩ := inv1.tuple hq
    apply wpAny_pyIter_tuple (show st1.heap.IsTuple adr its.toArray from pl)
    exact ⟨st1.heap.objs.size, [st1.heap.objs.size], _, _, hp1, rfl, grown, turn_tuple adr _, ⟨_, Heap.get?_push_size _ rfl, rfl, rfl⟩, mine, q⟩
/-- a name's list is finished behind a statement -/
def tFz (i : Nat) (t : TS) : TS := fun D σ H => t { D with nx := fun σ' H' => ∃ a xs, σ'[i]? = some (some (.ref a)) ∧ H' a = some (.lst xs) ∧ ∀ o, D.nx σ' (upd H' a (.frz o (.lst xs))) } σ H
theorem ps_fz {st : Stmt} {t : TS} (i : Nat) (h : PS X st t) : PS X st (tFz i t) := by
  refine ⟨fun pins s σ H D I q => ?_⟩
  refine thn (h.run pins s σ H _ I q) fun f s' hs => ?_
  cases f with
  | next =>
    obtain ⟨σ', H', J, a, xs, e, ha, q⟩ := hs
    obtain ⟨o, J'⟩ := Inv.freeze J ha
    exact ⟨σ', _, J', q o⟩
  | brk => exact hs
  | cont => exact hs
  | ret u => exact hs
end
section
variable {im : Addr → Bool} {Ω : Type} {G : Gam im Ω} {K : PySem.W.Frag} {W : WX} {ta tb te : TE} {Fe Fa Fb : E Ω D} {Fl' Fm' : E Ω (List D)} {t u : TS} {Ft Fu : S Ω} {c : TT} {Fc : E Ω Bool}
def D.itemsS : D → Option (List D)
  | .lst ds => some ds
  | .tup ds => some ds
  | _ => none
def iSq (a : E Ω D) : E Ω (List D) := fun τ ω => (a τ ω).bind fun x ω1 => .ofO x.itemsS ω1
theorem di_seq (he : DE G K W te Fe) : DI G K W (iSeq K te) (iSq Fe) := by
  intro H0 σ H ω τ s t' R h
  refine he H0 σ H ω τ s t' _ (Res.imp (Res.bind h) (fun x ω1 H1 k1 t1 h1 v r => ?_) fun _ _ _ _ _ q => q)
  cases r with
  | @lst a vs ds a1 a2 => exact ⟨a, rfl, .inl ⟨⟨vs, a1.l⟩, h1 H1 k1 t1 _ (yields_list a1 a2)⟩⟩
  | @tup a vs ds a1 a2 => exact ⟨a, rfl, .inr ⟨⟨vs, a1⟩, h1 H1 k1 t1 _ (yields_tup a1 a2)⟩⟩
  | _ => exact h1.elim
def fzT (i : Nat) (τ : Tau) : Option Tau := match τ[i]? with
  | some (some (.ow .L xs)) => some (τ.set i (some (.d (.lst xs))))
  | _ => none
def sFz (i : Nat) (F : S Ω) : S Ω := fun τ ω => match F τ ω with
  | some (.nx τ1, ω1) => (fzT i τ1).map fun τ2 => (.nx τ2, ω1)
  | r => r
theorem STT.fz {H0 H : Hp} {ω : Ω} {σ : L2.St} {τ : Tau} (s : STT G K H0 H σ τ) (t : G.At ω H) {i : Nat} {l : Addr} {vs : List V} {xs : List D} (h : τ[i]? = some (some (.ow .L xs))) (e : σ[i]? = some (some (.ref l))) (hl : H l = some (.lst vs)) (o : Obj) :
    STT G K H0 (upd H l (.frz o (.lst vs))) σ (τ.set i (some (.d (.lst xs)))) ∧ G.At ω (upd H l (.frz o (.lst vs))) ∧ Sb im H (upd H l (.frz o (.lst vs))) := by
  obtain ⟨l', ws', e', h1, h2, h3, h4⟩ := s.getO h
  have el : l' = l := by rw [e] at e'; cases e'; rfl
  subst el
  rw [hl] at h1; cases h1
  have sb : Sb im H (upd H l' (.frz o (.lst vs))) := fun b u eb st => by
    have : b ≠ l' := fun q => by subst q; rw [hl] at eb; cases eb; exact st
    rw [upd_ne this]; exact eb
  have at' : G.At ω (upd H l' (.frz o (.lst vs))) := G.keep t (fun b o f eb => by
    have : b ≠ l' := fun q => h4 (q ▸ f)
    rw [upd_ne this]; exact eb) sb
  refine ⟨⟨by simp [s.len], fun j w c e1 e2 => ?_, fun j k a _ _ xs' zs hjk e1 e2 e3 e4 => ?_, fun b u eb nf => ?_⟩, at', sb⟩
  · by_cases hj : i = j
    · subst hj
      have hi : i < τ.length := (List.getElem?_eq_some_iff.mp h).1
      rw [List.getElem?_set_self hi] at e2
      cases e2
      rw [e] at e1; cases e1
      exact .d (.lst ⟨o, upd_same⟩ (h2.up sb))
    · rw [List.getElem?_set_ne hj] at e2
      have q := s.ok j w c e1 e2
      cases q with
      | un => exact .un
      | d r => exact .d (r.up sb)
      | @ow l2 k2 vs2 xs2 a1 a2 a3 a4 a5 =>
        have ne : l2 ≠ l' := fun q => by
          subst q
          exact s.dj i j l2 _ _ hj e h e1 e2
        exact .ow (by rw [upd_ne ne]; exact a1) (a2.up sb) a3 a4 a5
      | src => exact .src
  · have a : i ≠ j := fun q => by
      subst q
      have hi : i < τ.length := (List.getElem?_eq_some_iff.mp h).1
      rw [List.getElem?_set_self hi] at e2; cases e2
    have b : i ≠ k := fun q => by
      subst q
      have hi : i < τ.length := (List.getElem?_eq_some_iff.mp h).1
      rw [List.getElem?_set_self hi] at e4; cases e4
    rw [List.getElem?_set_ne a] at e2
    rw [List.getElem?_set_ne b] at e4
    exact s.dj j k _ _ _ hjk e1 e2 e3 e4
  · have k := s.fr b u eb nf
    have : b ≠ l' := fun q => by subst q; rw [h3] at eb; cases eb
    rw [upd_ne this]; exact k
theorem ds_fz {i : Nat} (h : DS G K W t Ft) : DS G K W (tFz i t) (sFz i Ft) := by
  intro H0 σ H ω τ s t' D ks
  refine h H0 σ H ω τ s t' _ ?_
  unfold sFz at ks
  cases e : Ft τ ω with
  | none => rw [e] at ks; exact ks
  | some p =>
    obtain ⟨fl, ω1⟩ := p
    rw [e] at ks
    cases fl with
    | nx τ1 =>
      intro σ' H' sb s' t1
      simp only at ks
      unfold fzT at ks
      split at ks
      · rename_i xs hx
        obtain ⟨l, vs, e1, h1, _⟩ := s'.getO hx
        refine ⟨l, vs, e1, h1, fun o => ?_⟩
        obtain ⟨s2, t2, sb2⟩ := s'.fz t1 hx e1 h1 o
        exact ks _ _ (sb.trans sb2) s2 t2
      · exact ks.elim
    | bk τ1 => exact ks
    | ct τ1 => exact ks
    | rt d => exact ks
    | rs x τ1 => exact ks
    | rl d => exact ks
def sPar (i j : Nat) (a b : E Ω D) : S Ω := withE a fun x => withE b fun y τ ω => some (.nx ((τ.set i (some (.d x))).set j (some (.d y))), ω)
theorem ds_par {i j : Nat} (ha : DE G K W ta Fa) (hb : DE G K W tb Fb) : DS G K W (tPar i j (tCons ta (tCons tb tNil))) (sPar i j Fa Fb) := by
  intro H0 σ H ω τ s t' D h
  refine ha H0 σ H ω τ s t' _ (Res.imp (withE_kx s t' h) (fun x ω1 H1 k1 t1 h1 v r => ?_) fun _ _ _ _ _ q => q)
  refine hb H0 σ H1 ω1 τ (s.step t' k1) t1 _ (Res.imp (withE_kx (s.step t' k1) t1 h1) (fun y ω2 H2 k2 t2 h2 v2 r2 => ?_) fun _ _ _ _ _ q => q)
  refine ⟨v, v2, rfl, h2 _ H2 .refl ?_ t2⟩
  exact (((s.step t' k1).step t1 k2).setD (r.up (k2.sb t1)) i).setD r2 j
/-- the first is a new list that is to change -/
def sParO1 (i j : Nat) (a : E Ω (List D)) (b : E Ω D) : S Ω := withE a fun x => withE b fun y τ ω => some (.nx ((τ.set i (some (.ow .L x))).set j (some (.d y))), ω)
theorem ds_parO1 {i j : Nat} (ha : DL G K W ta Fl') (hb : DE G K W tb Fb) : DS G K W (tPar i j (tCons ta (tCons tb tNil))) (sParO1 i j Fl' Fb) := by
  intro H0 σ H ω τ s t' D h
  refine ha H0 σ H ω τ s t' _ (Res.imp (withE_kx s t' h) (fun x ω1 H1 k1 t1 h1 p vs hp hl r => ?_) fun _ _ _ _ _ q => q)
  refine hb H0 σ H1 ω1 τ (s.step t' k1) t1 _ (Res.imp (withE_kx (s.step t' k1) t1 h1) (fun y ω2 H2 k2 t2 h2 v2 r2 => ?_) fun _ _ _ _ _ q => q)
  have nf : ¬ G.FP p := fun f => G.trk t' p f hp
  refine ⟨_, v2, rfl, h2 _ H2 .refl ?_ t2⟩
  exact (s.setO t' hp (k1.trans k2) (k2 p _ hl nf) (r.up (k2.sb t1)) i).setD r2 j
/-- the second is a new list that is to change -/
def sParO2 (i j : Nat) (a : E Ω D) (b : E Ω (List D)) : S Ω := withE a fun x => withE b fun y τ ω => some (.nx ((τ.set i (some (.d x))).set j (some (.ow .L y))), ω)
theorem ds_parO2 {i j : Nat} (ha : DE G K W ta Fa) (hb : DL G K W tb Fl') : DS G K W (tPar i j (tCons ta (tCons tb tNil))) (sParO2 i j Fa Fl') := by
  intro H0 σ H ω τ s t' D h
  refine ha H0 σ H ω τ s t' _ (Res.imp (withE_kx s t' h) (fun x ω1 H1 k1 t1 h1 v r => ?_) fun _ _ _ _ _ q => q)
  refine hb H0 σ H1 ω1 τ (s.step t' k1) t1 _ (Res.imp (withE_kx (s.step t' k1) t1 h1) (fun y ω2 H2 k2 t2 h2 p vs hp hl r2 => ?_) fun _ _ _ _ _ q => q)
  refine ⟨v, _, rfl, h2 _ H2 .refl ?_ t2⟩
  exact ((s.step t' k1).setD r i).setO t1 hp k2 hl r2 j
def D.tru : D → Option Bool
  | .non => some false
  | .bl b => some b
  | .int i => some (i != 0)
  | .str x => if x.length ≤ sizeLine then some ((x.length : Int) != 0) else none
  | .tup ds => some (!ds.isEmpty)
  | .lst ds => some (!ds.isEmpty)
  | _ => none
def eTru (a : E Ω D) : E Ω Bool := fun τ ω => (a τ ω).bind fun x ω1 => .ofO x.tru ω1
def rg3 : List D → Option (List D)
  | [.int i, .int j, .int c] => if 0 < c ∧ c < 1000000000 ∧ -(2 ^ 61) ≤ i ∧ i < 2 ^ 61 ∧ -(2 ^ 61) ≤ j ∧ j < 2 ^ 61 then some (rangeL i c ((j - i + c - 1) / c).toNat) else if c = -1 ∧ -(2 ^ 61) ≤ i ∧ i < 2 ^ 61 ∧ -(2 ^ 61) ≤ j ∧ j < 2 ^ 61 then some (rangeL i c (i - j).toNat) else none
  | _ => none
end
end DL
namespace DL
open PySem PySem.Spec PyProof.Rows L2
section
variable {im : Addr → Bool} {Ω : Type} {G : Gam im Ω} {K : PySem.W.Frag} {W : WX}
theorem ediv_cap {a c : Int} (hc : 0 < c) (ha : 0 < a) : (a - 1) / c + 1 = (a + c - 1) / c := by
  have : a + c - 1 = (a - 1) + c * 1 := by omega
  rw [this, Int.add_mul_ediv_left _ _ (by omega)]
theorem rgc_up {i j c : Int} (hc : 0 < c) (h9 : c < 1000000000) (h1 : -(2 ^ 61) ≤ i) (h2 : i < 2 ^ 61) (h3 : -(2 ^ 61) ≤ j) (h4 : j < 2 ^ 61) : RgC i j c ((j - i + c - 1) / c).toNat := by
  have hn : Builtin.Range.rangeSize i j c = (((j - i + c - 1) / c).toNat : Int) := by
    unfold Builtin.Range.rangeSize
    rw [if_pos hc]
    by_cases hl : i < j
    · rw [if_pos hl]
      rw [show j - i + c - 1 = (j - i) + c - 1 by omega, ← ediv_cap hc (by omega)]
      have : 0 ≤ (j - i - 1) / c := Int.ediv_nonneg (by omega) (by omega)
      omega
    · rw [if_neg hl]
      have : (j - i + c - 1) / c ≤ 0 := by
        have h : (j - i + c - 1) / c < 1 := Int.ediv_lt_of_lt_mul hc (by omega)
        omega
      omega
  refine ⟨by omega, by omega, ?_, hn⟩
  have hsz : (((j - i + c - 1) / c).toNat : Int) ≤ 2 ^ 62 := by
    have : (j - i + c - 1) / c ≤ 2 ^ 62 := by
      have h0 : (j - i + c - 1) / c ≤ max (j - i) 0 := by
        by_cases hl : i < j
        · have : (j - i + c - 1) / c ≤ j - i := by
            have e : (j - i + c - 1) / c < (j - i) + 1 := Int.ediv_lt_of_lt_mul hc (by
              have e1 : ((j - i) + 1) * c = (j - i) * c + c := by rw [Int.add_mul]; omega
              have e2 : (j - i) ≤ (j - i) * c := by
                have := Int.mul_le_mul_of_nonneg_left (show (1 : Int) ≤ c by omega) (show 0 ≤ j - i by omega)
                omega
              omega)
            omega
          omega
        · have h : (j - i + c - 1) / c < 1 := Int.ediv_lt_of_lt_mul hc (by omega)
          omega
      omega
    omega
  unfold Builtin.Range.small
  rw [hn]
  have hc' : (c > 0) = True := eq_true hc
  simp only [Builtin.Range.rangeFitsLong, Bool.and_eq_true, Bool.or_eq_true, decide_eq_true_eq, beq_iff_eq, hc', if_true]
  omega
theorem rgc_dn {i j : Int} (h1 : -(2 ^ 61) ≤ i) (h2 : i < 2 ^ 61) (h3 : -(2 ^ 61) ≤ j) (h4 : j < 2 ^ 61) : RgC i j (-1) (i - j).toNat := by
  have hn : Builtin.Range.rangeSize i j (-1) = ((i - j).toNat : Int) := by
    unfold Builtin.Range.rangeSize
    rw [if_neg (by decide)]
    simp
    split <;> omega
  refine ⟨by omega, by omega, ?_, hn⟩
  unfold Builtin.Range.small
  rw [hn]
  simp only [Builtin.Range.rangeFitsLong, Bool.and_eq_true, Bool.or_eq_true, decide_eq_true_eq, beq_iff_eq]
  simp
  omega
theorem yields_rangeC {H : Hp} {lo c : Int} {n : Nat} : Yields im K (Itc lo c n) H (rangeL lo c n) := by
  intro i H' sb
  refine ⟨fun d hd => ?_, fun hi => by rw [rangeL_len] at hi; exact hi⟩
  obtain ⟨rfl, hi⟩ := rangeL_get c n lo i d hd
  refine ⟨hi, fun x H3 y => ?_⟩
  obtain ⟨rfl, rfl⟩ := y
  exact ⟨Same.refl _, .int _⟩
theorem di_rg3 {ta : TA} {Fr : E Ω (List D)} (ha : DA G K W ta Fr) : DI G K W (iRng3 ta) (iRg rg3 Fr) := by
  intro H0 σ H ω τ s t' R h
  refine ha H0 σ H ω τ s t' _ (Res.imp (Res.bind h) (fun xs ω1 H1 k1 t1 h1 vs r => ?_) fun _ _ _ _ _ q => q)
  cases e : rg3 xs with
  | none => rw [e] at h1; exact h1.elim
  | some ds =>
    rw [e] at h1
    unfold rg3 at e
    split at e
    · cases r with
      | cons ra rb =>
        cases ra
        cases rb with
        | cons rb rc =>
          cases rb
          cases rc with
          | cons rc rd =>
            cases rc
            cases rd
            split at e
            · rename_i q
              obtain ⟨e1, e2, e3, e4, e5, e6⟩ := q
              cases e
              exact ⟨_, _, _, _, rfl, rgc_up e1 e2 e3 e4 e5 e6, h1 H1 k1 t1 _ yields_rangeC⟩
            · simp only [Option.ite_none_right_eq_some] at e
              obtain ⟨⟨e1, e2, e3, e4, e5⟩, e7⟩ := e
              cases e7
              subst e1
              exact ⟨_, _, _, _, rfl, rgc_dn e2 e3 e4 e5, h1 H1 k1 t1 _ yields_rangeC⟩
    · cases e
end
end DL
namespace DL
open PySem PySem.Spec PyProof.Rows L2
theorem room_hu {k : Nat} {A : Around} (hr : Room k A) : A.units + 200 < cLine := by have := hr.un; omega
theorem hu1 {A : Around} (h : A.units + 200 < cLine) : A.units + 1 < cLine := by omega
/-- a def of the text, where it stands -/
structure DefOk (K : PySem.W.Frag) (mg : Str → Option Value) (name : Str) (st : Stmt) (ps : List Str) where
  f : Addr
  fd : FuncData
  F : Fun K name name st f fd
  g : mg name = some (.ref f)
  b : Binds K fd ps []
/-- what is left of the script's numbers (the next one first), of the present one, a mixed number, how many were mixed -/
structure Src where
  cells : List Int
  left : Int
  mixed : Int
  turn : Int
def srcKvs (c : Addr) (ω : Src) : List (Key × V) := [(.inr "cells", .ref c), (.inr "left", .int ω.left), (.inr "mixed", .int ω.mixed), (.inr "turn", .int ω.turn)]
def srcG (im : Addr → Bool) (p : Addr × Addr) : Gam im Src where
  At := fun ω H => H p.1 = some (.dK (srcKvs p.2 ω)) ∧ H p.2 = some (.lst (ω.cells.reverse.map V.int))
  FP := fun b => b = p.1 ∨ b = p.2
  obj := .ref p.1
  keep := fun ⟨h1, h2⟩ k _ => ⟨k _ _ (.inl rfl) h1, k _ _ (.inr rfl) h2⟩
  nost := fun ⟨h1, h2⟩ b o f e s => by
    rcases f with rfl | rfl
    · rw [h1] at e; cases e; exact s
    · rw [h2] at e; cases e; exact s
  trk := fun ⟨h1, h2⟩ b f e => by
    rcases f with rfl | rfl
    · rw [h1] at e; cases e
    · rw [h2] at e; cases e
section
variable {im : Addr → Bool} {K : PySem.W.Frag} {W : WX} {p : Addr × Addr} {te : TE} {Fe : E Src D}
/-- source['left'] and the like -/
def eSrc (i : Nat) (f : Src → Int) : E Src D := fun τ ω => match τ[i]? with
  | some (some .src) => .ok (.int (f ω)) ω
  | _ => .no
def eSrcN (i : Nat) : E Src D := fun τ ω => match τ[i]? with
  | some (some .src) => .ok (.int ω.cells.length) ω
  | _ => .no
def eSrcP (i : Nat) : E Src D := fun τ ω => match τ[i]?, ω.cells with
  | some (some .src), z :: r => .ok (.int z) { ω with cells := r }
  | _, _ => .no
def sSrc (i : Nat) (f : Src → Int → Src) (e : E Src D) : S Src := withE e fun d τ ω => match τ[i]?, d with
  | some (some .src), .int z => some (.nx τ, f ω z)
  | _, _ => none
theorem valS1 (c : Addr) (ω : Src) : valV (srcKvs c ω) (.inr "cells") = some (.ref c) := by simp [srcKvs, valV, List.find?_cons]
theorem valS2 (c : Addr) (ω : Src) : valV (srcKvs c ω) (.inr "left") = some (.int ω.left) := by
  have h : ¬ (("cells" : Str) = "left") := by decide +kernel
  simp [srcKvs, valV, List.find?_cons, h]
theorem valS3 (c : Addr) (ω : Src) : valV (srcKvs c ω) (.inr "mixed") = some (.int ω.mixed) := by
  have h : ¬ (("cells" : Str) = "mixed") := by decide +kernel
  have h2 : ¬ (("left" : Str) = "mixed") := by decide +kernel
  simp [srcKvs, valV, List.find?_cons, h, h2]
theorem valS4 (c : Addr) (ω : Src) : valV (srcKvs c ω) (.inr "turn") = some (.int ω.turn) := by
  have h : ¬ (("cells" : Str) = "turn") := by decide +kernel
  have h2 : ¬ (("left" : Str) = "turn") := by decide +kernel
  have h3 : ¬ (("mixed" : Str) = "turn") := by decide +kernel
  simp [srcKvs, valV, List.find?_cons, h, h2, h3]
theorem putS2 (c : Addr) (ω : Src) (z : Int) : putK (srcKvs c ω) (.inr "left") (.int z) = srcKvs c { ω with left := z } := by
  have h : ¬ (("cells" : Str) = "left") := by decide +kernel
  have h3 : ¬ (("mixed" : Str) = "left") := by decide +kernel
  have h4 : ¬ (("turn" : Str) = "left") := by decide +kernel
  simp [srcKvs, putK, h, h3, h4]
theorem putS3 (c : Addr) (ω : Src) (z : Int) : putK (srcKvs c ω) (.inr "mixed") (.int z) = srcKvs c { ω with mixed := z } := by
  have h : ¬ (("cells" : Str) = "mixed") := by decide +kernel
  have h2 : ¬ (("left" : Str) = "mixed") := by decide +kernel
  have h4 : ¬ (("turn" : Str) = "mixed") := by decide +kernel
  simp [srcKvs, putK, h, h2, h4]
theorem putS4 (c : Addr) (ω : Src) (z : Int) : putK (srcKvs c ω) (.inr "turn") (.int z) = srcKvs c { ω with turn := z } := by
  have h : ¬ (("cells" : Str) = "turn") := by decide +kernel
  have h2 : ¬ (("left" : Str) = "turn") := by decide +kernel
  have h3 : ¬ (("mixed" : Str) = "turn") := by decide +kernel
  simp [srcKvs, putK, h, h2, h3]
theorem de_src {i : Nat} {x : Str} {f : Src → Int} (hv : ∀ c ω, valV (srcKvs c ω) (.inr x) = some (.int (f ω))) : DE (srcG im p) K W (tDGet (tVar i) (tC (.str x))) (eSrc i f) := by
  intro H0 σ H ω τ s t Q h
  unfold eSrc at h
  split at h
  · rename_i hx
    refine ⟨_, s.getS hx, p.1, .int (f ω), rfl, ?_, h H .refl t _ (.int _)⟩
    have := DGet.k (k := .inr x) t.1
    rw [hv] at this
    exact this
  · exact h.elim
theorem de_srcL {i : Nat} : DE (srcG im p) K W (tDGet (tVar i) (tC (.str "left"))) (eSrc i Src.left) := de_src valS2
theorem de_srcM {i : Nat} : DE (srcG im p) K W (tDGet (tVar i) (tC (.str "mixed"))) (eSrc i Src.mixed) := de_src valS3
theorem de_srcT {i : Nat} : DE (srcG im p) K W (tDGet (tVar i) (tC (.str "turn"))) (eSrc i Src.turn) := de_src valS4
theorem de_srcN {i : Nat} : DE (srcG im p) K W (tCB (fun xs H Q => ∃ p ys, xs = [.ref p] ∧ (SqL K H p ys ∨ SqT K H p ys) ∧ Q (.int ys.length) H) (tCons (tDGet (tVar i) (tC (.str "cells"))) tNil)) (eSrcN i) := by
  intro H0 σ H ω τ s t Q h
  unfold eSrcN at h
  split at h
  · rename_i hx
    have g := DGet.k (k := .inr "cells") t.1
    rw [valS1] at g
    refine ⟨_, s.getS hx, p.1, .ref p.2, rfl, g, p.2, _, rfl, .inl (SqL.of t.2), ?_⟩
    have hl : (ω.cells.reverse.map V.int).length = ω.cells.length := by simp
    rw [hl]
    exact h H .refl t _ (.int _)
  · exact h.elim
theorem de_srcP {i : Nat} : DE (srcG im p) K W (tBM0 K "list" rPop (tDGet (tVar i) (tC (.str "cells")))) (eSrcP i) := by
  intro H0 σ H ω τ s t Q h
  unfold eSrcP at h
  split at h
  · rename_i z r hx hc
    have g := DGet.k (k := .inr "cells") t.1
    rw [valS1] at g
    refine ⟨_, s.getS hx, p.1, .ref p.2, rfl, g, .inl ⟨rfl, _, SqL.of t.2⟩, p.2, _, .int z, rfl, rfl, t.2, ?_, ?_⟩
    · rw [hc]; simp
    · have hd : (ω.cells.reverse.map V.int).dropLast = r.reverse.map V.int := by
        rw [hc, List.reverse_cons, List.map_append, List.map_singleton, List.dropLast_concat]
      rw [hd]
      have ne : p.1 ≠ p.2 := ne_of t.1 t.2 (by intro z; cases z)
      refine h _ (fun b o e nf => ?_) ⟨?_, upd_same⟩ _ (.int z)
      · have : b ≠ p.2 := fun q => nf (.inr q)
        rw [upd_ne this]; exact e
      · rw [upd_ne ne]; exact t.1
  · exact h.elim
theorem ds_src {i : Nat} {x : Str} {f : Src → Int → Src} (hp : ∀ c ω z, putK (srcKvs c ω) (.inr x) (.int z) = srcKvs c (f ω z)) (hf : ∀ ω z, (f ω z).cells = ω.cells) (he : DE (srcG im p) K W te Fe) : DS (srcG im p) K W (sDPut (tVar i) (tC (.str x)) te) (sSrc i f Fe) := by
  intro H0 σ H ω τ s t D h
  refine he H0 σ H ω τ s t _ (Res.imp (withE_kx s t h) (fun d ω1 H1 k1 t1 h1 v r => ?_) fun _ _ _ _ _ q => q)
  have s1 := s.step t k1
  split at h1
  · rename_i z hx
    cases r
    have ne : p.1 ≠ p.2 := ne_of t1.1 t1.2 (by intro z; cases z)
    have g := DPut.k (k := .inr x) (v := .int z) t1.1 (by show 4 < sizeLine; rw [sizeLine_eq]; decide)
    rw [hp] at g
    have sb : Sb im H1 (upd H1 p.1 (.dK (srcKvs p.2 (f ω1 z)))) := fun b o e st => by
      have : b ≠ p.1 := fun q => by subst q; rw [t1.1] at e; cases e; exact st
      rw [upd_ne this]; exact e
    have t2 : (srcG im p).At (f ω1 z) (upd H1 p.1 (.dK (srcKvs p.2 (f ω1 z)))) := ⟨upd_same, by rw [upd_ne ne.symm, hf]; exact t1.2⟩
    refine ⟨_, s1.getS hx, p.1, _, rfl, g, h1 σ _ sb ?_ t2⟩
    exact s1.step t1 fun b o e nf => by
      have : b ≠ p.1 := fun q => nf (.inl q)
      rw [upd_ne this]; exact e
  · exact h1.elim
theorem ds_srcL {i : Nat} (he : DE (srcG im p) K W te Fe) : DS (srcG im p) K W (sDPut (tVar i) (tC (.str "left")) te) (sSrc i (fun ω z => { ω with left := z }) Fe) := ds_src putS2 (fun _ _ => rfl) he
theorem ds_srcM {i : Nat} (he : DE (srcG im p) K W te Fe) : DS (srcG im p) K W (sDPut (tVar i) (tC (.str "mixed")) te) (sSrc i (fun ω z => { ω with mixed := z }) Fe) := ds_src putS3 (fun _ _ => rfl) he
theorem ds_srcT {i : Nat} (he : DE (srcG im p) K W te Fe) : DS (srcG im p) K W (sDPut (tVar i) (tC (.str "turn")) te) (sSrc i (fun ω z => { ω with turn := z }) Fe) := ds_src putS4 (fun _ _ => rfl) he
end
section
variable {im : Addr → Bool} {P : Program} {w : World} {K : PySem.W.Frag} {mg : Str → Option Value} {base : Heap}
theorem fn_Dx {x qual : Str} {st : Stmt} {f : Addr} {fd : FuncData} {N ps : List Str} {k k' j : Nat} {F : S Unit} {F' : List D → R Unit D} (Fn : Fun K x qual st f fd) (Sc : FnScope N ps (defScope st))
    (ek : k' = k + 1) (ej : j = ps.length) (eF : F' = fun ds => nox (runS F (startT N.length (ds.map .d)) ()))
    (hb : ∀ (cdv : Value) (A : Around) (outer : List Env) (s : Shared) (H : Hp) (Ex : XK), Room k (A.deeper (envOfC qual (defScope st) s.heap.objs.size f cdv)) →
      ∃ t, PSs (cxOf CX0 P w K mg base N qual (defScope st) f cdv A outer s H Ex).nox (defBody st) t ∧ DS (gam0 im) K (fun _ _ _ _ => False) t F) :
    FnOk P w K mg base CX0 k' f fd ps (spD K im j F') := by
  subst ek ej eF; exact fn_D Fn Sc hb
theorem fn_Wx {Ω Pp : Type} {Γ : Pp → Gam im Ω} {x qual : Str} {st : Stmt} {f : Addr} {fd : FuncData} {N ps : List Str} {k k' j : Nat} {F : S Ω} {F' : List D → Ω → R Ω D} (Fn : Fun K x qual st f fd) (Sc : FnScope N ps (defScope st))
    (ek : k' = k + 1) (ej : j = ps.length) (eF : F' = fun ds ω => nox (runS F (startT N.length (.src :: ds.map .d)) ω))
    (hb : ∀ (p : Pp) (cdv : Value) (A : Around) (outer : List Env) (s : Shared) (H : Hp) (Ex : XK), Room k (A.deeper (envOfC qual (defScope st) s.heap.objs.size f cdv)) →
      ∃ t, PSs (cxOf CX0 P w K mg base N qual (defScope st) f cdv A outer s H Ex).nox (defBody st) t ∧ DS (Γ p) K (fun _ _ _ _ => False) t F) :
    FnOk P w K mg base CX0 k' f fd ps (spW K Γ j 0 F') := by
  subst ek ej eF; exact fn_W Fn Sc hb
end
end DL
namespace DL
open PySem PySem.Spec PyProof.Rows L2
/-- as FnOk, for calls while nothing is being shown -/
structure GOk (P : Program) (w : World) (K : PySem.W.Frag) (mg : Str → Option Value) (base : Heap) (k : Nat) (f : Addr) (fd : FuncData) (ps : List Str) (sp : Sp) : Prop where
  arity : ∀ vs H Q Ex, sp vs H Q Ex → vs.length = ps.length
  enter : ∀ (A : Around) (outer : List Env) (s : Shared) (H : Hp) (args : Args) (us : List Value) (vs : List V) (Q : VK) (Ex : XK), A.guards = some [] → Room k A → Env0 P w K mg base A outer s H →
    BindsTo s fd args (ps.zip us) → Vals vs us → sp vs H Q Ex → codeAny (model P w) A (.call (.ref f) args) (CR CX0 outer P w H s Q Ex) s
section
variable {P : Program} {w : World} {K : PySem.W.Frag} {mg : Str → Option Value} {base : Heap} {k j : Nat} {f : Addr} {fd : FuncData} {N ps : List Str} {sp : Sp} {x qual : Str} {st : Stmt}
theorem GOk.of (F : FnOk P w K mg base CX0 k f fd ps sp) : GOk P w K mg base k f fd ps sp := ⟨F.len, fun A o s H a us vs Q Ex _ r => F.run A o s H a us vs Q Ex r⟩
/-- a def from its body, where the body may know that nothing is being shown -/
theorem GOk.ofBody (Fn : Fun K x qual st f fd) (Sc : FnScope N ps (defScope st)) (ar : ∀ vs H Q Ex, sp vs H Q Ex → vs.length = ps.length)
    (body : ∀ (cdv : Value) (A : Around) (outer : List Env) (s : Shared) (H : Hp) (vs : List V) (Q : VK) (Ex : XK), A.guards = some [] → Room k (A.deeper (envOfC qual (defScope st) s.heap.objs.size f cdv)) → sp vs H Q Ex →
      ∃ t, PSs (cxOf CX0 P w K mg base N qual (defScope st) f cdv A outer s H Ex).nox (defBody st) t ∧ t { nx := fun _ H' => Q .non H', rt := Q } (start N vs) H) :
    GOk P w K mg base (k + 1) f fd ps sp := by
  obtain ⟨oc, od, kV, doc, pm, an, cdv, ct, osl, rfl, found, code⟩ := Fn.ex
  constructor
  · exact ar
  · intro A outer s H args us vs Q Ex gu room env bound vals want
    have up : ∀ b o, base.get? b = some o → s.heap.get? b = some o := fun b o e => (env.bs b o e).1
    have inK : K.In s.heap := env.mod.kin.keeps up
    have slots : ∀ y ∈ ps.zip us, (defScope st).names.lookup y.1 = some .local ∨ ((defScope st).names.lookup y.1 = some .cell ∧ ((cellsFrom (s.heap.objs.size + 1) (defScope st).names []).lookup y.1).isSome = true) := by
      rintro ⟨n, u⟩ hy
      cases Sc.par n (List.of_mem_zip hy).1 with
      | inl c => exact .inl c
      | inr c => exact .inr ⟨c, PySem.W.cellsFrom_some _ _ _ (.inl c)⟩
    obtain ⟨t, tells, holds⟩ := body cdv A outer s H vs Q Ex gu (room.deeper _) want
    have done : ∀ {σ1 : L2.St} {H1 : Hp} {v : V} {u : Value} {s1 : Shared}, Inv (cxOf CX0 P w K mg base N qual (defScope st) f cdv A outer s H Ex) [] σ1 H1 s1 → RelV v u → Q v H1 → CE outer P w H s Q u s1 := by
      intro σ1 H1 v u s1 J rv q
      exact ⟨v, H1, J.os, J.bare, J.base, J.hok, rv, q⟩
    apply codeAny_call_function room.depth (inK _ _ found) rfl Sc.co Sc.gen rfl (PySem.W.codeRec_of inK code)
    apply bound
    apply wpAny_newFunctionEnv_cells Sc.kind slots
    rintro e rfl s1 laid
    refine ⟨(env.mod.nolimit.keeps up).keeps laid.toInCall.keep, codeAny_func ?_⟩
    have first := inv_start (CX := CX0) (qual := qual) (f := f) (cd := cdv) (E := Ex) Sc room.hd env (ar _ _ _ _ want) vals laid
    apply wpAny_mono (tells.nox.run [] s1 (start N vs) H _ first holds)
    · intro fl s' ends
      match fl, ends with
      | .ret u, ⟨v, _, _, J, rv, q⟩ => exact done J rv q
      | .next, ⟨_, _, J, q⟩ => exact done (v := .non) J rfl q
      | .brk, ⟨_, _, _, q⟩ => exact q.elim
      | .cont, ⟨_, _, _, q⟩ => exact q.elim
    · exact fun _ _ z => z
theorem GOk.mono (F : GOk P w K mg base j f fd ps sp) (h : j ≤ k) : GOk P w K mg base k f fd ps sp := ⟨F.arity, fun A o s H a us vs Q Ex g r => F.enter A o s H a us vs Q Ex g (r.mono h)⟩
end
section
variable {X : Cx} {k : Nat} {f : Addr} {fd : FuncData} {ps : List Str} {sp : Sp} {x : Str} {p pos : Pos} {e : Expr} {es : List Expr} {t : TA}
theorem pe_callG (F : GOk X.prog X.w X.K X.mg X.base k f fd ps sp) (gu : X.A.guards = some []) (hr : Room k X.A) (hg : Gl X x) (hm : X.mg x = some (.ref f)) (hk : PySem.W.keepIn X.K (.ref f) = true) (hb : Binds X.K fd ps [])
    (hx : Passes CX0 X E0) (ha : PA X (e :: es) t) (hdb : (x == ("__debug__" : Str)) = false := by decide) (he : starEach (e :: es) X.env = (false, eval e X.env) :: starEach es X.env := by rfl) (hpl : (backTo pos (starEach es X.env)).any (·.1) = false := by rfl) :
    PE X (.Call (.Name x p) (e :: es) [] pos) (tCall sp [] E0 t) := by
  constructor
  intro pins s σ H Q I h
  apply wpAny_Call_Name_kw (ld_glob I hg hm ?_ hdb)
  apply PySem.W.callWith_K (h₀ := X.base) I.ok.mod.kin hk (thn (ha.run pos pins s σ H _ I h) ?_) he hpl
  rintro us s1 ⟨vs, H1, J, rels, want⟩
  refine ⟨J.kIn, ?_⟩
  rw [List.append_nil] at want
  have same : us.length = ps.length := by rw [← rels.length]; exact F.arity _ _ _ _ want
  have bind := hb s1 us J.kIn (by rw [List.append_nil]; exact same)
  rw [List.append_nil] at bind
  apply wpAny_call
  refine codeAny_mono (F.enter X.A X.stack s1 H1 ⟨us, []⟩ us vs Q E0 gu hr J.env0 bind rels want) ?_
  intro r s' out
  match r, out with
  | .error er, out => exact hx pins σ H1 s1 er s' J out
  | .ok (.ret u), out => exact J.after out
  | .ok .next, out => exact out.elim
  | .ok .brk, out => exact out.elim
  | .ok .cont, out => exact out.elim
end
def reprD : D → Option D
  | .int i => if i.natAbs.log2 < 1920 then some (.str (toString i)) else none
  | .bl b => some (.str (if b then "True" else "False"))
  | .non => some (.str "None")
  | .str x => if (reprText x).length ≤ sizeLine then some (.str (reprText x)) else none
  | .tup ds => match (D.tup ds).py with
    | some p => if p.showable = true ∧ p.hasDict = false ∧ p.depth ≤ 150 ∧ p.shown.length ≤ sizeLine then some (.str p.shown) else none
    | none => none
  | .lst ds => match (D.lst ds).py with
    | some p => if p.showable = true ∧ p.hasDict = false ∧ p.depth ≤ 150 ∧ p.shown.length ≤ sizeLine then some (.str p.shown) else none
    | none => none
  | .dic ks _ => if ks.isEmpty = true then some (.str "{}") else none
  | _ => none
section
variable {X : Cx} {im : Addr → Bool}
theorem repr_empty {pins : List (Addr × Obj)} {s : Shared} {σ : L2.St} {H : Hp} {Q : VK} {a : Addr} {o : Obj} (hu : X.A.units + 200 < cLine) (gu : X.A.guards = some []) (I : Inv X pins σ H s) (h : H a = some (.frz o (.dK []))) (q : Q (.str "{}") H) : wpAny (model X.prog X.w) X.A (call (.builtin "repr") [.ref a]) (EP X pins σ Q) X.xe s := by
  obtain ⟨h1, h2, h3, es, ep, vs, h4, h5, _, _⟩ := I.frzK h
  have he : es = #[] := Array.eq_empty_of_size_eq_zero h5
  subst he
  have r : Reads s.heap (.ref a) (.dict []) (a :: [] ++ []) := .dict h2 h3.1 h4 .nil .nil
  refine repr_of_reads' r rfl (fun _ hm => ?_) gu (by simp [PyData.depth, PyData.depthKv]; omega) (fun _ _ e => e) (fun h' u tk more => ⟨.str _, H, I.kept more, ⟨u, rfl⟩, q⟩) (by decide +kernel)
  have : sysModules = a := by simpa using hm
  rw [this] at h1
  simp at h1
theorem repr_run {pins : List (Addr × Obj)} {s : Shared} {σ : L2.St} {H : Hp} {Q : VK} {v : V} {d : D} {p : PyData} {a : Addr} (hu : X.A.units + 200 < cLine) (gu : X.A.guards = some []) (I : Inv X pins σ H s) (rx : RelV v (.ref a)) (hd : Rep X.K im H v d) (e : d.py = some p)
    (h : p.showable = true ∧ p.hasDict = false ∧ p.depth ≤ 150 ∧ p.shown.length ≤ sizeLine) (q : Q (.str p.shown) H) : wpAny (model X.prog X.w) X.A (call (.builtin "repr") [.ref a]) (EP X pins σ Q) X.xe s := by
  obtain ⟨as, r⟩ := Dp.reads I p v (.ref a) (Rep.dp _ _ _ hd e) rx
  exact repr_of_reads' r h.1 (PyData.noDict_hsm h.2.1) gu (by omega) (fun _ _ e => e) (fun h' u tk more => ⟨.str _, H, I.kept more, ⟨u, rfl⟩, q⟩) h.2.2.2
theorem call_reprDD (hu : X.A.units + 200 < cLine) (gu : X.A.guards = some []) : CallR X (.builtin "repr") (rDN X.K im (un1 reprD)) := by
  intro pins s σ H xs us Q I r h
  obtain ⟨ds, z, hd, hz, q⟩ := h
  obtain ⟨v, d, rfl, hd, hz⟩ := un1_ok hd hz
  cases hd with
  | int i =>
    unfold reprD at hz
    dsimp only at hz
    split at hz
    · rename_i c
      cases hz
      exact SkE.call_repr_int pins s σ H _ us Q I r ⟨i, rfl, c, q _ _ (Same.refl _) (.str _)⟩
    · cases hz
  | bl b =>
    obtain ⟨u, rfl, rx⟩ := vals1 r
    cases rx
    cases hz
    exact PySem.P.repr_of_bool ⟨.str _, H, I.tok _, ⟨_, rfl⟩, q _ _ (Same.refl _) (.str _)⟩
  | non =>
    obtain ⟨u, rfl, rx⟩ := vals1 r
    cases rx
    cases hz
    exact PySem.P.repr_of_none ⟨.str _, H, I.tok _, ⟨_, rfl⟩, q _ _ (Same.refl _) (.str _)⟩
  | str x =>
    obtain ⟨u, rfl, t, rfl⟩ := vals1 r
    unfold reprD at hz
    dsimp only at hz
    split at hz
    · rename_i c
      cases hz
      exact PySem.P.repr_of_str ⟨.str _, H, I.tok _, ⟨_, rfl⟩, q _ _ (Same.refl _) (.str _)⟩ c
    · cases hz
  | @tup a vs ds h1 h2 =>
    obtain ⟨u, rfl, rx⟩ := vals1 r
    cases rx
    unfold reprD at hz
    dsimp only at hz
    cases e : (D.tup ds).py with
    | none => rw [e] at hz; cases hz
    | some p =>
      rw [e] at hz
      dsimp only at hz
      split at hz
      · rename_i c
        cases hz
        exact repr_run (v := V.ref a) hu gu I (show RelV (V.ref a) (.ref a) from rfl) (.tup h1 h2) e c (q _ _ (Same.refl _) (.str _))
      · cases hz
  | @lst a vs ds h1 h2 =>
    obtain ⟨u, rfl, rx⟩ := vals1 r
    cases rx
    unfold reprD at hz
    dsimp only at hz
    cases e : (D.lst ds).py with
    | none => rw [e] at hz; cases hz
    | some p =>
      rw [e] at hz
      dsimp only at hz
      split at hz
      · rename_i c
        cases hz
        exact repr_run (v := V.ref a) hu gu I (show RelV (V.ref a) (.ref a) from rfl) (.lst h1 h2) e c (q _ _ (Same.refl _) (.str _))
      · cases hz
  | @dic a o ks vs ds h1 h2 h3 =>
    obtain ⟨u, rfl, rx⟩ := vals1 r
    cases rx
    unfold reprD at hz
    dsimp only at hz
    split at hz
    · rename_i c
      cases hz
      obtain rfl : ks = [] := List.isEmpty_iff.mp c
      rw [List.zip_nil_left] at h1
      exact repr_empty hu gu I h1 (q _ _ (Same.refl _) (.str _))
    · cases hz
  | _ => cases hz
end
section
variable {P : Program} {w : World} {K : PySem.W.Frag} {mg mb : Str → Option Value} {k : Nat} {fa a : Addr} {fd : FuncData} {x : Str} {sp : Sp} {st : Shared} {vs : List Value} {ns : List Int}
/-- from an abstract heap T that tracks the script or nothing -/
theorem enter_at {T : Hp} (inK : K.In st.heap) (gl : st.heap.Ns mainGlobals mg) (bi : st.heap.Ns builtinsNs mb) (bib : ∀ y : Str, y ≠ "__name__" → mb y = bootBuiltins y) (lim : st.heap.NoLimit) (calm : st.gens = #[])
    (scr : st.heap.get? a = some { cls := .type "list", data := .seq vs.toArray }) (room : Room k callerA) (F : ∀ base : Heap, K.In base → base.Ns mainGlobals mg → GOk P w K mg base k fa fd [x] sp)
    (bind : ∀ (s : Shared) (u : Value), BindsTo s fd ⟨[u], []⟩ [(x, u)]) (only : Only T) (tracked : HOk P w T st.heap) (alone : ∀ b, T b ≠ none → b = a) (apart : T a ≠ none → K.lookup a = none)
    (want : sp [.ref a] T (fun v _ => v = .bl true) fun _ _ _ => False) :
    codeAny (model P w) callerA (.call (.ref fa) ⟨[.ref a], []⟩) (fun r s' => r = .ok (.ret (.bool true)) ∧ OldK st.heap s'.heap ∧ s'.os = st.os ∧ AllBare s'.gens) st := by
  -- no table of names is the script
  have plain : ∀ {b : Addr} {o : Obj} {es : Array DictEntry} {n : Nat}, st.heap.get? b = some o → o.data = .dict es n → T b = none := by
    intro b o es n there dict
    apply Classical.byContradiction
    intro some'
    have := alone b some'
    subst this
    rw [scr] at there
    cases there
    exact nomatch dict
  have names : ∀ {b : Addr} {m : Str → Option Value}, st.heap.Ns b m → (hidT st.heap T).Ns b m := by
    rintro b m ⟨o, es, n, there, dict, rest⟩
    exact ⟨o, es, n, hidT_get there (plain there dict), dict, rest⟩
  have ground : K.In (hidT st.heap T) := by
    intro b o found
    apply hidT_get (inK b o found)
    apply Classical.byContradiction
    intro some'
    have := alone b some'
    subst this
    rw [apart some'] at found
    cases found
  obtain ⟨mc, lim1, lim2⟩ := lim
  have env : Env0 P w K mg (hidT st.heap T) callerA [] st T :=
    ⟨rfl, ⟨ground, names gl, ⟨mb, names bi, bib⟩, ⟨mc, names lim1, lim2⟩⟩, fun _ _ e => of_hidT e, Nat.le_of_eq (hidT_size _ _), trivial, fun b hb => (nomatch hb), tracked, .of_eq calm⟩
  refine codeAny_mono ((F _ ground (names gl)).enter callerA [] st T ⟨[.ref a], []⟩ [.ref a] [V.ref a] _ _ rfl room env (bind st _) (.cons rfl .nil) want) ?_
  intro r s' out
  match r, out with
  | .error _, out => exact out.elim
  | .ok .next, out => exact out.elim
  | .ok .brk, out => exact out.elim
  | .ok .cont, out => exact out.elim
  | .ok (.ret u), ⟨v, T', sameOs, bare, un, after, rel, yes⟩ =>
    cases yes
    cases rel
    refine ⟨rfl, OldK.of_keep ?_, sameOs, bare⟩
    intro b o there
    cases tb : T b with
    | none => exact un.keep b o there tb (fun z => by cases z) (fun z => by cases z)
    | some h =>
      rcases only b with z | ⟨ob, xs, z⟩
      · rw [tb] at z; cases z
      · have was := (tracked b _ z).1
        have is := (after b _ (un.frzs b ob _ z)).1
        rw [there] at was
        cases was
        exact is
theorem law_enter (inK : K.In st.heap) (gl : st.heap.Ns mainGlobals mg) (bi : st.heap.Ns builtinsNs mb) (bib : ∀ y : Str, y ≠ "__name__" → mb y = bootBuiltins y) (lim : st.heap.NoLimit) (calm : st.gens = #[])
    (scr : st.heap.get? a = some { cls := .type "list", data := .seq vs.toArray }) (nums : IntsAre vs ns) (short : ns.length ≤ sizeLine) (room : Room k callerA) (F : ∀ base : Heap, K.In base → base.Ns mainGlobals mg → GOk P w K mg base k fa fd [x] sp)
    (bind : ∀ (s : Shared) (u : Value), BindsTo s fd ⟨[u], []⟩ [(x, u)]) (want : ∀ H : Hp, Only H → SqL K H a (ns.map V.int) → sp [.ref a] H (fun v _ => v = .bl true) fun _ _ _ => False) :
    codeAny (model P w) callerA (.call (.ref fa) ⟨[.ref a], []⟩) (fun r s' => r = .ok (.ret (.bool true)) ∧ OldK st.heap s'.heap ∧ s'.os = st.os ∧ AllBare s'.gens) st := by
  have rels := vals_ints nums
  have many := nums.length
  cases own : K.lookup a with
  | some o =>
    have there := inK a o own
    rw [scr] at there
    cases there
    have none' : Only (fun _ => none) := fun _ => .inl rfl
    refine enter_at (T := fun _ => none) inK gl bi bib lim calm scr room F bind none' (fun b u z => nomatch (show (none : Option HO) = some u from z)) (fun b z => absurd rfl z) (fun z => absurd rfl z) (want _ none' ?_)
    exact .inr ⟨_, vs.toArray, _, own, rfl, rfl, rfl, by rw [List.size_toArray, many]; exact short, by simpa using rels⟩
  | none =>
    let T : Hp := fun b => if b = a then some (.frz { cls := .type "list", data := .seq vs.toArray } (.lst (ns.map V.int))) else none
    have at_a : T a = some (.frz { cls := .type "list", data := .seq vs.toArray } (.lst (ns.map V.int))) := if_pos rfl
    have off : ∀ b, b ≠ a → T b = none := fun b h => if_neg h
    have only : Only T := fun b => by
      by_cases h : b = a
      · exact .inr ⟨_, _, by rw [h]; exact at_a⟩
      · exact .inl (off b h)
    refine enter_at (T := T) inK gl bi bib lim calm scr room F bind only ?_ ?_ (fun _ => own) (want T only (.inl (.inr ⟨_, at_a⟩)))
    · intro b u z
      by_cases h : b = a
      · subst h
        rw [at_a] at z
        cases z
        exact ⟨scr, by rw [List.length_map]; exact short, vs, _, rels, scr⟩
      · rw [off b h] at z; cases z
    · intro b z
      apply Classical.byContradiction
      intro h
      exact z (off b h)
end
theorem walk_g {l : PySem.W.OpenLaw} {n k : Nat} {q : Program} {loose : List Str} {XP : (Str → Option Value) → Heap → Prop} {YP : World → Heap → Prop} {d : DefRec} {K : Params → PySem.W.Frag} {sp : World → Sp} {x : Str}
    (most : l.most = some n) (fits : n ≤ sizeLine) (bare : d.params.defaults = []) (room : Room k callerA) (inK : ∀ (w : World) (h : Heap), YP w h → (K w.params).In h)
    (F : ∀ (w : World) (mg : Str → Option Value) (fa : Addr) (h : Heap), (K w.params).In h → h.Ns mainGlobals mg → mg d.name = some (.ref fa) →
      ∃ fd : FuncData, (∀ (s : Shared) (u : Value), BindsTo s fd ⟨[u], []⟩ [(x, u)]) ∧ ∀ base : Heap, (K w.params).In base → base.Ns mainGlobals mg → GOk l.prog w (K w.params) mg base k fa fd [x] (sp w))
    (want : ∀ (w : World) (H : Hp) (a : Addr) (ns : List Int), ns.length ≤ n → Only H → SqL (K w.params) H a (ns.map V.int) → sp w [.ref a] H (fun v _ => v = .bl true) fun _ _ _ => False) :
    PySem.W.WalkO q loose XP YP l.row.toRowW d [] (fun f vs => PySem.call f vs) := by
  refine Att.attach_call most bare fun w s0 s1 mg mb fa o pm cd doc a vs ns G Y ho hd hcd hmg hobj hints hlen hg => ?_
  have KX := inK w _ Y
  obtain ⟨fd, hb, hF⟩ := F w mg fa _ KX G.T.g hmg
  exact law_enter KX G.T.g G.T.b G.T.builtins G.T.nolimit hg hobj hints (Nat.le_trans hlen fits) room hF hb fun H hO hS => want w H a ns hlen hO hS
section
variable {im : Addr → Bool} {P : Program} {w : World} {K : PySem.W.Frag} {mg : Str → Option Value} {base : Heap}
theorem close_D {N ps : List Str} {F : S Unit} {t : TS} {vs : List V} {H : Hp} {Q : VK} {Ex : XK} (hd : DS (gam0 im) K (fun _ _ _ _ => False) t F)
    (h : spD K im ps.length (fun ds => nox (runS F (startT N.length (ds.map .d)) ())) vs H Q Ex) : t { nx := fun _ H' => Q .non H', rt := Q } (start N vs) H := by
  obtain ⟨hl, ds, r, h⟩ := h
  have st : STT (gam0 im) K H H (start N vs) (startT N.length (ds.map .d)) := stt_start (by rw [List.length_map, r.length]) (fun i v c e1 e2 => by
    rw [List.getElem?_map] at e2
    cases q : ds[i]? with
    | none => rw [q] at e2; cases e2
    | some d =>
      rw [q] at e2; cases e2
      obtain ⟨v', e3, r'⟩ := r.get q
      rw [e1] at e3; cases e3
      exact .d r') (fun c hc _ xs e => by
    obtain ⟨d, _, rfl⟩ := List.mem_map.mp hc
    cases e) _
  refine hd H (start N vs) H () _ st trivial _ ?_
  unfold runS at h
  dsimp only at h
  cases q : F (startT N.length (ds.map .d)) () with
  | none => rw [q] at h; exact h.elim
  | some p =>
    obtain ⟨fl, ω'⟩ := p
    rw [q] at h
    cases fl with
    | nx τ => exact fun σ' H' _ s t => h .non H' (fun b o e => s.fr b o e id) .non
    | rt d => exact fun v H' _ k t r => h v H' (fun b o e => k b o e id) r
    | bk τ => exact h.elim
    | ct τ => exact h.elim
    | rs x τ => exact h.elim
    | rl d => exact h.elim
theorem fn_DG {x qual : Str} {st : Stmt} {f : Addr} {fd : FuncData} {N ps : List Str} {k k' j : Nat} {F : S Unit} {F' : List D → R Unit D} (Fn : Fun K x qual st f fd) (Sc : FnScope N ps (defScope st))
    (ek : k' = k + 1) (ej : j = ps.length) (eF : F' = fun ds => nox (runS F (startT N.length (ds.map .d)) ()))
    (hb : ∀ (cdv : Value) (A : Around) (outer : List Env) (s : Shared) (H : Hp) (Ex : XK), A.guards = some [] → Room k (A.deeper (envOfC qual (defScope st) s.heap.objs.size f cdv)) →
      ∃ t, PSs (cxOf CX0 P w K mg base N qual (defScope st) f cdv A outer s H Ex).nox (defBody st) t ∧ DS (gam0 im) K (fun _ _ _ _ => False) t F) :
    GOk P w K mg base k' f fd ps (spD K im j F') := by
  subst ek ej eF
  refine GOk.ofBody Fn Sc (fun vs H Q Ex h => h.1) fun cdv A outer s H vs Q Ex gu hr h => ?_
  obtain ⟨t, ht, hd⟩ := hb cdv A outer s H Ex gu hr
  exact ⟨t, ht, close_D hd h⟩
theorem GOk.no {f : Addr} {fd : FuncData} {ps : List Str} {k : Nat} {sp : Sp} (h : ∀ vs H Q Ex, ¬ sp vs H Q Ex) : GOk P w K mg base k f fd ps sp :=
  ⟨fun vs H Q Ex q => (h vs H Q Ex q).elim, fun _ _ _ H _ _ vs Q Ex _ _ _ _ _ q => (h vs H Q Ex q).elim⟩
end
end DL
namespace DL
open PySem PySem.Spec PyProof.Rows L2
def D.ty : D → Option String
  | .non => some "NoneType"
  | .bl _ => some "bool"
  | .int _ => some "int"
  | .str _ => some "str"
  | .tup _ => some "tuple"
  | .lst _ => some "list"
  | .dic _ _ => some "dict"
  | _ => none
def isiD (c : String) (d : D) : Option D := match d.ty with
  | some t => (kitB t c).map .bl
  | none => none
section
variable {im : Addr → Bool} {Ω : Type} {G : Gam im Ω} {K : PySem.W.Frag} {W : WX} {te : TE} {Fe : E Ω D} {H : Hp}
theorem Rep.ty {v : V} {d : D} {t : String} (h : Rep K im H v d) (e : d.ty = some t) : TyX K H v (.type t) := by
  cases h with
  | non => cases e; exact .base .non
  | bl b => cases e; exact .base (.bl b)
  | int i => cases e; exact .base (.int i)
  | str x => cases e; exact .base (.str x)
  | tup h1 h2 =>
    cases e
    exact .base (.tup h1)
  | lst h1 h2 =>
    cases e
    obtain ⟨o, h⟩ := h1
    exact .base (.frz h)
  | dic h1 h2 h3 =>
    cases e
    exact .fDict h1
  | _ => cases e
/-- one class -/
theorem de_isi {c : String} (he : DE G K W te Fe) : DE G K W (tCB (rIsi K) (tCons te (tCons (tC (.ty c)) tNil))) (eUn (isiD c) Fe) := by
  intro H0 σ H ω τ s t Q h
  refine he H0 σ H ω τ s t _ (Res.imp (Res.bind h) (fun d ω1 H1 k1 t1 h1 v r => ?_) fun _ _ _ _ _ q => q)
  cases e : isiD c d with
  | none => rw [e] at h1; exact h1.elim
  | some z =>
    rw [e] at h1
    unfold isiD at e
    cases q : d.ty with
    | none => rw [q] at e; cases e
    | some n =>
      rw [q] at e
      obtain ⟨b, hb, rfl⟩ := Option.map_eq_some_iff.mp e
      exact ⟨v, .ty c, _, _, b, rfl, .ty c, Rep.ty r q, kit_ty hb, h1 H1 k1 t1 _ (.bl b)⟩
/-- one of two classes -/
def isi2D (c1 c2 : String) (d : D) : Option D := match d.ty with
  | some t => match kitB t c1, kitB t c2 with
    | some a, some b => some (.bl (a || b))
    | _, _ => none
  | none => none
theorem de_isi2 {c1 c2 : String} (he : DE G K W te Fe) : DE G K W (tCB (rIsiT K) (tCons te (tCons (tTup (tCons (tC (.ty c1)) (tCons (tC (.ty c2)) tNil))) tNil))) (eUn (isi2D c1 c2) Fe) := by
  intro H0 σ H ω τ s t Q h
  refine he H0 σ H ω τ s t _ (Res.imp (Res.bind h) (fun d ω1 H1 k1 t1 h1 v r => ?_) fun _ _ _ _ _ q => q)
  have h3 := h1.mono k1
  cases e : isi2D c1 c2 d with
  | none => rw [e] at h3; exact h3.elim
  | some z =>
    rw [e] at h3
    unfold isi2D at e
    cases q : d.ty with
    | none => rw [q] at e; cases e
    | some n =>
      rw [q] at e
      dsimp only at e
      split at e
      · rename_i a b ha hb
        cases e
        refine ⟨by show 2 ≤ sizeLine; rw [sizeLine_eq]; omega, fun p hp => ?_⟩
        have sm : Same H1 (upd H1 p (.tup [.ty c1, .ty c2])) := Same.new hp
        have r2 : Rep K im (upd H1 p (.tup [.ty c1, .ty c2])) v d := r.up (.of sm)
        refine ⟨v, p, [.ty c1, .ty c2], _, [.type c1, .type c2], _, rfl, upd_same, .cons (.ty c1) (.cons (.ty c2) .nil), Rep.ty r2 q, ?_, h3 _ (.of sm) (At.same t1 sm) _ (.bl _)⟩
        cases a with
        | true => exact kitAny_cons (kit_ty ha) (fun z => by cases z) fun _ => rfl
        | false => exact kitAny_cons (kit_ty ha) (fun _ => kitAny_cons (kit_ty hb) (fun z => by subst z; exact kitAny_nil) fun z => by subst z; rfl) fun z => by cases z
      · cases e
end
def D.flat : D → Bool
  | .non => true
  | .bl _ => true
  | .int _ => true
  | .str _ => true
  | _ => false
def D.v : D → V
  | .bl b => .bl b
  | .int i => .int i
  | .str x => .str x
  | _ => .non
def inF (x : D) (ys : List D) : Option Bool := if x.flat = true ∧ ys.all D.flat = true then some (inV x.v (ys.map D.v)) else none
def inB (x : D) : D → Option Bool
  | .tup ys => inF x ys
  | .lst ys => match inF x ys with
    | some b => some b
    | none => match x.py, D.pyL ys with
      | some d, some ds => if SeqAt.shaped d = true ∧ SeqAt.shaped (.list ds) = true then some (ds.any fun z => PyData.eqv z d) else none
      | _, _ => none
  | _ => none
def ninD (x y : D) : Option D := (inB x y).map fun b => .bl (!b)
section
variable {im : Addr → Bool} {K : PySem.W.Frag} {H : Hp}
theorem Rep.flat {v : V} {d : D} (h : Rep K im H v d) (f : d.flat = true) : v = d.v ∧ flatV v = true := by
  cases h <;> first | exact ⟨rfl, rfl⟩ | cases f
theorem RepL.flat : ∀ {vs : List V} {ds : List D}, RepL K im H vs ds → ds.all D.flat = true → vs = ds.map D.v ∧ vs.all flatV = true
  | _, _, .nil, _ => ⟨rfl, rfl⟩
  | _, _, .cons h t, f => by
    rw [List.all_cons, Bool.and_eq_true] at f
    obtain ⟨e1, f1⟩ := h.flat f.1
    obtain ⟨e2, f2⟩ := RepL.flat t f.2
    exact ⟨by rw [List.map_cons, ← e1, ← e2], by rw [List.all_cons, f1, f2]; rfl⟩
end
section
variable {X : Cx} {im : Addr → Bool} {pins : List (Addr × Obj)} {s : Shared} {σ : L2.St} {H : Hp} {x y : V} {u w : Value} {d e : D} {b : Bool}
/-- what the library's rules for in ask -/
theorem in_ways (hd : Rep X.K im H x d) (he : Rep X.K im H y e) (hb : inB d e = some b) :
    (∃ p xs, y = .ref p ∧ (SqL X.K H p xs ∨ SqT X.K H p xs) ∧ flatV x = true ∧ xs.all flatV = true ∧ b = inV x xs) ∨
    (∃ q qs, Dp X.K H x q ∧ Dp X.K H y (.list qs) ∧ SeqAt.shaped q = true ∧ SeqAt.shaped (.list qs) = true ∧ b = qs.any fun z => PyData.eqv z q) := by
  have flatly : ∀ {vs : List V} {ys : List D}, RepL X.K im H vs ys → inF d ys = some b → flatV x = true ∧ vs.all flatV = true ∧ b = inV x vs := by
    intro vs ys r z
    unfold inF at z
    split at z
    · rename_i c
      cases z
      obtain ⟨e1, f1⟩ := hd.flat c.1
      obtain ⟨e2, f2⟩ := r.flat c.2
      exact ⟨f1, f2, by rw [← e1, ← e2]⟩
    · cases z
  cases he with
  | tup h1 h2 =>
    obtain ⟨f1, f2, f3⟩ := flatly h2 hb
    exact .inl ⟨_, _, rfl, .inr h1, f1, f2, f3⟩
  | @lst a vs ys h1 h2 =>
    unfold inB at hb
    dsimp only at hb
    cases z : inF d ys with
    | some b' =>
      rw [z] at hb
      cases hb
      obtain ⟨f1, f2, f3⟩ := flatly h2 z
      exact .inl ⟨_, _, rfl, .inl h1.l, f1, f2, f3⟩
    | none =>
      rw [z] at hb
      dsimp only at hb
      split at hb
      · rename_i q qs e1 e2
        split at hb
        · rename_i c
          cases hb
          have e3 : (D.lst ys).py = some (.list qs) := by rw [D.py, e2]; rfl
          exact .inr ⟨q, qs, Rep.dp _ _ _ hd e1, Rep.dp _ _ _ (.lst h1 h2) e3, c.1, c.2, rfl⟩
        · cases hb
      · cases hb
  | _ => cases hb
theorem op_ninDD (hu : X.A.units + 200 < cLine) : OpR X (compareOp .NotIn) (rD2 X.K im ninD) := by
  intro pins s σ H x y v u Q I rx ry h
  obtain ⟨d, e, z, hd, he, hz, q⟩ := h
  obtain ⟨b, hb, rfl⟩ := Option.map_eq_some_iff.mp hz
  rcases in_ways hd he hb with ⟨p, xs, c1, c2, c3, c4, c5⟩ | ⟨d1, ds, c1, c2, c3, c4, c5⟩
  · exact op_notIn_seq pins s σ H x y v u Q I rx ry ⟨p, xs, c1, c2, c3, c4, by rw [← c5]; exact q _ _ (Same.refl _) (.bl _)⟩
  · exact op_notInD (by omega) pins s σ H x y v u Q I rx ry ⟨d1, ds, c1, c2, c3, c4, by rw [← c5]; exact q _ _ (Same.refl _) (.bl _)⟩
end
end DL
namespace DL
open PySem PySem.Spec PyProof.Rows L2
section
variable {Ω α β : Type}
/-- a run ends well with P, or with an exception in X -/
@[irreducible] def R.wp (r : R Ω α) (P : α → Ω → Prop) (X : Exn → Ω → Prop) : Prop := match r with
  | .ok a ω => P a ω
  | .ex x ω => X x ω
  | .no => False
@[irreducible] def sw (o : Option (Fl × Ω)) (P : Fl → Ω → Prop) : Prop := match o with
  | some (f, ω) => P f ω
  | none => False
abbrev X0 : Exn → Ω → Prop := fun _ _ => False
theorem wp_ok {a : α} {ω : Ω} {P X} : (R.ok a ω).wp P X = P a ω := by with_unfolding_all rfl
theorem wp_bind {r : R Ω α} {f : α → Ω → R Ω β} {P X} : (r.bind f).wp P X = r.wp (fun a ω => (f a ω).wp P X) X := by cases r <;> with_unfolding_all rfl
theorem wp_nox {r : R Ω α} {P X} : (nox r).wp P X = r.wp P X0 := by cases r <;> with_unfolding_all rfl
theorem wp_lift {r : R Unit α} {ω : Ω} {P X} : (lift r ω).wp P X = r.wp (fun a _ => P a ω) (fun x _ => X x ω) := by cases r <;> with_unfolding_all rfl
theorem wp_some {a : α} {ω : Ω} {P X} : (R.ofO (some a) ω).wp P X = P a ω := by with_unfolding_all rfl
theorem R.wp.mono {r : R Ω α} {P P' : α → Ω → Prop} {X X' : Exn → Ω → Prop} (h : r.wp P X) (k : ∀ a ω, P a ω → P' a ω) (kx : ∀ x ω, X x ω → X' x ω := by exact fun _ _ h => h) : r.wp P' X' := by
  cases r with
  | ok a ω => with_unfolding_all exact k _ _ h
  | ex x ω => with_unfolding_all exact kx _ _ h
  | no => with_unfolding_all exact h
theorem R.wp.eq {r : R Ω α} {a : α} {ω : Ω} (h : r.wp (fun b ω' => b = a ∧ ω' = ω) X0) : r = .ok a ω := by
  unfold R.wp at h
  cases r with
  | ok b ω' => obtain ⟨rfl, rfl⟩ := h; with_unfolding_all rfl
  | ex x ω => exact h.elim
  | no => exact h.elim
theorem R.wp.equ {r : R Unit α} {a : α} (h : r.wp (fun b _ => b = a) X0) : r = .ok a () := by
  unfold R.wp at h
  cases r with
  | ok b ω' => cases h; with_unfolding_all rfl
  | ex x ω => exact h.elim
  | no => exact h.elim
theorem R.wp.ex {r : R Ω α} {P : α → Ω → Prop} (h : r.wp P X0) : ∃ a ω, r = .ok a ω ∧ P a ω := by
  cases r with
  | ok b ω' => with_unfolding_all exact ⟨_, _, rfl, h⟩
  | ex x ω => with_unfolding_all exact h.elim
  | no => with_unfolding_all exact h.elim
theorem sw_some {f : Fl} {ω : Ω} {P} : sw (some (f, ω)) P = P f ω := by with_unfolding_all rfl
theorem sw_none {P : Fl → Ω → Prop} : sw none P = False := by with_unfolding_all rfl
theorem sw.mono {o : Option (Fl × Ω)} {P P' : Fl → Ω → Prop} (h : sw o P) (k : ∀ f ω, P f ω → P' f ω) : sw o P' := by
  cases o with
  | none => with_unfolding_all exact h
  | some p => with_unfolding_all exact k _ _ h
theorem sw_withE {e : E Ω α} {k : α → S Ω} {τ : Tau} {ω : Ω} {P} : sw (withE e k τ ω) P = (e τ ω).wp (fun a ω1 => sw (k a τ ω1) P) (fun x ω1 => P (.rs x τ) ω1) := by
  unfold withE; cases e τ ω <;> with_unfolding_all rfl
theorem sw_seq {a b : S Ω} {τ : Tau} {ω : Ω} {P} : sw (sSeq a b τ ω) P = sw (a τ ω) (fun f ω1 => match f with | .nx τ1 => sw (b τ1 ω1) P | f => P f ω1) := by
  unfold sSeq
  rcases a τ ω with _ | ⟨fl, ω1⟩
  · with_unfolding_all rfl
  · cases fl <;> with_unfolding_all rfl
theorem sw_if {c : E Ω Bool} {a b : S Ω} {τ : Tau} {ω : Ω} {P} : sw (sIf c a b τ ω) P = (c τ ω).wp (fun x ω1 => if x then sw (a τ ω1) P else sw (b τ ω1) P) (fun x ω1 => P (.rs x τ) ω1) := by
  unfold sIf; rw [sw_withE]; congr; funext x ω1; cases x <;> with_unfolding_all rfl
theorem sw_ret {e : E Ω D} {τ : Tau} {ω : Ω} {P} : sw (sRet e τ ω) P = (e τ ω).wp (fun d ω1 => P (.rt d) ω1) (fun x ω1 => P (.rs x τ) ω1) := by
  unfold sRet; rw [sw_withE]; with_unfolding_all rfl
theorem sw_asg {e : E Ω D} {B : D → Tau → Option Tau} {τ : Tau} {ω : Ω} {P} : sw (sAsg e B τ ω) P = (e τ ω).wp (fun d ω1 => ∃ τ1, B d τ = some τ1 ∧ P (.nx τ1) ω1) (fun x ω1 => P (.rs x τ) ω1) := by
  unfold sAsg; rw [sw_withE]; congr; funext d ω1; cases B d τ <;> simp [sw]
theorem sw_asgN {e : E Ω D} {i : Nat} {τ : Tau} {ω : Ω} {P} : sw (sAsg e (bName i) τ ω) P = (e τ ω).wp (fun d ω1 => P (.nx (τ.set i (some (.d d)))) ω1) (fun x ω1 => P (.rs x τ) ω1) := by
  rw [sw_asg]; simp [bName]
theorem sw_setO {e : E Ω (List D)} {i : Nat} {τ : Tau} {ω : Ω} {P} : sw (sSetO e i τ ω) P = (e τ ω).wp (fun ds ω1 => P (.nx (τ.set i (some (.ow .L ds)))) ω1) (fun x ω1 => P (.rs x τ) ω1) := by
  unfold sSetO; rw [sw_withE]; with_unfolding_all rfl
theorem sw_nx {τ : Tau} {ω : Ω} {P} : sw (sNx τ ω) P = P (.nx τ) ω := by with_unfolding_all rfl
theorem sw_par {i j : Nat} {a b : E Ω D} {τ : Tau} {ω : Ω} {P} : sw (sPar i j a b τ ω) P = (a τ ω).wp (fun x ω1 => (b τ ω1).wp (fun y ω2 => P (.nx ((τ.set i (some (.d x))).set j (some (.d y)))) ω2) (fun x ω1 => P (.rs x τ) ω1)) (fun x ω1 => P (.rs x τ) ω1) := by
  unfold sPar; simp only [sw_withE]; with_unfolding_all rfl
theorem sw_parO1 {i j : Nat} {a : E Ω (List D)} {b : E Ω D} {τ : Tau} {ω : Ω} {P} : sw (sParO1 i j a b τ ω) P = (a τ ω).wp (fun x ω1 => (b τ ω1).wp (fun y ω2 => P (.nx ((τ.set i (some (.ow .L x))).set j (some (.d y)))) ω2) (fun x ω1 => P (.rs x τ) ω1)) (fun x ω1 => P (.rs x τ) ω1) := by
  unfold sParO1; simp only [sw_withE]; with_unfolding_all rfl
theorem sw_parO2 {i j : Nat} {a : E Ω D} {b : E Ω (List D)} {τ : Tau} {ω : Ω} {P} : sw (sParO2 i j a b τ ω) P = (a τ ω).wp (fun x ω1 => (b τ ω1).wp (fun y ω2 => P (.nx ((τ.set i (some (.d x))).set j (some (.ow .L y)))) ω2) (fun x ω1 => P (.rs x τ) ω1)) (fun x ω1 => P (.rs x τ) ω1) := by
  unfold sParO2; simp only [sw_withE]; with_unfolding_all rfl
theorem sw_app {i : Nat} {e : E Ω D} {τ : Tau} {ω : Ω} {P} {xs : List D} (h : τ[i]? = some (some (.ow .L xs))) (hl : xs.length ≤ 100000) : sw (sApp i e τ ω) P = (e τ ω).wp (fun d ω1 => P (.nx (τ.set i (some (.ow .L (xs ++ [d]))))) ω1) (fun x ω1 => P (.rs x τ) ω1) := by
  unfold sApp; rw [h]; simp only [sw_withE]; congr; funext d ω1; rw [if_pos hl]; with_unfolding_all rfl
theorem sw_retO {i : Nat} {τ : Tau} {ω : Ω} {P} {xs : List D} (h : τ[i]? = some (some (.ow .L xs))) : sw (sRetO i τ ω) P = P (.rt (.lst xs)) ω := by
  unfold sRetO; rw [h]; with_unfolding_all rfl
theorem sw_fz {i : Nat} {F : S Ω} {τ : Tau} {ω : Ω} {P} : sw (sFz i F τ ω) P = sw (F τ ω) (fun f ω1 => match f with | .nx τ1 => ∃ τ2, fzT i τ1 = some τ2 ∧ P (.nx τ2) ω1 | f => P f ω1) := by
  unfold sFz
  rcases F τ ω with _ | ⟨fl, ω1⟩
  · with_unfolding_all rfl
  · cases fl with
    | nx τ1 => cases e : fzT i τ1 <;> simp [sw, e]
    | _ => with_unfolding_all rfl
theorem wp_runS {F : S Ω} {τ : Tau} {ω : Ω} {P X} : (runS F τ ω).wp P X = sw (F τ ω) (fun f ω' => match f with | .rt d => P d ω' | .nx _ => P .non ω' | .rs x _ => X x ω' | _ => False) := by
  unfold runS
  rcases F τ ω with _ | ⟨fl, ω1⟩
  · with_unfolding_all rfl
  · cases fl <;> with_unfolding_all rfl
theorem sw_for {i : E Ω (List D)} {B : D → Tau → Option Tau} {F : S Ω} {τ : Tau} {ω : Ω} {P} : sw (sFor i B F τ ω) P = (i τ ω).wp (fun ds ω1 => sw (loop B F ds τ ω1) P) (fun x ω1 => P (.rs x τ) ω1) := by
  unfold sFor; rw [sw_withE]
theorem loop_aux {B : D → Tau → Option Tau} {F : S Ω} {P : Fl → Ω → Prop} (I : Nat → Tau → Ω → Prop) (ds : List D)
    (step : ∀ i d τ ω, ds[i]? = some d → I i τ ω → ∃ τ1, B d τ = some τ1 ∧ sw (F τ1 ω) (fun f ω' => match f with | .nx τ' => I (i + 1) τ' ω' | .ct τ' => I (i + 1) τ' ω' | .bk τ' => P (.nx τ') ω' | f => P f ω'))
    (fin : ∀ τ ω, I ds.length τ ω → P (.nx τ) ω) : ∀ (k : Nat) (τ : Tau) (ω : Ω), k ≤ ds.length → I k τ ω → sw (loop B F (ds.drop k) τ ω) P := by
  intro k
  generalize hn : ds.length - k = n
  induction n generalizing k with
  | zero =>
    intro τ ω hk h
    have : k = ds.length := by omega
    subst this
    rw [List.drop_length]
    with_unfolding_all exact fin _ _ h
  | succ n ih =>
    intro τ ω hk h
    have hlt : k < ds.length := by omega
    rw [List.drop_eq_getElem_cons hlt]
    obtain ⟨τ1, e1, h1⟩ := step k ds[k] τ ω (List.getElem?_eq_getElem hlt) h
    unfold loop
    rw [e1]
    dsimp only
    revert h1
    rcases F τ1 ω with _ | ⟨fl, ω2⟩
    · with_unfolding_all exact id
    · cases fl with
      | nx τ2 => with_unfolding_all exact fun h1 => ih (k + 1) (by omega) τ2 ω2 (by omega) h1
      | ct τ2 => with_unfolding_all exact fun h1 => ih (k + 1) (by omega) τ2 ω2 (by omega) h1
      | _ => with_unfolding_all exact fun h1 => h1
theorem loop_inv {B : D → Tau → Option Tau} {F : S Ω} {P : Fl → Ω → Prop} {ds : List D} {τ : Tau} {ω : Ω} (I : Nat → Tau → Ω → Prop) (h0 : I 0 τ ω)
    (step : ∀ i d τ ω, ds[i]? = some d → I i τ ω → ∃ τ1, B d τ = some τ1 ∧ sw (F τ1 ω) (fun f ω' => match f with | .nx τ' => I (i + 1) τ' ω' | .ct τ' => I (i + 1) τ' ω' | .bk τ' => P (.nx τ') ω' | f => P f ω'))
    (fin : ∀ τ ω, I ds.length τ ω → P (.nx τ) ω) : sw (loop B F ds τ ω) P := loop_aux I ds step fin 0 τ ω (Nat.zero_le _) h0
theorem wp_lc {vs : List Nat} {i : E Ω (List D)} {B : D → Tau → Option Tau} {Ft : E Ω Bool} {Fe : E Ω D} {τ : Tau} {ω : Ω} {P X} :
    (eLc vs i B Ft Fe τ ω).wp P X = (i τ ω).wp (fun ds ω1 => ds.length ≤ sizeLine ∧ (lcL B Ft Fe (wipeT τ vs) ds ω1).wp P X0) X := by
  unfold eLc
  rw [wp_bind]
  congr
  funext ds ω1
  by_cases h : ds.length ≤ sizeLine
  · rw [if_pos h, wp_nox]; simp [h]
  · rw [if_neg h]; simp [h, R.wp]
theorem lc_aux {B : D → Tau → Option Tau} {Ft : E Ω Bool} {Fe : E Ω D} {τ : Tau} (I : Nat → List D → Ω → Prop) (ds : List D)
    (step : ∀ i d acc ω, ds[i]? = some d → I i acc ω → ∃ τ1, B d τ = some τ1 ∧ (Ft τ1 ω).wp (fun b ω1 => if b then (Fe τ1 ω1).wp (fun x ω2 => I (i + 1) (acc ++ [x]) ω2) X0 else I (i + 1) acc ω1) X0)
    : ∀ (k : Nat) (acc : List D) (ω : Ω), k ≤ ds.length → I k acc ω → (lcL B Ft Fe τ (ds.drop k) ω).wp (fun xs ω' => I ds.length (acc ++ xs) ω') X0 := by
  intro k
  generalize hn : ds.length - k = n
  induction n generalizing k with
  | zero =>
    intro acc ω hk h
    have : k = ds.length := by omega
    subst this
    rw [List.drop_length]
    simpa [lcL, R.wp] using h
  | succ n ih =>
    intro acc ω hk h
    have hlt : k < ds.length := by omega
    rw [List.drop_eq_getElem_cons hlt]
    obtain ⟨τ1, e1, h1⟩ := step k ds[k] acc ω (List.getElem?_eq_getElem hlt) h
    unfold lcL
    rw [e1]
    dsimp only
    rw [wp_bind, wp_nox]
    refine h1.mono fun b ω1 h2 => ?_
    cases b with
    | false => simpa using ih (k + 1) (by omega) acc ω1 (by omega) (by simpa using h2)
    | true =>
      simp only [if_true] at h2 ⊢
      rw [wp_bind, wp_nox]
      refine h2.mono fun x ω2 h3 => ?_
      rw [wp_bind]
      refine (ih (k + 1) (by omega) (acc ++ [x]) ω2 (by omega) h3).mono fun xs ω3 h4 => ?_
      simpa [R.wp] using h4
theorem lc_inv {B : D → Tau → Option Tau} {Ft : E Ω Bool} {Fe : E Ω D} {τ : Tau} {ds : List D} {ω : Ω} {P : List D → Ω → Prop} (I : Nat → List D → Ω → Prop) (h0 : I 0 [] ω)
    (step : ∀ i d acc ω, ds[i]? = some d → I i acc ω → ∃ τ1, B d τ = some τ1 ∧ (Ft τ1 ω).wp (fun b ω1 => if b then (Fe τ1 ω1).wp (fun x ω2 => I (i + 1) (acc ++ [x]) ω2) X0 else I (i + 1) acc ω1) X0)
    (fin : ∀ acc ω, I ds.length acc ω → P acc ω) : (lcL B Ft Fe τ ds ω).wp P X0 :=
  (lc_aux I ds step 0 [] ω (Nat.zero_le _) h0).mono fun xs ω' h => fin _ _ (by simpa using h)
theorem while_inv {n : Tau → Ω → Nat} {c : E Ω Bool} {F : S Ω} {P : Fl → Ω → Prop} {τ : Tau} {ω : Ω} (I : Nat → Tau → Ω → Prop) (h0 : I (n τ ω) τ ω)
    (step : ∀ m τ ω, I m τ ω → 0 < m ∧ (c τ ω).wp (fun b ω1 => if b then sw (F τ ω1) (fun f ω' => match f with | .nx τ' => I (m - 1) τ' ω' | .ct τ' => I (m - 1) τ' ω' | .bk τ' => P (.nx τ') ω' | f => P f ω') else P (.nx τ) ω1) (fun x ω1 => P (.rs x τ) ω1)) : sw (sWhile n c F τ ω) P := by
  unfold sWhile
  generalize n τ ω = m at *
  induction m generalizing τ ω with
  | zero => with_unfolding_all exact absurd (step 0 τ ω h0).1 (by omega)
  | succ m ih =>
    have h1 := (step (m + 1) τ ω h0).2
    unfold wloop
    rw [sw_withE]
    refine h1.mono (fun b ω1 h2 => ?_) (fun _ _ h => h)
    cases b with
    | false => simpa [sw_some] using h2
    | true =>
      simp only [if_true] at h2 ⊢
      revert h2
      rcases F τ ω1 with _ | ⟨fl, ω2⟩
      · with_unfolding_all exact id
      · cases fl with
        | nx τ2 => with_unfolding_all exact fun h2 => ih h2
        | ct τ2 => with_unfolding_all exact fun h2 => ih h2
        | _ => with_unfolding_all exact fun h2 => h2
variable {τ : Tau} {ω : Ω}
theorem wp_var {i : Nat} {P : D → Ω → Prop} {X} {d : D} (h : τ[i]? = some (some (.d d))) : (eVar i τ ω).wp P X = P d ω := by unfold eVar; rw [h]; with_unfolding_all rfl
theorem wp_c {d : D} {P X} : ((eC d : E Ω D) τ ω).wp P X = P d ω := by with_unfolding_all rfl
theorem wp_op {f : D → D → Option D} {a b : E Ω D} {P X} : (eOp f a b τ ω).wp P X = (a τ ω).wp (fun x ω1 => (b τ ω1).wp (fun y ω2 => (R.ofO (f x y) ω2).wp P X) X) X := by
  unfold eOp; simp only [wp_bind]
theorem wp_un {f : D → Option D} {a : E Ω D} {P X} : (eUn f a τ ω).wp P X = (a τ ω).wp (fun x ω1 => (R.ofO (f x) ω1).wp P X) X := by
  unfold eUn; simp only [wp_bind]
theorem wp_call {f : List D → Option D} {a : E Ω (List D)} {P X} : (eCall f a τ ω).wp P X = (a τ ω).wp (fun x ω1 => (R.ofO (f x) ω1).wp P X) X := by
  unfold eCall; simp only [wp_bind]
theorem wp_nil {P X} : ((aNil : E Ω (List D)) τ ω).wp P X = P [] ω := by with_unfolding_all rfl
theorem wp_cons {a : E Ω D} {r : E Ω (List D)} {P X} : (aCons a r τ ω).wp P X = (a τ ω).wp (fun x ω1 => (r τ ω1).wp (fun xs ω2 => P (x :: xs) ω2) X) X := by
  unfold aCons; simp only [wp_bind, wp_ok]
theorem wp_tup {a : E Ω (List D)} {P X} : (eTup a τ ω).wp P X = (a τ ω).wp (fun xs ω1 => xs.length ≤ 1000 ∧ P (.tup xs) ω1) X := by
  unfold eTup; rw [wp_bind]; congr; funext xs ω1; by_cases h : xs.length ≤ 1000 <;> simp [h, R.wp]
theorem wp_lst {a : E Ω (List D)} {P X} : (eLst a τ ω).wp P X = (a τ ω).wp (fun xs ω1 => xs.length ≤ 1000 ∧ P xs ω1) X := by
  unfold eLst; rw [wp_bind]; congr; funext xs ω1; by_cases h : xs.length ≤ 1000 <;> simp [h, R.wp]
theorem wp_frz {a : E Ω (List D)} {P X} : (eFrz a τ ω).wp P X = (a τ ω).wp (fun xs ω1 => P (.lst xs) ω1) X := by
  unfold eFrz; rw [wp_bind]; with_unfolding_all rfl
theorem wp_b {a : E Ω D} {P X} : (eB a τ ω).wp P X = (a τ ω).wp (fun x ω1 => (R.ofO x.bool ω1).wp P X) X := by unfold eB; rw [wp_bind]
theorem wp_tru {a : E Ω D} {P X} : (eTru a τ ω).wp P X = (a τ ω).wp (fun x ω1 => (R.ofO x.tru ω1).wp P X) X := by unfold eTru; rw [wp_bind]
theorem wp_and {a b : E Ω Bool} {P X} : (bAnd a b τ ω).wp P X = (a τ ω).wp (fun x ω1 => if x then (b τ ω1).wp P X else P false ω1) X := by
  unfold bAnd; rw [wp_bind]; congr; funext x ω1; cases x <;> with_unfolding_all rfl
theorem wp_or {a b : E Ω Bool} {P X} : (bOr a b τ ω).wp P X = (a τ ω).wp (fun x ω1 => if x then P true ω1 else (b τ ω1).wp P X) X := by
  unfold bOr; rw [wp_bind]; congr; funext x ω1; cases x <;> with_unfolding_all rfl
theorem wp_not {a : E Ω Bool} {P X} : (bNot a τ ω).wp P X = (a τ ω).wp (fun x ω1 => P (!x) ω1) X := by unfold bNot; rw [wp_bind]; with_unfolding_all rfl
theorem wp_yes {P X} : ((bYes : E Ω Bool) τ ω).wp P X = P true ω := by with_unfolding_all rfl
theorem wp_eif {c : E Ω Bool} {a b : E Ω D} {P X} : (eIf c a b τ ω).wp P X = (c τ ω).wp (fun x ω1 => if x then (a τ ω1).wp P X else (b τ ω1).wp P X) X := by
  unfold eIf; rw [wp_bind]; congr; funext x ω1; cases x <;> with_unfolding_all rfl
theorem wp_oNone {P X} : ((oNone : E Ω (Option Int)) τ ω).wp P X = P none ω := by with_unfolding_all rfl
theorem wp_oSome {a : E Ω D} {P X} : (oSome a τ ω).wp P X = (a τ ω).wp (fun x ω1 => (R.ofO x.toI ω1).wp P X) X := by unfold oSome; rw [wp_bind]
theorem wp_sl {a : E Ω D} {l h : E Ω (Option Int)} {P X} : (eSl a l h τ ω).wp P X = (a τ ω).wp (fun x ω1 => (l τ ω1).wp (fun lo ω2 => (h τ ω2).wp (fun hi ω3 => (R.ofO (sliceD x lo hi) ω3).wp P X) X) X) X := by
  unfold eSl; simp only [wp_bind]
theorem wp_sq {a : E Ω D} {P X} : (iSq a τ ω).wp P X = (a τ ω).wp (fun x ω1 => (R.ofO x.itemsS ω1).wp P X) X := by unfold iSq; rw [wp_bind]
theorem wp_rg {f : List D → Option (List D)} {a : E Ω (List D)} {P X} : (iRg f a τ ω).wp P X = (a τ ω).wp (fun x ω1 => (R.ofO (f x) ω1).wp P X) X := by unfold iRg; rw [wp_bind]
theorem wp_cD {F : List D → R Unit D} {a : E Ω (List D)} {P X} : (cD F a τ ω).wp P X = (a τ ω).wp (fun xs ω1 => (F xs).wp (fun d _ => P d ω1) X0) X := by
  unfold cD; simp only [wp_bind, wp_nox, wp_lift]
theorem wp_cW {F : List D → Ω → R Ω D} {i : Nat} {a : E Ω (List D)} {P X} (h : τ[i]? = some (some .src)) : (cW F i a τ ω).wp P X = (a τ ω).wp (fun xs ω1 => (F xs ω1).wp P X0) X := by
  unfold cW; rw [h]; simp only [wp_bind, wp_nox]
theorem wp_oLen {i : Nat} {P : D → Ω → Prop} {X} {xs : List D} (h : τ[i]? = some (some (.ow .L xs))) : (oLen i τ ω).wp P X = P (.int xs.length) ω := by unfold oLen; rw [h]; with_unfolding_all rfl
theorem wp_oTuple {i : Nat} {P : D → Ω → Prop} {X} {xs : List D} (h : τ[i]? = some (some (.ow .L xs))) : (oTuple i τ ω).wp P X = P (.tup xs) ω := by unfold oTuple; rw [h]; with_unfolding_all rfl
theorem wp_oIx {i : Nat} {b : E Ω D} {P : D → Ω → Prop} {X} {xs : List D} (h : τ[i]? = some (some (.ow .L xs))) : (oIx i b τ ω).wp P X = (b τ ω).wp (fun y ω1 => (R.ofO (ixD (.lst xs) y) ω1).wp P X) X := by unfold oIx; rw [h]; simp only [wp_bind]
end
section
variable {τ : Tau} {ω : Src}
theorem wp_src {i : Nat} {f : Src → Int} {P : D → Src → Prop} {X} (h : τ[i]? = some (some .src)) : (eSrc i f τ ω).wp P X = P (.int (f ω)) ω := by unfold eSrc; rw [h]; with_unfolding_all rfl
theorem wp_srcN {i : Nat} {P : D → Src → Prop} {X} (h : τ[i]? = some (some .src)) : (eSrcN i τ ω).wp P X = P (.int ω.cells.length) ω := by unfold eSrcN; rw [h]; with_unfolding_all rfl
theorem wp_srcP {i : Nat} {P : D → Src → Prop} {X} {z : Int} {r : List Int} (h : τ[i]? = some (some .src)) (e : ω.cells = z :: r) : (eSrcP i τ ω).wp P X = P (.int z) { ω with cells := r } := by unfold eSrcP; rw [h, e]; with_unfolding_all rfl
theorem sw_src {i : Nat} {f : Src → Int → Src} {e : E Src D} {P : Fl → Src → Prop} (h : τ[i]? = some (some .src)) : sw (sSrc i f e τ ω) P = (e τ ω).wp (fun d ω1 => ∃ z, d = .int z ∧ P (.nx τ) (f ω1 z)) (fun x ω1 => P (.rs x τ) ω1) := by
  unfold sSrc; rw [sw_withE]; congr; funext d ω1; rw [h]; cases d <;> simp [sw]
end
section
variable {Ω α : Type} {τ : Tau} {ω : Ω}
theorem wp_eqn {r : R Ω α} {a : α} {P X} (h : r = .ok a ω) : r.wp P X = P a ω := by rw [h]; with_unfolding_all rfl
theorem wp_ofOs {o : Option α} {a : α} {P X} (h : o = some a) : (R.ofO o ω).wp P X = P a ω := by rw [h]; with_unfolding_all rfl
theorem wp_varI {i : Nat} {P : D → Ω → Prop} {X} {d : D} (h : τ[i]? = some (some (.d d))) (k : P d ω) : (eVar i τ ω).wp P X := (wp_var h).mpr k
theorem wp_ofOI {o : Option α} {a : α} {P X} (h : o = some a) (k : P a ω) : (R.ofO o ω).wp P X := (wp_ofOs h).mpr k
theorem sw_asgI {e : E Ω D} {B : D → Tau → Option Tau} {P} (k : (e τ ω).wp (fun d ω1 => ∃ τ1, B d τ = some τ1 ∧ P (.nx τ1) ω1) (fun x ω1 => P (.rs x τ) ω1)) : sw (sAsg e B τ ω) P := sw_asg.mpr k
theorem exI {o : Option Tau} {τ1 : Tau} {P : Tau → Prop} (h : o = some τ1) (k : P τ1) : ∃ τ1, o = some τ1 ∧ P τ1 := ⟨_, h, k⟩
theorem sw_appI {i : Nat} {e : E Ω D} {P} {xs : List D} (h : τ[i]? = some (some (.ow .L xs))) (k : (e τ ω).wp (fun d ω1 => P (.nx (τ.set i (some (.ow .L (xs ++ [d]))))) ω1) (fun x ω1 => P (.rs x τ) ω1)) (hl : xs.length ≤ 100000) : sw (sApp i e τ ω) P := (sw_app h hl).mpr k
theorem sw_retOI {i : Nat} {P} {xs : List D} (h : τ[i]? = some (some (.ow .L xs))) (k : P (.rt (.lst xs)) ω) : sw (sRetO i τ ω) P := (sw_retO h).mpr k
theorem wp_oLenI {i : Nat} {P : D → Ω → Prop} {X} {xs : List D} (h : τ[i]? = some (some (.ow .L xs))) (k : P (.int xs.length) ω) : (oLen i τ ω).wp P X := (wp_oLen h).mpr k
theorem wp_oTupleI {i : Nat} {P : D → Ω → Prop} {X} {xs : List D} (h : τ[i]? = some (some (.ow .L xs))) (k : P (.tup xs) ω) : (oTuple i τ ω).wp P X := (wp_oTuple h).mpr k
theorem wp_oIxI {i : Nat} {b : E Ω D} {P : D → Ω → Prop} {X} {xs : List D} (h : τ[i]? = some (some (.ow .L xs))) (k : (b τ ω).wp (fun y ω1 => (R.ofO (ixD (.lst xs) y) ω1).wp P X) X) : (oIx i b τ ω).wp P X := (wp_oIx h).mpr k
theorem sw_srcI {τ : Tau} {ω : Src} {i : Nat} {f : Src → Int → Src} {e : E Src D} {P : Fl → Src → Prop} (h : τ[i]? = some (some .src)) (k : (e τ ω).wp (fun d ω1 => ∃ z, d = .int z ∧ P (.nx τ) (f ω1 z)) (fun x ω1 => P (.rs x τ) ω1)) : sw (sSrc i f e τ ω) P := (sw_src h).mpr k
theorem exD {i : Int} {P : Int → Prop} (k : P i) : ∃ z, D.int i = .int z ∧ P z := ⟨_, rfl, k⟩
theorem iteT {p : Prop} [Decidable p] {a b : Prop} (h : p) : (if p then a else b) = a := if_pos h
theorem iteF {p : Prop} [Decidable p] {a b : Prop} (h : ¬ p) : (if p then a else b) = b := if_neg h
end
end DL
local macro_rules
  | `(tactic| walk_at "ev1") => `(tactic| first
    | (with_reducible refine Eq.mpr DL.sw_seq ?_)
    | ((with_reducible apply DL.wp_varI); (· exact rfl))
    | (with_reducible refine Eq.mpr DL.wp_c ?_)
    | (with_reducible refine Eq.mpr DL.wp_op ?_)
    | ((with_reducible apply DL.wp_ofOI); (· first | exact rfl | assumption))
    | (with_reducible refine Eq.mpr DL.wp_cons ?_)
    | (with_reducible refine Eq.mpr DL.wp_nil ?_)
    | (with_reducible refine Eq.mpr DL.wp_cD ?_)
    | ((with_reducible refine Eq.mpr (DL.wp_cW ?evh) ?_); (case evh => exact rfl))
    | (with_reducible refine Eq.mpr DL.sw_asgN ?_)
    | (with_reducible refine Eq.mpr DL.sw_if ?_)
    | (with_reducible refine Eq.mpr DL.wp_b ?_)
    | (with_reducible refine Eq.mpr DL.sw_ret ?_)
    | (with_reducible refine Eq.mpr DL.sw_nx ?_)
    | (with_reducible refine Eq.mpr DL.wp_call ?_)
    | (with_reducible refine Eq.mpr DL.wp_tup ?_)
    | (with_reducible refine Eq.mpr DL.wp_lst ?_)
    | ((with_reducible apply And.intro); (· exact Nat.le_of_ble_eq_true rfl))
    | (with_reducible refine Eq.mpr DL.wp_frz ?_)
    | (with_reducible refine DL.sw_asgI ?_)
    | ((with_reducible apply DL.exI); (· exact rfl))
    | (with_reducible apply DL.exD)
    | (with_reducible refine Eq.mpr DL.sw_setO ?_)
    | (with_reducible refine Eq.mpr DL.sw_par ?_)
    | (with_reducible refine Eq.mpr DL.sw_parO1 ?_)
    | (with_reducible refine Eq.mpr DL.sw_parO2 ?_)
    | (with_reducible refine Eq.mpr DL.sw_for ?_)
    | (with_reducible refine Eq.mpr DL.wp_rg ?_)
    | (with_reducible refine Eq.mpr DL.wp_sq ?_)
    | (with_reducible refine Eq.mpr DL.wp_lc ?_)
    | (with_reducible refine Eq.mpr DL.wp_un ?_)
    | (with_reducible refine Eq.mpr DL.wp_and ?_)
    | (with_reducible refine Eq.mpr DL.wp_or ?_)
    | (with_reducible refine Eq.mpr DL.wp_not ?_)
    | (with_reducible refine Eq.mpr DL.wp_yes ?_)
    | (with_reducible refine Eq.mpr DL.wp_tru ?_)
    | (with_reducible refine Eq.mpr DL.wp_eif ?_)
    | (with_reducible refine Eq.mpr DL.wp_sl ?_)
    | (with_reducible refine Eq.mpr DL.wp_oNone ?_)
    | (with_reducible refine Eq.mpr DL.wp_oSome ?_)
    | ((with_reducible apply DL.sw_appI); (· exact rfl))
    | ((with_reducible apply DL.sw_retOI); (· exact rfl))
    | ((with_reducible apply DL.wp_oLenI); (· exact rfl))
    | ((with_reducible apply DL.wp_oTupleI); (· exact rfl))
    | ((with_reducible apply DL.wp_oIxI); (· exact rfl))
    | ((with_reducible refine Eq.mpr (DL.wp_src ?evh) ?_); (case evh => exact rfl))
    | ((with_reducible refine Eq.mpr (DL.wp_srcN ?evh) ?_); (case evh => exact rfl))
    | ((with_reducible apply DL.sw_srcI); (· exact rfl))
    | (with_reducible refine Eq.mpr DL.sw_fz ?_)
    | (with_reducible refine Eq.mpr DL.wp_nox ?_)
    | (with_reducible refine Eq.mpr DL.wp_runS ?_)
    | ((with_reducible refine Eq.mpr (DL.iteT ?evh) ?_); (case evh => exact rfl))
    | ((with_reducible refine Eq.mpr (DL.iteF ?evh) ?_); (case evh => exact Bool.false_ne_true)))
namespace DL
open PySem
inductive Sh where
  | o
  | n (l r : Sh)
  deriving DecidableEq
namespace Sh
def size : Sh → Nat
  | .o => 1
  | .n l r => l.size + r.size
theorem size_pos : ∀ s : Sh, 1 ≤ s.size
  | .o => Nat.le_refl _
  | .n l r => by have := size_pos l; simp only [size]; omega
def py : Sh → PyData
  | .o => .tuple []
  | .n l r => .tuple [l.py, r.py]
def enc : Sh → D
  | .o => .tup []
  | .n l r => .tup [l.enc, r.enc]
theorem enc_py : ∀ s : Sh, s.enc.py = some s.py
  | .o => rfl
  | .n l r => by simp [enc, D.py, D.pyL, enc_py l, enc_py r, py]
theorem eqv : ∀ a b : Sh, PyData.eqv a.py b.py = decide (a = b)
  | .o, .o => by simp [py, PyData.eqv, PyData.eqvAll]
  | .o, .n l r => by simp [py, PyData.eqv, PyData.eqvAll]
  | .n l r, .o => by simp [py, PyData.eqv, PyData.eqvAll]
  | .n l r, .n l' r' => by
    simp only [py, PyData.eqv, PyData.eqvAll, eqv l l', eqv r r', Bool.and_true]
    by_cases h1 : l = l' <;> by_cases h2 : r = r' <;> simp [h1, h2]
theorem lay : ∀ s : Sh, s.py.canLay0 = true
  | .o => by simp [py, PyData.canLay0, PyData.canLayAll0]
  | .n l r => by simp [py, PyData.canLay0, PyData.canLayAll0, lay l, lay r]
theorem dep : ∀ s : Sh, s.py.depth ≤ s.size
  | .o => by simp [py, PyData.depth, PyData.depthAll, size]
  | .n l r => by
    have h1 := dep l; have h2 := dep r; have h3 := size_pos l; have h4 := size_pos r
    simp only [py, PyData.depth, PyData.depthAll, size]
    omega
end Sh
class Enc (α : Type) [DecidableEq α] where
  enc : α → D
  py : α → PyData
  dep : α → Nat
  e1 : ∀ a, (enc a).py = some (py a)
  e2 : ∀ a b, PyData.eqv (py a) (py b) = decide (a = b)
  e3 : ∀ a, (py a).canLay0 = true
  e4 : ∀ a, (py a).depth ≤ dep a
section
variable {α : Type} [DecidableEq α] [Enc α]
theorem pyL_map (xs : List α) : D.pyL (xs.map Enc.enc) = some (xs.map Enc.py) := by
  induction xs with
  | nil => rfl
  | cons x xs ih => simp [D.pyL, Enc.e1, ih]
theorem eqvAll_map : ∀ xs ys : List α, PyData.eqvAll (xs.map Enc.py) (ys.map Enc.py) = decide (xs = ys)
  | [], [] => by simp [PyData.eqvAll]
  | [], _ :: _ => by simp [PyData.eqvAll]
  | _ :: _, [] => by simp [PyData.eqvAll]
  | x :: xs, y :: ys => by
    simp only [List.map_cons, PyData.eqvAll, Enc.e2, eqvAll_map xs ys]
    by_cases h1 : x = y <;> by_cases h2 : xs = ys <;> simp [h1, h2]
theorem lay_map (xs : List α) : PyData.canLayAll0 (xs.map Enc.py) = true := by
  induction xs with
  | nil => simp [PyData.canLayAll0]
  | cons x xs ih => simp [PyData.canLayAll0, Enc.e3, ih]
def depL (xs : List α) : Nat := xs.foldr (fun x m => max (Enc.dep x) m) 0
theorem dep_map (xs : List α) : PyData.depthAll (xs.map Enc.py) ≤ depL xs := by
  induction xs with
  | nil => simp [PyData.depthAll, depL]
  | cons x xs ih =>
    have := Enc.e4 x
    simp only [List.map_cons, PyData.depthAll, depL, List.foldr_cons] at *
    omega
theorem depL_le {xs : List α} {k : Nat} (h : ∀ x ∈ xs, Enc.dep x ≤ k) : depL xs ≤ k := by
  induction xs with
  | nil => exact Nat.zero_le _
  | cons x xs ih =>
    have h1 := h x (by simp)
    have h2 := ih fun y hy => h y (by simp [hy])
    simp only [depL, List.foldr_cons] at *
    omega
theorem eqB_enc (a b : α) (h : Enc.dep a ≤ 150 ∨ Enc.dep b ≤ 150) : eqB (Enc.enc a) (Enc.enc b) = some (decide (a = b)) := by
  unfold eqB
  rw [Enc.e1, Enc.e1]
  have h1 := Enc.e4 a; have h2 := Enc.e4 b
  dsimp only
  rw [if_pos ⟨Enc.e3 a, Enc.e3 b, by omega⟩, Enc.e2]
end
instance : Enc Sh := ⟨Sh.enc, Sh.py, Sh.size, Sh.enc_py, Sh.eqv, Sh.lay, Sh.dep⟩
instance : Enc Int := ⟨.int, .int, fun _ => 0, fun _ => rfl, fun a b => by simp only [PyData.eqv]; rfl, fun a => by simp only [PyData.canLay0], fun a => by simp only [PyData.depth]; exact Nat.le_refl _⟩
instance : Enc Bool := ⟨.bl, .bool, fun _ => 0, fun _ => rfl, fun a b => by simp only [PyData.eqv]; cases a <;> cases b <;> rfl, fun a => by simp only [PyData.canLay0], fun a => by simp only [PyData.depth]; exact Nat.le_refl _⟩
/-- a tuple of equal kinds -/
instance {α : Type} [DecidableEq α] [Enc α] : Enc (List α) where
  enc xs := .tup (xs.map Enc.enc)
  py xs := .tuple (xs.map Enc.py)
  dep xs := depL xs + 1
  e1 xs := by simp [D.py, pyL_map]
  e2 xs ys := by simp only [PyData.eqv]; exact eqvAll_map xs ys
  e3 xs := by simp only [PyData.canLay0]; exact lay_map xs
  e4 xs := by have := dep_map xs; simp only [PyData.depth]; omega
/-- a list of equal kinds -/
structure Lst (α : Type) where
  l : List α
  deriving DecidableEq
instance {α : Type} [DecidableEq α] [Enc α] : Enc (Lst α) where
  enc xs := .lst (xs.l.map Enc.enc)
  py xs := .list (xs.l.map Enc.py)
  dep xs := depL xs.l + 1
  e1 xs := by simp [D.py, pyL_map]
  e2 xs ys := by
    simp only [PyData.eqv]; rw [eqvAll_map xs.l ys.l]
    cases xs; cases ys; simp
  e3 xs := by simp only [PyData.canLay0]; exact lay_map xs.l
  e4 xs := by have := dep_map xs.l; simp only [PyData.depth]; omega
theorem eqD_enc {α : Type} [DecidableEq α] [Enc α] (a b : α) (h : Enc.dep a ≤ 150 ∨ Enc.dep b ≤ 150) : eqD (Enc.enc a) (Enc.enc b) = some (.bl (decide (a = b))) := by unfold eqD; rw [eqB_enc a b h]; rfl
theorem neD_enc {α : Type} [DecidableEq α] [Enc α] (a b : α) (h : Enc.dep a ≤ 150 ∨ Enc.dep b ≤ 150) : neD (Enc.enc a) (Enc.enc b) = some (.bl (!decide (a = b))) := by unfold neD; rw [eqB_enc a b h]; rfl
theorem eqD_int (a b : Int) : eqD (.int a) (.int b) = some (.bl (decide (a = b))) := eqD_enc a b (.inl (Nat.zero_le _))
theorem eqD_sh (a b : Sh) (h : a.size ≤ 150 ∨ b.size ≤ 150) : eqD a.enc b.enc = some (.bl (decide (a = b))) := eqD_enc a b h
theorem atI_nat {α : Type} {xs : List α} {i : Nat} : L2.atI xs (i : Int) = xs[i]? := by
  unfold L2.atI L2.ixN
  rw [if_pos (by omega)]
  by_cases h : i < xs.length
  · rw [if_pos (by omega)]; simp
  · rw [if_neg (by omega)]; simp; omega
theorem atI_of {α : Type} {xs : List α} {i : Int} {k : Nat} {d : α} (e : i = k) (h : xs[k]? = some d) : L2.atI xs i = some d := by
  subst e; rw [atI_nat]; exact h
theorem ix_tup {xs : List D} {i : Int} {k : Nat} {d : D} (e : i = k) (h : xs[k]? = some d) : ixD (.tup xs) (.int i) = some d := atI_of e h
theorem ix_lst {xs : List D} {i : Int} {k : Nat} {d : D} (e : i = k) (h : xs[k]? = some d) : ixD (.lst xs) (.int i) = some d := atI_of e h
theorem cut_nat {α : Type} (xs : List α) (i j : Nat) : cutL xs (some (i : Int)) (some (j : Int)) = (xs.drop i).take (j - i) := by
  unfold cutL
  rw [HT.sIx_nat, HT.sIx_nat]
  by_cases h : i ≤ xs.length
  · rw [Nat.min_eq_left h]
    by_cases h2 : j ≤ xs.length
    · rw [Nat.min_eq_left h2]
    · rw [Nat.min_eq_right (by omega), List.take_of_length_le (by simp), List.take_of_length_le (by simp; omega)]
  · rw [Nat.min_eq_right (by omega : xs.length ≤ i), List.drop_eq_nil_of_le (by omega : xs.length ≤ i), List.drop_length]
    simp
theorem cut_to {α : Type} (xs : List α) (j : Nat) : cutL xs none (some (j : Int)) = xs.take j := by
  unfold cutL
  rw [HT.sIx_nat]
  show (xs.drop 0).take (min j xs.length - 0) = _
  rw [List.drop_zero, Nat.sub_zero]
  by_cases h2 : j ≤ xs.length
  · rw [Nat.min_eq_left h2]
  · rw [Nat.min_eq_right (by omega), List.take_of_length_le (by omega), List.take_of_length_le (by omega)]
theorem cut_from {α : Type} (xs : List α) (i : Nat) : cutL xs (some (i : Int)) none = xs.drop i := by
  unfold cutL
  rw [HT.sIx_nat]
  show (xs.drop (min i xs.length)).take (xs.length - min i xs.length) = _
  rw [List.take_of_length_le (by simp)]
  by_cases h : i ≤ xs.length
  · rw [Nat.min_eq_left h]
  · rw [Nat.min_eq_right (by omega), List.drop_length, List.drop_eq_nil_of_le (by omega)]
theorem flat1 (d : D) (n : Nat) : (List.replicate n [d]).flatten = List.replicate n d := by
  induction n with
  | zero => rfl
  | succ n ih => rw [List.replicate_succ, List.flatten_cons, ih]; rfl
theorem mulL (d : D) (k : Int) (n : Nat) (e : k = n) (h : n ≤ 1000000) : mulD (.lst [d]) (.int k) = some (.lst (List.replicate n d)) := by
  subst e
  have h1 : [d].length * (n : Int).toNat ≤ sizeLine := by rw [Int.toNat_natCast, sizeLine_eq]; simp only [List.length_cons, List.length_nil]; omega
  unfold mulD
  simp only [Int.toNat_natCast, flat1]
  rw [if_pos]
  refine ⟨by omega, by omega, ?_⟩
  rw [Int.toNat_natCast] at h1
  exact h1
theorem addN (a b : Nat) : addD (.int (a : Int)) (.int (b : Int)) = some (.int ((a + b : Nat) : Int)) := by unfold addD; rw [Int.natCast_add]
theorem subN (a b : Nat) (h : b ≤ a) : subD (.int (a : Int)) (.int (b : Int)) = some (.int ((a - b : Nat) : Int)) := by unfold subD; rw [Int.natCast_sub h]
theorem mulN (a b : Nat) (h : a < 2 ^ 60) : mulD (.int (a : Int)) (.int (b : Int)) = some (.int ((a * b : Nat) : Int)) := by
  unfold mulD
  dsimp only
  rw [if_pos (.inl (.inl ⟨by omega, by omega⟩)), Int.natCast_mul]
theorem fdivN (a b : Nat) (h1 : 0 < b) (h2 : b < 2 ^ 60) : fdivD (.int (a : Int)) (.int (b : Int)) = some (.int ((a / b : Nat) : Int)) := by
  unfold fdivD
  dsimp only
  rw [if_pos ⟨by omega, by rw [Int.natAbs_natCast]; exact Nat.lt_of_lt_of_le ((Nat.log2_lt (by omega)).mpr h2) (by omega)⟩, Int.natCast_ediv]
theorem modN (a b : Nat) (h1 : 0 < b) : modD (.int (a : Int)) (.int (b : Int)) = some (.int ((a % b : Nat) : Int)) := by
  unfold modD
  dsimp only
  rw [if_pos (by omega), Int.natCast_emod]
theorem addL (xs ys : List D) (h : xs.length + ys.length ≤ 100000) : addD (.lst xs) (.lst ys) = some (.lst (xs ++ ys)) := by
  unfold addD
  dsimp only
  rw [if_pos (by rw [sizeLine_eq]; omega)]
theorem ne_same {α : Type} [DecidableEq α] [Enc α] (a : α) (h : Enc.dep a ≤ 150) : neD (Enc.enc a) (Enc.enc a) = some (.bl false) := by
  rw [neD_enc a a (.inl h)]; simp
theorem ne_int (a : Int) : neD (.int a) (.int a) = some (.bl false) := ne_same a (Nat.zero_le _)
end DL
namespace DL
open Sh
abbrev Tab := List Sh
def bsz (t : Tab) : Nat := t.length + 1
def ent (t : Tab) (m : Nat) : Sh := if m ≤ 1 then .o else t.getD (m - 2) .o
def WT (t : Tab) : Prop := 1 ≤ t.length ∧ ∀ i s, t[i]? = some s → s.size = i + 2
theorem WT.ent {t : Tab} (h : WT t) {m : Nat} (h1 : 1 ≤ m) (h2 : m ≤ bsz t) : (ent t m).size = m := by
  unfold DL.ent
  by_cases e : m ≤ 1
  · rw [if_pos e]; simp [size]; omega
  · rw [if_neg e]
    unfold bsz at h2
    have hlt : m - 2 < t.length := by omega
    rw [List.getD_eq_getElem?_getD, List.getElem?_eq_getElem hlt]
    have := h.2 (m - 2) _ (List.getElem?_eq_getElem hlt)
    simp only [Option.getD_some]
    omega
def fill : Sh → List Sh → Sh
  | .o, ps => ps.headD .o
  | .n l r, ps => .n (fill l ps) (fill r (ps.drop l.size))
def sumS (ps : List Sh) : Nat := (ps.map Sh.size).sum
theorem fill_take : ∀ (e : Sh) (c : List Sh) (k : Nat), e.size ≤ k → fill e (c.take k) = fill e c
  | .o, c, k, h => by
    simp only [size] at h
    cases c with
    | nil => simp
    | cons x xs => cases k with
      | zero => omega
      | succ k => simp [fill]
  | .n l r, c, k, h => by
    simp only [size] at h
    simp only [fill]
    rw [fill_take l c k (by omega), List.drop_take, fill_take r _ _ (by omega)]
theorem fill_size : ∀ (e : Sh) (ps : List Sh), e.size ≤ ps.length → (fill e ps).size = sumS (ps.take e.size)
  | .o, ps, h => by
    cases ps with
    | nil => simp [size] at h
    | cons x xs => simp [fill, size, sumS]
  | .n l r, ps, h => by
    simp only [size] at h
    simp only [fill, size]
    rw [fill_size l ps (by omega), fill_size r _ (by simp; omega)]
    simp only [sumS]
    rw [← List.sum_append, ← List.map_append, ← List.take_add]
/-- a row pressed with a table -/
def prs (t : Tab) (row : List Sh) : List Sh :=
  if h : row = [] then [] else fill (ent t (min (bsz t) row.length)) row :: prs t (row.drop (bsz t))
termination_by row.length
decreasing_by
  have : 0 < row.length := List.length_pos_iff.mpr h
  simp [bsz]; omega
theorem prs_nil (t : Tab) : prs t [] = [] := by rw [prs]; simp
theorem prs_ne (t : Tab) {row : List Sh} (h : row ≠ []) : prs t row = fill (ent t (min (bsz t) row.length)) row :: prs t (row.drop (bsz t)) := by rw [prs, dif_neg h]
theorem prs_small (t : Tab) {row : List Sh} (h : row ≠ []) (hl : row.length ≤ bsz t) : prs t row = [fill (ent t row.length) row] := by
  rw [prs_ne t h, Nat.min_eq_right hl, List.drop_eq_nil_of_le hl, prs_nil]
theorem prs_le (t : Tab) (k : Nat) : ∀ (x : List Sh), x.length ≤ k * bsz t → (prs t x).length ≤ k := by
  induction k with
  | zero =>
    intro x hx
    have : x = [] := List.length_eq_zero_iff.mp (by simpa using hx)
    subst this; simp [prs_nil]
  | succ k ih =>
    intro x hx
    by_cases hx0 : x = []
    · subst hx0; simp [prs_nil]
    · rw [prs_ne t hx0, List.length_cons]
      have := ih (x.drop (bsz t)) (by rw [List.length_drop]; rw [Nat.succ_mul] at hx; omega)
      omega
theorem prs_ne_nil (t : Tab) {x : List Sh} (h : x ≠ []) : prs t x ≠ [] := by rw [prs_ne t h]; simp
def osh (m : Nat) : List Sh := List.replicate m .o
/-- the glued table -/
def glu (s t : Tab) : Tab := (List.range (bsz s * bsz t - 1)).map fun i => (prs t (prs s (osh (i + 2)))).headD .o
theorem glu_len (s t : Tab) : bsz (glu s t) = bsz s * bsz t := by
  have : 0 < bsz s * bsz t := Nat.mul_pos (by simp [bsz]) (by simp [bsz])
  have e : (glu s t).length = bsz s * bsz t - 1 := by simp [glu]
  show (glu s t).length + 1 = _
  omega
theorem glu_ent (s t : Tab) (hs : WT s) {m : Nat} (h1 : 1 ≤ m) (h2 : m ≤ bsz s * bsz t) : ent (glu s t) m = (prs t (prs s (osh m))).headD .o := by
  unfold ent
  by_cases e : m ≤ 1
  · have : m = 1 := by omega
    subst this
    rw [if_pos (Nat.le_refl _)]
    have e1 : prs s (osh 1) = [.o] := by
      rw [prs_small s (by simp [osh]) (by simp [osh, bsz])]
      simp [osh, ent, fill, List.replicate]
    rw [e1, prs_small t (by simp) (by simp [bsz])]
    simp [ent, fill]
  · rw [if_neg e]
    unfold glu
    rw [List.getD_eq_getElem?_getD, List.getElem?_map, List.getElem?_range (by omega)]
    simp only [Option.map_some, Option.getD_some]
    rw [show m - 2 + 2 = m from by omega]
theorem osh_ne {m : Nat} (h : 1 ≤ m) : osh m ≠ [] := fun e => by have := congrArg List.length e; simp [osh] at this; omega
theorem prs_size (t : Tab) (hw : WT t) : ∀ (n : Nat) (c : List Sh), c.length = n → sumS (prs t c) = sumS c := by
  intro n
  induction n using Nat.strongRecOn with
  | _ n ih =>
    intro c hc
    have hb : 0 < bsz t := by simp [bsz]
    by_cases h0 : c = []
    · subst h0; simp [prs_nil]
    · have hp : 0 < c.length := List.length_pos_iff.mpr h0
      rw [prs_ne t h0]
      have hs := hw.ent (m := min (bsz t) c.length) (by omega) (by omega)
      have e := ih (c.length - bsz t) (by omega) (c.drop (bsz t)) (by simp)
      have : sumS (fill (ent t (min (bsz t) c.length)) c :: prs t (c.drop (bsz t))) = (fill (ent t (min (bsz t) c.length)) c).size + sumS (prs t (c.drop (bsz t))) := by simp [sumS]
      rw [this, e, fill_size _ _ (by omega), hs]
      have e2 : sumS c = sumS (c.take (bsz t)) + sumS (c.drop (bsz t)) := by
        unfold sumS; rw [← List.sum_append, ← List.map_append, List.take_append_drop]
      rw [e2]
      congr 2
      by_cases hle : bsz t ≤ c.length
      · rw [Nat.min_eq_left hle]
      · rw [Nat.min_eq_right (by omega), List.take_of_length_le (Nat.le_refl _), List.take_of_length_le (by omega)]
theorem sumS_os (m : Nat) : sumS (osh m) = m := by simp [sumS, osh, size]
theorem prs2_one (s t : Tab) (hs : WT s) (ht : WT t) {c : List Sh} (h0 : c ≠ []) (h : c.length ≤ bsz s * bsz t) : prs t (prs s c) = [fill (ent t (prs s c).length) (prs s c)] := by
  refine prs_small t (prs_ne_nil s h0) ?_
  exact prs_le s (bsz t) c (by rw [Nat.mul_comm]; exact h)
theorem glu_ent_size (s t : Tab) (hs : WT s) (ht : WT t) {m : Nat} (h1 : 1 ≤ m) (h2 : m ≤ bsz s * bsz t) : (ent (glu s t) m).size = m := by
  rw [glu_ent s t hs h1 h2, prs2_one s t hs ht (osh_ne h1) (by simpa [osh] using h2)]
  have e1 := prs_size s hs m (osh m) (by simp [osh])
  have e2 := prs_size t ht _ (prs s (osh m)) rfl
  rw [prs2_one s t hs ht (osh_ne h1) (by simpa [osh] using h2), e1, sumS_os] at e2
  simpa [sumS] using e2
theorem glu_wt (s t : Tab) (hs : WT s) (ht : WT t) : WT (glu s t) := by
  have hl := glu_len s t
  have h1 : 2 ≤ bsz s := by have := hs.1; simp [bsz]; omega
  have h2 : 2 ≤ bsz t := by have := ht.1; simp [bsz]; omega
  have h3 : 4 ≤ bsz s * bsz t := Nat.mul_le_mul h1 h2
  refine ⟨by unfold bsz at hl; unfold bsz at h3; omega, fun i x hx => ?_⟩
  have hi : i < (glu s t).length := (List.getElem?_eq_some_iff.mp hx).1
  have := glu_ent_size s t hs ht (m := i + 2) (by omega) (by unfold bsz at hl ⊢; omega)
  unfold ent at this
  rw [if_neg (by omega), List.getD_eq_getElem?_getD, show i + 2 - 2 = i from by omega, hx] at this
  simpa using this
end DL
namespace DL
open Sh
/-- a row pressed, stretch by stretch -/
theorem prs_range (t : Tab) : ∀ (n : Nat) (row : List Sh), row.length = n → prs t row = (List.range ((n + bsz t - 1) / bsz t)).map fun i => fill (ent t (min (bsz t) (n - i * bsz t))) (row.drop (i * bsz t)) := by
  intro n
  induction n using Nat.strongRecOn with
  | _ n ih =>
    intro row hr
    have hb : 0 < bsz t := by simp [bsz]
    by_cases h0 : row = []
    · subst h0
      simp at hr
      subst hr
      have : (0 + bsz t - 1) / bsz t = 0 := Nat.div_eq_of_lt (by omega)
      rw [this, prs_nil]; rfl
    · have hp : 0 < row.length := List.length_pos_iff.mpr h0
      rw [prs_ne t h0, ih (n - bsz t) (by omega) _ (by rw [List.length_drop, hr])]
      have e : (n + bsz t - 1) / bsz t = (n - bsz t + bsz t - 1) / bsz t + 1 := by
        by_cases hle : bsz t ≤ n
        · rw [show n + bsz t - 1 = (n - bsz t + bsz t - 1) + bsz t from by omega, Nat.add_div_right _ hb]
        · rw [show n - bsz t = 0 from by omega, Nat.div_eq_of_lt (by omega : 0 + bsz t - 1 < bsz t)]
          rw [show n + bsz t - 1 = (n - 1) + bsz t from by omega, Nat.add_div_right _ hb, Nat.div_eq_of_lt (by omega)]
      rw [e, List.range_succ_eq_map, List.map_cons, List.map_map]
      congr 1
      · simp [hr]
      · refine List.map_congr_left fun i _ => ?_
        simp only [Function.comp, List.drop_drop, Nat.succ_mul]
        rw [show n - bsz t - i * bsz t = n - (i * bsz t + bsz t) from by omega, show bsz t + i * bsz t = i * bsz t + bsz t from by omega]
end DL
namespace DL
open PySem PySem.Spec PyProof.Rows L2
theorem meets_enum1 {v : Value} {o : Obj} {H : Heap → Prop} (B : Begins v o H) :
    Meets (Builtin.«enumerate.__new__» ⟨[.type "enumerate", v], []⟩) (fun _ R s => H s.heap ∧
      R (.ok (.ret (.ref (s.heap.push o).objs.size))) { s with heap := (s.heap.push o).push { cls := .type "enumerate", data := .fields #[.none, .bool false, .ref s.heap.objs.size, rawInt 0, .none, .none] } }) :=
  .of_wp fun prog w A R s h => by
    obtain ⟨hp, g, d, tk, os⟩ := s; obtain ⟨h1, h⟩ := h
    have hsub := sub_enumerate
    have q1 : ∀ {A' : Around} {E : Value → Shared → Prop} {Q : Value → Shared → Prop}, Q (.ref hp.objs.size) ⟨hp.push o, g, d, tk, os⟩ → wpAny (model prog w) A' (pyIter v) Q E ⟨hp, g, d, tk, os⟩ :=
      fun q => B.iter prog w _ _ ⟨hp, g, d, tk, os⟩ _ h1 q
    wp_walk using q1
    refine wpAny_stack_any fun st => wpAny_pure ?_
    split
    · rename_i c _ _ _ _ _
      cases (c == Value.type "enumerate")
      · wp_walk using q1
        exact ⟨_, rfl, h⟩
      · wp_walk using q1
        exact ⟨_, rfl, h⟩
    · wp_walk using q1
      exact ⟨_, rfl, h⟩
section
variable {prog : Program} {w : World} {A : Around} {E : Value → Shared → Prop} {s : Shared}
theorem call_enum1 {v : Value} {o : Obj} {H : Heap → Prop} {Q : Value → Shared → Prop} (B : Begins v o H) (h1 : H s.heap)
    (h : ∀ h', IsEnum h' (s.heap.objs.size + 1) s.heap.objs.size 0 .none → h'.get? s.heap.objs.size = some o → h'.objs.size = s.heap.objs.size + 2 →
      (∀ b o, s.heap.get? b = some o → h'.get? b = some o) → Q (.ref (s.heap.objs.size + 1)) { s with heap := h' }) :
    wpAny (model prog w) A (call (.type "enumerate") [v]) Q E s := by
  refine callType_new F.called_enumerate (by decide) (F.typeCall_enumerate_1 _) (F.newCall_enumerate_1 _) (fun obj => F.args_object_init_2 obj _) F.entry_enumerate_new
    (meets_enum1 B) ⟨h1, ?_⟩
  have hz : (s.heap.push o).objs.size = s.heap.objs.size + 1 := Heap.size_push ..
  show _ ∧ _
  rw [hz]
  have he : IsEnum ((s.heap.push o).push { cls := .type "enumerate", data := .fields #[.none, .bool false, .ref s.heap.objs.size, rawInt 0, .none, .none] }) (s.heap.objs.size + 1) s.heap.objs.size 0 .none := by
    have := Heap.get?_push_size (s.heap.push o) (o := { cls := .type "enumerate", data := .fields #[.none, .bool false, .ref s.heap.objs.size, rawInt 0, .none, .none] }) rfl
    rw [hz] at this; exact this
  refine ⟨⟨_, he, rfl⟩, h _ he (Heap.get?_push_of_some _ (Heap.get?_push_size _ B.free)) (by rw [Heap.size_push, hz]) fun b o x => Heap.get?_push_of_some _ (Heap.get?_push_of_some _ x)⟩
end
/-- the tuple at a, each item in a new pair -/
def IteT (K : PySem.W.Frag) (a : Addr) : It :=
  ⟨fun i H => ∃ (xs : List V) (x : V), SqT K H a xs ∧ xs[i]? = some x, fun i H v H' => ∃ T x, v = .ref T ∧ H T = none ∧ H' = upd H T (.tup [.int (i : Nat), x]) ∧ ∀ xs, SqT K H a xs → xs[i]? = some x, fun i H => ∃ xs : List V, SqT K H a xs ∧ xs.length ≤ i⟩
theorem turn_enumT {P : Program} {w : World} {K : PySem.W.Frag} {elts : List Expr} {kk : Nat} {tpos : Pos} (a e it : Addr) :
    Turn P w K (.Tuple elts kk tpos) (IteT K a) [e, it] e (fun i h => (∃ old, IsEnum h e it ((i : Nat) : Int) old) ∧ h.IsTupleIter it a i ∧ e ≠ it) where
  mem := by simp
  obj := fun i h st b hb => by
    obtain ⟨⟨old, he⟩, ⟨o, ho, hc, hd⟩, _⟩ := st
    have e' : b = e ∨ b = it := by simpa using hb
    rcases e' with z | z
    · rw [z]; exact ⟨_, he, fun v q => nomatch q⟩
    · rw [z]; exact ⟨o, ho, fun v q => by rw [hd] at q; cases q⟩
  keep := fun i h h' st k => let ⟨⟨old, he⟩, hi, hne⟩ := st; ⟨⟨old, k e (by simp) _ he⟩, hi.at fun o q => k it (by simp) o q, hne⟩
  item := by
    intro X hP hw hK hc i pins s σ H E I hf st hg
    subst hP hw hK
    obtain ⟨⟨old, he⟩, hit, hne⟩ := st
    obtain ⟨xs, x, hq, hx⟩ := hg
    obtain ⟨its, rv, p, hz⟩ := I.tuple hq
    obtain ⟨u, hu, ru⟩ := rv.get hx
    have hel : e < s.heap.objs.size := Heap.lt_size he
    have hil : it < s.heap.objs.size := by obtain ⟨_, q, _⟩ := hit; exact Heap.lt_size q
    have hta : a ≠ it := by
      intro q
      subst q
      obtain ⟨o1, h1, c1, _⟩ := hit
      obtain ⟨o2, h2, c2, _⟩ := p
      rw [h1] at h2; cases h2
      exact absurd (Value.type.inj (c1.symm.trans c2)) (by decide +kernel)
    refine wpAny_pyNext_enum_itemC (Draws.tuple (A := X.A.in1) (I.ok.hd hc) it a hta its.toArray) he ⟨hit, p⟩ (by simpa using (List.getElem?_eq_some_iff.mp hu).1) hne (by
      have : e ≠ a := by
        intro q
        subst q
        obtain ⟨o2, h2, c2, _⟩ := p
        have h3 := he.symm.trans h2
        cases h3
        exact absurd (Value.type.inj c2) (by decide +kernel)
      simp [hne, this]) fun y h' tk hP ho hit' hT hsz hk => ?_
    have ey : y = u := by
      have h1 : its.toArray[i]? = some y := hP
      have h2 : its.toArray[i]? = some u := by simpa using hu
      rw [h2] at h1; exact (Option.some.inj h1).symm
    subst ey
    refine ⟨_, rfl, wpAny_letOwnedTupleGo_enum (s := { s with heap := h', toks := tk + 1 }) ho fun h'' he' sb => ?_⟩
    have hT2 : h''.get? s.heap.objs.size = some { cls := .type "tuple", data := .seq #[.int i tk, y] } := (sb.2 _ (Nat.ne_of_gt hel)).trans hT
    have new : ObjOk X.prog X.w (upd H s.heap.objs.size (.tup [.int (i : Nat), x])) h'' s.heap.objs.size (.tup [.int (i : Nat), x]) :=
      ⟨by show 2 ≤ sizeLine; decide, [.int i tk, y], .cons ⟨_, rfl⟩ (.cons ru .nil), ⟨_, hT2, rfl, _, rfl⟩⟩
    have I1 : Inv X pins σ (upd H s.heap.objs.size (.tup [.int (i : Nat), x])) { s with heap := h'', toks := tk + 1 } :=
      I.turnedNew (ch := [e, it]) (fun b ob hb q => (sb.2 b (fun z => hb (by simp [z]))).trans (hk b ob (fun z => hb (by simp [z])) (fun z => hb (by simp [z])) q)) hf (Nat.le_refl _) new
    refine ⟨.ref s.heap.objs.size, _, I1, rfl, ⟨_, x, rfl, I.hok.fresh (Nat.le_refl _), rfl, fun ys hy => by rw [I.tuple_inj hy hq]; exact hx⟩, ⟨⟨y, ?_⟩, hit'.1.at fun o q => (sb.2 it (Ne.symm hne)).trans q, hne⟩, fun b hb => ?_⟩
    · have e1 : ((i + 1 : Nat) : Int) = (i : Int) + 1 := by omega
      rw [e1]; exact he'
    · have hb' : b < s.heap.objs.size := by
        have e' : b = e ∨ b = it := by simpa using hb
        rcases e' with z | z
        · rw [z]; exact hel
        · rw [z]; exact hil
      rw [upd_ne (Nat.ne_of_lt hb')]
      exact (hf b hb).1
  done := by
    intro X hP hw hK hc i pins s σ H E I hf st hg
    subst hP hw hK
    obtain ⟨⟨old, he⟩, hit, hne⟩ := st
    obtain ⟨xs, hq, hx⟩ := hg
    obtain ⟨its, rv, p, hz⟩ := I.tuple hq
    obtain ⟨f0, f1, f2, f3, f4, f5⟩ := hf it (by simp)
    have hl := rv.length
    have hta : a ≠ it := by
      intro q
      subst q
      obtain ⟨o1, h1, c1, _⟩ := hit
      obtain ⟨o2, h2, c2, _⟩ := p
      rw [h1] at h2; cases h2
      exact absurd (Value.type.inj (c1.symm.trans c2)) (by decide +kernel)
    have D : Draws X.prog X.w X.A.in1 it [it, a] i (fun _ _ => True) (fun j h => j = i ∧ h.IsTupleIter it a i ∧ h.IsTuple a its.toArray) :=
      { live := fun _ _ st => let ⟨o, ho, _⟩ := st.2.1; ⟨o, ho⟩
        frame := fun _ _ _ st hk => ⟨st.1, st.2.1.at fun o e => hk it (by simp) o e, st.2.2.at fun o e => hk a (by simp) o e⟩
        item := fun j s Q E hi st hQ => absurd st.1 (by omega)
        done := fun s Q E st hE => wpAny_nextOf_tuple_end (I.ok.hd hc) st.2.1 st.2.2 (by simp; omega) hE }
    exact wpAny_pyNext_enum_endD D he ⟨rfl, hit, p⟩ fun h' eb => ⟨rfl, I.turned (t' := s.toks) (fun b o hb q => eb b o hb q) f0 f1 f3 f4 f5⟩
  self := fun A i s Q E st h => let ⟨⟨_, he⟩, _⟩ := st; wpAny_pyIter_enum he h
def iEnumS (K : PySem.W.Frag) (ta : TA) : TI := fun σ H R => ta σ H fun vs H1 => ∃ a, vs = [.ref a] ∧ (((∃ xs, SqL K H1 a xs) ∧ R (Ite K a) H1) ∨ ((∃ xs, SqT K H1 a xs) ∧ R (IteT K a) H1))
theorem pi_enumS {X : Cx} {e : Expr} {ta : TA} {p pos tpos : Pos} {elts : List Expr} {kk : Nat} (hg : Gl X "enumerate") (hm : X.mg "enumerate" = none) (ha : PA X [e] ta) (hs : starEach [e] X.env = [(false, eval e X.env)] := by rfl) :
    PI X (.Tuple elts kk tpos) (.Call (.Name "enumerate" p) [e] [] pos) (iEnumS X.K ta) := by
  refine ⟨fun pins s σ H R I h => ?_⟩
  refine Call_ (ld_blt I hg hm boot_enumerate (PyProof.Rows.callWith_type1 (thn (ha.run pos pins s σ H _ I h) fun us s1 ⟨vs, H1, I1, r1, q1⟩ => ?_) hs rfl))
  obtain ⟨a, ex, q1⟩ := q1
  subst ex
  cases r1 with
  | cons r rr =>
    cases rr
    cases r
    have fin : ∀ (h' : Heap), (∀ b o, s1.heap.get? b = some o → h'.get? b = some o) → Inv X pins σ H1 { s1 with heap := h' } := fun h' hk => I1.kept (t' := s1.toks) hk
    have fp : ∀ b ∈ [s1.heap.objs.size + 1, s1.heap.objs.size], FpOk X pins H1 b := fun b hb => by
      have e' : b = s1.heap.objs.size + 1 ∨ b = s1.heap.objs.size := by simpa using hb
      have hle : s1.heap.objs.size ≤ b := by
        rcases e' with z | z
        · rw [z]; exact Nat.le_add_right _ _
        · rw [z]; exact Nat.le_refl _
      exact I1.fpOk hle (I1.hok.fresh hle)
    rcases q1 with ⟨⟨xs, hq⟩, q⟩ | ⟨⟨xs, hq⟩, q⟩
    · obtain ⟨its, rv, p', hz⟩ := I1.list hq
      refine call_enumerate_list p'.isList fun h' he hit hsz hk => wpAny_pyIter_enum he ?_
      exact ⟨s1.heap.objs.size + 1, [s1.heap.objs.size + 1, s1.heap.objs.size], _, _, H1, rfl, fin h' hk, turn_enum a (s1.heap.objs.size + 1) s1.heap.objs.size, ⟨⟨.none, he⟩, hit, Nat.succ_ne_self _⟩, fp, q⟩
    · obtain ⟨its, rv, p', hz⟩ := I1.tuple hq
      refine call_enum1 (begins_tuple a its.toArray) p' fun h' he hit hsz hk => wpAny_pyIter_enum he ?_
      exact ⟨s1.heap.objs.size + 1, [s1.heap.objs.size + 1, s1.heap.objs.size], _, _, H1, rfl, fin h' hk, turn_enumT a (s1.heap.objs.size + 1) s1.heap.objs.size, ⟨⟨.none, he⟩, ⟨_, hit, rfl, rfl⟩, Nat.succ_ne_self _⟩, fp, q⟩
/-- (0, x0), (1, x1), .. -/
def enumL (k : Nat) : List D → List D
  | [] => []
  | d :: ds => .tup [.int k, d] :: enumL (k + 1) ds
theorem enumL_len : ∀ (ds : List D) (k : Nat), (enumL k ds).length = ds.length
  | [], _ => rfl
  | _ :: ds, k => by rw [enumL, List.length_cons, List.length_cons, enumL_len ds]
theorem enumL_get : ∀ (ds : List D) (k i : Nat) (e : D), (enumL k ds)[i]? = some e → ∃ d, ds[i]? = some d ∧ e = .tup [.int ((k + i : Nat) : Int), d]
  | [], _, i, e, h => by simp [enumL] at h
  | d :: ds, k, 0, e, h => by
    simp [enumL] at h
    subst h
    exact ⟨d, rfl, by simp⟩
  | d :: ds, k, i + 1, e, h => by
    simp only [enumL, List.getElem?_cons_succ] at h
    obtain ⟨d', h1, h2⟩ := enumL_get ds (k + 1) i e h
    refine ⟨d', by simpa using h1, ?_⟩
    rw [h2]
    have : k + 1 + i = k + (i + 1) := by omega
    rw [this]
section
variable {im : Addr → Bool} {Ω : Type} {G : Gam im Ω} {K : PySem.W.Frag} {W : WX} {te : TE} {Fe : E Ω D}
theorem Rep.pair {H : Hp} {T : Addr} {k : Int} {v : V} {d : D} (hT : H T = none) (r : Rep K im H v d) : Rep K im (upd H T (.tup [.int k, v])) (.ref T) (.tup [.int k, d]) :=
  .tup upd_same (.cons (.int k) (.cons (r.up (.of (Same.new hT))) .nil))
theorem yields_enumL {a : Addr} {H : Hp} {vs : List V} {ds : List D} (h1 : SqZ H a vs) (h2 : RepL K im H vs ds) : Yields im K (Ite K a) H (enumL 0 ds) := by
  intro i H' sb
  have q := sb.sqZ h1
  have r := h2.up sb
  refine ⟨fun e he => ?_, fun hi => ⟨vs, q.l, by rw [r.length]; rw [enumL_len] at hi; exact hi⟩⟩
  obtain ⟨d, hd, rfl⟩ := enumL_get ds 0 i e he
  obtain ⟨v, hv, rv⟩ := r.get hd
  refine ⟨⟨vs, v, q.l, hv⟩, fun x H3 y => ?_⟩
  obtain ⟨T, z, rfl, hT, rfl, y⟩ := y
  have := y vs q.l
  rw [hv] at this; cases this
  rw [Nat.zero_add]
  exact ⟨Same.new hT, Rep.pair hT rv⟩
theorem yields_enumT {a : Addr} {H : Hp} {vs : List V} {ds : List D} (h1 : SqT K H a vs) (h2 : RepL K im H vs ds) : Yields im K (IteT K a) H (enumL 0 ds) := by
  intro i H' sb
  have q := sb.sqT h1
  have r := h2.up sb
  refine ⟨fun e he => ?_, fun hi => ⟨vs, q, by rw [r.length]; rw [enumL_len] at hi; exact hi⟩⟩
  obtain ⟨d, hd, rfl⟩ := enumL_get ds 0 i e he
  obtain ⟨v, hv, rv⟩ := r.get hd
  refine ⟨⟨vs, v, q, hv⟩, fun x H3 y => ?_⟩
  obtain ⟨T, z, rfl, hT, rfl, y⟩ := y
  have := y vs q
  rw [hv] at this; cases this
  rw [Nat.zero_add]
  exact ⟨Same.new hT, Rep.pair hT rv⟩
def iEn (a : E Ω D) : E Ω (List D) := fun τ ω => (a τ ω).bind fun x ω1 => .ofO (x.itemsS.map (enumL 0)) ω1
theorem di_enum (he : DE G K W te Fe) : DI G K W (iEnumS K (tCons te tNil)) (iEn Fe) := by
  intro H0 σ H ω τ s t' R h
  refine he H0 σ H ω τ s t' _ (Res.imp (Res.bind h) (fun x ω1 H1 k1 t1 h1 v r => ?_) fun _ _ _ _ _ q => q)
  cases r with
  | @lst a vs ds a1 a2 => exact ⟨a, rfl, .inl ⟨⟨vs, a1.l⟩, h1 H1 k1 t1 _ (yields_enumL a1 a2)⟩⟩
  | @tup a vs ds a1 a2 => exact ⟨a, rfl, .inr ⟨⟨vs, a1⟩, h1 H1 k1 t1 _ (yields_enumT a1 a2)⟩⟩
  | _ => exact h1.elim
def tNever : TS := fun _ _ _ => False
def sNo : S Ω := fun _ _ => none
theorem ps_never {X : Cx} {st : Stmt} : PS X st tNever := ⟨fun _ _ _ _ _ _ h => h.elim⟩
theorem ds_never : DS G K W tNever sNo := fun _ _ _ _ _ _ _ _ h => h.elim
end
instance {i j : Int} : Decidable (CDivP i j) := by unfold CDivP; infer_instance
end DL
namespace DL
open PySem PySem.Spec PyProof.Rows L2
section
variable {im : Addr → Bool} {Ω : Type} {G : Gam im Ω} {K : PySem.W.Frag} {W : WX} {ta tb tc : TE} {Fa Fb Fc : E Ω D} {Fl' : E Ω (List D)}
def rgI (lo : Int) : Nat → List Int
  | 0 => []
  | n + 1 => lo :: rgI (lo + 1) n
theorem rangeL_rgI : ∀ (n : Nat) (lo : Int), rangeL lo 1 n = (rgI lo n).map D.int
  | 0, _ => rfl
  | n + 1, lo => by rw [rangeL, rgI, List.map_cons, rangeL_rgI n]
theorem rgI_get : ∀ (n : Nat) (lo : Int) (i : Nat), (rgI lo n)[i]? = if i < n then some (lo + (i : Nat)) else none
  | 0, lo, i => by simp [rgI]
  | n + 1, lo, 0 => by simp [rgI]
  | n + 1, lo, i + 1 => by
    simp only [rgI, List.getElem?_cons_succ, rgI_get n (lo + 1) i]
    by_cases h : i < n
    · rw [if_pos h, if_pos (by omega)]; congr 1; omega
    · rw [if_neg h, if_neg (by omega)]
theorem rgV_rgI (a b : Int) : rgV a b = (rgI a (b - a).toNat).map V.int := by
  apply List.ext_getElem?
  intro i
  unfold rgV
  rw [List.getElem?_map, List.getElem?_map, rgI_get]
  by_cases h : i < (b - a).toNat
  · rw [if_pos h, List.getElem?_range h]; rfl
  · rw [if_neg h, List.getElem?_eq_none (by simpa using h)]; rfl
theorem rgV_rep {H : Hp} (a b : Int) : RepL K im H (rgV a b) (rangeL a 1 (b - a).toNat) := by
  rw [rgV_rgI, rangeL_rgI]
  generalize rgI a (b - a).toNat = xs
  induction xs with
  | nil => exact .nil
  | cons x xs ih => exact .cons (.int x) ih
def DRg (G : Gam im Ω) (K : PySem.W.Frag) (W : WX) (tr : L2.St → Hp → (Int → Int → Hp → Prop) → Prop) (F : E Ω (Int × Int)) : Prop := ∀ H0 σ H ω τ, STT G K H0 H σ τ → G.At ω H → ∀ Q : Int → Int → Hp → Prop,
  Res G (F τ ω) H (fun p _ H' => Q p.1 p.2 H') (kX G K W σ) → tr σ H Q
def rRg1 (a : E Ω D) : E Ω (Int × Int) := fun τ ω => (a τ ω).bind fun x ω1 => match x with
  | .int j => .ok (0, j) ω1
  | _ => .no
theorem drg_1 (ha : DE G K W ta Fa) : DRg G K W (tRg1 ta) (rRg1 Fa) := by
  intro H0 σ H ω τ s t Q h
  refine ha H0 σ H ω τ s t _ (Res.imp (Res.bind h) (fun x ω1 H1 k1 t1 h1 v r => ?_) fun _ _ _ _ _ q => q)
  cases r with
  | int j => exact ⟨j, rfl, h1 H1 k1 t1⟩
  | _ => exact h1.elim
def eLRg (r : E Ω (Int × Int)) : E Ω (List D) := fun τ ω => (r τ ω).bind fun p ω1 => if -(2 ^ 62) ≤ p.1 ∧ p.1 < 2 ^ 62 ∧ -(2 ^ 62) ≤ p.2 ∧ p.2 < 2 ^ 62 ∧ (p.2 - p.1).toNat ≤ 2 ^ 24 then .ok (rangeL p.1 1 (p.2 - p.1).toNat) ω1 else .no
theorem dl_lrg {tr : L2.St → Hp → (Int → Int → Hp → Prop) → Prop} {Fr : E Ω (Int × Int)} (hr : DRg G K W tr Fr) : DL G K W (tLstRg tr) (eLRg Fr) := by
  intro H0 σ H ω τ s t Q h
  refine hr H0 σ H ω τ s t _ (Res.imp (Res.bind h) (fun p ω1 H1 k1 t1 h1 => ?_) fun _ _ _ _ _ q => q)
  have h2 := h1.mono k1
  split at h2
  · rename_i hc
    refine ⟨hc, fun q hq => ?_⟩
    have sm : Same H1 (upd H1 q (.lst (rgV p.1 p.2))) := Same.new hq
    have hp0 : H q = none := by
      cases e : H q with
      | none => rfl
      | some o =>
        by_cases f : G.FP q
        · exact absurd hq (G.trk t1 q f)
        · have := k1 q o e f; rw [hq] at this; cases this
    exact h2 _ (.of sm) (At.same t1 sm) _ _ hp0 upd_same (rgV_rep _ _)
  · exact h2.elim
/-- list(x), a new list -/
def eLst1 (a : E Ω D) : E Ω (List D) := fun τ ω => (a τ ω).bind fun x ω1 => .ofO x.itemsS ω1
theorem dl_list1 (ha : DE G K W ta Fa) : DL G K W (tCB (fun xs H Q => ∃ p ys, xs = [.ref p] ∧ (SqL K H p ys ∨ SqT K H p ys) ∧ ∀ l, H l = none → Q (.ref l) (upd H l (.lst ys))) (tCons ta tNil)) (eLst1 Fa) := by
  intro H0 σ H ω τ s t Q h
  refine ha H0 σ H ω τ s t _ (Res.imp (Res.bind h) (fun x ω1 H1 k1 t1 h1 v r => ?_) fun _ _ _ _ _ q => q)
  have h3 := h1.mono k1
  have fin : ∀ (a : Addr) (vs : List V) (ds : List D), (SqL K H1 a vs ∨ SqT K H1 a vs) → RepL K im H1 vs ds → x.itemsS = some ds → v = .ref a →
      ∃ p ys, [v] = [.ref p] ∧ (SqL K H1 p ys ∨ SqT K H1 p ys) ∧ ∀ l, H1 l = none → Q (.ref l) (upd H1 l (.lst ys)) := fun a vs ds hq hr e ev => by
    subst ev
    rw [e] at h3
    refine ⟨a, vs, rfl, hq, fun p hp => ?_⟩
    have sm : Same H1 (upd H1 p (.lst vs)) := Same.new hp
    have hp0 : H p = none := by
      cases e : H p with
      | none => rfl
      | some o =>
        by_cases f : G.FP p
        · exact absurd hp (G.trk t1 p f)
        · have := k1 p o e f; rw [hp] at this; cases this
    exact h3 _ (.of sm) (At.same t1 sm) _ _ hp0 upd_same (hr.up (.of sm))
  cases r with
  | @lst a vs ds h4 h5 => exact fin a vs ds (.inl h4.l) h5 rfl rfl
  | @tup a vs ds h4 h5 => exact fin a vs ds (.inr h4) h5 rfl rfl
  | _ => exact h3.elim
end
end DL
namespace DL
open PySem PySem.Spec PyProof.Rows L2
section
variable {im : Addr → Bool} {Ω : Type} {G : Gam im Ω} {K : PySem.W.Frag} {W W' : WX} {te : TE} {Fe : E Ω D}
def popL (B : D → Tau → Option Tau) (Fe : E Ω D) (r : Nat) (τ : Tau) : List D → List D → Ω → R Ω (List D)
  | [], _, ω => .ok [] ω
  | d :: ds, xs, ω => match B d (τ.set r (some (.ow .L xs))) with
    | none => .no
    | some τ1 => (nox (Fe τ1 ω)).bind fun z ω1 => match z with
      | .int (.ofNat k) => match (if k < 1000000 then xs[k]? else none) with
        | some y => (popL B Fe r τ ds (xs.eraseIdx k) ω1).bind fun ys ω2 => .ok (y :: ys) ω2
        | none => .no
      | _ => .no
def sRetPop (vs : List Nat) (r : Nat) (i : E Ω (List D)) (B : D → Tau → Option Tau) (Fe : E Ω D) : S Ω := fun τ ω => match τ[r]? with
  | some (some (.ow .L xs)) => withE i (fun ds τ ω1 => match (if ds.length ≤ sizeLine then nox (popL B Fe r (wipeT τ vs) ds xs ω1) else .no) with
    | .ok ys ω2 => some (.rt (.lst ys), ω2)
    | _ => none) τ ω
  | _ => none
theorem wipeT_get (τ : Tau) : ∀ (vs : List Nat) (r : Nat), r ∉ vs → (wipeT τ vs)[r]? = τ[r]?
  | [], _, _ => rfl
  | v :: vs, r, h => by
    rw [List.mem_cons, not_or] at h
    unfold wipeT
    rw [List.getElem?_set_ne (Ne.symm h.1), wipeT_get τ vs r h.2]
theorem wipeT_in (τ : Tau) : ∀ (vs : List Nat) (j : Nat), j ∈ vs → (wipeT τ vs)[j]? = some none ∨ (wipeT τ vs)[j]? = none
  | [], _, h => by cases h
  | v :: vs, j, hv => by
    unfold wipeT
    by_cases e : v = j
    · subst e
      by_cases hl : v < (wipeT τ vs).length
      · exact .inl (List.getElem?_set_self hl)
      · exact .inr (List.getElem?_eq_none (by rw [List.length_set]; omega))
    · rw [List.getElem?_set_ne e]
      exact wipeT_in τ vs j (by
        rcases List.mem_cons.mp hv with q | q
        · exact absurd q.symm e
        · exact q)
theorem set_self {α : Type} {xs : List α} {i : Nat} {a : α} (h : xs[i]? = some a) : xs.set i a = xs := by
  apply List.ext_getElem?
  intro j
  by_cases e : i = j
  · subst e
    have := (List.getElem?_eq_some_iff.mp h).1
    rw [List.getElem?_set_self this, h]
  · rw [List.getElem?_set_ne e]
theorem wipe_get2 (σ : L2.St) : ∀ (vs : List Nat) (r : Nat), r ∉ vs → (L2.wipe σ vs)[r]? = σ[r]?
  | vs, r, h => by rw [wipe_get, if_neg (fun z => h z.1)]
theorem mem_eraseIdx_len {α : Type} (xs : List α) (k : Nat) : (xs.eraseIdx k).length ≤ xs.length := by
  rw [List.length_eraseIdx]; split <;> omega
theorem RepL.eraseIdx {H : Hp} : ∀ {ds : List D} {vs : List V} (k : Nat), RepL K im H vs ds → RepL K im H (vs.eraseIdx k) (ds.eraseIdx k)
  | _, _, _, .nil => .nil
  | _, _, 0, .cons a b => b
  | _, _, k + 1, .cons a b => .cons a (RepL.eraseIdx k b)
theorem ds_retPop {wi : TI} {Fi : E Ω (List D)} {g : TG} {sl vs : List Nat} {r : Nat} {B : D → Tau → Option Tau} (hi : DI G K W wi Fi) (hg : DG G K g sl B) (he : DE G K W' te Fe) (hsl : ∀ j, j ∉ vs → j ∉ sl) (hr : r ∉ vs) :
    DS G K W (tRet (tFrz (tLc wi g tYes (tBM K "list" rPopAt (tVar r) (tCons te tNil)) vs))) (sRetPop vs r Fi B Fe) := by
  intro H0 σ H ω τ s t' D h
  unfold sRetPop at h
  split at h
  case h_2 => exact h.elim
  rename_i xs0 hx0
  obtain ⟨l, ws0, el, hl0, rl0, l0n, lnf⟩ := s.getO hx0
  refine hi H0 σ H ω τ s t' _ (Res.imp (withE_kx s t' h) (fun ds ω1 H1 k1 t1 h1 J y => ?_) fun _ _ _ _ _ q => q)
  have hlen : ds.length ≤ sizeLine := by
    by_cases hq : ds.length ≤ sizeLine
    · exact hq
    · rw [if_neg hq] at h1; exact h1.elim
  rw [if_pos hlen] at h1
  cases e0 : nox (popL B Fe r (wipeT τ vs) ds xs0 ω1) with
  | no => rw [e0] at h1; exact h1.elim
  | ex x u => rw [e0] at h1; exact h1.elim
  | ok total ωe =>
  rw [e0] at h1
  have e0 := nox_eq e0
  intro p hp
  have nf : ¬ G.FP p := fun f => G.trk t1 p f hp
  have hl1 : H1 l = some (.lst ws0) := k1 l _ hl0 lnf
  have npl : p ≠ l := fun q => by subst q; rw [hp] at hl1; cases hl1
  have hwr : (wipeT τ vs)[r]? = some (some (.ow .L xs0)) := by rw [wipeT_get τ vs r hr]; exact hx0
  have s1 := s.step t' k1
  have hp00 : H0 p = none := by
    cases e : H0 p with
    | none => rfl
    | some o => have := s1.fr p o e nf; rw [hp] at this; cases this
  have sw1 : STT G K H0 (upd H1 p (.lst [])) (L2.wipe σ vs) ((wipeT τ vs).set r (some (.ow .L xs0))) := by
    rw [set_self hwr]
    exact (s1.step t1 (.of (Same.new hp))).wipe vs
  refine ⟨fun i m H' => m = ds.length - i ∧ i ≤ ds.length ∧ ∃ ω' acc accd rest xs ws, Sb im H1 H' ∧ H' p = some (.lst acc) ∧ H' l = some (.lst ws) ∧ RepL K im H' acc accd ∧ G.At ω' H' ∧ STT G K H0 H' (L2.wipe σ vs) ((wipeT τ vs).set r (some (.ow .L xs))) ∧ popL B Fe r (wipeT τ vs) (ds.drop i) xs ω' = .ok rest ωe ∧ accd ++ rest = total ∧ acc.length ≤ i,
    ⟨ds.length, by simp, Nat.zero_le _, ω1, [], [], total, xs0, ws0, .of (Same.new hp), upd_same, by rw [upd_ne npl.symm]; exact hl1, .nil, At.same t1 (Same.new hp), sw1, by simpa using e0, rfl, Nat.le_refl _⟩, ?_⟩
  rintro i m H' ⟨rfl, hle, ω', acc, accd, rest, xs, ws, sb1, hpl, hll, racc, t2, st, ep, eapp, hacc⟩
  by_cases hlt : i < ds.length
  · refine .inr ?_
    have hd : ds[i]? = some ds[i] := List.getElem?_eq_getElem hlt
    obtain ⟨go, yl⟩ := (y i H' sb1).1 _ hd
    have hdrop : ds.drop i = ds[i] :: ds.drop (i + 1) := List.drop_eq_getElem_cons hlt
    rw [hdrop] at ep
    unfold popL at ep
    cases eB : B ds[i] ((wipeT τ vs).set r (some (.ow .L xs))) with
    | none => rw [eB] at ep; cases ep
    | some τ1 =>
    rw [eB] at ep
    obtain ⟨z, ω5, ef, ep⟩ := bind_eq ep
    have ef := nox_eq ef
    refine ⟨go, fun H'' => ∃ m', m' = ds.length - (i + 1) ∧ i + 1 ≤ ds.length ∧ ∃ ω' acc accd rest xs ws, Sb im H1 H'' ∧ H'' p = some (.lst acc) ∧ H'' l = some (.lst ws) ∧ RepL K im H'' acc accd ∧ G.At ω' H'' ∧ STT G K H0 H'' (L2.wipe σ vs) ((wipeT τ vs).set r (some (.ow .L xs))) ∧ popL B Fe r (wipeT τ vs) (ds.drop (i + 1)) xs ω' = .ok rest ωe ∧ accd ++ rest = total ∧ acc.length ≤ i + 1,
      fun H'' ⟨m', e, a⟩ => ⟨m', by omega, e, a⟩, fun x H3 yx => ?_⟩
    obtain ⟨sm, rx⟩ := yl x H3 yx
    have s3 := st.step t2 (.of sm)
    have t3 := At.same t2 sm
    refine hg H0 (L2.wipe σ vs) H3 _ x _ τ1 s3 rx eB _ fun σ4 s4 f4 l4 => ⟨wipe_ext (fun j hj => f4 j (hsl j hj)) l4, ?_⟩
    have er : (L2.wipe σ vs)[r]? = some (some (.ref l)) := by rw [wipe_get2 σ vs r hr]; exact el
    have er4 : σ4[r]? = some (some (.ref l)) := by rw [f4 r (hsl r hr)]; exact er
    unfold tYes
    simp only [if_true]
    refine ⟨_, er4, .inl ⟨rfl, ws, SqL.of (sm l _ hll)⟩, ?_⟩
    have s4' : STT G K H0 H3 σ4 τ1 := s4
    refine he H0 σ4 H3 ω' τ1 s4' t3 _ ?_
    rw [ef]
    intro H5 k5 t5 v rv
    cases z with
    | int zi =>
      cases zi with
      | negSucc n => cases ep
      | ofNat k =>
      dsimp only at ep
      cases ek : (if k < 1000000 then xs[k]? else none) with
      | none => rw [ek] at ep; cases ep
      | some y' =>
      rw [ek] at ep
      simp only [Option.ite_none_right_eq_some] at ek
      obtain ⟨kb, ek⟩ := ek
      obtain ⟨rest', ω7, el2, er2⟩ := bind_eq ep
      cases er2
      cases rv
      have hl5 : H5 l = some (.lst ws) := k5 l _ (sm l _ hll) lnf
      have hp5 : H5 p = some (.lst acc) := k5 p _ (sm p _ hpl) nf
      have sb35 : Sb im H3 H5 := k5.sb t3
      -- what the list holds
      have stw5 : STT G K H0 H5 (L2.wipe σ vs) ((wipeT τ vs).set r (some (.ow .L xs))) := s3.step t3 k5
      have hrl : r < (wipeT τ vs).length := (List.getElem?_eq_some_iff.mp hwr).1
      have gr : ((wipeT τ vs).set r (some (.ow .L xs)))[r]? = some (some (.ow .L xs)) := List.getElem?_set_self hrl
      obtain ⟨l', ws', el', hl', rws, _, _⟩ := stw5.getO gr
      rw [er] at el'; cases el'
      rw [hl5] at hl'; cases hl'
      obtain ⟨w, hw, rw'⟩ := rws.get ek
      have hkl : k < ws.length := (List.getElem?_eq_some_iff.mp hw).1
      refine ⟨l, ws, (k : Nat), k, w, rfl, rfl, hl5, by omega, by omega, ?_, hw, ?_⟩
      · unfold seqIndex?
        have : ¬ ((k : Int) < 0) := by omega
        simp only [this, if_false]
        rw [if_pos (by simp; omega)]
        simp
      obtain ⟨s6, t6, sb6⟩ := stw5.mutO (ys := xs.eraseIdx k) t5 gr er ⟨ws, hl5⟩ (rws.eraseIdx k)
      rw [List.set_set] at s6
      have hp6 : upd H5 l (.lst (ws.eraseIdx k)) p = some (.lst acc) := by rw [upd_ne npl]; exact hp5
      refine ⟨acc, hp6, Nat.lt_of_lt_of_le (Nat.lt_of_le_of_lt hacc hlt) hlen, ?_⟩
      generalize hH6 : upd H5 l (.lst (ws.eraseIdx k)) = H6 at *
      have sbA : Sb im H' H6 := ((Sb.of sm).trans sb35).trans sb6
      have sbu : Sb im H6 (upd H6 p (.lst (acc ++ [w]))) := fun c u eb st => by
        have : c ≠ p := fun q => by subst q; rw [hp6] at eb; cases eb; exact st
        rw [upd_ne this]; exact eb
      have tu : G.At ω5 (upd H6 p (.lst (acc ++ [w]))) := G.keep t6 (fun c u f eb => by
        have : c ≠ p := fun q => nf (q ▸ f)
        rw [upd_ne this]; exact eb) sbu
      have su : STT G K H0 (upd H6 p (.lst (acc ++ [w]))) (L2.wipe σ vs) ((wipeT τ vs).set r (some (.ow .L (xs.eraseIdx k)))) := by
        refine ⟨s6.len, fun j vv cc e1 e2 => ?_, s6.dj, fun b o eb nfb => ?_⟩
        · have q := s6.ok j vv cc e1 e2
          cases q with
          | un => exact .un
          | d r => exact .d (r.up sbu)
          | @ow l2 k2 vs2 xs2 a1 a2 a3 a4 a5 =>
            have ne : l2 ≠ p := fun q => by
              subst q
              -- an own list of before stands in the first heap
              have own : ∃ k' c', τ[j]? = some (some (.ow k' c')) := by
                by_cases hj : r = j
                · subst hj; exact ⟨_, _, hx0⟩
                · rw [List.getElem?_set_ne hj] at e2
                  by_cases hv : j ∈ vs
                  · exfalso
                    have hw' := wipeT_in τ vs j hv
                    rcases hw' with z | z <;> rw [z] at e2 <;> cases e2
                  · rw [wipeT_get τ vs j hv] at e2
                    exact ⟨_, _, e2⟩
              obtain ⟨_, c', hc'⟩ := own
              have hjv : j ∉ vs ∨ j = r := by
                by_cases hv : j ∈ vs
                · right
                  by_cases hj : r = j
                  · exact hj.symm
                  · exfalso
                    rw [wipe_get] at e1
                    by_cases hl : j < σ.length
                    · rw [if_pos ⟨hv, hl⟩] at e1; cases e1
                    · rw [if_neg (fun z => hl z.2), List.getElem?_eq_none (by omega)] at e1; cases e1
                · exact .inl hv
              obtain ⟨l3, ws3, e3, h3, _⟩ := s1.getW hc'
              have e4 : σ[j]? = some (some (.ref l2)) := by
                rcases hjv with hv | rfl
                · rw [wipe_get2 σ vs j hv] at e1; exact e1
                · rw [wipe_get2 σ vs j hr] at e1; exact e1
              rw [e3] at e4; cases e4
              rw [hp] at h3; cases h3
            exact .ow (by rw [upd_ne ne]; exact a1) (a2.up sbu) a3 a4 a5
          | src => exact .src
        · have k := s6.fr b o eb nfb
          have : b ≠ p := fun q => by subst q; rw [hp00] at eb; cases eb
          rw [upd_ne this]; exact k
      refine ⟨_, rfl, hlt, ω5, acc ++ [w], accd ++ [y'], rest', xs.eraseIdx k, ws.eraseIdx k, (sb1.trans sbA).trans sbu, upd_same, ?_, ((racc.up sbA).append (.one ((rw').up sb6))).up sbu, tu, su, el2, by rw [List.append_assoc]; exact eapp, by rw [List.length_append, List.length_singleton]; omega⟩
      rw [upd_ne npl.symm, ← hH6, upd_same]
    | _ => cases ep
  · refine .inl ⟨(y i H' sb1).2 (by omega), ?_⟩
    have e1 : ds.drop i = [] := List.drop_eq_nil_of_le (by omega)
    rw [e1] at ep
    unfold popL at ep
    cases ep
    rw [List.append_nil] at eapp
    subst eapp
    refine ⟨p, acc, rfl, hpl, fun o => ?_⟩
    have sb2 : Sb im H' (upd H' p (.frz o (.lst acc))) := fun b u eb st => by
      have : b ≠ p := fun q => by subst q; rw [hpl] at eb; cases eb; exact st
      rw [upd_ne this]; exact eb
    refine h1 _ _ (sb1.trans sb2) (fun b u eb nfb => ?_) (G.keep t2 (fun b u f eb => ?_) sb2) (.lst ⟨o, upd_same⟩ (racc.up sb2))
    · have k := st.fr b u eb nfb
      have : b ≠ p := fun q => by subst q; rw [hp00] at eb; cases eb
      rw [upd_ne this]; exact k
    · have : b ≠ p := fun q => nf (q ▸ f)
      rw [upd_ne this]; exact eb
end
end DL
namespace DL
open PySem PySem.Spec PyProof.Rows L2
section
variable {κ : Type} [DecidableEq κ]
def lkp : List κ → List D → κ → Option D
  | k' :: ks, d :: ds, k => if k' = k then some d else lkp ks ds k
  | _, _, _ => none
section
variable {K : PySem.W.Frag} {im : Addr → Bool} {H : Hp}
theorem lkp_val : ∀ {ks : List κ} {vs : List V} {ds : List D} (k : κ), ks.length = vs.length → RepL K im H vs ds → (∀ d, lkp ks ds k = some d → ∃ v, valV (ks.zip vs) k = some v ∧ Rep K im H v d) ∧ (lkp ks ds k = none → valV (ks.zip vs) k = none)
  | [], _, _, k, hl, r => ⟨fun d e => by simp [lkp] at e, fun _ => by simp [valV_nil]⟩
  | k' :: ks, [], _, k, hl, r => by simp at hl
  | k' :: ks, v :: vs, _, k, hl, .cons (d := d0) (ds := ds) r1 r2 => by
    rw [List.zip_cons_cons]
    by_cases e : k' = k
    · rw [valV_pos e]
      simp only [lkp, if_pos e]
      exact ⟨fun d h => ⟨v, rfl, by cases h; exact r1⟩, fun h => by cases h⟩
    · rw [valV_neg (p := (k', v)) e]
      simp only [lkp, if_neg e]
      exact lkp_val k (by simpa using hl) r2
end
end
def D.key : D → Option Key
  | .int i => some (.inl i)
  | .str x => some (.inr x)
  | _ => none
def D.keyL : List D → Option (List Key)
  | [] => some []
  | d :: ds => match d.key, D.keyL ds with
    | some k, some r => some (k :: r)
    | _, _ => none
theorem Rep.key {K : PySem.W.Frag} {im : Addr → Bool} {H : Hp} {v : V} {d : D} {k : Key} (r : Rep K im H v d) (e : d.key = some k) : v = kV k := by
  cases r <;> simp [D.key] at e <;> subst e <;> rfl
theorem RepL.key {K : PySem.W.Frag} {im : Addr → Bool} {H : Hp} : ∀ {vs : List V} {ds : List D} {k : List Key}, RepL K im H vs ds → D.keyL ds = some k → vs = k.map kV
  | _, _, _, .nil, e => by cases e; rfl
  | _, _, _, .cons (d := d) (ds := ds) r1 r2, e => by
    unfold D.keyL at e
    cases h1 : d.key with
    | none => rw [h1] at e; cases e
    | some k1 =>
      cases h2 : D.keyL ds with
      | none => rw [h1, h2] at e; cases e
      | some k2 =>
        rw [h1, h2] at e
        cases e
        rw [List.map_cons, ← r1.key h1, ← RepL.key r2 h2]
section
variable {im : Addr → Bool} {Ω : Type} {G : Gam im Ω} {K : PySem.W.Frag} {W : WX} {ta tk te : TE} {Fa Fk Fe : E Ω D} {tr : TA} {Fr : E Ω (List D)}
def PlK (G : Gam im Ω) (K : PySem.W.Frag) (i : Nat) (P : Tau → Ω → Option (List Key × List D)) : Prop := ∀ H0 σ H ω τ, STT G K H0 H σ τ → G.At ω H → ∀ ks ds, P τ ω = some (ks, ds) →
  ∃ a vs, σ[i]? = some (some (.ref a)) ∧ Rd H a (.dK (ks.zip vs)) ∧ ks.length = vs.length ∧ RepL K im H vs ds
def pK (i : Nat) : Tau → Ω → Option (List Key × List D) := fun τ _ => match τ[i]? with
  | some (some (.d (.dic ks ds))) => some (ks, ds)
  | some (some (.ow (.K ks) ds)) => some (ks, ds)
  | _ => none
theorem plK (i : Nat) : PlK G K i (pK i) := by
  intro H0 σ H ω τ s t ks ds e
  unfold pK at e
  split at e
  · rename_i ks' ds' h
    cases e
    obtain ⟨v, e1, r⟩ := s.get h
    cases r with
    | dic h1 h2 h3 => exact ⟨_, _, e1, .inr ⟨_, h1⟩, h2, h3⟩
  · rename_i ks' ds' h
    cases e
    obtain ⟨l, vs, e1, h1, h2, _, _, h3⟩ := s.getW h
    exact ⟨_, vs, e1, .inl h1, by rw [h2.length]; exact h3, h2⟩
  · cases e
def eDgT (P : Tau → Ω → Option (List (List Key) × List D)) (r : E Ω (List D)) : E Ω D := fun τ ω => match P τ ω with
  | none => .no
  | some _ => (r τ ω).bind fun xs ω1 => match D.keyL xs, P τ ω1 with
    | some k, some (ks, ds) => if k.length ≤ 1000 then .ofO (lkp ks ds k) ω1 else .no
    | _, _ => .no
def eDgK (P : Tau → Ω → Option (List Key × List D)) (e : E Ω D) : E Ω D := fun τ ω => match P τ ω with
  | none => .no
  | some _ => (e τ ω).bind fun x ω1 => match x.key, P τ ω1 with
    | some k, some (ks, ds) => .ofO (lkp ks ds k) ω1
    | _, _ => .no
theorem de_dgK {i : Nat} {P : Tau → Ω → Option (List Key × List D)} (hP : PlK G K i P) (hk : DE G K W tk Fk) : DE G K W (tDGet (tVar i) tk) (eDgK P Fk) := by
  intro H0 σ H ω τ s t Q h
  unfold eDgK at h
  cases eP0 : P τ ω with
  | none => rw [eP0] at h; exact h.elim
  | some q0 =>
  rw [eP0] at h
  obtain ⟨a0, _, ea, _⟩ := hP H0 σ H ω τ s t _ _ eP0
  refine ⟨_, ea, ?_⟩
  refine hk H0 σ H ω τ s t _ (Res.imp (Res.bind h) (fun x ω1 H1 k1 t1 h1 v r => ?_) fun _ _ _ _ _ q => q)
  have h2 := h1.mono k1
  cases ek : x.key with
  | none => rw [ek] at h2; exact h2.elim
  | some k =>
  cases eP : P τ ω1 with
  | none => rw [ek, eP] at h2; exact h2.elim
  | some q =>
  obtain ⟨ks, ds⟩ := q
  rw [ek, eP] at h2
  dsimp only at h2
  obtain ⟨a, ws, e1, rd, hl, rr⟩ := hP H0 σ H1 ω1 τ (s.step t k1) t1 _ _ eP
  rw [ea] at e1; cases e1
  obtain rfl := r.key ek
  cases el : lkp ks ds k with
  | none => rw [el] at h2; exact h2.elim
  | some z =>
    rw [el] at h2
    obtain ⟨v, hv, rv⟩ := (lkp_val k hl rr).1 z el
    exact ⟨a0, v, rfl, .inl ⟨_, k, rd, rfl, hv.symm⟩, h2 H1 .refl t1 v rv⟩
/-- what e gives, finished -/
def tFrzW (te : TE) : TE := fun σ H Q => te σ H fun v H1 => ∃ a u, v = .ref a ∧ H1 a = some u ∧ Mut (some u) ∧ ∀ o, Q (.ref a) (upd H1 a (.frz o u))
theorem pe_frzW {X : Cx} {e : Expr} {te : TE} (h : PE X e te) : PE X e (tFrzW te) :=
  ⟨fun pins s σ H Q I q => thn (h.run pins s σ H _ I q) fun _ _ ⟨v, H1, J, r, a, u, ev, ha, mu, q⟩ => by
    subst ev
    obtain ⟨o, J'⟩ := J.lock ha mu
    exact ⟨_, _, J', r, q o⟩⟩
def OKd.fin : OKd → List D → D
  | .L, xs => .lst xs
  | .K ks, xs => .dic ks xs
  | .T ks, xs => .dit ks xs
theorem OKd.mut (k : OKd) (vs : List V) : Mut (some (k.ho vs)) := by cases k <;> trivial
theorem OKd.rep {H : Hp} {l : Addr} {k : OKd} {vs : List V} {xs : List D} {o : Obj} (h : H l = some (.frz o (k.ho vs))) (r : RepL K im H vs xs) (hl : k.len xs.length) : Rep K im H (.ref l) (k.fin xs) := by
  cases k with
  | L => exact .lst ⟨o, h⟩ r
  | K ks => exact .dic h (by rw [r.length]; exact hl) r
  | T ks => exact .dit h (by rw [r.length]; exact hl) r
end
end DL
namespace DL
open PySem PySem.Spec PyProof.Rows L2
end DL
namespace DL
open PySem
theorem sRetPop_eq {Ω : Type} {vs : List Nat} {r : Nat} {i : E Ω (List D)} {B : D → Tau → Option Tau} {Fe : E Ω D} {τ : Tau} {ω ω1 ω2 : Ω} {xs ds ys : List D} (h : τ[r]? = some (some (.ow .L xs))) (hi : i τ ω = .ok ds ω1) (hl : ds.length ≤ sizeLine) (hp : popL B Fe r (wipeT τ vs) ds xs ω1 = .ok ys ω2) :
    sRetPop vs r i B Fe τ ω = some (.rt (.lst ys), ω2) := by
  unfold sRetPop withE
  simp only [h, hi, hl, if_true, hp, nox_ok]
theorem sSeq_nx {Ω : Type} {a b : S Ω} {τ τ1 : Tau} {ω ω1 : Ω} (h : a τ ω = some (.nx τ1, ω1)) : sSeq a b τ ω = b τ1 ω1 := by unfold sSeq; rw [h]
theorem runS_rt {Ω : Type} {F : S Ω} {τ : Tau} {ω ω1 : Ω} {d : D} (h : F τ ω = some (.rt d, ω1)) : runS F τ ω = .ok d ω1 := by unfold runS; rw [h]
theorem str_ne_same (s : Str) (h : PyData.strOk s = true) : neD (.str s) (.str s) = some (.bl false) := by
  unfold neD eqB
  simp only [D.py]
  rw [if_pos ⟨by simp only [PyData.canLay0]; exact h, by simp only [PyData.canLay0]; exact h, by simp only [PyData.depth]; omega⟩]
  simp only [PyData.eqv, Option.map_some]
  simp
end DL
namespace DL
open PySem PySem.Spec PyProof.Rows L2
def tPre (i : Nat) (t : TS) : TS := fun D σ H => t D σ H ∨ ∃ a u, σ[i]? = some (some (.ref a)) ∧ H a = some u ∧ Mut (some u) ∧ ∀ o, t D σ (upd H a (.frz o u))
theorem ps_pre {X : Cx} {st : Stmt} {t : TS} (i : Nat) (h : PS X st t) : PS X st (tPre i t) := by
  refine ⟨fun pins s σ H D I q => ?_⟩
  rcases q with q | ⟨a, u, e, ha, mu, q⟩
  · exact h.run pins s σ H D I q
  · obtain ⟨o, J⟩ := I.lock ha mu
    exact h.run pins s σ _ D J (q o)
section
variable {im : Addr → Bool} {Ω : Type} {G : Gam im Ω} {K : PySem.W.Frag} {W : WX} {t : TS} {Ft : S Ω}
theorem STT.fzW {H0 H : Hp} {ω : Ω} {σ : L2.St} {τ : Tau} (s : STT G K H0 H σ τ) (t : G.At ω H) {i : Nat} {l : Addr} {kd : OKd} {vs : List V} {xs : List D} (h : τ[i]? = some (some (.ow kd xs))) (e : σ[i]? = some (some (.ref l))) (hl : H l = some (kd.ho vs)) (r : RepL K im H vs xs) (len : kd.len xs.length) (o : Obj) :
    STT G K H0 (upd H l (.frz o (kd.ho vs))) σ (τ.set i (some (.d (kd.fin xs)))) ∧ G.At ω (upd H l (.frz o (kd.ho vs))) ∧ Sb im H (upd H l (.frz o (kd.ho vs))) := by
  obtain ⟨l', ws', e', h1, h2, h3, h4, h5⟩ := s.getW h
  have el : l' = l := by rw [e] at e'; cases e'; rfl
  subst el
  have sb : Sb im H (upd H l' (.frz o (kd.ho vs))) := fun b u eb st => by
    have : b ≠ l' := fun q => by subst q; rw [hl] at eb; cases eb; exact OKd.nst st
    rw [upd_ne this]; exact eb
  have at' : G.At ω (upd H l' (.frz o (kd.ho vs))) := G.keep t (fun b o f eb => by
    have : b ≠ l' := fun q => h4 (q ▸ f)
    rw [upd_ne this]; exact eb) sb
  refine ⟨⟨by simp [s.len], fun j w c e1 e2 => ?_, fun j k a _ _ xs' zs hjk e1 e2 e3 e4 => ?_, fun b u eb nf => ?_⟩, at', sb⟩
  · by_cases hj : i = j
    · subst hj
      have hi : i < τ.length := (List.getElem?_eq_some_iff.mp h).1
      rw [List.getElem?_set_self hi] at e2
      cases e2
      rw [e] at e1; cases e1
      exact .d (OKd.rep upd_same (r.up sb) len)
    · rw [List.getElem?_set_ne hj] at e2
      have q := s.ok j w c e1 e2
      cases q with
      | un => exact .un
      | d r => exact .d (r.up sb)
      | @ow l2 k2 vs2 xs2 a1 a2 a3 a4 a5 =>
        have ne : l2 ≠ l' := fun q => by
          subst q
          exact s.dj i j l2 _ _ hj e h e1 e2
        exact .ow (by rw [upd_ne ne]; exact a1) (a2.up sb) a3 a4 a5
      | src => exact .src
  · have a : i ≠ j := fun q => by
      subst q
      have hi : i < τ.length := (List.getElem?_eq_some_iff.mp h).1
      rw [List.getElem?_set_self hi] at e2; cases e2
    have b : i ≠ k := fun q => by
      subst q
      have hi : i < τ.length := (List.getElem?_eq_some_iff.mp h).1
      rw [List.getElem?_set_self hi] at e4; cases e4
    rw [List.getElem?_set_ne a] at e2
    rw [List.getElem?_set_ne b] at e4
    exact s.dj j k _ _ _ hjk e1 e2 e3 e4
  · have k := s.fr b u eb nf
    have : b ≠ l' := fun q => by subst q; rw [h3] at eb; cases eb
    rw [upd_ne this]; exact k
def sPre (i : Nat) (F : S Ω) : S Ω := fun τ ω => match τ[i]? with
  | some (some (.ow k xs)) => F (τ.set i (some (.d (k.fin xs)))) ω
  | _ => F τ ω
theorem ds_pre (i : Nat) (h : DS G K W t Ft) : DS G K W (tPre i t) (sPre i Ft) := by
  intro H0 σ H ω τ s t' D ks
  unfold sPre at ks
  split at ks
  · rename_i k xs hx
    obtain ⟨l, vs, e, h1, r, _, _, hlen⟩ := s.getW hx
    refine .inr ⟨l, _, e, h1, k.mut vs, fun o => ?_⟩
    obtain ⟨s2, t2, sb⟩ := s.fzW t' hx e h1 r hlen o
    exact h H0 σ _ ω _ s2 t2 D (ks.mono sb)
  · exact .inl (h H0 σ H ω τ s t' D ks)
end
end DL
namespace DL
open Sh
end DL
namespace DL
open PySem PySem.Spec PyProof.Rows L2
section
variable {Ω : Type} {τ : Tau} {ω : Ω}
theorem sw_pre {i : Nat} {F : S Ω} {P} {k : OKd} {xs : List D} (h : τ[i]? = some (some (.ow k xs))) : sw (sPre i F τ ω) P = sw (F (τ.set i (some (.d (k.fin xs)))) ω) P := by
  unfold sPre; rw [h]
theorem wp_dgT {p : Tau → Ω → Option (List (List Key) × List D)} {r : E Ω (List D)} {P X} {ks : List (List Key)} {ds : List D} (h : ∀ ω, p τ ω = some (ks, ds))
    (k : (r τ ω).wp (fun xs ω1 => ∃ k z, D.keyL xs = some k ∧ k.length ≤ 1000 ∧ lkp ks ds k = some z ∧ P z ω1) X) : (eDgT p r τ ω).wp P X := by
  unfold eDgT
  rw [h ω]
  dsimp only
  rw [wp_bind]
  refine k.mono (fun xs ω1 h1 => ?_) fun _ _ h => h
  obtain ⟨k, z, e1, e2, e3, h1⟩ := h1
  rw [e1, h ω1]
  dsimp only
  rw [if_pos e2, e3, wp_some]
  exact h1
theorem wp_dgK {p : Tau → Ω → Option (List Key × List D)} {a : E Ω D} {P X} {ks : List Key} {ds : List D} (h : ∀ ω, p τ ω = some (ks, ds))
    (k : (a τ ω).wp (fun x ω1 => ∃ k z, x.key = some k ∧ lkp ks ds k = some z ∧ P z ω1) X) : (eDgK p a τ ω).wp P X := by
  unfold eDgK
  rw [h ω]
  dsimp only
  rw [wp_bind]
  refine k.mono (fun xs ω1 h1 => ?_) fun _ _ h => h
  obtain ⟨k, z, e1, e3, h1⟩ := h1
  rw [e1, h ω1]
  dsimp only
  rw [e3, wp_some]
  exact h1
end
end DL
namespace DL
open Sh
/-- all lumps, with their parts -/
def lm : Sh → Nat → List (Nat × Nat × Sh)
  | .o, p => [(p, p + 1, .o)]
  | .n l r, p => (p, p + (l.size + r.size), .n l r) :: (lm l p ++ lm r (p + l.size))
end DL
namespace DL
open PySem PySem.Spec PyProof.Rows L2
end DL
namespace DL
open PySem PySem.Spec PyProof.Rows L2
section
variable {im : Addr → Bool} {Ω : Type} (G : Gam im Ω) (K : PySem.W.Frag)
def KSL (H0 H : Hp) (D' : Ends) : Option (List D × Ω) → Prop
  | none => False
  | some (ds, ω) => ∀ p vs H', Sb im H H' → Kp G H0 H' → G.At ω H' → H0 p = none → ¬ G.FP p → H' p = some (.lst vs) → RepL K im H' vs ds → D'.rt (.ref p) H'
variable {G} {K}
theorem KSL.mono {H0 H H1 : Hp} {D' : Ends} {r : Option (List D × Ω)} (h : KSL G K H0 H D' r) (s : Sb im H H1) : KSL G K H0 H1 D' r := by
  rcases r with _ | ⟨ds, ω⟩
  · exact h
  · exact fun p vs H' sb => h p vs H' (s.trans sb)
end
end DL
namespace DL
open PySem PySem.Spec PyProof.Rows L2
end DL
namespace DL
open PySem PySem.Spec PyProof.Rows L2
end DL
namespace DL
open PySem PySem.Spec PyProof.Rows L2
end DL
namespace DL
open PySem PySem.Spec PyProof.Rows L2
theorem strOk_append (x y : Str) : PyData.strOk (x ++ y) = (PyData.strOk x && PyData.strOk y) := by
  unfold PyData.strOk
  show (x.cps ++ y.cps).all _ = _
  rw [Array.all_append]
theorem strOk_app {x y : Str} (h1 : PyData.strOk x = true) (h2 : PyData.strOk y = true) : PyData.strOk (x ++ y) = true := by rw [strOk_append, h1, h2]; rfl
theorem join_ok : ∀ (ts : List Str), (∀ t ∈ ts, PyData.strOk t = true) → PyData.strOk (Str.join ", " ts) = true ∧ (Str.join ", " ts).length ≤ piled ts
  | [], _ => ⟨by decide +kernel, by show (0 : Nat) ≤ _; exact Nat.zero_le _⟩
  | [x], h => ⟨h x (List.mem_singleton.mpr rfl), by show x.length ≤ _; rw [piled_cons]; omega⟩
  | x :: y :: r, h => by
    obtain ⟨h1, h2⟩ := join_ok (y :: r) fun t ht => h t (List.mem_cons_of_mem _ ht)
    have e : Str.join ", " (x :: y :: r) = x ++ ", " ++ Str.join ", " (y :: r) := rfl
    refine ⟨by rw [e]; exact strOk_app (strOk_app (h x (List.mem_cons_self ..)) (by decide +kernel)) h1, ?_⟩
    rw [e, strLen_append, strLen_append, piled_cons]
    have : (", " : Str).length = 2 := rfl
    omega
theorem tupleText_ok {ts : List Str} (h : ∀ t ∈ ts, PyData.strOk t = true) : PyData.strOk (tupleText ts) = true ∧ (tupleText ts).length ≤ piled ts + 3 := by
  obtain ⟨h1, h2⟩ := join_ok ts h
  unfold tupleText
  refine ⟨strOk_app (strOk_app (by decide +kernel) h1) (by split <;> decide +kernel), ?_⟩
  rw [strLen_append, strLen_append]
  have a : ("(" : Str).length = 1 := rfl
  have b : ((if (ts.length == 1) = true then ",)" else ")" : String) : Str).length ≤ 2 := by split <;> decide
  omega
theorem textFrom_ok : ∀ (ts : List Str) (k : Nat) (acc : Str), (∀ t ∈ ts, PyData.strOk t = true) → PyData.strOk acc = true → PyData.strOk (textFrom k acc ts) = true ∧ (textFrom k acc ts).length ≤ acc.length + piled ts
  | [], k, acc, _, ha => ⟨ha, by show acc.length ≤ _; omega⟩
  | t :: ts, k, acc, h, ha => by
    have hs : PyData.strOk ((if k > 0 then ", " else "" : String) : Str) = true := by split <;> decide +kernel
    obtain ⟨h1, h2⟩ := textFrom_ok ts (k + 1) (acc ++ (if k > 0 then ", " else "" : String) ++ t) (fun x hx => h x (List.mem_cons_of_mem _ hx)) (strOk_app (strOk_app ha hs) (h t (List.mem_cons_self ..)))
    refine ⟨h1, ?_⟩
    unfold textFrom
    refine Nat.le_trans h2 ?_
    rw [strLen_append, strLen_append, piled_cons]
    have : ((if k > 0 then ", " else "" : String) : Str).length ≤ 2 := by split <;> decide
    omega
theorem listText_ok {ts : List Str} (h : ∀ t ∈ ts, PyData.strOk t = true) : PyData.strOk (listText ts) = true ∧ (listText ts).length ≤ piled ts + 3 := by
  obtain ⟨h1, h2⟩ := textFrom_ok ts 0 "[" h (by decide +kernel)
  unfold listText
  refine ⟨strOk_app h1 (by decide +kernel), ?_⟩
  rw [strLen_append]
  have a : ("[" : Str).length = 1 := rfl
  have b : ("]" : Str).length = 1 := rfl
  omega
theorem sh_shown : ∀ s : Sh, PyData.strOk (PyData.shown s.py) = true ∧ (PyData.shown s.py).length + 7 ≤ 14 * s.size
  | .o => by
    have := tupleText_ok (ts := []) (fun _ h => absurd h (by simp))
    show PyData.strOk (tupleText []) = true ∧ (tupleText []).length + 7 ≤ _
    refine ⟨this.1, ?_⟩
    have h2 := this.2
    rw [piled_nil] at h2
    simp only [Sh.size]
    omega
  | .n l r => by
    obtain ⟨a1, a2⟩ := sh_shown l
    obtain ⟨b1, b2⟩ := sh_shown r
    have := tupleText_ok (ts := [PyData.shown l.py, PyData.shown r.py]) (fun t h => by
      rcases List.mem_cons.mp h with rfl | h
      · exact a1
      · rw [List.mem_singleton.mp h]; exact b1)
    have e : PyData.shown (Sh.n l r).py = tupleText [PyData.shown l.py, PyData.shown r.py] := by
      simp [Sh.py, PyData.shown, PyData.shownAll]
    rw [e]
    refine ⟨this.1, ?_⟩
    have h2 := this.2
    rw [piled_cons, piled_cons, piled_nil] at h2
    simp only [Sh.size]
    omega
theorem sh_showable : ∀ s : Sh, PyData.showable s.py = true
  | .o => by simp [Sh.py, PyData.showable, PyData.showableAll]
  | .n l r => by simp [Sh.py, PyData.showable, PyData.showableAll, sh_showable l, sh_showable r]
/-- data that can be shown, in so many signs -/
structure Gd (p : PyData) (b d : Nat) : Prop where
  sh : p.showable = true
  ly : p.canLay0 = true
  dp : p.depth ≤ d
  ok : PyData.strOk p.shown = true
  ln : p.shown.length ≤ b
theorem Gd.shp (s : Sh) : Gd s.py (14 * s.size) s.size := ⟨sh_showable s, s.lay, s.dep, (sh_shown s).1, by have := (sh_shown s).2; omega⟩
theorem gd_all {α : Type} (f : α → PyData) (b d : Nat) : ∀ xs : List α, (∀ x ∈ xs, Gd (f x) b d) → PyData.showableAll (xs.map f) = true ∧ PyData.canLayAll0 (xs.map f) = true ∧ PyData.depthAll (xs.map f) ≤ d ∧ (∀ t ∈ PyData.shownAll (xs.map f), PyData.strOk t = true) ∧ piled (PyData.shownAll (xs.map f)) ≤ xs.length * (b + 2)
  | [], _ => ⟨by simp [PyData.showableAll], by simp [PyData.canLayAll0], by simp [PyData.depthAll], by simp [PyData.shownAll], by simp [PyData.shownAll, piled_nil]⟩
  | x :: xs, h => by
    obtain ⟨h1, h2, h3, h4, h5⟩ := gd_all f b d xs fun y hy => h y (List.mem_cons_of_mem _ hy)
    have g := h x (List.mem_cons_self ..)
    have gd := g.dp; have gl := g.ln
    refine ⟨by simp [PyData.showableAll, g.sh, h1], by simp [PyData.canLayAll0, g.ly, h2], by simp only [List.map_cons, PyData.depthAll]; omega, fun t ht => ?_, ?_⟩
    · simp only [List.map_cons, PyData.shownAll, List.mem_cons] at ht
      rcases ht with rfl | ht
      · exact g.ok
      · exact h4 t ht
    · simp only [List.map_cons, PyData.shownAll, piled_cons, List.length_cons]
      rw [Nat.succ_mul]
      omega
theorem Gd.tup {α : Type} {f : α → PyData} {b d : Nat} {xs : List α} (h : ∀ x ∈ xs, Gd (f x) b d) : Gd (.tuple (xs.map f)) (xs.length * (b + 2) + 3) (d + 1) := by
  obtain ⟨h1, h2, h3, h4, h5⟩ := gd_all f b d xs h
  obtain ⟨k1, k2⟩ := tupleText_ok h4
  exact ⟨by simp only [PyData.showable]; exact h1, by simp only [PyData.canLay0]; exact h2, by simp only [PyData.depth]; omega, by simp only [PyData.shown]; exact k1, by simp only [PyData.shown]; omega⟩
theorem Gd.lst {α : Type} {f : α → PyData} {b d : Nat} {xs : List α} (h : ∀ x ∈ xs, Gd (f x) b d) : Gd (.list (xs.map f)) (xs.length * (b + 2) + 3) (d + 1) := by
  obtain ⟨h1, h2, h3, h4, h5⟩ := gd_all f b d xs h
  obtain ⟨k1, k2⟩ := listText_ok h4
  exact ⟨by simp only [PyData.showable]; exact h1, by simp only [PyData.canLay0]; exact h2, by simp only [PyData.depth]; omega, by simp only [PyData.shown]; exact k1, by simp only [PyData.shown]; omega⟩
theorem Gd.reprD {x : D} {p : PyData} {b d : Nat} (hx : (∃ ds, x = .tup ds) ∨ ∃ ds, x = .lst ds) (e : x.py = some p) (g : Gd p b d) (hb : b ≤ 1000000) (hd : d ≤ 150) : un1 reprD [x] = some (.str p.shown) := by
  have h1 : p.showable = true ∧ p.hasDict = false ∧ p.depth ≤ 150 ∧ p.shown.length ≤ sizeLine := ⟨g.sh, PyData.hasDict_of_canLay _ g.ly, by have := g.dp; omega, by have := g.ln; rw [sizeLine_eq]; omega⟩
  show DL.reprD x = _
  rcases hx with ⟨ds, rfl⟩ | ⟨ds, rfl⟩
  · unfold DL.reprD
    dsimp only
    rw [e]
    dsimp only
    rw [if_pos h1]
  · unfold DL.reprD
    dsimp only
    rw [e]
    dsimp only
    rw [if_pos h1]
theorem strOk_ofString (s : String) : PyData.strOk (Str.ofString s) = true := by
  unfold PyData.strOk
  rw [Str.ofString_eq_toList]
  show (List.toArray (s.toList.map Char.toNat)).all _ = true
  rw [List.all_toArray, List.all_map, List.all_eq_true]
  intro c _
  have := c.valid
  show decide (c.toNat < 0x110000) = true
  rw [decide_eq_true_eq]
  have h : c.toNat = c.val.toNat := rfl
  rcases this with h1 | ⟨_, h1⟩
  · rw [h]; exact Nat.lt_trans h1 (by decide)
  · rw [h]; exact h1
theorem Gd.int {i : Int} {k : Nat} (h : i.natAbs < 2 ^ k) (hk : 0 < k) (hk2 : k ≤ 1000) : Gd (.int i) (k + 1) 0 := by
  have hl : i.natAbs.log2 < k := by
    rcases Nat.eq_zero_or_pos i.natAbs with e | e
    · rw [e]; exact hk
    · exact (Nat.log2_lt (by omega)).mpr h
  refine ⟨by simp only [PyData.showable]; exact decide_eq_true (by omega), by simp only [PyData.canLay0], by simp only [PyData.depth]; omega, ?_, ?_⟩
  · simp only [PyData.shown]; exact strOk_ofString _
  · simp only [PyData.shown]
    rw [show ((toString i : String) : Str).length = (toString i).length from PySem.ofString_length _]
    exact int_text_length_le hk hl
theorem Gd.bool (b : Bool) : Gd (.bool b) 5 0 := by
  refine ⟨by simp only [PyData.showable], by simp only [PyData.canLay0], by simp only [PyData.depth]; omega, ?_, ?_⟩
  · simp only [PyData.shown]; cases b <;> exact strOk_ofString _
  · simp only [PyData.shown]; cases b <;> decide
theorem Gd.non : Gd .none 4 0 := by
  refine ⟨by simp only [PyData.showable], by simp only [PyData.canLay0], by simp only [PyData.depth]; omega, ?_, ?_⟩
  · simp only [PyData.shown]; exact strOk_ofString _
  · simp only [PyData.shown]; decide
theorem Gd.le {p : PyData} {b d b' d' : Nat} (g : Gd p b d) (h1 : b ≤ b') (h2 : d ≤ d') : Gd p b' d' := ⟨g.sh, g.ly, Nat.le_trans g.dp h2, g.ok, Nat.le_trans g.ln h1⟩
end DL
namespace DL
open PySem PySem.Spec PyProof.Rows L2
def optE : Option Sh → D
  | none => .non
  | some s => s.enc
def optP : Option Sh → PyData
  | none => .none
  | some s => s.py
instance : Enc (Option Sh) where
  enc := optE
  py := optP
  dep := fun o => match o with | none => 0 | some s => s.size
  e1 o := by cases o with
    | none => rfl
    | some s => exact Sh.enc_py s
  e2 a b := by
    cases a with
    | none => cases b with
      | none => simp [optP, PyData.eqv]
      | some s => cases s <;> simp [optP, Sh.py, PyData.eqv]
    | some a => cases b with
      | none => cases a <;> simp [optP, Sh.py, PyData.eqv]
      | some b =>
        show PyData.eqv a.py b.py = _
        rw [Sh.eqv]
        exact decide_eq_decide.mpr (by simp)
  e3 o := by cases o with
    | none => simp [optP, PyData.canLay0]
    | some s => exact Sh.lay s
  e4 o := by cases o with
    | none => simp [optP, PyData.depth]
    | some s => exact Sh.dep s
open Sh
def ends (m b : Nat) : List Nat := (List.range ((m + b - 1) / b)).map fun k => min (k * b + b) m
end DL
namespace DL
open PySem PySem.Spec PyProof.Rows L2
end DL
namespace DL
open PySem PySem.Spec PyProof.Rows L2
def rAddN (K : PySem.W.Frag) (im : Addr → Bool) : R2 := fun x y H Q => ∃ a b vs ws ds es, x = .ref a ∧ y = .ref b ∧ SqZ H a vs ∧ SqZ H b ws ∧ RepL K im H vs ds ∧ RepL K im H ws es ∧ ds.length + es.length ≤ sizeLine ∧ ∀ p, H p = none → Q (.ref p) (upd H p (.lst (vs ++ ws)))
def eAddL {Ω : Type} (a b : E Ω D) : E Ω (List D) := fun τ ω => (a τ ω).bind fun x ω1 => (b τ ω1).bind fun y ω2 => match x, y with
  | .lst xs, .lst ys => if xs.length + ys.length ≤ sizeLine then .ok (xs ++ ys) ω2 else .no
  | _, _ => .no
section
variable {X : Cx} {im : Addr → Bool}
theorem op_addLL : OpR X (binaryOp .Add) (rAddN X.K im) := by
  intro pins s σ H x y v u Q I rx ry h
  obtain ⟨a, b, vs, ws, ds, es, rfl, rfl, h1, h3, h2, h4, hl, q⟩ := h
  have l1 := h2.length
  have l2 := h4.length
  cases rx
  cases ry
  obtain ⟨z, its, n, r, hl1, e⟩ := Inv.zlst I h1
  obtain ⟨z2, its2, n2, r2, hl2, e2⟩ := Inv.zlst I h3
  have room : its.toArray.size + its2.toArray.size ≤ sizeLine := by simp only [List.size_toArray]; omega
  have joined : its.toArray ++ its2.toArray = List.toArray (its ++ its2) := List.append_toArray its its2
  refine PySem.P.add_list e e2 (?_ : _) room
  rw [joined]
  exact ⟨.ref _, _, Inv.lnew (t' := s.toks) I (r.append r2) (by rw [List.length_append]; omega), rfl, q _ (Inv.fresh I)⟩
end
section
variable {im : Addr → Bool} {Ω : Type} {G : Gam im Ω} {K : PySem.W.Frag} {W : WX} {ta tb : TE} {Fa Fb : E Ω D}
theorem dl_add (ha : DE G K W ta Fa) (hb : DE G K W tb Fb) : DL G K W (tOp (rAddN K im) ta tb) (eAddL Fa Fb) := by
  intro H0 σ H ω τ s t Q h
  refine ha H0 σ H ω τ s t _ (Res.imp (Res.bind h) (fun x ω1 H1 k1 t1 h1 v r => ?_) fun _ _ _ _ _ q => q)
  refine hb H0 σ H1 ω1 τ (s.step t k1) t1 _ (Res.imp (Res.bind (h1.mono k1)) (fun y ω2 H2 k2 t2 h2 w r2 => ?_) fun _ _ _ _ _ q => q)
  have h3 := h2.mono k2
  cases r with
  | @lst a vs ds g1 g2 =>
    cases r2 with
    | @lst b ws es g3 g4 =>
      dsimp only at h3
      by_cases hl : ds.length + es.length ≤ sizeLine
      · rw [if_pos hl] at h3
        refine ⟨a, b, vs, ws, ds, es, rfl, rfl, (k2.sb t1).sqZ g1, g3, g2.up (k2.sb t1), g4, hl, fun p hp => ?_⟩
        have sm : Same H2 (upd H2 p (.lst (vs ++ ws))) := Same.new hp
        refine h3 _ (.of sm) (At.same t2 sm) p _ ?_ upd_same (((g2.up (k2.sb t1)).append g4).up (.of sm))
        cases e2 : H p with
        | none => rfl
        | some o =>
          by_cases f : G.FP p
          · exact absurd hp (G.trk t2 p f)
          · have := k2 p o (k1 p o e2 f) f; rw [hp] at this; cases this
      · rw [if_neg hl] at h3; exact h3.elim
    | _ => exact h3.elim
  | _ => exact h3.elim
end
section
variable {Ω : Type} {τ : Tau} {ω : Ω}
theorem wp_eAddL {a b : E Ω D} {P : List D → Ω → Prop} {X} : (eAddL a b τ ω).wp P X = (a τ ω).wp (fun x ω1 => (b τ ω1).wp (fun y ω2 => ∃ xs ys, x = .lst xs ∧ y = .lst ys ∧ xs.length + ys.length ≤ sizeLine ∧ P (xs ++ ys) ω2) X) X := by
  unfold eAddL; rw [wp_bind]; congr; funext x ω1; rw [wp_bind]; congr; funext y ω2
  have no : ∀ {x y : D}, (∀ xs ys, x = .lst xs → y = .lst ys → False) → (R.no : R Ω (List D)).wp P X = ∃ xs ys, x = .lst xs ∧ y = .lst ys ∧ xs.length + ys.length ≤ sizeLine ∧ P (xs ++ ys) ω2 := fun hn =>
    propext ⟨fun h => by with_unfolding_all exact h.elim, fun ⟨xs, ys, h1, h2, _⟩ => (hn xs ys h1 h2).elim⟩
  cases x with
  | lst xs =>
    cases y with
    | lst ys =>
      dsimp only
      by_cases h : xs.length + ys.length ≤ sizeLine
      · rw [if_pos h, wp_ok]
        exact propext ⟨fun p => ⟨xs, ys, rfl, rfl, h, p⟩, fun ⟨_, _, h1, h2, _, p⟩ => by cases h1; cases h2; exact p⟩
      · rw [if_neg h]
        exact propext ⟨fun h => by with_unfolding_all exact h.elim, fun ⟨_, _, h1, h2, h3, _⟩ => by cases h1; cases h2; exact (h h3).elim⟩
    | _ => exact no fun _ _ _ h => by cases h
  | _ => exact no fun _ _ h _ => by cases h
end
end DL
namespace DL
open PySem PySem.Spec PyProof.Rows L2
theorem zip_lookup {α β : Type} {m : Str} : ∀ (fs : List Str) (xs : List α) (ys : List β), xs.length = ys.length → ((fs.zip xs).lookup m = none ↔ (fs.zip ys).lookup m = none)
  | [], _, _, _ => by simp
  | f :: fs, [], [], _ => by simp
  | f :: fs, x :: xs, [], h => by simp at h
  | f :: fs, [], y :: ys, h => by simp at h
  | f :: fs, x :: xs, y :: ys, h => by
    rw [List.zip_cons_cons, List.zip_cons_cons, List.lookup_cons, List.lookup_cons]
    cases m == f with
    | true => simp
    | false => exact zip_lookup fs xs ys (by simpa using h)
section
variable {im : Addr → Bool} {Ω : Type} {G : Gam im Ω} {K : PySem.W.Frag} {W : WX} {ta : TE} {Fa : E Ω D} {tr : TA} {Fr : E Ω (List D)}
theorem RepL.look {H : Hp} {m : Str} {d : D} : ∀ (fs : List Str) (vs : List V) (ds : List D), RepL K im H vs ds → (fs.zip ds).lookup m = some d → ∃ v, (fs.zip vs).lookup m = some v ∧ Rep K im H v d
  | [], _, _, _, e => by simp at e
  | f :: fs, _, [], _, e => by simp at e
  | f :: fs, _, d' :: ds, h, e => by
    cases h with
    | cons h1 h2 =>
      rw [List.zip_cons_cons, List.lookup_cons] at e
      rw [List.zip_cons_cons, List.lookup_cons]
      cases q : m == f with
      | true => rw [q] at e; cases e; exact ⟨_, rfl, h1⟩
      | false => rw [q] at e; exact RepL.look fs _ ds h2 e
/-- e.f -/
def eFld (f : Str) (a : E Ω D) : E Ω D := fun τ ω => (a τ ω).bind fun d ω1 => match d with
  | .ins fs ds => .ofO ((fs.zip ds).lookup f) ω1
  | _ => .no
theorem de_fld {f : Str} (hc : ∀ C, im C = true → Cls K C ∧ NoAttr K C f) (ha : DE G K W ta Fa) : DE G K W (tFld K ta f) (eFld f Fa) := by
  intro H0 σ H ω τ s t Q h
  refine ha H0 σ H ω τ s t _ (Res.imp (Res.bind h) (fun d ω1 H1 k1 t1 h1 v r => ?_) fun _ _ _ _ _ q => q)
  cases r with
  | @ins a C dx fs vs ds h0 h01 h2 h3 h4 =>
    dsimp only at h1
    cases e : (fs.zip ds).lookup f with
    | none => rw [e] at h1; exact h1.elim
    | some z =>
      rw [e] at h1
      obtain ⟨v, ev, rv⟩ := RepL.look fs vs ds h4 e
      exact ⟨a, C, dx, _, v, rfl, h2, (hc C h0).1, (hc C h0).2, ev, h1 H1 k1 t1 v rv⟩
  | _ => exact h1.elim
/-- o.m(..), which changes nothing -/
def cM (m : Str) (F : List D → R Unit D) (o : E Ω D) (a : E Ω (List D)) : E Ω D := fun τ ω => (o τ ω).bind fun d ω1 => match d with
  | .ins fs ds => if (fs.zip ds).lookup m = none then (a τ ω1).bind fun xs ω2 => nox (lift (F (.ins fs ds :: xs)) ω2) else .no
  | _ => .no
theorem dc_M {n k : Nat} {C : Addr} {m : Str} {F : List D → R Unit D} (hi : ∀ a, im a = true → a = C) (ho : DE G K W ta Fa) (hr : DA G K W tr Fr) (hn : AN Fr k) (hk : k + 1 = n := by rfl) :
    DE G K W (tMeth C m (spD K im n F) [] E0 ta tr) (cM m F Fa Fr) := by
  intro H0 σ H ω τ s t Q h
  refine ho H0 σ H ω τ s t _ (Res.imp (Res.bind h) (fun d ω1 H1 k1 t1 h1 v r => ?_) fun _ _ _ _ _ q => q)
  cases r with
  | @ins a C' dx fs vs ds h0 h01 h2 h3 h4 =>
    obtain rfl := hi C' h0
    dsimp only at h1
    by_cases hl : (fs.zip ds).lookup m = none
    · rw [if_pos hl] at h1
      refine ⟨a, dx, _, rfl, h2, (zip_lookup fs vs ds h4.length).mpr hl, ?_⟩
      have s1 := s.step t k1
      have h1 := h1.mono k1
      have hr' := hr H0 σ H1 ω1 τ s1 t1
      cases e0 : Fr τ ω1 with
      | ok xs ω2 =>
        have hlx := hn τ ω1 xs ω2 e0
        rw [e0] at h1 hr'
        refine hr' _ fun H2 k2 t2 vs' r => ?_
        have rx : RepL K im H2 (.ref a :: vs') (.ins fs ds :: xs) := .cons ((Rep.ins h0 h01 h2 h3 h4).up (k2.sb t1)) r
        refine ⟨by rw [List.append_nil, List.length_cons, r.length, hlx]; exact hk, .ins fs ds :: xs, by rw [List.append_nil]; exact rx, ?_⟩
        have h5 : Res G (nox (lift (F (.ins fs ds :: xs)) ω2)) H1 (kD G K Q) (kX G K W σ) := h1
        cases e : F (.ins fs ds :: xs) with
        | ok d u =>
          rw [e] at h5
          exact fun v H' sm rv => h5 H' (k2.trans (.of sm)) (At.same t2 sm) v rv
        | ex x u => rw [e] at h5; exact h5.elim
        | no => rw [e] at h5; exact h5.elim
      | ex x ω2 => rw [e0] at h1 hr'; exact hr' _ h1
      | no => rw [e0] at h1; exact h1.elim
    · rw [if_neg hl] at h1; exact h1.elim
  | _ => exact h1.elim
end
section
variable {im : Addr → Bool} {Ω : Type} {G : Gam im Ω} {K : PySem.W.Frag} {W : WX} {tr : TA} {Fr : E Ω (List D)}
def spI (K : PySem.W.Frag) (im : Addr → Bool) (C : Addr) (n : Nat) (fs : List Str) (F : List D → R Unit (List D)) : Sp := fun vs H Q Ex => vs.length = n ∧ ∃ x dx ws ds, vs = .ref x :: ws ∧ H x = some (.ins C dx []) ∧ RepL K im H ws ds ∧ (match F ds with
  | .ok es _ => ∀ us H', (∀ b o, H b = some o → b ≠ x → H' b = some o) → H' x = some (.ins C dx (fs.zip us)) → RepL K im H' us es → Q .non H'
  | .ex y _ => ∀ cls dd H', (∀ b o, H b = some o → b ≠ x → H' b = some o) → ExRep K im H' cls dd y → Ex cls dd H'
  | .no => False)
/-- C(..) -/
def cI (fs : List Str) (F : List D → R Unit (List D)) (a : E Ω (List D)) : E Ω D := fun τ ω => (a τ ω).bind fun xs ω1 => match F xs with
  | .ok es _ => if es.length = fs.length then .ok (.ins fs es) ω1 else .no
  | _ => .no
theorem dc_I {n k : Nat} {C : Addr} {fs : List Str} {F : List D → R Unit (List D)} (hi : im C = true) (hf : 2 ≤ fs.length) (hr : DA G K W tr Fr) (hn : AN Fr k) (hk : k + 1 = n := by rfl) :
    DE G K W (tMake C (spI K im C n fs F) [] E0 tr) (cI fs F Fr) := by
  intro H0 σ H ω τ s t Q h
  have hr' := hr H0 σ H ω τ s t
  cases e0 : Fr τ ω with
  | ok xs ω1 =>
    have hl := hn τ ω xs ω1 e0
    unfold cI at h
    rw [e0] at h hr'
    refine hr' _ fun H1 k1 t1 vs r x dx nx ndx ne => ?_
    have s1 : Same H1 (upd (upd H1 dx (.own x)) x (.ins C dx [])) := fun b o e => by
      rw [upd_ne (ne_of_none e nx), upd_ne (ne_of_none e ndx)]
      exact e
    have h1 : Res G (match F xs with | .ok es _ => if es.length = fs.length then .ok (.ins fs es) ω1 else .no | _ => .no) H (kD G K Q) (kX G K W σ) := h
    refine ⟨by rw [List.append_nil, List.length_cons, r.length, hl]; exact hk, x, dx, vs, xs, by rw [List.append_nil], upd_same, r.up (.of s1), ?_⟩
    cases e : F xs with
    | ok es u =>
      rw [e] at h1
      dsimp only at h1
      by_cases q : es.length = fs.length
      · rw [if_pos q] at h1
        refine fun us H' kp hx ru => ⟨rfl, ?_⟩
        have sm : Same H1 H' := fun b o e => kp b o (s1 b o e) (ne_of_none e nx)
        exact h1 H' (k1.trans (.of sm)) (At.same t1 sm) _ (.ins hi hf hx (by rw [ru.length, q]) ru)
      · rw [if_neg q] at h1; exact h1.elim
    | ex y u => rw [e] at h1; exact h1.elim
    | no => rw [e] at h1; exact h1.elim
  | ex x ω1 => unfold cI at h; rw [e0] at h hr'; exact hr' _ h
  | no => unfold cI at h; rw [e0] at h; exact h.elim
end
section
variable {K : PySem.W.Frag} {W : WX}
/-- the new object, in slot 0 -/
def iniG (im : Addr → Bool) (C dx x : Addr) (kvs : List (Str × V)) (hk : kvs.length < 2) : Gam im Unit where
  At := fun _ H => H x = some (.ins C dx kvs)
  FP := fun b => b = x
  obj := .ref x
  keep := fun t k _ => k _ _ rfl t
  nost := fun t b o f e s => by
    subst f
    rw [t] at e
    cases e
    have := s.2
    omega
  trk := fun t b f e => by
    subst f
    rw [t] at e
    cases e
abbrev SI := Tau → Unit → Option (List D)
theorem stt_ini {im : Addr → Bool} {C dx x : Addr} {k1 k2 : List (Str × V)} {h1 : k1.length < 2} {h2 : k2.length < 2} {H0 H : Hp} {σ : L2.St} {τ : Tau} (s : STT (iniG im C dx x k1 h1) K H0 H σ τ) : STT (iniG im C dx x k2 h2) K H0 H σ τ := by
  refine ⟨s.len, fun i v c e1 e2 => ?_, s.dj, s.fr⟩
  cases s.ok i v c e1 e2 with
  | un => exact .un
  | d r => exact .d r
  | ow a b c d e => exact .ow a b c d e
  | src => exact .src
def DSI (im : Addr → Bool) (K : PySem.W.Frag) (C : Addr) (fs : List Str) (ts : TS) (F : SI) : Prop := ∀ (x dx : Addr) H0 σ H τ, STT (iniG im C dx x [] (by decide)) K H0 H σ τ → τ[0]? = some (some .src) → H x = some (.ins C dx []) →
  ∀ D' : Ends, (match F τ () with
    | some es => ∀ us σ' H', (∀ b o, H0 b = some o → b ≠ x → H' b = some o) → H' x = some (.ins C dx (fs.zip us)) → RepL K im H' us es → D'.nx σ' H'
    | none => False) → ts D' σ H
def siSeq (a : S Unit) (b : SI) : SI := fun τ ω => match a τ ω with
  | some (.nx τ1, ω1) => match (τ1[0]? : Option (Option Cell)) with
    | some (some .src) => b τ1 ω1
    | _ => none
  | _ => none
def siTwo (a b : E Unit D) : SI := fun τ ω => match a τ ω with
  | .ok d ω1 => match b τ ω1 with
    | .ok e _ => some [d, e]
    | _ => none
  | _ => none
theorem dsi_seq {im : Addr → Bool} {C : Addr} {fs : List Str} {t u : TS} {Ft : S Unit} {Fu : SI} (ha : ∀ dx x kvs hk, DS (iniG im C dx x kvs hk) K W t Ft) (hb : DSI im K C fs u Fu) : DSI im K C fs (tSeq t u) (siSeq Ft Fu) := by
  intro x dx H0 σ H τ s hs hx D' h
  refine ha dx x [] (by decide) H0 σ H () τ s hx _ ?_
  unfold siSeq at h
  cases q : Ft τ () with
  | none => rw [q] at h; exact h.elim
  | some p =>
    obtain ⟨fl, ω1⟩ := p
    rw [q] at h
    cases fl with
    | nx τ1 =>
      dsimp only at h
      split at h
      · rename_i r hr
        split at hr
        · rename_i q0
          exact fun σ' H' sb s1 t1 => hb x dx H0 σ' H' τ1 s1 q0 t1 D' (by rw [hr]; exact h)
        · cases hr
      · exact h.elim
    | _ => exact h.elim
theorem putF_two {f g : Str} {v w : V} (h : ¬ f = g) : putF g w [(f, v)] = [(f, v), (g, w)] := by
  show (if f = g then _ else (f, v) :: putF g w []) = _
  rw [if_neg h]; rfl
theorem dsi_two {im : Addr → Bool} {C : Addr} {f1 f2 : Str} {ta tb : TE} {Fa Fb : E Unit D} (hne : ¬ f1 = f2) (hc : Cls K C) (n1 : NoAttr K C f1) (n2 : NoAttr K C f2)
    (ha : ∀ dx x kvs hk, DE (iniG im C dx x kvs hk) K (fun _ _ _ _ => False) ta Fa) (hb : ∀ dx x kvs hk, DE (iniG im C dx x kvs hk) K (fun _ _ _ _ => False) tb Fb) : DSI im K C [f1, f2] (tSeq (sFld K (tVar 0) ta f1) (sFld K (tVar 0) tb f2)) (siTwo Fa Fb) := by
  intro x dx H0 σ H τ s hs hx D' h
  have e0 := s.getS hs
  refine ha dx x [] (by decide) H0 σ H () τ s hx _ ?_
  unfold siTwo at h
  cases qa : Fa τ () with
  | no => rw [qa] at h; exact h.elim
  | ex y u => rw [qa] at h; exact h.elim
  | ok d u =>
    rw [qa] at h
    dsimp only at h
    intro H1 k1 t1 v1 r1
    have x1 : H1 x = some (.ins C dx []) := t1
    refine ⟨_, e0, x, C, dx, [], rfl, x1, hc, n1, (by show 0 < 1000; decide), ?_⟩
    have kp : Kp (iniG im C dx x [] (by decide)) H1 (upd H1 x (.ins C dx (putF f1 v1 []))) := fun b o e nf => by
      rw [upd_ne (fun q => nf q)]; exact e
    have s2 := (s.step (ω := ()) hx k1).step (ω := ()) t1 kp
    have s3 : STT (iniG im C dx x [(f1, v1)] (Nat.le_refl 2)) K H0 (upd H1 x (.ins C dx (putF f1 v1 []))) σ τ := stt_ini s2
    have x2 : (upd H1 x (.ins C dx (putF f1 v1 []))) x = some (.ins C dx [(f1, v1)]) := by rw [upd_same]; rfl
    refine hb dx x [(f1, v1)] (Nat.le_refl 2) H0 σ _ () τ s3 x2 _ ?_
    cases qb : Fb τ u with
    | no => rw [qb] at h; exact h.elim
    | ex y w => rw [qb] at h; exact h.elim
    | ok e w =>
      rw [qb] at h
      dsimp only at h
      intro H3 k3 t3 v2 r2
      have x3 : H3 x = some (.ins C dx [(f1, v1)]) := t3
      refine ⟨_, e0, x, C, dx, [(f1, v1)], rfl, x3, hc, n2, (by show 1 < 1000; decide), ?_⟩
      have kp2 : Kp (iniG im C dx x [(f1, v1)] (Nat.le_refl 2)) H3 (upd H3 x (.ins C dx (putF f2 v2 [(f1, v1)]))) := fun b o e nf => by
        rw [upd_ne (fun q => nf q)]; exact e
      have fr := (s3.step (ω := ()) x2 k3).fr
      refine h [v1, v2] σ _ (fun b o e nf => kp2 b o (fr b o e nf) nf) (by rw [upd_same, putF_two hne]; rfl) ?_
      exact .cons (((r1.up (kp.sb t1)).up (k3.sb (ω := ()) x2)).up (kp2.sb t3)) (.cons (r2.up (kp2.sb t3)) .nil)
end
section
variable {im : Addr → Bool} {P : Program} {w : World} {K : PySem.W.Frag} {mg : Str → Option Value} {base : Heap}
def runI (F : SI) (τ : Tau) : R Unit (List D) := match F τ () with
  | some es => .ok es ()
  | none => .no
theorem fn_I {x qual : Str} {st : Stmt} {f C : Addr} {fd : FuncData} {N ps : List Str} {fs : List Str} {k k' n : Nat} {F : SI} {F' : List D → R Unit (List D)} (Fn : Fun K x qual st f fd) (Sc : FnScope N ps (defScope st))
    (ek : k' = k + 1) (en : n = ps.length) (hN : ps.length ≤ N.length) (eF : F' = fun ds => runI F (startT N.length (.src :: ds.map .d)))
    (hb : ∀ (cdv : Value) (A : Around) (outer : List Env) (s : Shared) (H : Hp) (Ex : XK), Room k (A.deeper (envOfC qual (defScope st) s.heap.objs.size f cdv)) →
      ∃ t, PSs (cxOf CX0 P w K mg base N qual (defScope st) f cdv A outer s H Ex).nox (defBody st) t ∧ DSI im K C fs t F) :
    FnOk P w K mg base CX0 k' f fd ps (spI K im C n fs F') := by
  subst ek en eF
  refine Fn.ok Sc (fun vs H Q Ex h => h.1) fun cdv A outer s H vs Q Ex hr h => ?_
  obtain ⟨hl, x, dx, ws, ds, rfl, hx, r, h⟩ := h
  obtain ⟨t, ht, hd⟩ := hb cdv A outer s H Ex hr
  refine ⟨t, ht, ?_⟩
  have st : STT (iniG im C dx x [] (by decide)) K H H (start N (.ref x :: ws)) (startT N.length (.src :: ds.map .d)) := stt_start (by simp [r.length]) (fun i v c e1 e2 => by
    cases i with
    | zero => simp at e1 e2; subst e1 e2; exact .src
    | succ i =>
      simp only [List.getElem?_cons_succ] at e1 e2
      rw [List.getElem?_map] at e2
      cases q : ds[i]? with
      | none => rw [q] at e2; cases e2
      | some d =>
        rw [q] at e2; cases e2
        obtain ⟨v', e3, r'⟩ := r.get q
        rw [e1] at e3; cases e3
        exact .d r') (fun c hc _ xs e => by
    rcases List.mem_cons.mp hc with q | q
    · rw [q] at e; cases e
    · obtain ⟨d, _, rfl⟩ := List.mem_map.mp q
      cases e) _
  refine hd x dx H (start N (.ref x :: ws)) H _ st rfl hx _ ?_
  unfold runI at h
  dsimp only at h
  cases q : F (startT N.length (.src :: ds.map .d)) () with
  | none => rw [q] at h; exact h.elim
  | some es =>
    rw [q] at h
    exact fun us σ' H' kp hx' ru => h us H' kp hx' ru
end
section
variable {Ω : Type} {τ : Tau} {ω : Ω}
theorem wp_eFld {f : Str} {a : E Ω D} {P : D → Ω → Prop} {X} : (eFld f a τ ω).wp P X = (a τ ω).wp (fun d ω1 => ∃ fs ds, d = .ins fs ds ∧ (R.ofO ((fs.zip ds).lookup f) ω1).wp P X) X := by
  unfold eFld; rw [wp_bind]; congr; funext d ω1
  cases d with
  | ins fs ds => exact propext ⟨fun h => ⟨fs, ds, rfl, h⟩, fun ⟨_, _, e, h⟩ => by cases e; exact h⟩
  | _ => exact propext ⟨fun h => by with_unfolding_all exact h.elim, fun ⟨_, _, e, _⟩ => by cases e⟩
theorem wp_cM {m : Str} {F : List D → R Unit D} {o : E Ω D} {a : E Ω (List D)} {P : D → Ω → Prop} {X} : (cM m F o a τ ω).wp P X = (o τ ω).wp (fun d ω1 => ∃ fs ds, d = .ins fs ds ∧ (fs.zip ds).lookup m = none ∧ (a τ ω1).wp (fun xs ω2 => (F (.ins fs ds :: xs)).wp (fun d _ => P d ω2) X0) X) X := by
  unfold cM; rw [wp_bind]; congr; funext d ω1
  cases d with
  | ins fs ds =>
    dsimp only
    by_cases h : (fs.zip ds).lookup m = none
    · rw [if_pos h]; simp only [wp_bind, wp_nox, wp_lift]
      exact propext ⟨fun q => ⟨fs, ds, rfl, h, q⟩, fun ⟨_, _, e, _, q⟩ => by cases e; exact q⟩
    · rw [if_neg h]
      exact propext ⟨fun h => by with_unfolding_all exact h.elim, fun ⟨_, _, e, h2, _⟩ => by cases e; exact absurd h2 h⟩
  | _ => exact propext ⟨fun h => by with_unfolding_all exact h.elim, fun ⟨_, _, e, _⟩ => by cases e⟩
theorem wp_cI {fs : List Str} {F : List D → R Unit (List D)} {a : E Ω (List D)} {P : D → Ω → Prop} {X} : (cI fs F a τ ω).wp P X = (a τ ω).wp (fun xs ω1 => (F xs).wp (fun es _ => es.length = fs.length ∧ P (.ins fs es) ω1) X0) X := by
  unfold cI; rw [wp_bind]; congr; funext xs ω1
  cases F xs with
  | ok es u =>
    dsimp only
    rw [wp_ok]
    by_cases h : es.length = fs.length
    · rw [if_pos h, wp_ok]; exact propext ⟨fun p => ⟨h, p⟩, fun p => p.2⟩
    · rw [if_neg h]; exact propext ⟨fun h => by with_unfolding_all exact h.elim, fun p => absurd p.1 h⟩
  | _ => with_unfolding_all rfl
end
section
variable (K : PySem.W.Frag) (C : Addr)
structure MethOk (m qual : Str) (st : Stmt) (ps : List Str) where
  f : Addr
  fd : FuncData
  F : Fun K m qual st f fd
  b : Binds K fd ps []
  m : Meth K C m f
structure InitOk (qual : Str) (st : Stmt) (ps : List Str) where
  f : Addr
  fd : FuncData
  F : Fun K "__init__" qual st f fd
  b : Binds K fd ps []
  m : Mk K C f
end
theorem hcls {K : PySem.W.Frag} {im : Addr → Bool} {cP : Addr} {f : Str} (hi : ∀ a, im a = true ↔ a = cP) (c : Cls K cP) (n : NoAttr K cP f) : ∀ C, im C = true → Cls K C ∧ NoAttr K C f := by
  intro C h
  rw [hi] at h
  subst h
  exact ⟨c, n⟩
end DL
namespace DL
open PySem PySem.Spec PyProof.Rows L2
@[irreducible] def siP (o : Option (List D)) (P : List D → Prop) : Prop := match o with
  | some es => P es
  | none => False
theorem wp_runI {F : SI} {τ : Tau} {P : List D → Unit → Prop} {X} : (runI F τ).wp P X = siP (F τ ()) (fun es => P es ()) := by
  unfold runI; cases F τ () <;> with_unfolding_all rfl
theorem si_seq {a : S Unit} {b : SI} {τ : Tau} {P : List D → Prop} (h : sw (a τ ()) (fun f _ => ∃ τ1, f = .nx τ1 ∧ τ1[0]? = some (some .src) ∧ siP (b τ1 ()) P)) : siP (siSeq a b τ ()) P := by
  unfold siSeq
  cases e : a τ () with
  | none => rw [e, sw_none] at h; exact h.elim
  | some p =>
    obtain ⟨f, u⟩ := p
    rw [e, sw_some] at h
    obtain ⟨τ1, rfl, h1, h2⟩ := h
    dsimp only
    rw [h1]
    exact h2
theorem si_two {a b : E Unit D} {τ : Tau} {P : List D → Prop} (h : (a τ ()).wp (fun d _ => (b τ ()).wp (fun e _ => P [d, e]) X0) X0) : siP (siTwo a b τ ()) P := by
  unfold siTwo
  cases e : a τ () with
  | ok d u =>
    rw [e, wp_ok] at h
    dsimp only
    cases e2 : b τ u with
    | ok d2 u2 => rw [e2, wp_ok] at h; with_unfolding_all exact h
    | ex x u2 => rw [e2] at h; with_unfolding_all exact h.elim
    | no => rw [e2] at h; with_unfolding_all exact h.elim
  | ex x u => rw [e] at h; with_unfolding_all exact h.elim
  | no => rw [e] at h; with_unfolding_all exact h.elim
end DL
namespace DL
open PySem PySem.Spec PyProof.Rows L2
end DL
namespace DL
open PySem PySem.Spec PyProof.Rows L2
theorem merge_new : ∀ (kvs acc : List (Key × V)), ((acc ++ kvs).map (·.1)).Nodup → mergeK acc kvs = acc ++ kvs
  | [], acc, _ => by rw [List.append_nil]; rfl
  | (k, v) :: kvs, acc, h => by
    have hn : (acc.any fun kv => decide (kv.1 = k)) = false := by
      rw [List.any_eq_false]
      intro x hx e
      have e := of_decide_eq_true e
      rw [List.map_append, List.nodup_append] at h
      exact h.2.2 x.1 (List.mem_map.mpr ⟨x, hx, rfl⟩) k (by simp) e
    have e1 : putK acc k v = acc ++ [(k, v)] := by unfold putK; rw [hn]; rfl
    have e2 : acc ++ (k, v) :: kvs = (acc ++ [(k, v)]) ++ kvs := by simp
    show mergeK (putK acc k v) kvs = _
    rw [e1, e2]
    rw [e2] at h
    exact merge_new kvs (acc ++ [(k, v)]) h
section
variable {im : Addr → Bool} {Ω : Type} (G : Gam im Ω) (K : PySem.W.Frag) (W : WX)
def DPs (trs : List (TE × TE)) (ks : List Str) (F : E Ω (List D)) : Prop := ∀ H0 σ H ω τ, STT G K H0 H σ τ → G.At ω H → ∀ Q : List (V × V) → Hp → Prop,
  Res G (F τ ω) H (fun ds _ H' => ∀ vs, vs.length = ks.length → RepL K im H' vs ds → Q ((ks.zip vs).map fun p => (V.str p.1, p.2)) H') (kX G K W σ) → tPairs trs σ H Q
variable {G} {K} {W}
theorem dps_nil : DPs G K W [] [] aNil := by
  intro H0 σ H ω τ s t Q h
  exact h H .refl t [] rfl .nil
theorem dps_cons {k : Str} {te : TE} {Fe : E Ω D} {trs : List (TE × TE)} {ks : List Str} {Fr : E Ω (List D)} (he : DE G K W te Fe) (hr : DPs G K W trs ks Fr) : DPs G K W ((tC (.str k), te) :: trs) (k :: ks) (aCons Fe Fr) := by
  intro H0 σ H ω τ s t Q h
  show te σ H _
  refine he H0 σ H ω τ s t _ (Res.imp (Res.bind h) (fun d ω1 H1 k1 t1 h1 v r => ?_) fun _ _ _ _ _ q => q)
  refine hr H0 σ H1 ω1 τ (s.step t k1) t1 _ (Res.imp (Res.bind (h1.mono k1)) (fun ds ω2 H2 k2 t2 h2 vs hl r2 => ?_) fun _ _ _ _ _ q => q)
  exact h2 H2 k2 t2 (v :: vs) (by simp [hl]) (.cons (r.up (k2.sb t1)) r2)
def eDisp (ks : List Str) (F : E Ω (List D)) : E Ω D := fun τ ω => (F τ ω).bind fun ds ω1 => if ds.length = ks.length then .ok (.dic (ks.map Sum.inr) ds) ω1 else .no
theorem de_disp {trs : List (TE × TE)} {ks : List Str} {F : E Ω (List D)} (hk : ks.Nodup) (hl : ks.length ≤ 15) (h : DPs G K W trs ks F) : DE G K W (tFrzW (tDisp trs)) (eDisp ks F) := by
  intro H0 σ H ω τ s t Q hq p hp
  have nf : ¬ G.FP p := fun f => G.trk t p f hp
  have sm : Same H (upd H p (.dK [])) := Same.new hp
  refine h H0 σ _ ω τ (s.step t (.of sm)) (At.same t sm) _ (Res.imp (Res.mono (Res.bind hq) (.of sm)) (fun ds ω1 H1 k1 t1 h1 vs hvl r => ?_) fun _ _ _ _ _ q => q)
  have hp1 : H1 p = some (.dK []) := k1 p _ upd_same nf
  have hdl : ds.length = ks.length := by rw [← r.length]; exact hvl
  rw [if_pos hdl] at h1
  have hks : ((ks.map (Sum.inr : Str → Key)).zip vs).map (·.1) = ks.map Sum.inr := List.map_fst_zip (by rw [List.length_map, hvl]; exact Nat.le_refl _)
  have hm : mergeK [] ((ks.map (Sum.inr : Str → Key)).zip vs) = (ks.map (Sum.inr : Str → Key)).zip vs := by
    refine merge_new _ [] ?_
    rw [List.nil_append, hks]
    exact List.Pairwise.map _ (fun a b hab e => hab (Sum.inr.inj e)) hk
  refine ⟨hp1, (ks.map (Sum.inr : Str → Key)).zip vs, ?_, by rw [List.length_zip, List.length_map]; omega, p, _, rfl, upd_same, trivial, fun o => ?_⟩
  · rw [List.zip_map_left, List.map_map]; rfl
  · rw [hm, upd_upd]
    have sb : Sb im H1 (upd H1 p (.frz o (.dK ((ks.map (Sum.inr : Str → Key)).zip vs)))) := fun b u eb st => by
      have : b ≠ p := fun q => by subst q; rw [hp1] at eb; cases eb; exact st
      rw [upd_ne this]; exact eb
    refine h1 _ (fun b u eb nfb => ?_) (G.keep t1 (fun b u f eb => ?_) sb) _ (.dic upd_same (by rw [List.length_map, hvl]) (r.up sb))
    · have : b ≠ p := fun q => by subst q; rw [hp] at eb; cases eb
      rw [upd_ne this]; exact k1 b u (sm b u eb) nfb
    · have : b ≠ p := fun q => nf (q ▸ f)
      rw [upd_ne this]; exact eb
end
section
variable {Ω : Type} {τ : Tau} {ω : Ω}
theorem wp_eDisp {ks : List Str} {F : E Ω (List D)} {P : D → Ω → Prop} {X} : (eDisp ks F τ ω).wp P X = (F τ ω).wp (fun ds ω1 => ds.length = ks.length ∧ P (.dic (ks.map Sum.inr) ds) ω1) X := by
  unfold eDisp; rw [wp_bind]; congr; funext ds ω1
  by_cases h : ds.length = ks.length
  · rw [if_pos h, wp_ok]; exact propext ⟨fun p => ⟨h, p⟩, fun p => p.2⟩
  · rw [if_neg h]; exact propext ⟨fun h => by with_unfolding_all exact h.elim, fun p => absurd p.1 h⟩
end
end DL
namespace DL
open PySem PySem.Spec PyProof.Rows L2
def inTD (d e : D) : Option D := match d.py, e.py with
  | some p, some (.tuple qs) => if (PyData.tuple qs).layable0 = true ∧ p.layable0 = true ∧ (qs.all fun y => SeqAt.noMix y p) = true then some (.bl (decide (Spec.countIn p qs ≠ 0))) else none
  | _, _ => none
section
variable {X : Cx} {im : Addr → Bool}
theorem op_inTD (hu : X.A.units + 200 < cLine) : OpR X (compareOp .In) (rD2 X.K im inTD) := by
  intro pins s σ H x y v u Q I rx ry h
  obtain ⟨d, e, z, hd, he, hz, q⟩ := h
  unfold inTD at hz
  split at hz
  · rename_i p qs e1 e2
    split at hz
    · rename_i c
      cases hz
      obtain ⟨as, r1⟩ := Dp.reads I p x v (Rep.dp _ _ _ hd e1) rx
      obtain ⟨bs, r2⟩ := Dp.reads I (.tuple qs) y u (Rep.dp _ _ _ he e2) ry
      exact in_tuple_dataS r2 r1 c.1 c.2.1 (by omega) (fun y hy => (List.all_eq_true.mp c.2.2) y hy) ⟨.bl _, H, I, rfl, q _ _ (Same.refl _) (.bl _)⟩
    · cases hz
  · cases hz
end
end DL
namespace DL
open PySem PySem.Spec PyProof.Rows L2
def ninTD (d e : D) : Option D := match d.py, e.py with
  | some p, some (.tuple qs) => if (PyData.tuple qs).layable0 = true ∧ p.layable0 = true ∧ (qs.all fun y => SeqAt.noMix y p) = true then some (.bl (!decide (Spec.countIn p qs ≠ 0))) else none
  | _, _ => none
section
variable {X : Cx} {im : Addr → Bool}
theorem op_ninTD (hu : X.A.units + 200 < cLine) : OpR X (compareOp .NotIn) (rD2 X.K im ninTD) := by
  intro pins s σ H x y v u Q I rx ry h
  obtain ⟨d, e, z, hd, he, hz, q⟩ := h
  unfold ninTD at hz
  split at hz
  · rename_i p qs e1 e2
    split at hz
    · rename_i c
      cases hz
      obtain ⟨as, r1⟩ := Dp.reads I p x v (Rep.dp _ _ _ hd e1) rx
      obtain ⟨bs, r2⟩ := Dp.reads I (.tuple qs) y u (Rep.dp _ _ _ he e2) ry
      exact notIn_tuple_dataS r2 r1 c.1 c.2.1 (by omega) (fun y hy => (List.all_eq_true.mp c.2.2) y hy) ⟨.bl _, H, I, rfl, q _ _ (Same.refl _) (.bl _)⟩
    · cases hz
  · cases hz
end
end DL
namespace DL
open PySem PySem.Spec PyProof.Rows L2
end DL
namespace DL
open PySem PySem.Spec PyProof.Rows L2
def powD : D → D → Option D
  | .int i, .int j => if 0 ≤ j ∧ j ≤ 1000000 ∧ i.natAbs < 2 ^ 64 then some (.int (i ^ j.toNat)) else none
  | _, _ => none
section
variable {X : Cx} {im : Addr → Bool}
theorem op_powD : OpR X (binaryOp .Pow) (rD2 X.K im powD) := by
  intro pins s σ H x y v u Q I rx ry h
  obtain ⟨d, e, z, hd, he, hz, q⟩ := h
  cases hd <;> cases he <;> simp only [powD] at hz <;> first | (cases hz; done) | skip
  split at hz
  · rename_i hc
    cases hz
    exact op_pow pins s σ H _ _ v u Q I rx ry ⟨_, _, rfl, rfl, hc, q _ _ (Same.refl _) (.int _)⟩
  · cases hz
end
end DL
namespace DL
open PySem PySem.Spec PyProof.Rows L2
end DL
namespace DL
open PySem PySem.Spec PyProof.Rows L2
end DL
namespace DL
open PySem PySem.Spec PyProof.Rows L2
end DL
namespace DL
open PySem PySem.Spec PyProof.Rows L2
section
variable {im : Addr → Bool} {Ω : Type} {G : Gam im Ω} {K : PySem.W.Frag} {W : WX}
theorem de_di0 : DE G K W (tFrzW tDNewK) (eC (.dic [] [])) := by
  intro H0 σ H ω τ s t Q hq p hp
  refine ⟨p, _, rfl, upd_same, trivial, fun o => ?_⟩
  rw [upd_upd]
  have sb : Sb im H (upd H p (.frz o (.dK []))) := fun b u eb st => by
    have : b ≠ p := fun q => by subst q; rw [hp] at eb; cases eb
    rw [upd_ne this]; exact eb
  refine hq _ (fun b u eb nfb => ?_) (G.keep t (fun b u f eb => ?_) sb) _ (.dic (o := o) (ks := []) (vs := []) upd_same rfl .nil)
  · have : b ≠ p := fun q => by subst q; rw [hp] at eb; cases eb
    rw [upd_ne this]; exact eb
  · have : b ≠ p := fun q => by subst q; rw [hp] at eb; cases eb
    rw [upd_ne this]; exact eb
end
end DL
namespace DL
open PySem PySem.Spec PyProof.Rows L2
end DL
namespace DL
open PySem PySem.Spec PyProof.Rows L2
theorem adj_rev (n : Nat) : Builtin.Slice.sliceAdjust none none (-1) (n : Int) = ((n : Int) - 1, -1) := rfl
theorem plc_rev (n : Nat) : Builtin.Slice.slicePlaces ((n : Int) - 1) (-1) (-1) = n := by
  unfold Builtin.Slice.slicePlaces
  rw [if_neg (show ¬ (-1 : Int) > 0 by decide)]
  by_cases hn : n = 0
  · subst hn; rfl
  · rw [if_pos (by omega)]
    have e : (((n : Int) - 1 - -1 - 1) / (- -1) + 1) = n := by
      rw [show (- -1 : Int) = 1 from rfl, Int.ediv_one]; omega
    rw [e]; omega
theorem fm_congr {α β : Type} {f g : α → Option β} : ∀ {l : List α}, (∀ x ∈ l, f x = g x) → l.filterMap f = l.filterMap g
  | [], _ => rfl
  | x :: l, h => by
    rw [List.filterMap_cons, List.filterMap_cons, h x (List.mem_cons_self ..), fm_congr fun y hy => h y (List.mem_cons_of_mem _ hy)]
theorem pick_rev (xs : List Value) : ((List.range xs.length).filterMap fun (m : Nat) => xs.toArray[((xs.length : Int) - 1 + (m : Int) * -1).toNat]?) = xs.reverse := by
  have e : ∀ m ∈ List.range xs.length, xs.toArray[((xs.length : Int) - 1 + (m : Int) * -1).toNat]? = xs.reverse[m]? := fun m hm => by
    have hm := List.mem_range.mp hm
    rw [List.getElem?_reverse hm, List.getElem?_toArray]
    congr 1
    omega
  rw [fm_congr e]
  have h : ∀ (l : List Value), (List.range l.length).filterMap (fun m => l[m]?) = l := by
    intro l
    apply List.ext_getElem?
    intro i
    have q : (List.range l.length).filterMap (fun m => l[m]?) = (List.range l.length).map (fun m => l.getD m .none) := by
      rw [← List.filterMap_eq_map]
      refine fm_congr fun m hm => ?_
      have hm := List.mem_range.mp hm
      simp [List.getD, List.getElem?_eq_getElem hm]
    rw [q, List.getElem?_map]
    by_cases hi : i < l.length
    · rw [List.getElem?_range hi, List.getElem?_eq_getElem hi]
      simp [List.getD, List.getElem?_eq_getElem hi]
    · rw [List.getElem?_eq_none (by simpa using hi), List.getElem?_eq_none (by simpa using hi)]; rfl
  have := h xs.reverse
  rw [List.length_reverse] at this
  exact this
section
variable {prog : Program} {w : World} {A : Around} {E : Value → Shared → Prop} {s : Shared}
theorem apl_rev {sl : Addr} {t : Tok} {n : Nat} {Q : Int × Int × Nat → Shared → Prop} (hf : s.heap.IsSliceOf sl .none .none (.int (-1) t)) (h : Q ((n : Int) - 1, -1, n) s) :
    wpAny (model prog w) A (Builtin.Slice.sliceApplied (.ref sl) (pure (n : Int))) Q E s := by
  obtain ⟨o1, k1, k2, k3⟩ := hf
  unfold Builtin.Slice.sliceApplied Builtin.Slice.sliceFields
  refine wpAny_bind (wpAny_bind (wpAny_field k1 k3 (x := Value.none) rfl (wpAny_bind (wpAny_field k1 k3 (x := Value.none) rfl (wpAny_bind (wpAny_field k1 k3 (x := Value.int (-1) t) rfl (wpAny_pure ?_)))))))
  refine wpAny_bind (slicePart_int ?_)
  show wpAny _ _ (if ((-1 : Int) == 0) = true then _ else _) _ _ s
  rw [if_neg (show ¬ ((-1 : Int) == 0) = true by decide)]
  refine wpAny_bind (slicePart_none (wpAny_bind (slicePart_none (wpAny_bind (wpAny_pure ?_)))))
  show wpAny _ _ (match Builtin.Slice.sliceAdjust none none (-1) (n : Int) with | (lo, hi) => pure (lo, (-1 : Int), Builtin.Slice.slicePlaces lo hi (-1))) _ _ s
  rw [adj_rev]
  show wpAny _ _ (pure ((n : Int) - 1, (-1 : Int), Builtin.Slice.slicePlaces ((n : Int) - 1) (-1) (-1))) _ _ s
  rw [plc_rev]
  exact wpAny_pure h
theorem get_rev {a sl : Addr} {xs : List Value} {t : Tok} {Q : Value → Shared → Prop} (tp : IsTup s.heap a xs.toArray) (hf : s.heap.IsSliceOf sl .none .none (.int (-1) t))
    (h : Q (.ref s.heap.objs.size) { s with heap := s.heap.push { cls := .type "tuple", data := .seq xs.reverse.toArray } }) (hz : xs.length ≤ sizeLine) : wpAny (model prog w) A (getItem (.ref a) (.ref sl)) Q E s := by
  have ok : sizeOk (.seq xs.reverse.toArray) := by
    show xs.reverse.toArray.size ≤ sizeLine
    rw [List.size_toArray, List.length_reverse]; exact hz
  have ty : s.TypeIs (.ref sl) "slice" := let ⟨o1, k1, k2, _⟩ := hf; ⟨o1, k1, k2⟩
  unfold getItem
  try with_reducible refine wpAny_holding ?_
  first | (refine wpAny_bind (wpAny_pure ?_)) | skip
  refine wpAny_bind (wpAny_sequenceKey (IsTup.typeIs tp) (by decide) ?_)
  refine wpAny_bind (wpAny_callSpecial?_slot (name := Str.ofString "__getitem__") (IsTup.typeIs tp) PyProof.Rows.slot_tuple_getitem (wpAny_call_entry PyProof.Rows.slot_tuple_getitem (IsTup.typeIs tp) entry_tuple_getitem ?_ (args_tuple_getitem _ _)))
  show wpAny _ _ (Builtin.Tuple.tupleItemsOf (.ref a) >>= _) _ _ s
  refine wpAny_bind (tupleItemsOf_ tp (wpAny_bind (wpAny_typeOf ty ?_)))
  rw [if_pos (show _ by decide)]
  refine wpAny_bind (apl_rev (n := xs.length) hf ?_)
  have hno : ¬ (((xs.length : Int) - 1 == 0 && (-1 : Int) == 1 && xs.length == xs.toArray.size) = true) := by
    rw [show ((-1 : Int) == 1) = false from rfl, Bool.and_false, Bool.false_and]; exact Bool.false_ne_true
  show wpAny _ _ (if ((xs.length : Int) - 1 == 0 && (-1 : Int) == 1 && xs.length == xs.toArray.size) = true then _ else _) _ _ s
  rw [if_neg hno, pick_rev]
  first
    | exact wpAny_bind (m := Builtin.Tuple.tupleExact _) (wpAny_newObj_type (wpAny_pure ⟨_, rfl, wpAny_pure h⟩) ok)
    | exact wpAny_bind (m := Builtin.Tuple.tupleExact _) (wpAny_newObj_type (wpAny_bind (wpAny_pure (wpAny_pure ⟨_, rfl, wpAny_pure h⟩))) ok)
end
def tRevT (K : PySem.W.Frag) (te : TE) : TE := fun σ H Q => te σ H fun x H1 => ∃ a xs, x = .ref a ∧ SqT K H1 a xs ∧ ∀ p, H1 p = none → Q (.ref p) (upd H1 p (.tup xs.reverse))
section
variable {X : Cx} {e : Expr} {te : TE} {k : Nat} {p1 p2 p3 pos : Pos}
theorem pe_revT (he : PE X e te) : PE X (e.Subscript (Expr.Slice none none (some (Expr.UnaryOp UnaryOp.USub (Expr.Constant (Const.int 1) k p1) p2)) p3) pos) (tRevT X.K te) := by
  refine ⟨fun pins s σ H Q I h => ?_⟩
  refine PyProof.Rows.Subscript_ (thn (he.run pins s σ H _ I h) ?_)
  rintro v s1 ⟨x, H1, I1, r1, a, xs, rfl, hx, q⟩
  cases r1
  have hst : PO X (some (Expr.UnaryOp UnaryOp.USub (Expr.Constant (Const.int 1) k p1) p2)) _ := po_some (pe_un un_neg pe_int)
  refine wpAny_Slice (thn (po_none.run pins s1 σ H1 (fun o H3 => o = none ∧ H3 = H1) I1 ⟨rfl, rfl⟩) ?_)
  rintro vl s2 ⟨l, H2, I2, pl, rfl, rfl⟩
  refine thn (po_none.run pins s2 σ H2 (fun o H3 => o = none ∧ H3 = H2) I2 ⟨rfl, rfl⟩) ?_
  rintro vu s3 ⟨u, H3, I3, pu, rfl, rfl⟩
  refine thn (hst.run pins s3 σ H3 (fun o H4 => o = some (-1) ∧ H4 = H3) I3 ⟨1, rfl, -1, rfl, rfl, rfl⟩) ?_
  rintro vs s4 ⟨o, H4, I4, ps, rfl, rfl⟩
  cases pl
  cases pu
  cases ps with
  | int _ t =>
    have I5 := Inv.kept (t' := s4.toks) I4 fun b ob q => Heap.get?_push_of_some { cls := Value.type "slice", data := Data.fields #[Value.none, Value.none, Value.int (-1) t] } q
    obtain ⟨its, r, tp, hz⟩ := Inv.tuple I5 hx
    have hlen := Vals.length r
    refine PyProof.Rows.tail_any (IsTup.typeIs tp) PyProof.Rows.slot_tuple_getitem.lookup ?_ rfl
    refine get_rev tp (Heap.IsSliceOf.new s4.1 Value.none Value.none (Value.int (-1) t)) ?_ (by rw [← hlen]; exact hz)
    refine ⟨.ref _, upd H4 _ (.tup xs.reverse), Inv.laid I5 (fun b ob q => Heap.get?_push_of_some _ q) (Nat.le_refl _) ⟨by rw [List.length_reverse]; exact hz, its.reverse, r.reverse, IsTup.new _ _⟩, rfl, q _ (HOk.fresh I5.hok (Nat.le_refl _))⟩
end
def eRevT {Ω : Type} (a : E Ω D) : E Ω D := fun τ ω => (a τ ω).bind fun x ω1 => match x with
  | .tup ds => .ok (.tup ds.reverse) ω1
  | _ => .no
section
variable {im : Addr → Bool} {Ω : Type} {G : Gam im Ω} {K : PySem.W.Frag} {W : WX} {te : TE} {Fe : E Ω D}
theorem de_revT (he : DE G K W te Fe) : DE G K W (tRevT K te) (eRevT Fe) := by
  intro H0 σ H ω τ s t Q h
  refine he H0 σ H ω τ s t _ (Res.imp (Res.bind h) (fun x ω1 H1 k1 t1 h1 v r => ?_) fun _ _ _ _ _ q => q)
  have h3 := h1.mono k1
  cases r with
  | @tup a vs ds h4 h5 =>
    refine ⟨a, vs, rfl, h4, fun p hp => ?_⟩
    have sm : Same H1 (upd H1 p (.tup vs.reverse)) := Same.new hp
    exact h3 _ (.of sm) (At.same t1 sm) _ (.tup upd_same (h5.reverse.up (.of sm)))
  | _ => exact h3.elim
theorem wp_eRevT {τ : Tau} {ω : Ω} {P : D → Ω → Prop} {X} : (eRevT Fe τ ω).wp P X = (Fe τ ω).wp (fun x ω1 => ∃ ds, x = .tup ds ∧ P (.tup ds.reverse) ω1) X := by
  unfold eRevT; rw [wp_bind]; congr; funext x ω1
  cases x with
  | tup ds => dsimp only; rw [wp_ok]; exact propext ⟨fun p => ⟨ds, rfl, p⟩, fun ⟨_, e, p⟩ => by cases e; exact p⟩
  | _ => exact propext ⟨fun h => by with_unfolding_all exact h.elim, fun ⟨_, e, _⟩ => by cases e⟩
end
end DL
namespace DL
open PySem PySem.Spec PyProof.Rows L2
end DL
namespace DL
open PySem PySem.Spec PyProof.Rows L2
structure TyP (K : PySem.W.Frag) (C : Addr) : Prop where
  ca : PySem.W.findIn K (.ref C) "__class__" = some (some (.builtin "object.__class__"))
  cn : PySem.W.specialIn K (.builtin "object.__class__") "__get__" = some (some (.builtin "getset_descriptor.__get__"))
  ct : PySem.W.takesIn K (.builtin "object.__class__") = some true
  cm : PySem.W.mroIn K C (.type "object") = some true
  ki : PySem.W.mroIn K C (.type "int") = some false
  kb : PySem.W.mroIn K C (.type "bool") = some false
section
variable {im : Addr → Bool} {Ω : Type} {G : Gam im Ω} {K : PySem.W.Frag} {W : WX} {te : TE} {Fe : E Ω D}
theorem hclsT {cP : Addr} (hi : ∀ a, im a = true ↔ a = cP) (c : Cls K cP) (n : TyP K cP) : ∀ C, im C = true → Cls K C ∧ TyP K C := by
  intro C h
  obtain rfl := (hi C).mp h
  exact ⟨c, n⟩
end
end DL
namespace DL
open PySem PySem.Spec PyProof.Rows L2
end DL
namespace DL
open PySem PySem.Spec PyProof.Rows L2
end DL
namespace DL
open PySem PySem.Spec PyProof.Rows L2
section
variable {prog : Program} {w : World} {M : Model} {A : Around} {E : Value → Shared → Prop} {s : Shared} {K : PySem.W.Frag} {x C f L : Addr} {h₀ : Heap} {m : Str → Option Value} {ox : Obj} {od : Option Obj} {name : Str} {b tb : Value}
theorem ifBound_Kb {id B : String} {args : List Value} {Q : Option Value → Shared → Prop} (X : K.In s.heap) (I : PySem.W.InstAt s.heap x ox C od) (hs : PySem.W.findIn K (.ref C) name = some (some (.builtin id))) (S : Slot B name id)
    (h : wpAny M A (call (.builtin id) (.ref x :: args)) (fun v => Q (some v)) E s) : wpAny M A (callSpecialIfBound? (.ref x) name args) Q E s := by
  simp only [callSpecialIfBound?, bindSpecialIfBound?]
  refine wpAny_holding (wpAny_bind (wpAny_bind (wpAny_bind (I.type.here ((PySem.W.looks_findIn X hs).here ?_)))))
  simp only [S.bind]
  refine wpAny_bind (wpAny_askSetting (wpAny_ite ?_))
  have fin : wpAny M A (call (.builtin id) ([.ref x] ++ args) >>= fun v => pure (some v)) Q E s := wpAny_bind (wpAny_mono h (fun v s' h' => wpAny_pure h') fun _ _ h' => h')
  split
  · exact wpAny_bind (wpAny_pure (wpAny_pure fin))
  · exact wpAny_tryCatch (wpAny_bind (wpAny_pure (wpAny_pure fin)))
theorem check_Kb {id owner n : String} {rest : List Value} {Q : Unit → Shared → Prop} (hk : builtinKind id = some .slot) (hs : splitId id = some (owner, n)) (ha : argsOk id ⟨.ref x :: rest, []⟩)
    (X : K.In s.heap) (I : PySem.W.InstAt s.heap x ox C od) (hm : PySem.W.mroIn K C (.type owner) = some true) (hq : Q () s) : wpAny M A (checkBuiltinCall id ⟨.ref x :: rest, []⟩) Q E s := by
  simp only [checkBuiltinCall, hk, hs]
  refine wpAny_bind ?_
  unfold isInstance
  refine wpAny_bind (I.type.here ((PySem.W.looks_mroIn X hm).here ?_))
  simp only [if_true, Bool.not_true, Bool.false_eq_true, if_false]
  cases hsig : Manifest.signature? id with
  | none => exact wpAny_pure hq
  | some sig =>
    simp only [argsOk, hsig] at ha
    have h2 : Bind.checkArgs id sig ⟨.ref x :: rest, []⟩ = pure () := ha
    show wpAny M A (Bind.checkArgs id sig ⟨.ref x :: rest, []⟩) Q E _
    rw [h2]; exact wpAny_pure hq
theorem ne_own {Q : Value → Shared → Prop} (hu : A.units + 1 < cLine) (X : K.In s.heap) (I : PySem.W.InstAt s.heap x ox C od) (hb : PySem.W.Looks (model prog w) s.heap (typeOf b) tb) (hn : PySem.W.notFirst K C tb = true)
    (hs : PySem.W.findIn K (.ref C) "__eq__" = some (some (.ref f))) (hf : PySem.W.isFn K (.ref f) = true) (hz : PySem.W.findIn K (.ref C) "__ne__" = some (some (.builtin "object.__ne__"))) (hm : PySem.W.mroIn K C (.type "object") = some true)
    (h : wpAny (model prog w) A.in1 (call (.ref f) [.ref x, b]) (fun v s' => ∃ r, v = .bool r ∧ Q (.bool (!r)) s') E s) : wpAny (model prog w) A (richCompare .NotEq (.ref x) b) Q E s := by

  have body : wpAny (model prog w) A.in1 (Builtin.«object.__ne__» ⟨[.ref x, b], []⟩) (fun fin s' => ∃ r, fin = .done (.ret (.bool (!r))) ∧ Q (.bool (!r)) s') E s := by
    unfold Builtin.«object.__ne__»
    have hu' : A.in1.units < cLine := hu
    repeat (first
      | with_reducible refine wpAny_cRoomFor hu' ?_
      | (refine wpAny_bind (m := callSpecialIfBound? (.ref x) (Str.ofString "__eq__") [b])
          (PySem.W.ifBound_K X I hs hf (wpAny_mono h (fun r s' hr => by
            obtain ⟨b', rfl, hq⟩ := hr
            repeat (first | exact ⟨_, rfl, hq⟩ | exact wpAny_pure ⟨_, rfl, hq⟩ | exact wpAny_truthy_bool hq | (refine wpAny_bind (m := truthy (.bool _)) (wpAny_truthy_bool ?_)) | wp_step)) fun _ _ e => e)))
      | wp_step)
  have one : wpAny (model prog w) A (tryCompare (.ref x) "__ne__" b) (fun r s' => ∃ v, r = some v ∧ Q v s') E s := by
    unfold tryCompare
    refine wpAny_bind (ifBound_Kb X I hz F.cmp_object.ne (wpAny_call (codeAny_call_builtin F.cmp_object.ne.plain F.cmpEntry_ne (check_Kb F.cmpKind_ne F.cmpSplit_ne (F.cmpArgs_ne _ _) X I hm (wpAny_mono body (fun v s' hv => ?_) fun _ _ e => e)))))
    obtain ⟨r, rfl, hq⟩ := hv
    exact wpAny_pure ⟨_, rfl, hq⟩
  unfold richCompare
  simp only [oneThing_ref]
  refine wpAny_holding (wpAny_bind (wpAny_cRoomFor (by omega) ?_))
  refine wpAny_bind (I.type.here (wpAny_bind (hb.here ?_)))
  split
  · rename_i q
    have e : PySem.W.subIn K tb (.ref C) = some false := by
      rcases Bool.or_eq_true_iff.mp hn with e | e
      · rw [beq_iff_eq.mp e] at q; simp at q
      · exact beq_iff_eq.mp e
    refine wpAny_bind ((PySem.W.looks_subIn X e).here ?_)
    simp only [Bool.false_eq_true, if_false]
    refine wpAny_bind (wpAny_mono one (fun r s' z => ?_) fun _ _ e => e)
    obtain ⟨v, rfl, hq⟩ := z
    exact wpAny_pure hq
  · refine wpAny_bind (wpAny_pure ?_)
    simp only [Bool.false_eq_true, if_false]
    refine wpAny_bind (wpAny_mono one (fun r s' z => ?_) fun _ _ e => e)
    obtain ⟨v, rfl, hq⟩ := z
    exact wpAny_pure hq
end
/-- by the class's own ==, for its instances -/
structure EqP (K : PySem.W.Frag) (C : Addr) (f : Addr) : Prop where
  eq : PySem.W.findIn K (.ref C) "__eq__" = some (some (.ref f))
  fn : PySem.W.isFn K (.ref f) = true
  ne : PySem.W.findIn K (.ref C) "__ne__" = some (some (.builtin "object.__ne__"))
  ob : PySem.W.mroIn K C (.type "object") = some true
def rOwnC (K : PySem.W.Frag) (im : Addr → Bool) (F : List D → R Unit D) (neg : Bool) : R2 := fun x y H Q =>
  ∃ (a C dx : Addr) (fs : List (Str × V)) (t : Value), x = .ref a ∧ H a = some (.ins C dx fs) ∧ im C = true ∧ TyX K H y t ∧ PySem.W.notFirst K C t = true ∧
    spD K im 2 F [x, y] H (fun v H' => ∃ b : Bool, v = .bl b ∧ Q (.bl (if neg then !b else b)) H') E0
section
variable {X : Cx} {n : Nat} {im : Addr → Bool} {cP f : Addr} {fd : FuncData} {ps : List Str} {F : List D → R Unit D}
theorem op_ownNe (hi : ∀ a, im a = true → a = cP) (q : EqP X.K cP f) (Fo : FnOk X.prog X.w X.K X.mg X.base CX0 n f fd ps (spD X.K im 2 F)) (hb : Binds X.K fd ps []) (hr : Room (n + 1) X.A) : OpR X (compareOp .NotEq) (rOwnC X.K im F true) := by
  intro pins s σ H x y v u Q I rx ry h
  obtain ⟨a, C, dx, fs, t, rfl, ha, hc, ty, hn, hsp⟩ := h
  obtain rfl := hi C hc
  cases rx
  show wpAny (model X.prog X.w) X.A (richCompare .NotEq (.ref a) u) (EP X pins σ Q) X.xe s
  obtain ⟨mA, J, _⟩ := ins_get I.hok ha
  obtain ⟨od, J, _⟩ := J.look
  obtain ⟨P, kx, hP, _⟩ := kit_of I ry ty
  refine ne_own (by have := hr.in1.units0; exact this) I.kIn J (kx.ty _ _ I.kIn hP) hn q.eq q.fn q.ne q.ob ?_
  have e0 : Env0 X.prog X.w X.K X.mg X.base X.A.in1 X.stack s H := by
    have e := I.env0
    exact ⟨e.frames, e.mod, e.bs, e.bsz, e.funs, e.frf, e.hok, e.bare⟩
  have hl := Fo.len _ _ _ _ hsp
  have r2 : Vals [V.ref a, y] [Value.ref a, u] := .cons rfl (.cons ry .nil)
  refine wpAny_call (codeAny_mono (Fo.run X.A.in1 X.stack s H ⟨[.ref a, u], []⟩ [.ref a, u] [.ref a, y] _ E0 hr.in1 e0 (by
    have := hb s [.ref a, u] I.kIn (by simpa using hl)
    simpa using this) r2 hsp) fun r s' hq => ?_)
  cases r with
  | error e => exact (show False from hq).elim
  | ok fl =>
    cases fl with
    | ret w =>
      obtain ⟨z, H', I', rz, b, ez, ex⟩ := I.after hq
      subst ez
      cases rz
      exact ⟨b, rfl, .bl (!b), H', I', rfl, ex⟩
    | next => exact False.elim hq
    | brk => exact False.elim hq
    | cont => exact False.elim hq
theorem op_ownEq (hi : ∀ a, im a = true → a = cP) (q : EqP X.K cP f) (Fo : FnOk X.prog X.w X.K X.mg X.base CX0 n f fd ps (spD X.K im 2 F)) (hb : Binds X.K fd ps []) (hr : Room n X.A) : OpR X (compareOp .Eq) (rOwnC X.K im F false) := by
  intro pins s σ H x y v u Q I rx ry h
  obtain ⟨a, C, dx, fs, t, rfl, ha, hc, ty, hn, hsp⟩ := h
  obtain rfl := hi C hc
  cases rx
  show wpAny (model X.prog X.w) X.A (richCompare .Eq (.ref a) u) (EP X pins σ Q) X.xe s
  obtain ⟨mA, J, _⟩ := ins_get I.hok ha
  obtain ⟨od, J, _⟩ := J.look
  obtain ⟨P, kx, hP, _⟩ := kit_of I ry ty
  obtain ⟨m, hF⟩ := I.fr
  refine PySem.W.cmp_K (op := .Eq) hr.units0 hF I.ok.mod.kin J (kx.ty _ _ I.kIn hP) hn q.eq q.fn ?_
  have e0 := I.env0
  have hl := Fo.len _ _ _ _ hsp
  have r2 : Vals [V.ref a, y] [Value.ref a, u] := .cons rfl (.cons ry .nil)
  refine wpAny_call (codeAny_mono (Fo.run X.A X.stack s H ⟨[.ref a, u], []⟩ [.ref a, u] [.ref a, y] _ E0 hr e0 (by
    have := hb s [.ref a, u] I.kIn (by simpa using hl)
    simpa using this) r2 hsp) fun r s' hq => ?_)
  cases r with
  | error e => exact (show False from hq).elim
  | ok fl =>
    cases fl with
    | ret w =>
      obtain ⟨z, H', I', rz, b, ez, ex⟩ := I.after hq
      subst ez
      cases rz
      exact ⟨.bl b, H', I', rfl, ex⟩
    | next => exact False.elim hq
    | brk => exact False.elim hq
    | cont => exact False.elim hq
end
section
open PySem.SeqAt
open AutoSeq1 (wpAny_loadPart')
open MeetsSeq MeetsSeq2 MeetsSeq3
theorem sub_tuple_dict : isSubtype (.type "tuple") (.type "dict") = pure false := by rw [isSubtype_type]; kernel_rfl
theorem sub_dict_tuple : isSubtype (.type "dict") (.type "tuple") = pure false := by rw [isSubtype_type]; kernel_rfl
theorem dict_ne_declines_tuple (l b : Addr) (es : Array DictEntry) (ep : Nat) (items2 : Array Value) (n2 : Nat) (dd dd2 : Option Addr) (sl sl2 : Array (Option Value)) :
    Meets (Builtin.«dict.__ne__» ⟨[.ref l, .ref b], []⟩) (fun _ R s => s.heap.get? l = some { cls := .type "dict", dict := dd, data := .dict es ep, slots := sl } ∧ s.heap.get? b = some { cls := .type "tuple", dict := dd2, data := .seq items2 n2, slots := sl2 } ∧ R (.ok (.ret .notImplemented)) s) :=
  .of_wp fun prog w A R s h => by obtain ⟨hp, g, d, tk, os⟩ := s; obtain ⟨hl, hb, h⟩ := h; have f1 := sub_tuple_dict; wp_walk using wpAny_loadPart' hl, wpAny_loadPart' hb; exact ⟨_, rfl, h⟩
theorem tuple_ne_declines_dict (l b : Addr) (es : Array DictEntry) (ep : Nat) (items2 : Array Value) (n2 : Nat) (dd dd2 : Option Addr) (sl sl2 : Array (Option Value)) :
    Meets (Builtin.«tuple.__ne__» ⟨[.ref b, .ref l], []⟩) (fun _ R s => s.heap.get? b = some { cls := .type "tuple", dict := dd2, data := .seq items2 n2, slots := sl2 } ∧ s.heap.get? l = some { cls := .type "dict", dict := dd, data := .dict es ep, slots := sl } ∧ R (.ok (.ret .notImplemented)) s) :=
  .of_wp fun prog w A R s h => by obtain ⟨hp, g, d, tk, os⟩ := s; obtain ⟨hl, hb, h⟩ := h; have f1 := sub_dict_tuple; wp_walk using wpAny_loadPart' hl, wpAny_loadPart' hb; exact ⟨_, rfl, h⟩
theorem ne_dict_tuple {A : Around} {s : Shared} {l b : Addr} {ol : Obj} {es : Array DictEntry} {ep : Nat} {items : Array Value} (hl : s.heap.get? l = some ol) (hc : ol.cls = .type "dict") (hd : ol.data = .dict es ep) (hb : s.heap.IsTuple b items) (hu : A.units < cLine) : RcNeAt A s (.ref l) (.ref b) true := fun prog w E Q h => by
  obtain ⟨cls, dd, data, sl⟩ := ol
  obtain ⟨⟨cls2, dd2, data2, sl2⟩, ho2, hc2, n2, hd2⟩ := id hb
  simp only at hc hd hc2 hd2
  subst hc hd hc2 hd2
  have hne : l ≠ b := fun e => by
    subst e
    have z := congrArg Obj.cls (Option.some.inj (hl.symm.trans ho2))
    exact absurd (show Value.type "dict" = Value.type "tuple" from z) (by decide)
  exact (rc_ne_decline_or (k := false) ⟨_, hl, rfl⟩ ⟨_, ho2, rfl⟩ (by decide) sub_tuple_dict F.slot_dict_ne F.slot_tuple_ne_refl
    (fun _ hq => call_meets F.slot_dict_ne ⟨_, hl, rfl⟩ F.entry_dict_ne (F.args_dict_ne_2 _ _) (dict_ne_declines_tuple l b es ep items n2 dd dd2 sl sl2) ⟨hl, ho2, hq⟩)
    (fun _ hq => call_meets F.slot_tuple_ne_refl ⟨_, ho2, rfl⟩ F.entry_tuple_ne (F.args_tuple_ne_2 _ _) (tuple_ne_declines_dict l b es ep items n2 dd dd2 sl sl2) ⟨ho2, hl, hq⟩)
    (fun _ hq => wpAny_isSame_ref_other hne hl ho2 (by simp) hq) (.inr hu) h)
end
def neT (d e : D) : Option D := match d with
  | .dic _ _ => (match e with | .tup _ => some (.bl true) | _ => none)
  | d => neD d e
theorem op_neT {X : Cx} {im : Addr → Bool} (hu : X.A.units + 200 < cLine) : OpR X (compareOp .NotEq) (rD2 X.K im neT) := by
  intro pins s σ H x y v u Q I rx ry h
  obtain ⟨d, e, z, hd, he, hz, q⟩ := h
  have oth : neT d e = neD d e → wpAny (model X.prog X.w) X.A (compareOp .NotEq v u) (EP X pins σ Q) X.xe s := fun q1 => by
    rw [q1] at hz
    exact op_neDD hu pins s σ H x y v u Q I rx ry ⟨d, e, z, hd, he, hz, q⟩
  cases d with
  | dic ks ds =>
    cases e with
    | tup es =>
      cases hz
      cases hd with
      | @dic a o ks vs ds h1 h2 h3 =>
        cases he with
        | @tup b vs2 ds2 g1 g2 =>
          cases rx
          cases ry
          obtain ⟨k1, k2, k3, es', ep, ws, k4, _⟩ := I.frzK h1
          obtain ⟨its, rv, ht, _⟩ := I.tuple g1.q
          have := ne_dict_tuple (A := X.A) k2 k3.1 k4 ht (by omega)
          exact this X.prog X.w X.xe _ ⟨.bl true, H, I, rfl, q _ _ (Same.refl _) (.bl _)⟩
    | _ => cases hz
  | _ => exact oth rfl
def yk : D → Bool
  | .ins _ _ => true
  | d => d.ty.isSome
def eOwnC {Ω : Type} (F : List D → R Unit D) (neg : Bool) (a b : E Ω D) : E Ω D := fun τ ω => (a τ ω).bind fun x ω1 => (b τ ω1).bind fun y ω2 => match x with
  | .ins fs ds => if yk y = true then (match F [.ins fs ds, y] with | .ok (.bl c) _ => .ok (.bl (if neg then !c else c)) ω2 | _ => .no) else .no
  | x => .ofO ((if neg then neT else eqD) x y) ω2
def rOwn (K : PySem.W.Frag) (im : Addr → Bool) (F : List D → R Unit D) (neg : Bool) : R2 := fun x y H Q => rOwnC K im F neg x y H Q ∨ rD2 K im (if neg then neT else eqD) x y H Q
section
variable {X : Cx} {n : Nat} {im : Addr → Bool} {cP f : Addr} {fd : FuncData} {ps : List Str} {F : List D → R Unit D}
theorem op_ownN (hi : ∀ a, im a = true → a = cP) (q : EqP X.K cP f) (Fo : FnOk X.prog X.w X.K X.mg X.base CX0 n f fd ps (spD X.K im 2 F)) (hb : Binds X.K fd ps []) (hr : Room (n + 1) X.A) (hu : X.A.units + 200 < cLine) : OpR X (compareOp .NotEq) (rOwn X.K im F true) := by
  intro pins s σ H x y v u Q I rx ry h
  rcases h with h | h
  · exact op_ownNe hi q Fo hb hr pins s σ H x y v u Q I rx ry h
  · exact op_neT hu pins s σ H x y v u Q I rx ry h
theorem op_ownE (hi : ∀ a, im a = true → a = cP) (q : EqP X.K cP f) (Fo : FnOk X.prog X.w X.K X.mg X.base CX0 n f fd ps (spD X.K im 2 F)) (hb : Binds X.K fd ps []) (hr : Room n X.A) (hu : X.A.units + 200 < cLine) : OpR X (compareOp .Eq) (rOwn X.K im F false) := by
  intro pins s σ H x y v u Q I rx ry h
  rcases h with h | h
  · exact op_ownEq hi q Fo hb hr pins s σ H x y v u Q I rx ry h
  · exact op_eqDD hu pins s σ H x y v u Q I rx ry h
end
theorem notFirst_ty {K : PySem.W.Frag} {C : Addr} {d : D} {n : String} (h : d.ty = some n) : PySem.W.notFirst K C (.type n) = true := by
  cases d <;> cases h <;> kernel_rfl
section
variable {im : Addr → Bool} {Ω : Type} {G : Gam im Ω} {K : PySem.W.Frag} {W : WX} {ta tb te : TE} {Fa Fb Fe : E Ω D} {F : List D → R Unit D} {neg : Bool}
theorem de_own {cP : Addr} (hi : ∀ a, im a = true → a = cP) (hC : ∀ C, im C = true → Cls K C ∧ TyP K C) (ha : DE G K W ta Fa) (hb : DE G K W tb Fb) : DE G K W (tOp (rOwn K im F neg) ta tb) (eOwnC F neg Fa Fb) := by
  intro H0 σ H ω τ s t Q h
  refine ha H0 σ H ω τ s t _ (Res.imp (Res.bind h) (fun x ω1 H1 k1 t1 h1 v r => ?_) fun _ _ _ _ _ q => q)
  refine hb H0 σ H1 ω1 τ (s.step t k1) t1 _ (Res.imp (Res.bind (h1.mono k1)) (fun y ω2 H2 k2 t2 h2 w r2 => ?_) fun _ _ _ _ _ q => q)
  have h3 := (h2.mono k2)
  have r1 := r.up (k2.sb t1)
  have oth : ∀ {x : D}, Rep K im H2 v x → Res G (R.ofO ((if neg then neT else eqD) x y) ω2) H2 (fun x _ H' => ∀ v, Rep K im H' v x → Q v H') (fun x ω H' => kX G K W σ x ω H') → rOwn K im F neg v w H2 Q := by
    intro x r h
    cases e : (if neg then neT else eqD) x y with
    | none => rw [e] at h; exact h.elim
    | some z =>
      rw [e] at h
      exact .inr ⟨x, y, z, r, r2, e, fun v H' sm rv => h H' (.of sm) (At.same t2 sm) v rv⟩
  cases x with
  | ins fs ds =>
    have r1' := r1
    cases r1 with
    | @ins a C dx _ vs _ g1 g2 g3 g4 g5 =>
      have q0 := g1
      dsimp only at h3
      split at h3
      case isFalse => exact h3.elim
      rename_i hy
      have hty : ∃ t, TyX K H2 w t ∧ PySem.W.notFirst K C t = true := by
        cases hq : y.ty with
        | some n => exact ⟨_, Rep.ty r2 hq, notFirst_ty hq⟩
        | none =>
          cases y with
          | ins fs' ds' =>
            cases r2 with
            | @ins a' C' dx' _ vs' _ q1 q2 q3 q4 q5 =>
              obtain ⟨cl, ty⟩ := hC C' q1
              refine ⟨.ref C', .base (.ins q3 cl ty.ca ty.cn ty.ct ty.cm), ?_⟩
              obtain rfl := hi C q0
              obtain rfl := hi C' q1
              unfold PySem.W.notFirst
              rw [beq_self_eq_true]; rfl
          | _ =>
            first
            | (cases hq; done)
            | (cases hy; done)
      obtain ⟨t', ty, hn⟩ := hty
      refine .inl ⟨a, C, dx, fs.zip vs, t', rfl, g3, g1, ty, hn, rfl, [.ins fs ds, y], .cons r1' (.cons r2 .nil), ?_⟩
      cases e : F [.ins fs ds, y] with
      | ok d u =>
        rw [e] at h3
        cases d with
        | bl c =>
          intro v' H' sm rv
          cases rv
          exact ⟨c, rfl, h3 H' (.of sm) (At.same t2 sm) _ (.bl _)⟩
        | _ => exact h3.elim
      | ex x u => rw [e] at h3; exact h3.elim
      | no => rw [e] at h3; exact h3.elim
  | _ => exact oth r1 h3
end
theorem kq_of {K : PySem.W.Frag} {C : Addr} (h1 : PySem.W.isClsIn K C = true) (h2 : PySem.W.typeIn K (.ref C) = some (.type "type")) : PySem.W.kitOne K (.type "tuple") (.ref C) = some false := by
  unfold PySem.W.kitOne
  rw [if_neg (show ¬ ((Value.type "tuple" == Value.ref C) = true) from Bool.false_ne_true)]
  unfold PySem.W.kitCls
  have h3 : (PySem.W.clsIn K C).isSome = true := h1
  dsimp only
  rw [h2, h3, if_pos (by rw [Bool.true_and]; exact beq_self_eq_true _)]
  kernel_rfl
end DL
namespace DL
open PySem PySem.Spec PyProof.Rows L2
section
variable {im : Addr → Bool} {Ω : Type} (G : Gam im Ω) (K : PySem.W.Frag)
def KSP (H0 H : Hp) (D' : Ends) : Option ((List D × D) × Ω) → Prop
  | none => False
  | some ((ds, d), ω) => ∀ q a vs w H', Sb im H H' → Kp G H0 H' → G.At ω H' → H0 a = none → ¬ G.FP a → H' a = some (.lst vs) → RepL K im H' vs ds → Rep K im H' w d → SqT K H' q [.ref a, w] → D'.rt (.ref q) H'
variable {G} {K}
theorem KSP.mono {H0 H H1 : Hp} {D' : Ends} {r : Option ((List D × D) × Ω)} (h : KSP G K H0 H D' r) (s : Sb im H H1) : KSP G K H0 H1 D' r := by
  rcases r with _ | ⟨⟨ds, d⟩, ω⟩
  · exact h
  · exact fun q a vs w H' sb => h q a vs w H' (s.trans sb)
end
end DL
namespace DL
open PySem PySem.Spec PyProof.Rows L2
end DL
namespace DL
open PySem PySem.Spec PyProof.Rows L2
end DL
namespace DL
open PySem PySem.Spec PyProof.Rows L2
inductive OwnAll (F : List D → R Unit D) : List D → List D → Prop
  | nil : OwnAll F [] []
  | cons {fs gs fs' gs' ds es u} : F [.ins fs gs, .ins fs' gs'] = .ok (.bl true) u → OwnAll F ds es → OwnAll F (.ins fs gs :: ds) (.ins fs' gs' :: es)
def ownAll (F : List D → R Unit D) : List D → List D → Bool
  | [], [] => true
  | .ins fs gs :: ds, .ins fs' gs' :: es => (match F [.ins fs gs, .ins fs' gs'] with | .ok (.bl true) _ => true | _ => false) && ownAll F ds es
  | _, _ => false
theorem OwnAll.of {F : List D → R Unit D} : ∀ {ds es : List D}, ownAll F ds es = true → OwnAll F ds es
  | [], [], _ => .nil
  | d :: ds, e :: es, h => by
    unfold ownAll at h
    split at h
    · rename_i h1 h2; cases h1
    · rename_i fs gs ds' fs' gs' es' h1 h2
      injection h1 with h1 h3
      injection h2 with h2 h4
      subst h1 h2 h3 h4
      rw [Bool.and_eq_true] at h
      obtain ⟨h5, h6⟩ := h
      split at h5
      · rename_i u q
        exact .cons q (OwnAll.of h6)
      · cases h5
    · cases h
  | [], e :: es, h => by unfold ownAll at h; cases h
  | d :: ds, [], h => by unfold ownAll at h; cases d <;> cases h
theorem OwnAll.at {F : List D → R Unit D} : ∀ {ds es : List D}, OwnAll F ds es → ∀ {j : Nat} {d e : D}, ds[j]? = some d → es[j]? = some e → ∃ fs gs fs' gs' u, d = .ins fs gs ∧ e = .ins fs' gs' ∧ F [d, e] = .ok (.bl true) u
  | _, _, .nil, j, d, e, h, _ => by simp at h
  | _, _, .cons h1 h2, 0, d, e, h, h' => by
    simp at h h'
    subst h h'
    exact ⟨_, _, _, _, _, rfl, rfl, h1⟩
  | _, _, .cons h1 h2, j + 1, d, e, h, h' => by
    simp at h h'
    exact h2.at h h'
theorem OwnAll.len {F : List D → R Unit D} : ∀ {ds es : List D}, OwnAll F ds es → ds.length = es.length
  | _, _, .nil => rfl
  | _, _, .cons _ h => by simp [h.len]
end DL
namespace DL
open PySem PySem.Spec PyProof.Rows L2
end DL
namespace DL
open PySem PySem.Spec PyProof.Rows L2 LamX
section
variable {im : Addr → Bool} {Ω : Type} {K : PySem.W.Frag}
/-- G as a part of G' -/
structure SubG (G G' : Gam im Ω) : Prop where
  obj : G'.obj = G.obj
  down : ∀ {ω H}, G'.At ω H → G.At ω H
  up : ∀ {ω ω' H H'}, G'.At ω H → Kp G H H' → G.At ω' H' → G'.At ω' H'
  fp : ∀ {b}, G.FP b → G'.FP b
theorem SubG.kp {G G' : Gam im Ω} (S : SubG G G') {H H' : Hp} (k : Kp G H H') : Kp G' H H' := fun b o e n => k b o e fun f => n (S.fp f)
variable {Pp : Type} {Γ : Pp → Gam im Ω} {G : Gam im Ω} {W : WX} {cA P : Addr} {nm : Str} {t : TE} {Fb : E Ω D}
end
end DL
namespace DL
open PySem PySem.Spec PyProof.Rows L2 LamX
/-- a run that gives True ends as the law's end wants it -/
theorem ks_law {im : Addr → Bool} {Ω : Type} {G : Gam im Ω} {K : PySem.W.Frag} {H0 H : Hp} {D : Ends} {W : WX} {B : S Ω} {τ : Tau} {ω ω' : Ω} (hF : runS B τ ω = .ok (.bl true) ω') (k : ∀ v H', v = V.bl true → D.rt v H') : KS G K H0 H D W (B τ ω) := by
  unfold runS at hF
  generalize B τ ω = r at hF ⊢
  match r, hF with
  | some (.rt d, ω1), hF =>
    simp only [R.ok.injEq] at hF
    obtain ⟨rfl, rfl⟩ := hF
    intro v H2 _ _ _ r
    cases r
    exact k _ _ rfl
  | some (.nx τ, ω1), hF => simp only [R.ok.injEq] at hF; exact absurd hF.1 (by intro z; cases z)
  | some (.bk τ, ω1), hF => cases hF
  | some (.ct τ, ω1), hF => cases hF
  | some (.rs x τ, ω1), hF => cases hF
  | some (.rl d, ω1), hF => cases hF
  | none, hF => cases hF
end DL
namespace DL
open PySem PySem.Spec PyProof.Rows L2
end DL
namespace DL
open PySem PySem.Spec PyProof.Rows L2
section
variable {P : Program} {w : World} {B : Around} {u : Shared}
/-- nothing but x differs -/
def But (x : Addr) (g h : Heap) : Prop := ∀ q o, q ≠ x → g.get? q = some o → h.get? q = some o
theorem But.trans {x : Addr} {f g h : Heap} (k1 : But x f g) (k2 : But x g h) : But x f h := fun q o n e => k2 q o n (k1 q o n e)
theorem But.push {x : Addr} {h : Heap} (ob : Obj) : But x h (h.push ob) := fun q o _ e => Heap.get?_push_of_some _ e
end
end DL
namespace DL
open PySem PySem.Spec PyProof.Rows L2
section
variable {X : Cx} {e : Expr} {te : TE}
def tThaw (i : Nat) (te : TE) : TE := fun σ H Q => ∃ l xs, σ[i]? = some (some (.ref l)) ∧ H l = some (.lst xs) ∧ ∀ o, te σ (upd H l (.frz o (.lst xs))) fun v H' => H' l = some (.frz o (.lst xs)) ∧ Q v (upd H' l (.lst xs))
theorem pe_thaw {i : Nat} (h : PE X e te) : PE X e (tThaw i te) := by
  refine ⟨fun pins s σ H Q I q => ?_⟩
  obtain ⟨l, xs, e1, hl, q⟩ := q
  obtain ⟨o, J⟩ := I.lock hl True.intro
  refine thn (h.run pins s σ _ _ J (q o)) ?_
  rintro u s' ⟨v, H1, J1, r, e2, q1⟩
  exact ⟨v, _, J1.unlock e2 (I.nofrz hl True.intro), r, q1⟩
end
section
variable {im : Addr → Bool} {Ω : Type} {K : PySem.W.Frag} {W : WX}
/-- the state does not speak of finished lists -/
class Thaws (G : Gam im Ω) : Prop where
  at' : ∀ {ω : Ω} {H : Hp} {l : Addr} {o : Obj} {vs ws : List V}, G.At ω H → H l = some (.frz o (.lst vs)) → ¬ G.FP l → G.At ω (upd H l (.lst ws))
instance : Thaws (gam0 im) := ⟨fun _ _ _ => trivial⟩
instance {p : Addr × Addr} : Thaws (srcG im p) where
  at' := fun ⟨h1, h2⟩ e nf => by
    refine ⟨?_, ?_⟩
    · rw [upd_ne (fun z => nf (.inl z.symm))]
      exact h1
    · rw [upd_ne (fun z => nf (.inr z.symm))]
      exact h2
mutual
/-- nothing within is a list or a dict -/
def D.noL : D → Bool
  | .lst _ => false
  | .dic _ _ => false
  | .dit _ _ => false
  | .tup ds => D.noLs ds
  | .ins _ ds => D.noLs ds
  | _ => true
def D.noLs : List D → Bool
  | [] => true
  | d :: ds => D.noL d && D.noLs ds
end
variable {H H' : Hp} {l : Addr} {o : Obj} {u u' : HO}
mutual
theorem Rep.thaw (hl : H l = some (.frz o u)) : ∀ (d : D) (v : V), D.noL d = true → Rep K im H v d → Rep K im (upd H l u') v d
  | .non, _, _, h => by cases h; exact .non
  | .bl _, _, _, h => by cases h; exact .bl _
  | .int _, _, _, h => by cases h; exact .int _
  | .str _, _, _, h => by cases h; exact .str _
  | .tup ds, _, n, h => by
    cases h with
    | @tup a vs _ h1 h2 =>
      refine .tup ?_ (RepL.thaw hl ds _ (by rw [D.noL] at n; exact n) h2)
      have : a ≠ l := fun z => by
        have h1 : H a = some (.tup vs) := h1
        rw [z, hl] at h1
        cases h1
      show upd H l u' a = _
      rw [upd_ne this]
      exact h1
  | .lst ds, _, n, _ => by rw [D.noL] at n; cases n
  | .dic ks ds, _, n, _ => by rw [D.noL] at n; cases n
  | .dit ks ds, _, n, _ => by rw [D.noL] at n; cases n
  | .ins fs ds, _, n, h => by
    cases h with
    | @ins a C dx _ vs _ h0 h01 h1 h2 h3 =>
      refine Rep.ins (dx := dx) h0 h01 ?_ h2 (RepL.thaw hl ds _ (by rw [D.noL] at n; exact n) h3)
      have : a ≠ l := fun z => by
        rw [z, hl] at h1
        cases h1
      rw [upd_ne this]
      exact h1
theorem RepL.thaw (hl : H l = some (.frz o u)) : ∀ (ds : List D) (vs : List V), D.noLs ds = true → RepL K im H vs ds → RepL K im (upd H l u') vs ds
  | [], _, _, h => by cases h; exact .nil
  | d :: ds, _, n, h => by
    cases h with
    | cons h1 h2 =>
      rw [D.noLs, Bool.and_eq_true] at n
      exact .cons (Rep.thaw hl d _ n.1 h1) (RepL.thaw hl ds _ n.2 h2)
end
end
section
variable {im : Addr → Bool} {Ω : Type} {G : Gam im Ω} {K : PySem.W.Frag} {W : WX} {te : TE} {Fe : E Ω D}
def eThaw (i : Nat) (e : E Ω D) : E Ω D := fun τ ω => match τ[i]? with
  | some (some (.ow .L xs)) => (match e (τ.set i (some (.d (.lst xs)))) ω with
    | .ok d ω1 => if D.noL d = true then .ok d ω1 else .no
    | _ => .no)
  | _ => .no
theorem de_thaw [hT : Thaws G] {i : Nat} (he : DE G K W te Fe) : DE G K W (tThaw i te) (eThaw i Fe) := by
  intro H0 σ H ω τ s t Q h
  unfold eThaw at h
  split at h
  case h_2 => exact h.elim
  rename_i xs hx
  obtain ⟨l, vs, e, hl, r, h0, nf⟩ := s.getO hx
  refine ⟨l, vs, e, hl, fun o => ?_⟩
  obtain ⟨s2, t2, sb⟩ := s.fzW t (kd := .L) hx e hl r trivial o
  refine he H0 σ _ ω _ s2 t2 _ ?_
  show Res G (Fe (τ.set i (some (.d (.lst xs)))) ω) _ _ _
  cases q : Fe (τ.set i (some (.d (.lst xs)))) ω with
  | no => rw [q] at h; exact h.elim
  | ex x ω1 => rw [q] at h; exact h.elim
  | ok d ω1 =>
    rw [q] at h
    dsimp only at h
    split at h
    case isFalse => exact h.elim
    rename_i nl
    intro H1 k1 t1 v rv
    have e1 : H1 l = some (.frz o (.lst vs)) := k1 l _ upd_same nf
    refine ⟨e1, h (upd H1 l (.lst vs)) (fun b u eb nb => ?_) (hT.at' t1 e1 nf) v (Rep.thaw e1 d v nl rv)⟩
    by_cases hb : b = l
    · subst hb
      rw [hl] at eb
      cases eb
      exact upd_same
    · rw [upd_ne hb]
      exact k1 b u (by rw [upd_ne hb]; exact eb) nb
theorem wp_thaw {i : Nat} {τ : Tau} {ω : Ω} {xs : List D} {P : D → Ω → Prop} {X : Exn → Ω → Prop} (hi : τ[i]? = some (some (.ow .L xs))) (h : (Fe (τ.set i (some (.d (.lst xs)))) ω).wp (fun d ω1 => D.noL d = true ∧ P d ω1) X0) : (eThaw i Fe τ ω).wp P X := by
  unfold eThaw
  rw [hi]
  dsimp only
  cases q : Fe (τ.set i (some (.d (.lst xs)))) ω with
  | no => rw [q] at h; with_unfolding_all exact h.elim
  | ex x ω1 => rw [q] at h; with_unfolding_all exact h.elim
  | ok d ω1 =>
    rw [q] at h
    obtain ⟨nl, p⟩ := Eq.mp wp_ok h
    dsimp only
    rw [if_pos nl]
    exact Eq.mpr wp_ok p
end
end DL
namespace DL
open PySem PySem.Spec PyProof.Rows L2
section
variable {X : Cx} {e : Expr} {tt : TT}
/-- the same for a test -/
def tThawT (i : Nat) (tt : TT) : TT := fun σ H Q => ∃ l xs, σ[i]? = some (some (.ref l)) ∧ H l = some (.lst xs) ∧ ∀ o, tt σ (upd H l (.frz o (.lst xs))) fun v H' => H' l = some (.frz o (.lst xs)) ∧ Q v (upd H' l (.lst xs))
theorem pt_thaw {i : Nat} (h : PT X e tt) : PT X e (tThawT i tt) := by
  refine ⟨fun pins s σ H Q I q => ?_⟩
  obtain ⟨l, xs, e1, hl, q⟩ := q
  obtain ⟨o, J⟩ := I.lock hl True.intro
  refine thn (h.run pins s σ _ _ J (q o)) ?_
  rintro u s' ⟨H1, J1, e2, q1⟩
  exact ⟨_, J1.unlock e2 (I.nofrz hl True.intro), q1⟩
end
section
variable {im : Addr → Bool} {Ω : Type} {G : Gam im Ω} {K : PySem.W.Frag} {W : WX} {tt : TT} {Fc : E Ω Bool}
def bThaw (i : Nat) (c : E Ω Bool) : E Ω Bool := fun τ ω => match τ[i]? with
  | some (some (.ow .L xs)) => (match c (τ.set i (some (.d (.lst xs)))) ω with
    | .ok b ω1 => .ok b ω1
    | _ => .no)
  | _ => .no
theorem dt_thaw [hT : Thaws G] {i : Nat} (he : DT G K W tt Fc) : DT G K W (tThawT i tt) (bThaw i Fc) := by
  intro H0 σ H ω τ s t Q h
  unfold bThaw at h
  split at h
  case h_2 => exact h.elim
  rename_i xs hx
  obtain ⟨l, vs, e, hl, r, h0, nf⟩ := s.getO hx
  refine ⟨l, vs, e, hl, fun o => ?_⟩
  obtain ⟨s2, t2, sb⟩ := s.fzW t (kd := .L) hx e hl r trivial o
  refine he H0 σ _ ω _ s2 t2 _ ?_
  show Res G (Fc (τ.set i (some (.d (.lst xs)))) ω) _ _ _
  cases q : Fc (τ.set i (some (.d (.lst xs)))) ω with
  | no => rw [q] at h; exact h.elim
  | ex x ω1 => rw [q] at h; exact h.elim
  | ok d ω1 =>
    rw [q] at h
    intro H1 k1 t1
    have e1 : H1 l = some (.frz o (.lst vs)) := k1 l _ upd_same nf
    refine ⟨e1, h (upd H1 l (.lst vs)) (fun b u eb nb => ?_) (hT.at' t1 e1 nf)⟩
    by_cases hb : b = l
    · subst hb
      rw [hl] at eb
      cases eb
      exact upd_same
    · rw [upd_ne hb]
      exact k1 b u (by rw [upd_ne hb]; exact eb) nb
theorem wp_bThaw {i : Nat} {τ : Tau} {ω : Ω} {xs : List D} {P : Bool → Ω → Prop} {X : Exn → Ω → Prop} (hi : τ[i]? = some (some (.ow .L xs))) (h : (Fc (τ.set i (some (.d (.lst xs)))) ω).wp P X0) : (bThaw i Fc τ ω).wp P X := by
  unfold bThaw
  rw [hi]
  dsimp only
  cases q : Fc (τ.set i (some (.d (.lst xs)))) ω with
  | no => rw [q] at h; with_unfolding_all exact h.elim
  | ex x ω1 => rw [q] at h; with_unfolding_all exact h.elim
  | ok d ω1 =>
    rw [q] at h
    dsimp only
    exact Eq.mpr wp_ok (Eq.mp wp_ok h)
end
end DL
namespace DL
open PySem PySem.Spec PyProof.Rows L2
def isiA (d : D) : Option D := match d with
  | .ins _ _ => some (.bl true)
  | d => match d.ty with
    | some _ => some (.bl false)
    | none => none
section
variable {im : Addr → Bool} {Ω : Type} {G : Gam im Ω} {K : PySem.W.Frag} {W : WX} {te : TE} {Fe : E Ω D}
theorem de_isiA {cP : Addr} (hi : ∀ a, im a = true → a = cP) (hC : ∀ C, im C = true → Cls K C ∧ TyP K C) (hk : ∀ t ∈ ["NoneType", "bool", "int", "str", "tuple", "list", "dict"], PySem.W.kitOne K (.type t) (.ref cP) = some false) (he : DE G K W te Fe) :
    DE G K W (tCB (rIsi K) (tCons te (tCons (tC (.ref cP)) tNil))) (eUn isiA Fe) := by
  intro H0 σ H ω τ s t Q h
  refine he H0 σ H ω τ s t _ (Res.imp (Res.bind h) (fun d ω1 H1 k1 t1 h1 v r => ?_) fun _ _ _ _ _ q => q)
  have h2 := h1.mono k1
  cases d with
  | ins fs ds =>
    cases r with
    | @ins a C dx _ vs _ g1 g2 g3 g4 g5 =>
      obtain ⟨cl, ty⟩ := hC C g1
      obtain rfl := hi C g1
      have e2 : PySem.W.kitOne K (.ref C) (.ref C) = some true := by
        unfold PySem.W.kitOne
        rw [beq_self_eq_true, if_pos rfl]
      exact ⟨_, .ref C, .ref C, .ref C, true, rfl, .own C, .base (.ins g3 cl ty.ca ty.cn ty.ct ty.cm), e2, h2 H1 .refl t1 _ (.bl true)⟩
  | tup ds => exact ⟨_, .ref cP, .type "tuple", .ref cP, false, rfl, .own cP, Rep.ty r rfl, hk _ (by simp), h2 H1 .refl t1 _ (.bl false)⟩
  | non => exact ⟨_, .ref cP, .type "NoneType", .ref cP, false, rfl, .own cP, Rep.ty r rfl, hk _ (by simp), h2 H1 .refl t1 _ (.bl false)⟩
  | bl b => exact ⟨_, .ref cP, .type "bool", .ref cP, false, rfl, .own cP, Rep.ty r rfl, hk _ (by simp), h2 H1 .refl t1 _ (.bl false)⟩
  | int i => exact ⟨_, .ref cP, .type "int", .ref cP, false, rfl, .own cP, Rep.ty r rfl, hk _ (by simp), h2 H1 .refl t1 _ (.bl false)⟩
  | str x => exact ⟨_, .ref cP, .type "str", .ref cP, false, rfl, .own cP, Rep.ty r rfl, hk _ (by simp), h2 H1 .refl t1 _ (.bl false)⟩
  | lst ds => exact ⟨_, .ref cP, .type "list", .ref cP, false, rfl, .own cP, Rep.ty r rfl, hk _ (by simp), h2 H1 .refl t1 _ (.bl false)⟩
  | dic ks ds => exact ⟨_, .ref cP, .type "dict", .ref cP, false, rfl, .own cP, Rep.ty r rfl, hk _ (by simp), h2 H1 .refl t1 _ (.bl false)⟩
  | dit ks ds => exact h2.elim
end
theorem kqA_of {K : PySem.W.Frag} {C : Addr} (h1 : PySem.W.isClsIn K C = true) (h2 : PySem.W.typeIn K (.ref C) = some (.type "type")) : ∀ t ∈ ["NoneType", "bool", "int", "str", "tuple", "list", "dict"], PySem.W.kitOne K (.type t) (.ref C) = some false := by
  intro t ht
  unfold PySem.W.kitOne
  rw [if_neg (show ¬ ((Value.type t == Value.ref C) = true) from Bool.false_ne_true)]
  unfold PySem.W.kitCls
  have h3 : (PySem.W.clsIn K C).isSome = true := h1
  dsimp only
  rw [h2, h3, if_pos (by rw [Bool.true_and]; exact beq_self_eq_true _)]
  simp only [List.mem_cons, List.not_mem_nil, or_false] at ht
  rcases ht with rfl | rfl | rfl | rfl | rfl | rfl | rfl <;> kernel_rfl
end DL
namespace Lk
open PySem L2 DL
def topS (i : Nat) : Stmt := PySem.Challenge.pw_lumpplans_k06_plans_asked.main.body.getD i (.Pass ⟨0, 0, 0, 0⟩)
abbrev s_wrong_shape_path : Stmt := topS 4
abbrev s_size_of : Stmt := topS 5
abbrev s_wrong_table_path : Stmt := topS 7
abbrev s_first_wrong_table : Stmt := topS 9
abbrev s_wrong_plan_path : Stmt := topS 10
abbrev s_law_source : Stmt := topS 13
abbrev s_law_pick : Stmt := topS 14
abbrev s_law_of : Stmt := topS 15
abbrev s_law_mixed : Stmt := topS 16
abbrev s_law_comb : Stmt := topS 17
abbrev s_law_halves : Stmt := topS 18
abbrev s_law_shape : Stmt := topS 19
abbrev s_law_size : Stmt := topS 20
abbrev s_law_any_table : Stmt := topS 21
abbrev s_law_entry : Stmt := topS 22
abbrev s_law_filled : Stmt := topS 23
abbrev s_law_pressed : Stmt := topS 24
abbrev s_law_glue : Stmt := topS 25
abbrev s_law_table : Stmt := topS 26
abbrev s_Plan_init : Stmt := inClass (topS 11) 0
abbrev s_law_made : Stmt := topS 27
abbrev s_law_plan : Stmt := topS 28
abbrev s_law_stage : Stmt := topS 29
abbrev s_law_some_plan : Stmt := topS 30
abbrev s_Plan_tables : Stmt := inClass (topS 11) 2
abbrev s_Plan_end : Stmt := inClass (topS 11) 3
abbrev s_Plan_stage : Stmt := inClass (topS 11) 4
abbrev s_law_plan_right : Stmt := topS 31
abbrev s_law_others : Stmt := topS 32
abbrev s_Plan_eq : Stmt := inClass (topS 11) 1
abbrev s_law : Stmt := topS 33
/-- the source's first state -/
def mixedOf (ns : List Int) : Int := ns.foldl (fun m c => (m * 69069 + c * 31 + 5) % 2147483629) 11
def srcOf (ns : List Int) : Src := { cells := ns.map fun i => if i < 0 then -i else i, left := 1, mixed := mixedOf ns, turn := 0 }
def spSource (K : PySem.W.Frag) (im : Addr → Bool) : Sp := fun vs H Q _ => ∃ (a : Addr) (ns : List Int), vs = [.ref a] ∧ SqL K H a (ns.map V.int) ∧ ns.length ≤ 100000 ∧
  ∀ p H', Same H H' → H p.1 = none → H p.2 = none → (srcG im p).At (srcOf ns) H' → Q (.ref p.1) H'
def B_wrong_shape_path (rec : List D → R Unit D) : S Unit :=
  (sSeq (sIf (bOr (bNot (eB (eUn (isiD "tuple") (eVar 0)))) (eB (eOp ninD (eCall (un1 lenD) (aCons (eVar 0) aNil)) (eTup (aCons (eC (.int 0)) (aCons (eC (.int 2)) aNil)))))) (sRet (eTup aNil)) sNx)
    (sSeq (sFor (iEn (eVar 0)) (bTup 2 (bCons (bName 1) (bCons (bName 2) bNil))) (sSeq (sAsg (cD rec (aCons (eVar 2) aNil)) (bName 3))
    (sIf (eB (eOp notND (eVar 3) (eC .non))) (sRet (eOp addD (eTup (aCons (eVar 1) aNil)) (eVar 3))) sNx)))
    (sRet (eC .non))))
def F_wrong_shape_path : Nat → List D → R Unit D
  | 0 => fun _ => .no
  | n + 1 => fun ds => nox (runS (B_wrong_shape_path (F_wrong_shape_path n)) (startT 4 (ds.map .d)) ())
def B_size_of (rec : List D → R Unit D) : S Unit :=
  (sSeq (sIf (eB (eOp eqD (eVar 0) (eTup aNil))) (sRet (eC (.int 1))) sNx)
    (sRet (eOp addD (cD rec (aCons (eOp ixD (eVar 0) (eC (.int 0))) aNil)) (cD rec (aCons (eOp ixD (eVar 0) (eC (.int 1))) aNil)))))
def F_size_of : Nat → List D → R Unit D
  | 0 => fun _ => .no
  | n + 1 => fun ds => nox (runS (B_size_of (F_size_of n)) (startT 1 (ds.map .d)) ())
def B_wrong_table_path : S Unit :=
  (sSeq (sIf (bOr (bNot (eB (eUn (isiD "tuple") (eVar 0)))) (eB (eOp eqD (eCall (un1 lenD) (aCons (eVar 0) aNil)) (eC (.int 0))))) (sRet (eTup aNil)) sNx)
    (sSeq (sFor (iEn (eVar 0)) (bTup 2 (bCons (bName 1) (bCons (bName 2) bNil))) (sSeq (sAsg (cD (F_wrong_shape_path 70) (aCons (eVar 2) aNil)) (bName 3))
    (sIf (eB (eOp notND (eVar 3) (eC .non))) (sRet (eOp addD (eTup (aCons (eVar 1) aNil)) (eVar 3))) sNx)))
    (sSeq (sFor (iEn (eVar 0)) (bTup 2 (bCons (bName 1) (bCons (bName 2) bNil))) (sIf (eB (eOp neD (cD (F_size_of 70) (aCons (eVar 2) aNil)) (eOp addD (eVar 1) (eC (.int 2))))) (sRet (eTup (aCons (eVar 1) aNil))) sNx))
    (sRet (eC .non)))))
def F_wrong_table_path : List D → R Unit D := fun ds => nox (runS B_wrong_table_path (startT 4 (ds.map .d)) ())
def B_first_wrong_table : S Unit :=
  (sSeq (sFor (iEn (eVar 0)) (bTup 2 (bCons (bName 1) (bCons (bName 2) bNil))) (sSeq (sAsg (cD F_wrong_table_path (aCons (eVar 2) aNil)) (bName 3))
    (sIf (eB (eOp notND (eVar 3) (eC .non))) (sRet (eOp addD (eTup (aCons (eVar 1) aNil)) (eVar 3))) sNx)))
    (sRet (eC .non)))
def F_first_wrong_table : List D → R Unit D := fun ds => nox (runS B_first_wrong_table (startT 4 (ds.map .d)) ())
def B_wrong_plan_path : S Unit :=
  (sSeq (sIf (bNot (eB (eUn (isi2D "list" "tuple") (eVar 0)))) (sRet (eTup (aCons (eC (.int 0)) aNil))) sNx)
    (sSeq (sAsg (cD F_first_wrong_table (aCons (eVar 0) aNil)) (bName 2))
    (sSeq (sIf (eB (eOp notND (eVar 2) (eC .non))) (sRet (eOp addD (eTup (aCons (eC (.int 0)) aNil)) (eVar 2))) sNx)
    (sSeq (sIf (bOr (eB (eOp eqD (eVar 1) (eC (.str "left")))) (eB (eOp eqD (eVar 1) (eC (.str "right"))))) (sRet (eC .non)) sNx)
    (sSeq (sIf (bOr (bNot (eB (eUn (isiD "tuple") (eVar 1)))) (eB (eOp eqD (eCall (un1 lenD) (aCons (eVar 1) aNil)) (eC (.int 0))))) (sRet (eTup (aCons (eC (.int 1)) aNil))) sNx)
    (sSeq (sAsg (cD F_first_wrong_table (aCons (eVar 1) aNil)) (bName 2))
    (sSeq (sIf (eB (eOp notND (eVar 2) (eC .non))) (sRet (eOp addD (eTup (aCons (eC (.int 1)) aNil)) (eVar 2))) sNx)
    (sRet (eC .non)))))))))
def F_wrong_plan_path : List D → R Unit D := fun ds => nox (runS B_wrong_plan_path (startT 3 (ds.map .d)) ())
def B_law_pick : S Src :=
  (sSeq (sWhile (fun _ ω => ω.cells.length + 2) (bAnd (eB (eOp gtD (eVar 1) (eC (.int 1)))) (bAnd (eB (eOp ltD (eSrc 0 Src.left) (eC (.int 2)))) (eB (eOp gtD (eSrcN 0) (eC (.int 0)))))) (sSrc 0 (fun ω z => { ω with left := z }) (eSrcP 0)))
    (sSeq (sAsg (eSrc 0 Src.left) (bName 2))
    (sSeq (sIf (bOr (eB (eOp ltD (eVar 1) (eC (.int 2)))) (eB (eOp gtD (eVar 2) (eC (.int 1))))) (sSeq (sSrc 0 (fun ω z => { ω with left := z }) (eOp fdivD (eVar 2) (eCall (bi2 max2D) (aCons (eC (.int 1)) (aCons (eVar 1) aNil)))))
    (sRet (eOp modD (eCall (un1 intD) (aCons (eVar 2) aNil)) (eCall (bi2 max2D) (aCons (eC (.int 1)) (aCons (eVar 1) aNil)))))) sNx)
    (sSeq (sSrc 0 (fun ω z => { ω with turn := z }) (eOp addD (eSrc 0 Src.turn) (eC (.int 1))))
    (sSeq (sAsg (eOp modD (eCall (un1 intD) (aCons (eOp addD (eSrc 0 Src.mixed) (eOp mulD (eSrc 0 Src.turn) (eC (.int 104729)))) aNil)) (eC (.int 998244353))) (bName 3))
    (sSeq (sAsg (eOp modD (eCall (un1 intD) (aCons (eOp addD (eOp mulD (eVar 3) (eVar 3)) (eOp mulD (eSrc 0 Src.turn) (eC (.int 17)))) aNil)) (eC (.int 2147483647))) (bName 3))
    (sSeq (sSrc 0 (fun ω z => { ω with mixed := z }) (eVar 3))
    (sRet (eOp modD (eCall (un1 intD) (aCons (eOp fdivD (eVar 3) (eC (.int 16))) aNil)) (eVar 1))))))))))
def F_law_pick : List D → Src → R Src D := fun ds ω => nox (runS B_law_pick (startT 4 (.src :: ds.map .d)) ω)
def B_law_of : S Src :=
  (sRet (eOp ixD (eVar 1) (cW F_law_pick 0 (aCons (eCall (un1 lenD) (aCons (eVar 1) aNil)) aNil))))
def F_law_of : List D → Src → R Src D := fun ds ω => nox (runS B_law_of (startT 2 (.src :: ds.map .d)) ω)
def B_law_mixed : S Src :=
  (sSeq (sSetO (eLst1 (eVar 1)) 2)
    (sRetPop [3] 2 (iRg rg1 (aCons (oLen 2) aNil)) (bName 3) (cW F_law_pick 0 (aCons (oLen 2) aNil))))
def F_law_mixed : List D → Src → R Src D := fun ds ω => nox (runS B_law_mixed (startT 4 (.src :: ds.map .d)) ω)
def B_law_comb : S Unit :=
  (sSeq (sAsg (eTup aNil) (bName 2))
    (sSeq (sFor (iRg rg1 (aCons (eOp subD (eVar 0) (eC (.int 1))) aNil)) (bName 3) (sAsg (eIf (eB (eOp eqD (eVar 1) (eC (.str "left")))) (eTup (aCons (eVar 2) (aCons (eTup aNil) aNil))) (eTup (aCons (eTup aNil) (aCons (eVar 2) aNil)))) (bName 2)))
    (sRet (eVar 2))))
def F_law_comb : List D → R Unit D := fun ds => nox (runS B_law_comb (startT 4 (ds.map .d)) ())
def B_law_halves (rec : List D → R Unit D) : S Unit :=
  (sRet (eIf (eB (eOp ltD (eVar 0) (eC (.int 2)))) (eTup aNil) (eTup (aCons (cD rec (aCons (eOp subD (eVar 0) (eOp fdivD (eVar 0) (eC (.int 2)))) aNil)) (aCons (cD rec (aCons (eOp fdivD (eVar 0) (eC (.int 2))) aNil)) aNil)))))
def F_law_halves : Nat → List D → R Unit D
  | 0 => fun _ => .no
  | n + 1 => fun ds => nox (runS (B_law_halves (F_law_halves n)) (startT 1 (ds.map .d)) ())
def B_law_shape (rec : List D → Src → R Src D) : S Src :=
  (sSeq (sAsg (cW F_law_pick 0 (aCons (eC (.int 6)) aNil)) (bName 2))
    (sSeq (sIf (bOr (eB (eOp ltD (eVar 1) (eC (.int 2)))) (eB (eOp ltD (eVar 2) (eC (.int 3))))) (sRet (eOp ixD (eFrz (eLst (aCons (cD F_law_comb (aCons (eVar 1) (aCons (eC (.str "left")) aNil))) (aCons (cD F_law_comb (aCons (eVar 1) (aCons (eC (.str "right")) aNil))) (aCons (cD (F_law_halves 70) (aCons (eVar 1) aNil)) aNil))))) (eIf (eB (eOp ltD (eVar 2) (eC (.int 3)))) (eVar 2) (eC (.int 0))))) sNx)
    (sSeq (sAsg (eOp addD (eC (.int 1)) (cW F_law_pick 0 (aCons (eOp subD (eVar 1) (eC (.int 1))) aNil))) (bName 3))
    (sRet (eTup (aCons (cW rec 0 (aCons (eVar 3) aNil)) (aCons (cW rec 0 (aCons (eOp subD (eVar 1) (eVar 3)) aNil)) aNil)))))))
def F_law_shape : Nat → List D → Src → R Src D
  | 0 => fun _ _ => .no
  | n + 1 => fun ds ω => nox (runS (B_law_shape (F_law_shape n)) (startT 4 (.src :: ds.map .d)) ω)
def B_law_size (rec : List D → R Unit D) : S Unit :=
  (sRet (eIf (eB (eOp eqD (eVar 0) (eTup aNil))) (eC (.int 1)) (eOp addD (cD rec (aCons (eOp ixD (eVar 0) (eC (.int 0))) aNil)) (cD rec (aCons (eOp ixD (eVar 0) (eC (.int 1))) aNil)))))
def F_law_size : Nat → List D → R Unit D
  | 0 => fun _ => .no
  | n + 1 => fun ds => nox (runS (B_law_size (F_law_size n)) (startT 1 (ds.map .d)) ())
def B_law_any_table : S Src :=
  (sRet (eCall (un1 tupleD) (aCons (eFrz (eLc [2] (iRg rg2 (aCons (eC (.int 2)) (aCons (eOp addD (eVar 1) (eC (.int 1))) aNil))) (bName 2) bYes (cW (F_law_shape 70) 0 (aCons (eVar 2) aNil)))) aNil)))
def F_law_any_table : List D → Src → R Src D := fun ds ω => nox (runS B_law_any_table (startT 3 (.src :: ds.map .d)) ω)
def B_law_entry : S Unit :=
  (sRet (eIf (eB (eOp eqD (eVar 1) (eC (.int 1)))) (eTup aNil) (eOp ixD (eVar 0) (eOp subD (eVar 1) (eC (.int 2))))))
def F_law_entry : List D → R Unit D := fun ds => nox (runS B_law_entry (startT 2 (ds.map .d)) ())
def B_law_filled (rec : List D → R Unit D) : S Unit :=
  (sSeq (sIf (eB (eOp eqD (eVar 0) (eTup aNil))) (sRet (eOp ixD (eVar 1) (eC (.int 0)))) sNx)
    (sSeq (sAsg (cD (F_law_size 70) (aCons (eOp ixD (eVar 0) (eC (.int 0))) aNil)) (bName 2))
    (sRet (eTup (aCons (cD rec (aCons (eOp ixD (eVar 0) (eC (.int 0))) (aCons (eSl (eVar 1) oNone (oSome (eVar 2))) aNil))) (aCons (cD rec (aCons (eOp ixD (eVar 0) (eC (.int 1))) (aCons (eSl (eVar 1) (oSome (eVar 2)) oNone) aNil))) aNil))))))
def F_law_filled : Nat → List D → R Unit D
  | 0 => fun _ => .no
  | n + 1 => fun ds => nox (runS (B_law_filled (F_law_filled n)) (startT 3 (ds.map .d)) ())
def B_law_pressed : S Unit :=
  (sSeq (sParO2 2 3 (eOp addD (eCall (un1 lenD) (aCons (eVar 0) aNil)) (eC (.int 1))) (eLst aNil))
    (sSeq (sFor (iRg rg3 (aCons (eC (.int 0)) (aCons (eCall (un1 lenD) (aCons (eVar 1) aNil)) (aCons (eVar 2) aNil)))) (bName 4) (sApp 3 (cD (F_law_filled 70) (aCons (cD F_law_entry (aCons (eVar 0) (aCons (eCall (un1 lenD) (aCons (eSl (eVar 1) (oSome (eVar 4)) (oSome (eOp addD (eVar 4) (eVar 2)))) aNil)) aNil))) (aCons (eSl (eVar 1) (oSome (eVar 4)) (oSome (eOp addD (eVar 4) (eVar 2)))) aNil)))))
    (sRetO 3)))
def F_law_pressed : List D → R Unit D := fun ds => nox (runS B_law_pressed (startT 5 (ds.map .d)) ())
def B_law_glue : S Unit :=
  (sSeq (sParO1 2 3 (eLst aNil) (eOp mulD (eOp addD (eCall (un1 lenD) (aCons (eVar 0) aNil)) (eC (.int 1))) (eOp addD (eCall (un1 lenD) (aCons (eVar 1) aNil)) (eC (.int 1)))))
    (sSeq (sFor (iRg rg2 (aCons (eC (.int 2)) (aCons (eOp addD (eVar 3) (eC (.int 1))) aNil))) (bName 4) (sSeq (sAsg (cD F_law_pressed (aCons (eVar 0) (aCons (eOp mulD (eFrz (eLst (aCons (eTup aNil) aNil))) (eVar 4)) aNil))) (bName 5))
    (sApp 2 (cD (F_law_filled 70) (aCons (cD F_law_entry (aCons (eVar 1) (aCons (eCall (un1 lenD) (aCons (eVar 5) aNil)) aNil))) (aCons (eVar 5) aNil))))))
    (sRet (oTuple 2))))
def F_law_glue : List D → R Unit D := fun ds => nox (runS B_law_glue (startT 6 (ds.map .d)) ())
def B_law_table : S Src :=
  (sSeq (sIf (eB (eOp eqD (cW F_law_pick 0 (aCons (eC (.int 4)) aNil)) (eC (.int 0)))) (sSeq (sPar 1 2 (cW F_law_any_table 0 (aCons (eOp addD (eC (.int 2)) (cW F_law_pick 0 (aCons (eC (.int 2)) aNil))) aNil)) (cW F_law_any_table 0 (aCons (eOp addD (eC (.int 2)) (cW F_law_pick 0 (aCons (eC (.int 2)) aNil))) aNil)))
    (sRet (cD F_law_glue (aCons (eVar 1) (aCons (eVar 2) aNil))))) sNx)
    (sRet (cW F_law_any_table 0 (aCons (cW F_law_of 0 (aCons (eFrz (eLst (aCons (eC (.int 2)) (aCons (eC (.int 2)) (aCons (eC (.int 3)) (aCons (eC (.int 3)) (aCons (eC (.int 4)) (aCons (eC (.int 4)) (aCons (eC (.int 5)) (aCons (eC (.int 6)) aNil)))))))))) aNil)) aNil))))
def F_law_table : List D → Src → R Src D := fun ds ω => nox (runS B_law_table (startT 3 (.src :: ds.map .d)) ω)
def B_Plan_init : SI :=
  (siSeq (sAsg (cD F_wrong_plan_path (aCons (eVar 1) (aCons (eVar 2) aNil))) (bName 3))
    (siSeq (sIf (eB (eOp notND (eVar 3) (eC .non))) sNo sNx)
    (siTwo (eCall (un1 tupleD) (aCons (eVar 1) aNil)) (eVar 2))))
def F_Plan_init : List D → R Unit (List D) := fun ds => runI B_Plan_init (startT 4 (.src :: ds.map .d))
def B_law_made : S Unit :=
  (sRet (eDisp ["tables", "end", "plan"] (aCons (eCall (un1 tupleD) (aCons (eVar 0) aNil)) (aCons (eVar 1) (aCons (cI ["_tables", "_end"] F_Plan_init (aCons (eCall (un1 tupleD) (aCons (eVar 0) aNil)) (aCons (eVar 1) aNil))) aNil)))))
def F_law_made : List D → R Unit D := fun ds => nox (runS B_law_made (startT 2 (ds.map .d)) ())
def B_law_plan : S Src :=
  (sSeq (sFz 1 (sSetO (eLc [4] (iRg rg1 (aCons (cW F_law_of 0 (aCons (eFrz (eLst (aCons (eC (.int 0)) (aCons (eC (.int 1)) (aCons (eC (.int 1)) (aCons (eC (.int 2)) (aCons (eC (.int 3)) aNil))))))) aNil)) aNil)) (bName 4) bYes (cW F_law_table 0 aNil)) 1))
    (sSeq (sPar 2 3 (cW F_law_of 0 (aCons (eFrz (eLst (aCons (eC (.str "left")) (aCons (eC (.str "right")) (aCons (eC (.str "round")) (aCons (eC (.str "round")) aNil)))))) aNil)) (eOp addD (eC (.int 1)) (cW F_law_pick 0 (aCons (eC (.int 2)) aNil))))
    (sRet (cD F_law_made (aCons (eVar 1) (aCons (eIf (eB (eOp eqD (eVar 2) (eC (.str "round")))) (eCall (un1 tupleD) (aCons (eFrz (eLc [4] (iRg rg1 (aCons (eVar 3) aNil)) (bName 4) bYes (cW F_law_table 0 aNil))) aNil)) (eVar 2)) aNil))))))
def F_law_plan : List D → Src → R Src D := fun ds ω => nox (runS B_law_plan (startT 5 (.src :: ds.map .d)) ω)
def B_law_stage : S Unit :=
  (sSeq (sIf (eB (eOp ltD (eVar 1) (eCall (un1 lenD) (aCons (eDgK (pK 0) (eC (.str "tables"))) aNil)))) (sRet (eOp ixD (eDgK (pK 0) (eC (.str "tables"))) (eVar 1))) sNx)
    (sSeq (sIf (eB (eOp inTD (eDgK (pK 0) (eC (.str "end"))) (eTup (aCons (eC (.str "left")) (aCons (eC (.str "right")) aNil))))) (sRet (eC .non)) sNx)
    (sRet (eOp ixD (eDgK (pK 0) (eC (.str "end"))) (eOp modD (eCall (un1 intD) (aCons (eOp subD (eVar 1) (eCall (un1 lenD) (aCons (eDgK (pK 0) (eC (.str "tables"))) aNil))) aNil)) (eCall (un1 lenD) (aCons (eDgK (pK 0) (eC (.str "end"))) aNil)))))))
def F_law_stage : List D → R Unit D := fun ds => nox (runS B_law_stage (startT 2 (ds.map .d)) ())
def B_law_some_plan : S Src :=
  (sSeq (sPar 2 3 (cW F_law_pick 0 (aCons (eC (.int 6)) aNil)) (cW F_law_table 0 aNil))
    (sSeq (sIf (eB (eOp eqD (eVar 2) (eC (.int 0)))) (sRet (cD F_law_made (aCons (eOp mulD (eFrz (eLst (aCons (eVar 3) aNil))) (cW F_law_pick 0 (aCons (eC (.int 4)) aNil))) (aCons (cW F_law_of 0 (aCons (eFrz (eLst (aCons (eC (.str "left")) (aCons (eC (.str "right")) (aCons (eTup (aCons (eVar 3) aNil)) (aCons (eTup (aCons (eVar 3) (aCons (eVar 3) aNil))) aNil)))))) aNil)) aNil)))) sNx)
    (sSeq (sIf (eB (eOp eqD (eVar 2) (eC (.int 1)))) (sSeq (sFz 4 (sSetO (eLc [5] (iRg rg1 (aCons (eVar 1) aNil)) (bName 5) bYes (cW F_law_any_table 0 (aCons (eOp addD (eC (.int 2)) (cW F_law_pick 0 (aCons (eC (.int 3)) aNil))) aNil))) 4))
    (sRet (cD F_law_made (aCons (eVar 4) (aCons (eCall (un1 tupleD) (aCons (eSl (cW F_law_mixed 0 (aCons (eVar 4) aNil)) oNone (oSome (cW F_law_of 0 (aCons (eFrz (eLst (aCons (eC (.int 1)) (aCons (eC (.int 2)) (aCons (eVar 1) aNil))))) aNil)))) aNil)) aNil))))) sNx)
    (sRet (cW F_law_plan 0 aNil)))))
def F_law_some_plan : List D → Src → R Src D := fun ds ω => nox (runS B_law_some_plan (startT 6 (.src :: ds.map .d)) ω)
def B_Plan_tables : S Unit :=
  (sRet (eFld "_tables" (eVar 0)))
def F_Plan_tables : List D → R Unit D := fun ds => nox (runS B_Plan_tables (startT 1 (ds.map .d)) ())
def B_Plan_end : S Unit :=
  (sRet (eFld "_end" (eVar 0)))
def F_Plan_end : List D → R Unit D := fun ds => nox (runS B_Plan_end (startT 1 (ds.map .d)) ())
def B_Plan_stage : S Unit :=
  (sSeq (sIf (eB (eOp ltD (eVar 1) (eCall (un1 lenD) (aCons (eFld "_tables" (eVar 0)) aNil)))) (sRet (eOp ixD (eFld "_tables" (eVar 0)) (eVar 1))) sNx)
    (sSeq (sIf (eB (eUn (isiD "str") (eFld "_end" (eVar 0)))) (sRet (eC .non)) sNx)
    (sRet (eOp ixD (eFld "_end" (eVar 0)) (eOp modD (eOp subD (eVar 1) (eCall (un1 lenD) (aCons (eFld "_tables" (eVar 0)) aNil))) (eCall (un1 lenD) (aCons (eFld "_end" (eVar 0)) aNil)))))))
def F_Plan_stage : List D → R Unit D := fun ds => nox (runS B_Plan_stage (startT 2 (ds.map .d)) ())
def B_law_plan_right : S Unit :=
  (sSeq (sIf (eB (eOp neD (eCall (un1 reprD) (aCons (eFrz (eLst (aCons (cM "tables" F_Plan_tables (eVar 1) aNil) (aCons (cM "end" F_Plan_end (eVar 1) aNil) aNil)))) aNil)) (eCall (un1 reprD) (aCons (eFrz (eLst (aCons (eDgK (pK 0) (eC (.str "tables"))) (aCons (eDgK (pK 0) (eC (.str "end"))) aNil)))) aNil)))) (sRet (eC (.bl false))) sNx)
    (sSeq (sFor (iSq (eOp addD (eFrz (eLRg (rRg1 (eC (.int 20))))) (eFrz (eLst (aCons (eC (.int 59)) (aCons (eC (.int 60)) (aCons (eOp powD (eC (.int 10)) (eC (.int 30))) (aCons (eOp addD (eOp powD (eC (.int 10)) (eC (.int 30))) (eC (.int 1))) (aCons (eOp addD (eOp powD (eC (.int 10)) (eC (.int 30))) (eC (.int 2))) (aCons (eOp addD (eOp powD (eC (.int 10)) (eC (.int 30))) (eC (.int 5))) aNil)))))))))) (bName 2) (sIf (eB (eOp neD (eCall (un1 reprD) (aCons (cM "stage" F_Plan_stage (eVar 1) (aCons (eVar 2) aNil)) aNil)) (eCall (un1 reprD) (aCons (cD F_law_stage (aCons (eVar 0) (aCons (eVar 2) aNil))) aNil)))) (sRet (eC (.bl false))) sNx))
    (sRet (eC (.bl true)))))
def F_law_plan_right : List D → R Unit D := fun ds => nox (runS B_law_plan_right (startT 3 (ds.map .d)) ())
def B_law_others : S Src :=
  (sSeq (sAsg (eTup (aCons (eDgK (pK 1) (eC (.str "tables"))) (aCons (eDgK (pK 1) (eC (.str "end"))) (aCons (cW F_law_table 0 aNil) aNil)))) (bTup 3 (bCons (bName 2) (bCons (bName 3) (bCons (bName 4) bNil)))))
    (sSeq (sSetO (eLst (aCons (eTup (aCons (eOp addD (eVar 2) (eTup (aCons (eVar 4) aNil))) (aCons (eVar 3) aNil))) (aCons (eTup (aCons (eVar 2) (aCons (eIf (eB (eOp neD (eVar 3) (eC (.str "left")))) (eC (.str "left")) (eC (.str "right"))) aNil))) (aCons (eTup (aCons (eOp addD (eSl (eVar 2) (oSome (eC (.int 1))) oNone) (eTup (aCons (eVar 4) (aCons (eVar 4) aNil)))) (aCons (eVar 3) aNil))) aNil)))) 5)
    (sSeq (sIf (eB (eOp neD (eVar 2) (eTup aNil))) (sPre 5 (sSetO (eAddL (eVar 5) (eFrz (eLst (aCons (eTup (aCons (eSl (eVar 2) (oSome (eC (.int 1))) oNone) (aCons (eVar 3) aNil))) (aCons (eTup (aCons (eSl (eVar 2) oNone (oSome (eUn negD (eC (.int 1))))) (aCons (eVar 3) aNil))) aNil))))) 5)) sNx)
    (sSeq (sApp 5 (eTup (aCons (eRevT (eVar 2)) (aCons (eVar 3) aNil))))
    (sSeq (sIf (eB (eOp ninTD (eVar 3) (eTup (aCons (eC (.str "left")) (aCons (eC (.str "right")) aNil))))) (sPre 5 (sSetO (eAddL (eVar 5) (eFrz (eLst (aCons (eTup (aCons (eVar 2) (aCons (eOp addD (eVar 3) (eVar 3)) aNil))) (aCons (eTup (aCons (eOp addD (eVar 2) (eVar 3)) (aCons (eVar 3) aNil))) (aCons (eTup (aCons (eVar 2) (aCons (eOp addD (eVar 3) (eTup (aCons (eVar 4) aNil))) aNil))) (aCons (eTup (aCons (eVar 2) (aCons (eRevT (eVar 3)) aNil))) aNil))))))) 5)) sNx)
    (sPre 5 (sRet (eFrz (eLc [6] (iSq (eVar 5)) (bName 6) (eB (eOp neD (eVar 6) (eTup (aCons (eVar 2) (aCons (eVar 3) aNil))))) (cI ["_tables", "_end"] F_Plan_init (aCons (eOp ixD (eVar 6) (eC (.int 0))) (aCons (eOp ixD (eVar 6) (eC (.int 1))) aNil))))))))))))
def F_law_others : List D → Src → R Src D := fun ds ω => nox (runS B_law_others (startT 7 (.src :: ds.map .d)) ω)
def B_Plan_eq : S Unit :=
  (sRet (eAnd (eUn isiA (eVar 1)) (eAnd (eOp eqD (eFld "_tables" (eVar 0)) (eFld "_tables" (eVar 1))) (eOp eqD (eFld "_end" (eVar 0)) (eFld "_end" (eVar 1))))))
def F_Plan_eq : List D → R Unit D := fun ds => nox (runS B_Plan_eq (startT 2 (ds.map .d)) ())
def B_law : S Src :=
  (sSeq (sFor (iRg rg1 (aCons (eC (.int 4)) aNil)) (bName 2) (sSeq (sAsg (cW F_law_some_plan 1 (aCons (eC (.int 3)) aNil)) (bName 3))
    (sSeq (sSetO (eLst1 (eDgK (pK 3) (eC (.str "tables")))) 4)
    (sSeq (sAsg (eThaw 4 (cI ["_tables", "_end"] F_Plan_init (aCons (eVar 4) (aCons (eDgK (pK 3) (eC (.str "end"))) aNil)))) (bName 5))
    (sSeq (sIf (bThaw 4 (eB (eOp neD (eVar 4) (eCall (un1 listD) (aCons (eDgK (pK 3) (eC (.str "tables"))) aNil))))) (sRet (eC (.bl false))) sNx)
    (sSeq (sApp 4 (eC .non))
    (sSeq (sIf (bOr (bNot (eB (cD F_law_plan_right (aCons (eVar 3) (aCons (eVar 5) aNil))))) (bNot (eB (cD F_law_plan_right (aCons (eVar 3) (aCons (eDgK (pK 3) (eC (.str "plan"))) aNil)))))) (sRet (eC (.bl false))) sNx)
    (sSeq (sAsg (eFrz (eLst (aCons (eOwnC F_Plan_eq false (eVar 5) (eDgK (pK 3) (eC (.str "plan")))) (aCons (eOwnC F_Plan_eq false (eDgK (pK 3) (eC (.str "plan"))) (eVar 5)) (aCons (eNot (eOwnC F_Plan_eq true (eVar 5) (eDgK (pK 3) (eC (.str "plan"))))) aNil))))) (bName 6))
    (sSeq (sIf (eB (eOp neD (eCall (un1 reprD) (aCons (eVar 6) aNil)) (eCall (un1 reprD) (aCons (eOp mulD (eFrz (eLst (aCons (eC (.bl true)) aNil))) (eC (.int 3))) aNil)))) (sRet (eC (.bl false))) sNx)
    (sSeq (sFor (iSq (cW F_law_others 1 (aCons (eVar 3) aNil))) (bName 7) (sIf (eB (eOp neD (eCall (un1 reprD) (aCons (eFrz (eLst (aCons (eOwnC F_Plan_eq false (eVar 5) (eVar 7)) (aCons (eOwnC F_Plan_eq false (eVar 7) (eVar 5)) (aCons (eOwnC F_Plan_eq true (eVar 5) (eVar 7)) aNil))))) aNil)) (eCall (un1 reprD) (aCons (eFrz (eLst (aCons (eC (.bl false)) (aCons (eC (.bl false)) (aCons (eC (.bl true)) aNil))))) aNil)))) (sRet (eC (.bl false))) sNx))
    (sSeq (sAsg (eTup (aCons (eDgK (pK 3) (eC (.str "tables"))) (aCons (eDgK (pK 3) (eC (.str "end"))) aNil))) (bName 8))
    (sFor (iSq (eFrz (eLst (aCons (eC .non) (aCons (eDgK (pK 3) (eC (.str "tables"))) (aCons (eTup aNil) (aCons (eC (.str "left")) (aCons (eC (.int 0)) (aCons (eCall (un1 listD) (aCons (eVar 8) aNil)) (aCons (eC (.dic [] [])) (aCons (eVar 8) aNil))))))))))) (bName 9) (sIf (eB (eOp neD (eCall (un1 reprD) (aCons (eFrz (eLst (aCons (eOwnC F_Plan_eq false (eVar 5) (eVar 9)) (aCons (eOwnC F_Plan_eq true (eVar 5) (eVar 9)) aNil)))) aNil)) (eCall (un1 reprD) (aCons (eFrz (eLst (aCons (eC (.bl false)) (aCons (eC (.bl true)) aNil)))) aNil)))) (sRet (eC (.bl false))) sNx)))))))))))))
    (sSeq (sFz 10 (sSetO (eLc [15] (iSq (eTup (aCons (eC (.int 2)) (aCons (eC (.int 4)) (aCons (eC (.int 3)) (aCons (eC (.int 3)) (aCons (eC (.int 2)) (aCons (eC (.int 5)) aNil)))))))) (bName 15) bYes (cW F_law_any_table 1 (aCons (eVar 15) aNil))) 10))
    (sSeq (sFor (iSq (eFrz (eLst (aCons (eC (.int 1)) (aCons (eC (.int 5)) (aCons (eC (.int 6)) aNil)))))) (bName 11) (sSeq (sAsg (cD F_law_made (aCons (eVar 10) (aCons (eCall (un1 tupleD) (aCons (eSl (cW F_law_mixed 1 (aCons (eVar 10) aNil)) oNone (oSome (eVar 11))) aNil)) aNil))) (bName 3))
    (sIf (bNot (eB (cD F_law_plan_right (aCons (eVar 3) (aCons (eDgK (pK 3) (eC (.str "plan"))) aNil))))) (sRet (eC (.bl false))) sNx)))
    (sSeq (sAsg (eTup (aCons (eTup aNil) (aCons (eTup aNil) aNil))) (bName 12))
    (sSeq (sPar 13 7 (cI ["_tables", "_end"] F_Plan_init (aCons (eFrz (eLst (aCons (eTup (aCons (eVar 12) aNil)) aNil))) (aCons (eTup (aCons (eTup (aCons (eVar 12) aNil)) aNil)) aNil))) (cI ["_tables", "_end"] F_Plan_init (aCons (eFrz (eLst aNil)) (aCons (eTup (aCons (eTup (aCons (eVar 12) aNil)) aNil)) aNil))))
    (sSeq (sIf (bOr (eB (eOwnC F_Plan_eq false (eVar 13) (eVar 7))) (eB (eOp neD (eFrz (eLst (aCons (cM "stage" F_Plan_stage (eVar 13) (aCons (eC (.int 0)) aNil)) (aCons (cM "stage" F_Plan_stage (eVar 7) (aCons (eC (.int 0)) aNil)) (aCons (cM "stage" F_Plan_stage (eVar 7) (aCons (eOp powD (eC (.int 10)) (eC (.int 30))) aNil)) aNil))))) (eOp mulD (eFrz (eLst (aCons (eTup (aCons (eVar 12) aNil)) aNil))) (eC (.int 3)))))) (sRet (eC (.bl false))) sNx)
    (sSeq (sAsg (cI ["_tables", "_end"] F_Plan_init (aCons (eTup aNil) (aCons (eC (.str "right")) aNil))) (bName 14))
    (sRet (eAnd (eOp eqD (eFrz (eLst (aCons (cM "tables" F_Plan_tables (eVar 14) aNil) (aCons (cM "end" F_Plan_end (eVar 14) aNil) (aCons (cM "stage" F_Plan_stage (eVar 14) (aCons (eC (.int 0)) aNil)) aNil))))) (eFrz (eLst (aCons (eTup aNil) (aCons (eC (.str "right")) (aCons (eC .non) aNil)))))) (eOwnC F_Plan_eq true (eVar 14) (cI ["_tables", "_end"] F_Plan_init (aCons (eFrz (eLst aNil)) (aCons (eC (.str "left")) aNil)))))))))))))
def tau0 : Tau := (List.replicate 16 none).set 1 (some .src)
structure Defs (K : PySem.W.Frag) (mg : Str → Option Value) (im : Addr → Bool) where
  cP : Addr
  hi : ∀ a, im a = true ↔ a = cP
  clP : Cls K cP
  gP : mg "Plan" = some (.ref cP)
  na_end : NoAttr K cP "_end"
  na_tables : NoAttr K cP "_tables"
  tyP : TyP K cP
  neq : PySem.W.findIn K (.ref cP) "__ne__" = some (some (.builtin "object.__ne__"))
  kq : PySem.W.kitOne K (.type "tuple") (.ref cP) = some false
  kqA : ∀ t ∈ ["NoneType", "bool", "int", "str", "tuple", "list", "dict"], PySem.W.kitOne K (.type t) (.ref cP) = some false
  d_wrong_shape_path : DefOk K mg "wrong_shape_path" s_wrong_shape_path ["value"]
  d_size_of : DefOk K mg "size_of" s_size_of ["shape"]
  d_wrong_table_path : DefOk K mg "wrong_table_path" s_wrong_table_path ["value"]
  d_first_wrong_table : DefOk K mg "_first_wrong_table" s_first_wrong_table ["tables"]
  d_wrong_plan_path : DefOk K mg "wrong_plan_path" s_wrong_plan_path ["tables", "end"]
  d_law_source : DefOk K mg "_law_source" s_law_source ["_law_script"]
  d_law_pick : DefOk K mg "_law_pick" s_law_pick ["_law_source_here", "_law_many"]
  d_law_of : DefOk K mg "_law_of" s_law_of ["_law_source_here", "_law_some"]
  d_law_mixed : DefOk K mg "_law_mixed" s_law_mixed ["_law_source_here", "_law_things"]
  d_law_comb : DefOk K mg "_law_comb" s_law_comb ["_law_n", "_law_side"]
  d_law_halves : DefOk K mg "_law_halves" s_law_halves ["_law_n"]
  d_law_shape : DefOk K mg "_law_shape" s_law_shape ["_law_source_here", "_law_n"]
  d_law_size : DefOk K mg "_law_size" s_law_size ["_law_shape_here"]
  d_law_any_table : DefOk K mg "_law_any_table" s_law_any_table ["_law_source_here", "_law_size_here"]
  d_law_entry : DefOk K mg "_law_entry" s_law_entry ["_law_table_here", "_law_m"]
  d_law_filled : DefOk K mg "_law_filled" s_law_filled ["_law_shape_here", "_law_lumps"]
  d_law_pressed : DefOk K mg "_law_pressed" s_law_pressed ["_law_table_here", "_law_row"]
  d_law_glue : DefOk K mg "_law_glue" s_law_glue ["_law_one", "_law_other"]
  d_law_table : DefOk K mg "_law_table" s_law_table ["_law_source_here"]
  d_Plan_init : InitOk K cP "Plan.__init__" s_Plan_init ["self", "tables", "end"]
  d_law_made : DefOk K mg "_law_made" s_law_made ["_law_tables", "_law_end"]
  d_law_plan : DefOk K mg "_law_plan" s_law_plan ["_law_source_here"]
  d_law_stage : DefOk K mg "_law_stage" s_law_stage ["_law_world", "_law_k"]
  d_law_some_plan : DefOk K mg "_law_some_plan" s_law_some_plan ["_law_source_here", "_law_most"]
  d_Plan_tables : MethOk K cP "tables" "Plan.tables" s_Plan_tables ["self"]
  d_Plan_end : MethOk K cP "end" "Plan.end" s_Plan_end ["self"]
  d_Plan_stage : MethOk K cP "stage" "Plan.stage" s_Plan_stage ["self", "k"]
  d_law_plan_right : DefOk K mg "_law_plan_right" s_law_plan_right ["_law_world", "_law_made_here"]
  d_law_others : DefOk K mg "_law_others" s_law_others ["_law_source_here", "_law_world"]
  d_Plan_eq : MethOk K cP "__eq__" "Plan.__eq__" s_Plan_eq ["self", "other"]
  d_law : DefOk K mg "law" s_law ["_law_script"]
  n_tuple : mg "tuple" = none
  n_isinstance : mg "isinstance" = none
  n_len : mg "len" = none
  n_enumerate : mg "enumerate" = none
  n_list : mg "list" = none
  n_int : mg "int" = none
  n_abs : mg "abs" = none
  n_max : mg "max" = none
  n_range : mg "range" = none
  n_str : mg "str" = none
  n_repr : mg "repr" = none
section
variable {P : Program} {w : World} {K : PySem.W.Frag} {mg : Str → Option Value} {base : Heap} {im : Addr → Bool}
theorem ok_law_source (T : Defs K mg im) : FnOk P w K mg base CX0 1 T.d_law_source.f T.d_law_source.fd ["_law_script"] (spSource K im) := by
  have Sc : FnScope ["_law_script", "_law_mixed_here", "_law_cell"] ["_law_script"] (defScope s_law_source) := ⟨rfl, rfl, rfl, by decide +kernel, rfl, by decide +kernel, by decide +kernel⟩
  refine T.d_law_source.F.ok Sc (fun vs H Q E h => ?_) (fun cdv A outer s H vs Q E hr h => ?_)
  · obtain ⟨a, ns, rfl, _⟩ := h
    rfl
  obtain ⟨a, ns, rfl, hS, hlen, k⟩ := h
  refine ⟨_, pss_cons (ps_set (i := 1) Sc.nd rfl (Or.inl rfl) pe_int)
    (pss_cons (ps_for PassesOwn.never rfl (pi_list (pv 0)) (pg_name (i := 2) Sc.nd rfl (Or.inl rfl))
      (pss_one (ps_set (i := 1) Sc.nd rfl (Or.inl rfl) (pe_op op_mod (pe_callTy call_int1 (by rfl) T.n_int (by decide +kernel) (pa_cons (pe_op op_add (pe_op op_add (pe_op op_mul (pv 1) pe_int) (pe_op op_mul (pv 2) pe_int)) pe_int) pa_nil)) pe_int))))
    (pss_one (ps_ret (pe_disp (pps_cons pe_str (pe_revL (pe_lc (own := [("_law_cell", 2)]) rfl Sc.nd (pi_list (pv 0)) (blkOk_by (own := [("_law_cell", 2)]) (N := ["_law_script", "_law_mixed_here", "_law_cell"]) (sc := defScope s_law_source) (by decide +kernel)) (fun _ _ _ _ _ => (pg_name (i := 2) Sc.nd rfl (Or.inl rfl))) (fun _ _ _ _ _ => pts_nil) (fun _ _ _ _ _ => (pe_callB call_abs (by rfl) T.n_abs (by decide +kernel) (pa_cons (pv 2) pa_nil)))))
      (pps_cons pe_str pe_int (pps_cons pe_str (pv 1) (pps_cons pe_str pe_int pps_nil)))) (by rfl) (by rfl) (fun z => by cases z) (by decide))))), ?_⟩
  refine ⟨_, rfl, a, rfl, ⟨_, hS⟩, for_list (K := K) (a := a) (xs := ns.map V.int) (fun i σ H' => H' = H ∧ ∃ v, σ = [some (.ref a), some (.int (mixedOf (ns.take i))), v]) ⟨rfl, none, rfl⟩ (fun i σ H' _ q => by rw [q.1]; exact hS) ?_ ?_⟩
  · rintro i y σ H' hi ⟨rfl, v, rfl⟩
    obtain ⟨u, hu, rfl⟩ : ∃ u, ns[i]? = some u ∧ y = V.int u := by
      rw [List.getElem?_map] at hi
      cases e : ns[i]? with
      | none => rw [e] at hi; cases hi
      | some u => rw [e] at hi; exact ⟨u, rfl, (Option.some.inj hi).symm⟩
    refine ⟨_, rfl, _, _, rfl, rfl, .inr ⟨by decide, by decide⟩, _, rfl, _, _, rfl, rfl, .inr ⟨by decide, by decide⟩, _, _, rfl, rfl, _, _, rfl, rfl, .inl ⟨_, rfl, _, _, rfl, rfl, (by show (0 : Int) < 2147483629; decide), ?_⟩⟩
    refine ⟨rfl, some (.int u), ?_⟩
    have e : mixedOf (ns.take (i + 1)) = (mixedOf (ns.take i) * 69069 + u * 31 + 5) % 2147483629 := by
      unfold mixedOf
      have hlt : i < ns.length := (List.getElem?_eq_some_iff.mp hu).1
      rw [List.take_succ_eq_append_getElem hlt, List.foldl_append, List.foldl_cons, List.foldl_nil, (List.getElem?_eq_some_iff.mp hu).2]
    rw [e]
    rfl
  · rintro σ H' ⟨rfl, v, rfl⟩
    rw [List.length_map, List.take_length]
    intro p hp
    have sm1 : Same H' (upd H' p (.dK [])) := Same.new hp
    refine ⟨_, rfl, a, rfl, ⟨_, Same.seq sm1 hS⟩, fun D hD => lc_list (K := K) (a := a) (xs := ns.map V.int) (fun i H'' => Same (upd H' p (.dK [])) H'' ∧ H'' D = some (.lst ((ns.take i).map fun z => V.int (if z < 0 then -z else z)))) ⟨Same.new hD, upd_same⟩ (fun i H'' _ q => Same.seq q.1 (Same.seq sm1 hS)) ?_ ?_⟩
    · rintro i y H'' hi ⟨q1, q2⟩
      obtain ⟨u, hu, rfl⟩ : ∃ u, ns[i]? = some u ∧ y = V.int u := by
        rw [List.getElem?_map] at hi
        cases e : ns[i]? with
        | none => rw [e] at hi; cases hi
        | some u => rw [e] at hi; exact ⟨u, rfl, (Option.some.inj hi).symm⟩
      have hlt : i < ns.length := (List.getElem?_eq_some_iff.mp hu).1
      refine ⟨rfl, ?_⟩
      refine ⟨_, rfl, u, rfl, _, q2, ?_, ?_, ?_⟩
      · rw [List.length_map, List.length_take, sizeLine_eq]; omega
      · intro b o e
        have ne : b ≠ D := fun q => by subst q; rw [e] at hD; cases hD
        rw [upd_ne ne]; exact q1 b o e
      · rw [upd_same, List.take_succ_eq_append_getElem hlt, List.map_append, List.map_singleton, (List.getElem?_eq_some_iff.mp hu).2]
    · rintro H'' ⟨q1, q2⟩
      rw [List.length_map, List.take_length] at q2
      refine ⟨D, _, rfl, SqL.of q2, fun c hc => ?_⟩
      refine ⟨_, rfl, ?_⟩
      have hp2 : H'' p = some (.dK []) := q1 p _ upd_same
      have npc : p ≠ c := ne_of_none hp2 hc
      have hcH : H' c = none := by
        cases e : H' c with
        | none => rfl
        | some o => have := q1 c o (sm1 c o e); rw [hc] at this; cases this
      refine ⟨by rw [upd_ne npc]; exact hp2, [(.inr "cells", .ref c), (.inr "left", .int 1), (.inr "mixed", .int (mixedOf ns)), (.inr "turn", .int 0)], rfl, (by show 4 ≤ 15; decide), ?_⟩
      have em : mergeK [] [((.inr "cells" : Key), V.ref c), (.inr "left", .int 1), (.inr "mixed", .int (mixedOf ns)), (.inr "turn", .int 0)] = srcKvs c (srcOf ns) := by
        have h1 : ¬ (("cells" : Str) = "left") := by decide +kernel
        have h2 : ¬ (("cells" : Str) = "mixed") := by decide +kernel
        have h3 : ¬ (("left" : Str) = "mixed") := by decide +kernel
        have h4 : ¬ (("cells" : Str) = "turn") := by decide +kernel
        have h5 : ¬ (("left" : Str) = "turn") := by decide +kernel
        have h6 : ¬ (("mixed" : Str) = "turn") := by decide +kernel
        simp [mergeK, putK, srcKvs, srcOf, h1, h2, h3, h4, h5, h6]
      rw [em]
      refine k (p, c) _ (fun b o e => ?_) hp hcH ⟨upd_same, ?_⟩
      · have n1 : b ≠ p := fun q => by subst q; rw [hp] at e; cases e
        have n2 : b ≠ c := fun q => by subst q; rw [hcH] at e; cases e
        rw [upd_ne n1, upd_ne n2]
        exact q1 b o (sm1 b o e)
      · rw [upd_ne npc.symm, upd_same]
        simp [srcOf, List.map_reverse, List.map_map, Function.comp_def]
theorem ok_wrong_shape_path (T : Defs K mg im) : ∀ n, FnOk P w K mg base CX0 (0 + n) T.d_wrong_shape_path.f T.d_wrong_shape_path.fd ["value"] (spD K im 1 (F_wrong_shape_path n))
  | 0 => FnOk.no fun _ _ _ _ => spD_no
  | n + 1 => by
    have ih := ok_wrong_shape_path T n
    have Sc : FnScope ["value", "step", "part", "path"] ["value"] (defScope s_wrong_shape_path) := ⟨rfl, rfl, rfl, by decide +kernel, rfl, by decide +kernel, by decide +kernel⟩
    refine fn_Dx (k := 0 + n) (N := ["value", "step", "part", "path"]) (ps := ["value"]) (F := B_wrong_shape_path (F_wrong_shape_path n)) T.d_wrong_shape_path.F Sc rfl rfl rfl fun cdv A outer s H Ex hr => ?_
    have hu := room_hu hr
    exact ⟨_, (pss_cons (ps_if (PW.pt (pw_or (pt_not (pt_val (pe_callB call_isi (by rfl) T.n_isinstance (by decide +kernel) (pa_cons (pv 0) (pa_cons (pe_bltn rfl T.n_tuple (by rfl) (show RelV (.ty "tuple") (.type "tuple") from rfl)) pa_nil))))) (pw_or1 (pt_cmpR (op_ninDD hu) (pe_callB call_lenDD (by rfl) T.n_len (by decide +kernel) (pa_cons (pv 0) pa_nil)) (pe_tup (pa_cons pe_int (pa_cons pe_int pa_nil))) (by rfl))))) (pss_one (ps_ret (pe_tup pa_nil))) pss_nil)
      (pss_cons (ps_for PassesOwn.never rfl (pi_enumS rfl T.n_enumerate (pa_cons (pv 0) pa_nil)) (pg_sq rfl (pgs_cons (pg_name (i := 1) Sc.nd rfl (by first | exact Or.inl rfl | exact Or.inr rfl)) (pgs_cons (pg_name (i := 2) Sc.nd rfl (by first | exact Or.inl rfl | exact Or.inr rfl)) pgs_nil))) (pss_cons (ps_set (i := 3) Sc.nd rfl (by first | exact Or.inl rfl | exact Or.inr rfl) (pe_call ih hr rfl T.d_wrong_shape_path.g T.d_wrong_shape_path.F.kp T.d_wrong_shape_path.b .nil pass0 (pa_cons (pv 2) pa_nil)))
      (pss_one (ps_if (pt_cmpR op_notND (pv 3) pe_non (nomark _)) (pss_one (ps_ret (pe_op op_addD (pe_tup (pa_cons (pv 1) pa_nil)) (pv 3)))) pss_nil))))
      (pss_one (ps_ret pe_non)))),
      (ds_seq (ds_if (dt_or (dt_not (dt_B (de_isi (de_var 0)))) (dt_test (de_op (de_callN (da_cons (de_var 0) da_nil)) (de_tup (da_cons de_int (da_cons de_int da_nil)))))) (ds_ret (de_tup da_nil)) ds_nx)
      (ds_seq (ds_for (di_enum (de_var 0)) (dg_tup (dgs_cons (dg_name (i := 1)) (dgs_cons (dg_name (i := 2)) dgs_nil))) (ds_seq (ds_asg (dc_D (da_cons (de_var 2) da_nil) (an_cons an_nil)) dg_name)
      (ds_if (dt_test (de_op (de_var 3) de_non)) (ds_ret (de_op (de_tup (da_cons (de_var 1) da_nil)) (de_var 3))) ds_nx)))
      (ds_ret de_non)))⟩
theorem ok_size_of (T : Defs K mg im) : ∀ n, FnOk P w K mg base CX0 (0 + n) T.d_size_of.f T.d_size_of.fd ["shape"] (spD K im 1 (F_size_of n))
  | 0 => FnOk.no fun _ _ _ _ => spD_no
  | n + 1 => by
    have ih := ok_size_of T n
    have Sc : FnScope ["shape"] ["shape"] (defScope s_size_of) := ⟨rfl, rfl, rfl, by decide +kernel, rfl, by decide +kernel, by decide +kernel⟩
    refine fn_Dx (k := 0 + n) (N := ["shape"]) (ps := ["shape"]) (F := B_size_of (F_size_of n)) T.d_size_of.F Sc rfl rfl rfl fun cdv A outer s H Ex hr => ?_
    have hu := room_hu hr
    exact ⟨_, (pss_cons (ps_if (pt_cmpR (op_eqDD hu) (pv 0) (pe_tup pa_nil) (nomark _)) (pss_one (ps_ret pe_int)) pss_nil)
      (pss_one (ps_ret (pe_op op_addD (pe_call ih hr rfl T.d_size_of.g T.d_size_of.F.kp T.d_size_of.b .nil pass0 (pa_cons (pe_ix ix_D (pv 0) pe_int (fun _ _ => rfl)) pa_nil)) (pe_call ih hr rfl T.d_size_of.g T.d_size_of.F.kp T.d_size_of.b .nil pass0 (pa_cons (pe_ix ix_D (pv 0) pe_int (fun _ _ => rfl)) pa_nil)))))),
      (ds_seq (ds_if (dt_test (de_op (de_var 0) (de_tup da_nil))) (ds_ret de_int) ds_nx)
      (ds_ret (de_op (dc_D (da_cons (de_op (de_var 0) de_int) da_nil) (an_cons an_nil)) (dc_D (da_cons (de_op (de_var 0) de_int) da_nil) (an_cons an_nil)))))⟩
theorem ok_wrong_table_path (T : Defs K mg im) : FnOk P w K mg base CX0 71 T.d_wrong_table_path.f T.d_wrong_table_path.fd ["value"] (spD K im 1 F_wrong_table_path) := by
  have G_wrong_shape_path := ok_wrong_shape_path (P := P) (w := w) (base := base) (im := im) T
  have G_size_of := ok_size_of (P := P) (w := w) (base := base) (im := im) T
  have Sc : FnScope ["value", "k", "member", "path"] ["value"] (defScope s_wrong_table_path) := ⟨rfl, rfl, rfl, by decide +kernel, rfl, by decide +kernel, by decide +kernel⟩
  refine fn_Dx (N := ["value", "k", "member", "path"]) (ps := ["value"]) (F := B_wrong_table_path) T.d_wrong_table_path.F Sc rfl rfl rfl fun cdv A outer s H Ex hr => ?_
  have hu := room_hu hr
  exact ⟨_, (pss_cons (ps_if (PW.pt (pw_or (pt_not (pt_val (pe_callB call_isi (by rfl) T.n_isinstance (by decide +kernel) (pa_cons (pv 0) (pa_cons (pe_bltn rfl T.n_tuple (by rfl) (show RelV (.ty "tuple") (.type "tuple") from rfl)) pa_nil))))) (pw_or1 (pt_cmpR (op_eqDD hu) (pe_callB call_lenDD (by rfl) T.n_len (by decide +kernel) (pa_cons (pv 0) pa_nil)) pe_int (nomark _))))) (pss_one (ps_ret (pe_tup pa_nil))) pss_nil)
      (pss_cons (ps_for PassesOwn.never rfl (pi_enumS rfl T.n_enumerate (pa_cons (pv 0) pa_nil)) (pg_sq rfl (pgs_cons (pg_name (i := 1) Sc.nd rfl (by first | exact Or.inl rfl | exact Or.inr rfl)) (pgs_cons (pg_name (i := 2) Sc.nd rfl (by first | exact Or.inl rfl | exact Or.inr rfl)) pgs_nil))) (pss_cons (ps_set (i := 3) Sc.nd rfl (by first | exact Or.inl rfl | exact Or.inr rfl) (pe_call (G_wrong_shape_path 70) (hr.mono (by first | decide | omega)) rfl T.d_wrong_shape_path.g T.d_wrong_shape_path.F.kp T.d_wrong_shape_path.b .nil pass0 (pa_cons (pv 2) pa_nil)))
      (pss_one (ps_if (pt_cmpR op_notND (pv 3) pe_non (nomark _)) (pss_one (ps_ret (pe_op op_addD (pe_tup (pa_cons (pv 1) pa_nil)) (pv 3)))) pss_nil))))
      (pss_cons (ps_for PassesOwn.never rfl (pi_enumS rfl T.n_enumerate (pa_cons (pv 0) pa_nil)) (pg_sq rfl (pgs_cons (pg_name (i := 1) Sc.nd rfl (by first | exact Or.inl rfl | exact Or.inr rfl)) (pgs_cons (pg_name (i := 2) Sc.nd rfl (by first | exact Or.inl rfl | exact Or.inr rfl)) pgs_nil))) (pss_one (ps_if (pt_cmpR (op_neDD hu) (pe_call (G_size_of 70) (hr.mono (by first | decide | omega)) rfl T.d_size_of.g T.d_size_of.F.kp T.d_size_of.b .nil pass0 (pa_cons (pv 2) pa_nil)) (pe_op op_addD (pv 1) pe_int) (nomark _)) (pss_one (ps_ret (pe_tup (pa_cons (pv 1) pa_nil)))) pss_nil)))
      (pss_one (ps_ret pe_non))))),
      (ds_seq (ds_if (dt_or (dt_not (dt_B (de_isi (de_var 0)))) (dt_test (de_op (de_callN (da_cons (de_var 0) da_nil)) de_int))) (ds_ret (de_tup da_nil)) ds_nx)
      (ds_seq (ds_for (di_enum (de_var 0)) (dg_tup (dgs_cons (dg_name (i := 1)) (dgs_cons (dg_name (i := 2)) dgs_nil))) (ds_seq (ds_asg (dc_D (da_cons (de_var 2) da_nil) (an_cons an_nil)) dg_name)
      (ds_if (dt_test (de_op (de_var 3) de_non)) (ds_ret (de_op (de_tup (da_cons (de_var 1) da_nil)) (de_var 3))) ds_nx)))
      (ds_seq (ds_for (di_enum (de_var 0)) (dg_tup (dgs_cons (dg_name (i := 1)) (dgs_cons (dg_name (i := 2)) dgs_nil))) (ds_if (dt_test (de_op (dc_D (da_cons (de_var 2) da_nil) (an_cons an_nil)) (de_op (de_var 1) de_int))) (ds_ret (de_tup (da_cons (de_var 1) da_nil))) ds_nx))
      (ds_ret de_non))))⟩
theorem ok_first_wrong_table (T : Defs K mg im) : FnOk P w K mg base CX0 72 T.d_first_wrong_table.f T.d_first_wrong_table.fd ["tables"] (spD K im 1 F_first_wrong_table) := by
  have G_wrong_table_path := ok_wrong_table_path (P := P) (w := w) (base := base) (im := im) T
  have Sc : FnScope ["tables", "k", "member", "path"] ["tables"] (defScope s_first_wrong_table) := ⟨rfl, rfl, rfl, by decide +kernel, rfl, by decide +kernel, by decide +kernel⟩
  refine fn_Dx (N := ["tables", "k", "member", "path"]) (ps := ["tables"]) (F := B_first_wrong_table) T.d_first_wrong_table.F Sc rfl rfl rfl fun cdv A outer s H Ex hr => ?_
  have hu := room_hu hr
  exact ⟨_, (pss_cons (ps_for PassesOwn.never rfl (pi_enumS rfl T.n_enumerate (pa_cons (pv 0) pa_nil)) (pg_sq rfl (pgs_cons (pg_name (i := 1) Sc.nd rfl (by first | exact Or.inl rfl | exact Or.inr rfl)) (pgs_cons (pg_name (i := 2) Sc.nd rfl (by first | exact Or.inl rfl | exact Or.inr rfl)) pgs_nil))) (pss_cons (ps_set (i := 3) Sc.nd rfl (by first | exact Or.inl rfl | exact Or.inr rfl) (pe_call G_wrong_table_path (hr.mono (by first | decide | omega)) rfl T.d_wrong_table_path.g T.d_wrong_table_path.F.kp T.d_wrong_table_path.b .nil pass0 (pa_cons (pv 2) pa_nil)))
      (pss_one (ps_if (pt_cmpR op_notND (pv 3) pe_non (nomark _)) (pss_one (ps_ret (pe_op op_addD (pe_tup (pa_cons (pv 1) pa_nil)) (pv 3)))) pss_nil))))
      (pss_one (ps_ret pe_non))),
      (ds_seq (ds_for (di_enum (de_var 0)) (dg_tup (dgs_cons (dg_name (i := 1)) (dgs_cons (dg_name (i := 2)) dgs_nil))) (ds_seq (ds_asg (dc_D (da_cons (de_var 2) da_nil) (an_cons an_nil)) dg_name)
      (ds_if (dt_test (de_op (de_var 3) de_non)) (ds_ret (de_op (de_tup (da_cons (de_var 1) da_nil)) (de_var 3))) ds_nx)))
      (ds_ret de_non))⟩
theorem ok_wrong_plan_path (T : Defs K mg im) : FnOk P w K mg base CX0 73 T.d_wrong_plan_path.f T.d_wrong_plan_path.fd ["tables", "end"] (spD K im 2 F_wrong_plan_path) := by
  have G_first_wrong_table := ok_first_wrong_table (P := P) (w := w) (base := base) (im := im) T
  have Sc : FnScope ["tables", "end", "path"] ["tables", "end"] (defScope s_wrong_plan_path) := ⟨rfl, rfl, rfl, by decide +kernel, rfl, by decide +kernel, by decide +kernel⟩
  refine fn_Dx (N := ["tables", "end", "path"]) (ps := ["tables", "end"]) (F := B_wrong_plan_path) T.d_wrong_plan_path.F Sc rfl rfl rfl fun cdv A outer s H Ex hr => ?_
  have hu := room_hu hr
  exact ⟨_, (pss_cons (ps_if (pt_not (pt_val (pe_callB call_isiT (by rfl) T.n_isinstance (by decide +kernel) (pa_cons (pv 0) (pa_cons (pe_tup (pa_cons (pe_bltn rfl T.n_list (by rfl) (show RelV (.ty "list") (.type "list") from rfl)) (pa_cons (pe_bltn rfl T.n_tuple (by rfl) (show RelV (.ty "tuple") (.type "tuple") from rfl)) pa_nil))) pa_nil))))) (pss_one (ps_ret (pe_tup (pa_cons pe_int pa_nil)))) pss_nil)
      (pss_cons (ps_set (i := 2) Sc.nd rfl (by first | exact Or.inl rfl | exact Or.inr rfl) (pe_call G_first_wrong_table (hr.mono (by first | decide | omega)) rfl T.d_first_wrong_table.g T.d_first_wrong_table.F.kp T.d_first_wrong_table.b .nil pass0 (pa_cons (pv 0) pa_nil)))
      (pss_cons (ps_if (pt_cmpR op_notND (pv 2) pe_non (nomark _)) (pss_one (ps_ret (pe_op op_addD (pe_tup (pa_cons pe_int pa_nil)) (pv 2)))) pss_nil)
      (pss_cons (ps_if (PW.pt (pw_or (pt_cmpR (op_eqDD hu) (pv 1) pe_str (nomark _)) (pw_or1 (pt_cmpR (op_eqDD hu) (pv 1) pe_str (nomark _))))) (pss_one (ps_ret pe_non)) pss_nil)
      (pss_cons (ps_if (PW.pt (pw_or (pt_not (pt_val (pe_callB call_isi (by rfl) T.n_isinstance (by decide +kernel) (pa_cons (pv 1) (pa_cons (pe_bltn rfl T.n_tuple (by rfl) (show RelV (.ty "tuple") (.type "tuple") from rfl)) pa_nil))))) (pw_or1 (pt_cmpR (op_eqDD hu) (pe_callB call_lenDD (by rfl) T.n_len (by decide +kernel) (pa_cons (pv 1) pa_nil)) pe_int (nomark _))))) (pss_one (ps_ret (pe_tup (pa_cons pe_int pa_nil)))) pss_nil)
      (pss_cons (ps_set (i := 2) Sc.nd rfl (by first | exact Or.inl rfl | exact Or.inr rfl) (pe_call G_first_wrong_table (hr.mono (by first | decide | omega)) rfl T.d_first_wrong_table.g T.d_first_wrong_table.F.kp T.d_first_wrong_table.b .nil pass0 (pa_cons (pv 1) pa_nil)))
      (pss_cons (ps_if (pt_cmpR op_notND (pv 2) pe_non (nomark _)) (pss_one (ps_ret (pe_op op_addD (pe_tup (pa_cons pe_int pa_nil)) (pv 2)))) pss_nil)
      (pss_one (ps_ret pe_non))))))))),
      (ds_seq (ds_if (dt_not (dt_B (de_isi2 (de_var 0)))) (ds_ret (de_tup (da_cons de_int da_nil))) ds_nx)
      (ds_seq (ds_asg (dc_D (da_cons (de_var 0) da_nil) (an_cons an_nil)) dg_name)
      (ds_seq (ds_if (dt_test (de_op (de_var 2) de_non)) (ds_ret (de_op (de_tup (da_cons de_int da_nil)) (de_var 2))) ds_nx)
      (ds_seq (ds_if (dt_or (dt_test (de_op (de_var 1) de_str)) (dt_test (de_op (de_var 1) de_str))) (ds_ret de_non) ds_nx)
      (ds_seq (ds_if (dt_or (dt_not (dt_B (de_isi (de_var 1)))) (dt_test (de_op (de_callN (da_cons (de_var 1) da_nil)) de_int))) (ds_ret (de_tup (da_cons de_int da_nil))) ds_nx)
      (ds_seq (ds_asg (dc_D (da_cons (de_var 1) da_nil) (an_cons an_nil)) dg_name)
      (ds_seq (ds_if (dt_test (de_op (de_var 2) de_non)) (ds_ret (de_op (de_tup (da_cons de_int da_nil)) (de_var 2))) ds_nx)
      (ds_ret de_non))))))))⟩
theorem ok_law_pick (T : Defs K mg im) : FnOk P w K mg base CX0 1 T.d_law_pick.f T.d_law_pick.fd ["_law_source_here", "_law_many"] (spW K (srcG im) 2 0 F_law_pick) := by
  have Sc : FnScope ["_law_source_here", "_law_many", "_law_left", "_law_mixed_here"] ["_law_source_here", "_law_many"] (defScope s_law_pick) := ⟨rfl, rfl, rfl, by decide +kernel, rfl, by decide +kernel, by decide +kernel⟩
  refine fn_Wx (Γ := srcG im) (N := ["_law_source_here", "_law_many", "_law_left", "_law_mixed_here"]) (ps := ["_law_source_here", "_law_many"]) (F := B_law_pick) T.d_law_pick.F Sc rfl rfl rfl fun p cdv A outer s H Ex hr => ?_
  have hu := room_hu hr
  exact ⟨_, (pss_cons (ps_while PassesOwn.never (PW.pt (pw_and (pt_cmpR op_gtD (pv 1) pe_int (nomark _)) (pw_and (pt_cmpR op_ltD (pe_dget (hu1 hu) (pv 0) pe_str (fun _ _ => rfl)) pe_int (nomark _)) (pw_and1 (pt_cmpR op_gtD (pe_callB call_len_seq (by rfl) T.n_len (by decide +kernel) (pa_cons (pe_dget (hu1 hu) (pv 0) pe_str (fun _ _ => rfl)) pa_nil)) pe_int (nomark _)))))) (pss_one (ps_dput (hu1 hu) (pv 0) pe_str (pe_bm0 PySem.F.plainAttrs_list PySem.F.slot_list_pop PySem.F.type_list_pop mt_pop (pe_dget (hu1 hu) (pv 0) pe_str (fun _ _ => rfl))) (by rfl))))
      (pss_cons (ps_set (i := 2) Sc.nd rfl (by first | exact Or.inl rfl | exact Or.inr rfl) (pe_dget (hu1 hu) (pv 0) pe_str (fun _ _ => rfl)))
      (pss_cons (ps_if (PW.pt (pw_or (pt_cmpR op_ltD (pv 1) pe_int (nomark _)) (pw_or1 (pt_cmpR op_gtD (pv 2) pe_int (nomark _))))) (pss_cons (ps_dput (hu1 hu) (pv 0) pe_str (pe_op op_fdivD (pv 2) (pe_callB (call_max2DD rfl) (by rfl) T.n_max (by decide +kernel) (pa_cons pe_int (pa_cons (pv 1) pa_nil)))) (by rfl))
      (pss_one (ps_ret (pe_op op_modD (pe_callTy call_intDD (by rfl) T.n_int (by decide +kernel) (pa_cons (pv 2) pa_nil)) (pe_callB (call_max2DD rfl) (by rfl) T.n_max (by decide +kernel) (pa_cons pe_int (pa_cons (pv 1) pa_nil))))))) pss_nil)
      (pss_cons (ps_dput (hu1 hu) (pv 0) pe_str (pe_op op_addD (pe_dget (hu1 hu) (pv 0) pe_str (fun _ _ => rfl)) pe_int) (by rfl))
      (pss_cons (ps_set (i := 3) Sc.nd rfl (by first | exact Or.inl rfl | exact Or.inr rfl) (pe_op op_modD (pe_callTy call_intDD (by rfl) T.n_int (by decide +kernel) (pa_cons (pe_op op_addD (pe_dget (hu1 hu) (pv 0) pe_str (fun _ _ => rfl)) (pe_op op_mulD (pe_dget (hu1 hu) (pv 0) pe_str (fun _ _ => rfl)) pe_int)) pa_nil)) pe_int))
      (pss_cons (ps_set (i := 3) Sc.nd rfl (by first | exact Or.inl rfl | exact Or.inr rfl) (pe_op op_modD (pe_callTy call_intDD (by rfl) T.n_int (by decide +kernel) (pa_cons (pe_op op_addD (pe_op op_mulD (pv 3) (pv 3)) (pe_op op_mulD (pe_dget (hu1 hu) (pv 0) pe_str (fun _ _ => rfl)) pe_int)) pa_nil)) pe_int))
      (pss_cons (ps_dput (hu1 hu) (pv 0) pe_str (pv 3) (by rfl))
      (pss_one (ps_ret (pe_op op_modD (pe_callTy call_intDD (by rfl) T.n_int (by decide +kernel) (pa_cons (pe_op op_fdivD (pv 3) pe_int) pa_nil)) (pv 1))))))))))),
      (ds_seq (ds_while (n := (fun _ ω => ω.cells.length + 2)) (dt_and (dt_test (de_op (de_var 1) de_int)) (dt_and (dt_test (de_op de_srcL de_int)) (dt_test (de_op de_srcN de_int)))) (ds_srcL de_srcP))
      (ds_seq (ds_asg de_srcL dg_name)
      (ds_seq (ds_if (dt_or (dt_test (de_op (de_var 1) de_int)) (dt_test (de_op (de_var 2) de_int))) (ds_seq (ds_srcL (de_op (de_var 2) (de_callN (da_cons de_int (da_cons (de_var 1) da_nil)))))
      (ds_ret (de_op (de_callN (da_cons (de_var 2) da_nil)) (de_callN (da_cons de_int (da_cons (de_var 1) da_nil)))))) ds_nx)
      (ds_seq (ds_srcT (de_op de_srcT de_int))
      (ds_seq (ds_asg (de_op (de_callN (da_cons (de_op de_srcM (de_op de_srcT de_int)) da_nil)) de_int) dg_name)
      (ds_seq (ds_asg (de_op (de_callN (da_cons (de_op (de_op (de_var 3) (de_var 3)) (de_op de_srcT de_int)) da_nil)) de_int) dg_name)
      (ds_seq (ds_srcM (de_var 3))
      (ds_ret (de_op (de_callN (da_cons (de_op (de_var 3) de_int) da_nil)) (de_var 1))))))))))⟩
theorem ok_law_of (T : Defs K mg im) : FnOk P w K mg base CX0 2 T.d_law_of.f T.d_law_of.fd ["_law_source_here", "_law_some"] (spW K (srcG im) 2 0 F_law_of) := by
  have G_law_pick := ok_law_pick (P := P) (w := w) (base := base) (im := im) T
  have Sc : FnScope ["_law_source_here", "_law_some"] ["_law_source_here", "_law_some"] (defScope s_law_of) := ⟨rfl, rfl, rfl, by decide +kernel, rfl, by decide +kernel, by decide +kernel⟩
  refine fn_Wx (Γ := srcG im) (N := ["_law_source_here", "_law_some"]) (ps := ["_law_source_here", "_law_some"]) (F := B_law_of) T.d_law_of.F Sc rfl rfl rfl fun p cdv A outer s H Ex hr => ?_
  have hu := room_hu hr
  exact ⟨_, (pss_one (ps_ret (pe_ix ix_D (pv 1) (pe_call G_law_pick (hr.mono (by first | decide | omega)) rfl T.d_law_pick.g T.d_law_pick.F.kp T.d_law_pick.b .nil pass0 (pa_cons (pv 0) (pa_cons (pe_callB call_lenDD (by rfl) T.n_len (by decide +kernel) (pa_cons (pv 1) pa_nil)) pa_nil))) (fun _ _ => rfl)))),
      (ds_ret (de_op (de_var 1) (dc_W (da_cons (de_callN (da_cons (de_var 1) da_nil)) da_nil) (an_cons an_nil))))⟩
theorem ok_law_mixed (T : Defs K mg im) : FnOk P w K mg base CX0 2 T.d_law_mixed.f T.d_law_mixed.fd ["_law_source_here", "_law_things"] (spW K (srcG im) 2 0 F_law_mixed) := by
  have G_law_pick := ok_law_pick (P := P) (w := w) (base := base) (im := im) T
  have Sc : FnScope ["_law_source_here", "_law_things", "_law_rest", "_law_lap"] ["_law_source_here", "_law_things"] (defScope s_law_mixed) := ⟨rfl, rfl, rfl, by decide +kernel, rfl, by decide +kernel, by decide +kernel⟩
  refine fn_Wx (Γ := srcG im) (N := ["_law_source_here", "_law_things", "_law_rest", "_law_lap"]) (ps := ["_law_source_here", "_law_things"]) (F := B_law_mixed) T.d_law_mixed.F Sc rfl rfl rfl fun p cdv A outer s H Ex hr => ?_
  have hu := room_hu hr
  exact ⟨_, (pss_cons (ps_set (i := 2) Sc.nd rfl (by first | exact Or.inl rfl | exact Or.inr rfl) (pe_callTy call_list_of (by rfl) T.n_list (by decide +kernel) (pa_cons (pv 1) pa_nil)))
      (pss_one (ps_ret (pe_frz (pe_lc (own := [("_law_lap", 3)]) rfl Sc.nd (pi_range1 rfl T.n_range (pa_cons (pe_callB call_len_seq (by rfl) T.n_len (by decide +kernel) (pa_cons (pv 2) pa_nil)) pa_nil)) (blkOk_by (own := [("_law_lap", 3)]) (N := ["_law_source_here", "_law_things", "_law_rest", "_law_lap"]) (sc := defScope s_law_mixed) (by decide +kernel)) (fun _ _ _ _ _ => (pg_name (i := 3) Sc.nd rfl (by first | exact Or.inl rfl | exact Or.inr rfl))) (fun _ _ _ _ _ => pts_nil) (fun _ _ _ _ _ => by exact (pe_bm PySem.F.plainAttrs_list PySem.F.slot_list_pop PySem.F.type_list_pop mt_popAt (pv 2) (pa_cons (pe_call G_law_pick (hr.mono (by first | decide | omega)) rfl T.d_law_pick.g T.d_law_pick.F.kp T.d_law_pick.b .nil pass0 (pa_cons (pv 0) (pa_cons (pe_callB call_len_seq (by rfl) T.n_len (by decide +kernel) (pa_cons (pv 2) pa_nil)) pa_nil))) pa_nil)))))))),
      (ds_seq (ds_setO (dl_list1 (de_var 1)))
      (ds_retPop (W' := fun _ _ _ _ => False) (vs := [3]) (di_rg1 (da_cons de_oLen da_nil)) (dg_name (i := 3)) (dc_W (da_cons de_oLen da_nil) (an_cons an_nil)) (fun _ h => h) (by decide)))⟩
theorem ok_law_comb (T : Defs K mg im) : FnOk P w K mg base CX0 1 T.d_law_comb.f T.d_law_comb.fd ["_law_n", "_law_side"] (spD K im 2 F_law_comb) := by
  have Sc : FnScope ["_law_n", "_law_side", "_law_found", "_law_lap"] ["_law_n", "_law_side"] (defScope s_law_comb) := ⟨rfl, rfl, rfl, by decide +kernel, rfl, by decide +kernel, by decide +kernel⟩
  refine fn_Dx (N := ["_law_n", "_law_side", "_law_found", "_law_lap"]) (ps := ["_law_n", "_law_side"]) (F := B_law_comb) T.d_law_comb.F Sc rfl rfl rfl fun cdv A outer s H Ex hr => ?_
  have hu := room_hu hr
  exact ⟨_, (pss_cons (ps_set (i := 2) Sc.nd rfl (by first | exact Or.inl rfl | exact Or.inr rfl) (pe_tup pa_nil))
      (pss_cons (ps_for PassesOwn.never rfl (pi_range1 rfl T.n_range (pa_cons (pe_op op_subD (pv 0) pe_int) pa_nil)) (pg_name (i := 3) Sc.nd rfl (by first | exact Or.inl rfl | exact Or.inr rfl)) (pss_one (ps_set (i := 2) Sc.nd rfl (by first | exact Or.inl rfl | exact Or.inr rfl) (pe_ifExp (pt_cmpR (op_eqDD hu) (pv 1) pe_str (nomark _)) (pe_tup (pa_cons (pv 2) (pa_cons (pe_tup pa_nil) pa_nil))) (pe_tup (pa_cons (pe_tup pa_nil) (pa_cons (pv 2) pa_nil)))))))
      (pss_one (ps_ret (pv 2))))),
      (ds_seq (ds_asg (de_tup da_nil) dg_name)
      (ds_seq (ds_for (di_rg1 (da_cons (de_op (de_var 0) de_int) da_nil)) (dg_name (i := 3)) (ds_asg (de_if (dt_test (de_op (de_var 1) de_str)) (de_tup (da_cons (de_var 2) (da_cons (de_tup da_nil) da_nil))) (de_tup (da_cons (de_tup da_nil) (da_cons (de_var 2) da_nil)))) dg_name))
      (ds_ret (de_var 2))))⟩
theorem ok_law_halves (T : Defs K mg im) : ∀ n, FnOk P w K mg base CX0 (0 + n) T.d_law_halves.f T.d_law_halves.fd ["_law_n"] (spD K im 1 (F_law_halves n))
  | 0 => FnOk.no fun _ _ _ _ => spD_no
  | n + 1 => by
    have ih := ok_law_halves T n
    have Sc : FnScope ["_law_n"] ["_law_n"] (defScope s_law_halves) := ⟨rfl, rfl, rfl, by decide +kernel, rfl, by decide +kernel, by decide +kernel⟩
    refine fn_Dx (k := 0 + n) (N := ["_law_n"]) (ps := ["_law_n"]) (F := B_law_halves (F_law_halves n)) T.d_law_halves.F Sc rfl rfl rfl fun cdv A outer s H Ex hr => ?_
    have hu := room_hu hr
    exact ⟨_, (pss_one (ps_ret (pe_ifExp (pt_cmpR op_ltD (pv 0) pe_int (nomark _)) (pe_tup pa_nil) (pe_tup (pa_cons (pe_call ih hr rfl T.d_law_halves.g T.d_law_halves.F.kp T.d_law_halves.b .nil pass0 (pa_cons (pe_op op_subD (pv 0) (pe_op op_fdivD (pv 0) pe_int)) pa_nil)) (pa_cons (pe_call ih hr rfl T.d_law_halves.g T.d_law_halves.F.kp T.d_law_halves.b .nil pass0 (pa_cons (pe_op op_fdivD (pv 0) pe_int) pa_nil)) pa_nil)))))),
      (ds_ret (de_if (dt_test (de_op (de_var 0) de_int)) (de_tup da_nil) (de_tup (da_cons (dc_D (da_cons (de_op (de_var 0) (de_op (de_var 0) de_int)) da_nil) (an_cons an_nil)) (da_cons (dc_D (da_cons (de_op (de_var 0) de_int) da_nil) (an_cons an_nil)) da_nil)))))⟩
theorem ok_law_shape (T : Defs K mg im) : ∀ n, FnOk P w K mg base CX0 (70 + n) T.d_law_shape.f T.d_law_shape.fd ["_law_source_here", "_law_n"] (spW K (srcG im) 2 0 (F_law_shape n))
  | 0 => FnOk.no fun _ _ _ _ => spW_no
  | n + 1 => by
    have ih := ok_law_shape T n
    have G_law_pick := ok_law_pick (P := P) (w := w) (base := base) (im := im) T
    have G_law_comb := ok_law_comb (P := P) (w := w) (base := base) (im := im) T
    have G_law_halves := ok_law_halves (P := P) (w := w) (base := base) (im := im) T
    have Sc : FnScope ["_law_source_here", "_law_n", "_law_way", "_law_at"] ["_law_source_here", "_law_n"] (defScope s_law_shape) := ⟨rfl, rfl, rfl, by decide +kernel, rfl, by decide +kernel, by decide +kernel⟩
    refine fn_Wx (Γ := srcG im) (k := 70 + n) (N := ["_law_source_here", "_law_n", "_law_way", "_law_at"]) (ps := ["_law_source_here", "_law_n"]) (F := B_law_shape (F_law_shape n)) T.d_law_shape.F Sc rfl rfl rfl fun p cdv A outer s H Ex hr => ?_
    have hu := room_hu hr
    exact ⟨_, (pss_cons (ps_set (i := 2) Sc.nd rfl (by first | exact Or.inl rfl | exact Or.inr rfl) (pe_call G_law_pick (hr.mono (by first | decide | omega)) rfl T.d_law_pick.g T.d_law_pick.F.kp T.d_law_pick.b .nil pass0 (pa_cons (pv 0) (pa_cons pe_int pa_nil))))
      (pss_cons (ps_if (PW.pt (pw_or (pt_cmpR op_ltD (pv 1) pe_int (nomark _)) (pw_or1 (pt_cmpR op_ltD (pv 2) pe_int (nomark _))))) (pss_one (ps_ret (pe_ix ix_D (pe_frz (pe_lst (pa_cons (pe_call G_law_comb (hr.mono (by first | decide | omega)) rfl T.d_law_comb.g T.d_law_comb.F.kp T.d_law_comb.b .nil pass0 (pa_cons (pv 1) (pa_cons pe_str pa_nil))) (pa_cons (pe_call G_law_comb (hr.mono (by first | decide | omega)) rfl T.d_law_comb.g T.d_law_comb.F.kp T.d_law_comb.b .nil pass0 (pa_cons (pv 1) (pa_cons pe_str pa_nil))) (pa_cons (pe_call (G_law_halves 70) (hr.mono (by first | decide | omega)) rfl T.d_law_halves.g T.d_law_halves.F.kp T.d_law_halves.b .nil pass0 (pa_cons (pv 1) pa_nil)) pa_nil))))) (pe_ifExp (pt_cmpR op_ltD (pv 2) pe_int (nomark _)) (pv 2) pe_int) (fun _ _ => rfl)))) pss_nil)
      (pss_cons (ps_set (i := 3) Sc.nd rfl (by first | exact Or.inl rfl | exact Or.inr rfl) (pe_op op_addD pe_int (pe_call G_law_pick (hr.mono (by first | decide | omega)) rfl T.d_law_pick.g T.d_law_pick.F.kp T.d_law_pick.b .nil pass0 (pa_cons (pv 0) (pa_cons (pe_op op_subD (pv 1) pe_int) pa_nil)))))
      (pss_one (ps_ret (pe_tup (pa_cons (pe_call ih hr rfl T.d_law_shape.g T.d_law_shape.F.kp T.d_law_shape.b .nil pass0 (pa_cons (pv 0) (pa_cons (pv 3) pa_nil))) (pa_cons (pe_call ih hr rfl T.d_law_shape.g T.d_law_shape.F.kp T.d_law_shape.b .nil pass0 (pa_cons (pv 0) (pa_cons (pe_op op_subD (pv 1) (pv 3)) pa_nil))) pa_nil)))))))),
      (ds_seq (ds_asg (dc_W (da_cons de_int da_nil) (an_cons an_nil)) dg_name)
      (ds_seq (ds_if (dt_or (dt_test (de_op (de_var 1) de_int)) (dt_test (de_op (de_var 2) de_int))) (ds_ret (de_op (de_frz (dl_lst (da_cons (dc_D (da_cons (de_var 1) (da_cons de_str da_nil)) (an_cons (an_cons an_nil))) (da_cons (dc_D (da_cons (de_var 1) (da_cons de_str da_nil)) (an_cons (an_cons an_nil))) (da_cons (dc_D (da_cons (de_var 1) da_nil) (an_cons an_nil)) da_nil))))) (de_if (dt_test (de_op (de_var 2) de_int)) (de_var 2) de_int))) ds_nx)
      (ds_seq (ds_asg (de_op de_int (dc_W (da_cons (de_op (de_var 1) de_int) da_nil) (an_cons an_nil))) dg_name)
      (ds_ret (de_tup (da_cons (dc_W (da_cons (de_var 3) da_nil) (an_cons an_nil)) (da_cons (dc_W (da_cons (de_op (de_var 1) (de_var 3)) da_nil) (an_cons an_nil)) da_nil)))))))⟩
theorem ok_law_size (T : Defs K mg im) : ∀ n, FnOk P w K mg base CX0 (0 + n) T.d_law_size.f T.d_law_size.fd ["_law_shape_here"] (spD K im 1 (F_law_size n))
  | 0 => FnOk.no fun _ _ _ _ => spD_no
  | n + 1 => by
    have ih := ok_law_size T n
    have Sc : FnScope ["_law_shape_here"] ["_law_shape_here"] (defScope s_law_size) := ⟨rfl, rfl, rfl, by decide +kernel, rfl, by decide +kernel, by decide +kernel⟩
    refine fn_Dx (k := 0 + n) (N := ["_law_shape_here"]) (ps := ["_law_shape_here"]) (F := B_law_size (F_law_size n)) T.d_law_size.F Sc rfl rfl rfl fun cdv A outer s H Ex hr => ?_
    have hu := room_hu hr
    exact ⟨_, (pss_one (ps_ret (pe_ifExp (pt_cmpR (op_eqDD hu) (pv 0) (pe_tup pa_nil) (nomark _)) pe_int (pe_op op_addD (pe_call ih hr rfl T.d_law_size.g T.d_law_size.F.kp T.d_law_size.b .nil pass0 (pa_cons (pe_ix ix_D (pv 0) pe_int (fun _ _ => rfl)) pa_nil)) (pe_call ih hr rfl T.d_law_size.g T.d_law_size.F.kp T.d_law_size.b .nil pass0 (pa_cons (pe_ix ix_D (pv 0) pe_int (fun _ _ => rfl)) pa_nil)))))),
      (ds_ret (de_if (dt_test (de_op (de_var 0) (de_tup da_nil))) de_int (de_op (dc_D (da_cons (de_op (de_var 0) de_int) da_nil) (an_cons an_nil)) (dc_D (da_cons (de_op (de_var 0) de_int) da_nil) (an_cons an_nil)))))⟩
theorem ok_law_any_table (T : Defs K mg im) : FnOk P w K mg base CX0 141 T.d_law_any_table.f T.d_law_any_table.fd ["_law_source_here", "_law_size_here"] (spW K (srcG im) 2 0 F_law_any_table) := by
  have G_law_shape := ok_law_shape (P := P) (w := w) (base := base) (im := im) T
  have Sc : FnScope ["_law_source_here", "_law_size_here", "_law_m"] ["_law_source_here", "_law_size_here"] (defScope s_law_any_table) := ⟨rfl, rfl, rfl, by decide +kernel, rfl, by decide +kernel, by decide +kernel⟩
  refine fn_Wx (Γ := srcG im) (N := ["_law_source_here", "_law_size_here", "_law_m"]) (ps := ["_law_source_here", "_law_size_here"]) (F := B_law_any_table) T.d_law_any_table.F Sc rfl rfl rfl fun p cdv A outer s H Ex hr => ?_
  have hu := room_hu hr
  exact ⟨_, (pss_one (ps_ret (pe_callTy call_tupleDD (by rfl) T.n_tuple (by decide +kernel) (pa_cons (pe_frz (pe_lc (own := [("_law_m", 2)]) rfl Sc.nd (pi_range2 rfl T.n_range (pa_cons pe_int (pa_cons (pe_op op_addD (pv 1) pe_int) pa_nil))) (blkOk_by (own := [("_law_m", 2)]) (N := ["_law_source_here", "_law_size_here", "_law_m"]) (sc := defScope s_law_any_table) (by decide +kernel)) (fun _ _ _ _ _ => (pg_name (i := 2) Sc.nd rfl (by first | exact Or.inl rfl | exact Or.inr rfl))) (fun _ _ _ _ _ => pts_nil) (fun _ _ _ _ _ => (pe_call (G_law_shape 70) (hr.mono (by first | decide | omega)) rfl T.d_law_shape.g T.d_law_shape.F.kp T.d_law_shape.b .nil pass0 (pa_cons (pv 0) (pa_cons (pv 2) pa_nil)))))) pa_nil)))),
      (ds_ret (de_callN (da_cons (de_frz (dl_lc (W' := fun _ _ _ _ => False) (vs := [2]) (di_rg2 (da_cons de_int (da_cons (de_op (de_var 1) de_int) da_nil))) (dg_name (i := 2)) dt_yes (dc_W (da_cons (de_var 2) da_nil) (an_cons an_nil)) (fun _ h => h))) da_nil)))⟩
theorem ok_law_entry (T : Defs K mg im) : FnOk P w K mg base CX0 1 T.d_law_entry.f T.d_law_entry.fd ["_law_table_here", "_law_m"] (spD K im 2 F_law_entry) := by
  have Sc : FnScope ["_law_table_here", "_law_m"] ["_law_table_here", "_law_m"] (defScope s_law_entry) := ⟨rfl, rfl, rfl, by decide +kernel, rfl, by decide +kernel, by decide +kernel⟩
  refine fn_Dx (N := ["_law_table_here", "_law_m"]) (ps := ["_law_table_here", "_law_m"]) (F := B_law_entry) T.d_law_entry.F Sc rfl rfl rfl fun cdv A outer s H Ex hr => ?_
  have hu := room_hu hr
  exact ⟨_, (pss_one (ps_ret (pe_ifExp (pt_cmpR (op_eqDD hu) (pv 1) pe_int (nomark _)) (pe_tup pa_nil) (pe_ix ix_D (pv 0) (pe_op op_subD (pv 1) pe_int) (fun _ _ => rfl))))),
      (ds_ret (de_if (dt_test (de_op (de_var 1) de_int)) (de_tup da_nil) (de_op (de_var 0) (de_op (de_var 1) de_int))))⟩
theorem ok_law_filled (T : Defs K mg im) : ∀ n, FnOk P w K mg base CX0 (70 + n) T.d_law_filled.f T.d_law_filled.fd ["_law_shape_here", "_law_lumps"] (spD K im 2 (F_law_filled n))
  | 0 => FnOk.no fun _ _ _ _ => spD_no
  | n + 1 => by
    have ih := ok_law_filled T n
    have G_law_size := ok_law_size (P := P) (w := w) (base := base) (im := im) T
    have Sc : FnScope ["_law_shape_here", "_law_lumps", "_law_size_here"] ["_law_shape_here", "_law_lumps"] (defScope s_law_filled) := ⟨rfl, rfl, rfl, by decide +kernel, rfl, by decide +kernel, by decide +kernel⟩
    refine fn_Dx (k := 70 + n) (N := ["_law_shape_here", "_law_lumps", "_law_size_here"]) (ps := ["_law_shape_here", "_law_lumps"]) (F := B_law_filled (F_law_filled n)) T.d_law_filled.F Sc rfl rfl rfl fun cdv A outer s H Ex hr => ?_
    have hu := room_hu hr
    exact ⟨_, (pss_cons (ps_if (pt_cmpR (op_eqDD hu) (pv 0) (pe_tup pa_nil) (nomark _)) (pss_one (ps_ret (pe_ix ix_D (pv 1) pe_int (fun _ _ => rfl)))) pss_nil)
      (pss_cons (ps_set (i := 2) Sc.nd rfl (by first | exact Or.inl rfl | exact Or.inr rfl) (pe_call (G_law_size 70) (hr.mono (by first | decide | omega)) rfl T.d_law_size.g T.d_law_size.F.kp T.d_law_size.b .nil pass0 (pa_cons (pe_ix ix_D (pv 0) pe_int (fun _ _ => rfl)) pa_nil)))
      (pss_one (ps_ret (pe_tup (pa_cons (pe_call ih hr rfl T.d_law_filled.g T.d_law_filled.F.kp T.d_law_filled.b .nil pass0 (pa_cons (pe_ix ix_D (pv 0) pe_int (fun _ _ => rfl)) (pa_cons (pe_slice sl_D (pv 1) po_none (po_some (pv 2))) pa_nil))) (pa_cons (pe_call ih hr rfl T.d_law_filled.g T.d_law_filled.F.kp T.d_law_filled.b .nil pass0 (pa_cons (pe_ix ix_D (pv 0) pe_int (fun _ _ => rfl)) (pa_cons (pe_slice sl_D (pv 1) (po_some (pv 2)) po_none) pa_nil))) pa_nil))))))),
      (ds_seq (ds_if (dt_test (de_op (de_var 0) (de_tup da_nil))) (ds_ret (de_op (de_var 1) de_int)) ds_nx)
      (ds_seq (ds_asg (dc_D (da_cons (de_op (de_var 0) de_int) da_nil) (an_cons an_nil)) dg_name)
      (ds_ret (de_tup (da_cons (dc_D (da_cons (de_op (de_var 0) de_int) (da_cons (de_sl (de_var 1) do_none (do_some (de_var 2))) da_nil)) (an_cons (an_cons an_nil))) (da_cons (dc_D (da_cons (de_op (de_var 0) de_int) (da_cons (de_sl (de_var 1) (do_some (de_var 2)) do_none) da_nil)) (an_cons (an_cons an_nil))) da_nil))))))⟩
theorem ok_law_pressed (T : Defs K mg im) : FnOk P w K mg base CX0 141 T.d_law_pressed.f T.d_law_pressed.fd ["_law_table_here", "_law_row"] (spD K im 2 F_law_pressed) := by
  have G_law_filled := ok_law_filled (P := P) (w := w) (base := base) (im := im) T
  have G_law_entry := ok_law_entry (P := P) (w := w) (base := base) (im := im) T
  have Sc : FnScope ["_law_table_here", "_law_row", "_law_size_here", "_law_found", "_law_k"] ["_law_table_here", "_law_row"] (defScope s_law_pressed) := ⟨rfl, rfl, rfl, by decide +kernel, rfl, by decide +kernel, by decide +kernel⟩
  refine fn_Dx (N := ["_law_table_here", "_law_row", "_law_size_here", "_law_found", "_law_k"]) (ps := ["_law_table_here", "_law_row"]) (F := B_law_pressed) T.d_law_pressed.F Sc rfl rfl rfl fun cdv A outer s H Ex hr => ?_
  have hu := room_hu hr
  exact ⟨_, (pss_cons (ps_par (i := 2) (j := 3) rfl Sc.nd rfl rfl (by decide) rfl rfl (pa_cons (pe_op op_addD (pe_callB call_lenDD (by rfl) T.n_len (by decide +kernel) (pa_cons (pv 0) pa_nil)) pe_int) (pa_cons (pe_lst pa_nil) pa_nil)) (by rfl))
      (pss_cons (ps_for PassesOwn.never rfl (pi_range3 rfl T.n_range (pa_cons pe_int (pa_cons (pe_callB call_lenDD (by rfl) T.n_len (by decide +kernel) (pa_cons (pv 1) pa_nil)) (pa_cons (pv 2) pa_nil)))) (pg_name (i := 4) Sc.nd rfl (by first | exact Or.inl rfl | exact Or.inr rfl)) (pss_one (ps_expr (pe_bm PySem.F.plainAttrs_list PySem.F.slot_list_append PySem.F.type_list_append mt_append (pv 3) (pa_cons (pe_call (G_law_filled 70) (hr.mono (by first | decide | omega)) rfl T.d_law_filled.g T.d_law_filled.F.kp T.d_law_filled.b .nil pass0 (pa_cons (pe_call G_law_entry (hr.mono (by first | decide | omega)) rfl T.d_law_entry.g T.d_law_entry.F.kp T.d_law_entry.b .nil pass0 (pa_cons (pv 0) (pa_cons (pe_callB call_lenDD (by rfl) T.n_len (by decide +kernel) (pa_cons (pe_slice sl_D (pv 1) (po_some (pv 4)) (po_some (pe_op op_addD (pv 4) (pv 2)))) pa_nil)) pa_nil))) (pa_cons (pe_slice sl_D (pv 1) (po_some (pv 4)) (po_some (pe_op op_addD (pv 4) (pv 2)))) pa_nil))) pa_nil)))))
      (pss_one (ps_ret (pe_frz (pv 3)))))),
      (ds_seq (ds_parO2 (de_op (de_callN (da_cons (de_var 0) da_nil)) de_int) (dl_lst da_nil))
      (ds_seq (ds_for (di_rg3 (da_cons de_int (da_cons (de_callN (da_cons (de_var 1) da_nil)) (da_cons (de_var 2) da_nil)))) (dg_name (i := 4)) (ds_app (dc_D (da_cons (dc_D (da_cons (de_var 0) (da_cons (de_callN (da_cons (de_sl (de_var 1) (do_some (de_var 4)) (do_some (de_op (de_var 4) (de_var 2)))) da_nil)) da_nil)) (an_cons (an_cons an_nil))) (da_cons (de_sl (de_var 1) (do_some (de_var 4)) (do_some (de_op (de_var 4) (de_var 2)))) da_nil)) (an_cons (an_cons an_nil)))))
      ds_retO))⟩
theorem ok_law_glue (T : Defs K mg im) : FnOk P w K mg base CX0 142 T.d_law_glue.f T.d_law_glue.fd ["_law_one", "_law_other"] (spD K im 2 F_law_glue) := by
  have G_law_pressed := ok_law_pressed (P := P) (w := w) (base := base) (im := im) T
  have G_law_filled := ok_law_filled (P := P) (w := w) (base := base) (im := im) T
  have G_law_entry := ok_law_entry (P := P) (w := w) (base := base) (im := im) T
  have Sc : FnScope ["_law_one", "_law_other", "_law_found", "_law_size_here", "_law_m", "_law_row"] ["_law_one", "_law_other"] (defScope s_law_glue) := ⟨rfl, rfl, rfl, by decide +kernel, rfl, by decide +kernel, by decide +kernel⟩
  refine fn_Dx (N := ["_law_one", "_law_other", "_law_found", "_law_size_here", "_law_m", "_law_row"]) (ps := ["_law_one", "_law_other"]) (F := B_law_glue) T.d_law_glue.F Sc rfl rfl rfl fun cdv A outer s H Ex hr => ?_
  have hu := room_hu hr
  exact ⟨_, (pss_cons (ps_par (i := 2) (j := 3) rfl Sc.nd rfl rfl (by decide) rfl rfl (pa_cons (pe_lst pa_nil) (pa_cons (pe_op op_mulD (pe_op op_addD (pe_callB call_lenDD (by rfl) T.n_len (by decide +kernel) (pa_cons (pv 0) pa_nil)) pe_int) (pe_op op_addD (pe_callB call_lenDD (by rfl) T.n_len (by decide +kernel) (pa_cons (pv 1) pa_nil)) pe_int)) pa_nil)) (by rfl))
      (pss_cons (ps_for PassesOwn.never rfl (pi_range2 rfl T.n_range (pa_cons pe_int (pa_cons (pe_op op_addD (pv 3) pe_int) pa_nil))) (pg_name (i := 4) Sc.nd rfl (by first | exact Or.inl rfl | exact Or.inr rfl)) (pss_cons (ps_set (i := 5) Sc.nd rfl (by first | exact Or.inl rfl | exact Or.inr rfl) (pe_call G_law_pressed (hr.mono (by first | decide | omega)) rfl T.d_law_pressed.g T.d_law_pressed.F.kp T.d_law_pressed.b .nil pass0 (pa_cons (pv 0) (pa_cons (pe_op op_mulD (pe_frz (pe_lst (pa_cons (pe_tup pa_nil) pa_nil))) (pv 4)) pa_nil))))
      (pss_one (ps_expr (pe_bm PySem.F.plainAttrs_list PySem.F.slot_list_append PySem.F.type_list_append mt_append (pv 2) (pa_cons (pe_call (G_law_filled 70) (hr.mono (by first | decide | omega)) rfl T.d_law_filled.g T.d_law_filled.F.kp T.d_law_filled.b .nil pass0 (pa_cons (pe_call G_law_entry (hr.mono (by first | decide | omega)) rfl T.d_law_entry.g T.d_law_entry.F.kp T.d_law_entry.b .nil pass0 (pa_cons (pv 1) (pa_cons (pe_callB call_lenDD (by rfl) T.n_len (by decide +kernel) (pa_cons (pv 5) pa_nil)) pa_nil))) (pa_cons (pv 5) pa_nil))) pa_nil))))))
      (pss_one (ps_ret (pe_callTy call_tuple_of (by rfl) T.n_tuple (by decide +kernel) (pa_cons (pv 2) pa_nil)))))),
      (ds_seq (ds_parO1 (dl_lst da_nil) (de_op (de_op (de_callN (da_cons (de_var 0) da_nil)) de_int) (de_op (de_callN (da_cons (de_var 1) da_nil)) de_int)))
      (ds_seq (ds_for (di_rg2 (da_cons de_int (da_cons (de_op (de_var 3) de_int) da_nil))) (dg_name (i := 4)) (ds_seq (ds_asg (dc_D (da_cons (de_var 0) (da_cons (de_op (de_frz (dl_lst (da_cons (de_tup da_nil) da_nil))) (de_var 4)) da_nil)) (an_cons (an_cons an_nil))) dg_name)
      (ds_app (dc_D (da_cons (dc_D (da_cons (de_var 1) (da_cons (de_callN (da_cons (de_var 5) da_nil)) da_nil)) (an_cons (an_cons an_nil))) (da_cons (de_var 5) da_nil)) (an_cons (an_cons an_nil))))))
      (ds_ret de_oTuple)))⟩
theorem ok_law_table (T : Defs K mg im) : FnOk P w K mg base CX0 143 T.d_law_table.f T.d_law_table.fd ["_law_source_here"] (spW K (srcG im) 1 0 F_law_table) := by
  have G_law_any_table := ok_law_any_table (P := P) (w := w) (base := base) (im := im) T
  have G_law_pick := ok_law_pick (P := P) (w := w) (base := base) (im := im) T
  have G_law_glue := ok_law_glue (P := P) (w := w) (base := base) (im := im) T
  have G_law_of := ok_law_of (P := P) (w := w) (base := base) (im := im) T
  have Sc : FnScope ["_law_source_here", "_law_one", "_law_other"] ["_law_source_here"] (defScope s_law_table) := ⟨rfl, rfl, rfl, by decide +kernel, rfl, by decide +kernel, by decide +kernel⟩
  refine fn_Wx (Γ := srcG im) (N := ["_law_source_here", "_law_one", "_law_other"]) (ps := ["_law_source_here"]) (F := B_law_table) T.d_law_table.F Sc rfl rfl rfl fun p cdv A outer s H Ex hr => ?_
  have hu := room_hu hr
  exact ⟨_, (pss_cons (ps_if (pt_cmpR (op_eqDD hu) (pe_call G_law_pick (hr.mono (by first | decide | omega)) rfl T.d_law_pick.g T.d_law_pick.F.kp T.d_law_pick.b .nil pass0 (pa_cons (pv 0) (pa_cons pe_int pa_nil))) pe_int (nomark _)) (pss_cons (ps_par (i := 1) (j := 2) rfl Sc.nd rfl rfl (by decide) rfl rfl (pa_cons (pe_call G_law_any_table (hr.mono (by first | decide | omega)) rfl T.d_law_any_table.g T.d_law_any_table.F.kp T.d_law_any_table.b .nil pass0 (pa_cons (pv 0) (pa_cons (pe_op op_addD pe_int (pe_call G_law_pick (hr.mono (by first | decide | omega)) rfl T.d_law_pick.g T.d_law_pick.F.kp T.d_law_pick.b .nil pass0 (pa_cons (pv 0) (pa_cons pe_int pa_nil)))) pa_nil))) (pa_cons (pe_call G_law_any_table (hr.mono (by first | decide | omega)) rfl T.d_law_any_table.g T.d_law_any_table.F.kp T.d_law_any_table.b .nil pass0 (pa_cons (pv 0) (pa_cons (pe_op op_addD pe_int (pe_call G_law_pick (hr.mono (by first | decide | omega)) rfl T.d_law_pick.g T.d_law_pick.F.kp T.d_law_pick.b .nil pass0 (pa_cons (pv 0) (pa_cons pe_int pa_nil)))) pa_nil))) pa_nil)) (by rfl))
      (pss_one (ps_ret (pe_call G_law_glue (hr.mono (by first | decide | omega)) rfl T.d_law_glue.g T.d_law_glue.F.kp T.d_law_glue.b .nil pass0 (pa_cons (pv 1) (pa_cons (pv 2) pa_nil)))))) pss_nil)
      (pss_one (ps_ret (pe_call G_law_any_table (hr.mono (by first | decide | omega)) rfl T.d_law_any_table.g T.d_law_any_table.F.kp T.d_law_any_table.b .nil pass0 (pa_cons (pv 0) (pa_cons (pe_call G_law_of (hr.mono (by first | decide | omega)) rfl T.d_law_of.g T.d_law_of.F.kp T.d_law_of.b .nil pass0 (pa_cons (pv 0) (pa_cons (pe_frz (pe_lst (pa_cons pe_int (pa_cons pe_int (pa_cons pe_int (pa_cons pe_int (pa_cons pe_int (pa_cons pe_int (pa_cons pe_int (pa_cons pe_int pa_nil)))))))))) pa_nil))) pa_nil)))))),
      (ds_seq (ds_if (dt_test (de_op (dc_W (da_cons de_int da_nil) (an_cons an_nil)) de_int)) (ds_seq (ds_par (dc_W (da_cons (de_op de_int (dc_W (da_cons de_int da_nil) (an_cons an_nil))) da_nil) (an_cons an_nil)) (dc_W (da_cons (de_op de_int (dc_W (da_cons de_int da_nil) (an_cons an_nil))) da_nil) (an_cons an_nil)))
      (ds_ret (dc_D (da_cons (de_var 1) (da_cons (de_var 2) da_nil)) (an_cons (an_cons an_nil))))) ds_nx)
      (ds_ret (dc_W (da_cons (dc_W (da_cons (de_frz (dl_lst (da_cons de_int (da_cons de_int (da_cons de_int (da_cons de_int (da_cons de_int (da_cons de_int (da_cons de_int (da_cons de_int da_nil)))))))))) da_nil) (an_cons an_nil)) da_nil) (an_cons an_nil))))⟩
theorem ok_Plan_init (T : Defs K mg im) : FnOk P w K mg base CX0 74 T.d_Plan_init.f T.d_Plan_init.fd ["self", "tables", "end"] (spI K im T.cP 3 ["_tables", "_end"] F_Plan_init) := by
  have G_wrong_plan_path := ok_wrong_plan_path (P := P) (w := w) (base := base) (im := im) T
  have Sc : FnScope ["self", "tables", "end", "path"] ["self", "tables", "end"] (defScope s_Plan_init) := ⟨rfl, rfl, rfl, by decide +kernel, rfl, by decide +kernel, by decide +kernel⟩
  refine fn_I (N := ["self", "tables", "end", "path"]) (ps := ["self", "tables", "end"]) (F := B_Plan_init) T.d_Plan_init.F Sc rfl rfl (by decide) rfl fun cdv A outer s H Ex hr => ?_
  have hu := room_hu hr
  exact ⟨_, (pss_cons (ps_set (i := 3) Sc.nd rfl (by first | exact Or.inl rfl | exact Or.inr rfl) (pe_call G_wrong_plan_path (hr.mono (by first | decide | omega)) rfl T.d_wrong_plan_path.g T.d_wrong_plan_path.F.kp T.d_wrong_plan_path.b .nil pass0 (pa_cons (pv 1) (pa_cons (pv 2) pa_nil))))
      (pss_cons (ps_if (pt_cmpR op_notND (pv 3) pe_non (nomark _)) (pss_one DL.ps_never) pss_nil)
      (pss_cons (ps_fld (pv 0) (pe_callTy call_tupleDD (by rfl) T.n_tuple (by decide +kernel) (pa_cons (pv 1) pa_nil)) rfl)
      (pss_one (ps_fld (pv 0) (pv 2) rfl))))),
      (dsi_seq (W := fun _ _ _ _ => False) (fun _ _ _ _ => (ds_asg (dc_D (da_cons (de_var 1) (da_cons (de_var 2) da_nil)) (an_cons (an_cons an_nil))) dg_name))
      (dsi_seq (W := fun _ _ _ _ => False) (fun _ _ _ _ => (ds_if (dt_test (de_op (de_var 3) de_non)) DL.ds_never ds_nx))
      (dsi_two (by decide +kernel) T.clP T.na_tables T.na_end (fun _ _ _ _ => (de_callN (da_cons (de_var 1) da_nil))) (fun _ _ _ _ => (de_var 2)))))⟩
theorem ok_law_made (T : Defs K mg im) : FnOk P w K mg base CX0 76 T.d_law_made.f T.d_law_made.fd ["_law_tables", "_law_end"] (spD K im 2 F_law_made) := by
  have G_Plan_init := ok_Plan_init (P := P) (w := w) (base := base) (im := im) T
  have Sc : FnScope ["_law_tables", "_law_end"] ["_law_tables", "_law_end"] (defScope s_law_made) := ⟨rfl, rfl, rfl, by decide +kernel, rfl, by decide +kernel, by decide +kernel⟩
  refine fn_Dx (N := ["_law_tables", "_law_end"]) (ps := ["_law_tables", "_law_end"]) (F := B_law_made) T.d_law_made.F Sc rfl rfl rfl fun cdv A outer s H Ex hr => ?_
  have hu := room_hu hr
  exact ⟨_, (pss_one (ps_ret (pe_frzW (pe_disp (pps_cons pe_str (pe_callTy call_tupleDD (by rfl) T.n_tuple (by decide +kernel) (pa_cons (pv 0) pa_nil)) (pps_cons pe_str (pv 1) (pps_cons pe_str (pe_make T.d_Plan_init.m G_Plan_init (hr.mono (by first | decide | omega)) rfl T.gP T.d_Plan_init.b .nil pass0 (pa_cons (pe_callTy call_tupleDD (by rfl) T.n_tuple (by decide +kernel) (pa_cons (pv 0) pa_nil)) (pa_cons (pv 1) pa_nil))) pps_nil))) (by rfl) (by rfl) (fun z => by cases z) (by decide))))),
      (ds_ret (de_disp (ks := ["tables", "end", "plan"]) (by decide +kernel) (by decide) (dps_cons (de_callN (da_cons (de_var 0) da_nil)) (dps_cons (de_var 1) (dps_cons (dc_I ((T.hi _).mpr rfl) (by decide) (da_cons (de_callN (da_cons (de_var 0) da_nil)) (da_cons (de_var 1) da_nil)) (an_cons (an_cons an_nil))) dps_nil)))))⟩
theorem ok_law_plan (T : Defs K mg im) : FnOk P w K mg base CX0 144 T.d_law_plan.f T.d_law_plan.fd ["_law_source_here"] (spW K (srcG im) 1 0 F_law_plan) := by
  have G_law_made := ok_law_made (P := P) (w := w) (base := base) (im := im) T
  have G_law_table := ok_law_table (P := P) (w := w) (base := base) (im := im) T
  have G_law_of := ok_law_of (P := P) (w := w) (base := base) (im := im) T
  have G_law_pick := ok_law_pick (P := P) (w := w) (base := base) (im := im) T
  have Sc : FnScope ["_law_source_here", "_law_tables", "_law_end", "_law_many", "_law_lap"] ["_law_source_here"] (defScope s_law_plan) := ⟨rfl, rfl, rfl, by decide +kernel, rfl, by decide +kernel, by decide +kernel⟩
  refine fn_Wx (Γ := srcG im) (N := ["_law_source_here", "_law_tables", "_law_end", "_law_many", "_law_lap"]) (ps := ["_law_source_here"]) (F := B_law_plan) T.d_law_plan.F Sc rfl rfl rfl fun p cdv A outer s H Ex hr => ?_
  have hu := room_hu hr
  exact ⟨_, (pss_cons (ps_fz 1 (ps_setLc (i := 1) (own := [("_law_lap", 4)]) rfl Sc.nd rfl rfl (sw_true rfl rfl rfl (by decide +kernel)) (pi_range1 rfl T.n_range (pa_cons (pe_call G_law_of (hr.mono (by first | decide | omega)) rfl T.d_law_of.g T.d_law_of.F.kp T.d_law_of.b .nil pass0 (pa_cons (pv 0) (pa_cons (pe_frz (pe_lst (pa_cons pe_int (pa_cons pe_int (pa_cons pe_int (pa_cons pe_int (pa_cons pe_int pa_nil))))))) pa_nil))) pa_nil)) (blkOk_by (own := [("_law_lap", 4)]) (N := ["_law_source_here", "_law_tables", "_law_end", "_law_many", "_law_lap"]) (sc := defScope s_law_plan) (by decide +kernel)) (fun _ _ _ _ _ => (pg_name (i := 4) Sc.nd rfl (by first | exact Or.inl rfl | exact Or.inr rfl))) (fun _ _ _ _ _ => pts_nil) (fun _ _ _ _ _ => (pe_call G_law_table (hr.mono (by first | decide | omega)) rfl T.d_law_table.g T.d_law_table.F.kp T.d_law_table.b .nil pass0 (pa_cons (pv 0) pa_nil)))))
      (pss_cons (ps_par (i := 2) (j := 3) rfl Sc.nd rfl rfl (by decide) rfl rfl (pa_cons (pe_call G_law_of (hr.mono (by first | decide | omega)) rfl T.d_law_of.g T.d_law_of.F.kp T.d_law_of.b .nil pass0 (pa_cons (pv 0) (pa_cons (pe_frz (pe_lst (pa_cons pe_str (pa_cons pe_str (pa_cons pe_str (pa_cons pe_str pa_nil)))))) pa_nil))) (pa_cons (pe_op op_addD pe_int (pe_call G_law_pick (hr.mono (by first | decide | omega)) rfl T.d_law_pick.g T.d_law_pick.F.kp T.d_law_pick.b .nil pass0 (pa_cons (pv 0) (pa_cons pe_int pa_nil)))) pa_nil)) (by rfl))
      (pss_one (ps_ret (pe_call G_law_made (hr.mono (by first | decide | omega)) rfl T.d_law_made.g T.d_law_made.F.kp T.d_law_made.b .nil pass0 (pa_cons (pv 1) (pa_cons (pe_ifExp (pt_cmpR (op_eqDD hu) (pv 2) pe_str (nomark _)) (pe_callTy call_tupleDD (by rfl) T.n_tuple (by decide +kernel) (pa_cons (pe_frz (pe_lc (own := [("_law_lap", 4)]) rfl Sc.nd (pi_range1 rfl T.n_range (pa_cons (pv 3) pa_nil)) (blkOk_by (own := [("_law_lap", 4)]) (N := ["_law_source_here", "_law_tables", "_law_end", "_law_many", "_law_lap"]) (sc := defScope s_law_plan) (by decide +kernel)) (fun _ _ _ _ _ => (pg_name (i := 4) Sc.nd rfl (by first | exact Or.inl rfl | exact Or.inr rfl))) (fun _ _ _ _ _ => pts_nil) (fun _ _ _ _ _ => (pe_call G_law_table (hr.mono (by first | decide | omega)) rfl T.d_law_table.g T.d_law_table.F.kp T.d_law_table.b .nil pass0 (pa_cons (pv 0) pa_nil))))) pa_nil)) (pv 2)) pa_nil))))))),
      (ds_seq (ds_fz (ds_setO (dl_lc (W' := fun _ _ _ _ => False) (vs := [4]) (di_rg1 (da_cons (dc_W (da_cons (de_frz (dl_lst (da_cons de_int (da_cons de_int (da_cons de_int (da_cons de_int (da_cons de_int da_nil))))))) da_nil) (an_cons an_nil)) da_nil)) (dg_name (i := 4)) dt_yes (dc_W da_nil an_nil) (fun _ h => h))))
      (ds_seq (ds_par (dc_W (da_cons (de_frz (dl_lst (da_cons de_str (da_cons de_str (da_cons de_str (da_cons de_str da_nil)))))) da_nil) (an_cons an_nil)) (de_op de_int (dc_W (da_cons de_int da_nil) (an_cons an_nil))))
      (ds_ret (dc_D (da_cons (de_var 1) (da_cons (de_if (dt_test (de_op (de_var 2) de_str)) (de_callN (da_cons (de_frz (dl_lc (W' := fun _ _ _ _ => False) (vs := [4]) (di_rg1 (da_cons (de_var 3) da_nil)) (dg_name (i := 4)) dt_yes (dc_W da_nil an_nil) (fun _ h => h))) da_nil)) (de_var 2)) da_nil)) (an_cons (an_cons an_nil))))))⟩
theorem ok_law_stage (T : Defs K mg im) : FnOk P w K mg base CX0 1 T.d_law_stage.f T.d_law_stage.fd ["_law_world", "_law_k"] (spD K im 2 F_law_stage) := by
  have Sc : FnScope ["_law_world", "_law_k"] ["_law_world", "_law_k"] (defScope s_law_stage) := ⟨rfl, rfl, rfl, by decide +kernel, rfl, by decide +kernel, by decide +kernel⟩
  refine fn_Dx (N := ["_law_world", "_law_k"]) (ps := ["_law_world", "_law_k"]) (F := B_law_stage) T.d_law_stage.F Sc rfl rfl rfl fun cdv A outer s H Ex hr => ?_
  have hu := room_hu hr
  exact ⟨_, (pss_cons (ps_if (pt_cmpR op_ltD (pv 1) (pe_callB call_lenDD (by rfl) T.n_len (by decide +kernel) (pa_cons (pe_dget (hu1 hu) (pv 0) pe_str (fun _ _ => rfl)) pa_nil)) (nomark _)) (pss_one (ps_ret (pe_ix ix_D (pe_dget (hu1 hu) (pv 0) pe_str (fun _ _ => rfl)) (pv 1) (fun _ _ => rfl)))) pss_nil)
      (pss_cons (ps_if (pt_cmpR (op_inTD hu) (pe_dget (hu1 hu) (pv 0) pe_str (fun _ _ => rfl)) (pe_tup (pa_cons pe_str (pa_cons pe_str pa_nil))) (by rfl)) (pss_one (ps_ret pe_non)) pss_nil)
      (pss_one (ps_ret (pe_ix ix_D (pe_dget (hu1 hu) (pv 0) pe_str (fun _ _ => rfl)) (pe_op op_modD (pe_callTy call_intDD (by rfl) T.n_int (by decide +kernel) (pa_cons (pe_op op_subD (pv 1) (pe_callB call_lenDD (by rfl) T.n_len (by decide +kernel) (pa_cons (pe_dget (hu1 hu) (pv 0) pe_str (fun _ _ => rfl)) pa_nil))) pa_nil)) (pe_callB call_lenDD (by rfl) T.n_len (by decide +kernel) (pa_cons (pe_dget (hu1 hu) (pv 0) pe_str (fun _ _ => rfl)) pa_nil))) (fun _ _ => rfl)))))),
      (ds_seq (ds_if (dt_test (de_op (de_var 1) (de_callN (da_cons (de_dgK (plK 0) de_str) da_nil)))) (ds_ret (de_op (de_dgK (plK 0) de_str) (de_var 1))) ds_nx)
      (ds_seq (ds_if (dt_test (de_op (de_dgK (plK 0) de_str) (de_tup (da_cons de_str (da_cons de_str da_nil))))) (ds_ret de_non) ds_nx)
      (ds_ret (de_op (de_dgK (plK 0) de_str) (de_op (de_callN (da_cons (de_op (de_var 1) (de_callN (da_cons (de_dgK (plK 0) de_str) da_nil))) da_nil)) (de_callN (da_cons (de_dgK (plK 0) de_str) da_nil)))))))⟩
theorem ok_law_some_plan (T : Defs K mg im) : FnOk P w K mg base CX0 145 T.d_law_some_plan.f T.d_law_some_plan.fd ["_law_source_here", "_law_most"] (spW K (srcG im) 2 0 F_law_some_plan) := by
  have G_law_plan := ok_law_plan (P := P) (w := w) (base := base) (im := im) T
  have G_law_pick := ok_law_pick (P := P) (w := w) (base := base) (im := im) T
  have G_law_table := ok_law_table (P := P) (w := w) (base := base) (im := im) T
  have G_law_made := ok_law_made (P := P) (w := w) (base := base) (im := im) T
  have G_law_of := ok_law_of (P := P) (w := w) (base := base) (im := im) T
  have G_law_any_table := ok_law_any_table (P := P) (w := w) (base := base) (im := im) T
  have G_law_mixed := ok_law_mixed (P := P) (w := w) (base := base) (im := im) T
  have Sc : FnScope ["_law_source_here", "_law_most", "_law_way", "_law_some", "_law_tables", "_law_lap"] ["_law_source_here", "_law_most"] (defScope s_law_some_plan) := ⟨rfl, rfl, rfl, by decide +kernel, rfl, by decide +kernel, by decide +kernel⟩
  refine fn_Wx (Γ := srcG im) (N := ["_law_source_here", "_law_most", "_law_way", "_law_some", "_law_tables", "_law_lap"]) (ps := ["_law_source_here", "_law_most"]) (F := B_law_some_plan) T.d_law_some_plan.F Sc rfl rfl rfl fun p cdv A outer s H Ex hr => ?_
  have hu := room_hu hr
  exact ⟨_, (pss_cons (ps_par (i := 2) (j := 3) rfl Sc.nd rfl rfl (by decide) rfl rfl (pa_cons (pe_call G_law_pick (hr.mono (by first | decide | omega)) rfl T.d_law_pick.g T.d_law_pick.F.kp T.d_law_pick.b .nil pass0 (pa_cons (pv 0) (pa_cons pe_int pa_nil))) (pa_cons (pe_call G_law_table (hr.mono (by first | decide | omega)) rfl T.d_law_table.g T.d_law_table.F.kp T.d_law_table.b .nil pass0 (pa_cons (pv 0) pa_nil)) pa_nil)) (by rfl))
      (pss_cons (ps_if (pt_cmpR (op_eqDD hu) (pv 2) pe_int (nomark _)) (pss_one (ps_ret (pe_call G_law_made (hr.mono (by first | decide | omega)) rfl T.d_law_made.g T.d_law_made.F.kp T.d_law_made.b .nil pass0 (pa_cons (pe_op op_mulD (pe_frz (pe_lst (pa_cons (pv 3) pa_nil))) (pe_call G_law_pick (hr.mono (by first | decide | omega)) rfl T.d_law_pick.g T.d_law_pick.F.kp T.d_law_pick.b .nil pass0 (pa_cons (pv 0) (pa_cons pe_int pa_nil)))) (pa_cons (pe_call G_law_of (hr.mono (by first | decide | omega)) rfl T.d_law_of.g T.d_law_of.F.kp T.d_law_of.b .nil pass0 (pa_cons (pv 0) (pa_cons (pe_frz (pe_lst (pa_cons pe_str (pa_cons pe_str (pa_cons (pe_tup (pa_cons (pv 3) pa_nil)) (pa_cons (pe_tup (pa_cons (pv 3) (pa_cons (pv 3) pa_nil))) pa_nil)))))) pa_nil))) pa_nil))))) pss_nil)
      (pss_cons (ps_if (pt_cmpR (op_eqDD hu) (pv 2) pe_int (nomark _)) (pss_cons (ps_fz 4 (ps_setLc (i := 4) (own := [("_law_lap", 5)]) rfl Sc.nd rfl rfl (sw_true rfl rfl rfl (by decide +kernel)) (pi_range1 rfl T.n_range (pa_cons (pv 1) pa_nil)) (blkOk_by (own := [("_law_lap", 5)]) (N := ["_law_source_here", "_law_most", "_law_way", "_law_some", "_law_tables", "_law_lap"]) (sc := defScope s_law_some_plan) (by decide +kernel)) (fun _ _ _ _ _ => (pg_name (i := 5) Sc.nd rfl (by first | exact Or.inl rfl | exact Or.inr rfl))) (fun _ _ _ _ _ => pts_nil) (fun _ _ _ _ _ => (pe_call G_law_any_table (hr.mono (by first | decide | omega)) rfl T.d_law_any_table.g T.d_law_any_table.F.kp T.d_law_any_table.b .nil pass0 (pa_cons (pv 0) (pa_cons (pe_op op_addD pe_int (pe_call G_law_pick (hr.mono (by first | decide | omega)) rfl T.d_law_pick.g T.d_law_pick.F.kp T.d_law_pick.b .nil pass0 (pa_cons (pv 0) (pa_cons pe_int pa_nil)))) pa_nil))))))
      (pss_one (ps_ret (pe_call G_law_made (hr.mono (by first | decide | omega)) rfl T.d_law_made.g T.d_law_made.F.kp T.d_law_made.b .nil pass0 (pa_cons (pv 4) (pa_cons (pe_callTy call_tupleDD (by rfl) T.n_tuple (by decide +kernel) (pa_cons (pe_slice sl_D (pe_call G_law_mixed (hr.mono (by first | decide | omega)) rfl T.d_law_mixed.g T.d_law_mixed.F.kp T.d_law_mixed.b .nil pass0 (pa_cons (pv 0) (pa_cons (pv 4) pa_nil))) po_none (po_some (pe_call G_law_of (hr.mono (by first | decide | omega)) rfl T.d_law_of.g T.d_law_of.F.kp T.d_law_of.b .nil pass0 (pa_cons (pv 0) (pa_cons (pe_frz (pe_lst (pa_cons pe_int (pa_cons pe_int (pa_cons (pv 1) pa_nil))))) pa_nil))))) pa_nil)) pa_nil)))))) pss_nil)
      (pss_one (ps_ret (pe_call G_law_plan (hr.mono (by first | decide | omega)) rfl T.d_law_plan.g T.d_law_plan.F.kp T.d_law_plan.b .nil pass0 (pa_cons (pv 0) pa_nil))))))),
      (ds_seq (ds_par (dc_W (da_cons de_int da_nil) (an_cons an_nil)) (dc_W da_nil an_nil))
      (ds_seq (ds_if (dt_test (de_op (de_var 2) de_int)) (ds_ret (dc_D (da_cons (de_op (de_frz (dl_lst (da_cons (de_var 3) da_nil))) (dc_W (da_cons de_int da_nil) (an_cons an_nil))) (da_cons (dc_W (da_cons (de_frz (dl_lst (da_cons de_str (da_cons de_str (da_cons (de_tup (da_cons (de_var 3) da_nil)) (da_cons (de_tup (da_cons (de_var 3) (da_cons (de_var 3) da_nil))) da_nil)))))) da_nil) (an_cons an_nil)) da_nil)) (an_cons (an_cons an_nil)))) ds_nx)
      (ds_seq (ds_if (dt_test (de_op (de_var 2) de_int)) (ds_seq (ds_fz (ds_setO (dl_lc (W' := fun _ _ _ _ => False) (vs := [5]) (di_rg1 (da_cons (de_var 1) da_nil)) (dg_name (i := 5)) dt_yes (dc_W (da_cons (de_op de_int (dc_W (da_cons de_int da_nil) (an_cons an_nil))) da_nil) (an_cons an_nil)) (fun _ h => h))))
      (ds_ret (dc_D (da_cons (de_var 4) (da_cons (de_callN (da_cons (de_sl (dc_W (da_cons (de_var 4) da_nil) (an_cons an_nil)) do_none (do_some (dc_W (da_cons (de_frz (dl_lst (da_cons de_int (da_cons de_int (da_cons (de_var 1) da_nil))))) da_nil) (an_cons an_nil)))) da_nil)) da_nil)) (an_cons (an_cons an_nil))))) ds_nx)
      (ds_ret (dc_W da_nil an_nil)))))⟩
theorem ok_Plan_tables (T : Defs K mg im) : FnOk P w K mg base CX0 1 T.d_Plan_tables.f T.d_Plan_tables.fd ["self"] (spD K im 1 F_Plan_tables) := by
  have Sc : FnScope ["self"] ["self"] (defScope s_Plan_tables) := ⟨rfl, rfl, rfl, by decide +kernel, rfl, by decide +kernel, by decide +kernel⟩
  refine fn_Dx (N := ["self"]) (ps := ["self"]) (F := B_Plan_tables) T.d_Plan_tables.F Sc rfl rfl rfl fun cdv A outer s H Ex hr => ?_
  have hu := room_hu hr
  exact ⟨_, (pss_one (ps_ret (pe_fld (pv 0) rfl))),
      (ds_ret (de_fld (hcls T.hi T.clP T.na_tables) (de_var 0)))⟩
theorem ok_Plan_end (T : Defs K mg im) : FnOk P w K mg base CX0 1 T.d_Plan_end.f T.d_Plan_end.fd ["self"] (spD K im 1 F_Plan_end) := by
  have Sc : FnScope ["self"] ["self"] (defScope s_Plan_end) := ⟨rfl, rfl, rfl, by decide +kernel, rfl, by decide +kernel, by decide +kernel⟩
  refine fn_Dx (N := ["self"]) (ps := ["self"]) (F := B_Plan_end) T.d_Plan_end.F Sc rfl rfl rfl fun cdv A outer s H Ex hr => ?_
  have hu := room_hu hr
  exact ⟨_, (pss_one (ps_ret (pe_fld (pv 0) rfl))),
      (ds_ret (de_fld (hcls T.hi T.clP T.na_end) (de_var 0)))⟩
theorem ok_Plan_stage (T : Defs K mg im) : FnOk P w K mg base CX0 1 T.d_Plan_stage.f T.d_Plan_stage.fd ["self", "k"] (spD K im 2 F_Plan_stage) := by
  have Sc : FnScope ["self", "k"] ["self", "k"] (defScope s_Plan_stage) := ⟨rfl, rfl, rfl, by decide +kernel, rfl, by decide +kernel, by decide +kernel⟩
  refine fn_Dx (N := ["self", "k"]) (ps := ["self", "k"]) (F := B_Plan_stage) T.d_Plan_stage.F Sc rfl rfl rfl fun cdv A outer s H Ex hr => ?_
  have hu := room_hu hr
  exact ⟨_, (pss_cons (ps_if (pt_cmpR op_ltD (pv 1) (pe_callB call_lenDD (by rfl) T.n_len (by decide +kernel) (pa_cons (pe_fld (pv 0) rfl) pa_nil)) (nomark _)) (pss_one (ps_ret (pe_ix ix_D (pe_fld (pv 0) rfl) (pv 1) (fun _ _ => rfl)))) pss_nil)
      (pss_cons (ps_if (pt_val (pe_callB call_isi (by rfl) T.n_isinstance (by decide +kernel) (pa_cons (pe_fld (pv 0) rfl) (pa_cons (pe_bltn rfl T.n_str (by rfl) (show RelV (.ty "str") (.type "str") from rfl)) pa_nil)))) (pss_one (ps_ret pe_non)) pss_nil)
      (pss_one (ps_ret (pe_ix ix_D (pe_fld (pv 0) rfl) (pe_op op_modD (pe_op op_subD (pv 1) (pe_callB call_lenDD (by rfl) T.n_len (by decide +kernel) (pa_cons (pe_fld (pv 0) rfl) pa_nil))) (pe_callB call_lenDD (by rfl) T.n_len (by decide +kernel) (pa_cons (pe_fld (pv 0) rfl) pa_nil))) (fun _ _ => rfl)))))),
      (ds_seq (ds_if (dt_test (de_op (de_var 1) (de_callN (da_cons (de_fld (hcls T.hi T.clP T.na_tables) (de_var 0)) da_nil)))) (ds_ret (de_op (de_fld (hcls T.hi T.clP T.na_tables) (de_var 0)) (de_var 1))) ds_nx)
      (ds_seq (ds_if (dt_B (de_isi (de_fld (hcls T.hi T.clP T.na_end) (de_var 0)))) (ds_ret de_non) ds_nx)
      (ds_ret (de_op (de_fld (hcls T.hi T.clP T.na_end) (de_var 0)) (de_op (de_op (de_var 1) (de_callN (da_cons (de_fld (hcls T.hi T.clP T.na_tables) (de_var 0)) da_nil))) (de_callN (da_cons (de_fld (hcls T.hi T.clP T.na_end) (de_var 0)) da_nil)))))))⟩
theorem ok_law_plan_right (T : Defs K mg im) : GOk P w K mg base 2 T.d_law_plan_right.f T.d_law_plan_right.fd ["_law_world", "_law_made_here"] (spD K im 2 F_law_plan_right) := by
  have G_Plan_tables := ok_Plan_tables (P := P) (w := w) (base := base) (im := im) T
  have G_Plan_end := ok_Plan_end (P := P) (w := w) (base := base) (im := im) T
  have G_Plan_stage := ok_Plan_stage (P := P) (w := w) (base := base) (im := im) T
  have G_law_stage := ok_law_stage (P := P) (w := w) (base := base) (im := im) T
  have Sc : FnScope ["_law_world", "_law_made_here", "_law_k"] ["_law_world", "_law_made_here"] (defScope s_law_plan_right) := ⟨rfl, rfl, rfl, by decide +kernel, rfl, by decide +kernel, by decide +kernel⟩
  refine fn_DG (N := ["_law_world", "_law_made_here", "_law_k"]) (ps := ["_law_world", "_law_made_here"]) (F := B_law_plan_right) T.d_law_plan_right.F Sc rfl rfl rfl fun cdv A outer s H Ex gu hr => ?_
  have hu := room_hu hr
  exact ⟨_, (pss_cons (ps_if (pt_cmpR (op_neDD hu) (pe_callB (call_reprDD hu gu) (by rfl) T.n_repr (by decide +kernel) (pa_cons (pe_frz (pe_lst (pa_cons (pe_meth0 (pv 1) T.clP T.d_Plan_tables.m G_Plan_tables (hr.mono (by first | decide | omega)) T.d_Plan_tables.b .nil pass0) (pa_cons (pe_meth0 (pv 1) T.clP T.d_Plan_end.m G_Plan_end (hr.mono (by first | decide | omega)) T.d_Plan_end.b .nil pass0) pa_nil)))) pa_nil)) (pe_callB (call_reprDD hu gu) (by rfl) T.n_repr (by decide +kernel) (pa_cons (pe_frz (pe_lst (pa_cons (pe_dget (hu1 hu) (pv 0) pe_str (fun _ _ => rfl)) (pa_cons (pe_dget (hu1 hu) (pv 0) pe_str (fun _ _ => rfl)) pa_nil)))) pa_nil)) (nomark _)) (pss_one (ps_ret pe_bl)) pss_nil)
      (pss_cons (ps_for PassesOwn.never rfl (pi_seq (pe_op op_addD (pe_frz (pe_listRg rfl rfl T.n_list (prg_1 rfl T.n_range pe_int))) (pe_frz (pe_lst (pa_cons pe_int (pa_cons pe_int (pa_cons (pe_op op_powD pe_int pe_int) (pa_cons (pe_op op_addD (pe_op op_powD pe_int pe_int) pe_int) (pa_cons (pe_op op_addD (pe_op op_powD pe_int pe_int) pe_int) (pa_cons (pe_op op_addD (pe_op op_powD pe_int pe_int) pe_int) pa_nil)))))))))) (pg_name (i := 2) Sc.nd rfl (by first | exact Or.inl rfl | exact Or.inr rfl)) (pss_one (ps_if (pt_cmpR (op_neDD hu) (pe_callB (call_reprDD hu gu) (by rfl) T.n_repr (by decide +kernel) (pa_cons (pe_meth (pv 1) T.clP T.d_Plan_stage.m G_Plan_stage (hr.mono (by first | decide | omega)) T.d_Plan_stage.b .nil pass0 (pa_cons (pv 2) pa_nil)) pa_nil)) (pe_callB (call_reprDD hu gu) (by rfl) T.n_repr (by decide +kernel) (pa_cons (pe_call G_law_stage (hr.mono (by first | decide | omega)) rfl T.d_law_stage.g T.d_law_stage.F.kp T.d_law_stage.b .nil pass0 (pa_cons (pv 0) (pa_cons (pv 2) pa_nil))) pa_nil)) (nomark _)) (pss_one (ps_ret pe_bl)) pss_nil)))
      (pss_one (ps_ret pe_bl)))),
      (ds_seq (ds_if (dt_test (de_op (de_callN (da_cons (de_frz (dl_lst (da_cons (dc_M (fun a h => (T.hi a).mp h) (de_var 1) da_nil an_nil) (da_cons (dc_M (fun a h => (T.hi a).mp h) (de_var 1) da_nil an_nil) da_nil)))) da_nil)) (de_callN (da_cons (de_frz (dl_lst (da_cons (de_dgK (plK 0) de_str) (da_cons (de_dgK (plK 0) de_str) da_nil)))) da_nil)))) (ds_ret de_bl) ds_nx)
      (ds_seq (ds_for (di_seq (de_op (de_frz (dl_lrg (drg_1 de_int))) (de_frz (dl_lst (da_cons de_int (da_cons de_int (da_cons (de_op de_int de_int) (da_cons (de_op (de_op de_int de_int) de_int) (da_cons (de_op (de_op de_int de_int) de_int) (da_cons (de_op (de_op de_int de_int) de_int) da_nil)))))))))) (dg_name (i := 2)) (ds_if (dt_test (de_op (de_callN (da_cons (dc_M (fun a h => (T.hi a).mp h) (de_var 1) (da_cons (de_var 2) da_nil) (an_cons an_nil)) da_nil)) (de_callN (da_cons (dc_D (da_cons (de_var 0) (da_cons (de_var 2) da_nil)) (an_cons (an_cons an_nil))) da_nil)))) (ds_ret de_bl) ds_nx))
      (ds_ret de_bl)))⟩
theorem ok_law_others (T : Defs K mg im) : FnOk P w K mg base CX0 144 T.d_law_others.f T.d_law_others.fd ["_law_source_here", "_law_world"] (spW K (srcG im) 2 0 F_law_others) := by
  have G_law_table := ok_law_table (P := P) (w := w) (base := base) (im := im) T
  have G_Plan_init := ok_Plan_init (P := P) (w := w) (base := base) (im := im) T
  have Sc : FnScope ["_law_source_here", "_law_world", "_law_tables", "_law_end", "_law_more", "_law_found", "_law_pair"] ["_law_source_here", "_law_world"] (defScope s_law_others) := ⟨rfl, rfl, rfl, by decide +kernel, rfl, by decide +kernel, by decide +kernel⟩
  refine fn_Wx (Γ := srcG im) (N := ["_law_source_here", "_law_world", "_law_tables", "_law_end", "_law_more", "_law_found", "_law_pair"]) (ps := ["_law_source_here", "_law_world"]) (F := B_law_others) T.d_law_others.F Sc rfl rfl rfl fun p cdv A outer s H Ex hr => ?_
  have hu := room_hu hr
  exact ⟨_, (pss_cons (ps_asg (pe_tup (pa_cons (pe_dget (hu1 hu) (pv 1) pe_str (fun _ _ => rfl)) (pa_cons (pe_dget (hu1 hu) (pv 1) pe_str (fun _ _ => rfl)) (pa_cons (pe_call G_law_table (hr.mono (by first | decide | omega)) rfl T.d_law_table.g T.d_law_table.F.kp T.d_law_table.b .nil pass0 (pa_cons (pv 0) pa_nil)) pa_nil)))) (pg_sq rfl (pgs_cons (pg_name (i := 2) Sc.nd rfl (by first | exact Or.inl rfl | exact Or.inr rfl)) (pgs_cons (pg_name (i := 3) Sc.nd rfl (by first | exact Or.inl rfl | exact Or.inr rfl)) (pgs_cons (pg_name (i := 4) Sc.nd rfl (by first | exact Or.inl rfl | exact Or.inr rfl)) pgs_nil)))))
      (pss_cons (ps_set (i := 5) Sc.nd rfl (by first | exact Or.inl rfl | exact Or.inr rfl) (pe_lst (pa_cons (pe_tup (pa_cons (pe_op op_addD (pv 2) (pe_tup (pa_cons (pv 4) pa_nil))) (pa_cons (pv 3) pa_nil))) (pa_cons (pe_tup (pa_cons (pv 2) (pa_cons (pe_ifExp (pt_cmpR (op_neDD hu) (pv 3) pe_str (nomark _)) pe_str pe_str) pa_nil))) (pa_cons (pe_tup (pa_cons (pe_op op_addD (pe_slice sl_D (pv 2) (po_some pe_int) po_none) (pe_tup (pa_cons (pv 4) (pa_cons (pv 4) pa_nil)))) (pa_cons (pv 3) pa_nil))) pa_nil)))))
      (pss_cons (ps_if (pt_cmpR (op_neDD hu) (pv 2) (pe_tup pa_nil) (nomark _)) (pss_one (ps_pre 5 (ps_set (i := 5) Sc.nd rfl (by first | exact Or.inl rfl | exact Or.inr rfl) (pe_op op_addLL (pv 5) (pe_frz (pe_lst (pa_cons (pe_tup (pa_cons (pe_slice sl_D (pv 2) (po_some pe_int) po_none) (pa_cons (pv 3) pa_nil))) (pa_cons (pe_tup (pa_cons (pe_slice sl_D (pv 2) po_none (po_some (pe_un un_negD pe_int))) (pa_cons (pv 3) pa_nil))) pa_nil)))))))) pss_nil)
      (pss_cons (ps_expr (pe_bm PySem.F.plainAttrs_list PySem.F.slot_list_append PySem.F.type_list_append mt_append (pv 5) (pa_cons (pe_tup (pa_cons (pe_revT (pv 2)) (pa_cons (pv 3) pa_nil))) pa_nil)))
      (pss_cons (ps_if (pt_cmpR (op_ninTD hu) (pv 3) (pe_tup (pa_cons pe_str (pa_cons pe_str pa_nil))) (by rfl)) (pss_one (ps_pre 5 (ps_set (i := 5) Sc.nd rfl (by first | exact Or.inl rfl | exact Or.inr rfl) (pe_op op_addLL (pv 5) (pe_frz (pe_lst (pa_cons (pe_tup (pa_cons (pv 2) (pa_cons (pe_op op_addD (pv 3) (pv 3)) pa_nil))) (pa_cons (pe_tup (pa_cons (pe_op op_addD (pv 2) (pv 3)) (pa_cons (pv 3) pa_nil))) (pa_cons (pe_tup (pa_cons (pv 2) (pa_cons (pe_op op_addD (pv 3) (pe_tup (pa_cons (pv 4) pa_nil))) pa_nil))) (pa_cons (pe_tup (pa_cons (pv 2) (pa_cons (pe_revT (pv 3)) pa_nil))) pa_nil)))))))))) pss_nil)
      (pss_one (ps_pre 5 (ps_ret (pe_frz (pe_lc (own := [("_law_pair", 6)]) rfl Sc.nd (pi_seq (pv 5)) (blkOk_by (own := [("_law_pair", 6)]) (N := ["_law_source_here", "_law_world", "_law_tables", "_law_end", "_law_more", "_law_found", "_law_pair"]) (sc := defScope s_law_others) (by decide +kernel)) (fun _ _ _ _ _ => (pg_name (i := 6) Sc.nd rfl (by first | exact Or.inl rfl | exact Or.inr rfl))) (fun _ _ _ _ _ => (pts_one (pt_cmpR (op_neDD hu) (pv 6) (pe_tup (pa_cons (pv 2) (pa_cons (pv 3) pa_nil))) (nomark _)))) (fun _ _ _ _ _ => (pe_make T.d_Plan_init.m G_Plan_init (hr.mono (by first | decide | omega)) rfl T.gP T.d_Plan_init.b .nil pass0 (pa_cons (pe_ix ix_D (pv 6) pe_int (fun _ _ => rfl)) (pa_cons (pe_ix ix_D (pv 6) pe_int (fun _ _ => rfl)) pa_nil)))))))))))))),
      (ds_seq (ds_asg (de_tup (da_cons (de_dgK (plK 1) de_str) (da_cons (de_dgK (plK 1) de_str) (da_cons (dc_W da_nil an_nil) da_nil)))) (dg_tup (dgs_cons (dg_name (i := 2)) (dgs_cons (dg_name (i := 3)) (dgs_cons (dg_name (i := 4)) dgs_nil)))))
      (ds_seq (ds_setO (dl_lst (da_cons (de_tup (da_cons (de_op (de_var 2) (de_tup (da_cons (de_var 4) da_nil))) (da_cons (de_var 3) da_nil))) (da_cons (de_tup (da_cons (de_var 2) (da_cons (de_if (dt_test (de_op (de_var 3) de_str)) de_str de_str) da_nil))) (da_cons (de_tup (da_cons (de_op (de_sl (de_var 2) (do_some de_int) do_none) (de_tup (da_cons (de_var 4) (da_cons (de_var 4) da_nil)))) (da_cons (de_var 3) da_nil))) da_nil)))))
      (ds_seq (ds_if (dt_test (de_op (de_var 2) (de_tup da_nil))) (ds_pre 5 (ds_setO (dl_add (de_var 5) (de_frz (dl_lst (da_cons (de_tup (da_cons (de_sl (de_var 2) (do_some de_int) do_none) (da_cons (de_var 3) da_nil))) (da_cons (de_tup (da_cons (de_sl (de_var 2) do_none (do_some (de_un de_int))) (da_cons (de_var 3) da_nil))) da_nil))))))) ds_nx)
      (ds_seq (ds_app (de_tup (da_cons (de_revT (de_var 2)) (da_cons (de_var 3) da_nil))))
      (ds_seq (ds_if (dt_test (de_op (de_var 3) (de_tup (da_cons de_str (da_cons de_str da_nil))))) (ds_pre 5 (ds_setO (dl_add (de_var 5) (de_frz (dl_lst (da_cons (de_tup (da_cons (de_var 2) (da_cons (de_op (de_var 3) (de_var 3)) da_nil))) (da_cons (de_tup (da_cons (de_op (de_var 2) (de_var 3)) (da_cons (de_var 3) da_nil))) (da_cons (de_tup (da_cons (de_var 2) (da_cons (de_op (de_var 3) (de_tup (da_cons (de_var 4) da_nil))) da_nil))) (da_cons (de_tup (da_cons (de_var 2) (da_cons (de_revT (de_var 3)) da_nil))) da_nil))))))))) ds_nx)
      (ds_pre 5 (ds_ret (de_frz (dl_lc (W' := fun _ _ _ _ => False) (vs := [6]) (di_seq (de_var 5)) (dg_name (i := 6)) (dt_test (de_op (de_var 6) (de_tup (da_cons (de_var 2) (da_cons (de_var 3) da_nil))))) (dc_I ((T.hi _).mpr rfl) (by decide) (da_cons (de_op (de_var 6) de_int) (da_cons (de_op (de_var 6) de_int) da_nil)) (an_cons (an_cons an_nil))) (fun _ h => h))))))))))⟩
theorem ok_Plan_eq (T : Defs K mg im) : FnOk P w K mg base CX0 1 T.d_Plan_eq.f T.d_Plan_eq.fd ["self", "other"] (spD K im 2 F_Plan_eq) := by
  have Sc : FnScope ["self", "other"] ["self", "other"] (defScope s_Plan_eq) := ⟨rfl, rfl, rfl, by decide +kernel, rfl, by decide +kernel, by decide +kernel⟩
  refine fn_Dx (N := ["self", "other"]) (ps := ["self", "other"]) (F := B_Plan_eq) T.d_Plan_eq.F Sc rfl rfl rfl fun cdv A outer s H Ex hr => ?_
  have hu := room_hu hr
  exact ⟨_, (pss_one (ps_ret (pe_and (pe_callB call_isi (by rfl) T.n_isinstance (by decide +kernel) (pa_cons (pv 1) (pa_cons (pe_glob rfl T.gP (show RelV (.ref T.cP) (.ref T.cP) from rfl)) pa_nil))) (pe_and (pe_cmpR (op_eqDD hu) (pe_fld (pv 0) rfl) (pe_fld (pv 1) rfl) (nomark _)) (pe_one (pe_cmpR (op_eqDD hu) (pe_fld (pv 0) rfl) (pe_fld (pv 1) rfl) (nomark _))))))),
      (ds_ret (de_and (de_isiA (fun a h => (T.hi a).mp h) (hclsT T.hi T.clP T.tyP) T.kqA (de_var 1)) (de_and (de_op (de_fld (hcls T.hi T.clP T.na_tables) (de_var 0)) (de_fld (hcls T.hi T.clP T.na_tables) (de_var 1))) (de_op (de_fld (hcls T.hi T.clP T.na_end) (de_var 0)) (de_fld (hcls T.hi T.clP T.na_end) (de_var 1))))))⟩
def spLaw (K : PySem.W.Frag) : Sp := fun vs H Q _ => ∃ (a : Addr) (ns : List Int), vs = [.ref a] ∧ SqL K H a (ns.map V.int) ∧ ns.length ≤ 63 ∧ ∀ v H', v = .bl true → Q v H'
theorem ok_law (LT : ∀ ns : List Int, ns.length ≤ 63 → ∃ ω', runS B_law tau0 (srcOf ns) = .ok (.bl true) ω') (T : Defs K mg im) : GOk P w K mg base 146 T.d_law.f T.d_law.fd ["_law_script"] (spLaw K) := by
  have G_law_source := ok_law_source (P := P) (w := w) (base := base) (im := im) T
  have G_Plan_init := ok_Plan_init (P := P) (w := w) (base := base) (im := im) T
  have G_law_some_plan := ok_law_some_plan (P := P) (w := w) (base := base) (im := im) T
  have G_law_others := ok_law_others (P := P) (w := w) (base := base) (im := im) T
  have G_law_any_table := ok_law_any_table (P := P) (w := w) (base := base) (im := im) T
  have G_law_made := ok_law_made (P := P) (w := w) (base := base) (im := im) T
  have G_Plan_eq := ok_Plan_eq (P := P) (w := w) (base := base) (im := im) T
  have G_law_plan_right := ok_law_plan_right (P := P) (w := w) (base := base) (im := im) T
  have G_Plan_stage := ok_Plan_stage (P := P) (w := w) (base := base) (im := im) T
  have G_Plan_tables := ok_Plan_tables (P := P) (w := w) (base := base) (im := im) T
  have G_Plan_end := ok_Plan_end (P := P) (w := w) (base := base) (im := im) T
  have G_law_mixed := ok_law_mixed (P := P) (w := w) (base := base) (im := im) T
  have Sc : FnScope ["_law_script", "_law_source_here", "_law_turn", "_law_world", "_law_handed", "_law_made_here", "_law_told", "_law_other", "_law_pair", "_law_odd", "_law_tables", "_law_many", "_law_p", "_law_one", "_law_bare", "_law_size_here"] ["_law_script"] (defScope s_law) := ⟨rfl, rfl, rfl, by decide +kernel, rfl, by decide +kernel, by decide +kernel⟩
  refine GOk.ofBody T.d_law.F Sc (fun vs H Q E h => ?_) (fun cdv A outer s H vs Q E gu hr h => ?_)
  · obtain ⟨a, ns, rfl, _⟩ := h
    rfl
  obtain ⟨a, ns, rfl, hS, hlen, k⟩ := h
  have hu := room_hu hr
  obtain ⟨tB, pB, dB⟩ : ∃ t, PSs (cxOf CX0 P w K mg base ["_law_script", "_law_source_here", "_law_turn", "_law_world", "_law_handed", "_law_made_here", "_law_told", "_law_other", "_law_pair", "_law_odd", "_law_tables", "_law_many", "_law_p", "_law_one", "_law_bare", "_law_size_here"] "law" (defScope s_law) T.d_law.f cdv A outer s H E).nox (defBody s_law).tail t ∧ ∀ p : Addr × Addr, DS (srcG im p) K (fun _ _ _ _ => False) t B_law := ⟨_, (pss_cons (ps_for PassesOwn.never rfl (pi_range1 rfl T.n_range (pa_cons pe_int pa_nil)) (pg_name (i := 2) Sc.nd rfl (by first | exact Or.inl rfl | exact Or.inr rfl)) (pss_cons (ps_set (i := 3) Sc.nd rfl (by first | exact Or.inl rfl | exact Or.inr rfl) (pe_call G_law_some_plan (hr.mono (by first | decide | omega)) rfl T.d_law_some_plan.g T.d_law_some_plan.F.kp T.d_law_some_plan.b .nil pass0 (pa_cons (pv 1) (pa_cons pe_int pa_nil))))
      (pss_cons (ps_set (i := 4) Sc.nd rfl (by first | exact Or.inl rfl | exact Or.inr rfl) (pe_callTy call_list_of (by rfl) T.n_list (by decide +kernel) (pa_cons (pe_dget (hu1 hu) (pv 3) pe_str (fun _ _ => rfl)) pa_nil)))
      (pss_cons (ps_set (i := 5) Sc.nd rfl (by first | exact Or.inl rfl | exact Or.inr rfl) (pe_thaw (i := 4) (pe_make T.d_Plan_init.m G_Plan_init (hr.mono (by first | decide | omega)) rfl T.gP T.d_Plan_init.b .nil pass0 (pa_cons (pv 4) (pa_cons (pe_dget (hu1 hu) (pv 3) pe_str (fun _ _ => rfl)) pa_nil)))))
      (pss_cons (ps_if (pt_thaw (i := 4) (pt_cmpR (op_neDD hu) (pv 4) (pe_callTy call_listDD (by rfl) T.n_list (by decide +kernel) (pa_cons (pe_dget (hu1 hu) (pv 3) pe_str (fun _ _ => rfl)) pa_nil)) (nomark _))) (pss_one (ps_ret pe_bl)) pss_nil)
      (pss_cons (ps_expr (pe_bm PySem.F.plainAttrs_list PySem.F.slot_list_append PySem.F.type_list_append mt_append (pv 4) (pa_cons pe_non pa_nil)))
      (pss_cons (ps_if (PW.pt (pw_or (pt_not (pt_val (pe_callG G_law_plan_right gu (hr.mono (by first | decide | omega)) rfl T.d_law_plan_right.g T.d_law_plan_right.F.kp T.d_law_plan_right.b pass0 (pa_cons (pv 3) (pa_cons (pv 5) pa_nil))))) (pw_or1 (pt_not (pt_val (pe_callG G_law_plan_right gu (hr.mono (by first | decide | omega)) rfl T.d_law_plan_right.g T.d_law_plan_right.F.kp T.d_law_plan_right.b pass0 (pa_cons (pv 3) (pa_cons (pe_dget (hu1 hu) (pv 3) pe_str (fun _ _ => rfl)) pa_nil)))))))) (pss_one (ps_ret pe_bl)) pss_nil)
      (pss_cons (ps_set (i := 6) Sc.nd rfl (by first | exact Or.inl rfl | exact Or.inr rfl) (pe_frz (pe_lst (pa_cons (pe_cmpR (op_ownE (fun a h => (T.hi a).mp h) ⟨T.d_Plan_eq.m.at_, T.d_Plan_eq.m.fn, T.neq, T.tyP.cm⟩ G_Plan_eq T.d_Plan_eq.b (hr.mono (by first | decide | omega)) hu) (pv 5) (pe_dget (hu1 hu) (pv 3) pe_str (fun _ _ => rfl)) (nomark _)) (pa_cons (pe_cmpR (op_ownE (fun a h => (T.hi a).mp h) ⟨T.d_Plan_eq.m.at_, T.d_Plan_eq.m.fn, T.neq, T.tyP.cm⟩ G_Plan_eq T.d_Plan_eq.b (hr.mono (by first | decide | omega)) hu) (pe_dget (hu1 hu) (pv 3) pe_str (fun _ _ => rfl)) (pv 5) (nomark _)) (pa_cons (pe_not (pe_cmpR (op_ownN (fun a h => (T.hi a).mp h) ⟨T.d_Plan_eq.m.at_, T.d_Plan_eq.m.fn, T.neq, T.tyP.cm⟩ G_Plan_eq T.d_Plan_eq.b (hr.mono (by first | decide | omega)) hu) (pv 5) (pe_dget (hu1 hu) (pv 3) pe_str (fun _ _ => rfl)) (nomark _))) pa_nil))))))
      (pss_cons (ps_if (pt_cmpR (op_neDD hu) (pe_callB (call_reprDD hu gu) (by rfl) T.n_repr (by decide +kernel) (pa_cons (pv 6) pa_nil)) (pe_callB (call_reprDD hu gu) (by rfl) T.n_repr (by decide +kernel) (pa_cons (pe_op op_mulD (pe_frz (pe_lst (pa_cons pe_bl pa_nil))) pe_int) pa_nil)) (nomark _)) (pss_one (ps_ret pe_bl)) pss_nil)
      (pss_cons (ps_for PassesOwn.never rfl (pi_seq (pe_call G_law_others (hr.mono (by first | decide | omega)) rfl T.d_law_others.g T.d_law_others.F.kp T.d_law_others.b .nil pass0 (pa_cons (pv 1) (pa_cons (pv 3) pa_nil)))) (pg_name (i := 7) Sc.nd rfl (by first | exact Or.inl rfl | exact Or.inr rfl)) (pss_one (ps_if (pt_cmpR (op_neDD hu) (pe_callB (call_reprDD hu gu) (by rfl) T.n_repr (by decide +kernel) (pa_cons (pe_frz (pe_lst (pa_cons (pe_cmpR (op_ownE (fun a h => (T.hi a).mp h) ⟨T.d_Plan_eq.m.at_, T.d_Plan_eq.m.fn, T.neq, T.tyP.cm⟩ G_Plan_eq T.d_Plan_eq.b (hr.mono (by first | decide | omega)) hu) (pv 5) (pv 7) (nomark _)) (pa_cons (pe_cmpR (op_ownE (fun a h => (T.hi a).mp h) ⟨T.d_Plan_eq.m.at_, T.d_Plan_eq.m.fn, T.neq, T.tyP.cm⟩ G_Plan_eq T.d_Plan_eq.b (hr.mono (by first | decide | omega)) hu) (pv 7) (pv 5) (nomark _)) (pa_cons (pe_cmpR (op_ownN (fun a h => (T.hi a).mp h) ⟨T.d_Plan_eq.m.at_, T.d_Plan_eq.m.fn, T.neq, T.tyP.cm⟩ G_Plan_eq T.d_Plan_eq.b (hr.mono (by first | decide | omega)) hu) (pv 5) (pv 7) (nomark _)) pa_nil))))) pa_nil)) (pe_callB (call_reprDD hu gu) (by rfl) T.n_repr (by decide +kernel) (pa_cons (pe_frz (pe_lst (pa_cons pe_bl (pa_cons pe_bl (pa_cons pe_bl pa_nil))))) pa_nil)) (nomark _)) (pss_one (ps_ret pe_bl)) pss_nil)))
      (pss_cons (ps_set (i := 8) Sc.nd rfl (by first | exact Or.inl rfl | exact Or.inr rfl) (pe_tup (pa_cons (pe_dget (hu1 hu) (pv 3) pe_str (fun _ _ => rfl)) (pa_cons (pe_dget (hu1 hu) (pv 3) pe_str (fun _ _ => rfl)) pa_nil))))
      (pss_one (ps_for PassesOwn.never rfl (pi_seq (pe_frz (pe_lst (pa_cons pe_non (pa_cons (pe_dget (hu1 hu) (pv 3) pe_str (fun _ _ => rfl)) (pa_cons (pe_tup pa_nil) (pa_cons pe_str (pa_cons pe_int (pa_cons (pe_callTy call_listDD (by rfl) T.n_list (by decide +kernel) (pa_cons (pv 8) pa_nil)) (pa_cons (pe_frzW pe_dnewK) (pa_cons (pv 8) pa_nil))))))))))) (pg_name (i := 9) Sc.nd rfl (by first | exact Or.inl rfl | exact Or.inr rfl)) (pss_one (ps_if (pt_cmpR (op_neDD hu) (pe_callB (call_reprDD hu gu) (by rfl) T.n_repr (by decide +kernel) (pa_cons (pe_frz (pe_lst (pa_cons (pe_cmpR (op_ownE (fun a h => (T.hi a).mp h) ⟨T.d_Plan_eq.m.at_, T.d_Plan_eq.m.fn, T.neq, T.tyP.cm⟩ G_Plan_eq T.d_Plan_eq.b (hr.mono (by first | decide | omega)) hu) (pv 5) (pv 9) (nomark _)) (pa_cons (pe_cmpR (op_ownN (fun a h => (T.hi a).mp h) ⟨T.d_Plan_eq.m.at_, T.d_Plan_eq.m.fn, T.neq, T.tyP.cm⟩ G_Plan_eq T.d_Plan_eq.b (hr.mono (by first | decide | omega)) hu) (pv 5) (pv 9) (nomark _)) pa_nil)))) pa_nil)) (pe_callB (call_reprDD hu gu) (by rfl) T.n_repr (by decide +kernel) (pa_cons (pe_frz (pe_lst (pa_cons pe_bl (pa_cons pe_bl pa_nil)))) pa_nil)) (nomark _)) (pss_one (ps_ret pe_bl)) pss_nil)))))))))))))))
      (pss_cons (ps_fz 10 (ps_setLc (i := 10) (own := [("_law_size_here", 15)]) rfl Sc.nd rfl rfl (sw_true rfl rfl rfl (by decide +kernel)) (pi_seq (pe_tup (pa_cons pe_int (pa_cons pe_int (pa_cons pe_int (pa_cons pe_int (pa_cons pe_int (pa_cons pe_int pa_nil)))))))) (blkOk_by (own := [("_law_size_here", 15)]) (N := ["_law_script", "_law_source_here", "_law_turn", "_law_world", "_law_handed", "_law_made_here", "_law_told", "_law_other", "_law_pair", "_law_odd", "_law_tables", "_law_many", "_law_p", "_law_one", "_law_bare", "_law_size_here"]) (sc := defScope s_law) (by decide +kernel)) (fun _ _ _ _ _ => (pg_name (i := 15) Sc.nd rfl (by first | exact Or.inl rfl | exact Or.inr rfl))) (fun _ _ _ _ _ => pts_nil) (fun _ _ _ _ _ => (pe_call G_law_any_table (hr.mono (by first | decide | omega)) rfl T.d_law_any_table.g T.d_law_any_table.F.kp T.d_law_any_table.b .nil pass0 (pa_cons (pv 1) (pa_cons (pv 15) pa_nil))))))
      (pss_cons (ps_for PassesOwn.never rfl (pi_seq (pe_frz (pe_lst (pa_cons pe_int (pa_cons pe_int (pa_cons pe_int pa_nil)))))) (pg_name (i := 11) Sc.nd rfl (by first | exact Or.inl rfl | exact Or.inr rfl)) (pss_cons (ps_set (i := 3) Sc.nd rfl (by first | exact Or.inl rfl | exact Or.inr rfl) (pe_call G_law_made (hr.mono (by first | decide | omega)) rfl T.d_law_made.g T.d_law_made.F.kp T.d_law_made.b .nil pass0 (pa_cons (pv 10) (pa_cons (pe_callTy call_tupleDD (by rfl) T.n_tuple (by decide +kernel) (pa_cons (pe_slice sl_D (pe_call G_law_mixed (hr.mono (by first | decide | omega)) rfl T.d_law_mixed.g T.d_law_mixed.F.kp T.d_law_mixed.b .nil pass0 (pa_cons (pv 1) (pa_cons (pv 10) pa_nil))) po_none (po_some (pv 11))) pa_nil)) pa_nil))))
      (pss_one (ps_if (pt_not (pt_val (pe_callG G_law_plan_right gu (hr.mono (by first | decide | omega)) rfl T.d_law_plan_right.g T.d_law_plan_right.F.kp T.d_law_plan_right.b pass0 (pa_cons (pv 3) (pa_cons (pe_dget (hu1 hu) (pv 3) pe_str (fun _ _ => rfl)) pa_nil))))) (pss_one (ps_ret pe_bl)) pss_nil))))
      (pss_cons (ps_set (i := 12) Sc.nd rfl (by first | exact Or.inl rfl | exact Or.inr rfl) (pe_tup (pa_cons (pe_tup pa_nil) (pa_cons (pe_tup pa_nil) pa_nil))))
      (pss_cons (ps_par (i := 13) (j := 7) rfl Sc.nd rfl rfl (by decide) rfl rfl (pa_cons (pe_make T.d_Plan_init.m G_Plan_init (hr.mono (by first | decide | omega)) rfl T.gP T.d_Plan_init.b .nil pass0 (pa_cons (pe_frz (pe_lst (pa_cons (pe_tup (pa_cons (pv 12) pa_nil)) pa_nil))) (pa_cons (pe_tup (pa_cons (pe_tup (pa_cons (pv 12) pa_nil)) pa_nil)) pa_nil))) (pa_cons (pe_make T.d_Plan_init.m G_Plan_init (hr.mono (by first | decide | omega)) rfl T.gP T.d_Plan_init.b .nil pass0 (pa_cons (pe_frz (pe_lst pa_nil)) (pa_cons (pe_tup (pa_cons (pe_tup (pa_cons (pv 12) pa_nil)) pa_nil)) pa_nil))) pa_nil)) (by rfl))
      (pss_cons (ps_if (PW.pt (pw_or (pt_cmpR (op_ownE (fun a h => (T.hi a).mp h) ⟨T.d_Plan_eq.m.at_, T.d_Plan_eq.m.fn, T.neq, T.tyP.cm⟩ G_Plan_eq T.d_Plan_eq.b (hr.mono (by first | decide | omega)) hu) (pv 13) (pv 7) (nomark _)) (pw_or1 (pt_cmpR (op_neDD hu) (pe_frz (pe_lst (pa_cons (pe_meth (pv 13) T.clP T.d_Plan_stage.m G_Plan_stage (hr.mono (by first | decide | omega)) T.d_Plan_stage.b .nil pass0 (pa_cons pe_int pa_nil)) (pa_cons (pe_meth (pv 7) T.clP T.d_Plan_stage.m G_Plan_stage (hr.mono (by first | decide | omega)) T.d_Plan_stage.b .nil pass0 (pa_cons pe_int pa_nil)) (pa_cons (pe_meth (pv 7) T.clP T.d_Plan_stage.m G_Plan_stage (hr.mono (by first | decide | omega)) T.d_Plan_stage.b .nil pass0 (pa_cons (pe_op op_powD pe_int pe_int) pa_nil)) pa_nil))))) (pe_op op_mulD (pe_frz (pe_lst (pa_cons (pe_tup (pa_cons (pv 12) pa_nil)) pa_nil))) pe_int) (nomark _))))) (pss_one (ps_ret pe_bl)) pss_nil)
      (pss_cons (ps_set (i := 14) Sc.nd rfl (by first | exact Or.inl rfl | exact Or.inr rfl) (pe_make T.d_Plan_init.m G_Plan_init (hr.mono (by first | decide | omega)) rfl T.gP T.d_Plan_init.b .nil pass0 (pa_cons (pe_tup pa_nil) (pa_cons pe_str pa_nil))))
      (pss_one (ps_ret (pe_and (pe_cmpR (op_eqDD hu) (pe_frz (pe_lst (pa_cons (pe_meth0 (pv 14) T.clP T.d_Plan_tables.m G_Plan_tables (hr.mono (by first | decide | omega)) T.d_Plan_tables.b .nil pass0) (pa_cons (pe_meth0 (pv 14) T.clP T.d_Plan_end.m G_Plan_end (hr.mono (by first | decide | omega)) T.d_Plan_end.b .nil pass0) (pa_cons (pe_meth (pv 14) T.clP T.d_Plan_stage.m G_Plan_stage (hr.mono (by first | decide | omega)) T.d_Plan_stage.b .nil pass0 (pa_cons pe_int pa_nil)) pa_nil))))) (pe_frz (pe_lst (pa_cons (pe_tup pa_nil) (pa_cons pe_str (pa_cons pe_non pa_nil))))) (nomark _)) (pe_one (pe_cmpR (op_ownN (fun a h => (T.hi a).mp h) ⟨T.d_Plan_eq.m.at_, T.d_Plan_eq.m.fn, T.neq, T.tyP.cm⟩ G_Plan_eq T.d_Plan_eq.b (hr.mono (by first | decide | omega)) hu) (pv 14) (pe_make T.d_Plan_init.m G_Plan_init (hr.mono (by first | decide | omega)) rfl T.gP T.d_Plan_init.b .nil pass0 (pa_cons (pe_frz (pe_lst pa_nil)) (pa_cons pe_str pa_nil))) (nomark _))))))))))))), fun p => (ds_seq (ds_for (di_rg1 (da_cons de_int da_nil)) (dg_name (i := 2)) (ds_seq (ds_asg (dc_W (da_cons de_int da_nil) (an_cons an_nil)) dg_name)
      (ds_seq (ds_setO (dl_list1 (de_dgK (plK 3) de_str)))
      (ds_seq (ds_asg (de_thaw (i := 4) (dc_I ((T.hi _).mpr rfl) (by decide) (da_cons (de_var 4) (da_cons (de_dgK (plK 3) de_str) da_nil)) (an_cons (an_cons an_nil)))) dg_name)
      (ds_seq (ds_if (dt_thaw (i := 4) (dt_test (de_op (de_var 4) (de_callN (da_cons (de_dgK (plK 3) de_str) da_nil))))) (ds_ret de_bl) ds_nx)
      (ds_seq (ds_app de_non)
      (ds_seq (ds_if (dt_or (dt_not (dt_B (dc_D (da_cons (de_var 3) (da_cons (de_var 5) da_nil)) (an_cons (an_cons an_nil))))) (dt_not (dt_B (dc_D (da_cons (de_var 3) (da_cons (de_dgK (plK 3) de_str) da_nil)) (an_cons (an_cons an_nil)))))) (ds_ret de_bl) ds_nx)
      (ds_seq (ds_asg (de_frz (dl_lst (da_cons (de_own (fun a h => (T.hi a).mp h) (hclsT T.hi T.clP T.tyP) (de_var 5) (de_dgK (plK 3) de_str)) (da_cons (de_own (fun a h => (T.hi a).mp h) (hclsT T.hi T.clP T.tyP) (de_dgK (plK 3) de_str) (de_var 5)) (da_cons (de_not (de_own (fun a h => (T.hi a).mp h) (hclsT T.hi T.clP T.tyP) (de_var 5) (de_dgK (plK 3) de_str))) da_nil))))) dg_name)
      (ds_seq (ds_if (dt_test (de_op (de_callN (da_cons (de_var 6) da_nil)) (de_callN (da_cons (de_op (de_frz (dl_lst (da_cons de_bl da_nil))) de_int) da_nil)))) (ds_ret de_bl) ds_nx)
      (ds_seq (ds_for (di_seq (dc_W (da_cons (de_var 3) da_nil) (an_cons an_nil))) (dg_name (i := 7)) (ds_if (dt_test (de_op (de_callN (da_cons (de_frz (dl_lst (da_cons (de_own (fun a h => (T.hi a).mp h) (hclsT T.hi T.clP T.tyP) (de_var 5) (de_var 7)) (da_cons (de_own (fun a h => (T.hi a).mp h) (hclsT T.hi T.clP T.tyP) (de_var 7) (de_var 5)) (da_cons (de_own (fun a h => (T.hi a).mp h) (hclsT T.hi T.clP T.tyP) (de_var 5) (de_var 7)) da_nil))))) da_nil)) (de_callN (da_cons (de_frz (dl_lst (da_cons de_bl (da_cons de_bl (da_cons de_bl da_nil))))) da_nil)))) (ds_ret de_bl) ds_nx))
      (ds_seq (ds_asg (de_tup (da_cons (de_dgK (plK 3) de_str) (da_cons (de_dgK (plK 3) de_str) da_nil))) dg_name)
      (ds_for (di_seq (de_frz (dl_lst (da_cons de_non (da_cons (de_dgK (plK 3) de_str) (da_cons (de_tup da_nil) (da_cons de_str (da_cons de_int (da_cons (de_callN (da_cons (de_var 8) da_nil)) (da_cons de_di0 (da_cons (de_var 8) da_nil))))))))))) (dg_name (i := 9)) (ds_if (dt_test (de_op (de_callN (da_cons (de_frz (dl_lst (da_cons (de_own (fun a h => (T.hi a).mp h) (hclsT T.hi T.clP T.tyP) (de_var 5) (de_var 9)) (da_cons (de_own (fun a h => (T.hi a).mp h) (hclsT T.hi T.clP T.tyP) (de_var 5) (de_var 9)) da_nil)))) da_nil)) (de_callN (da_cons (de_frz (dl_lst (da_cons de_bl (da_cons de_bl da_nil)))) da_nil)))) (ds_ret de_bl) ds_nx)))))))))))))
      (ds_seq (ds_fz (ds_setO (dl_lc (W' := fun _ _ _ _ => False) (vs := [15]) (di_seq (de_tup (da_cons de_int (da_cons de_int (da_cons de_int (da_cons de_int (da_cons de_int (da_cons de_int da_nil)))))))) (dg_name (i := 15)) dt_yes (dc_W (da_cons (de_var 15) da_nil) (an_cons an_nil)) (fun _ h => h))))
      (ds_seq (ds_for (di_seq (de_frz (dl_lst (da_cons de_int (da_cons de_int (da_cons de_int da_nil)))))) (dg_name (i := 11)) (ds_seq (ds_asg (dc_D (da_cons (de_var 10) (da_cons (de_callN (da_cons (de_sl (dc_W (da_cons (de_var 10) da_nil) (an_cons an_nil)) do_none (do_some (de_var 11))) da_nil)) da_nil)) (an_cons (an_cons an_nil))) dg_name)
      (ds_if (dt_not (dt_B (dc_D (da_cons (de_var 3) (da_cons (de_dgK (plK 3) de_str) da_nil)) (an_cons (an_cons an_nil))))) (ds_ret de_bl) ds_nx)))
      (ds_seq (ds_asg (de_tup (da_cons (de_tup da_nil) (da_cons (de_tup da_nil) da_nil))) dg_name)
      (ds_seq (ds_par (dc_I ((T.hi _).mpr rfl) (by decide) (da_cons (de_frz (dl_lst (da_cons (de_tup (da_cons (de_var 12) da_nil)) da_nil))) (da_cons (de_tup (da_cons (de_tup (da_cons (de_var 12) da_nil)) da_nil)) da_nil)) (an_cons (an_cons an_nil))) (dc_I ((T.hi _).mpr rfl) (by decide) (da_cons (de_frz (dl_lst da_nil)) (da_cons (de_tup (da_cons (de_tup (da_cons (de_var 12) da_nil)) da_nil)) da_nil)) (an_cons (an_cons an_nil))))
      (ds_seq (ds_if (dt_or (dt_test (de_own (fun a h => (T.hi a).mp h) (hclsT T.hi T.clP T.tyP) (de_var 13) (de_var 7))) (dt_test (de_op (de_frz (dl_lst (da_cons (dc_M (fun a h => (T.hi a).mp h) (de_var 13) (da_cons de_int da_nil) (an_cons an_nil)) (da_cons (dc_M (fun a h => (T.hi a).mp h) (de_var 7) (da_cons de_int da_nil) (an_cons an_nil)) (da_cons (dc_M (fun a h => (T.hi a).mp h) (de_var 7) (da_cons (de_op de_int de_int) da_nil) (an_cons an_nil)) da_nil))))) (de_op (de_frz (dl_lst (da_cons (de_tup (da_cons (de_var 12) da_nil)) da_nil))) de_int)))) (ds_ret de_bl) ds_nx)
      (ds_seq (ds_asg (dc_I ((T.hi _).mpr rfl) (by decide) (da_cons (de_tup da_nil) (da_cons de_str da_nil)) (an_cons (an_cons an_nil))) dg_name)
      (ds_ret (de_and (de_op (de_frz (dl_lst (da_cons (dc_M (fun a h => (T.hi a).mp h) (de_var 14) da_nil an_nil) (da_cons (dc_M (fun a h => (T.hi a).mp h) (de_var 14) da_nil an_nil) (da_cons (dc_M (fun a h => (T.hi a).mp h) (de_var 14) (da_cons de_int da_nil) (an_cons an_nil)) da_nil))))) (de_frz (dl_lst (da_cons (de_tup da_nil) (da_cons de_str (da_cons de_non da_nil)))))) (de_own (fun a h => (T.hi a).mp h) (hclsT T.hi T.clP T.tyP) (de_var 14) (dc_I ((T.hi _).mpr rfl) (by decide) (da_cons (de_frz (dl_lst da_nil)) (da_cons de_str da_nil)) (an_cons (an_cons an_nil)))))))))))))⟩
  refine ⟨_, pss_cons (ps_set (i := 1) Sc.nd rfl (by first | exact Or.inl rfl | exact Or.inr rfl) (pe_call G_law_source (hr.mono (by first | decide | omega)) rfl T.d_law_source.g T.d_law_source.F.kp T.d_law_source.b .nil pass0 (pa_cons (pv 0) pa_nil))) pB, ?_⟩
  refine ⟨_, rfl, a, ns, rfl, hS, by omega, fun p H' sm h1 h2 at' => ?_⟩
  obtain ⟨ω', hF⟩ := LT ns hlen
  clear LT
  generalize B_law = Bl at dB hF
  have D0 := dB p
  refine D0 H' _ H' (srcOf ns) tau0 ⟨rfl, fun i v c e1 e2 => ?_, fun i j l _ _ xs ys _ _ e2 _ _ => ?_, .refl⟩ at' _ ?_
  · by_cases hi : i = 1
    · subst hi
      cases e1; cases e2
      exact .src
    · have e3 : c = none := by
        unfold tau0 at e2
        rw [List.getElem?_set_ne (Ne.symm hi), List.getElem?_replicate] at e2
        split at e2 <;> cases e2
        rfl
      subst e3
      exact .un
  · by_cases hi : i = 1
    · subst hi
      cases e2
    · unfold tau0 at e2
      rw [List.getElem?_set_ne (Ne.symm hi), List.getElem?_replicate] at e2
      split at e2 <;> cases e2
  · exact ks_law hF (fun v H2 e => k _ _ e)
end
theorem all_mk {l : PySem.W.OpenLaw} {w : World} {K : PySem.W.Frag} {h : Heap} {mg : Str → Option Value} {fa : Addr} (LT : ∀ ns : List Int, ns.length ≤ 63 → ∃ ω', runS B_law tau0 (srcOf ns) = .ok (.bl true) ω') (X : K.In h) (G : h.Ns mainGlobals mg) (hfa : mg "law" = some (.ref fa))
    {C : Addr} (aC : PySem.W.nsIn K mainGlobals "Plan" = some (some (.ref C))) (pg : PySem.W.plainGet K C Str.empty = true) (hd : PySem.W.hasDictIn K C = true) (po : PySem.W.plainOver K C = true) (sa : PySem.W.findIn K (.ref C) "__setattr__" = some (some (.builtin "object.__setattr__"))) (mk : PySem.W.makesIn K C = true) (kc : PySem.W.keepIn K (.ref C) = true)
    (n_end : PySem.W.findIn K (.ref C) "_end" = some none)
    (n_tables : PySem.W.findIn K (.ref C) "_tables" = some none)
    (tca : PySem.W.findIn K (.ref C) "__class__" = some (some (.builtin "object.__class__"))) (tcn : PySem.W.specialIn K (.builtin "object.__class__") "__get__" = some (some (.builtin "getset_descriptor.__get__"))) (tct : PySem.W.takesIn K (.builtin "object.__class__") = some true) (tcm : PySem.W.mroIn K C (.type "object") = some true)
    (tki : PySem.W.mroIn K C (.type "int") = some false) (tkb : PySem.W.mroIn K C (.type "bool") = some false)
    (tne : PySem.W.findIn K (.ref C) "__ne__" = some (some (.builtin "object.__ne__"))) (tkq : PySem.W.isClsIn K C = true) (tkr : PySem.W.typeIn K (.ref C) = some (.type "type"))
    {f0 : Addr} {od0 an0 : Option Addr} {sl0 : Array (Option Value)} {oc0 kV0 dc0 pm0 cd0 ct0 : Value}
    (a0 : PySem.W.nsIn K mainGlobals "wrong_shape_path" = some (some (.ref f0))) (l0 : K.lookup f0 = some ⟨oc0, od0, .func (PySem.W.fnOf "wrong_shape_path" "wrong_shape_path" (defArgs s_wrong_shape_path) (defBody s_wrong_shape_path) (defScope s_wrong_shape_path) .none kV0 dc0 pm0 an0 cd0 ct0), sl0⟩) (c0 : PySem.W.codeIn K cd0 "wrong_shape_path" = true) (k0 : PySem.W.keepIn K (.ref f0) = true)
    {f1 : Addr} {od1 an1 : Option Addr} {sl1 : Array (Option Value)} {oc1 kV1 dc1 pm1 cd1 ct1 : Value}
    (a1 : PySem.W.nsIn K mainGlobals "size_of" = some (some (.ref f1))) (l1 : K.lookup f1 = some ⟨oc1, od1, .func (PySem.W.fnOf "size_of" "size_of" (defArgs s_size_of) (defBody s_size_of) (defScope s_size_of) .none kV1 dc1 pm1 an1 cd1 ct1), sl1⟩) (c1 : PySem.W.codeIn K cd1 "size_of" = true) (k1 : PySem.W.keepIn K (.ref f1) = true)
    {f2 : Addr} {od2 an2 : Option Addr} {sl2 : Array (Option Value)} {oc2 kV2 dc2 pm2 cd2 ct2 : Value}
    (a2 : PySem.W.nsIn K mainGlobals "wrong_table_path" = some (some (.ref f2))) (l2 : K.lookup f2 = some ⟨oc2, od2, .func (PySem.W.fnOf "wrong_table_path" "wrong_table_path" (defArgs s_wrong_table_path) (defBody s_wrong_table_path) (defScope s_wrong_table_path) .none kV2 dc2 pm2 an2 cd2 ct2), sl2⟩) (c2 : PySem.W.codeIn K cd2 "wrong_table_path" = true) (k2 : PySem.W.keepIn K (.ref f2) = true)
    {f3 : Addr} {od3 an3 : Option Addr} {sl3 : Array (Option Value)} {oc3 kV3 dc3 pm3 cd3 ct3 : Value}
    (a3 : PySem.W.nsIn K mainGlobals "_first_wrong_table" = some (some (.ref f3))) (l3 : K.lookup f3 = some ⟨oc3, od3, .func (PySem.W.fnOf "_first_wrong_table" "_first_wrong_table" (defArgs s_first_wrong_table) (defBody s_first_wrong_table) (defScope s_first_wrong_table) .none kV3 dc3 pm3 an3 cd3 ct3), sl3⟩) (c3 : PySem.W.codeIn K cd3 "_first_wrong_table" = true) (k3 : PySem.W.keepIn K (.ref f3) = true)
    {f4 : Addr} {od4 an4 : Option Addr} {sl4 : Array (Option Value)} {oc4 kV4 dc4 pm4 cd4 ct4 : Value}
    (a4 : PySem.W.nsIn K mainGlobals "wrong_plan_path" = some (some (.ref f4))) (l4 : K.lookup f4 = some ⟨oc4, od4, .func (PySem.W.fnOf "wrong_plan_path" "wrong_plan_path" (defArgs s_wrong_plan_path) (defBody s_wrong_plan_path) (defScope s_wrong_plan_path) .none kV4 dc4 pm4 an4 cd4 ct4), sl4⟩) (c4 : PySem.W.codeIn K cd4 "wrong_plan_path" = true) (k4 : PySem.W.keepIn K (.ref f4) = true)
    {f5 : Addr} {od5 an5 : Option Addr} {sl5 : Array (Option Value)} {oc5 kV5 dc5 pm5 cd5 ct5 : Value}
    (a5 : PySem.W.nsIn K mainGlobals "_law_source" = some (some (.ref f5))) (l5 : K.lookup f5 = some ⟨oc5, od5, .func (PySem.W.fnOf "_law_source" "_law_source" (defArgs s_law_source) (defBody s_law_source) (defScope s_law_source) .none kV5 dc5 pm5 an5 cd5 ct5), sl5⟩) (c5 : PySem.W.codeIn K cd5 "_law_source" = true) (k5 : PySem.W.keepIn K (.ref f5) = true)
    {f6 : Addr} {od6 an6 : Option Addr} {sl6 : Array (Option Value)} {oc6 kV6 dc6 pm6 cd6 ct6 : Value}
    (a6 : PySem.W.nsIn K mainGlobals "_law_pick" = some (some (.ref f6))) (l6 : K.lookup f6 = some ⟨oc6, od6, .func (PySem.W.fnOf "_law_pick" "_law_pick" (defArgs s_law_pick) (defBody s_law_pick) (defScope s_law_pick) .none kV6 dc6 pm6 an6 cd6 ct6), sl6⟩) (c6 : PySem.W.codeIn K cd6 "_law_pick" = true) (k6 : PySem.W.keepIn K (.ref f6) = true)
    {f7 : Addr} {od7 an7 : Option Addr} {sl7 : Array (Option Value)} {oc7 kV7 dc7 pm7 cd7 ct7 : Value}
    (a7 : PySem.W.nsIn K mainGlobals "_law_of" = some (some (.ref f7))) (l7 : K.lookup f7 = some ⟨oc7, od7, .func (PySem.W.fnOf "_law_of" "_law_of" (defArgs s_law_of) (defBody s_law_of) (defScope s_law_of) .none kV7 dc7 pm7 an7 cd7 ct7), sl7⟩) (c7 : PySem.W.codeIn K cd7 "_law_of" = true) (k7 : PySem.W.keepIn K (.ref f7) = true)
    {f8 : Addr} {od8 an8 : Option Addr} {sl8 : Array (Option Value)} {oc8 kV8 dc8 pm8 cd8 ct8 : Value}
    (a8 : PySem.W.nsIn K mainGlobals "_law_mixed" = some (some (.ref f8))) (l8 : K.lookup f8 = some ⟨oc8, od8, .func (PySem.W.fnOf "_law_mixed" "_law_mixed" (defArgs s_law_mixed) (defBody s_law_mixed) (defScope s_law_mixed) .none kV8 dc8 pm8 an8 cd8 ct8), sl8⟩) (c8 : PySem.W.codeIn K cd8 "_law_mixed" = true) (k8 : PySem.W.keepIn K (.ref f8) = true)
    {f9 : Addr} {od9 an9 : Option Addr} {sl9 : Array (Option Value)} {oc9 kV9 dc9 pm9 cd9 ct9 : Value}
    (a9 : PySem.W.nsIn K mainGlobals "_law_comb" = some (some (.ref f9))) (l9 : K.lookup f9 = some ⟨oc9, od9, .func (PySem.W.fnOf "_law_comb" "_law_comb" (defArgs s_law_comb) (defBody s_law_comb) (defScope s_law_comb) .none kV9 dc9 pm9 an9 cd9 ct9), sl9⟩) (c9 : PySem.W.codeIn K cd9 "_law_comb" = true) (k9 : PySem.W.keepIn K (.ref f9) = true)
    {f10 : Addr} {od10 an10 : Option Addr} {sl10 : Array (Option Value)} {oc10 kV10 dc10 pm10 cd10 ct10 : Value}
    (a10 : PySem.W.nsIn K mainGlobals "_law_halves" = some (some (.ref f10))) (l10 : K.lookup f10 = some ⟨oc10, od10, .func (PySem.W.fnOf "_law_halves" "_law_halves" (defArgs s_law_halves) (defBody s_law_halves) (defScope s_law_halves) .none kV10 dc10 pm10 an10 cd10 ct10), sl10⟩) (c10 : PySem.W.codeIn K cd10 "_law_halves" = true) (k10 : PySem.W.keepIn K (.ref f10) = true)
    {f11 : Addr} {od11 an11 : Option Addr} {sl11 : Array (Option Value)} {oc11 kV11 dc11 pm11 cd11 ct11 : Value}
    (a11 : PySem.W.nsIn K mainGlobals "_law_shape" = some (some (.ref f11))) (l11 : K.lookup f11 = some ⟨oc11, od11, .func (PySem.W.fnOf "_law_shape" "_law_shape" (defArgs s_law_shape) (defBody s_law_shape) (defScope s_law_shape) .none kV11 dc11 pm11 an11 cd11 ct11), sl11⟩) (c11 : PySem.W.codeIn K cd11 "_law_shape" = true) (k11 : PySem.W.keepIn K (.ref f11) = true)
    {f12 : Addr} {od12 an12 : Option Addr} {sl12 : Array (Option Value)} {oc12 kV12 dc12 pm12 cd12 ct12 : Value}
    (a12 : PySem.W.nsIn K mainGlobals "_law_size" = some (some (.ref f12))) (l12 : K.lookup f12 = some ⟨oc12, od12, .func (PySem.W.fnOf "_law_size" "_law_size" (defArgs s_law_size) (defBody s_law_size) (defScope s_law_size) .none kV12 dc12 pm12 an12 cd12 ct12), sl12⟩) (c12 : PySem.W.codeIn K cd12 "_law_size" = true) (k12 : PySem.W.keepIn K (.ref f12) = true)
    {f13 : Addr} {od13 an13 : Option Addr} {sl13 : Array (Option Value)} {oc13 kV13 dc13 pm13 cd13 ct13 : Value}
    (a13 : PySem.W.nsIn K mainGlobals "_law_any_table" = some (some (.ref f13))) (l13 : K.lookup f13 = some ⟨oc13, od13, .func (PySem.W.fnOf "_law_any_table" "_law_any_table" (defArgs s_law_any_table) (defBody s_law_any_table) (defScope s_law_any_table) .none kV13 dc13 pm13 an13 cd13 ct13), sl13⟩) (c13 : PySem.W.codeIn K cd13 "_law_any_table" = true) (k13 : PySem.W.keepIn K (.ref f13) = true)
    {f14 : Addr} {od14 an14 : Option Addr} {sl14 : Array (Option Value)} {oc14 kV14 dc14 pm14 cd14 ct14 : Value}
    (a14 : PySem.W.nsIn K mainGlobals "_law_entry" = some (some (.ref f14))) (l14 : K.lookup f14 = some ⟨oc14, od14, .func (PySem.W.fnOf "_law_entry" "_law_entry" (defArgs s_law_entry) (defBody s_law_entry) (defScope s_law_entry) .none kV14 dc14 pm14 an14 cd14 ct14), sl14⟩) (c14 : PySem.W.codeIn K cd14 "_law_entry" = true) (k14 : PySem.W.keepIn K (.ref f14) = true)
    {f15 : Addr} {od15 an15 : Option Addr} {sl15 : Array (Option Value)} {oc15 kV15 dc15 pm15 cd15 ct15 : Value}
    (a15 : PySem.W.nsIn K mainGlobals "_law_filled" = some (some (.ref f15))) (l15 : K.lookup f15 = some ⟨oc15, od15, .func (PySem.W.fnOf "_law_filled" "_law_filled" (defArgs s_law_filled) (defBody s_law_filled) (defScope s_law_filled) .none kV15 dc15 pm15 an15 cd15 ct15), sl15⟩) (c15 : PySem.W.codeIn K cd15 "_law_filled" = true) (k15 : PySem.W.keepIn K (.ref f15) = true)
    {f16 : Addr} {od16 an16 : Option Addr} {sl16 : Array (Option Value)} {oc16 kV16 dc16 pm16 cd16 ct16 : Value}
    (a16 : PySem.W.nsIn K mainGlobals "_law_pressed" = some (some (.ref f16))) (l16 : K.lookup f16 = some ⟨oc16, od16, .func (PySem.W.fnOf "_law_pressed" "_law_pressed" (defArgs s_law_pressed) (defBody s_law_pressed) (defScope s_law_pressed) .none kV16 dc16 pm16 an16 cd16 ct16), sl16⟩) (c16 : PySem.W.codeIn K cd16 "_law_pressed" = true) (k16 : PySem.W.keepIn K (.ref f16) = true)
    {f17 : Addr} {od17 an17 : Option Addr} {sl17 : Array (Option Value)} {oc17 kV17 dc17 pm17 cd17 ct17 : Value}
    (a17 : PySem.W.nsIn K mainGlobals "_law_glue" = some (some (.ref f17))) (l17 : K.lookup f17 = some ⟨oc17, od17, .func (PySem.W.fnOf "_law_glue" "_law_glue" (defArgs s_law_glue) (defBody s_law_glue) (defScope s_law_glue) .none kV17 dc17 pm17 an17 cd17 ct17), sl17⟩) (c17 : PySem.W.codeIn K cd17 "_law_glue" = true) (k17 : PySem.W.keepIn K (.ref f17) = true)
    {f18 : Addr} {od18 an18 : Option Addr} {sl18 : Array (Option Value)} {oc18 kV18 dc18 pm18 cd18 ct18 : Value}
    (a18 : PySem.W.nsIn K mainGlobals "_law_table" = some (some (.ref f18))) (l18 : K.lookup f18 = some ⟨oc18, od18, .func (PySem.W.fnOf "_law_table" "_law_table" (defArgs s_law_table) (defBody s_law_table) (defScope s_law_table) .none kV18 dc18 pm18 an18 cd18 ct18), sl18⟩) (c18 : PySem.W.codeIn K cd18 "_law_table" = true) (k18 : PySem.W.keepIn K (.ref f18) = true)
    {f19 : Addr} {od19 an19 : Option Addr} {sl19 : Array (Option Value)} {oc19 kV19 dc19 pm19 cd19 ct19 : Value}
    (a19 : PySem.W.findIn K (.ref C) "__init__" = some (some (.ref f19))) (i19 : PySem.W.isFn K (.ref f19) = true) (l19 : K.lookup f19 = some ⟨oc19, od19, .func (PySem.W.fnOf "__init__" "Plan.__init__" (defArgs s_Plan_init) (defBody s_Plan_init) (defScope s_Plan_init) .none kV19 dc19 pm19 an19 cd19 ct19), sl19⟩) (c19 : PySem.W.codeIn K cd19 "Plan.__init__" = true) (k19 : PySem.W.keepIn K (.ref f19) = true)
    {f20 : Addr} {od20 an20 : Option Addr} {sl20 : Array (Option Value)} {oc20 kV20 dc20 pm20 cd20 ct20 : Value}
    (a20 : PySem.W.nsIn K mainGlobals "_law_made" = some (some (.ref f20))) (l20 : K.lookup f20 = some ⟨oc20, od20, .func (PySem.W.fnOf "_law_made" "_law_made" (defArgs s_law_made) (defBody s_law_made) (defScope s_law_made) .none kV20 dc20 pm20 an20 cd20 ct20), sl20⟩) (c20 : PySem.W.codeIn K cd20 "_law_made" = true) (k20 : PySem.W.keepIn K (.ref f20) = true)
    {f21 : Addr} {od21 an21 : Option Addr} {sl21 : Array (Option Value)} {oc21 kV21 dc21 pm21 cd21 ct21 : Value}
    (a21 : PySem.W.nsIn K mainGlobals "_law_plan" = some (some (.ref f21))) (l21 : K.lookup f21 = some ⟨oc21, od21, .func (PySem.W.fnOf "_law_plan" "_law_plan" (defArgs s_law_plan) (defBody s_law_plan) (defScope s_law_plan) .none kV21 dc21 pm21 an21 cd21 ct21), sl21⟩) (c21 : PySem.W.codeIn K cd21 "_law_plan" = true) (k21 : PySem.W.keepIn K (.ref f21) = true)
    {f22 : Addr} {od22 an22 : Option Addr} {sl22 : Array (Option Value)} {oc22 kV22 dc22 pm22 cd22 ct22 : Value}
    (a22 : PySem.W.nsIn K mainGlobals "_law_stage" = some (some (.ref f22))) (l22 : K.lookup f22 = some ⟨oc22, od22, .func (PySem.W.fnOf "_law_stage" "_law_stage" (defArgs s_law_stage) (defBody s_law_stage) (defScope s_law_stage) .none kV22 dc22 pm22 an22 cd22 ct22), sl22⟩) (c22 : PySem.W.codeIn K cd22 "_law_stage" = true) (k22 : PySem.W.keepIn K (.ref f22) = true)
    {f23 : Addr} {od23 an23 : Option Addr} {sl23 : Array (Option Value)} {oc23 kV23 dc23 pm23 cd23 ct23 : Value}
    (a23 : PySem.W.nsIn K mainGlobals "_law_some_plan" = some (some (.ref f23))) (l23 : K.lookup f23 = some ⟨oc23, od23, .func (PySem.W.fnOf "_law_some_plan" "_law_some_plan" (defArgs s_law_some_plan) (defBody s_law_some_plan) (defScope s_law_some_plan) .none kV23 dc23 pm23 an23 cd23 ct23), sl23⟩) (c23 : PySem.W.codeIn K cd23 "_law_some_plan" = true) (k23 : PySem.W.keepIn K (.ref f23) = true)
    {f24 : Addr} {od24 an24 : Option Addr} {sl24 : Array (Option Value)} {oc24 kV24 dc24 pm24 cd24 ct24 : Value}
    (a24 : PySem.W.findIn K (.ref C) "tables" = some (some (.ref f24))) (i24 : PySem.W.isFn K (.ref f24) = true) (l24 : K.lookup f24 = some ⟨oc24, od24, .func (PySem.W.fnOf "tables" "Plan.tables" (defArgs s_Plan_tables) (defBody s_Plan_tables) (defScope s_Plan_tables) .none kV24 dc24 pm24 an24 cd24 ct24), sl24⟩) (c24 : PySem.W.codeIn K cd24 "Plan.tables" = true) (k24 : PySem.W.keepIn K (.ref f24) = true)
    {f25 : Addr} {od25 an25 : Option Addr} {sl25 : Array (Option Value)} {oc25 kV25 dc25 pm25 cd25 ct25 : Value}
    (a25 : PySem.W.findIn K (.ref C) "end" = some (some (.ref f25))) (i25 : PySem.W.isFn K (.ref f25) = true) (l25 : K.lookup f25 = some ⟨oc25, od25, .func (PySem.W.fnOf "end" "Plan.end" (defArgs s_Plan_end) (defBody s_Plan_end) (defScope s_Plan_end) .none kV25 dc25 pm25 an25 cd25 ct25), sl25⟩) (c25 : PySem.W.codeIn K cd25 "Plan.end" = true) (k25 : PySem.W.keepIn K (.ref f25) = true)
    {f26 : Addr} {od26 an26 : Option Addr} {sl26 : Array (Option Value)} {oc26 kV26 dc26 pm26 cd26 ct26 : Value}
    (a26 : PySem.W.findIn K (.ref C) "stage" = some (some (.ref f26))) (i26 : PySem.W.isFn K (.ref f26) = true) (l26 : K.lookup f26 = some ⟨oc26, od26, .func (PySem.W.fnOf "stage" "Plan.stage" (defArgs s_Plan_stage) (defBody s_Plan_stage) (defScope s_Plan_stage) .none kV26 dc26 pm26 an26 cd26 ct26), sl26⟩) (c26 : PySem.W.codeIn K cd26 "Plan.stage" = true) (k26 : PySem.W.keepIn K (.ref f26) = true)
    {f27 : Addr} {od27 an27 : Option Addr} {sl27 : Array (Option Value)} {oc27 kV27 dc27 pm27 cd27 ct27 : Value}
    (a27 : PySem.W.nsIn K mainGlobals "_law_plan_right" = some (some (.ref f27))) (l27 : K.lookup f27 = some ⟨oc27, od27, .func (PySem.W.fnOf "_law_plan_right" "_law_plan_right" (defArgs s_law_plan_right) (defBody s_law_plan_right) (defScope s_law_plan_right) .none kV27 dc27 pm27 an27 cd27 ct27), sl27⟩) (c27 : PySem.W.codeIn K cd27 "_law_plan_right" = true) (k27 : PySem.W.keepIn K (.ref f27) = true)
    {f28 : Addr} {od28 an28 : Option Addr} {sl28 : Array (Option Value)} {oc28 kV28 dc28 pm28 cd28 ct28 : Value}
    (a28 : PySem.W.nsIn K mainGlobals "_law_others" = some (some (.ref f28))) (l28 : K.lookup f28 = some ⟨oc28, od28, .func (PySem.W.fnOf "_law_others" "_law_others" (defArgs s_law_others) (defBody s_law_others) (defScope s_law_others) .none kV28 dc28 pm28 an28 cd28 ct28), sl28⟩) (c28 : PySem.W.codeIn K cd28 "_law_others" = true) (k28 : PySem.W.keepIn K (.ref f28) = true)
    {f29 : Addr} {od29 an29 : Option Addr} {sl29 : Array (Option Value)} {oc29 kV29 dc29 pm29 cd29 ct29 : Value}
    (a29 : PySem.W.findIn K (.ref C) "__eq__" = some (some (.ref f29))) (i29 : PySem.W.isFn K (.ref f29) = true) (l29 : K.lookup f29 = some ⟨oc29, od29, .func (PySem.W.fnOf "__eq__" "Plan.__eq__" (defArgs s_Plan_eq) (defBody s_Plan_eq) (defScope s_Plan_eq) .none kV29 dc29 pm29 an29 cd29 ct29), sl29⟩) (c29 : PySem.W.codeIn K cd29 "Plan.__eq__" = true) (k29 : PySem.W.keepIn K (.ref f29) = true)
    {f30 : Addr} {od30 an30 : Option Addr} {sl30 : Array (Option Value)} {oc30 kV30 dc30 pm30 cd30 ct30 : Value}
    (a30 : PySem.W.nsIn K mainGlobals "law" = some (some (.ref f30))) (l30 : K.lookup f30 = some ⟨oc30, od30, .func (PySem.W.fnOf "law" "law" (defArgs s_law) (defBody s_law) (defScope s_law) .none kV30 dc30 pm30 an30 cd30 ct30), sl30⟩) (c30 : PySem.W.codeIn K cd30 "law" = true) (k30 : PySem.W.keepIn K (.ref f30) = true)
    (z_tuple : PySem.W.nsIn K mainGlobals "tuple" = some none)
    (z_isinstance : PySem.W.nsIn K mainGlobals "isinstance" = some none)
    (z_len : PySem.W.nsIn K mainGlobals "len" = some none)
    (z_enumerate : PySem.W.nsIn K mainGlobals "enumerate" = some none)
    (z_list : PySem.W.nsIn K mainGlobals "list" = some none)
    (z_int : PySem.W.nsIn K mainGlobals "int" = some none)
    (z_abs : PySem.W.nsIn K mainGlobals "abs" = some none)
    (z_max : PySem.W.nsIn K mainGlobals "max" = some none)
    (z_range : PySem.W.nsIn K mainGlobals "range" = some none)
    (z_str : PySem.W.nsIn K mainGlobals "str" = some none)
    (z_repr : PySem.W.nsIn K mainGlobals "repr" = some none)
    : ∃ fd : FuncData, (∀ (s : Shared) (v : Value), BindsTo s fd ⟨[v], []⟩ [("_law_script", v)]) ∧ ∀ base : Heap, K.In base → base.Ns mainGlobals mg → GOk l.prog w K mg base 146 fa fd ["_law_script"] (spLaw K) := by
  have e := hfa.symm.trans (PySem.W.mg_of X G a30)
  cases e
  have F0 := fun_mk (st := s_wrong_shape_path) l0 c0 k0
  have F1 := fun_mk (st := s_size_of) l1 c1 k1
  have F2 := fun_mk (st := s_wrong_table_path) l2 c2 k2
  have F3 := fun_mk (st := s_first_wrong_table) l3 c3 k3
  have F4 := fun_mk (st := s_wrong_plan_path) l4 c4 k4
  have F5 := fun_mk (st := s_law_source) l5 c5 k5
  have F6 := fun_mk (st := s_law_pick) l6 c6 k6
  have F7 := fun_mk (st := s_law_of) l7 c7 k7
  have F8 := fun_mk (st := s_law_mixed) l8 c8 k8
  have F9 := fun_mk (st := s_law_comb) l9 c9 k9
  have F10 := fun_mk (st := s_law_halves) l10 c10 k10
  have F11 := fun_mk (st := s_law_shape) l11 c11 k11
  have F12 := fun_mk (st := s_law_size) l12 c12 k12
  have F13 := fun_mk (st := s_law_any_table) l13 c13 k13
  have F14 := fun_mk (st := s_law_entry) l14 c14 k14
  have F15 := fun_mk (st := s_law_filled) l15 c15 k15
  have F16 := fun_mk (st := s_law_pressed) l16 c16 k16
  have F17 := fun_mk (st := s_law_glue) l17 c17 k17
  have F18 := fun_mk (st := s_law_table) l18 c18 k18
  have F19 := fun_mk (st := s_Plan_init) l19 c19 k19
  have F20 := fun_mk (st := s_law_made) l20 c20 k20
  have F21 := fun_mk (st := s_law_plan) l21 c21 k21
  have F22 := fun_mk (st := s_law_stage) l22 c22 k22
  have F23 := fun_mk (st := s_law_some_plan) l23 c23 k23
  have F24 := fun_mk (st := s_Plan_tables) l24 c24 k24
  have F25 := fun_mk (st := s_Plan_end) l25 c25 k25
  have F26 := fun_mk (st := s_Plan_stage) l26 c26 k26
  have F27 := fun_mk (st := s_law_plan_right) l27 c27 k27
  have F28 := fun_mk (st := s_law_others) l28 c28 k28
  have F29 := fun_mk (st := s_Plan_eq) l29 c29 k29
  have F30 := fun_mk (st := s_law) l30 c30 k30
  let T : Defs K mg (fun a => decide (a = C)) := {
    cP := C,
    hi := fun a => ⟨fun h => of_decide_eq_true h, fun h => decide_eq_true h⟩,
    clP := ⟨pg, hd, po, sa⟩,
    gP := PySem.W.mg_of X G aC,
    na_end := n_end,
    na_tables := n_tables,
    tyP := ⟨tca, tcn, tct, tcm, tki, tkb⟩,
    neq := tne,
    kq := kq_of tkq tkr,
    kqA := kqA_of tkq tkr,
    d_wrong_shape_path := ⟨_, _, F0, PySem.W.mg_of X G a0, F0.binds (ps := ["value"]) fun _ _ _ _ _ _ us hl => match us, hl with | [_], _ => rfl⟩,
    d_size_of := ⟨_, _, F1, PySem.W.mg_of X G a1, F1.binds (ps := ["shape"]) fun _ _ _ _ _ _ us hl => match us, hl with | [_], _ => rfl⟩,
    d_wrong_table_path := ⟨_, _, F2, PySem.W.mg_of X G a2, F2.binds (ps := ["value"]) fun _ _ _ _ _ _ us hl => match us, hl with | [_], _ => rfl⟩,
    d_first_wrong_table := ⟨_, _, F3, PySem.W.mg_of X G a3, F3.binds (ps := ["tables"]) fun _ _ _ _ _ _ us hl => match us, hl with | [_], _ => rfl⟩,
    d_wrong_plan_path := ⟨_, _, F4, PySem.W.mg_of X G a4, F4.binds (ps := ["tables", "end"]) fun _ _ _ _ _ _ us hl => match us, hl with | [_, _], _ => rfl⟩,
    d_law_source := ⟨_, _, F5, PySem.W.mg_of X G a5, F5.binds (ps := ["_law_script"]) fun _ _ _ _ _ _ us hl => match us, hl with | [_], _ => rfl⟩,
    d_law_pick := ⟨_, _, F6, PySem.W.mg_of X G a6, F6.binds (ps := ["_law_source_here", "_law_many"]) fun _ _ _ _ _ _ us hl => match us, hl with | [_, _], _ => rfl⟩,
    d_law_of := ⟨_, _, F7, PySem.W.mg_of X G a7, F7.binds (ps := ["_law_source_here", "_law_some"]) fun _ _ _ _ _ _ us hl => match us, hl with | [_, _], _ => rfl⟩,
    d_law_mixed := ⟨_, _, F8, PySem.W.mg_of X G a8, F8.binds (ps := ["_law_source_here", "_law_things"]) fun _ _ _ _ _ _ us hl => match us, hl with | [_, _], _ => rfl⟩,
    d_law_comb := ⟨_, _, F9, PySem.W.mg_of X G a9, F9.binds (ps := ["_law_n", "_law_side"]) fun _ _ _ _ _ _ us hl => match us, hl with | [_, _], _ => rfl⟩,
    d_law_halves := ⟨_, _, F10, PySem.W.mg_of X G a10, F10.binds (ps := ["_law_n"]) fun _ _ _ _ _ _ us hl => match us, hl with | [_], _ => rfl⟩,
    d_law_shape := ⟨_, _, F11, PySem.W.mg_of X G a11, F11.binds (ps := ["_law_source_here", "_law_n"]) fun _ _ _ _ _ _ us hl => match us, hl with | [_, _], _ => rfl⟩,
    d_law_size := ⟨_, _, F12, PySem.W.mg_of X G a12, F12.binds (ps := ["_law_shape_here"]) fun _ _ _ _ _ _ us hl => match us, hl with | [_], _ => rfl⟩,
    d_law_any_table := ⟨_, _, F13, PySem.W.mg_of X G a13, F13.binds (ps := ["_law_source_here", "_law_size_here"]) fun _ _ _ _ _ _ us hl => match us, hl with | [_, _], _ => rfl⟩,
    d_law_entry := ⟨_, _, F14, PySem.W.mg_of X G a14, F14.binds (ps := ["_law_table_here", "_law_m"]) fun _ _ _ _ _ _ us hl => match us, hl with | [_, _], _ => rfl⟩,
    d_law_filled := ⟨_, _, F15, PySem.W.mg_of X G a15, F15.binds (ps := ["_law_shape_here", "_law_lumps"]) fun _ _ _ _ _ _ us hl => match us, hl with | [_, _], _ => rfl⟩,
    d_law_pressed := ⟨_, _, F16, PySem.W.mg_of X G a16, F16.binds (ps := ["_law_table_here", "_law_row"]) fun _ _ _ _ _ _ us hl => match us, hl with | [_, _], _ => rfl⟩,
    d_law_glue := ⟨_, _, F17, PySem.W.mg_of X G a17, F17.binds (ps := ["_law_one", "_law_other"]) fun _ _ _ _ _ _ us hl => match us, hl with | [_, _], _ => rfl⟩,
    d_law_table := ⟨_, _, F18, PySem.W.mg_of X G a18, F18.binds (ps := ["_law_source_here"]) fun _ _ _ _ _ _ us hl => match us, hl with | [_], _ => rfl⟩,
    d_Plan_init := ⟨_, _, F19, F19.binds (ps := ["self", "tables", "end"]) fun _ _ _ _ _ _ us hl => match us, hl with | [_, _, _], _ => rfl, ⟨mk, a19, i19, kc⟩⟩,
    d_law_made := ⟨_, _, F20, PySem.W.mg_of X G a20, F20.binds (ps := ["_law_tables", "_law_end"]) fun _ _ _ _ _ _ us hl => match us, hl with | [_, _], _ => rfl⟩,
    d_law_plan := ⟨_, _, F21, PySem.W.mg_of X G a21, F21.binds (ps := ["_law_source_here"]) fun _ _ _ _ _ _ us hl => match us, hl with | [_], _ => rfl⟩,
    d_law_stage := ⟨_, _, F22, PySem.W.mg_of X G a22, F22.binds (ps := ["_law_world", "_law_k"]) fun _ _ _ _ _ _ us hl => match us, hl with | [_, _], _ => rfl⟩,
    d_law_some_plan := ⟨_, _, F23, PySem.W.mg_of X G a23, F23.binds (ps := ["_law_source_here", "_law_most"]) fun _ _ _ _ _ _ us hl => match us, hl with | [_, _], _ => rfl⟩,
    d_Plan_tables := ⟨_, _, F24, F24.binds (ps := ["self"]) fun _ _ _ _ _ _ us hl => match us, hl with | [_], _ => rfl, ⟨a24, i24, k24⟩⟩,
    d_Plan_end := ⟨_, _, F25, F25.binds (ps := ["self"]) fun _ _ _ _ _ _ us hl => match us, hl with | [_], _ => rfl, ⟨a25, i25, k25⟩⟩,
    d_Plan_stage := ⟨_, _, F26, F26.binds (ps := ["self", "k"]) fun _ _ _ _ _ _ us hl => match us, hl with | [_, _], _ => rfl, ⟨a26, i26, k26⟩⟩,
    d_law_plan_right := ⟨_, _, F27, PySem.W.mg_of X G a27, F27.binds (ps := ["_law_world", "_law_made_here"]) fun _ _ _ _ _ _ us hl => match us, hl with | [_, _], _ => rfl⟩,
    d_law_others := ⟨_, _, F28, PySem.W.mg_of X G a28, F28.binds (ps := ["_law_source_here", "_law_world"]) fun _ _ _ _ _ _ us hl => match us, hl with | [_, _], _ => rfl⟩,
    d_Plan_eq := ⟨_, _, F29, F29.binds (ps := ["self", "other"]) fun _ _ _ _ _ _ us hl => match us, hl with | [_, _], _ => rfl, ⟨a29, i29, k29⟩⟩,
    d_law := ⟨_, _, F30, PySem.W.mg_of X G a30, F30.binds (ps := ["_law_script"]) fun _ _ _ _ _ _ us hl => match us, hl with | [_], _ => rfl⟩,
    n_tuple := PySem.W.mg_none_of X G z_tuple,
    n_isinstance := PySem.W.mg_none_of X G z_isinstance,
    n_len := PySem.W.mg_none_of X G z_len,
    n_enumerate := PySem.W.mg_none_of X G z_enumerate,
    n_list := PySem.W.mg_none_of X G z_list,
    n_int := PySem.W.mg_none_of X G z_int,
    n_abs := PySem.W.mg_none_of X G z_abs,
    n_max := PySem.W.mg_none_of X G z_max,
    n_range := PySem.W.mg_none_of X G z_range,
    n_str := PySem.W.mg_none_of X G z_str,
    n_repr := PySem.W.mg_none_of X G z_repr }
  exact ⟨_, fun s v => .of_eq rfl, fun base _ _ => ok_law LT T⟩
theorem walk {l : PySem.W.OpenLaw} {q : Program} {loose : List Str} {XP : (Str → Option Value) → Heap → Prop} {YP : World → Heap → Prop} {d : DefRec} {K : Params → PySem.W.Frag} (hn : l.most = some 63) (hdf : d.params.defaults = [])
    (hY : ∀ (w : World) (h : Heap), YP w h → (K w.params).In h)
    (F : ∀ (w : World) (mg : Str → Option Value) (fa : Addr) (h : Heap), (K w.params).In h → h.Ns mainGlobals mg → mg d.name = some (.ref fa) →
      ∃ fd : FuncData, (∀ (s : Shared) (u : Value), BindsTo s fd ⟨[u], []⟩ [("_law_script", u)]) ∧ ∀ base : Heap, (K w.params).In base → base.Ns mainGlobals mg → GOk l.prog w (K w.params) mg base 146 fa fd ["_law_script"] (spLaw (K w.params))) :
    PySem.W.WalkO q loose XP YP l.row.toRowW d [] (fun f vs => PySem.call f vs) :=
  DL.walk_g (n := 63) (k := 146) (x := "_law_script") (sp := fun w => spLaw (K w.params)) hn (by decide) hdf ⟨rfl, by decide, by decide⟩ hY F (fun _ _ a ns hl _ hS => ⟨a, ns, rfl, hS, hl, fun _ _ e => e⟩)
end Lk
namespace Lk
open PySem L2 DL
theorem pick_wp (ω : Src) (many : Int) (h1 : 1 ≤ many) (h2 : many < 2 ^ 60) : (F_law_pick [.int many] ω).wp (fun d _ => ∃ r : Int, d = .int r ∧ 0 ≤ r ∧ r < many) X0 := by
  unfold F_law_pick B_law_pick
  refine Eq.mpr wp_nox ?_
  refine Eq.mpr wp_runS ?_
  refine Eq.mpr sw_seq ?_
  refine sw.mono (P := fun f _ => f = .nx (startT 4 (.src :: [D.int many].map .d))) (while_inv (fun m τ ω => ω.cells.length < m ∧ τ = startT 4 (.src :: [D.int many].map .d)) ⟨by show _ < _ + 2; omega, rfl⟩ ?_) ?_
  · rintro m τ ω ⟨hm, rfl⟩
    refine ⟨by omega, ?_⟩
    repeat walk_at "ev1"
    split
    · repeat walk_at "ev1"
      split
      · repeat walk_at "ev1"
        split
        · rename_i hl
          cases ec : ω.cells with
          | nil => rw [ec] at hl; simp at hl
          | cons z r =>
            refine Eq.mpr (sw_src rfl) ?_
            refine Eq.mpr (wp_srcP rfl ec) ?_
            exact ⟨_, rfl, by rw [ec] at hm; simp at hm ⊢; omega, rfl⟩
        · rfl
      · repeat walk_at "ev1"
        rfl
    · repeat walk_at "ev1"
      rfl
  · rintro f ω1 rfl
    repeat walk_at "ev1"
    have hc : ∀ a : Int, 0 ≤ a % many ∧ a % many < many := fun a => ⟨Int.emod_nonneg _ (by omega), Int.emod_lt_of_pos _ (by omega)⟩
    have hlg : many.natAbs.log2 < 9000 := by
      have : many.natAbs.log2 < 60 := (Nat.log2_lt (by omega)).mpr (by omega)
      omega
    have hd : ∀ x : Int, fdivD (.int x) (.int many) = some (.int (x / many)) := fun x => if_pos ⟨by omega, hlg⟩
    have hm : ∀ x : Int, modD (.int x) (.int many) = some (.int (x % many)) := fun x => if_pos (by omega)
    have hx : bi2 max2D [.int 1, .int many] = some (.int many) := by
      show some (D.int (if many > 1 then many else 1)) = _
      by_cases e : many > 1
      · rw [if_pos e]
      · rw [if_neg e, show many = 1 from by omega]
    have h16 : ∀ x : Int, fdivD (.int x) (.int 16) = some (.int (x / 16)) := fun x => by unfold fdivD; exact if_pos (show (0:Int) < 16 ∧ Nat.log2 16 < 9000 from ⟨by omega, (Nat.log2_lt (by omega)).mpr (by omega)⟩)
    have hk1 : ∀ x : Int, mulD (.int x) (.int 104729) = some (.int (x * 104729)) := fun x => if_pos (.inl (.inr ⟨by omega, by omega⟩))
    have hk2 : ∀ x : Int, mulD (.int x) (.int 17) = some (.int (x * 17)) := fun x => if_pos (.inl (.inr ⟨by omega, by omega⟩))
    have hk3 : ∀ x : Int, mulD (.int (x % 998244353)) (.int (x % 998244353)) = some (.int (x % 998244353 * (x % 998244353))) := fun x => if_pos (.inl (.inr ⟨by omega, by omega⟩))
    have hq1 : ∀ x : Int, modD (.int x) (.int 998244353) = some (.int (x % 998244353)) := fun x => by unfold modD; exact if_pos (show (0:Int) < 998244353 by omega)
    have hq2 : ∀ x : Int, modD (.int x) (.int 2147483647) = some (.int (x % 2147483647)) := fun x => by unfold modD; exact if_pos (show (0:Int) < 2147483647 by omega)
    split
    · repeat (first | with_reducible refine Eq.mpr (DL.wp_eqn (hx)) ?_ | with_reducible refine Eq.mpr (DL.wp_ofOs (hx)) ?_ | with_reducible refine Eq.mpr (DL.wp_eqn (hd _)) ?_ | with_reducible refine Eq.mpr (DL.wp_ofOs (hd _)) ?_ | with_reducible refine Eq.mpr (DL.wp_eqn (hm _)) ?_ | with_reducible refine Eq.mpr (DL.wp_ofOs (hm _)) ?_ | walk_at "ev1")
      exact hc _
    · repeat walk_at "ev1"
      split
      · repeat (first | with_reducible refine Eq.mpr (DL.wp_eqn (hx)) ?_ | with_reducible refine Eq.mpr (DL.wp_ofOs (hx)) ?_ | with_reducible refine Eq.mpr (DL.wp_eqn (hd _)) ?_ | with_reducible refine Eq.mpr (DL.wp_ofOs (hd _)) ?_ | with_reducible refine Eq.mpr (DL.wp_eqn (hm _)) ?_ | with_reducible refine Eq.mpr (DL.wp_ofOs (hm _)) ?_ | walk_at "ev1")
        exact hc _
      · repeat (first | with_reducible refine Eq.mpr (DL.wp_eqn (h16 _)) ?_ | with_reducible refine Eq.mpr (DL.wp_ofOs (h16 _)) ?_ | with_reducible refine Eq.mpr (DL.wp_eqn (hk1 _)) ?_ | with_reducible refine Eq.mpr (DL.wp_ofOs (hk1 _)) ?_ | with_reducible refine Eq.mpr (DL.wp_eqn (hk2 _)) ?_ | with_reducible refine Eq.mpr (DL.wp_ofOs (hk2 _)) ?_ | with_reducible refine Eq.mpr (DL.wp_eqn (hk3 _)) ?_ | with_reducible refine Eq.mpr (DL.wp_ofOs (hk3 _)) ?_ | with_reducible refine Eq.mpr (DL.wp_eqn (hq1 _)) ?_ | with_reducible refine Eq.mpr (DL.wp_ofOs (hq1 _)) ?_ | with_reducible refine Eq.mpr (DL.wp_eqn (hq2 _)) ?_ | with_reducible refine Eq.mpr (DL.wp_ofOs (hq2 _)) ?_ | with_reducible refine Eq.mpr (DL.wp_eqn (hm _)) ?_ | with_reducible refine Eq.mpr (DL.wp_ofOs (hm _)) ?_ | walk_at "ev1")
        exact hc _
theorem pick_ok (ω : Src) (many : Int) (h1 : 1 ≤ many) (h2 : many < 2 ^ 60) : ∃ (r : Int) (ω' : Src), F_law_pick [.int many] ω = .ok (.int r) ω' ∧ 0 ≤ r ∧ r < many := by
  obtain ⟨d, ω', e, r, rfl, h⟩ := (pick_wp ω many h1 h2).ex
  exact ⟨r, ω', e, h⟩
theorem pick_nat (ω : Src) (many : Nat) (h1 : 1 ≤ many) (h2 : many < 1000000) : ∃ (r : Nat) (ω' : Src), F_law_pick [.int (many : Nat)] ω = .ok (.int (r : Nat)) ω' ∧ r < many := by
  obtain ⟨r, ω', e, h3, h4⟩ := pick_ok ω (many : Int) (by omega) (by omega)
  exact ⟨r.toNat, ω', by rw [e]; congr 2; omega, by omega⟩
def hgt : Sh → Nat
  | .o => 0
  | .n l r => 1 + max (hgt l) (hgt r)
theorem hgt_lt : ∀ s : Sh, hgt s < s.size
  | .o => by simp [hgt, Sh.size]
  | .n l r => by
    have h1 := hgt_lt l; have h2 := hgt_lt r; have h3 := Sh.size_pos l; have h4 := Sh.size_pos r
    simp only [hgt, Sh.size]; omega
theorem eqO (s : Sh) : eqD s.enc (.tup []) = some (.bl (decide (s = .o))) := eqD_sh s .o (.inr (by simp [Sh.size]))
theorem eqO_o : eqD (.tup []) (.tup []) = some (.bl true) := eqO .o
theorem eqO_n (l r : Sh) : eqD (.tup [l.enc, r.enc]) (.tup []) = some (.bl false) := eqO (.n l r)
theorem isi_tup (ds : List D) : isiD "tuple" (.tup ds) = some (.bl true) := by kernel_rfl
theorem nin02_0 : ninD (.int ((([] : List D).length : Nat) : Int)) (.tup [.int 0, .int 2]) = some (.bl false) := by kernel_rfl
theorem nin02_2 (a b : D) : ninD (.int (([a, b].length : Nat) : Int)) (.tup [.int 0, .int 2]) = some (.bl false) := by kernel_rfl
theorem notN : notND .non .non = some (.bl false) := rfl
theorem wp_en {Ω : Type} {a : E Ω D} {τ : Tau} {ω : Ω} {P X} : (iEn a τ ω).wp P X = (a τ ω).wp (fun x ω1 => (R.ofO (x.itemsS.map (enumL 0)) ω1).wp P X) X := by unfold iEn; rw [wp_bind]
theorem lp_nil {Ω : Type} {B : D → Tau → Option Tau} {F : S Ω} {τ : Tau} {ω : Ω} {P} : sw (loop B F [] τ ω) P = P (.nx τ) ω := by unfold loop; exact sw_some
theorem lp_cons {Ω : Type} {B : D → Tau → Option Tau} {F : S Ω} {d : D} {ds : List D} {τ τ1 : Tau} {ω : Ω} {P : Fl → Ω → Prop} (h : B d τ = some τ1) (k : sw (F τ1 ω) (fun f ω' => match f with | .nx τ' => sw (loop B F ds τ' ω') P | .ct τ' => sw (loop B F ds τ' ω') P | .bk τ' => P (.nx τ') ω' | f => P f ω')) : sw (loop B F (d :: ds) τ ω) P := by
  unfold loop
  rw [h]
  dsimp only
  revert k
  rcases F τ1 ω with _ | ⟨fl, ω2⟩
  · rw [sw_none]; exact False.elim
  · rw [sw_some]
    cases fl with
    | nx τ2 => exact id
    | ct τ2 => exact id
    | bk τ2 => dsimp only; rw [sw_some]; exact id
    | rt d => dsimp only; rw [sw_some]; exact id
    | rs x τ => dsimp only; rw [sw_some]; exact id
    | rl d => dsimp only; rw [sw_some]; exact id
theorem wsp_ok : ∀ (n : Nat) (s : Sh), hgt s < n → F_wrong_shape_path n [s.enc] = .ok .non ()
  | 0, _, h => by omega
  | n + 1, .o, _ => by
    refine R.wp.equ ?_
    show (F_wrong_shape_path (n + 1) [.tup []]).wp _ _
    unfold F_wrong_shape_path B_wrong_shape_path
    have h3 : (D.tup []).itemsS.map (enumL 0) = some [] := rfl
    repeat (first | with_reducible refine Eq.mpr (DL.wp_eqn (isi_tup [])) ?_ | with_reducible refine Eq.mpr (DL.wp_ofOs (isi_tup [])) ?_ | with_reducible refine Eq.mpr (DL.wp_eqn (nin02_0)) ?_ | with_reducible refine Eq.mpr (DL.wp_ofOs (nin02_0)) ?_ | walk_at "ev1")
    refine Eq.mpr wp_en ?_
    repeat (first | with_reducible refine Eq.mpr (DL.wp_eqn (h3)) ?_ | with_reducible refine Eq.mpr (DL.wp_ofOs (h3)) ?_ | walk_at "ev1")
    refine Eq.mpr lp_nil ?_
    repeat walk_at "ev1"
    rfl
  | n + 1, .n l r, h => by
    simp only [hgt] at h
    have e1 := wsp_ok n l (by omega)
    have e2 := wsp_ok n r (by omega)
    refine R.wp.equ ?_
    show (F_wrong_shape_path (n + 1) [.tup [l.enc, r.enc]]).wp _ _
    unfold F_wrong_shape_path B_wrong_shape_path
    have h3 : (D.tup [l.enc, r.enc]).itemsS.map (enumL 0) = some [.tup [.int ((0 : Nat) : Int), l.enc], .tup [.int ((1 : Nat) : Int), r.enc]] := rfl
    repeat (first | with_reducible refine Eq.mpr (DL.wp_eqn (isi_tup _)) ?_ | with_reducible refine Eq.mpr (DL.wp_ofOs (isi_tup _)) ?_ | with_reducible refine Eq.mpr (DL.wp_eqn (nin02_2 l.enc r.enc)) ?_ | with_reducible refine Eq.mpr (DL.wp_ofOs (nin02_2 l.enc r.enc)) ?_ | walk_at "ev1")
    refine Eq.mpr wp_en ?_
    repeat (first | with_reducible refine Eq.mpr (DL.wp_eqn (h3)) ?_ | with_reducible refine Eq.mpr (DL.wp_ofOs (h3)) ?_ | walk_at "ev1")
    refine lp_cons rfl ?_
    repeat (first | with_reducible refine Eq.mpr (DL.wp_eqn (e1)) ?_ | with_reducible refine Eq.mpr (DL.wp_ofOs (e1)) ?_ | with_reducible refine Eq.mpr (DL.wp_eqn (notN)) ?_ | with_reducible refine Eq.mpr (DL.wp_ofOs (notN)) ?_ | walk_at "ev1")
    refine lp_cons rfl ?_
    repeat (first | with_reducible refine Eq.mpr (DL.wp_eqn (e2)) ?_ | with_reducible refine Eq.mpr (DL.wp_ofOs (e2)) ?_ | with_reducible refine Eq.mpr (DL.wp_eqn (notN)) ?_ | with_reducible refine Eq.mpr (DL.wp_ofOs (notN)) ?_ | walk_at "ev1")
    refine Eq.mpr lp_nil ?_
    repeat walk_at "ev1"
    rfl
abbrev tb (t : Tab) : D := .tup (t.map Sh.enc)
abbrev rowD (r : List Sh) : D := .lst (r.map Sh.enc)
theorem map_get {t : List Sh} {i : Nat} {s : Sh} (h : t[i]? = some s) : (t.map Sh.enc)[i]? = some s.enc := by rw [List.getElem?_map, h]; rfl
theorem rg3_nat (m b : Nat) (hb : 1 ≤ b) (h1 : b < 100000) (h2 : m < 100000) : rg3 [.int 0, .int m, .int b] = some (rangeL 0 b ((m + b - 1) / b)) := by
  unfold rg3
  dsimp only
  rw [if_pos (by refine ⟨?_, ?_, ?_, ?_, ?_, ?_⟩ <;> omega)]
  congr 2
  have : ((m : Int) - 0 + b - 1) = ((m + b - 1 : Nat) : Int) := by omega
  rw [this]
  exact_mod_cast Int.toNat_natCast _
theorem rg2_nat (a b : Nat) (h1 : a < 100000) (h2 : b < 100000) : rg2 [.int a, .int b] = some (rangeL a 1 (b - a)) := by
  unfold rg2
  dsimp only
  rw [if_pos (by omega)]
  congr 2
  omega
theorem rg1_nat (b : Nat) (h2 : b < 100000) : rg1 [.int b] = some (rangeL 0 1 b) := by
  unfold rg1
  dsimp only
  rw [if_pos (by omega)]
  simp
def cmb (b : Bool) : Nat → Sh
  | 0 => .o
  | k + 1 => if b then .n (cmb b k) .o else .n .o (cmb b k)
def sideS (b : Bool) : D := if b then .str "left" else .str "right"
theorem cmb_size (b : Bool) : ∀ k, (cmb b k).size = k + 1
  | 0 => rfl
  | k + 1 => by
    have := cmb_size b k
    cases b <;> simp [cmb, Sh.size] at * <;> omega
theorem eq_left : ∀ b : Bool, eqD (sideS b) (.str "left") = some (.bl b)
  | true => by kernel_rfl
  | false => by kernel_rfl
abbrev CT (n : Nat) (b : Bool) (x : D) (c : Option Cell) : Tau := [some (.d (.int n)), some (.d (sideS b)), some (.d x), c]
theorem comb_ok (b : Bool) (n : Nat) (h1 : 1 ≤ n) (h2 : n ≤ 1000) : F_law_comb [.int n, sideS b] = .ok (cmb b (n - 1)).enc () := by
  refine R.wp.equ ?_
  unfold F_law_comb B_law_comb
  have hs : startT 4 ([D.int n, sideS b].map Cell.d) = [some (.d (.int n)), some (.d (sideS b)), none, none] := rfl
  rw [hs]
  have h3 : subD (.int (n : Int)) (.int 1) = some (.int ((n - 1 : Nat) : Int)) := subN n 1 h1
  repeat (first | with_reducible refine Eq.mpr (DL.wp_eqn (h3)) ?_ | with_reducible refine Eq.mpr (DL.wp_ofOs (h3)) ?_ | with_reducible refine Eq.mpr (DL.wp_eqn (rg1_nat (n - 1) (by omega))) ?_ | with_reducible refine Eq.mpr (DL.wp_ofOs (rg1_nat (n - 1) (by omega))) ?_ | walk_at "ev1")
  refine loop_inv (fun i τ _ => ∃ c, τ = CT n b (cmb b i).enc c) ⟨none, rfl⟩ ?_ ?_
  · rintro i d τ ω hd ⟨c, rfl⟩
    refine ⟨_, rfl, ?_⟩
    repeat (first | with_reducible refine Eq.mpr (DL.wp_eqn (eq_left b)) ?_ | with_reducible refine Eq.mpr (DL.wp_ofOs (eq_left b)) ?_ | walk_at "ev1")
    cases b with
    | true =>
      repeat walk_at "ev1"
      exact ⟨_, rfl⟩
    | false =>
      repeat walk_at "ev1"
      exact ⟨_, rfl⟩
  · rintro τ ω ⟨c, rfl⟩
    rw [rangeL_len]
    repeat walk_at "ev1"
    rfl
theorem small_line {n : Nat} (h : n ≤ 1000000) : n ≤ sizeLine := by rw [sizeLine_eq]; omega
def AW (ts : List Tab) : Prop := ∀ t ∈ ts, WT t
def pb : List Tab → Nat
  | [] => 1
  | t :: ts => bsz t * pb ts
theorem AW.left {x y : List Tab} (h : AW (x ++ y)) : AW x := fun t ht => h t (by simp [ht])
theorem dep_tab {t : Tab} (h : WT t) : Enc.dep t ≤ bsz t + 1 := by
  show depL t + 1 ≤ bsz t + 1
  refine Nat.succ_le_succ (depL_le fun x hx => ?_)
  obtain ⟨i, hi, e⟩ := List.mem_iff_getElem.mp hx
  have := h.2 i x (by rw [List.getElem?_eq_getElem hi, e])
  show x.size ≤ _
  unfold bsz
  omega
theorem len_tb (t : Tab) : un1 lenD [tb t] = some (.int (t.length : Nat)) := by
  show some (D.int ((t.map Sh.enc).length : Nat)) = _
  rw [List.length_map]
theorem lc_filt {Ω α : Type} {B : D → Tau → Option Tau} {Ft : E Ω Bool} {Fe : E Ω D} {τ : Tau} {ω : Ω} {P : List D → Ω → Prop} (f : α → D) (xs : List α) (p : α → Bool) (g : α → D)
    (step : ∀ k ∈ xs, ∃ τ1, B (f k) τ = some τ1 ∧ (Ft τ1 ω).wp (fun b ω1 => b = p k ∧ ω1 = ω ∧ (p k = true → (Fe τ1 ω).wp (fun x ω2 => x = g k ∧ ω2 = ω) X0)) X0)
    (fin : P ((xs.filter p).map g) ω) : (lcL B Ft Fe τ (xs.map f) ω).wp P X0 := by
  refine lc_inv (fun i acc ω' => acc = ((xs.take i).filter p).map g ∧ ω' = ω) ⟨by simp, rfl⟩ ?_ ?_
  · rintro i d acc ω' hd ⟨rfl, rfl⟩
    have hi : i < xs.length := by have := (List.getElem?_eq_some_iff.mp hd).1; simpa using this
    rw [List.getElem?_map, List.getElem?_eq_getElem hi] at hd
    cases hd
    obtain ⟨τ1, e, h⟩ := step xs[i] (List.getElem_mem hi)
    refine ⟨τ1, e, h.mono fun b ω1 ⟨hb, hw, hk⟩ => ?_⟩
    subst hb hw
    rw [List.take_succ_eq_append_getElem hi, List.filter_append]
    cases hp : p xs[i] with
    | true =>
      rw [if_pos rfl]
      refine (hk hp).mono fun x ω2 ⟨hx, hw⟩ => ?_
      subst hx hw
      simp [hp]
    | false =>
      rw [if_neg (by simp)]
      simp [hp]
  · rintro acc ω' ⟨rfl, rfl⟩
    rw [List.length_map, List.take_length]
    exact fin
theorem sl_le {n : Nat} (h : n ≤ 1000) : n ≤ sizeLine := by rw [sizeLine_eq]; omega
theorem halves_ok : ∀ (n m : Nat), 1 ≤ m → m ≤ n → m < 100000 → ∃ s : Sh, F_law_halves n [.int m] = .ok s.enc () ∧ s.size = m
  | 0, m, h1, h2, _ => by omega
  | n + 1, m, h1, h2, h3 => by
    have hlt : ltD (.int (m : Int)) (.int 2) = some (.bl (decide (m < 2))) := by
      show some (D.bl (decide ((m : Int) < 2))) = _
      congr 2
      by_cases c : m < 2 <;> simp <;> omega
    suffices h : (F_law_halves (n + 1) [.int m]).wp (fun d _ => ∃ s : Sh, d = s.enc ∧ s.size = m) X0 by
      obtain ⟨d, ω', e, s, rfl, hs⟩ := h.ex
      exact ⟨s, e, hs⟩
    unfold F_law_halves B_law_halves
    by_cases c : m < 2
    · rw [decide_eq_true c] at hlt
      repeat (first | with_reducible refine Eq.mpr (DL.wp_eqn (hlt)) ?_ | with_reducible refine Eq.mpr (DL.wp_ofOs (hlt)) ?_ | walk_at "ev1")
      exact ⟨.o, rfl, by simp [Sh.size]; omega⟩
    · rw [decide_eq_false c] at hlt
      have hd : fdivD (.int (m : Int)) (.int 2) = some (.int ((m / 2 : Nat) : Int)) := fdivN m 2 (by omega) (by omega)
      have hs : subD (.int (m : Int)) (.int ((m / 2 : Nat) : Int)) = some (.int ((m - m / 2 : Nat) : Int)) := subN m (m / 2) (by omega)
      obtain ⟨a, ea, za⟩ := halves_ok n (m - m / 2) (by omega) (by omega) (by omega)
      obtain ⟨b, eb, zb⟩ := halves_ok n (m / 2) (by omega) (by omega) (by omega)
      repeat (first | with_reducible refine Eq.mpr (DL.wp_eqn (hlt)) ?_ | with_reducible refine Eq.mpr (DL.wp_ofOs (hlt)) ?_ | with_reducible refine Eq.mpr (DL.wp_eqn (hd)) ?_ | with_reducible refine Eq.mpr (DL.wp_ofOs (hd)) ?_ | with_reducible refine Eq.mpr (DL.wp_eqn (hs)) ?_ | with_reducible refine Eq.mpr (DL.wp_ofOs (hs)) ?_ | with_reducible refine Eq.mpr (DL.wp_eqn (ea)) ?_ | with_reducible refine Eq.mpr (DL.wp_ofOs (ea)) ?_ | with_reducible refine Eq.mpr (DL.wp_eqn (eb)) ?_ | with_reducible refine Eq.mpr (DL.wp_ofOs (eb)) ?_ | walk_at "ev1")
      exact ⟨.n a b, rfl, by simp only [Sh.size]; omega⟩
theorem shape_ok : ∀ (n m : Nat) (ω : Src), 1 ≤ m → m ≤ n → m ≤ 60 → ∃ (s : Sh) (ω' : Src), F_law_shape n [.int m] ω = .ok s.enc ω' ∧ s.size = m
  | 0, m, ω, h1, h2, _ => by omega
  | n + 1, m, ω, h1, h2, h3 => by
    suffices h : (F_law_shape (n + 1) [.int m] ω).wp (fun d _ => ∃ s : Sh, d = s.enc ∧ s.size = m) X0 by
      obtain ⟨d, ω', e, s, rfl, hs⟩ := h.ex
      exact ⟨s, ω', e, hs⟩
    obtain ⟨r1, ω1, e1, a1, b1⟩ := pick_ok ω 6 (by omega) (by omega)
    have l1 : ltD (.int (m : Int)) (.int 2) = some (.bl (decide (m < 2))) := by
      show some (D.bl (decide ((m : Int) < 2))) = _
      congr 2
      by_cases c : m < 2 <;> simp <;> omega
    have l2 : ltD (.int r1) (.int 3) = some (.bl (decide (r1 < 3))) := rfl
    have c1 : F_law_comb [.int m, .str "left"] = .ok (cmb true (m - 1)).enc () := comb_ok true m h1 (by omega)
    have c2 : F_law_comb [.int m, .str "right"] = .ok (cmb false (m - 1)).enc () := comb_ok false m h1 (by omega)
    obtain ⟨hs, c3, hz⟩ := halves_ok 70 m h1 (by omega) (by omega)
    have low : ∀ (x : Int), 0 ≤ x → x < 3 → ∃ s : Sh, ixD (.lst [(cmb true (m - 1)).enc, (cmb false (m - 1)).enc, hs.enc]) (.int x) = some s.enc ∧ s.size = m := by
      intro x x0 x3
      have : x = 0 ∨ x = 1 ∨ x = 2 := by omega
      rcases this with rfl | rfl | rfl
      · exact ⟨_, rfl, by rw [cmb_size]; omega⟩
      · exact ⟨_, rfl, by rw [cmb_size]; omega⟩
      · exact ⟨_, rfl, hz⟩
    unfold F_law_shape B_law_shape
    by_cases ch : m < 2 ∨ r1 < 3
    · by_cases q : r1 < 3
      · obtain ⟨s, es, zs⟩ := low r1 a1 q
        rw [decide_eq_true q] at l2
        by_cases q1 : m < 2
        · rw [decide_eq_true q1] at l1
          repeat (first | with_reducible refine Eq.mpr (DL.wp_eqn (e1)) ?_ | with_reducible refine Eq.mpr (DL.wp_ofOs (e1)) ?_ | with_reducible refine Eq.mpr (DL.wp_eqn (l1)) ?_ | with_reducible refine Eq.mpr (DL.wp_ofOs (l1)) ?_ | with_reducible refine Eq.mpr (DL.wp_eqn (c1)) ?_ | with_reducible refine Eq.mpr (DL.wp_ofOs (c1)) ?_ | with_reducible refine Eq.mpr (DL.wp_eqn (c2)) ?_ | with_reducible refine Eq.mpr (DL.wp_ofOs (c2)) ?_ | with_reducible refine Eq.mpr (DL.wp_eqn (c3)) ?_ | with_reducible refine Eq.mpr (DL.wp_ofOs (c3)) ?_ | with_reducible refine Eq.mpr (DL.wp_eqn (l2)) ?_ | with_reducible refine Eq.mpr (DL.wp_ofOs (l2)) ?_ | with_reducible refine Eq.mpr (DL.wp_eqn (es)) ?_ | with_reducible refine Eq.mpr (DL.wp_ofOs (es)) ?_ | walk_at "ev1")
          exact ⟨s, rfl, zs⟩
        · rw [decide_eq_false q1] at l1
          repeat (first | with_reducible refine Eq.mpr (DL.wp_eqn (e1)) ?_ | with_reducible refine Eq.mpr (DL.wp_ofOs (e1)) ?_ | with_reducible refine Eq.mpr (DL.wp_eqn (l1)) ?_ | with_reducible refine Eq.mpr (DL.wp_ofOs (l1)) ?_ | with_reducible refine Eq.mpr (DL.wp_eqn (c1)) ?_ | with_reducible refine Eq.mpr (DL.wp_ofOs (c1)) ?_ | with_reducible refine Eq.mpr (DL.wp_eqn (c2)) ?_ | with_reducible refine Eq.mpr (DL.wp_ofOs (c2)) ?_ | with_reducible refine Eq.mpr (DL.wp_eqn (c3)) ?_ | with_reducible refine Eq.mpr (DL.wp_ofOs (c3)) ?_ | with_reducible refine Eq.mpr (DL.wp_eqn (l2)) ?_ | with_reducible refine Eq.mpr (DL.wp_ofOs (l2)) ?_ | with_reducible refine Eq.mpr (DL.wp_eqn (es)) ?_ | with_reducible refine Eq.mpr (DL.wp_ofOs (es)) ?_ | walk_at "ev1")
          exact ⟨s, rfl, zs⟩
      · obtain ⟨s, es, zs⟩ := low 0 (by omega) (by omega)
        rw [decide_eq_false q] at l2
        rw [decide_eq_true (show m < 2 by omega)] at l1
        repeat (first | with_reducible refine Eq.mpr (DL.wp_eqn (e1)) ?_ | with_reducible refine Eq.mpr (DL.wp_ofOs (e1)) ?_ | with_reducible refine Eq.mpr (DL.wp_eqn (l1)) ?_ | with_reducible refine Eq.mpr (DL.wp_ofOs (l1)) ?_ | with_reducible refine Eq.mpr (DL.wp_eqn (c1)) ?_ | with_reducible refine Eq.mpr (DL.wp_ofOs (c1)) ?_ | with_reducible refine Eq.mpr (DL.wp_eqn (c2)) ?_ | with_reducible refine Eq.mpr (DL.wp_ofOs (c2)) ?_ | with_reducible refine Eq.mpr (DL.wp_eqn (c3)) ?_ | with_reducible refine Eq.mpr (DL.wp_ofOs (c3)) ?_ | with_reducible refine Eq.mpr (DL.wp_eqn (l2)) ?_ | with_reducible refine Eq.mpr (DL.wp_ofOs (l2)) ?_ | with_reducible refine Eq.mpr (DL.wp_eqn (es)) ?_ | with_reducible refine Eq.mpr (DL.wp_ofOs (es)) ?_ | walk_at "ev1")
        exact ⟨s, rfl, zs⟩
    · have n1 : ¬ m < 2 := fun q => ch (.inl q)
      have n2 : ¬ r1 < 3 := fun q => ch (.inr q)
      rw [decide_eq_false n1] at l1
      rw [decide_eq_false n2] at l2
      have hsb : subD (.int (m : Int)) (.int 1) = some (.int ((m - 1 : Nat) : Int)) := subN m 1 h1
      obtain ⟨r2, ω2, e2, a2, b2⟩ := pick_ok ω1 ((m - 1 : Nat) : Int) (by omega) (by omega)
      have hk : addD (.int 1) (.int r2) = some (.int (((1 + r2).toNat : Nat) : Int)) := by
        show some (D.int (1 + r2)) = _
        congr 2; omega
      obtain ⟨l, ω3, e3, hl⟩ := shape_ok n (1 + r2).toNat ω2 (by omega) (by omega) (by omega)
      have hs2 : subD (.int (m : Int)) (.int (((1 + r2).toNat : Nat) : Int)) = some (.int ((m - (1 + r2).toNat : Nat) : Int)) := subN m _ (by omega)
      obtain ⟨r, ω4, e4, hr⟩ := shape_ok n (m - (1 + r2).toNat) ω3 (by omega) (by omega) (by omega)
      repeat (first | with_reducible refine Eq.mpr (DL.wp_eqn (e1)) ?_ | with_reducible refine Eq.mpr (DL.wp_ofOs (e1)) ?_ | with_reducible refine Eq.mpr (DL.wp_eqn (l1)) ?_ | with_reducible refine Eq.mpr (DL.wp_ofOs (l1)) ?_ | with_reducible refine Eq.mpr (DL.wp_eqn (l2)) ?_ | with_reducible refine Eq.mpr (DL.wp_ofOs (l2)) ?_ | with_reducible refine Eq.mpr (DL.wp_eqn (hsb)) ?_ | with_reducible refine Eq.mpr (DL.wp_ofOs (hsb)) ?_ | with_reducible refine Eq.mpr (DL.wp_eqn (e2)) ?_ | with_reducible refine Eq.mpr (DL.wp_ofOs (e2)) ?_ | with_reducible refine Eq.mpr (DL.wp_eqn (hk)) ?_ | with_reducible refine Eq.mpr (DL.wp_ofOs (hk)) ?_ | with_reducible refine Eq.mpr (DL.wp_eqn (e3)) ?_ | with_reducible refine Eq.mpr (DL.wp_ofOs (e3)) ?_ | with_reducible refine Eq.mpr (DL.wp_eqn (hs2)) ?_ | with_reducible refine Eq.mpr (DL.wp_ofOs (hs2)) ?_ | with_reducible refine Eq.mpr (DL.wp_eqn (e4)) ?_ | with_reducible refine Eq.mpr (DL.wp_ofOs (e4)) ?_ | walk_at "ev1")
      exact ⟨.n l r, rfl, by simp only [Sh.size]; omega⟩
theorem any_ok (m : Nat) (ω : Src) (h1 : 2 ≤ m) (h2 : m ≤ 60) : ∃ (t : Tab) (ω' : Src), F_law_any_table [.int m] ω = .ok (tb t) ω' ∧ WT t ∧ bsz t = m := by
  suffices h : (F_law_any_table [.int m] ω).wp (fun d _ => ∃ t : Tab, d = tb t ∧ WT t ∧ bsz t = m) X0 by
    obtain ⟨d, ω', e, t, rfl, hs⟩ := h.ex
    exact ⟨t, ω', e, hs⟩
  unfold F_law_any_table B_law_any_table
  have ha : addD (.int (m : Int)) (.int 1) = some (.int ((m + 1 : Nat) : Int)) := addN m 1
  have hr : rg2 [.int 2, .int ((m + 1 : Nat) : Int)] = some (rangeL 2 1 (m + 1 - 2)) := rg2_nat 2 (m + 1) (by omega) (by omega)
  repeat (first | with_reducible refine Eq.mpr (DL.wp_eqn (ha)) ?_ | with_reducible refine Eq.mpr (DL.wp_ofOs (ha)) ?_ | with_reducible refine Eq.mpr (DL.wp_eqn (hr)) ?_ | with_reducible refine Eq.mpr (DL.wp_ofOs (hr)) ?_ | walk_at "ev1")
  refine ⟨small_line (by rw [rangeL_len]; omega), ?_⟩
  refine lc_inv (fun i acc _ => ∃ t : Tab, acc = t.map Sh.enc ∧ t.length = i ∧ ∀ j s, t[j]? = some s → s.size = j + 2) ⟨[], rfl, rfl, by simp⟩ ?_ ?_
  · rintro i d acc ω hd ⟨t, rfl, hl, ht⟩
    obtain ⟨rfl, hi⟩ := rangeL_get _ _ _ _ _ hd
    refine ⟨_, rfl, ?_⟩
    obtain ⟨s, ω1, e1, hs⟩ := shape_ok 70 (i + 2) ω (by omega) (by omega) (by omega)
    have ei : (2 : Int) + (i : Int) * 1 = ((i + 2 : Nat) : Int) := by push_cast; omega
    rw [ei]
    repeat (first | with_reducible refine Eq.mpr (DL.wp_eqn (e1)) ?_ | with_reducible refine Eq.mpr (DL.wp_ofOs (e1)) ?_ | walk_at "ev1")
    refine ⟨t ++ [s], by simp, by simp [hl], fun j s' hj => ?_⟩
    by_cases hjl : j < t.length
    · rw [List.getElem?_append_left hjl] at hj
      exact ht j s' hj
    · rw [List.getElem?_append_right (by omega)] at hj
      have : j - t.length = 0 := by
        by_cases z : j - t.length = 0
        · exact z
        · rw [List.getElem?_eq_none (by simp; omega)] at hj; cases hj
      rw [this] at hj
      simp at hj
      subst hj
      omega
  · rintro acc ω ⟨t, rfl, hl, ht⟩
    rw [rangeL_len] at hl
    repeat walk_at "ev1"
    exact ⟨t, rfl, ⟨by omega, ht⟩, by unfold bsz; omega⟩
theorem law_size_ok : ∀ (n : Nat) (s : Sh), hgt s < n → F_law_size n [s.enc] = .ok (.int s.size) ()
  | 0, _, h => by omega
  | n + 1, .o, _ => by
    refine R.wp.equ ?_
    show (F_law_size (n + 1) [.tup []]).wp _ _
    unfold F_law_size B_law_size
    repeat (first | with_reducible refine Eq.mpr (DL.wp_eqn (eqO_o)) ?_ | with_reducible refine Eq.mpr (DL.wp_ofOs (eqO_o)) ?_ | walk_at "ev1")
    rfl
  | n + 1, .n l r, h => by
    simp only [hgt] at h
    have e1 := law_size_ok n l (by omega)
    have e2 := law_size_ok n r (by omega)
    refine R.wp.equ ?_
    show (F_law_size (n + 1) [.tup [l.enc, r.enc]]).wp _ _
    unfold F_law_size B_law_size
    repeat (first | with_reducible refine Eq.mpr (DL.wp_eqn (eqO_n l r)) ?_ | with_reducible refine Eq.mpr (DL.wp_ofOs (eqO_n l r)) ?_ | with_reducible refine Eq.mpr (DL.wp_eqn (e1)) ?_ | with_reducible refine Eq.mpr (DL.wp_ofOs (e1)) ?_ | with_reducible refine Eq.mpr (DL.wp_eqn (e2)) ?_ | with_reducible refine Eq.mpr (DL.wp_ofOs (e2)) ?_ | with_reducible refine Eq.mpr (DL.wp_eqn (addN _ _)) ?_ | with_reducible refine Eq.mpr (DL.wp_ofOs (addN _ _)) ?_ | walk_at "ev1")
    rfl
theorem law_entry_ok (t : Tab) (m : Nat) (h1 : 1 ≤ m) (h2 : m ≤ bsz t) : F_law_entry [tb t, .int m] = .ok (ent t m).enc () := by
  apply R.wp.equ
  unfold F_law_entry B_law_entry
  by_cases h : m = 1
  · subst h
    have e0 : eqD (.int ((1 : Nat) : Int)) (.int 1) = some (.bl true) := eqD_int 1 1
    repeat (first | with_reducible refine Eq.mpr (DL.wp_eqn (e0)) ?_ | with_reducible refine Eq.mpr (DL.wp_ofOs (e0)) ?_ | walk_at "ev1")
    rfl
  · have e0 : eqD (.int (m : Int)) (.int 1) = some (.bl false) := by
      rw [eqD_int]; congr 2; simp; omega
    have hlt : m - 2 < t.length := by unfold bsz at h2; omega
    have es : subD (.int (m : Int)) (.int 2) = some (.int ((m - 2 : Nat) : Int)) := subN m 2 (by omega)
    have e : ixD (.tup (t.map Sh.enc)) (.int ((m - 2 : Nat) : Int)) = some (ent t m).enc := by
      refine ix_tup (k := m - 2) rfl (map_get ?_)
      unfold ent
      rw [if_neg (by omega), List.getD_eq_getElem?_getD, List.getElem?_eq_getElem hlt]
      rfl
    repeat (first | with_reducible refine Eq.mpr (DL.wp_eqn (e0)) ?_ | with_reducible refine Eq.mpr (DL.wp_ofOs (e0)) ?_ | with_reducible refine Eq.mpr (DL.wp_eqn (es)) ?_ | with_reducible refine Eq.mpr (DL.wp_ofOs (es)) ?_ | with_reducible refine Eq.mpr (DL.wp_eqn (e)) ?_ | with_reducible refine Eq.mpr (DL.wp_ofOs (e)) ?_ | walk_at "ev1")
    rfl
theorem sl_to (row : List Sh) (j : Nat) : sliceD (rowD row) none (some (j : Int)) = some (rowD (row.take j)) := by
  show some (D.lst (cutL (row.map Sh.enc) none (some (j : Int)))) = _
  rw [cut_to, ← List.map_take]
theorem sl_from (row : List Sh) (j : Nat) : sliceD (rowD row) (some (j : Int)) none = some (rowD (row.drop j)) := by
  show some (D.lst (cutL (row.map Sh.enc) (some (j : Int)) none)) = _
  rw [cut_from, ← List.map_drop]
theorem law_filled_ok : ∀ (n : Nat) (s : Sh) (ps : List Sh), hgt s < n → s.size ≤ 70 → s.size ≤ ps.length → F_law_filled n [s.enc, rowD ps] = .ok (fill s ps).enc ()
  | 0, _, _, h, _, _ => by omega
  | n + 1, .o, ps, _, _, hl => by
    refine R.wp.equ ?_
    show (F_law_filled (n + 1) [.tup [], rowD ps]).wp _ _
    unfold F_law_filled B_law_filled
    cases ps with
    | nil => simp [Sh.size] at hl
    | cons p ps =>
      have e : ixD (rowD (p :: ps)) (.int 0) = some p.enc := ix_lst (k := 0) rfl rfl
      repeat (first | with_reducible refine Eq.mpr (DL.wp_eqn (eqO_o)) ?_ | with_reducible refine Eq.mpr (DL.wp_ofOs (eqO_o)) ?_ | with_reducible refine Eq.mpr (DL.wp_eqn (e)) ?_ | with_reducible refine Eq.mpr (DL.wp_ofOs (e)) ?_ | walk_at "ev1")
      rfl
  | n + 1, .n l r, ps, h, hz, hl => by
    simp only [hgt] at h
    simp only [Sh.size] at hz hl
    have h1 := hgt_lt l
    have e0 := law_size_ok 70 l (by omega)
    have e1 := law_filled_ok n l (ps.take l.size) (by omega) (by omega) (by rw [List.length_take]; omega)
    have e2 := law_filled_ok n r (ps.drop l.size) (by omega) (by omega) (by rw [List.length_drop]; omega)
    refine R.wp.equ ?_
    show (F_law_filled (n + 1) [.tup [l.enc, r.enc], rowD ps]).wp _ _
    unfold F_law_filled B_law_filled
    repeat (first | with_reducible refine Eq.mpr (DL.wp_eqn (eqO_n l r)) ?_ | with_reducible refine Eq.mpr (DL.wp_ofOs (eqO_n l r)) ?_ | with_reducible refine Eq.mpr (DL.wp_eqn (e0)) ?_ | with_reducible refine Eq.mpr (DL.wp_ofOs (e0)) ?_ | with_reducible refine Eq.mpr (DL.wp_eqn (sl_to ps l.size)) ?_ | with_reducible refine Eq.mpr (DL.wp_ofOs (sl_to ps l.size)) ?_ | with_reducible refine Eq.mpr (DL.wp_eqn (sl_from ps l.size)) ?_ | with_reducible refine Eq.mpr (DL.wp_ofOs (sl_from ps l.size)) ?_ | with_reducible refine Eq.mpr (DL.wp_eqn (e1)) ?_ | with_reducible refine Eq.mpr (DL.wp_ofOs (e1)) ?_ | with_reducible refine Eq.mpr (DL.wp_eqn (e2)) ?_ | with_reducible refine Eq.mpr (DL.wp_ofOs (e2)) ?_ | walk_at "ev1")
    rw [fill_take l ps l.size (Nat.le_refl _)]
    rfl
theorem len_row (r : List Sh) : un1 lenD [rowD r] = some (.int (r.length : Nat)) := by
  show some (D.int ((r.map Sh.enc).length : Nat)) = _
  rw [List.length_map]
theorem cut_row (row : List Sh) (i j : Nat) : sliceD (rowD row) (some (i : Int)) (some (j : Int)) = some (rowD ((row.drop i).take (j - i))) := by
  show some (D.lst (cutL (row.map Sh.enc) (some (i : Int)) (some (j : Int)))) = _
  rw [cut_nat, ← List.map_drop, ← List.map_take]
theorem law_pressed_ok (t : Tab) (row : List Sh) (hw : WT t) (hb : bsz t ≤ 60) (hr : row.length ≤ 10000) : F_law_pressed [tb t, rowD row] = .ok (rowD (prs t row)) () := by
  have hsz : addD (.int ((t.length : Nat) : Int)) (.int 1) = some (.int ((bsz t : Nat) : Int)) := addN t.length 1
  have hb1 : 1 ≤ bsz t := by unfold bsz; omega
  have hrg := rg3_nat row.length (bsz t) hb1 (by omega) (by omega)
  refine R.wp.equ ?_
  unfold F_law_pressed B_law_pressed
  have hs : startT 5 ([tb t, rowD row].map Cell.d) = [some (.d (tb t)), some (.d (rowD row)), none, none, none] := rfl
  rw [hs]
  repeat (first | with_reducible refine Eq.mpr (DL.wp_eqn (len_tb t)) ?_ | with_reducible refine Eq.mpr (DL.wp_ofOs (len_tb t)) ?_ | with_reducible refine Eq.mpr (DL.wp_eqn (hsz)) ?_ | with_reducible refine Eq.mpr (DL.wp_ofOs (hsz)) ?_ | with_reducible refine Eq.mpr (DL.wp_eqn (len_row row)) ?_ | with_reducible refine Eq.mpr (DL.wp_ofOs (len_row row)) ?_ | with_reducible refine Eq.mpr (DL.wp_eqn (hrg)) ?_ | with_reducible refine Eq.mpr (DL.wp_ofOs (hrg)) ?_ | walk_at "ev1")
  refine loop_inv (fun i τ _ => ∃ c, τ = [some (.d (tb t)), some (.d (rowD row)), some (.d (.int (bsz t))), some (.ow .L (((prs t row).take i).map Sh.enc)), c]) ⟨none, rfl⟩ ?_ ?_
  · rintro i d τ ω hd ⟨c, rfl⟩
    obtain ⟨rfl, hi⟩ := rangeL_get _ _ _ _ _ hd
    refine ⟨_, rfl, ?_⟩
    have ek : (0 : Int) + (i : Int) * ((bsz t : Nat) : Int) = ((i * bsz t : Nat) : Int) := by push_cast; omega
    rw [ek]
    have hkl : i * bsz t < row.length := by
      have h2 : (i + 1) * bsz t ≤ row.length + bsz t - 1 := by
        have := Nat.mul_le_mul_right (bsz t) (show i + 1 ≤ (row.length + bsz t - 1) / bsz t by omega)
        exact Nat.le_trans this (Nat.div_mul_le_self _ _)
      rw [Nat.succ_mul] at h2
      omega
    have ha : addD (.int ((i * bsz t : Nat) : Int)) (.int ((bsz t : Nat) : Int)) = some (.int ((i * bsz t + bsz t : Nat) : Int)) := addN _ _
    have hc : sliceD (rowD row) (some ((i * bsz t : Nat) : Int)) (some ((i * bsz t + bsz t : Nat) : Int)) = some (rowD ((row.drop (i * bsz t)).take (bsz t))) := by
      rw [cut_row]; congr 3; omega
    have hlen : ((row.drop (i * bsz t)).take (bsz t)).length = min (bsz t) (row.length - i * bsz t) := by rw [List.length_take, List.length_drop]
    have hll := len_row ((row.drop (i * bsz t)).take (bsz t))
    rw [hlen] at hll
    have hm1 : 1 ≤ min (bsz t) (row.length - i * bsz t) := by omega
    have he := law_entry_ok t (min (bsz t) (row.length - i * bsz t)) hm1 (by omega)
    have hes := hw.ent hm1 (show min (bsz t) (row.length - i * bsz t) ≤ bsz t by omega)
    have hh := hgt_lt (ent t (min (bsz t) (row.length - i * bsz t)))
    have hf := law_filled_ok 70 (ent t (min (bsz t) (row.length - i * bsz t))) ((row.drop (i * bsz t)).take (bsz t)) (by omega) (by omega) (by rw [hlen]; omega)
    rw [fill_take _ _ _ (by rw [hes]; omega)] at hf
    have hp : (prs t row)[i]? = some (fill (ent t (min (bsz t) (row.length - i * bsz t))) (row.drop (i * bsz t))) := by
      rw [prs_range t row.length row rfl, List.getElem?_map, List.getElem?_range hi]; rfl
    have hil : i < (prs t row).length := (List.getElem?_eq_some_iff.mp hp).1
    have hpl : (prs t row).length ≤ 10000 := by
      rw [prs_range t row.length row rfl, List.length_map, List.length_range]
      have : (row.length + bsz t - 1) / bsz t ≤ row.length := by
        apply Nat.le_of_lt_succ
        rw [Nat.div_lt_iff_lt_mul (by omega)]
        rw [Nat.succ_mul]
        have : row.length ≤ row.length * bsz t := Nat.le_mul_of_pos_right _ (by omega)
        omega
      omega
    refine (sw_app (xs := ((prs t row).take i).map Sh.enc) rfl (by rw [List.length_map, List.length_take]; omega)).mpr ?_
    repeat (first | with_reducible refine Eq.mpr (DL.wp_eqn (ha)) ?_ | with_reducible refine Eq.mpr (DL.wp_ofOs (ha)) ?_ | with_reducible refine Eq.mpr (DL.wp_eqn (hc)) ?_ | with_reducible refine Eq.mpr (DL.wp_ofOs (hc)) ?_ | with_reducible refine Eq.mpr (DL.wp_eqn (hll)) ?_ | with_reducible refine Eq.mpr (DL.wp_ofOs (hll)) ?_ | with_reducible refine Eq.mpr (DL.wp_eqn (he)) ?_ | with_reducible refine Eq.mpr (DL.wp_ofOs (he)) ?_ | with_reducible refine Eq.mpr (DL.wp_eqn (hf)) ?_ | with_reducible refine Eq.mpr (DL.wp_ofOs (hf)) ?_ | walk_at "ev1")
    have htk : (prs t row).take (i + 1) = (prs t row).take i ++ [fill (ent t (min (bsz t) (row.length - i * bsz t))) (row.drop (i * bsz t))] := by
      rw [List.take_succ, hp]; rfl
    rw [htk, List.map_append]
    exact ⟨_, rfl⟩
  · rintro τ ω ⟨c, rfl⟩
    rw [rangeL_len]
    have : (prs t row).take ((row.length + bsz t - 1) / bsz t) = prs t row := by
      refine List.take_of_length_le ?_
      rw [prs_range t row.length row rfl, List.length_map, List.length_range]
      exact Nat.le_refl _
    rw [this]
    repeat walk_at "ev1"
    rfl
theorem law_glue_ok (s t : Tab) (hs : WT s) (ht : WT t) (h1 : bsz s ≤ 60) (h2 : bsz t ≤ 60) (h3 : bsz s * bsz t ≤ 1000) : F_law_glue [tb s, tb t] = .ok (tb (glu s t)) () := by
  have a1 : addD (.int ((s.length : Nat) : Int)) (.int 1) = some (.int ((bsz s : Nat) : Int)) := addN s.length 1
  have a2 : addD (.int ((t.length : Nat) : Int)) (.int 1) = some (.int ((bsz t : Nat) : Int)) := addN t.length 1
  have a3 : mulD (.int ((bsz s : Nat) : Int)) (.int ((bsz t : Nat) : Int)) = some (.int ((bsz s * bsz t : Nat) : Int)) := mulN _ _ (by omega)
  have a4 : addD (.int ((bsz s * bsz t : Nat) : Int)) (.int 1) = some (.int ((bsz s * bsz t + 1 : Nat) : Int)) := addN _ 1
  have hr : rg2 [.int 2, .int ((bsz s * bsz t + 1 : Nat) : Int)] = some (rangeL 2 1 (bsz s * bsz t + 1 - 2)) := rg2_nat 2 _ (by omega) (by omega)
  have hg : glu s t = (List.range (bsz s * bsz t - 1)).map fun i => (prs t (prs s (osh (i + 2)))).headD .o := rfl
  refine R.wp.equ ?_
  unfold F_law_glue B_law_glue
  have hst : startT 6 ([tb s, tb t].map Cell.d) = [some (.d (tb s)), some (.d (tb t)), none, none, none, none] := rfl
  rw [hst]
  repeat (first | with_reducible refine Eq.mpr (DL.wp_eqn (len_tb s)) ?_ | with_reducible refine Eq.mpr (DL.wp_ofOs (len_tb s)) ?_ | with_reducible refine Eq.mpr (DL.wp_eqn (len_tb t)) ?_ | with_reducible refine Eq.mpr (DL.wp_ofOs (len_tb t)) ?_ | with_reducible refine Eq.mpr (DL.wp_eqn (a1)) ?_ | with_reducible refine Eq.mpr (DL.wp_ofOs (a1)) ?_ | with_reducible refine Eq.mpr (DL.wp_eqn (a2)) ?_ | with_reducible refine Eq.mpr (DL.wp_ofOs (a2)) ?_ | with_reducible refine Eq.mpr (DL.wp_eqn (a3)) ?_ | with_reducible refine Eq.mpr (DL.wp_ofOs (a3)) ?_ | with_reducible refine Eq.mpr (DL.wp_eqn (a4)) ?_ | with_reducible refine Eq.mpr (DL.wp_ofOs (a4)) ?_ | with_reducible refine Eq.mpr (DL.wp_eqn (hr)) ?_ | with_reducible refine Eq.mpr (DL.wp_ofOs (hr)) ?_ | walk_at "ev1")
  refine loop_inv (fun i τ _ => ∃ c4 c5, τ = [some (.d (tb s)), some (.d (tb t)), some (.ow .L (((glu s t).take i).map Sh.enc)), some (.d (.int (bsz s * bsz t : Nat))), c4, c5]) ⟨none, none, rfl⟩ ?_ ?_
  · rintro i d τ ω hd ⟨c4, c5, rfl⟩
    obtain ⟨rfl, hi⟩ := rangeL_get _ _ _ _ _ hd
    refine ⟨_, rfl, ?_⟩
    have ek : (2 : Int) + (i : Int) * 1 = ((i + 2 : Nat) : Int) := by push_cast; omega
    rw [ek]
    have hm : mulD (.lst [.tup []]) (.int ((i + 2 : Nat) : Int)) = some (rowD (osh (i + 2))) := by
      rw [mulL (.tup []) _ (i + 2) rfl (by omega)]
      unfold rowD osh
      rw [List.map_replicate]; rfl
    have hp := law_pressed_ok s (osh (i + 2)) hs h1 (by simp [osh]; omega)
    have hne : prs s (osh (i + 2)) ≠ [] := prs_ne_nil s (osh_ne (by omega))
    have hlen : (prs s (osh (i + 2))).length ≤ bsz t := prs_le s (bsz t) _ (by simp [osh]; rw [Nat.mul_comm]; omega)
    have hpos : 1 ≤ (prs s (osh (i + 2))).length := List.length_pos_iff.mpr hne
    have he := law_entry_ok t _ hpos hlen
    have hes := ht.ent hpos hlen
    have hh := hgt_lt (ent t (prs s (osh (i + 2))).length)
    have hf := law_filled_ok 70 (ent t (prs s (osh (i + 2))).length) (prs s (osh (i + 2))) (by omega) (by omega) (by omega)
    have hgi : (glu s t)[i]? = some (fill (ent t (prs s (osh (i + 2))).length) (prs s (osh (i + 2)))) := by
      rw [hg, List.getElem?_map, List.getElem?_range (by omega)]
      show some ((prs t (prs s (osh (i + 2)))).headD .o) = _
      rw [prs_small t hne hlen]; rfl
    have hgl : (glu s t).length ≤ 1000 := by rw [hg, List.length_map, List.length_range]; omega
    repeat (first | with_reducible refine Eq.mpr (DL.wp_eqn (hm)) ?_ | with_reducible refine Eq.mpr (DL.wp_ofOs (hm)) ?_ | with_reducible refine Eq.mpr (DL.wp_eqn (hp)) ?_ | with_reducible refine Eq.mpr (DL.wp_ofOs (hp)) ?_ | with_reducible refine Eq.mpr (DL.wp_eqn (len_row (prs s (osh (i + 2))))) ?_ | with_reducible refine Eq.mpr (DL.wp_ofOs (len_row (prs s (osh (i + 2))))) ?_ | with_reducible refine Eq.mpr (DL.wp_eqn (he)) ?_ | with_reducible refine Eq.mpr (DL.wp_ofOs (he)) ?_ | with_reducible refine Eq.mpr (DL.wp_eqn (hf)) ?_ | with_reducible refine Eq.mpr (DL.wp_ofOs (hf)) ?_ | walk_at "ev1")
    case hl => rw [List.length_map, List.length_take]; omega
    have htk : (glu s t).take (i + 1) = (glu s t).take i ++ [fill (ent t (prs s (osh (i + 2))).length) (prs s (osh (i + 2)))] := by
      rw [List.take_succ, hgi]; rfl
    rw [htk, List.map_append]
    exact ⟨_, _, rfl⟩
  · rintro τ ω ⟨c4, c5, rfl⟩
    rw [rangeL_len]
    have : (glu s t).take (bsz s * bsz t + 1 - 2) = glu s t := by
      refine List.take_of_length_le ?_
      rw [hg, List.length_map, List.length_range]
      omega
    rw [this]
    repeat walk_at "ev1"
    rfl
theorem of_ok (ω : Src) (xs : List D) (h0 : xs ≠ []) (hl : xs.length < 2 ^ 50) : ∃ d ω', F_law_of [.lst xs] ω = .ok d ω' ∧ d ∈ xs := by
  have hp : 1 ≤ xs.length := List.length_pos_iff.mpr h0
  obtain ⟨r, ω1, e, h1, h2⟩ := pick_ok ω (xs.length : Nat) (by omega) (by omega)
  have hr : r = ((r.toNat : Nat) : Int) := by omega
  have hlt : r.toNat < xs.length := by omega
  have e2 : ixD (.lst xs) (.int r) = some xs[r.toNat] := ix_lst hr (List.getElem?_eq_getElem hlt)
  refine R.wp.ex ?_
  unfold F_law_of B_law_of
  have el : un1 lenD [.lst xs] = some (.int (xs.length : Nat)) := rfl
  repeat (first | with_reducible refine Eq.mpr (DL.wp_eqn (el)) ?_ | with_reducible refine Eq.mpr (DL.wp_ofOs (el)) ?_ | with_reducible refine Eq.mpr (DL.wp_eqn (e)) ?_ | with_reducible refine Eq.mpr (DL.wp_ofOs (e)) ?_ | with_reducible refine Eq.mpr (DL.wp_eqn (e2)) ?_ | with_reducible refine Eq.mpr (DL.wp_ofOs (e2)) ?_ | walk_at "ev1")
  exact List.getElem_mem hlt
theorem size_of_ok : ∀ (n : Nat) (s : Sh), hgt s < n → F_size_of n [s.enc] = .ok (.int s.size) ()
  | 0, _, h => by omega
  | n + 1, .o, _ => by
    refine R.wp.equ ?_
    show (F_size_of (n + 1) [.tup []]).wp _ _
    unfold F_size_of B_size_of
    repeat (first | with_reducible refine Eq.mpr (DL.wp_eqn (eqO_o)) ?_ | with_reducible refine Eq.mpr (DL.wp_ofOs (eqO_o)) ?_ | walk_at "ev1")
    rfl
  | n + 1, .n l r, h => by
    simp only [hgt] at h
    have e1 := size_of_ok n l (by omega)
    have e2 := size_of_ok n r (by omega)
    refine R.wp.equ ?_
    show (F_size_of (n + 1) [.tup [l.enc, r.enc]]).wp _ _
    unfold F_size_of B_size_of
    repeat (first | with_reducible refine Eq.mpr (DL.wp_eqn (eqO_n l r)) ?_ | with_reducible refine Eq.mpr (DL.wp_ofOs (eqO_n l r)) ?_ | with_reducible refine Eq.mpr (DL.wp_eqn (e1)) ?_ | with_reducible refine Eq.mpr (DL.wp_ofOs (e1)) ?_ | with_reducible refine Eq.mpr (DL.wp_eqn (e2)) ?_ | with_reducible refine Eq.mpr (DL.wp_ofOs (e2)) ?_ | with_reducible refine Eq.mpr (DL.wp_eqn (addN _ _)) ?_ | with_reducible refine Eq.mpr (DL.wp_ofOs (addN _ _)) ?_ | walk_at "ev1")
    rfl
/-- a walk through a list, step by step -/
theorem lpD {Ω : Type} {B : D → Tau → Option Tau} {F : S Ω} {P : Fl → Ω → Prop} {ds : List D} {τ : Tau} {ω : Ω} (I : Tau → Ω → Prop) (h0 : I τ ω)
    (step : ∀ d τ ω, d ∈ ds → I τ ω → ∃ τ1, B d τ = some τ1 ∧ sw (F τ1 ω) (fun f ω' => match f with | .nx τ' => I τ' ω' | .ct τ' => I τ' ω' | .bk τ' => P (.nx τ') ω' | f => P f ω')) (fin : ∀ τ ω, I τ ω → P (.nx τ) ω) : sw (loop B F ds τ ω) P :=
  loop_inv (fun _ τ ω => I τ ω) h0 (fun _ d τ ω hd hi => step d τ ω (List.mem_of_getElem? hd) hi) fin
theorem enum_map (t : Tab) : (tb t).itemsS.map (enumL 0) = some ((List.range t.length).map fun i => .tup [.int ((i : Nat) : Int), (t.getD i .o).enc]) := by
  show some (enumL 0 (t.map Sh.enc)) = _
  congr 1
  apply List.ext_getElem?
  intro i
  rw [List.getElem?_map]
  by_cases h : i < t.length
  · rw [List.getElem?_range h]
    have hlt : i < (enumL 0 (t.map Sh.enc)).length := by rw [enumL_len, List.length_map]; exact h
    obtain ⟨d, e1, e2⟩ := enumL_get _ _ _ _ (List.getElem?_eq_getElem hlt)
    rw [List.getElem?_eq_getElem hlt, e2]
    rw [List.getElem?_map, List.getElem?_eq_getElem h] at e1
    cases e1
    simp [List.getD_eq_getElem?_getD, h]
  · rw [List.getElem?_eq_none (by rw [enumL_len, List.length_map]; omega), List.getElem?_eq_none (by simp; omega)]
    rfl
theorem wt_at {t : Tab} (h : WT t) {i : Nat} (hi : i < t.length) : (t.getD i .o).size = i + 2 := by
  rw [List.getD_eq_getElem?_getD, List.getElem?_eq_getElem hi]
  exact h.2 i _ (List.getElem?_eq_getElem hi)
theorem wtp_ok (t : Tab) (hw : WT t) (hb : bsz t ≤ 60) : F_wrong_table_path [tb t] = .ok .non () := by
  refine R.wp.equ ?_
  unfold F_wrong_table_path B_wrong_table_path
  have hl : un1 lenD [tb t] = some (.int (t.length : Nat)) := by
    show some (D.int ((t.map Sh.enc).length : Nat)) = _
    rw [List.length_map]
  have h0 : eqD (.int ((t.length : Nat) : Int)) (.int 0) = some (.bl false) := by
    rw [eqD_int]; congr 2; simp; have := hw.1; intro q; subst q; simp at this
  have hs : startT 4 ([tb t].map Cell.d) = [some (.d (tb t)), none, none, none] := rfl
  unfold bsz at hb
  rw [hs]
  repeat (first | with_reducible refine Eq.mpr (DL.wp_eqn (isi_tup _)) ?_ | with_reducible refine Eq.mpr (DL.wp_ofOs (isi_tup _)) ?_ | with_reducible refine Eq.mpr (DL.wp_eqn (hl)) ?_ | with_reducible refine Eq.mpr (DL.wp_ofOs (hl)) ?_ | with_reducible refine Eq.mpr (DL.wp_eqn (h0)) ?_ | with_reducible refine Eq.mpr (DL.wp_ofOs (h0)) ?_ | walk_at "ev1")
  refine Eq.mpr wp_en ?_
  repeat (first | with_reducible refine Eq.mpr (DL.wp_eqn (enum_map t)) ?_ | with_reducible refine Eq.mpr (DL.wp_ofOs (enum_map t)) ?_ | walk_at "ev1")
  refine lpD (fun τ _ => ∃ a b c, τ = [some (.d (tb t)), a, b, c]) ⟨_, _, _, rfl⟩ ?_ ?_
  · rintro d τ ω hd ⟨a, b, c, rfl⟩
    obtain ⟨i, hi, rfl⟩ := List.mem_map.mp hd
    have hi := List.mem_range.mp hi
    refine ⟨_, rfl, ?_⟩
    have hz := wt_at hw hi
    have e1 := wsp_ok 70 (t.getD i .o) (by have := hgt_lt (t.getD i .o); omega)
    repeat (first | with_reducible refine Eq.mpr (DL.wp_eqn (e1)) ?_ | with_reducible refine Eq.mpr (DL.wp_ofOs (e1)) ?_ | with_reducible refine Eq.mpr (DL.wp_eqn (notN)) ?_ | with_reducible refine Eq.mpr (DL.wp_ofOs (notN)) ?_ | walk_at "ev1")
    exact ⟨_, _, _, rfl⟩
  · rintro τ ω ⟨a, b, c, rfl⟩
    repeat walk_at "ev1"
    refine Eq.mpr wp_en ?_
    repeat (first | with_reducible refine Eq.mpr (DL.wp_eqn (enum_map t)) ?_ | with_reducible refine Eq.mpr (DL.wp_ofOs (enum_map t)) ?_ | walk_at "ev1")
    refine lpD (fun τ _ => ∃ a b c, τ = [some (.d (tb t)), a, b, c]) ⟨_, _, _, rfl⟩ ?_ ?_
    · rintro d τ ω hd ⟨a, b, c, rfl⟩
      obtain ⟨i, hi, rfl⟩ := List.mem_map.mp hd
      have hi := List.mem_range.mp hi
      refine ⟨_, rfl, ?_⟩
      have hz := wt_at hw hi
      have e1 := size_of_ok 70 (t.getD i .o) (by have := hgt_lt (t.getD i .o); omega)
      rw [hz] at e1
      have e2 : addD (.int (i : Int)) (.int 2) = some (.int ((i + 2 : Nat) : Int)) := addN i 2
      repeat (first | with_reducible refine Eq.mpr (DL.wp_eqn (e1)) ?_ | with_reducible refine Eq.mpr (DL.wp_ofOs (e1)) ?_ | with_reducible refine Eq.mpr (DL.wp_eqn (e2)) ?_ | with_reducible refine Eq.mpr (DL.wp_ofOs (e2)) ?_ | with_reducible refine Eq.mpr (DL.wp_eqn (ne_int _)) ?_ | with_reducible refine Eq.mpr (DL.wp_ofOs (ne_int _)) ?_ | walk_at "ev1")
      exact ⟨_, _, _, rfl⟩
    · rintro τ ω ⟨a, b, c, rfl⟩
      repeat walk_at "ev1"
      rfl
theorem iteP {c : Prop} [Decidable c] {a b : Prop} (h : c) (k : a) : if c then a else b := by rw [if_pos h]; exact k
theorem iteN {c : Prop} [Decidable c] {a b : Prop} (h : ¬ c) (k : b) : if c then a else b := by rw [if_neg h]; exact k
theorem items_t (ts : List Tab) : (D.tup (ts.map tb)).itemsS.map (enumL 0) = some (enumL 0 (ts.map tb)) := rfl
theorem fwt_ok (ts : List Tab) (h : ∀ t ∈ ts, WT t ∧ bsz t ≤ 60) : F_first_wrong_table [.tup (ts.map tb)] = .ok .non () := by
  apply R.wp.equ
  unfold F_first_wrong_table B_first_wrong_table
  have hs0 : startT 4 ([D.tup (ts.map tb)].map Cell.d) = [some (.d (.tup (ts.map tb))), none, none, none] := rfl
  rw [hs0]
  repeat walk_at "ev1"
  refine Eq.mpr wp_en ?_
  repeat (first | with_reducible refine Eq.mpr (DL.wp_eqn (items_t ts)) ?_ | with_reducible refine Eq.mpr (DL.wp_ofOs (items_t ts)) ?_ | walk_at "ev1")
  refine loop_inv (fun i τ _ => ∃ a b c, τ = [some (.d (.tup (ts.map tb))), a, b, c]) ⟨_, _, _, rfl⟩ ?_ ?_
  · rintro i d τ ω hd ⟨a, b, c, rfl⟩
    obtain ⟨x, hx, rfl⟩ := enumL_get _ _ _ _ hd
    obtain ⟨t, ht, rfl⟩ := List.mem_map.mp (List.mem_of_getElem? hx)
    refine ⟨_, rfl, ?_⟩
    repeat (first | with_reducible refine Eq.mpr (DL.wp_eqn (wtp_ok t (h t ht).1 (h t ht).2)) ?_ | with_reducible refine Eq.mpr (DL.wp_ofOs (wtp_ok t (h t ht).1 (h t ht).2)) ?_ | with_reducible refine Eq.mpr (DL.wp_eqn (notN)) ?_ | with_reducible refine Eq.mpr (DL.wp_ofOs (notN)) ?_ | walk_at "ev1")
    exact ⟨_, _, _, rfl⟩
  · rintro τ ω ⟨a, b, c, rfl⟩
    repeat walk_at "ev1"
    rfl
/-- what ends a plan: a side, or a row of tables -/
inductive PEnd where
  | side (b : Bool)
  | rnd (rs : List Tab)
def endD : PEnd → D
  | .side b => sideS b
  | .rnd rs => .tup (rs.map tb)
def GT (ts : List Tab) : Prop := ∀ t ∈ ts, WT t ∧ bsz t ≤ 16
def PEnd.ok : PEnd → Prop
  | .side _ => True
  | .rnd rs => rs ≠ [] ∧ rs.length ≤ 20 ∧ GT rs
theorem GT.le {ts : List Tab} (h : GT ts) : ∀ t ∈ ts, WT t ∧ bsz t ≤ 60 := fun t ht => ⟨(h t ht).1, Nat.le_trans (h t ht).2 (by omega)⟩
theorem isi_lt (ds : List D) : isi2D "list" "tuple" (.tup ds) = some (.bl true) := by kernel_rfl
theorem eq_rt (b : Bool) : eqD (sideS b) (.str "right") = some (.bl (!b)) := by cases b <;> kernel_rfl
theorem eq_ts (ts : List Tab) (x : Str) (hx : PyData.strOk x = true) : eqD (.tup (ts.map tb)) (.str x) = some (.bl false) := by
  have e : (D.tup (ts.map tb)).py = some (.tuple (ts.map Enc.py)) := Enc.e1 ts
  have l : (PyData.tuple (ts.map Enc.py)).canLay0 = true := Enc.e3 ts
  unfold eqD eqB
  rw [e]
  simp only [D.py]
  rw [if_pos ⟨l, by simp only [PyData.canLay0]; exact hx, by simp only [PyData.depth]; omega⟩]
  simp only [PyData.eqv, Option.map_some]
theorem len_tp (ts : List Tab) : un1 lenD [.tup (ts.map tb)] = some (.int (ts.length : Nat)) := by
  show some (D.int ((ts.map tb).length : Nat)) = _
  rw [List.length_map]
theorem wpp_ok (ts : List Tab) (e : PEnd) (h : GT ts) (he : e.ok) : F_wrong_plan_path [.tup (ts.map tb), endD e] = .ok .non () := by
  apply R.wp.equ
  unfold F_wrong_plan_path B_wrong_plan_path
  have hs0 : startT 3 ([D.tup (ts.map tb), endD e].map Cell.d) = [some (.d (.tup (ts.map tb))), some (.d (endD e)), none] := rfl
  rw [hs0]
  cases e with
  | side b =>
    have e1 : eqD (endD (.side b)) (.str "left") = some (.bl b) := eq_left b
    have e2 : eqD (endD (.side b)) (.str "right") = some (.bl (!b)) := eq_rt b
    cases b with
    | true =>
      repeat (first | with_reducible refine Eq.mpr (DL.wp_eqn (isi_lt _)) ?_ | with_reducible refine Eq.mpr (DL.wp_ofOs (isi_lt _)) ?_ | with_reducible refine Eq.mpr (DL.wp_eqn (fwt_ok ts h.le)) ?_ | with_reducible refine Eq.mpr (DL.wp_ofOs (fwt_ok ts h.le)) ?_ | with_reducible refine Eq.mpr (DL.wp_eqn (notN)) ?_ | with_reducible refine Eq.mpr (DL.wp_ofOs (notN)) ?_ | with_reducible refine Eq.mpr (DL.wp_eqn (e1)) ?_ | with_reducible refine Eq.mpr (DL.wp_ofOs (e1)) ?_ | walk_at "ev1")
      rfl
    | false =>
      repeat (first | with_reducible refine Eq.mpr (DL.wp_eqn (isi_lt _)) ?_ | with_reducible refine Eq.mpr (DL.wp_ofOs (isi_lt _)) ?_ | with_reducible refine Eq.mpr (DL.wp_eqn (fwt_ok ts h.le)) ?_ | with_reducible refine Eq.mpr (DL.wp_ofOs (fwt_ok ts h.le)) ?_ | with_reducible refine Eq.mpr (DL.wp_eqn (notN)) ?_ | with_reducible refine Eq.mpr (DL.wp_ofOs (notN)) ?_ | with_reducible refine Eq.mpr (DL.wp_eqn (e1)) ?_ | with_reducible refine Eq.mpr (DL.wp_ofOs (e1)) ?_ | with_reducible refine Eq.mpr (DL.wp_eqn (e2)) ?_ | with_reducible refine Eq.mpr (DL.wp_ofOs (e2)) ?_ | walk_at "ev1")
      rfl
  | rnd rs =>
    obtain ⟨r0, r1, r2⟩ := he
    have e1 : eqD (endD (.rnd rs)) (.str "left") = some (.bl false) := eq_ts rs _ (strOk_ofString _)
    have e2 : eqD (endD (.rnd rs)) (.str "right") = some (.bl false) := eq_ts rs _ (strOk_ofString _)
    have e3 : isiD "tuple" (endD (.rnd rs)) = some (.bl true) := isi_tup _
    have e4 : un1 lenD [endD (.rnd rs)] = some (.int (rs.length : Nat)) := len_tp rs
    have hp := List.length_pos_iff.mpr r0
    have e5 : eqD (.int (rs.length : Nat)) (.int 0) = some (.bl false) := by
      rw [eqD_int]; exact congrArg (fun b => some (D.bl b)) (decide_eq_false (by omega))
    have e6 : F_first_wrong_table [endD (.rnd rs)] = .ok .non () := fwt_ok rs r2.le
    repeat (first | with_reducible refine Eq.mpr (DL.wp_eqn (isi_lt _)) ?_ | with_reducible refine Eq.mpr (DL.wp_ofOs (isi_lt _)) ?_ | with_reducible refine Eq.mpr (DL.wp_eqn (fwt_ok ts h.le)) ?_ | with_reducible refine Eq.mpr (DL.wp_ofOs (fwt_ok ts h.le)) ?_ | with_reducible refine Eq.mpr (DL.wp_eqn (notN)) ?_ | with_reducible refine Eq.mpr (DL.wp_ofOs (notN)) ?_ | with_reducible refine Eq.mpr (DL.wp_eqn (e1)) ?_ | with_reducible refine Eq.mpr (DL.wp_ofOs (e1)) ?_ | with_reducible refine Eq.mpr (DL.wp_eqn (e2)) ?_ | with_reducible refine Eq.mpr (DL.wp_ofOs (e2)) ?_ | with_reducible refine Eq.mpr (DL.wp_eqn (e3)) ?_ | with_reducible refine Eq.mpr (DL.wp_ofOs (e3)) ?_ | with_reducible refine Eq.mpr (DL.wp_eqn (e4)) ?_ | with_reducible refine Eq.mpr (DL.wp_ofOs (e4)) ?_ | with_reducible refine Eq.mpr (DL.wp_eqn (e5)) ?_ | with_reducible refine Eq.mpr (DL.wp_ofOs (e5)) ?_ | with_reducible refine Eq.mpr (DL.wp_eqn (e6)) ?_ | with_reducible refine Eq.mpr (DL.wp_ofOs (e6)) ?_ | walk_at "ev1")
    rfl
abbrev plnD (a b : D) : D := .ins ["_tables", "_end"] [a, b]
abbrev plD (ts : List Tab) (e : PEnd) : D := plnD (.tup (ts.map tb)) (endD e)
theorem plan_ok (ts : List Tab) (e : PEnd) (h : GT ts) (he : e.ok) : F_Plan_init [.tup (ts.map tb), endD e] = .ok [.tup (ts.map tb), endD e] () := by
  apply R.wp.equ
  unfold F_Plan_init B_Plan_init
  refine Eq.mpr wp_runI ?_
  have hs0 : startT 4 (.src :: [D.tup (ts.map tb), endD e].map Cell.d) = [some .src, some (.d (.tup (ts.map tb))), some (.d (endD e)), none] := rfl
  rw [hs0]
  refine si_seq ?_
  repeat (first | with_reducible refine Eq.mpr (DL.wp_eqn (wpp_ok ts e h he)) ?_ | with_reducible refine Eq.mpr (DL.wp_ofOs (wpp_ok ts e h he)) ?_ | walk_at "ev1")
  refine ⟨_, rfl, rfl, ?_⟩
  refine si_seq ?_
  repeat (first | with_reducible refine Eq.mpr (DL.wp_eqn (notN)) ?_ | with_reducible refine Eq.mpr (DL.wp_ofOs (notN)) ?_ | walk_at "ev1")
  refine ⟨_, rfl, rfl, ?_⟩
  refine si_two ?_
  have ht : un1 tupleD [.tup (ts.map tb)] = some (.tup (ts.map tb)) := rfl
  repeat (first | with_reducible refine Eq.mpr (DL.wp_eqn (ht)) ?_ | with_reducible refine Eq.mpr (DL.wp_ofOs (ht)) ?_ | walk_at "ev1")
  rfl
def optT : Option Tab → D
  | none => .non
  | some t => tb t
/-- the table of a stage -/
def stg (ts : List Tab) (e : PEnd) (k : Nat) : Option Tab := if k < ts.length then ts[k]? else match e with
  | .side _ => none
  | .rnd rs => rs[(k - ts.length) % rs.length]?
theorem stg_gt {ts : List Tab} {e : PEnd} (h : GT ts) (he : e.ok) {k : Nat} {t : Tab} (q : stg ts e k = some t) : WT t ∧ bsz t ≤ 16 := by
  unfold stg at q
  split at q
  · exact h t (List.mem_of_getElem? q)
  · cases e with
    | side b => cases q
    | rnd rs => exact he.2.2 t (List.mem_of_getElem? q)
theorem fld1 (a b : D) (c : Option Cell) : (eFld "_tables" (eVar 0) : E Unit D) [some (.d (plnD a b)), c] () = .ok a () := by kernel_rfl
theorem fld2 (a b : D) (c : Option Cell) : (eFld "_end" (eVar 0) : E Unit D) [some (.d (plnD a b)), c] () = .ok b () := by kernel_rfl
theorem ix_tp {ts : List Tab} {k : Nat} {t : Tab} (h : ts[k]? = some t) : ixD (.tup (ts.map tb)) (.int (k : Nat)) = some (tb t) := by
  have : L2.atI (ts.map tb) ((k : Nat) : Int) = some (tb t) := atI_of (k := k) rfl (by rw [List.getElem?_map, h]; rfl)
  exact this
theorem isi_side (b : Bool) : isiD "str" (sideS b) = some (.bl true) := by cases b <;> kernel_rfl
theorem isi_notstr (ds : List D) : isiD "str" (.tup ds) = some (.bl false) := by kernel_rfl
theorem w_sh : ∀ s : Sh, s.py.weight + 2 ≤ 2 * s.size
  | .o => by simp [Sh.py, PyData.weight, PyData.weightAll, Sh.size]
  | .n l r => by
    have h1 := w_sh l
    have h2 := w_sh r
    simp only [Sh.py, PyData.weight, PyData.weightAll, Sh.size]
    omega
theorem w_all {α : Type} (f : α → PyData) (b : Nat) : ∀ xs : List α, (∀ x ∈ xs, (f x).weight ≤ b) → PyData.weightAll (xs.map f) ≤ xs.length * (b + 1)
  | [], _ => by simp [PyData.weightAll]
  | x :: xs, h => by
    have h1 := h x (List.mem_cons_self ..)
    have h2 := w_all f b xs fun y hy => h y (List.mem_cons_of_mem _ hy)
    simp only [List.map_cons, PyData.weightAll, List.length_cons]
    rw [Nat.succ_mul]
    omega
theorem w_tab {t : Tab} (hw : WT t) (hz : bsz t ≤ 16) : (Enc.py t).weight ≤ 2000 := by
  show PyData.weight (.tuple (t.map Sh.py)) ≤ _
  simp only [PyData.weight]
  have h := w_all Sh.py 64 t fun s hs => by
    obtain ⟨i, hi, e⟩ := List.mem_iff_getElem.mp hs
    have h1 := hw.2 i s (by rw [List.getElem?_eq_getElem hi, e])
    have h2 := w_sh s
    unfold bsz at hz
    omega
  have : t.length * (64 + 1) ≤ 16 * (64 + 1) := Nat.mul_le_mul_right _ (by unfold bsz at hz; omega)
  omega
theorem inT_side (b : Bool) : inTD (sideS b) (.tup [.str "left", .str "right"]) = some (.bl true) := by cases b <;> kernel_rfl
theorem inT_rnd {rs : List Tab} (h : GT rs) (hl : rs.length ≤ 20) : inTD (.tup (rs.map tb)) (.tup [.str "left", .str "right"]) = some (.bl false) := by
  have e1 : (D.tup (rs.map tb)).py = some (.tuple (rs.map Enc.py)) := Enc.e1 rs
  have e2 : (D.tup [.str "left", .str "right"]).py = some (.tuple [.str "left", .str "right"]) := by kernel_rfl
  have l : (PyData.tuple (rs.map Enc.py)).canLay0 = true := Enc.e3 rs
  have hd : (PyData.tuple (rs.map Enc.py)).depth ≤ 64 := by
    have h1 : (PyData.tuple (rs.map Enc.py)).depth ≤ depL rs + 1 := Enc.e4 rs
    have h2 : depL rs ≤ 20 := depL_le fun t ht => by
      have := dep_tab (h t ht).1
      have := (h t ht).2
      omega
    omega
  have hw : (PyData.tuple (rs.map Enc.py)).weight ≤ 2 ^ 20 := by
    simp only [PyData.weight]
    have h1 : PyData.weightAll (rs.map Enc.py) ≤ rs.length * (2000 + 1) := w_all (Enc.py (α := Tab)) 2000 rs fun t ht => w_tab (h t ht).1 (h t ht).2
    have h2 : rs.length * (2000 + 1) ≤ 20 * (2000 + 1) := Nat.mul_le_mul_right _ hl
    omega
  have ly : (PyData.tuple (rs.map Enc.py)).layable0 = true := by
    unfold PyData.layable0
    rw [l, decide_eq_true hd, decide_eq_true hw]
    rfl
  unfold inTD
  rw [e1, e2]
  dsimp only
  rw [if_pos ⟨by kernel_rfl, ly, by simp [SeqAt.noMix]⟩]
  kernel_rfl
abbrev wD (ts : List Tab) (e : PEnd) : D := .dic [.inr "tables", .inr "end", .inr "plan"] [.tup (ts.map tb), endD e, plD ts e]
theorem dg1 (a b p : D) (c : Option Cell) : (eDgK (pK 0) (eC (.str "tables")) : E Unit D) [some (.d (.dic [.inr "tables", .inr "end", .inr "plan"] [a, b, p])), c] () = .ok a () := by kernel_rfl
theorem dg2 (a b p : D) (c : Option Cell) : (eDgK (pK 0) (eC (.str "end")) : E Unit D) [some (.d (.dic [.inr "tables", .inr "end", .inr "plan"] [a, b, p])), c] () = .ok b () := by kernel_rfl
def PEnd.few : PEnd → Prop
  | .side _ => True
  | .rnd rs => rs.length ≤ 2
theorem law_made_ok (ts : List Tab) (e : PEnd) (h : GT ts) (he : e.ok) : F_law_made [.lst (ts.map tb), endD e] = .ok (wD ts e) () := by
  apply R.wp.equ
  unfold F_law_made B_law_made
  have ht : un1 tupleD [.lst (ts.map tb)] = some (.tup (ts.map tb)) := rfl
  repeat walk_at "ev1"
  refine Eq.mpr wp_eDisp ?_
  repeat (first | with_reducible refine Eq.mpr (DL.wp_eqn (ht)) ?_ | with_reducible refine Eq.mpr (DL.wp_ofOs (ht)) ?_ | walk_at "ev1")
  refine Eq.mpr wp_cI ?_
  repeat (first | with_reducible refine Eq.mpr (DL.wp_eqn (ht)) ?_ | with_reducible refine Eq.mpr (DL.wp_ofOs (ht)) ?_ | with_reducible refine Eq.mpr (DL.wp_eqn (plan_ok ts e h he)) ?_ | with_reducible refine Eq.mpr (DL.wp_ofOs (plan_ok ts e h he)) ?_ | walk_at "ev1")
  refine ⟨rfl, ?_⟩
  repeat walk_at "ev1"
  exact ⟨rfl, rfl⟩
theorem law_table_ok (ω : Src) : ∃ (t : Tab) (ω' : Src), F_law_table [] ω = .ok (tb t) ω' ∧ WT t ∧ bsz t ≤ 16 := by
  suffices h : (F_law_table [] ω).wp (fun d _ => ∃ t : Tab, d = tb t ∧ WT t ∧ bsz t ≤ 16) X0 by
    obtain ⟨d, ω', e, t, rfl, h⟩ := h.ex
    exact ⟨t, ω', e, h⟩
  unfold F_law_table B_law_table
  have hs0 : startT 3 (.src :: ([] : List D).map .d) = [some .src, none, none] := rfl
  rw [hs0]
  obtain ⟨r, ω1, e1', hr⟩ := pick_nat ω 4 (by omega) (by omega)
  have e1 : F_law_pick [.int 4] ω = .ok (.int (r : Nat)) ω1 := e1'
  repeat (first | with_reducible refine Eq.mpr (DL.wp_eqn (e1)) ?_ | with_reducible refine Eq.mpr (DL.wp_ofOs (e1)) ?_ | with_reducible refine Eq.mpr (DL.wp_eqn (eqD_int _ _)) ?_ | with_reducible refine Eq.mpr (DL.wp_ofOs (eqD_int _ _)) ?_ | walk_at "ev1")
  by_cases h0 : r = 0
  · refine iteP (decide_eq_true (by omega)) ?_
    obtain ⟨a, ω2, e2', ha⟩ := pick_nat ω1 2 (by omega) (by omega)
    have e2 : F_law_pick [.int 2] ω1 = .ok (.int (a : Nat)) ω2 := e2'
    have h2 : addD (.int 2) (.int (a : Nat)) = some (.int ((2 + a : Nat) : Int)) := addN 2 a
    obtain ⟨s, ω3, e3, ws, zs⟩ := any_ok (2 + a) ω2 (by omega) (by omega)
    obtain ⟨b, ω4, e4', hb⟩ := pick_nat ω3 2 (by omega) (by omega)
    have e4 : F_law_pick [.int 2] ω3 = .ok (.int (b : Nat)) ω4 := e4'
    have h4 : addD (.int 2) (.int (b : Nat)) = some (.int ((2 + b : Nat) : Int)) := addN 2 b
    obtain ⟨t, ω5, e5, wt, zt⟩ := any_ok (2 + b) ω4 (by omega) (by omega)
    have hm : bsz s * bsz t ≤ 3 * 3 := Nat.mul_le_mul (by omega) (by omega)
    repeat (first | with_reducible refine Eq.mpr (DL.wp_eqn (e2)) ?_ | with_reducible refine Eq.mpr (DL.wp_ofOs (e2)) ?_ | with_reducible refine Eq.mpr (DL.wp_eqn (h2)) ?_ | with_reducible refine Eq.mpr (DL.wp_ofOs (h2)) ?_ | with_reducible refine Eq.mpr (DL.wp_eqn (e3)) ?_ | with_reducible refine Eq.mpr (DL.wp_ofOs (e3)) ?_ | with_reducible refine Eq.mpr (DL.wp_eqn (e4)) ?_ | with_reducible refine Eq.mpr (DL.wp_ofOs (e4)) ?_ | with_reducible refine Eq.mpr (DL.wp_eqn (h4)) ?_ | with_reducible refine Eq.mpr (DL.wp_ofOs (h4)) ?_ | with_reducible refine Eq.mpr (DL.wp_eqn (e5)) ?_ | with_reducible refine Eq.mpr (DL.wp_ofOs (e5)) ?_ | with_reducible refine Eq.mpr (DL.wp_eqn (law_glue_ok s t ws wt (by omega) (by omega) (by omega))) ?_ | with_reducible refine Eq.mpr (DL.wp_ofOs (law_glue_ok s t ws wt (by omega) (by omega) (by omega))) ?_ | walk_at "ev1")
    exact ⟨glu s t, rfl, glu_wt s t ws wt, by rw [glu_len]; omega⟩
  · refine iteN (by rw [decide_eq_true_eq]; omega) ?_
    obtain ⟨d, ω2, e2, hd⟩ := of_ok ω1 [.int 2, .int 2, .int 3, .int 3, .int 4, .int 4, .int 5, .int 6] (by simp) (by simp)
    obtain ⟨m, rfl, m1, m2⟩ : ∃ m : Nat, d = .int (m : Nat) ∧ 2 ≤ m ∧ m ≤ 6 := by
      simp only [List.mem_cons, List.not_mem_nil, or_false] at hd
      rcases hd with h | h | h | h | h | h | h | h <;> subst h
      · exact ⟨2, rfl, by omega, by omega⟩
      · exact ⟨2, rfl, by omega, by omega⟩
      · exact ⟨3, rfl, by omega, by omega⟩
      · exact ⟨3, rfl, by omega, by omega⟩
      · exact ⟨4, rfl, by omega, by omega⟩
      · exact ⟨4, rfl, by omega, by omega⟩
      · exact ⟨5, rfl, by omega, by omega⟩
      · exact ⟨6, rfl, by omega, by omega⟩
    obtain ⟨t, ω3, e3, wt, zt⟩ := any_ok m ω2 (by omega) (by omega)
    repeat (first | with_reducible refine Eq.mpr (DL.wp_eqn (e2)) ?_ | with_reducible refine Eq.mpr (DL.wp_ofOs (e2)) ?_ | with_reducible refine Eq.mpr (DL.wp_eqn (e3)) ?_ | with_reducible refine Eq.mpr (DL.wp_ofOs (e3)) ?_ | walk_at "ev1")
    exact ⟨t, rfl, wt, by omega⟩
theorem GT.snoc {ts : List Tab} {t : Tab} (h : GT ts) (ht : WT t ∧ bsz t ≤ 16) : GT (ts ++ [t]) := fun x hx => by
  rw [List.mem_append] at hx
  rcases hx with hx | hx
  · exact h x hx
  · simp at hx; subst hx; exact ht
theorem GT.nil : GT [] := fun _ h => absurd h (by simp)
theorem law_plan_ok (ω : Src) : ∃ (ts : List Tab) (e : PEnd) (ω' : Src), F_law_plan [] ω = .ok (wD ts e) ω' ∧ GT ts ∧ e.ok ∧ ts.length ≤ 3 ∧ e.few := by
  suffices h : (F_law_plan [] ω).wp (fun d _ => ∃ (ts : List Tab) (e : PEnd), d = wD ts e ∧ GT ts ∧ e.ok ∧ ts.length ≤ 3 ∧ e.few) X0 by
    obtain ⟨d, ω', e, ts, e2, rfl, h⟩ := h.ex
    exact ⟨ts, e2, ω', e, h⟩
  unfold F_law_plan B_law_plan
  have hs0 : startT 5 (.src :: ([] : List D).map .d) = [some .src, none, none, none, none] := rfl
  rw [hs0]
  obtain ⟨d, ω1, e1, hd⟩ := of_ok ω [.int 0, .int 1, .int 1, .int 2, .int 3] (by simp) (by simp)
  obtain ⟨m, rfl, m2⟩ : ∃ m : Nat, d = .int (m : Nat) ∧ m ≤ 3 := by
    simp only [List.mem_cons, List.not_mem_nil, or_false] at hd
    rcases hd with h | h | h | h | h <;> subst h
    · exact ⟨0, rfl, by omega⟩
    · exact ⟨1, rfl, by omega⟩
    · exact ⟨1, rfl, by omega⟩
    · exact ⟨2, rfl, by omega⟩
    · exact ⟨3, rfl, by omega⟩
  have hr1 := rg1_nat m (by omega)
  refine Eq.mpr wp_nox ?_
  refine Eq.mpr wp_runS ?_
  refine Eq.mpr sw_seq ?_
  refine sw.mono (P := fun f _ => ∃ ts : List Tab, GT ts ∧ ts.length ≤ 3 ∧ f = .nx [some .src, some (.d (.lst (ts.map tb))), none, none, none]) (by
    repeat (first | with_reducible refine Eq.mpr (DL.wp_eqn (e1)) ?_ | with_reducible refine Eq.mpr (DL.wp_ofOs (e1)) ?_ | with_reducible refine Eq.mpr (DL.wp_eqn (hr1)) ?_ | with_reducible refine Eq.mpr (DL.wp_ofOs (hr1)) ?_ | walk_at "ev1")
    refine ⟨by rw [rangeL_len]; have := sizeLine_eq; omega, ?_⟩
    refine lc_inv (fun i acc _ => ∃ ts : List Tab, acc = ts.map tb ∧ GT ts ∧ ts.length = i) ⟨[], rfl, .nil, rfl⟩ ?_ ?_
    · rintro i d acc ω2 hd ⟨ts, rfl, h1, h2⟩
      obtain ⟨t, ω3, e3, ht⟩ := law_table_ok ω2
      refine ⟨_, rfl, ?_⟩
      repeat (first | with_reducible refine Eq.mpr (DL.wp_eqn (e3)) ?_ | with_reducible refine Eq.mpr (DL.wp_ofOs (e3)) ?_ | walk_at "ev1")
      exact ⟨ts ++ [t], by simp, h1.snoc ht, by simp [h2]⟩
    · rintro acc ω2 ⟨ts, rfl, h1, h2⟩
      rw [rangeL_len] at h2
      exact ⟨_, rfl, ts, h1, by omega, rfl⟩) ?_
  rintro f ω2 ⟨ts, h1, h2, rfl⟩
  refine Eq.mpr sw_seq ?_
  obtain ⟨d3, ω3, e3, hd3⟩ := of_ok ω2 [.str "left", .str "right", .str "round", .str "round"] (by simp) (by simp)
  obtain ⟨q, ω4, e4', hq⟩ := pick_nat ω3 2 (by omega) (by omega)
  have e4 : F_law_pick [.int 2] ω3 = .ok (.int (q : Nat)) ω4 := e4'
  have a4 : addD (.int 1) (.int (q : Nat)) = some (.int ((1 + q : Nat) : Int)) := addN 1 q
  refine sw.mono (P := fun f ω' => f = .nx [some .src, some (.d (.lst (ts.map tb))), some (.d d3), some (.d (.int (1 + q : Nat))), none] ∧ ω' = ω4) (by
    repeat (first | with_reducible refine Eq.mpr (DL.wp_eqn (e3)) ?_ | with_reducible refine Eq.mpr (DL.wp_ofOs (e3)) ?_ | with_reducible refine Eq.mpr (DL.wp_eqn (e4)) ?_ | with_reducible refine Eq.mpr (DL.wp_ofOs (e4)) ?_ | with_reducible refine Eq.mpr (DL.wp_eqn (a4)) ?_ | with_reducible refine Eq.mpr (DL.wp_ofOs (a4)) ?_ | walk_at "ev1")
    exact ⟨rfl, rfl⟩) ?_
  rintro f ω' ⟨rfl, rfl⟩
  have hb : d3 = sideS true ∨ d3 = sideS false ∨ d3 = .str "round" := by
    simp only [List.mem_cons, List.not_mem_nil, or_false] at hd3
    rcases hd3 with h | h | h | h
    · exact .inl h
    · exact .inr (.inl h)
    · exact .inr (.inr h)
    · exact .inr (.inr h)
  have side : ∀ b : Bool, eqD (sideS b) (.str "round") = some (.bl false) := fun b => by cases b <;> kernel_rfl
  have rnd : eqD (.str "round") (.str "round") = some (.bl true) := by kernel_rfl
  rcases hb with rfl | rfl | rfl
  · have lm : F_law_made [.lst (ts.map tb), sideS true] = .ok (wD ts (.side true)) () := law_made_ok ts (.side true) h1 trivial
    repeat (first | with_reducible refine Eq.mpr (DL.wp_eqn (side true)) ?_ | with_reducible refine Eq.mpr (DL.wp_ofOs (side true)) ?_ | with_reducible refine Eq.mpr (DL.wp_eqn (lm)) ?_ | with_reducible refine Eq.mpr (DL.wp_ofOs (lm)) ?_ | walk_at "ev1")
    exact ⟨ts, .side true, rfl, h1, trivial, by omega, trivial⟩
  · have lm : F_law_made [.lst (ts.map tb), sideS false] = .ok (wD ts (.side false)) () := law_made_ok ts (.side false) h1 trivial
    repeat (first | with_reducible refine Eq.mpr (DL.wp_eqn (side false)) ?_ | with_reducible refine Eq.mpr (DL.wp_ofOs (side false)) ?_ | with_reducible refine Eq.mpr (DL.wp_eqn (lm)) ?_ | with_reducible refine Eq.mpr (DL.wp_ofOs (lm)) ?_ | walk_at "ev1")
    exact ⟨ts, .side false, rfl, h1, trivial, by omega, trivial⟩
  · have hr := rg1_nat (1 + q) (by omega)
    repeat (first | with_reducible refine Eq.mpr (DL.wp_eqn (rnd)) ?_ | with_reducible refine Eq.mpr (DL.wp_ofOs (rnd)) ?_ | with_reducible refine Eq.mpr (DL.wp_eqn (hr)) ?_ | with_reducible refine Eq.mpr (DL.wp_ofOs (hr)) ?_ | walk_at "ev1")
    refine ⟨by rw [rangeL_len]; have := sizeLine_eq; omega, ?_⟩
    refine lc_inv (fun i acc _ => ∃ rs : List Tab, acc = rs.map tb ∧ GT rs ∧ rs.length = i) ⟨[], rfl, .nil, rfl⟩ ?_ ?_
    · rintro i d acc ω2 hd ⟨rs, rfl, g1, g2⟩
      obtain ⟨t, ω3, e3, ht⟩ := law_table_ok ω2
      refine ⟨_, rfl, ?_⟩
      repeat (first | with_reducible refine Eq.mpr (DL.wp_eqn (e3)) ?_ | with_reducible refine Eq.mpr (DL.wp_ofOs (e3)) ?_ | walk_at "ev1")
      exact ⟨rs ++ [t], by simp, g1.snoc ht, by simp [g2]⟩
    · rintro acc ω2 ⟨rs, rfl, g1, g2⟩
      rw [rangeL_len] at g2
      have ok : (PEnd.rnd rs).ok := ⟨fun z => by rw [z] at g2; simp at g2; omega, by omega, g1⟩
      have tp : un1 tupleD [.lst (rs.map tb)] = some (endD (.rnd rs)) := rfl
      repeat (first | with_reducible refine Eq.mpr (DL.wp_eqn (tp)) ?_ | with_reducible refine Eq.mpr (DL.wp_ofOs (tp)) ?_ | with_reducible refine Eq.mpr (DL.wp_eqn (law_made_ok ts (.rnd rs) h1 ok)) ?_ | with_reducible refine Eq.mpr (DL.wp_ofOs (law_made_ok ts (.rnd rs) h1 ok)) ?_ | walk_at "ev1")
      exact ⟨ts, .rnd rs, rfl, h1, ok, by omega, (show rs.length ≤ 2 by omega)⟩
theorem perm_erase {α : Type} : ∀ {xs : List α} {k : Nat} {y : α}, xs[k]? = some y → xs.Perm (y :: xs.eraseIdx k)
  | [], k, y, h => by simp at h
  | x :: xs, 0, y, h => by simp at h; subst h; exact .refl _
  | x :: xs, k + 1, y, h => by
    have h' : xs[k]? = some y := by simpa using h
    exact ((perm_erase h').cons x).trans (.swap y x _)
theorem pop_perm {r : Nat} {τ : Tau} (h0 : τ[0]? = some (some .src)) (hr : r ≠ 0) (h3 : 3 < τ.length) (hr3 : r ≠ 3) (hrl : r < τ.length) : ∀ (ks xs : List D) (ω : Src), ks.length = xs.length → xs.length ≤ 1000 →
    ∃ ys ω', popL (bName 3) (cW F_law_pick 0 (aCons (oLen r) aNil)) r τ ks xs ω = .ok ys ω' ∧ ys.Perm xs
  | [], xs, ω, hl, _ => by
    cases xs with
    | nil => exact ⟨[], ω, rfl, .refl _⟩
    | cons x xs => simp at hl
  | k :: ks, xs, ω, hl, hb => by
    have hx : 1 ≤ xs.length := by rw [← hl]; simp
    obtain ⟨z, ω1, e, z0, z1⟩ := pick_ok ω (xs.length : Int) (by omega) (by omega)
    obtain ⟨n, rfl⟩ : ∃ n : Nat, z = (n : Int) := ⟨z.toNat, by omega⟩
    have hn : n < xs.length := by omega
    have hy : xs[n]? = some xs[n] := List.getElem?_eq_getElem hn
    obtain ⟨ys, ω2, e2, p2⟩ := pop_perm h0 hr h3 hr3 hrl ks (xs.eraseIdx n) ω1 (by rw [List.length_eraseIdx, if_pos hn]; simp at hl; omega) (by have := mem_eraseIdx_len xs n; omega)
    refine ⟨xs[n] :: ys, ω2, ?_, (p2.cons _).trans (perm_erase hy).symm⟩
    unfold popL
    have e3 : (cW F_law_pick 0 (aCons (oLen r) aNil)) ((τ.set r (some (.ow .L xs))).set 3 (some (.d k))) ω = .ok (.int (n : Int)) ω1 := by
      unfold cW
      rw [List.getElem?_set_ne (by omega), List.getElem?_set_ne hr, h0]
      unfold aCons oLen aNil
      have : ((τ.set r (some (.ow .L xs))).set 3 (some (.d k)))[r]? = some (some (.ow .L xs)) := by
        rw [List.getElem?_set_ne (by omega)]; exact List.getElem?_set_self hrl
      simp only [this, R.bind_ok, e, nox_ok]
    simp only [bName, e3, nox_ok, R.bind_ok]
    show (match (if n < 1000000 then xs[n]? else none) with | some y => _ | none => _) = _
    rw [if_pos (by omega), hy]
    simp only [e2, R.bind_ok]
theorem rg1_len (ds : List D) (hb : ds.length ≤ 1000) : rg1 [.int (ds.length : Nat)] = some (rangeL 0 1 ds.length) := by
  unfold rg1
  dsimp only
  rw [if_pos ⟨by omega, by omega⟩, Int.toNat_natCast]
theorem mixed_ok (ω : Src) (ds : List D) (hb : ds.length ≤ 1000) : ∃ es ω', F_law_mixed [.lst ds] ω = .ok (.lst es) ω' ∧ es.Perm ds := by
  obtain ⟨ys, ω', e, p⟩ := pop_perm (r := 2) (τ := wipeT [some .src, some (.d (.lst ds)), some (.ow .L ds), none] [3]) rfl (by omega) (by show 3 < 4; omega) (by omega) (by show 2 < 4; omega) (rangeL 0 1 ds.length) ds ω (rangeL_len _ _ _) hb
  refine ⟨ys, ω', ?_, p⟩
  unfold F_law_mixed B_law_mixed
  have hs : startT 4 (.src :: [D.lst ds].map .d) = [some .src, some (.d (.lst ds)), none, none] := rfl
  have e1 : sSetO (eLst1 (eVar 1)) 2 [some Cell.src, some (.d (.lst ds)), none, none] ω = some (.nx [some .src, some (.d (.lst ds)), some (.ow .L ds), none], ω) := rfl
  have hi : iRg rg1 (aCons (oLen 2) aNil) [some Cell.src, some (.d (.lst ds)), some (.ow .L ds), none] ω = .ok (rangeL 0 1 ds.length) ω := by
    refine R.wp.eq ?_
    repeat (first | with_reducible refine Eq.mpr (DL.wp_eqn (rg1_len ds hb)) ?_ | with_reducible refine Eq.mpr (DL.wp_ofOs (rg1_len ds hb)) ?_ | walk_at "ev1")
    exact ⟨rfl, rfl⟩
  rw [hs, runS_rt ((sSeq_nx e1).trans (sRetPop_eq rfl hi (by rw [rangeL_len]; exact sl_le hb) e)), nox_ok]
theorem wp_eAndI {Ω : Type} {a b : E Ω D} {τ : Tau} {ω : Ω} {P : D → Ω → Prop} {X} (h : (a τ ω).wp (fun x ω1 => (x = .bl true ∧ (b τ ω1).wp P X) ∨ (x = .bl false ∧ P (.bl false) ω1)) X) : (eAnd a b τ ω).wp P X := by
  unfold eAnd
  rw [wp_bind]
  refine h.mono fun x ω1 hx => ?_
  rcases hx with ⟨rfl, hx⟩ | ⟨rfl, hx⟩
  · exact hx
  · with_unfolding_all exact hx
def PEnd.same : PEnd → PEnd → Bool
  | .side a, .side b => decide (a = b)
  | .rnd a, .rnd b => decide (a = b)
  | _, _ => false
theorem eq_tt {a b : List Tab} (h : ∀ t ∈ b, WT t ∧ bsz t ≤ 16) : eqD (.tup (a.map tb)) (.tup (b.map tb)) = some (.bl (decide (a = b))) := by
  have hd : depL b ≤ 102 := depL_le fun t ht => by
    have := dep_tab (h t ht).1
    have := (h t ht).2
    omega
  exact eqD_enc (α := List Tab) a b (.inr (show depL b + 1 ≤ 150 by omega))
theorem eq_sides (a b : Bool) : eqD (sideS a) (sideS b) = some (.bl (decide (a = b))) := by cases a <;> cases b <;> kernel_rfl
theorem eq_sd_tp (a : Bool) (rs : List Tab) (h : ∀ t ∈ rs, WT t ∧ bsz t ≤ 16) : eqD (sideS a) (.tup (rs.map tb)) = some (.bl false) := by
  have e : (D.tup (rs.map tb)).py = some (.tuple (rs.map Enc.py)) := Enc.e1 rs
  have l : (PyData.tuple (rs.map Enc.py)).canLay0 = true := Enc.e3 rs
  have hs : ∃ x : Str, sideS a = .str x ∧ PyData.strOk x = true := by cases a <;> exact ⟨_, rfl, strOk_ofString _⟩
  obtain ⟨x, hx, hok⟩ := hs
  rw [hx]
  unfold eqD eqB
  rw [e]
  simp only [D.py]
  rw [if_pos ⟨by simp only [PyData.canLay0]; exact hok, l, by simp only [PyData.depth]; omega⟩]
  simp only [PyData.eqv, Option.map_some]
theorem eq_endD (e e' : PEnd) (h : e.ok) (h' : e'.ok) : eqD (endD e) (endD e') = some (.bl (e.same e')) := by
  cases e with
  | side a =>
    cases e' with
    | side b => exact eq_sides a b
    | rnd rs => exact eq_sd_tp a rs h'.2.2
  | rnd qs =>
    cases e' with
    | side b => cases b
                · exact eq_ts qs _ (strOk_ofString _)
                · exact eq_ts qs _ (strOk_ofString _)
    | rnd rs => exact eq_tt h'.2.2
theorem plan_eq_ok {ts us : List Tab} {e e' : PEnd} (h : GT us) (he : e.ok) (he' : e'.ok) : F_Plan_eq [plD ts e, plD us e'] = .ok (.bl (decide (ts = us) && e.same e')) () := by
  apply R.wp.equ
  unfold F_Plan_eq B_Plan_eq
  have e1 : eqD (.tup (ts.map tb)) (.tup (us.map tb)) = some (.bl (decide (ts = us))) := eq_tt h
  have e2 : eqD (endD e) (endD e') = some (.bl (e.same e')) := eq_endD e e' he he'
  have i1 : isiA (plD us e') = some (.bl true) := rfl
  have l1 : ∀ (ts : List Tab) e, List.lookup ("_tables" : Str) ([("_tables" : Str), "_end"].zip [D.tup (ts.map tb), endD e]) = some (D.tup (ts.map tb)) := by intro ts e; kernel_rfl
  have l2 : ∀ (ts : List Tab) e, List.lookup ("_end" : Str) ([("_tables" : Str), "_end"].zip [D.tup (ts.map tb), endD e]) = some (endD e) := by intro ts e; kernel_rfl
  have hs0 : startT 2 ([plD ts e, plD us e'].map Cell.d) = [some (.d (plD ts e)), some (.d (plD us e'))] := rfl
  rw [hs0]
  refine Eq.mpr wp_nox ?_
  refine Eq.mpr wp_runS ?_
  repeat walk_at "ev1"
  refine wp_eAndI ?_
  repeat (first | with_reducible refine Eq.mpr (DL.wp_eqn (i1)) ?_ | with_reducible refine Eq.mpr (DL.wp_ofOs (i1)) ?_ | walk_at "ev1")
  refine .inl ⟨rfl, ?_⟩
  refine wp_eAndI ?_
  repeat walk_at "ev1"
  refine Eq.mpr wp_eFld ?_
  repeat walk_at "ev1"
  refine ⟨_, _, rfl, ?_⟩
  rw [l1]
  repeat walk_at "ev1"
  refine Eq.mpr wp_eFld ?_
  repeat walk_at "ev1"
  refine ⟨_, _, rfl, ?_⟩
  rw [l1]
  repeat (first | with_reducible refine Eq.mpr (DL.wp_eqn (e1)) ?_ | with_reducible refine Eq.mpr (DL.wp_ofOs (e1)) ?_ | walk_at "ev1")
  by_cases c : ts = us
  · refine .inl ⟨by rw [decide_eq_true c], ?_⟩
    repeat walk_at "ev1"
    refine Eq.mpr wp_eFld ?_
    repeat walk_at "ev1"
    refine ⟨_, _, rfl, ?_⟩
    rw [l2]
    repeat walk_at "ev1"
    refine Eq.mpr wp_eFld ?_
    repeat walk_at "ev1"
    refine ⟨_, _, rfl, ?_⟩
    rw [l2]
    repeat (first | with_reducible refine Eq.mpr (DL.wp_eqn (e2)) ?_ | with_reducible refine Eq.mpr (DL.wp_ofOs (e2)) ?_ | walk_at "ev1")
    rw [decide_eq_true c, Bool.true_and]
  · refine .inr ⟨by rw [decide_eq_false c], ?_⟩
    show D.bl false = _
    rw [decide_eq_false c, Bool.false_and]
theorem items_l (ts : List Tab) : (D.lst (ts.map tb)).itemsS.map (enumL 0) = some (enumL 0 (ts.map tb)) := rfl
theorem fwt_okL (ts : List Tab) (h : ∀ t ∈ ts, WT t ∧ bsz t ≤ 60) : F_first_wrong_table [.lst (ts.map tb)] = .ok .non () := by
  apply R.wp.equ
  unfold F_first_wrong_table B_first_wrong_table
  have hs0 : startT 4 ([D.lst (ts.map tb)].map Cell.d) = [some (.d (.lst (ts.map tb))), none, none, none] := rfl
  rw [hs0]
  repeat walk_at "ev1"
  refine Eq.mpr wp_en ?_
  repeat (first | with_reducible refine Eq.mpr (DL.wp_eqn (items_l ts)) ?_ | with_reducible refine Eq.mpr (DL.wp_ofOs (items_l ts)) ?_ | walk_at "ev1")
  refine loop_inv (fun i τ _ => ∃ a b c, τ = [some (.d (.lst (ts.map tb))), a, b, c]) ⟨_, _, _, rfl⟩ ?_ ?_
  · rintro i d τ ω hd ⟨a, b, c, rfl⟩
    obtain ⟨x, hx, rfl⟩ := enumL_get _ _ _ _ hd
    obtain ⟨t, ht, rfl⟩ := List.mem_map.mp (List.mem_of_getElem? hx)
    refine ⟨_, rfl, ?_⟩
    repeat (first | with_reducible refine Eq.mpr (DL.wp_eqn (wtp_ok t (h t ht).1 (h t ht).2)) ?_ | with_reducible refine Eq.mpr (DL.wp_ofOs (wtp_ok t (h t ht).1 (h t ht).2)) ?_ | with_reducible refine Eq.mpr (DL.wp_eqn (notN)) ?_ | with_reducible refine Eq.mpr (DL.wp_ofOs (notN)) ?_ | walk_at "ev1")
    exact ⟨_, _, _, rfl⟩
  · rintro τ ω ⟨a, b, c, rfl⟩
    repeat walk_at "ev1"
    rfl
theorem isi_ll (ds : List D) : isi2D "list" "tuple" (.lst ds) = some (.bl true) := by kernel_rfl
theorem wpp_okL (ts : List Tab) (e : PEnd) (h : GT ts) (he : e.ok) : F_wrong_plan_path [.lst (ts.map tb), endD e] = .ok .non () := by
  apply R.wp.equ
  unfold F_wrong_plan_path B_wrong_plan_path
  have hs0 : startT 3 ([D.lst (ts.map tb), endD e].map Cell.d) = [some (.d (.lst (ts.map tb))), some (.d (endD e)), none] := rfl
  rw [hs0]
  cases e with
  | side b =>
    have e1 : eqD (endD (.side b)) (.str "left") = some (.bl b) := eq_left b
    have e2 : eqD (endD (.side b)) (.str "right") = some (.bl (!b)) := eq_rt b
    cases b with
    | true =>
      repeat (first | with_reducible refine Eq.mpr (DL.wp_eqn (isi_ll _)) ?_ | with_reducible refine Eq.mpr (DL.wp_ofOs (isi_ll _)) ?_ | with_reducible refine Eq.mpr (DL.wp_eqn (fwt_okL ts h.le)) ?_ | with_reducible refine Eq.mpr (DL.wp_ofOs (fwt_okL ts h.le)) ?_ | with_reducible refine Eq.mpr (DL.wp_eqn (notN)) ?_ | with_reducible refine Eq.mpr (DL.wp_ofOs (notN)) ?_ | with_reducible refine Eq.mpr (DL.wp_eqn (e1)) ?_ | with_reducible refine Eq.mpr (DL.wp_ofOs (e1)) ?_ | walk_at "ev1")
      rfl
    | false =>
      repeat (first | with_reducible refine Eq.mpr (DL.wp_eqn (isi_ll _)) ?_ | with_reducible refine Eq.mpr (DL.wp_ofOs (isi_ll _)) ?_ | with_reducible refine Eq.mpr (DL.wp_eqn (fwt_okL ts h.le)) ?_ | with_reducible refine Eq.mpr (DL.wp_ofOs (fwt_okL ts h.le)) ?_ | with_reducible refine Eq.mpr (DL.wp_eqn (notN)) ?_ | with_reducible refine Eq.mpr (DL.wp_ofOs (notN)) ?_ | with_reducible refine Eq.mpr (DL.wp_eqn (e1)) ?_ | with_reducible refine Eq.mpr (DL.wp_ofOs (e1)) ?_ | with_reducible refine Eq.mpr (DL.wp_eqn (e2)) ?_ | with_reducible refine Eq.mpr (DL.wp_ofOs (e2)) ?_ | walk_at "ev1")
      rfl
  | rnd rs =>
    obtain ⟨r0, r1, r2⟩ := he
    have e1 : eqD (endD (.rnd rs)) (.str "left") = some (.bl false) := eq_ts rs _ (strOk_ofString _)
    have e2 : eqD (endD (.rnd rs)) (.str "right") = some (.bl false) := eq_ts rs _ (strOk_ofString _)
    have e3 : isiD "tuple" (endD (.rnd rs)) = some (.bl true) := isi_tup _
    have e4 : un1 lenD [endD (.rnd rs)] = some (.int (rs.length : Nat)) := len_tp rs
    have hp := List.length_pos_iff.mpr r0
    have e5 : eqD (.int (rs.length : Nat)) (.int 0) = some (.bl false) := by
      rw [eqD_int]; exact congrArg (fun b => some (D.bl b)) (decide_eq_false (by omega))
    have e6 : F_first_wrong_table [endD (.rnd rs)] = .ok .non () := fwt_ok rs r2.le
    repeat (first | with_reducible refine Eq.mpr (DL.wp_eqn (isi_ll _)) ?_ | with_reducible refine Eq.mpr (DL.wp_ofOs (isi_ll _)) ?_ | with_reducible refine Eq.mpr (DL.wp_eqn (fwt_okL ts h.le)) ?_ | with_reducible refine Eq.mpr (DL.wp_ofOs (fwt_okL ts h.le)) ?_ | with_reducible refine Eq.mpr (DL.wp_eqn (notN)) ?_ | with_reducible refine Eq.mpr (DL.wp_ofOs (notN)) ?_ | with_reducible refine Eq.mpr (DL.wp_eqn (e1)) ?_ | with_reducible refine Eq.mpr (DL.wp_ofOs (e1)) ?_ | with_reducible refine Eq.mpr (DL.wp_eqn (e2)) ?_ | with_reducible refine Eq.mpr (DL.wp_ofOs (e2)) ?_ | with_reducible refine Eq.mpr (DL.wp_eqn (e3)) ?_ | with_reducible refine Eq.mpr (DL.wp_ofOs (e3)) ?_ | with_reducible refine Eq.mpr (DL.wp_eqn (e4)) ?_ | with_reducible refine Eq.mpr (DL.wp_ofOs (e4)) ?_ | with_reducible refine Eq.mpr (DL.wp_eqn (e5)) ?_ | with_reducible refine Eq.mpr (DL.wp_ofOs (e5)) ?_ | with_reducible refine Eq.mpr (DL.wp_eqn (e6)) ?_ | with_reducible refine Eq.mpr (DL.wp_ofOs (e6)) ?_ | walk_at "ev1")
    rfl
theorem plan_okL (ts : List Tab) (e : PEnd) (h : GT ts) (he : e.ok) : F_Plan_init [.lst (ts.map tb), endD e] = .ok [.tup (ts.map tb), endD e] () := by
  apply R.wp.equ
  unfold F_Plan_init B_Plan_init
  refine Eq.mpr wp_runI ?_
  have hs0 : startT 4 (.src :: [D.lst (ts.map tb), endD e].map Cell.d) = [some .src, some (.d (.lst (ts.map tb))), some (.d (endD e)), none] := rfl
  rw [hs0]
  refine si_seq ?_
  repeat (first | with_reducible refine Eq.mpr (DL.wp_eqn (wpp_okL ts e h he)) ?_ | with_reducible refine Eq.mpr (DL.wp_ofOs (wpp_okL ts e h he)) ?_ | walk_at "ev1")
  refine ⟨_, rfl, rfl, ?_⟩
  refine si_seq ?_
  repeat (first | with_reducible refine Eq.mpr (DL.wp_eqn (notN)) ?_ | with_reducible refine Eq.mpr (DL.wp_ofOs (notN)) ?_ | walk_at "ev1")
  refine ⟨_, rfl, rfl, ?_⟩
  refine si_two ?_
  have ht : un1 tupleD [.lst (ts.map tb)] = some (.tup (ts.map tb)) := rfl
  repeat (first | with_reducible refine Eq.mpr (DL.wp_eqn (ht)) ?_ | with_reducible refine Eq.mpr (DL.wp_ofOs (ht)) ?_ | walk_at "ev1")
  rfl
theorem gd_tab16 {t : Tab} (hw : WT t) (hz : bsz t ≤ 16) : Gd (Enc.py t) 4000 20 := by
  have g : Gd (.tuple (t.map Sh.py)) _ _ := Gd.tup (b := 14 * 16) (d := 16) (xs := t) fun s hs => by
    obtain ⟨i, hi, e⟩ := List.mem_iff_getElem.mp hs
    have := hw.2 i s (by rw [List.getElem?_eq_getElem hi, e])
    unfold bsz at hz
    exact (Gd.shp s).le (by omega) (by omega)
  refine g.le ?_ (by omega)
  have : t.length * (14 * 16 + 2) ≤ 16 * (14 * 16 + 2) := Nat.mul_le_mul_right _ (by unfold bsz at hz; omega)
  omega
theorem gd_tp {qs : List Tab} (h : GT qs) (hl : qs.length ≤ 30) : Gd (.tuple (qs.map Enc.py)) 150000 21 := by
  have g : Gd (.tuple (qs.map Enc.py)) _ _ := Gd.tup (b := 4000) (d := 20) fun t ht => gd_tab16 (h t ht).1 (h t ht).2
  refine g.le ?_ (by omega)
  have : qs.length * (4000 + 2) ≤ 30 * (4000 + 2) := Nat.mul_le_mul_right _ hl
  omega
theorem gd_end {f : PEnd} (h : f.ok) : ∃ p, (endD f).py = some p ∧ Gd p 150000 21 := by
  cases f with
  | side b =>
    cases b
    · refine ⟨_, rfl, ⟨by simp only [PyData.showable], by simp only [PyData.canLay0]; exact strOk_ofString _, by simp only [PyData.depth]; omega, by simp only [PyData.shown]; kernel_rfl, ?_⟩⟩
      refine Nat.le_of_ble_eq_true ?_
      simp only [PyData.shown]
      kernel_rfl
    · refine ⟨_, rfl, ⟨by simp only [PyData.showable], by simp only [PyData.canLay0]; exact strOk_ofString _, by simp only [PyData.depth]; omega, by simp only [PyData.shown]; kernel_rfl, ?_⟩⟩
      refine Nat.le_of_ble_eq_true ?_
      simp only [PyData.shown]
      kernel_rfl
  | rnd rs => exact ⟨_, Enc.e1 rs, gd_tp h.2.2 (by have := h.2.1; omega)⟩
theorem repr_pair {qs : List Tab} {f : PEnd} (h : GT qs) (hl : qs.length ≤ 30) (hf : f.ok) : ∃ z : Str, un1 DL.reprD [.lst [.tup (qs.map tb), endD f]] = some (.str z) ∧ neD (.str z) (.str z) = some (.bl false) := by
  obtain ⟨p, e, g⟩ := gd_end hf
  have e1 : (D.tup (qs.map tb)).py = some (.tuple (qs.map Enc.py)) := Enc.e1 qs
  have g2 : Gd (.list ([PyData.tuple (qs.map Enc.py), p].map fun p => p)) _ _ := Gd.lst (f := fun p : PyData => p) (b := 150000) (d := 21) fun x hx => by
    simp only [List.mem_cons, List.not_mem_nil, or_false] at hx
    rcases hx with rfl | rfl
    · exact gd_tp h hl
    · exact g
  have e2 : (D.lst [.tup (qs.map tb), endD f]).py = some (.list [PyData.tuple (qs.map Enc.py), p]) := by
    rw [D.py, D.pyL, e1, D.pyL, e, D.pyL]
    rfl
  have r := g2.reprD (.inr ⟨_, rfl⟩) e2 (by simp only [List.length_cons, List.length_nil]; omega) (by omega)
  exact ⟨_, r, str_ne_same _ g2.ok⟩
theorem eqv_pair (a b c d : PyData) : PyData.eqv (.tuple [a, b]) (.tuple [c, d]) = (PyData.eqv a c && PyData.eqv b d) := by
  simp only [PyData.eqv, PyData.eqvAll, Bool.and_true]
theorem eqD_pair {a b c d : D} {pa pb pc pd : PyData} {x y : Bool} (ea : a.py = some pa) (eb : b.py = some pb) (ec : c.py = some pc) (ed : d.py = some pd) (dc : pc.depth ≤ 149) (dd : pd.depth ≤ 149)
    (h1 : eqD a c = some (.bl x)) (h2 : eqD b d = some (.bl y)) : eqD (.tup [a, b]) (.tup [c, d]) = some (.bl (x && y)) := by
  unfold eqD eqB at h1 h2
  rw [ea, ec] at h1
  rw [eb, ed] at h2
  dsimp only at h1 h2
  split at h1
  case isFalse => cases h1
  split at h2
  case isFalse => cases h2
  rename_i c1 c2
  have h1 := D.bl.inj (Option.some.inj h1)
  have h2 := D.bl.inj (Option.some.inj h2)
  have p1 : (D.tup [a, b]).py = some (.tuple [pa, pb]) := by rw [D.py, D.pyL, ea, D.pyL, eb, D.pyL]; rfl
  have p2 : (D.tup [c, d]).py = some (.tuple [pc, pd]) := by rw [D.py, D.pyL, ec, D.pyL, ed, D.pyL]; rfl
  unfold eqD eqB
  rw [p1, p2]
  dsimp only
  rw [if_pos ⟨by simp only [PyData.canLay0, PyData.canLayAll0, c1.1, c2.1, Bool.and_true], by simp only [PyData.canLay0, PyData.canLayAll0, c1.2.1, c2.2.1, Bool.and_true], by simp only [PyData.depth, PyData.depthAll]; omega⟩, eqv_pair, h1, h2]
  rfl
theorem eq_forms {qs us : List Tab} {f g : PEnd} (h : GT us) (hl : us.length ≤ 30) (hf : f.ok) (hg : g.ok) : eqD (.tup [.tup (qs.map tb), endD f]) (.tup [.tup (us.map tb), endD g]) = some (.bl (decide (qs = us) && f.same g)) := by
  obtain ⟨p, e, _⟩ := gd_end hf
  obtain ⟨q, e2, g2⟩ := gd_end hg
  exact eqD_pair (Enc.e1 qs) e (Enc.e1 us) e2 (Nat.le_trans (gd_tp h hl).dp (by omega)) (Nat.le_trans g2.dp (by omega)) (eq_tt h) (eq_endD f g hf hg)
theorem ne_of_eq {a b : D} {c : Bool} (h : eqD a b = some (.bl c)) : neD a b = some (.bl (!c)) := by
  unfold eqD at h
  unfold neD
  cases e : eqB a b with
  | none => rw [e] at h; cases h
  | some x =>
    rw [e] at h
    cases h
    rfl
theorem wp_lrg1 {Ω : Type} {a : E Ω D} {τ : Tau} {ω : Ω} {P : List D → Ω → Prop} {X : Exn → Ω → Prop} (n : Nat) (hn : n ≤ 100000) (h : (a τ ω).wp (fun x ω1 => x = .int (n : Nat) ∧ P (rangeL 0 1 n) ω1) X) : (eLRg (rRg1 a) τ ω).wp P X := by
  unfold eLRg rRg1
  rw [wp_bind, wp_bind]
  refine h.mono ?_
  rintro x ω1 ⟨rfl, h⟩
  refine Eq.mpr wp_ok ?_
  dsimp only
  rw [if_pos (by omega), show ((n : Int) - 0).toNat = n by omega]
  exact Eq.mpr wp_ok h
theorem repr_none : ∃ z : Str, un1 DL.reprD [.non] = some (.str z) ∧ neD (.str z) (.str z) = some (.bl false) := ⟨Str.ofString "None", by kernel_rfl, by kernel_rfl⟩
theorem wp_dgT {ts : List Tab} {e : PEnd} {Ω : Type} {τ : Tau} {ω : Ω} {P : D → Ω → Prop} {X : Exn → Ω → Prop} {i : Nat} (h : τ[i]? = some (some (.d (wD ts e)))) (k : P (.tup (ts.map tb)) ω) : (eDgK (pK i) (eC (.str "tables")) τ ω).wp P X := by
  refine wp_dgK (ks := [.inr "tables", .inr "end", .inr "plan"]) (ds := [.tup (ts.map tb), endD e, plD ts e]) (fun ω => by unfold pK; rw [h]) ?_
  repeat walk_at "ev1"
  exact ⟨.inr "tables", _, rfl, by kernel_rfl, k⟩
theorem wp_dgE {ts : List Tab} {e : PEnd} {Ω : Type} {τ : Tau} {ω : Ω} {P : D → Ω → Prop} {X : Exn → Ω → Prop} {i : Nat} (h : τ[i]? = some (some (.d (wD ts e)))) (k : P (endD e) ω) : (eDgK (pK i) (eC (.str "end")) τ ω).wp P X := by
  refine wp_dgK (ks := [.inr "tables", .inr "end", .inr "plan"]) (ds := [.tup (ts.map tb), endD e, plD ts e]) (fun ω => by unfold pK; rw [h]) ?_
  repeat walk_at "ev1"
  exact ⟨.inr "end", _, rfl, by kernel_rfl, k⟩
theorem wp_own {Ω : Type} {F : List D → R Unit D} {neg : Bool} {a b : E Ω D} {τ : Tau} {ω : Ω} {P : D → Ω → Prop} {X : Exn → Ω → Prop} (h : (a τ ω).wp (fun x ω1 => (b τ ω1).wp (fun y ω2 => ∃ fs ds c, x = .ins fs ds ∧ yk y = true ∧ F [.ins fs ds, y] = .ok (.bl c) () ∧ P (.bl (if neg then !c else c)) ω2) X) X) : (eOwnC F neg a b τ ω).wp P X := by
  unfold eOwnC
  rw [wp_bind]
  refine h.mono ?_
  intro x ω1 h1
  rw [wp_bind]
  refine h1.mono ?_
  rintro y ω2 ⟨fs, ds, c, rfl, hy, e, p⟩
  dsimp only
  rw [if_pos hy, e]
  show (R.ok (D.bl (if neg = true then !c else c)) ω2).wp P X
  rw [wp_ok]
  exact p
theorem wp_dgP {ts : List Tab} {e : PEnd} {Ω : Type} {τ : Tau} {ω : Ω} {P : D → Ω → Prop} {X : Exn → Ω → Prop} {i : Nat} (h : τ[i]? = some (some (.d (wD ts e)))) (k : P (plD ts e) ω) : (eDgK (pK i) (eC (.str "plan")) τ ω).wp P X := by
  refine wp_dgK (ks := [.inr "tables", .inr "end", .inr "plan"]) (ds := [.tup (ts.map tb), endD e, plD ts e]) (fun ω => by unfold pK; rw [h]) ?_
  repeat walk_at "ev1"
  exact ⟨.inr "plan", _, rfl, by kernel_rfl, k⟩
theorem plan_stage_any (ts : List Tab) (e : PEnd) (he : e.ok) (k : Nat) : F_Plan_stage [plD ts e, .int (k : Nat)] = .ok (optT (stg ts e k)) () := by
  apply R.wp.equ
  unfold F_Plan_stage B_Plan_stage
  have hs0 : startT 2 ([plD ts e, D.int (k : Nat)].map Cell.d) = [some (.d (plD ts e)), some (.d (.int (k : Nat)))] := rfl
  rw [hs0]
  have f1 := fld1 (.tup (ts.map tb)) (endD e) (some (.d (.int (k : Nat))))
  have f2 := fld2 (.tup (ts.map tb)) (endD e) (some (.d (.int (k : Nat))))
  have hl := len_tp ts
  repeat (first | with_reducible refine Eq.mpr (DL.wp_eqn (f1)) ?_ | with_reducible refine Eq.mpr (DL.wp_ofOs (f1)) ?_ | with_reducible refine Eq.mpr (DL.wp_eqn (hl)) ?_ | with_reducible refine Eq.mpr (DL.wp_ofOs (hl)) ?_ | walk_at "ev1")
  by_cases h : k < ts.length
  · refine iteP (decide_eq_true (Int.ofNat_lt.mpr h)) ?_
    have hx := ix_tp (List.getElem?_eq_getElem h)
    repeat (first | with_reducible refine Eq.mpr (DL.wp_eqn (f1)) ?_ | with_reducible refine Eq.mpr (DL.wp_ofOs (f1)) ?_ | with_reducible refine Eq.mpr (DL.wp_eqn (hx)) ?_ | with_reducible refine Eq.mpr (DL.wp_ofOs (hx)) ?_ | walk_at "ev1")
    unfold stg
    rw [if_pos h, List.getElem?_eq_getElem h]
    rfl
  · refine iteN (by rw [decide_eq_true_eq]; omega) ?_
    cases e with
    | side b =>
      have hs : isiD "str" (endD (.side b)) = some (.bl true) := isi_side b
      repeat (first | with_reducible refine Eq.mpr (DL.wp_eqn (f2)) ?_ | with_reducible refine Eq.mpr (DL.wp_ofOs (f2)) ?_ | with_reducible refine Eq.mpr (DL.wp_eqn (hs)) ?_ | with_reducible refine Eq.mpr (DL.wp_ofOs (hs)) ?_ | walk_at "ev1")
      unfold stg
      rw [if_neg h]
      rfl
    | rnd rs =>
      have hp := List.length_pos_iff.mpr he.1
      have hs : isiD "str" (endD (.rnd rs)) = some (.bl false) := isi_notstr _
      have s1 := subN k ts.length (by omega)
      have l2 : un1 lenD [endD (.rnd rs)] = some (.int (rs.length : Nat)) := len_tp rs
      have m1 := modN (k - ts.length) rs.length hp
      have hlt : (k - ts.length) % rs.length < rs.length := Nat.mod_lt _ hp
      have hx : ixD (endD (.rnd rs)) (.int ((k - ts.length) % rs.length : Nat)) = some (tb rs[(k - ts.length) % rs.length]) := ix_tp (List.getElem?_eq_getElem hlt)
      repeat (first | with_reducible refine Eq.mpr (DL.wp_eqn (f2)) ?_ | with_reducible refine Eq.mpr (DL.wp_ofOs (f2)) ?_ | with_reducible refine Eq.mpr (DL.wp_eqn (hs)) ?_ | with_reducible refine Eq.mpr (DL.wp_ofOs (hs)) ?_ | with_reducible refine Eq.mpr (DL.wp_eqn (f1)) ?_ | with_reducible refine Eq.mpr (DL.wp_ofOs (f1)) ?_ | with_reducible refine Eq.mpr (DL.wp_eqn (hl)) ?_ | with_reducible refine Eq.mpr (DL.wp_ofOs (hl)) ?_ | with_reducible refine Eq.mpr (DL.wp_eqn (s1)) ?_ | with_reducible refine Eq.mpr (DL.wp_ofOs (s1)) ?_ | with_reducible refine Eq.mpr (DL.wp_eqn (l2)) ?_ | with_reducible refine Eq.mpr (DL.wp_ofOs (l2)) ?_ | with_reducible refine Eq.mpr (DL.wp_eqn (m1)) ?_ | with_reducible refine Eq.mpr (DL.wp_ofOs (m1)) ?_ | with_reducible refine Eq.mpr (DL.wp_eqn (hx)) ?_ | with_reducible refine Eq.mpr (DL.wp_ofOs (hx)) ?_ | walk_at "ev1")
      unfold stg
      rw [if_neg h]
      show _ = optT rs[(k - ts.length) % rs.length]?
      rw [List.getElem?_eq_getElem hlt]
      rfl
theorem law_stage_any (ts : List Tab) (e : PEnd) (he : e.ok) (k : Nat) : F_law_stage [wD ts e, .int (k : Nat)] = .ok (optT (stg ts e k)) () := by
  apply R.wp.equ
  unfold F_law_stage B_law_stage
  have hs0 : startT 2 ([wD ts e, D.int (k : Nat)].map Cell.d) = [some (.d (wD ts e)), some (.d (.int (k : Nat)))] := rfl
  rw [hs0]
  have f1 := dg1 (.tup (ts.map tb)) (endD e) (plD ts e) (some (.d (.int (k : Nat))))
  have f2 := dg2 (.tup (ts.map tb)) (endD e) (plD ts e) (some (.d (.int (k : Nat))))
  have hl := len_tp ts
  repeat (first | with_reducible refine Eq.mpr (DL.wp_eqn (f1)) ?_ | with_reducible refine Eq.mpr (DL.wp_ofOs (f1)) ?_ | with_reducible refine Eq.mpr (DL.wp_eqn (hl)) ?_ | with_reducible refine Eq.mpr (DL.wp_ofOs (hl)) ?_ | walk_at "ev1")
  by_cases h : k < ts.length
  · refine iteP (decide_eq_true (Int.ofNat_lt.mpr h)) ?_
    have hx := ix_tp (List.getElem?_eq_getElem h)
    repeat (first | with_reducible refine Eq.mpr (DL.wp_eqn (f1)) ?_ | with_reducible refine Eq.mpr (DL.wp_ofOs (f1)) ?_ | with_reducible refine Eq.mpr (DL.wp_eqn (hx)) ?_ | with_reducible refine Eq.mpr (DL.wp_ofOs (hx)) ?_ | walk_at "ev1")
    unfold stg
    rw [if_pos h, List.getElem?_eq_getElem h]
    rfl
  · refine iteN (by rw [decide_eq_true_eq]; omega) ?_
    cases e with
    | side b =>
      have hs : inTD (endD (.side b)) (.tup [.str "left", .str "right"]) = some (.bl true) := inT_side b
      repeat (first | with_reducible refine Eq.mpr (DL.wp_eqn (f2)) ?_ | with_reducible refine Eq.mpr (DL.wp_ofOs (f2)) ?_ | with_reducible refine Eq.mpr (DL.wp_eqn (hs)) ?_ | with_reducible refine Eq.mpr (DL.wp_ofOs (hs)) ?_ | walk_at "ev1")
      unfold stg
      rw [if_neg h]
      rfl
    | rnd rs =>
      have hp := List.length_pos_iff.mpr he.1
      have hs : inTD (endD (.rnd rs)) (.tup [.str "left", .str "right"]) = some (.bl false) := inT_rnd he.2.2 he.2.1
      have s1 := subN k ts.length (by omega)
      have l2 : un1 lenD [endD (.rnd rs)] = some (.int (rs.length : Nat)) := len_tp rs
      have m1 := modN (k - ts.length) rs.length hp
      have hlt : (k - ts.length) % rs.length < rs.length := Nat.mod_lt _ hp
      have hx : ixD (endD (.rnd rs)) (.int ((k - ts.length) % rs.length : Nat)) = some (tb rs[(k - ts.length) % rs.length]) := ix_tp (List.getElem?_eq_getElem hlt)
      have hi : un1 intD [.int ((k - ts.length : Nat) : Int)] = some (.int ((k - ts.length : Nat) : Int)) := rfl
      repeat (first | with_reducible refine Eq.mpr (DL.wp_eqn (f2)) ?_ | with_reducible refine Eq.mpr (DL.wp_ofOs (f2)) ?_ | with_reducible refine Eq.mpr (DL.wp_eqn (hs)) ?_ | with_reducible refine Eq.mpr (DL.wp_ofOs (hs)) ?_ | with_reducible refine Eq.mpr (DL.wp_eqn (f1)) ?_ | with_reducible refine Eq.mpr (DL.wp_ofOs (f1)) ?_ | with_reducible refine Eq.mpr (DL.wp_eqn (hl)) ?_ | with_reducible refine Eq.mpr (DL.wp_ofOs (hl)) ?_ | with_reducible refine Eq.mpr (DL.wp_eqn (s1)) ?_ | with_reducible refine Eq.mpr (DL.wp_ofOs (s1)) ?_ | with_reducible refine Eq.mpr (DL.wp_eqn (hi)) ?_ | with_reducible refine Eq.mpr (DL.wp_ofOs (hi)) ?_ | with_reducible refine Eq.mpr (DL.wp_eqn (l2)) ?_ | with_reducible refine Eq.mpr (DL.wp_ofOs (l2)) ?_ | with_reducible refine Eq.mpr (DL.wp_eqn (m1)) ?_ | with_reducible refine Eq.mpr (DL.wp_ofOs (m1)) ?_ | with_reducible refine Eq.mpr (DL.wp_eqn (hx)) ?_ | with_reducible refine Eq.mpr (DL.wp_ofOs (hx)) ?_ | walk_at "ev1")
      unfold stg
      rw [if_neg h]
      show _ = optT rs[(k - ts.length) % rs.length]?
      rw [List.getElem?_eq_getElem hlt]
      rfl
theorem same_iff (e g : PEnd) : e.same g = true ↔ e = g := by
  cases e <;> cases g <;> simp [PEnd.same]
theorem noLs_map {α : Type} (f : α → D) : ∀ xs : List α, (∀ x ∈ xs, D.noL (f x) = true) → D.noLs (xs.map f) = true
  | [], _ => rfl
  | x :: xs, h => by
    rw [List.map_cons, D.noLs, h x (List.mem_cons_self ..), noLs_map f xs fun y hy => h y (List.mem_cons_of_mem _ hy)]
    rfl
theorem noL_sh : ∀ s : Sh, D.noL s.enc = true
  | .o => rfl
  | .n a b => by
    show D.noL (.tup [a.enc, b.enc]) = true
    rw [D.noL, D.noLs, D.noLs, D.noLs, noL_sh a, noL_sh b]
    rfl
theorem noL_tab (t : Tab) : D.noL (tb t) = true := by
  show D.noL (.tup _) = true
  rw [D.noL]
  exact noLs_map _ _ fun s _ => noL_sh s
theorem noL_tabs (ts : List Tab) : D.noL (.tup (ts.map tb)) = true := by
  rw [D.noL]
  exact noLs_map _ _ fun t _ => noL_tab t
theorem noL_end (e : PEnd) : D.noL (endD e) = true := by
  cases e with
  | side b => cases b <;> rfl
  | rnd rs => exact noL_tabs rs
theorem noL_pl (ts : List Tab) (e : PEnd) : D.noL (plD ts e) = true := by
  show D.noL (.ins _ [.tup (ts.map tb), endD e]) = true
  rw [D.noL, D.noLs, D.noLs, D.noLs, noL_tabs, noL_end]
  rfl
theorem eq_not (ts : List Tab) (e : PEnd) (y : D) (h : isiA y = some (.bl false)) : F_Plan_eq [plD ts e, y] = .ok (.bl false) () := by
  apply R.wp.equ
  unfold F_Plan_eq B_Plan_eq
  have hs0 : startT 2 ([plD ts e, y].map Cell.d) = [some (.d (plD ts e)), some (.d y)] := rfl
  rw [hs0]
  refine Eq.mpr wp_nox ?_
  refine Eq.mpr wp_runS ?_
  repeat walk_at "ev1"
  refine wp_eAndI ?_
  repeat (first | with_reducible refine Eq.mpr (DL.wp_eqn (h)) ?_ | with_reducible refine Eq.mpr (DL.wp_ofOs (h)) ?_ | walk_at "ev1")
  exact .inr ⟨rfl, rfl⟩
theorem repr_opt (A : Option Tab) (h : ∀ t, A = some t → WT t ∧ bsz t ≤ 16) : ∃ z : Str, un1 DL.reprD [optT A] = some (.str z) ∧ neD (.str z) (.str z) = some (.bl false) := by
  cases A with
  | none => exact repr_none
  | some t =>
    obtain ⟨w, z⟩ := h t rfl
    have g := gd_tab16 w z
    have e : (tb t).py = some (Enc.py t) := Enc.e1 t
    have r := g.reprD (.inl ⟨_, rfl⟩) e (by omega) (by omega)
    exact ⟨_, r, str_ne_same _ g.ok⟩
theorem tables_ok (ts : List Tab) (e : PEnd) : F_Plan_tables [plD ts e] = .ok (.tup (ts.map tb)) () := by kernel_rfl
theorem end_ok (ts : List Tab) (e : PEnd) : F_Plan_end [plD ts e] = .ok (endD e) () := by kernel_rfl
/-- the law's numbers of stages -/
def nos : List Nat := List.range 20 ++ [59, 60, 10 ^ 30, 10 ^ 30 + 1, 10 ^ 30 + 2, 10 ^ 30 + 5]
theorem right_ok (ts : List Tab) (e : PEnd) (h : GT ts) (hl : ts.length ≤ 30) (he : e.ok) : F_law_plan_right [wD ts e, plD ts e] = .ok (.bl true) () := by
  have tk := tables_ok ts e
  have ek := end_ok ts e
  obtain ⟨z, r1, r2⟩ := repr_pair h hl he
  have hlk1 : List.lookup ("tables" : Str) ((["_tables", "_end"] : List Str).zip [D.tup (ts.map tb), endD e]) = none := by kernel_rfl
  have hlk2 : List.lookup ("end" : Str) ((["_tables", "_end"] : List Str).zip [D.tup (ts.map tb), endD e]) = none := by kernel_rfl
  have hlk3 : List.lookup ("stage" : Str) ((["_tables", "_end"] : List Str).zip [D.tup (ts.map tb), endD e]) = none := by kernel_rfl
  have pw : powD (.int 10) (.int 30) = some (.int (10 ^ 30 : Nat)) := by kernel_rfl
  have a1 : addD (.int (10 ^ 30 : Nat)) (.int 1) = some (.int (10 ^ 30 + 1 : Nat)) := addN _ 1
  have a2 : addD (.int (10 ^ 30 : Nat)) (.int 2) = some (.int (10 ^ 30 + 2 : Nat)) := addN _ 2
  have a5 : addD (.int (10 ^ 30 : Nat)) (.int 5) = some (.int (10 ^ 30 + 5 : Nat)) := addN _ 5
  have ad : addD (.lst (rangeL 0 1 20)) (.lst [.int 59, .int 60, .int (10 ^ 30 : Nat), .int (10 ^ 30 + 1 : Nat), .int (10 ^ 30 + 2 : Nat), .int (10 ^ 30 + 5 : Nat)]) = some (.lst (nos.map fun (k : Nat) => D.int (k : Int))) := by kernel_rfl
  have it : (D.lst (nos.map fun (k : Nat) => D.int (k : Int))).itemsS = some (nos.map fun (k : Nat) => D.int (k : Int)) := rfl
  apply R.wp.equ
  unfold F_law_plan_right B_law_plan_right
  have hs0 : startT 3 ([wD ts e, plD ts e].map Cell.d) = [some (.d (wD ts e)), some (.d (plD ts e)), none] := rfl
  rw [hs0]
  refine Eq.mpr wp_nox ?_
  refine Eq.mpr wp_runS ?_
  refine Eq.mpr sw_seq ?_
  refine sw.mono (P := fun f _ => f = .nx [some (.d (wD ts e)), some (.d (plD ts e)), none]) (by
    repeat walk_at "ev1"
    refine Eq.mpr wp_cM ?_
    repeat walk_at "ev1"
    refine ⟨_, _, rfl, hlk1, ?_⟩
    repeat (first | with_reducible refine Eq.mpr (DL.wp_eqn (tk)) ?_ | with_reducible refine Eq.mpr (DL.wp_ofOs (tk)) ?_ | walk_at "ev1")
    refine Eq.mpr wp_cM ?_
    repeat walk_at "ev1"
    refine ⟨_, _, rfl, hlk2, ?_⟩
    repeat (first | with_reducible refine Eq.mpr (DL.wp_eqn (ek)) ?_ | with_reducible refine Eq.mpr (DL.wp_ofOs (ek)) ?_ | with_reducible refine Eq.mpr (DL.wp_eqn (r1)) ?_ | with_reducible refine Eq.mpr (DL.wp_ofOs (r1)) ?_ | walk_at "ev1")
    refine wp_dgT rfl ?_
    repeat walk_at "ev1"
    refine wp_dgE rfl ?_
    repeat (first | with_reducible refine Eq.mpr (DL.wp_eqn (r1)) ?_ | with_reducible refine Eq.mpr (DL.wp_ofOs (r1)) ?_ | with_reducible refine Eq.mpr (DL.wp_eqn (r2)) ?_ | with_reducible refine Eq.mpr (DL.wp_ofOs (r2)) ?_ | walk_at "ev1")
    rfl) ?_
  rintro f _ rfl
  refine Eq.mpr sw_seq ?_
  refine sw.mono (P := fun f _ => ∃ c2, f = .nx [some (.d (wD ts e)), some (.d (plD ts e)), c2]) (by
    repeat walk_at "ev1"
    refine wp_lrg1 20 (by omega) ?_
    repeat walk_at "ev1"
    refine ⟨rfl, ?_⟩
    repeat (first | with_reducible refine Eq.mpr (DL.wp_eqn (pw)) ?_ | with_reducible refine Eq.mpr (DL.wp_ofOs (pw)) ?_ | with_reducible refine Eq.mpr (DL.wp_eqn (a1)) ?_ | with_reducible refine Eq.mpr (DL.wp_ofOs (a1)) ?_ | with_reducible refine Eq.mpr (DL.wp_eqn (a2)) ?_ | with_reducible refine Eq.mpr (DL.wp_ofOs (a2)) ?_ | with_reducible refine Eq.mpr (DL.wp_eqn (a5)) ?_ | with_reducible refine Eq.mpr (DL.wp_ofOs (a5)) ?_ | with_reducible refine Eq.mpr (DL.wp_eqn (ad)) ?_ | with_reducible refine Eq.mpr (DL.wp_ofOs (ad)) ?_ | with_reducible refine Eq.mpr (DL.wp_eqn (it)) ?_ | with_reducible refine Eq.mpr (DL.wp_ofOs (it)) ?_ | walk_at "ev1")
    refine loop_inv (fun i τ _ => ∃ c2, τ = [some (.d (wD ts e)), some (.d (plD ts e)), c2]) ⟨_, rfl⟩ ?_ ?_
    · rintro i d τ ω hd ⟨c2, rfl⟩
      rw [List.getElem?_map] at hd
      obtain ⟨k, hk, rfl⟩ := Option.map_eq_some_iff.mp hd
      refine ⟨_, rfl, ?_⟩
      have s1 := plan_stage_any ts e he k
      have s2 := law_stage_any ts e he k
      obtain ⟨y, y1, y2⟩ := repr_opt (stg ts e k) fun t q => stg_gt h he q
      repeat walk_at "ev1"
      refine Eq.mpr wp_cM ?_
      repeat walk_at "ev1"
      refine ⟨_, _, rfl, hlk3, ?_⟩
      repeat (first | with_reducible refine Eq.mpr (DL.wp_eqn (s1)) ?_ | with_reducible refine Eq.mpr (DL.wp_ofOs (s1)) ?_ | with_reducible refine Eq.mpr (DL.wp_eqn (y1)) ?_ | with_reducible refine Eq.mpr (DL.wp_ofOs (y1)) ?_ | with_reducible refine Eq.mpr (DL.wp_eqn (s2)) ?_ | with_reducible refine Eq.mpr (DL.wp_ofOs (s2)) ?_ | with_reducible refine Eq.mpr (DL.wp_eqn (y2)) ?_ | with_reducible refine Eq.mpr (DL.wp_ofOs (y2)) ?_ | walk_at "ev1")
      exact ⟨_, rfl⟩
    · rintro τ ω ⟨c2, rfl⟩
      exact ⟨_, rfl⟩) ?_
  rintro f _ ⟨c2, rfl⟩
  repeat walk_at "ev1"
  rfl
theorem sw_preL6 {Ω : Type} {i : Nat} {F : S Ω} {τ : Tau} {ω : Ω} {P : Fl → Ω → Prop} {xs : List D} (h : τ[i]? = some (some (.ow .L xs))) : sw (sPre i F τ ω) P = sw (F (τ.set i (some (.d (.lst xs)))) ω) P := sw_pre h
theorem eqN (a b : Nat) : eqD (.int (a : Nat)) (.int (b : Nat)) = some (.bl (decide (a = b))) := by
  rw [eqD_int]
  congr 2
  exact decide_eq_decide.mpr ⟨fun z => by omega, fun z => by omega⟩
theorem nin_side (b : Bool) : ninTD (sideS b) (.tup [.str "left", .str "right"]) = some (.bl false) := by cases b <;> kernel_rfl
theorem nin_rnd {rs : List Tab} (h : GT rs) (hl : rs.length ≤ 20) : ninTD (.tup (rs.map tb)) (.tup [.str "left", .str "right"]) = some (.bl true) := by
  have h1 := inT_rnd h hl
  unfold inTD at h1
  unfold ninTD
  split at h1
  · rename_i p qs e1 e2
    try rw [e1, e2]
    try dsimp only
    split at h1
    · rename_i c
      rw [if_pos c]
      have h2 : decide (Spec.countIn p qs ≠ 0) = false := D.bl.inj (Option.some.inj h1)
      rw [h2]; rfl
    · cases h1
  · cases h1
theorem sl_tp_from (ts : List Tab) (k : Nat) : sliceD (.tup (ts.map tb)) (some (k : Int)) none = some (.tup ((ts.drop k).map tb)) := by
  show some (D.tup (cutL (ts.map tb) _ _)) = _
  rw [cut_from, ← List.map_drop]
def isL6 : PEnd → Bool
  | .side b => b
  | .rnd _ => false
abbrev pD2 (q : List Tab × PEnd) : D := .tup [.tup (q.1.map tb), endD q.2]
def Gq (q : List Tab × PEnd) : Prop := GT q.1 ∧ q.1.length ≤ 20 ∧ q.2.ok
theorem addTt {xs ys : List D} (h : xs.length + ys.length ≤ 1000) : addD (.tup xs) (.tup ys) = some (.tup (xs ++ ys)) := by
  unfold addD
  dsimp only
  rw [if_pos (by rw [sizeLine_eq]; omega)]
theorem add_tt (xs ys : List Tab) (h : xs.length + ys.length ≤ 1000) : addD (.tup (xs.map tb)) (.tup (ys.map tb)) = some (.tup ((xs ++ ys).map tb)) := by
  rw [addTt (by rw [List.length_map, List.length_map]; exact h), ← List.map_append]
theorem cut_m1y {α : Type} (xs : List α) : cutL xs none (some (-1)) = xs.dropLast := by
  have a : HT.sIx xs.length 0 none = 0 := rfl
  have b : HT.sIx xs.length xs.length (some (-1)) = xs.length - 1 := by
    unfold HT.sIx
    by_cases c : xs.length = 0
    · rw [c]; rfl
    · simp only
      split <;> omega
  rw [List.dropLast_eq_take]
  unfold cutL
  rw [a, b]
  simp
theorem gt_add {A B : List Tab} (h : GT A) (h2 : GT B) : GT (A ++ B) := fun t ht => (List.mem_append.mp ht).elim (h t) (h2 t)
theorem eqL6 (e : PEnd) : eqD (endD e) (.str "left") = some (.bl (isL6 e)) := by
  cases e with
  | side b => exact eq_left b
  | rnd rs => exact eq_ts rs _ (strOk_ofString _)
theorem addO {A B : List (List Tab × PEnd)} (h : A.length + B.length ≤ 1000) : addD (.lst (A.map pD2)) (.lst (B.map pD2)) = some (.lst ((A ++ B).map pD2)) := by
  rw [addL _ _ (by rw [List.length_map, List.length_map]; omega), ← List.map_append]
theorem others_ok (ts : List Tab) (e : PEnd) (h : GT ts) (hl : ts.length ≤ 3) (he : e.ok) (hr : ∀ rs, e = .rnd rs → rs.length ≤ 3) (ω : Src) : ∃ (L : List (List Tab × PEnd)) (ω' : Src), F_law_others [wD ts e] ω = .ok (.lst (L.map fun q => plD q.1 q.2)) ω' ∧ (∀ q ∈ L, Gq q ∧ ¬ (q.1 = ts ∧ q.2 = e)) := by
  obtain ⟨m, ω1, e1, wm, zm⟩ := law_table_ok ω
  suffices hh : (F_law_others [wD ts e] ω).wp (fun d _ => ∃ L : List (List Tab × PEnd), d = .lst (L.map fun q => plD q.1 q.2) ∧ (∀ q ∈ L, Gq q ∧ ¬ (q.1 = ts ∧ q.2 = e))) X0 by
    obtain ⟨d, ω', e2, L, rfl, h2⟩ := hh.ex
    exact ⟨L, ω', e2, h2⟩
  have g1 : GT [m] := fun t ht => by rw [List.mem_singleton.mp ht]; exact ⟨wm, zm⟩
  have g2 : GT [m, m] := fun t ht => by
    simp only [List.mem_cons, List.not_mem_nil, or_false] at ht
    rcases ht with rfl | rfl <;> exact ⟨wm, zm⟩
  have gd1 : GT (ts.drop 1) := fun t ht => h t (List.mem_of_mem_drop ht)
  have gdl : GT ts.dropLast := fun t ht => h t (List.dropLast_subset _ ht)
  have grv : GT ts.reverse := fun t ht => h t (List.mem_reverse.mp ht)
  have a1 : addD (.tup (ts.map tb)) (.tup [tb m]) = some (.tup ((ts ++ [m]).map tb)) := add_tt ts [m] (by simp; omega)
  have sl : sliceD (.tup (ts.map tb)) (some 1) none = some (.tup ((ts.drop 1).map tb)) := sl_tp_from ts 1
  have a2 : addD (.tup ((ts.drop 1).map tb)) (.tup [tb m, tb m]) = some (.tup ((ts.drop 1 ++ [m, m]).map tb)) := add_tt (ts.drop 1) [m, m] (by rw [List.length_drop]; simp; omega)
  have nl := ne_of_eq (eqL6 e)
  have t1 : (D.int 1).toI = some (some 1) := rfl
  have tm : (D.int (-1)).toI = some (some (-1)) := rfl
  have ng : negD (.int 1) = some (.int (-1)) := rfl
  have sm : sliceD (.tup (ts.map tb)) none (some (-1)) = some (.tup (ts.dropLast.map tb)) := by
    show some (D.tup (cutL (ts.map tb) none (some (-1)))) = _
    rw [cut_m1y, ← List.map_dropLast]
  have neE : neD (.tup (ts.map tb)) (.tup []) = some (.bl (!decide (ts = []))) := ne_of_eq (eq_tt (a := ts) (b := []) fun _ q => by cases q)
  unfold F_law_others B_law_others
  have hs0 : startT 7 (.src :: [wD ts e].map .d) = [some .src, some (.d (wD ts e)), none, none, none, none, none] := rfl
  rw [hs0]
  refine Eq.mpr wp_nox ?_
  refine Eq.mpr wp_runS ?_
  refine Eq.mpr sw_seq ?_
  refine sw.mono (P := fun f _ => f = .nx [some .src, some (.d (wD ts e)), some (.d (.tup (ts.map tb))), some (.d (endD e)), some (.d (tb m)), none, none]) (by
    refine sw_asgI ?_
    repeat walk_at "ev1"
    refine wp_dgT rfl ?_
    repeat walk_at "ev1"
    refine wp_dgE rfl ?_
    repeat (first | with_reducible refine Eq.mpr (DL.wp_eqn (e1)) ?_ | with_reducible refine Eq.mpr (DL.wp_ofOs (e1)) ?_ | walk_at "ev1")
    rfl) ?_
  rintro f y1 rfl
  refine Eq.mpr sw_seq ?_
  refine sw.mono (P := fun f _ => ∃ L : List (List Tab × PEnd), f = .nx [some .src, some (.d (wD ts e)), some (.d (.tup (ts.map tb))), some (.d (endD e)), some (.d (tb m)), some (.ow .L (L.map pD2)), none] ∧ L.length ≤ 3 ∧ ∀ q ∈ L, Gq q) (by
    have gq : ∀ b : Bool, ∀ q ∈ [(ts ++ [m], e), (ts, PEnd.side b), (ts.drop 1 ++ [m, m], e)], Gq q := fun b q hq => by
      simp only [List.mem_cons, List.not_mem_nil, or_false] at hq
      rcases hq with rfl | rfl | rfl
      · exact ⟨gt_add h g1, by rw [List.length_append]; simp; omega, he⟩
      · exact ⟨h, by show ts.length ≤ 20; omega, trivial⟩
      · exact ⟨gt_add gd1 g2, by rw [List.length_append, List.length_drop]; simp; omega, he⟩
    cases hL : isL6 e with
    | true =>
      rw [hL] at nl
      repeat (first | with_reducible refine Eq.mpr (DL.wp_eqn (a1)) ?_ | with_reducible refine Eq.mpr (DL.wp_ofOs (a1)) ?_ | with_reducible refine Eq.mpr (DL.wp_eqn (nl)) ?_ | with_reducible refine Eq.mpr (DL.wp_ofOs (nl)) ?_ | with_reducible refine Eq.mpr (DL.wp_eqn (t1)) ?_ | with_reducible refine Eq.mpr (DL.wp_ofOs (t1)) ?_ | with_reducible refine Eq.mpr (DL.wp_eqn (sl)) ?_ | with_reducible refine Eq.mpr (DL.wp_ofOs (sl)) ?_ | with_reducible refine Eq.mpr (DL.wp_eqn (a2)) ?_ | with_reducible refine Eq.mpr (DL.wp_ofOs (a2)) ?_ | walk_at "ev1")
      exact ⟨[(ts ++ [m], e), (ts, .side false), (ts.drop 1 ++ [m, m], e)], rfl, by simp, gq false⟩
    | false =>
      rw [hL] at nl
      repeat (first | with_reducible refine Eq.mpr (DL.wp_eqn (a1)) ?_ | with_reducible refine Eq.mpr (DL.wp_ofOs (a1)) ?_ | with_reducible refine Eq.mpr (DL.wp_eqn (nl)) ?_ | with_reducible refine Eq.mpr (DL.wp_ofOs (nl)) ?_ | with_reducible refine Eq.mpr (DL.wp_eqn (t1)) ?_ | with_reducible refine Eq.mpr (DL.wp_ofOs (t1)) ?_ | with_reducible refine Eq.mpr (DL.wp_eqn (sl)) ?_ | with_reducible refine Eq.mpr (DL.wp_ofOs (sl)) ?_ | with_reducible refine Eq.mpr (DL.wp_eqn (a2)) ?_ | with_reducible refine Eq.mpr (DL.wp_ofOs (a2)) ?_ | walk_at "ev1")
      exact ⟨[(ts ++ [m], e), (ts, .side true), (ts.drop 1 ++ [m, m], e)], rfl, by simp, gq true⟩) ?_
  rintro f y2 ⟨L0, rfl, l0, q0⟩
  refine Eq.mpr sw_seq ?_
  refine sw.mono (P := fun f _ => ∃ L : List (List Tab × PEnd), f = .nx [some .src, some (.d (wD ts e)), some (.d (.tup (ts.map tb))), some (.d (endD e)), some (.d (tb m)), some (.ow .L (L.map pD2)), none] ∧ L.length ≤ 5 ∧ ∀ q ∈ L, Gq q) (by
    by_cases c : ts = []
    · rw [decide_eq_true c] at neE
      repeat (first | with_reducible refine Eq.mpr (DL.wp_eqn (neE)) ?_ | with_reducible refine Eq.mpr (DL.wp_ofOs (neE)) ?_ | walk_at "ev1")
      exact ⟨L0, rfl, by omega, q0⟩
    · rw [decide_eq_false c] at neE
      have ao := addO (A := L0) (B := [(ts.drop 1, e), (ts.dropLast, e)]) (by simp; omega)
      repeat (first | with_reducible refine Eq.mpr (DL.wp_eqn (neE)) ?_ | with_reducible refine Eq.mpr (DL.wp_ofOs (neE)) ?_ | walk_at "ev1")
      refine Eq.mpr (sw_pre rfl) ?_
      refine Eq.mpr sw_setO ?_
      refine Eq.mpr wp_eAddL ?_
      repeat (first | with_reducible refine Eq.mpr (DL.wp_eqn (t1)) ?_ | with_reducible refine Eq.mpr (DL.wp_ofOs (t1)) ?_ | with_reducible refine Eq.mpr (DL.wp_eqn (sl)) ?_ | with_reducible refine Eq.mpr (DL.wp_ofOs (sl)) ?_ | with_reducible refine Eq.mpr (DL.wp_eqn (ng)) ?_ | with_reducible refine Eq.mpr (DL.wp_ofOs (ng)) ?_ | with_reducible refine Eq.mpr (DL.wp_eqn (tm)) ?_ | with_reducible refine Eq.mpr (DL.wp_ofOs (tm)) ?_ | with_reducible refine Eq.mpr (DL.wp_eqn (sm)) ?_ | with_reducible refine Eq.mpr (DL.wp_ofOs (sm)) ?_ | walk_at "ev1")
      refine ⟨_, _, rfl, rfl, by rw [List.length_map, sizeLine_eq]; simp; omega, ?_⟩
      rw [show L0.map pD2 ++ [D.tup [.tup ((ts.drop 1).map tb), endD e], D.tup [.tup (ts.dropLast.map tb), endD e]] = (L0 ++ [(ts.drop 1, e), (ts.dropLast, e)]).map pD2 from by rw [List.map_append]; rfl]
      refine ⟨L0 ++ [(ts.drop 1, e), (ts.dropLast, e)], rfl, by rw [List.length_append]; simp; omega, fun q hq => ?_⟩
      rcases List.mem_append.mp hq with hq | hq
      · exact q0 q hq
      · simp only [List.mem_cons, List.not_mem_nil, or_false] at hq
        rcases hq with rfl | rfl
        · exact ⟨gd1, by show (ts.drop 1).length ≤ 20; rw [List.length_drop]; omega, he⟩
        · exact ⟨gdl, by show ts.dropLast.length ≤ 20; rw [List.length_dropLast]; omega, he⟩) ?_
  rintro f y3 ⟨L1, rfl, l1, q1⟩
  have a3 : ∀ rs, e = .rnd rs → addD (endD e) (endD e) = some (endD (.rnd (rs ++ rs))) ∧ addD (.tup (ts.map tb)) (endD e) = some (.tup ((ts ++ rs).map tb)) ∧ addD (endD e) (.tup [tb m]) = some (endD (.rnd (rs ++ [m]))) := by
    rintro rs rfl
    have := hr rs rfl
    exact ⟨add_tt rs rs (by omega), add_tt ts rs (by omega), add_tt rs [m] (by simp; omega)⟩
  refine Eq.mpr sw_seq ?_
  refine sw.mono (P := fun f _ => ∃ L : List (List Tab × PEnd), f = .nx [some .src, some (.d (wD ts e)), some (.d (.tup (ts.map tb))), some (.d (endD e)), some (.d (tb m)), some (.ow .L (L.map pD2)), none] ∧ L.length ≤ 6 ∧ ∀ q ∈ L, Gq q) (by
    refine sw_appI rfl ?_ (by rw [List.length_map]; omega)
    repeat walk_at "ev1"
    refine Eq.mpr wp_eRevT ?_
    repeat walk_at "ev1"
    refine ⟨_, rfl, ?_⟩
    repeat walk_at "ev1"
    refine ⟨L1 ++ [(ts.reverse, e)], ?_, by rw [List.length_append]; simp; omega, fun q hq => ?_⟩
    · rw [List.map_append, ← List.map_reverse]
      rfl
    · rcases List.mem_append.mp hq with hq | hq
      · exact q1 q hq
      · rw [List.mem_singleton.mp hq]
        exact ⟨grv, by show ts.reverse.length ≤ 20; rw [List.length_reverse]; omega, he⟩) ?_
  rintro f y4 ⟨L2, rfl, l2, q2⟩
  refine Eq.mpr sw_seq ?_
  refine sw.mono (P := fun f _ => ∃ L : List (List Tab × PEnd), f = .nx [some .src, some (.d (wD ts e)), some (.d (.tup (ts.map tb))), some (.d (endD e)), some (.d (tb m)), some (.ow .L (L.map pD2)), none] ∧ L.length ≤ 10 ∧ ∀ q ∈ L, Gq q) (by
    cases e with
    | side b =>
      have nn : ninTD (endD (.side b)) (.tup [.str "left", .str "right"]) = some (.bl false) := nin_side b
      repeat (first | with_reducible refine Eq.mpr (DL.wp_eqn (nn)) ?_ | with_reducible refine Eq.mpr (DL.wp_ofOs (nn)) ?_ | walk_at "ev1")
      exact ⟨L2, rfl, by omega, q2⟩
    | rnd rs =>
      have nn : ninTD (endD (.rnd rs)) (.tup [.str "left", .str "right"]) = some (.bl true) := nin_rnd he.2.2 he.2.1
      obtain ⟨b1, b2, b3⟩ := a3 rs rfl
      have hl3 := hr rs rfl
      have hne := he.1
      repeat (first | with_reducible refine Eq.mpr (DL.wp_eqn (nn)) ?_ | with_reducible refine Eq.mpr (DL.wp_ofOs (nn)) ?_ | walk_at "ev1")
      refine Eq.mpr (sw_pre rfl) ?_
      refine Eq.mpr sw_setO ?_
      refine Eq.mpr wp_eAddL ?_
      repeat (first | with_reducible refine Eq.mpr (DL.wp_eqn (b1)) ?_ | with_reducible refine Eq.mpr (DL.wp_ofOs (b1)) ?_ | with_reducible refine Eq.mpr (DL.wp_eqn (b2)) ?_ | with_reducible refine Eq.mpr (DL.wp_ofOs (b2)) ?_ | with_reducible refine Eq.mpr (DL.wp_eqn (b3)) ?_ | with_reducible refine Eq.mpr (DL.wp_ofOs (b3)) ?_ | walk_at "ev1")
      refine Eq.mpr wp_eRevT ?_
      repeat walk_at "ev1"
      refine ⟨_, rfl, ?_⟩
      repeat walk_at "ev1"
      refine ⟨_, _, rfl, rfl, by rw [List.length_map, sizeLine_eq]; simp; omega, ?_⟩
      refine ⟨L2 ++ [(ts, .rnd (rs ++ rs)), (ts ++ rs, .rnd rs), (ts, .rnd (rs ++ [m])), (ts, .rnd rs.reverse)], ?_, by rw [List.length_append]; simp; omega, fun q hq => ?_⟩
      · rw [show L2.map pD2 ++ _ = (L2 ++ [(ts, PEnd.rnd (rs ++ rs)), (ts ++ rs, .rnd rs), (ts, .rnd (rs ++ [m])), (ts, .rnd rs.reverse)]).map pD2 from by
          rw [← List.map_reverse, List.map_append (f := pD2)]
          rfl]
        rfl
      · rcases List.mem_append.mp hq with hq | hq
        · exact q2 q hq
        · simp only [List.mem_cons, List.not_mem_nil, or_false] at hq
          rcases hq with rfl | rfl | rfl | rfl
          · exact ⟨h, by show ts.length ≤ 20; omega, by simp [hne], by rw [List.length_append]; omega, gt_add he.2.2 he.2.2⟩
          · exact ⟨gt_add h he.2.2, by show (ts ++ rs).length ≤ 20; rw [List.length_append]; omega, he⟩
          · exact ⟨h, by show ts.length ≤ 20; omega, by simp, by rw [List.length_append]; simp; omega, gt_add he.2.2 g1⟩
          · exact ⟨h, by show ts.length ≤ 20; omega, by simpa using hne, by rw [List.length_reverse]; omega, fun t ht => he.2.2 t (List.mem_reverse.mp ht)⟩) ?_
  rintro f y5 ⟨L3, rfl, l3, q3⟩
  have it : (D.lst (L3.map pD2)).itemsS = some (L3.map pD2) := rfl
  refine Eq.mpr (sw_preL6 rfl) ?_
  repeat (first | with_reducible refine Eq.mpr (DL.wp_eqn (it)) ?_ | with_reducible refine Eq.mpr (DL.wp_ofOs (it)) ?_ | walk_at "ev1")
  refine ⟨by rw [List.length_map, sizeLine_eq]; omega, ?_⟩
  refine lc_filt pD2 L3 (fun q => !(decide (q.1 = ts) && q.2.same e)) (fun q => plD q.1 q.2) (fun q hq => ⟨_, rfl, ?_⟩) ?_
  · obtain ⟨u1, u2, u3⟩ := q3 q hq
    have nq : neD (pD2 q) (.tup [.tup (ts.map tb), endD e]) = some (.bl (!(decide (q.1 = ts) && q.2.same e))) := ne_of_eq (eq_forms h (by omega) u3 he)
    repeat (first | with_reducible refine Eq.mpr (DL.wp_eqn (nq)) ?_ | with_reducible refine Eq.mpr (DL.wp_ofOs (nq)) ?_ | walk_at "ev1")
    refine ⟨rfl, rfl, fun _ => ?_⟩
    have i0 : ixD (pD2 q) (.int 0) = some (.tup (q.1.map tb)) := rfl
    have i1 : ixD (pD2 q) (.int 1) = some (endD q.2) := rfl
    have po := plan_ok q.1 q.2 u1 u3
    refine Eq.mpr wp_cI ?_
    repeat (first | with_reducible refine Eq.mpr (DL.wp_eqn (i0)) ?_ | with_reducible refine Eq.mpr (DL.wp_ofOs (i0)) ?_ | with_reducible refine Eq.mpr (DL.wp_eqn (i1)) ?_ | with_reducible refine Eq.mpr (DL.wp_ofOs (i1)) ?_ | with_reducible refine Eq.mpr (DL.wp_eqn (po)) ?_ | with_reducible refine Eq.mpr (DL.wp_ofOs (po)) ?_ | walk_at "ev1")
    exact ⟨rfl, rfl, rfl⟩
  · refine ⟨L3.filter fun q => !(decide (q.1 = ts) && q.2.same e), rfl, fun q hq => ?_⟩
    obtain ⟨hm, hp⟩ := List.mem_filter.mp hq
    refine ⟨q3 q hm, ?_⟩
    rintro ⟨rfl, rfl⟩
    rw [(same_iff q.2 q.2).mpr rfl] at hp
    simp at hp
theorem perm_map6 {α β : Type} {f : α → β} {l m : List β} (h : l.Perm m) : ∀ ts : List α, m = ts.map f → ∃ ts' : List α, ts'.Perm ts ∧ l = ts'.map f := by
  induction h with
  | nil =>
    intro ts e
    have : ts = [] := by cases ts with
      | nil => rfl
      | cons _ _ => simp at e
    subst this
    exact ⟨[], .refl _, rfl⟩
  | cons x _ ih =>
    intro ts e
    cases ts with
    | nil => simp at e
    | cons t ts =>
      simp only [List.map_cons, List.cons.injEq] at e
      obtain ⟨ts', p, rfl⟩ := ih ts e.2
      exact ⟨t :: ts', p.cons t, by rw [List.map_cons, e.1]⟩
  | swap x y l =>
    intro ts e
    match ts, e with
    | a :: b :: ts, e =>
      simp only [List.map_cons, List.cons.injEq] at e
      exact ⟨b :: a :: ts, .swap a b ts, by rw [List.map_cons, List.map_cons, e.1, e.2.1, e.2.2]⟩
  | trans _ _ ih1 ih2 =>
    intro ts e
    obtain ⟨us, p, rfl⟩ := ih2 ts e
    obtain ⟨vs, q, rfl⟩ := ih1 us rfl
    exact ⟨vs, q.trans p, rfl⟩
theorem sl_lst_to (ts : List Tab) (k : Nat) : sliceD (.lst (ts.map tb)) none (some (k : Int)) = some (.lst ((ts.take k).map tb)) := by
  show some (D.lst (cutL (ts.map tb) _ _)) = _
  rw [cut_to, ← List.map_take]
theorem mixed_tabs (ω : Src) (ts : List Tab) (hb : ts.length ≤ 1000) : ∃ (us : List Tab) (ω' : Src), F_law_mixed [.lst (ts.map tb)] ω = .ok (.lst (us.map tb)) ω' ∧ us.Perm ts := by
  obtain ⟨es, ω', e, p⟩ := mixed_ok ω (ts.map tb) (by rw [List.length_map]; exact hb)
  obtain ⟨us, pu, rfl⟩ := perm_map6 p ts rfl
  exact ⟨us, ω', e, pu⟩
theorem some_plan_ok (ω : Src) : ∃ (ts : List Tab) (e : PEnd) (ω' : Src), F_law_some_plan [.int 3] ω = .ok (wD ts e) ω' ∧ GT ts ∧ e.ok ∧ ts.length ≤ 3 ∧ ∀ rs, e = .rnd rs → rs.length ≤ 3 := by
  suffices h : (F_law_some_plan [.int 3] ω).wp (fun d _ => ∃ (ts : List Tab) (e : PEnd), d = wD ts e ∧ GT ts ∧ e.ok ∧ ts.length ≤ 3 ∧ ∀ rs, e = .rnd rs → rs.length ≤ 3) X0 by
    obtain ⟨d, ω', e, ts, e2, rfl, h⟩ := h.ex
    exact ⟨ts, e2, ω', e, h⟩
  unfold F_law_some_plan B_law_some_plan
  have hs0 : startT 6 (.src :: [D.int 3].map .d) = [some .src, some (.d (.int 3)), none, none, none, none] := rfl
  rw [hs0]
  obtain ⟨q, ω1, e1', hq⟩ := pick_nat ω 6 (by omega) (by omega)
  have e1 : F_law_pick [.int 6] ω = .ok (.int (q : Nat)) ω1 := e1'
  obtain ⟨s, ω2, e2, ws, zs⟩ := law_table_ok ω1
  refine Eq.mpr wp_nox ?_
  refine Eq.mpr wp_runS ?_
  refine Eq.mpr sw_seq ?_
  refine sw.mono (P := fun f ω' => f = .nx [some .src, some (.d (.int 3)), some (.d (.int (q : Nat))), some (.d (tb s)), none, none] ∧ ω' = ω2) (by
    repeat (first | with_reducible refine Eq.mpr (DL.wp_eqn (e1)) ?_ | with_reducible refine Eq.mpr (DL.wp_ofOs (e1)) ?_ | with_reducible refine Eq.mpr (DL.wp_eqn (e2)) ?_ | with_reducible refine Eq.mpr (DL.wp_ofOs (e2)) ?_ | walk_at "ev1")
    exact ⟨rfl, rfl⟩) ?_
  rintro f ω' ⟨rfl, rfl⟩
  have f0 : eqD (.int (q : Nat)) (.int 0) = some (.bl (decide (q = 0))) := eqN q 0
  have f1 : eqD (.int (q : Nat)) (.int 1) = some (.bl (decide (q = 1))) := eqN q 1
  by_cases c0 : q = 0
  · rw [decide_eq_true c0] at f0
    obtain ⟨k, ω3, e3', hk⟩ := pick_nat ω' 4 (by omega) (by omega)
    have e3 : F_law_pick [.int 4] ω' = .ok (.int (k : Nat)) ω3 := e3'
    have gs : ∀ t ∈ List.replicate k s, WT t ∧ bsz t ≤ 16 := fun t ht => by rw [List.eq_of_mem_replicate ht]; exact ⟨ws, zs⟩
    have m1 : mulD (.lst [tb s]) (.int (k : Nat)) = some (.lst ((List.replicate k s).map tb)) := by
      rw [mulL (tb s) k k rfl (by omega), List.map_replicate]
    obtain ⟨d, ω4, e4, hd⟩ := of_ok ω3 [.str "left", .str "right", .tup [tb s], .tup [tb s, tb s]] (by simp) (by simp)
    obtain ⟨e, rfl, he, hr⟩ : ∃ e : PEnd, d = endD e ∧ e.ok ∧ ∀ rs, e = .rnd rs → rs.length ≤ 3 := by
      have g1 : GT [s] := fun t ht => by rw [List.mem_singleton.mp ht]; exact ⟨ws, zs⟩
      have g2 : GT [s, s] := fun t ht => by
        simp only [List.mem_cons, List.not_mem_nil, or_false] at ht
        rcases ht with rfl | rfl <;> exact ⟨ws, zs⟩
      simp only [List.mem_cons, List.not_mem_nil, or_false] at hd
      rcases hd with h | h | h | h
      · exact ⟨.side true, h, trivial, fun rs q => by cases q⟩
      · exact ⟨.side false, h, trivial, fun rs q => by cases q⟩
      · exact ⟨.rnd [s], h, ⟨by simp, by simp, g1⟩, fun rs q => by cases q; simp⟩
      · exact ⟨.rnd [s, s], h, ⟨by simp, by simp, g2⟩, fun rs q => by cases q; simp⟩
    have lm := law_made_ok (List.replicate k s) e gs he
    repeat (first | with_reducible refine Eq.mpr (DL.wp_eqn (f0)) ?_ | with_reducible refine Eq.mpr (DL.wp_ofOs (f0)) ?_ | with_reducible refine Eq.mpr (DL.wp_eqn (e3)) ?_ | with_reducible refine Eq.mpr (DL.wp_ofOs (e3)) ?_ | with_reducible refine Eq.mpr (DL.wp_eqn (m1)) ?_ | with_reducible refine Eq.mpr (DL.wp_ofOs (m1)) ?_ | with_reducible refine Eq.mpr (DL.wp_eqn (e4)) ?_ | with_reducible refine Eq.mpr (DL.wp_ofOs (e4)) ?_ | with_reducible refine Eq.mpr (DL.wp_eqn (lm)) ?_ | with_reducible refine Eq.mpr (DL.wp_ofOs (lm)) ?_ | walk_at "ev1")
    exact ⟨List.replicate k s, e, rfl, gs, he, by rw [List.length_replicate]; omega, hr⟩
  · rw [decide_eq_false c0] at f0
    refine Eq.mpr sw_seq ?_
    refine sw.mono (P := fun f ω2 => f = .nx [some .src, some (.d (.int 3)), some (.d (.int (q : Nat))), some (.d (tb s)), none, none] ∧ ω2 = ω') (by
      repeat (first | with_reducible refine Eq.mpr (DL.wp_eqn (f0)) ?_ | with_reducible refine Eq.mpr (DL.wp_ofOs (f0)) ?_ | walk_at "ev1")
      exact ⟨rfl, rfl⟩) ?_
    rintro f ω2 ⟨rfl, rfl⟩
    by_cases c1 : q = 1
    · rw [decide_eq_true c1] at f1
      repeat (first | with_reducible refine Eq.mpr (DL.wp_eqn (f1)) ?_ | with_reducible refine Eq.mpr (DL.wp_ofOs (f1)) ?_ | walk_at "ev1")
      refine lc_inv (fun i acc _ => ∃ ts : List Tab, acc = ts.map tb ∧ GT ts ∧ ts.length = i) ⟨[], rfl, .nil, rfl⟩ ?_ ?_
      · rintro i d acc ω2 hd ⟨ts, rfl, h1, h2⟩
        obtain ⟨k, ω3, e3', hk⟩ := pick_nat ω2 3 (by omega) (by omega)
        have e3 : F_law_pick [.int 3] ω2 = .ok (.int (k : Nat)) ω3 := e3'
        have a2 : addD (.int 2) (.int (k : Nat)) = some (.int ((2 + k : Nat) : Int)) := addN 2 k
        obtain ⟨t, ω4, e4, ht, hz⟩ := any_ok (2 + k) ω3 (by omega) (by omega)
        refine ⟨_, rfl, ?_⟩
        repeat (first | with_reducible refine Eq.mpr (DL.wp_eqn (e3)) ?_ | with_reducible refine Eq.mpr (DL.wp_ofOs (e3)) ?_ | with_reducible refine Eq.mpr (DL.wp_eqn (a2)) ?_ | with_reducible refine Eq.mpr (DL.wp_ofOs (a2)) ?_ | with_reducible refine Eq.mpr (DL.wp_eqn (e4)) ?_ | with_reducible refine Eq.mpr (DL.wp_ofOs (e4)) ?_ | walk_at "ev1")
        exact ⟨ts ++ [t], by simp, h1.snoc ⟨ht, by omega⟩, by simp [h2]⟩
      · rintro acc ω3 ⟨ts, rfl, h1, h2'⟩
        rw [rangeL_len] at h2'
        have h2 : ts.length = 3 := h2'
        refine ⟨[some .src, some (.d (.int 3)), some (.d (.int (q : Nat))), some (.d (tb s)), some (.d (.lst (ts.map tb))), none], rfl, ?_⟩
        obtain ⟨us, ω4, e4, pu⟩ := mixed_tabs ω3 ts (by omega)
        obtain ⟨d, ω5, e5, hd⟩ := of_ok ω4 [.int 1, .int 2, .int 3] (by simp) (by simp)
        obtain ⟨n, rfl, n1, n3⟩ : ∃ n : Nat, d = .int (n : Nat) ∧ 1 ≤ n ∧ n ≤ 3 := by
          simp only [List.mem_cons, List.not_mem_nil, or_false] at hd
          rcases hd with h | h | h <;> subst h
          · exact ⟨1, rfl, by omega, by omega⟩
          · exact ⟨2, rfl, by omega, by omega⟩
          · exact ⟨3, rfl, by omega, by omega⟩
        have gu : GT (us.take n) := fun t ht => h1 t (pu.mem_iff.mp (List.mem_of_mem_take ht))
        have lu : (us.take n).length = n := by rw [List.length_take, pu.length_eq, h2]; omega
        have ok : (PEnd.rnd (us.take n)).ok := ⟨fun z => by rw [z] at lu; simp at lu; omega, by omega, gu⟩
        have tI : (D.int (n : Nat)).toI = some (some (n : Int)) := rfl
        have sl := sl_lst_to us n
        have tp : un1 tupleD [.lst ((us.take n).map tb)] = some (endD (.rnd (us.take n))) := rfl
        have lm := law_made_ok ts (.rnd (us.take n)) h1 ok
        repeat (first | with_reducible refine Eq.mpr (DL.wp_eqn (e4)) ?_ | with_reducible refine Eq.mpr (DL.wp_ofOs (e4)) ?_ | with_reducible refine Eq.mpr (DL.wp_eqn (e5)) ?_ | with_reducible refine Eq.mpr (DL.wp_ofOs (e5)) ?_ | with_reducible refine Eq.mpr (DL.wp_eqn (tI)) ?_ | with_reducible refine Eq.mpr (DL.wp_ofOs (tI)) ?_ | with_reducible refine Eq.mpr (DL.wp_eqn (sl)) ?_ | with_reducible refine Eq.mpr (DL.wp_ofOs (sl)) ?_ | with_reducible refine Eq.mpr (DL.wp_eqn (tp)) ?_ | with_reducible refine Eq.mpr (DL.wp_ofOs (tp)) ?_ | with_reducible refine Eq.mpr (DL.wp_eqn (lm)) ?_ | with_reducible refine Eq.mpr (DL.wp_ofOs (lm)) ?_ | walk_at "ev1")
        exact ⟨ts, .rnd (us.take n), rfl, h1, ok, by omega, fun rs q => by cases q; omega⟩
    · rw [decide_eq_false c1] at f1
      obtain ⟨ts, e, ω3, e3, h1, h2, h3, h4⟩ := law_plan_ok ω2
      repeat (first | with_reducible refine Eq.mpr (DL.wp_eqn (f1)) ?_ | with_reducible refine Eq.mpr (DL.wp_ofOs (f1)) ?_ | with_reducible refine Eq.mpr (DL.wp_eqn (e3)) ?_ | with_reducible refine Eq.mpr (DL.wp_ofOs (e3)) ?_ | walk_at "ev1")
      refine ⟨ts, e, rfl, h1, h2, h3, fun rs q => ?_⟩
      subst q
      have : rs.length ≤ 2 := h4
      omega
theorem swk {Ω : Type} {F : S Ω} {τ : Tau} {ω : Ω} {f0 : Fl} {P : Fl → Ω → Prop} (h : F τ ω = some (f0, ω)) (k : P f0 ω) : sw (F τ ω) P := by
  rw [h]; exact Eq.mpr sw_some k
abbrev o1 : D := .tup []
abbrev p2 : D := .tup [o1, o1]
theorem wp_eNotI6 {Ω : Type} {a : E Ω D} {τ : Tau} {ω : Ω} {P : D → Ω → Prop} {X} (h : (a τ ω).wp (fun x ω1 => ∃ b, x = .bl b ∧ P (.bl (!b)) ω1) X) : (eNot a τ ω).wp P X := by
  unfold eNot
  rw [wp_bind]
  refine h.mono fun x ω1 hx => ?_
  obtain ⟨b, rfl, hx⟩ := hx
  dsimp only
  rw [wp_ok]
  exact hx
theorem wp_eLst16 {Ω : Type} {a : E Ω D} {τ : Tau} {ω : Ω} {P : List D → Ω → Prop} {X} (h : (a τ ω).wp (fun x ω1 => ∃ ys, x.itemsS = some ys ∧ P ys ω1) X) : (eLst1 a τ ω).wp P X := by
  unfold eLst1
  rw [wp_bind]
  refine h.mono ?_
  rintro x ω1 ⟨ys, e, p⟩
  rw [e]
  exact Eq.mpr wp_ok p
theorem wp_ownF {Ω : Type} {F : List D → R Unit D} {a b : E Ω D} {τ : Tau} {ω : Ω} {P : D → Ω → Prop} {X : Exn → Ω → Prop} (h : (a τ ω).wp (fun x ω1 => (b τ ω1).wp (fun y ω2 => ∃ fs ds c, x = .ins fs ds ∧ yk y = true ∧ F [.ins fs ds, y] = .ok (.bl c) () ∧ P (.bl c) ω2) X) X) : (eOwnC F false a b τ ω).wp P X :=
  wp_own (h.mono fun _ _ h1 => h1.mono fun _ _ ⟨fs, ds, c, e1, e2, e3, p⟩ => ⟨fs, ds, c, e1, e2, e3, p⟩)
theorem wp_ownT {Ω : Type} {F : List D → R Unit D} {a b : E Ω D} {τ : Tau} {ω : Ω} {P : D → Ω → Prop} {X : Exn → Ω → Prop} (h : (a τ ω).wp (fun x ω1 => (b τ ω1).wp (fun y ω2 => ∃ fs ds c c', x = .ins fs ds ∧ yk y = true ∧ F [.ins fs ds, y] = .ok (.bl c) () ∧ c' = !c ∧ P (.bl c') ω2) X) X) : (eOwnC F true a b τ ω).wp P X :=
  wp_own (h.mono fun _ _ h1 => h1.mono fun _ _ ⟨fs, ds, c, c', e1, e2, e3, e4, p⟩ => ⟨fs, ds, c, e1, e2, e3, by rw [e4] at p; exact p⟩)
theorem eq_ll {a b : List Tab} (h : ∀ t ∈ a, WT t ∧ bsz t ≤ 16) : eqD (.lst (a.map tb)) (.lst (b.map tb)) = some (.bl (decide (a = b))) := by
  have hd : depL a ≤ 102 := depL_le fun t ht => by
    have := dep_tab (h t ht).1
    have := (h t ht).2
    omega
  have h := eqD_enc (⟨a⟩ : Lst Tab) ⟨b⟩ (.inl (show depL a + 1 ≤ 150 by omega))
  refine (show eqD (.lst (a.map tb)) (.lst (b.map tb)) = _ from h).trans ?_
  refine congrArg (fun b => some (D.bl b)) (decide_eq_decide.mpr ?_)
  rw [Lst.mk.injEq]
theorem same_self6 (f : PEnd) : f.same f = true := by cases f <;> simp [PEnd.same]
theorem peq_self6 {qs : List Tab} {f : PEnd} (h : GT qs) (hf : f.ok) : F_Plan_eq [plD qs f, plD qs f] = .ok (.bl true) () := by
  have e := plan_eq_ok (ts := qs) h hf hf
  rw [decide_eq_true rfl, same_self6] at e
  exact e
theorem peq_ne6 {ts us : List Tab} {e g : PEnd} (h : GT us) (he : e.ok) (hg : g.ok) (n : ¬ (us = ts ∧ g = e)) : F_Plan_eq [plD ts e, plD us g] = .ok (.bl false) () := by
  have q := plan_eq_ok (ts := ts) h he hg
  have : (decide (ts = us) && e.same g) = false := by
    rw [Bool.and_eq_false_iff]
    by_cases c : ts = us
    · refine .inr (Bool.eq_false_iff.mpr fun z => n ⟨c.symm, ((same_iff e g).mp z).symm⟩)
    · exact .inl (decide_eq_false c)
  rw [this] at q
  exact q
theorem rp_ttt : ∃ z : Str, un1 DL.reprD [.lst [.bl true, .bl true, .bl true]] = some (.str z) ∧ neD (.str z) (.str z) = some (.bl false) := ⟨Str.ofString "[True, True, True]", by kernel_rfl, by kernel_rfl⟩
theorem rp_fft : ∃ z : Str, un1 DL.reprD [.lst [.bl false, .bl false, .bl true]] = some (.str z) ∧ neD (.str z) (.str z) = some (.bl false) := ⟨Str.ofString "[False, False, True]", by kernel_rfl, by kernel_rfl⟩
theorem rp_ft : ∃ z : Str, un1 DL.reprD [.lst [.bl false, .bl true]] = some (.str z) ∧ neD (.str z) (.str z) = some (.bl false) := ⟨Str.ofString "[False, True]", by kernel_rfl, by kernel_rfl⟩
abbrev E6 (c2 c3 c4 c5 c6 c7 c8 c9 c10 c11 : Option Cell) : Tau := [none, some .src, c2, c3, c4, c5, c6, c7, c8, c9, c10, c11, none, none, none, none]
theorem law_wp (ns : List Int) : (runS B_law tau0 (srcOf ns)).wp (fun d _ => d = .bl true) X0 := by
  unfold B_law
  have hr4 : rg1 [.int 4] = some (rangeL 0 1 4) := rg1_nat 4 (by omega)
  refine Eq.mpr wp_runS ?_
  refine Eq.mpr sw_seq ?_
  refine sw.mono (P := fun f _ => ∃ c2 c3 c4 c5 c6 c7 c8 c9, f = .nx (E6 c2 c3 c4 c5 c6 c7 c8 c9 none none)) (by
    repeat (first | with_reducible refine Eq.mpr (DL.wp_eqn (hr4)) ?_ | with_reducible refine Eq.mpr (DL.wp_ofOs (hr4)) ?_ | walk_at "ev1")
    refine loop_inv (fun i τ _ => ∃ c2 c3 c4 c5 c6 c7 c8 c9, τ = E6 c2 c3 c4 c5 c6 c7 c8 c9 none none) ⟨_, _, _, _, _, _, _, _, rfl⟩ ?_ ?_
    · rintro i d τ ω hd ⟨c2', c3, c4, c5, c6, c7, c8, c9, rfl⟩
      refine ⟨_, rfl, ?_⟩
      generalize hc2 : some (Cell.d d) = c2
      obtain ⟨ts, e, ω1, e1, h1, he, hl, hr⟩ := some_plan_ok ω
      have pi := plan_okL ts e h1 he
      have nl := noL_pl ts e
      have nself : neD (.lst (ts.map tb)) (.lst (ts.map tb)) = some (.bl false) := by
        have q := ne_of_eq (eq_ll (a := ts) (b := ts) h1)
        rw [decide_eq_true rfl] at q
        exact q
      have lt : un1 listD [.tup (ts.map tb)] = some (.lst (ts.map tb)) := rfl
      have pr := right_ok ts e h1 (by omega) he
      have pe := peq_self6 h1 he
      refine Eq.mpr sw_seq ?_
      refine sw.mono (P := fun f ω' => f = .nx (E6 c2 (some (.d (wD ts e))) c4 c5 c6 c7 c8 c9 none none) ∧ ω' = ω1) (by
        repeat (first | with_reducible refine Eq.mpr (DL.wp_eqn (e1)) ?_ | with_reducible refine Eq.mpr (DL.wp_ofOs (e1)) ?_ | walk_at "ev1")
        exact ⟨by rw [← hc2]; rfl, rfl⟩) ?_
      rintro f w1 ⟨rfl, rfl⟩
      refine Eq.mpr sw_seq ?_
      refine sw.mono (P := fun f ω' => f = .nx (E6 c2 (some (.d (wD ts e))) (some (.ow .L (ts.map tb))) c5 c6 c7 c8 c9 none none) ∧ ω' = w1) (by
        refine Eq.mpr sw_setO ?_
        refine wp_eLst16 ?_
        refine wp_dgT rfl ?_
        exact ⟨_, rfl, rfl, rfl⟩) ?_
      rintro f w2 ⟨rfl, rfl⟩
      refine Eq.mpr sw_seq ?_
      refine sw.mono (P := fun f ω' => f = .nx (E6 c2 (some (.d (wD ts e))) (some (.ow .L (ts.map tb))) (some (.d (plD ts e))) c6 c7 c8 c9 none none) ∧ ω' = w2) (by
        refine sw_asgI ?_
        refine wp_thaw rfl ?_
        refine Eq.mpr wp_cI ?_
        repeat walk_at "ev1"
        refine wp_dgE rfl ?_
        repeat (first | with_reducible refine Eq.mpr (DL.wp_eqn (pi)) ?_ | with_reducible refine Eq.mpr (DL.wp_ofOs (pi)) ?_ | walk_at "ev1")
        exact ⟨rfl, nl, _, rfl, rfl, rfl⟩) ?_
      rintro f w3 ⟨rfl, rfl⟩
      refine Eq.mpr sw_seq ?_
      refine sw.mono (P := fun f ω' => f = .nx (E6 c2 (some (.d (wD ts e))) (some (.ow .L (ts.map tb))) (some (.d (plD ts e))) c6 c7 c8 c9 none none) ∧ ω' = w3) (by
        refine Eq.mpr sw_if ?_
        refine wp_bThaw rfl ?_
        repeat walk_at "ev1"
        refine wp_dgT rfl ?_
        repeat (first | with_reducible refine Eq.mpr (DL.wp_eqn (lt)) ?_ | with_reducible refine Eq.mpr (DL.wp_ofOs (lt)) ?_ | with_reducible refine Eq.mpr (DL.wp_eqn (nself)) ?_ | with_reducible refine Eq.mpr (DL.wp_ofOs (nself)) ?_ | walk_at "ev1")
        exact ⟨rfl, rfl⟩) ?_
      rintro f w4 ⟨rfl, rfl⟩
      refine Eq.mpr sw_seq ?_
      refine sw.mono (P := fun f ω' => ∃ c4, f = .nx (E6 c2 (some (.d (wD ts e))) c4 (some (.d (plD ts e))) c6 c7 c8 c9 none none) ∧ ω' = w4) (by
        refine sw_appI rfl ?_ (by rw [List.length_map]; omega)
        repeat walk_at "ev1"
        exact ⟨_, rfl, rfl⟩) ?_
      rintro f w5 ⟨c4, rfl, rfl⟩
      refine Eq.mpr sw_seq ?_
      refine sw.mono (P := fun f ω' => f = .nx (E6 c2 (some (.d (wD ts e))) c4 (some (.d (plD ts e))) c6 c7 c8 c9 none none) ∧ ω' = w5) (by
        repeat (first | with_reducible refine Eq.mpr (DL.wp_eqn (pr)) ?_ | with_reducible refine Eq.mpr (DL.wp_ofOs (pr)) ?_ | walk_at "ev1")
        refine wp_dgP rfl ?_
        repeat (first | with_reducible refine Eq.mpr (DL.wp_eqn (pr)) ?_ | with_reducible refine Eq.mpr (DL.wp_ofOs (pr)) ?_ | walk_at "ev1")
        exact ⟨rfl, rfl⟩) ?_
      rintro f w6 ⟨rfl, rfl⟩
      refine Eq.mpr sw_seq ?_
      refine sw.mono (P := fun f ω' => f = .nx (E6 c2 (some (.d (wD ts e))) c4 (some (.d (plD ts e))) (some (.d (.lst [.bl true, .bl true, .bl true]))) c7 c8 c9 none none) ∧ ω' = w6) (by
        repeat walk_at "ev1"
        refine wp_ownF ?_
        repeat walk_at "ev1"
        refine wp_dgP rfl ?_
        refine ⟨_, _, _, rfl, rfl, pe, ?_⟩
        repeat walk_at "ev1"
        refine wp_ownF ?_
        refine wp_dgP rfl ?_
        repeat walk_at "ev1"
        refine ⟨_, _, _, rfl, rfl, pe, ?_⟩
        repeat walk_at "ev1"
        refine wp_eNotI6 ?_
        refine wp_ownT ?_
        repeat walk_at "ev1"
        refine wp_dgP rfl ?_
        refine ⟨_, _, true, false, rfl, rfl, pe, rfl, ?_⟩
        refine ⟨false, rfl, ?_⟩
        repeat walk_at "ev1"
        exact ⟨rfl, rfl⟩) ?_
      rintro f w7 ⟨rfl, rfl⟩
      refine Eq.mpr sw_seq ?_
      refine sw.mono (P := fun f ω' => f = .nx (E6 c2 (some (.d (wD ts e))) c4 (some (.d (plD ts e))) (some (.d (.lst [.bl true, .bl true, .bl true]))) c7 c8 c9 none none) ∧ ω' = w7) (by
        obtain ⟨z, r1, r2⟩ := rp_ttt
        have m3 : mulD (.lst [.bl true]) (.int 3) = some (.lst [.bl true, .bl true, .bl true]) := by kernel_rfl
        repeat (first | with_reducible refine Eq.mpr (DL.wp_eqn (m3)) ?_ | with_reducible refine Eq.mpr (DL.wp_ofOs (m3)) ?_ | with_reducible refine Eq.mpr (DL.wp_eqn (r1)) ?_ | with_reducible refine Eq.mpr (DL.wp_ofOs (r1)) ?_ | with_reducible refine Eq.mpr (DL.wp_eqn (r2)) ?_ | with_reducible refine Eq.mpr (DL.wp_ofOs (r2)) ?_ | walk_at "ev1")
        exact ⟨rfl, rfl⟩) ?_
      rintro f w8 ⟨rfl, rfl⟩
      obtain ⟨L, ω2, e2, hL⟩ := others_ok ts e h1 hl he hr w8
      have itL : (D.lst (L.map fun q => plD q.1 q.2)).itemsS = some (L.map fun q => plD q.1 q.2) := rfl
      refine Eq.mpr sw_seq ?_
      refine sw.mono (P := fun f ω' => ∃ c7, f = .nx (E6 c2 (some (.d (wD ts e))) c4 (some (.d (plD ts e))) (some (.d (.lst [.bl true, .bl true, .bl true]))) c7 c8 c9 none none)) (by
        repeat (first | with_reducible refine Eq.mpr (DL.wp_eqn (e2)) ?_ | with_reducible refine Eq.mpr (DL.wp_ofOs (e2)) ?_ | with_reducible refine Eq.mpr (DL.wp_eqn (itL)) ?_ | with_reducible refine Eq.mpr (DL.wp_ofOs (itL)) ?_ | walk_at "ev1")
        refine loop_inv (fun i τ _ => ∃ c7, τ = E6 c2 (some (.d (wD ts e))) c4 (some (.d (plD ts e))) (some (.d (.lst [.bl true, .bl true, .bl true]))) c7 c8 c9 none none) ⟨_, rfl⟩ ?_ ?_
        · rintro j d τ ω3 hd2 ⟨c7, rfl⟩
          obtain ⟨q, hq, rfl⟩ := List.mem_map.mp (List.mem_of_getElem? hd2)
          obtain ⟨⟨u1, u2, u3⟩, un⟩ := hL q hq
          have n1 := peq_ne6 (ts := ts) (e := e) u1 he u3 un
          have n2 := peq_ne6 (ts := q.1) (e := q.2) h1 u3 he fun z => un ⟨z.1.symm, z.2.symm⟩
          obtain ⟨z, r1, r2⟩ := rp_fft
          refine ⟨_, rfl, ?_⟩
          repeat walk_at "ev1"
          refine wp_ownF ?_
          repeat walk_at "ev1"
          refine ⟨_, _, _, rfl, rfl, n1, ?_⟩
          repeat walk_at "ev1"
          refine wp_ownF ?_
          repeat walk_at "ev1"
          refine ⟨_, _, _, rfl, rfl, n2, ?_⟩
          repeat walk_at "ev1"
          refine wp_ownT ?_
          repeat walk_at "ev1"
          refine ⟨_, _, false, true, rfl, rfl, n1, rfl, ?_⟩
          repeat (first | with_reducible refine Eq.mpr (DL.wp_eqn (r1)) ?_ | with_reducible refine Eq.mpr (DL.wp_ofOs (r1)) ?_ | with_reducible refine Eq.mpr (DL.wp_eqn (r2)) ?_ | with_reducible refine Eq.mpr (DL.wp_ofOs (r2)) ?_ | walk_at "ev1")
          exact ⟨_, rfl⟩
        · rintro τ ω3 ⟨c7, rfl⟩
          exact ⟨_, rfl⟩) ?_
      rintro f w9 ⟨c7, rfl⟩
      refine Eq.mpr sw_seq ?_
      refine sw.mono (P := fun f ω' => f = .nx (E6 c2 (some (.d (wD ts e))) c4 (some (.d (plD ts e))) (some (.d (.lst [.bl true, .bl true, .bl true]))) c7 (some (.d (.tup [.tup (ts.map tb), endD e]))) c9 none none)) (by
        repeat walk_at "ev1"
        refine wp_dgT rfl ?_
        repeat walk_at "ev1"
        refine wp_dgE rfl ?_
        repeat walk_at "ev1"
        rfl) ?_
      rintro f w10 rfl
      have l2 : un1 listD [.tup [.tup (ts.map tb), endD e]] = some (.lst [.tup (ts.map tb), endD e]) := rfl
      have it8 : (D.lst [.non, .tup (ts.map tb), .tup [], .str "left", .int 0, .lst [.tup (ts.map tb), endD e], .dic [] [], .tup [.tup (ts.map tb), endD e]]).itemsS = some [.non, .tup (ts.map tb), .tup [], .str "left", .int 0, .lst [.tup (ts.map tb), endD e], .dic [] [], .tup [.tup (ts.map tb), endD e]] := rfl
      repeat walk_at "ev1"
      refine wp_dgT rfl ?_
      repeat (first | with_reducible refine Eq.mpr (DL.wp_eqn (l2)) ?_ | with_reducible refine Eq.mpr (DL.wp_ofOs (l2)) ?_ | with_reducible refine Eq.mpr (DL.wp_eqn (it8)) ?_ | with_reducible refine Eq.mpr (DL.wp_ofOs (it8)) ?_ | walk_at "ev1")
      refine loop_inv (fun i τ _ => ∃ c9, τ = E6 c2 (some (.d (wD ts e))) c4 (some (.d (plD ts e))) (some (.d (.lst [.bl true, .bl true, .bl true]))) c7 (some (.d (.tup [.tup (ts.map tb), endD e]))) c9 none none) ⟨_, rfl⟩ ?_ ?_
      · rintro j d τ ω3 hd2 ⟨c9, rfl⟩
        obtain ⟨i1, y1⟩ : isiA d = some (.bl false) ∧ yk d = true := by
          have hm := List.mem_of_getElem? hd2
          simp only [List.mem_cons, List.not_mem_nil, or_false] at hm
          rcases hm with rfl | rfl | rfl | rfl | rfl | rfl | rfl | rfl <;> exact ⟨rfl, rfl⟩
        have n1 := eq_not ts e d i1
        obtain ⟨z, r1, r2⟩ := rp_ft
        refine ⟨_, rfl, ?_⟩
        repeat walk_at "ev1"
        refine wp_ownF ?_
        repeat walk_at "ev1"
        refine ⟨_, _, _, rfl, y1, n1, ?_⟩
        repeat walk_at "ev1"
        refine wp_ownT ?_
        repeat walk_at "ev1"
        refine ⟨_, _, false, true, rfl, y1, n1, rfl, ?_⟩
        repeat (first | with_reducible refine Eq.mpr (DL.wp_eqn (r1)) ?_ | with_reducible refine Eq.mpr (DL.wp_ofOs (r1)) ?_ | with_reducible refine Eq.mpr (DL.wp_eqn (r2)) ?_ | with_reducible refine Eq.mpr (DL.wp_ofOs (r2)) ?_ | walk_at "ev1")
        exact ⟨_, rfl⟩
      · rintro τ ω3 ⟨c9, rfl⟩
        exact ⟨_, _, _, _, _, _, _, _, rfl⟩
    · rintro τ ω ⟨c2, c3, c4, c5, c6, c7, c8, c9, rfl⟩
      exact ⟨_, _, _, _, _, _, _, _, rfl⟩) ?_
  rintro f ω ⟨c2, c3, c4, c5, c6, c7, c8, c9, rfl⟩
  refine Eq.mpr sw_seq ?_
  refine sw.mono (P := fun f _ => ∃ ts : List Tab, GT ts ∧ ts.length = 6 ∧ f = .nx (E6 c2 c3 c4 c5 c6 c7 c8 c9 (some (.d (.lst (ts.map tb)))) none)) (by
    have it : (D.tup [.int 2, .int 4, .int 3, .int 3, .int 2, .int 5]).itemsS = some [.int 2, .int 4, .int 3, .int 3, .int 2, .int 5] := rfl
    repeat (first | with_reducible refine Eq.mpr (DL.wp_eqn (it)) ?_ | with_reducible refine Eq.mpr (DL.wp_ofOs (it)) ?_ | walk_at "ev1")
    refine lc_inv (fun i acc _ => ∃ ts : List Tab, acc = ts.map tb ∧ GT ts ∧ ts.length = i) ⟨[], rfl, .nil, rfl⟩ ?_ ?_
    · rintro i d acc ω2 hd ⟨ts, rfl, h1, h2⟩
      obtain ⟨k, rfl, k1, k2⟩ : ∃ k : Nat, d = .int (k : Nat) ∧ 2 ≤ k ∧ k ≤ 5 := by
        have hm := List.mem_of_getElem? hd
        simp only [List.mem_cons, List.not_mem_nil, or_false] at hm
        rcases hm with rfl | rfl | rfl | rfl | rfl | rfl
        · exact ⟨2, rfl, by omega, by omega⟩
        · exact ⟨4, rfl, by omega, by omega⟩
        · exact ⟨3, rfl, by omega, by omega⟩
        · exact ⟨3, rfl, by omega, by omega⟩
        · exact ⟨2, rfl, by omega, by omega⟩
        · exact ⟨5, rfl, by omega, by omega⟩
      obtain ⟨t, ω4, e4, ht, hz⟩ := any_ok k ω2 (by omega) (by omega)
      refine ⟨_, rfl, ?_⟩
      repeat (first | with_reducible refine Eq.mpr (DL.wp_eqn (e4)) ?_ | with_reducible refine Eq.mpr (DL.wp_ofOs (e4)) ?_ | walk_at "ev1")
      exact ⟨ts ++ [t], by simp, h1.snoc ⟨ht, by omega⟩, by simp [h2]⟩
    · rintro acc ω2 ⟨ts, rfl, h1, h2⟩
      exact ⟨_, rfl, ts, h1, h2, rfl⟩) ?_
  rintro f ω2 ⟨ts, h1, h2, rfl⟩
  refine Eq.mpr sw_seq ?_
  refine sw.mono (P := fun f _ => ∃ c3 c11, f = .nx (E6 c2 c3 c4 c5 c6 c7 c8 c9 (some (.d (.lst (ts.map tb)))) c11)) (by
    have it : (D.lst [.int 1, .int 5, .int 6]).itemsS = some [.int 1, .int 5, .int 6] := rfl
    repeat (first | with_reducible refine Eq.mpr (DL.wp_eqn (it)) ?_ | with_reducible refine Eq.mpr (DL.wp_ofOs (it)) ?_ | walk_at "ev1")
    refine loop_inv (fun i τ _ => ∃ c3 c11, τ = E6 c2 c3 c4 c5 c6 c7 c8 c9 (some (.d (.lst (ts.map tb)))) c11) ⟨_, _, rfl⟩ ?_ ?_
    · rintro j d τ ω3 hd2 ⟨c3, c11, rfl⟩
      obtain ⟨n, rfl, n1, n6⟩ : ∃ n : Nat, d = .int (n : Nat) ∧ 1 ≤ n ∧ n ≤ 6 := by
        have hm := List.mem_of_getElem? hd2
        simp only [List.mem_cons, List.not_mem_nil, or_false] at hm
        rcases hm with rfl | rfl | rfl
        · exact ⟨1, rfl, by omega, by omega⟩
        · exact ⟨5, rfl, by omega, by omega⟩
        · exact ⟨6, rfl, by omega, by omega⟩
      obtain ⟨us, ω4, e4, pu⟩ := mixed_tabs ω3 ts (by omega)
      have gu : GT (us.take n) := fun t ht => h1 t (pu.mem_iff.mp (List.mem_of_mem_take ht))
      have lu : (us.take n).length = n := by rw [List.length_take, pu.length_eq, h2]; omega
      have ok : (PEnd.rnd (us.take n)).ok := ⟨fun z => by rw [z] at lu; simp at lu; omega, by omega, gu⟩
      have tI : (D.int (n : Nat)).toI = some (some (n : Int)) := rfl
      have sl := sl_lst_to us n
      have tp : un1 tupleD [.lst ((us.take n).map tb)] = some (endD (.rnd (us.take n))) := rfl
      have lm := law_made_ok ts (.rnd (us.take n)) h1 ok
      have pr := right_ok ts (.rnd (us.take n)) h1 (by omega) ok
      refine ⟨_, rfl, ?_⟩
      repeat (first | with_reducible refine Eq.mpr (DL.wp_eqn (e4)) ?_ | with_reducible refine Eq.mpr (DL.wp_ofOs (e4)) ?_ | with_reducible refine Eq.mpr (DL.wp_eqn (tI)) ?_ | with_reducible refine Eq.mpr (DL.wp_ofOs (tI)) ?_ | with_reducible refine Eq.mpr (DL.wp_eqn (sl)) ?_ | with_reducible refine Eq.mpr (DL.wp_ofOs (sl)) ?_ | with_reducible refine Eq.mpr (DL.wp_eqn (tp)) ?_ | with_reducible refine Eq.mpr (DL.wp_ofOs (tp)) ?_ | with_reducible refine Eq.mpr (DL.wp_eqn (lm)) ?_ | with_reducible refine Eq.mpr (DL.wp_ofOs (lm)) ?_ | walk_at "ev1")
      refine wp_dgP rfl ?_
      repeat (first | with_reducible refine Eq.mpr (DL.wp_eqn (pr)) ?_ | with_reducible refine Eq.mpr (DL.wp_ofOs (pr)) ?_ | walk_at "ev1")
      exact ⟨_, _, rfl⟩
    · rintro τ ω3 ⟨c3, c11, rfl⟩
      exact ⟨_, _, rfl⟩) ?_
  rintro f ω3 ⟨c3, c11, rfl⟩
  refine swk (f0 := .rt (.bl true)) (by kernel_rfl) ?_
  rfl
theorem law_true : ∀ ns : List Int, ns.length ≤ 63 → ∃ ω', runS B_law tau0 (srcOf ns) = .ok (.bl true) ω' := by
  intro ns _
  obtain ⟨d, ω', e, rfl⟩ := (law_wp ns).ex
  exact ⟨ω', e⟩
end Lk
open PySem PySem.W PyProof.Rows in
set_option maxRecDepth 100000 in
set_option maxHeartbeats 0 in
theorem PySem.Challenge.cw_lumpplans_k06_plans_asked_holds : PySem.Challenge.rw_lumpplans_k06_plans_asked.Holds := by
  w_on; o_law; k_head; (case hw => w_witness2)
  k_fill
  refine Lk.walk (l := PySem.Challenge.rw_lumpplans_k06_plans_asked) rfl rfl (fun w h Y => PySem.W.kIn_of Y) ?F
  case F =>
    intro w mg fa h KX G hmg
    refine' Lk.all_mk Lk.law_true KX G hmg ?aC ?pg ?hd ?po ?sa ?mk ?kc ?n_end ?n_tables ?tca ?tcn ?tct ?tcm ?tki ?tkb ?tne ?tkq ?tkr ?a0 ?l0 ?c0 ?k0 ?a1 ?l1 ?c1 ?k1 ?a2 ?l2 ?c2 ?k2 ?a3 ?l3 ?c3 ?k3 ?a4 ?l4 ?c4 ?k4 ?a5 ?l5 ?c5 ?k5 ?a6 ?l6 ?c6 ?k6 ?a7 ?l7 ?c7 ?k7 ?a8 ?l8 ?c8 ?k8 ?a9 ?l9 ?c9 ?k9 ?a10 ?l10 ?c10 ?k10 ?a11 ?l11 ?c11 ?k11 ?a12 ?l12 ?c12 ?k12 ?a13 ?l13 ?c13 ?k13 ?a14 ?l14 ?c14 ?k14 ?a15 ?l15 ?c15 ?k15 ?a16 ?l16 ?c16 ?k16 ?a17 ?l17 ?c17 ?k17 ?a18 ?l18 ?c18 ?k18 ?a19 ?i19 ?l19 ?c19 ?k19 ?a20 ?l20 ?c20 ?k20 ?a21 ?l21 ?c21 ?k21 ?a22 ?l22 ?c22 ?k22 ?a23 ?l23 ?c23 ?k23 ?a24 ?i24 ?l24 ?c24 ?k24 ?a25 ?i25 ?l25 ?c25 ?k25 ?a26 ?i26 ?l26 ?c26 ?k26 ?a27 ?l27 ?c27 ?k27 ?a28 ?l28 ?c28 ?k28 ?a29 ?i29 ?l29 ?c29 ?k29 ?a30 ?l30 ?c30 ?k30 ?z_tuple ?z_isinstance ?z_len ?z_enumerate ?z_list ?z_int ?z_abs ?z_max ?z_range ?z_str ?z_repr
    (case aC => k_is)
    (case pg => k_is)
    (case hd => k_is)
    (case po => k_is)
    (case sa => k_is)
    (case mk => k_is)
    (case kc => k_is)
    (case n_end => k_is)
    (case n_tables => k_is)
    (case tca => k_is)
    (case tcn => k_is)
    (case tct => k_is)
    (case tcm => k_is)
    (case tki => k_is)
    (case tkb => k_is)
    (case tne => k_is)
    (case tkq => k_is)
    (case tkr => k_is)
    (case a0 => k_is)
    (case l0 => k_is)
    (case c0 => k_is)
    (case k0 => k_is)
    (case a1 => k_is)
    (case l1 => k_is)
    (case c1 => k_is)
    (case k1 => k_is)
    (case a2 => k_is)
    (case l2 => k_is)
    (case c2 => k_is)
    (case k2 => k_is)
    (case a3 => k_is)
    (case l3 => k_is)
    (case c3 => k_is)
    (case k3 => k_is)
    (case a4 => k_is)
    (case l4 => k_is)
    (case c4 => k_is)
    (case k4 => k_is)
    (case a5 => k_is)
    (case l5 => k_is)
    (case c5 => k_is)
    (case k5 => k_is)
    (case a6 => k_is)
    (case l6 => k_is)
    (case c6 => k_is)
    (case k6 => k_is)
    (case a7 => k_is)
    (case l7 => k_is)
    (case c7 => k_is)
    (case k7 => k_is)
    (case a8 => k_is)
    (case l8 => k_is)
    (case c8 => k_is)
    (case k8 => k_is)
    (case a9 => k_is)
    (case l9 => k_is)
    (case c9 => k_is)
    (case k9 => k_is)
    (case a10 => k_is)
    (case l10 => k_is)
    (case c10 => k_is)
    (case k10 => k_is)
    (case a11 => k_is)
    (case l11 => k_is)
    (case c11 => k_is)
    (case k11 => k_is)
    (case a12 => k_is)
    (case l12 => k_is)
    (case c12 => k_is)
    (case k12 => k_is)
    (case a13 => k_is)
    (case l13 => k_is)
    (case c13 => k_is)
    (case k13 => k_is)
    (case a14 => k_is)
    (case l14 => k_is)
    (case c14 => k_is)
    (case k14 => k_is)
    (case a15 => k_is)
    (case l15 => k_is)
    (case c15 => k_is)
    (case k15 => k_is)
    (case a16 => k_is)
    (case l16 => k_is)
    (case c16 => k_is)
    (case k16 => k_is)
    (case a17 => k_is)
    (case l17 => k_is)
    (case c17 => k_is)
    (case k17 => k_is)
    (case a18 => k_is)
    (case l18 => k_is)
    (case c18 => k_is)
    (case k18 => k_is)
    (case a19 => k_is)
    (case i19 => k_is)
    (case l19 => k_is)
    (case c19 => k_is)
    (case k19 => k_is)
    (case a20 => k_is)
    (case l20 => k_is)
    (case c20 => k_is)
    (case k20 => k_is)
    (case a21 => k_is)
    (case l21 => k_is)
    (case c21 => k_is)
    (case k21 => k_is)
    (case a22 => k_is)
    (case l22 => k_is)
    (case c22 => k_is)
    (case k22 => k_is)
    (case a23 => k_is)
    (case l23 => k_is)
    (case c23 => k_is)
    (case k23 => k_is)
    (case a24 => k_is)
    (case i24 => k_is)
    (case l24 => k_is)
    (case c24 => k_is)
    (case k24 => k_is)
    (case a25 => k_is)
    (case i25 => k_is)
    (case l25 => k_is)
    (case c25 => k_is)
    (case k25 => k_is)
    (case a26 => k_is)
    (case i26 => k_is)
    (case l26 => k_is)
    (case c26 => k_is)
    (case k26 => k_is)
    (case a27 => k_is)
    (case l27 => k_is)
    (case c27 => k_is)
    (case k27 => k_is)
    (case a28 => k_is)
    (case l28 => k_is)
    (case c28 => k_is)
    (case k28 => k_is)
    (case a29 => k_is)
    (case i29 => k_is)
    (case l29 => k_is)
    (case c29 => k_is)
    (case k29 => k_is)
    (case a30 => k_is)
    (case l30 => k_is)
    (case c30 => k_is)
    (case k30 => k_is)
    (case z_tuple => k_is)
    (case z_isinstance => k_is)
    (case z_len => k_is)
    (case z_enumerate => k_is)
    (case z_list => k_is)
    (case z_int => k_is)
    (case z_abs => k_is)
    (case z_max => k_is)
    (case z_range => k_is)
    (case z_str => k_is)
    (case z_repr => k_is)
