import PyProof.Rows.All
import Wide.All
import OpenK.AllK
import Wide.FinOn
import HandS.ForMost
import HandS.Wide
import HandS.TupAny
import HandS.TupMul
import HandS.Exc
import HandS.TryOnly
import HandS.WordsExc
import HandS.IsInst
import HandS.Conv
import HandS.Style
import HandS.EndBits
import HandS.Ends
import PyProof.ReprRoads
import HandS.RaiseMore
import HandS.Deep
import KE.GoesEnum
import KE.GoesMore
import HandS.SortInts
import HandS.WideBits
import HandS.WideMore
import HandS.NoneIn
import HandS.SetKeys
import HandS.Defaults
import HandS.OwnEq
import PyProof.InstNe
import HandS.ExcOwn
import PyProof.NeKinds
import HandS.ListEq
import HandS.Flow
import HandS.Lambda
import KE.KNest
import HandS.MakeKwOnly
import PyProof.LongRange
import HandS.Iter
import HandS.SortRule
import HandS.TupLen
import KE.KDictPairs
import PySem.Challenge.RW_lumpplans_k19_lumps_of_shapes
set_option Elab.async false
set_option linter.all false
set_option maxRecDepth 100000
set_option maxHeartbeats 4000000
namespace DL
open PySem PySem.Spec PyProof.Rows L2
/-- data: what a value stands for, tuples and finished lists by their items -/
inductive D where
  | non
  | bl (b : Bool)
  | int (i : Int)
  | str (x : Str)
  | tup (ds : List D)
  | lst (ds : List D)
  | dic (ks : List Key) (ds : List D)
  | dit (ks : List (List Key)) (ds : List D)
  | ins (fs : List Str) (ds : List D)
section
variable (K : PySem.W.Frag) (im : Addr → Bool)
/-- a list that is not changed any more -/
def SqZ (H : Hp) (a : Addr) (xs : List V) : Prop := ∃ o, H a = some (.frz o (.lst xs))
/-- a tuple that the program made -/
def SqH (_ : PySem.W.Frag) (H : Hp) (a : Addr) (xs : List V) : Prop := H a = some (.tup xs)
mutual
inductive Rep (H : Hp) : V → D → Prop
  | non : Rep H .non .non
  | bl (b : Bool) : Rep H (.bl b) (.bl b)
  | int (i : Int) : Rep H (.int i) (.int i)
  | str (x : Str) : Rep H (.str x) (.str x)
  | tup {a : Addr} {vs : List V} {ds : List D} : SqH K H a vs → RepL H vs ds → Rep H (.ref a) (.tup ds)
  | lst {a : Addr} {vs : List V} {ds : List D} : SqZ H a vs → RepL H vs ds → Rep H (.ref a) (.lst ds)
  | dic {a : Addr} {o : Obj} {ks : List Key} {vs : List V} {ds : List D} : H a = some (.frz o (.dK (ks.zip vs))) → ks.length = vs.length → RepL H vs ds → Rep H (.ref a) (.dic ks ds)
  | dit {a : Addr} {o : Obj} {ks : List (List Key)} {vs : List V} {ds : List D} : H a = some (.frz o (.dT (ks.zip vs))) → ks.length = vs.length → RepL H vs ds → Rep H (.ref a) (.dit ks ds)
  | ins {a C dx : Addr} {fs : List Str} {vs : List V} {ds : List D} : im C = true → 2 ≤ fs.length → H a = some (.ins C dx (fs.zip vs)) → fs.length = vs.length → RepL H vs ds → Rep H (.ref a) (.ins fs ds)
inductive RepL (H : Hp) : List V → List D → Prop
  | nil : RepL H [] []
  | cons {v : V} {vs : List V} {d : D} {ds : List D} : Rep H v d → RepL H vs ds → RepL H (v :: vs) (d :: ds)
end
/-- what stays for ever -/
def stb : HO → Prop
  | .tup _ => True
  | .frz _ _ => True
  | .ext _ => True
  | .ins C _ kvs => im C = true ∧ 2 ≤ kvs.length
  | _ => False
def Sb (H H' : Hp) : Prop := ∀ b o, H b = some o → stb im o → H' b = some o
end
section
variable {K : PySem.W.Frag} {im : Addr → Bool} {H H' H1 H2 : Hp}
theorem Sb.refl : Sb im H H := fun _ _ e _ => e
theorem Sb.trans (a : Sb im H H1) (b : Sb im H1 H2) : Sb im H H2 := fun c o e s => b c o (a c o e s) s
theorem Sb.of (a : Same H H1) : Sb im H H1 := fun c o e _ => a c o e
theorem Sb.sqT {a : Addr} {xs : List V} (s : Sb im H H') (h : SqT K H a xs) : SqT K H' a xs := by
  rcases h with (h | ⟨o, h⟩) | h
  · exact .inl (.inl (s _ _ h trivial))
  · exact .inl (.inr ⟨o, s _ _ h trivial⟩)
  · exact .inr h
theorem Sb.sqZ {a : Addr} {xs : List V} (s : Sb im H H') (h : SqZ H a xs) : SqZ H' a xs := by
  obtain ⟨o, h⟩ := h
  exact ⟨o, s _ _ h trivial⟩
theorem SqH.q {a : Addr} {xs : List V} (h : SqH K H a xs) : SqT K H a xs := .inl (.inl h)
instance {a : Addr} {xs : List V} : Coe (SqH K H a xs) (SqT K H a xs) := ⟨SqH.q⟩
theorem Sb.sqH {a : Addr} {xs : List V} (s : Sb im H H') (h : SqH K H a xs) : SqH K H' a xs := s _ _ h trivial
theorem SqZ.l {a : Addr} {xs : List V} (h : SqZ H a xs) : SqL K H a xs := .inl (.inr h)
mutual
theorem Rep.mono (s : Sb im H H') : ∀ (d : D) (v : V), Rep K im H v d → Rep K im H' v d
  | .non, _, h => by cases h; exact .non
  | .bl _, _, h => by cases h; exact .bl _
  | .int _, _, h => by cases h; exact .int _
  | .str _, _, h => by cases h; exact .str _
  | .tup ds, _, h => by
    cases h with
    | tup h1 h2 => exact .tup (s.sqH h1) (RepL.mono s ds _ h2)
  | .lst ds, _, h => by
    cases h with
    | lst h1 h2 => exact .lst (s.sqZ h1) (RepL.mono s ds _ h2)
  | .dic ks ds, _, h => by
    cases h with
    | dic h1 h2 h3 => exact .dic (s _ _ h1 trivial) h2 (RepL.mono s ds _ h3)
  | .dit ks ds, _, h => by
    cases h with
    | dit h1 h2 h3 => exact .dit (s _ _ h1 trivial) h2 (RepL.mono s ds _ h3)
  | .ins fs ds, _, h => by
    cases h with
    | ins h0 h01 h1 h2 h3 => exact .ins h0 h01 (s _ _ h1 ⟨h0, by rw [List.length_zip, ← h2, Nat.min_self]; exact h01⟩) h2 (RepL.mono s ds _ h3)
theorem RepL.mono (s : Sb im H H') : ∀ (ds : List D) (vs : List V), RepL K im H vs ds → RepL K im H' vs ds
  | [], _, h => by cases h; exact .nil
  | d :: ds, _, h => by
    cases h with
    | cons h1 h2 => exact .cons (Rep.mono s d _ h1) (RepL.mono s ds _ h2)
end
theorem Rep.up {d : D} {v : V} (h : Rep K im H v d) (s : Sb im H H') : Rep K im H' v d := Rep.mono s d v h
theorem RepL.up {ds : List D} {vs : List V} (h : RepL K im H vs ds) (s : Sb im H H') : RepL K im H' vs ds := RepL.mono s ds vs h
theorem RepL.length : ∀ {ds : List D} {vs : List V}, RepL K im H vs ds → vs.length = ds.length
  | [], _, h => by cases h; rfl
  | _ :: ds, _, h => by
    cases h with
    | cons _ h2 => simp [RepL.length h2]
theorem RepL.get : ∀ {ds : List D} {vs : List V} {i : Nat} {d : D}, RepL K im H vs ds → ds[i]? = some d → ∃ v, vs[i]? = some v ∧ Rep K im H v d
  | [], _, _, _, h, e => by simp at e
  | _ :: ds, _, 0, d, h, e => by
    cases h with
    | cons h1 _ => simp at e; subst e; exact ⟨_, rfl, h1⟩
  | _ :: ds, _, i + 1, d, h, e => by
    cases h with
    | cons _ h2 =>
      obtain ⟨v, e1, r⟩ := RepL.get (i := i) h2 (by simpa using e)
      exact ⟨v, by simpa using e1, r⟩
theorem RepL.append : ∀ {ds es : List D} {vs ws : List V}, RepL K im H vs ds → RepL K im H ws es → RepL K im H (vs ++ ws) (ds ++ es)
  | [], _, _, _, h, k => by cases h; exact k
  | _ :: _, _, _, _, h, k => by
    cases h with
    | cons h1 h2 => exact .cons h1 (RepL.append h2 k)
theorem RepL.take : ∀ {ds : List D} {vs : List V} (n : Nat), RepL K im H vs ds → RepL K im H (vs.take n) (ds.take n)
  | _, _, 0, _ => by simp; exact .nil
  | [], _, n + 1, h => by cases h; simp; exact .nil
  | _ :: _, _, n + 1, h => by
    cases h with
    | cons h1 h2 => exact .cons h1 (RepL.take n h2)
theorem RepL.drop : ∀ {ds : List D} {vs : List V} (n : Nat), RepL K im H vs ds → RepL K im H (vs.drop n) (ds.drop n)
  | _, _, 0, h => h
  | [], _, n + 1, h => by cases h; simp; exact .nil
  | _ :: _, _, n + 1, h => by
    cases h with
    | cons h1 h2 => exact RepL.drop n h2
theorem RepL.reverse {ds : List D} {vs : List V} (h : RepL K im H vs ds) : RepL K im H vs.reverse ds.reverse := by
  induction ds generalizing vs with
  | nil => cases h; exact .nil
  | cons d ds ih =>
    cases h with
    | cons h1 h2 =>
      rw [List.reverse_cons, List.reverse_cons]
      exact RepL.append (ih h2) (.cons h1 .nil)
theorem RepL.rep {ds : List D} {vs : List V} (h : RepL K im H vs ds) : ∀ k : Nat, RepL K im H (List.replicate k vs).flatten (List.replicate k ds).flatten
  | 0 => .nil
  | k + 1 => by
    rw [List.replicate_succ, List.replicate_succ, List.flatten_cons, List.flatten_cons]
    exact RepL.append h (RepL.rep h k)
theorem RepL.one {v : V} {d : D} (h : Rep K im H v d) : RepL K im H [v] [d] := .cons h .nil
theorem RepL.dropLast {ds : List D} {vs : List V} (h : RepL K im H vs ds) : RepL K im H vs.dropLast ds.dropLast := by
  rw [List.dropLast_eq_take, List.dropLast_eq_take, h.length]
  exact h.take _
end
section
variable {X : Cx} {pins : List (Addr × Obj)} {σ : L2.St} {H : Hp} {s : Shared} {a : Addr} {xs : List V}
theorem Inv.freeze (I : Inv X pins σ H s) (h : H a = some (.lst xs)) : ∃ o, Inv X pins σ (upd H a (.frz o (.lst xs))) s := by
  obtain ⟨z, its, n, r, e⟩ := I.hok a _ h
  have ha : ∀ b, H b = none → b ≠ a := fun b hb q => by rw [q, h] at hb; cases hb
  have hne : ∀ b u, H b = some u → u ≠ .lst xs → b ≠ a := fun b u hb hu q => by rw [q, h] at hb; exact hu (Option.some.inj hb).symm
  refine ⟨{ cls := .type "list", data := .seq its.toArray n }, ⟨I.ok, I.os, I.bare, ⟨I.base.keep, I.base.slot, fun b ob q n hx => ?_, I.base.there, fun b ys q => ?_, fun b ob u q => ?_, fun b ps q => ?_⟩, I.loc, I.cell, ?_, fun x c q => ?_, fun p hp => ?_, fun b u q => ?_, I.len⟩⟩
  · have k := I.base.free b ob q n hx
    rw [upd_ne (ha b k)]; exact k
  · have k := I.base.tups b ys q
    rw [upd_ne (hne b _ k (by intro z; cases z))]; exact k
  · have k := I.base.frzs b ob u q
    rw [upd_ne (hne b _ k (by intro z; cases z))]; exact k
  · obtain ⟨m, k⟩ := I.base.tbls b ps q
    exact ⟨m, by rw [upd_ne (hne b _ k (by intro z; cases z))]; exact k⟩
  · rw [upd_ne (ha _ I.free)]; exact I.free
  · have k := I.freeC x c q
    rw [upd_ne (ha _ k)]; exact k
  · obtain ⟨p1, p2, p3⟩ := I.pin p hp
    exact ⟨p1, by rw [upd_ne (ha _ p2)]; exact p2, p3⟩
  · have own : ∀ c y, H c = some (.own y) → upd H a (.frz { cls := .type "list", data := .seq its.toArray n } (.lst xs)) c = some (.own y) := fun c y k => by
      rw [upd_ne (hne c _ k (by intro z; cases z))]; exact k
    have tup : ∀ c ys, H c = some (.tup ys) → upd H a (.frz { cls := .type "list", data := .seq its.toArray n } (.lst xs)) c = some (.tup ys) := fun c ys k => by
      rw [upd_ne (hne c _ k (by intro z; cases z))]; exact k
    by_cases hb : b = a
    · subst hb
      rw [upd_same] at q
      cases q
      exact ⟨e, z, its, n, r, e⟩
    · rw [upd_ne hb] at q
      exact (I.hok b u q).stay (fun _ _ _ k => k) (fun c k => own c b k) tup
/-- what e gives, a new list, finished -/
def tFrz (te : TE) : TE := fun σ H Q => te σ H fun v H1 => ∃ a xs, v = .ref a ∧ H1 a = some (.lst xs) ∧ ∀ o, Q (.ref a) (upd H1 a (.frz o (.lst xs)))
theorem EP.freeze {Q : VK} {u : Value} {s' : Shared} (h : EP X pins σ (fun v H1 => ∃ a xs, v = .ref a ∧ H1 a = some (.lst xs) ∧ ∀ o, Q (.ref a) (upd H1 a (.frz o (.lst xs)))) u s') : EP X pins σ Q u s' := by
  obtain ⟨v, H1, I, r, a, xs, rfl, ha, q⟩ := h
  obtain ⟨o, J⟩ := Inv.freeze I ha
  exact ⟨_, _, J, r, q o⟩
theorem pe_frz {e : Expr} {te : TE} (h : PE X e te) : PE X e (tFrz te) :=
  ⟨fun pins s σ H Q I q => thn (h.run pins s σ H _ I q) fun _ _ h => EP.freeze h⟩
end
end DL
namespace DL
open PySem PySem.Spec PyProof.Rows L2
theorem tuple_mul1 (l : Addr) (items : Array Value) (n : Nat) (dd : Option Addr) (sl : Array (Option Value)) (u : Tok) :
    Meets (Builtin.«tuple.__mul__» ⟨[.ref l, .int 1 u], []⟩) (fun _ R s => s.heap.get? l = some { cls := .type "tuple", dict := dd, data := .seq items n, slots := sl } ∧ R (.ok (.ret (.ref l))) s) :=
  .of_wp fun prog w A R s h => by
    obtain ⟨hp, g, d, tk, os⟩ := s
    obtain ⟨hl, h⟩ := h
    have f1 := AutoSeq1.idx_int
    wp_walk using wpAny_loadPart' hl
    have c1 : (items.isEmpty || (1 : Int) == 1) = true := by rw [Bool.or_eq_true]; exact .inr (by decide)
    repeat (first
      | (refine wpAny_ite_false (by decide) ?_; wp_walk using wpAny_loadPart' hl)
      | (refine wpAny_ite_true c1 ?_; wp_walk using wpAny_loadPart' hl)
      | (refine wpAny_ite_true (decide_eq_true c1) ?_; wp_walk using wpAny_loadPart' hl))
    exact ⟨_, rfl, h⟩
theorem tuple_mul0 (l : Addr) (items : Array Value) (n : Nat) (dd : Option Addr) (sl : Array (Option Value)) (x : Int) (u : Tok) (hx : x ≤ 0) (h0 : -(2 ^ 63) ≤ x) (hi : items.isEmpty = false) :
    Meets (Builtin.«tuple.__mul__» ⟨[.ref l, .int x u], []⟩) (fun _ R s => s.heap.get? l = some { cls := .type "tuple", dict := dd, data := .seq items n, slots := sl } ∧ R (.ok (.ret (.ref s.heap.objs.size))) { s with heap := s.heap.push { cls := Value.type "tuple", data := Data.seq #[] }, toks := s.toks }) :=
  .of_wp fun prog w A R s h => by
    obtain ⟨hp, g, d, tk, os⟩ := s
    obtain ⟨hl, h⟩ := h
    have f1 := AutoSeq1.idx_int
    have c0 : (decide (x < -(2 ^ 63)) || decide (x ≥ 2 ^ 63)) = false := by
      rw [decide_eq_false (by omega), decide_eq_false (by omega)] <;> rfl
    have c1 : (items.isEmpty || x == 1) = false := by
      rw [hi, Bool.false_or]
      exact beq_eq_false_iff_ne.mpr (by omega)
    have c2 : (decide (x ≤ 0) || items.isEmpty) = true := by
      rw [decide_eq_true hx]; rfl
    wp_walk using wpAny_loadPart' hl
    repeat (first
      | (refine wpAny_ite_false (decide_eq_false (by rw [c0]; exact Bool.false_ne_true)) ?_; wp_walk using wpAny_loadPart' hl)
      | (refine wpAny_ite_false (decide_eq_false (by rw [c1]; exact Bool.false_ne_true)) ?_; wp_walk using wpAny_loadPart' hl)
      | (refine wpAny_ite_true (decide_eq_true c2) ?_; wp_walk using wpAny_loadPart' hl))
    exact ⟨_, rfl, h⟩
def rRepT01 (K : PySem.W.Frag) : R2 := fun x y H Q => ∃ l k xs, x = .ref l ∧ y = .int k ∧ SqT K H l xs ∧ xs ≠ [] ∧ ((k = 1 ∧ Q (.ref l) H) ∨ (-(2 ^ 63) ≤ k ∧ k ≤ 0 ∧ ∀ p, H p = none → Q (.ref p) (upd H p (.tup []))))
section
variable {X : Cx}
theorem op_repT01 : OpR X (binaryOp .Mult) (rRepT01 X.K) := by
  intro pins s σ H x y v u Q I rx ry h
  obtain ⟨l, k, xs, rfl, rfl, hT, hne, q⟩ := h
  cases rx
  obtain ⟨t, rfl⟩ := ry
  obtain ⟨its, r, ⟨⟨cls, dd, data, sl⟩, ho, hc, n, hd⟩, hs⟩ := I.tuple hT
  simp only at hc hd
  subst hc hd
  have hle : its.length = xs.length := r.length.symm
  have hn : its ≠ [] := fun e => hne (by
    rw [e] at hle
    exact List.eq_nil_of_length_eq_zero hle.symm)
  have hi : its.toArray.isEmpty = false := by
    cases its with
    | nil => exact absurd rfl hn
    | cons a b => rfl
  rcases q with ⟨rfl, q⟩ | ⟨h0, h1, q⟩
  · refine wpAny_binaryOp_repeat_ref (T := "tuple") (U := "int") (by decide) ⟨_, ho, rfl⟩ (fun s' => typeIs_int s' 1 t) noFill_tuple_mul F.fills_int_mul F.slot_int_rmul repeat_tuple F.slot_int_index.lookup
      (call_meets F.slot_int_rmul (typeIs_int s 1 t) F.entry_int_rmul (F.args_int_rmul_2 _ _) (int_rmul_tuple 1 t l its.toArray n dd sl)
        ⟨ho, rfl, ⟨_, ho, rfl⟩, call_meets F.slot_tuple_mul ⟨_, ho, rfl⟩ F.entry_tuple_mul (F.args_tuple_mul_2 _ _) (tuple_mul1 l its.toArray n dd sl t) ⟨ho, ?_⟩⟩)
    exact ⟨.ref l, H, I, rfl, q⟩
  · refine wpAny_binaryOp_repeat_ref (T := "tuple") (U := "int") (by decide) ⟨_, ho, rfl⟩ (fun s' => typeIs_int s' k t) noFill_tuple_mul F.fills_int_mul F.slot_int_rmul repeat_tuple F.slot_int_index.lookup
      (call_meets F.slot_int_rmul (typeIs_int s k t) F.entry_int_rmul (F.args_int_rmul_2 _ _) (int_rmul_tuple k t l its.toArray n dd sl)
        ⟨ho, rfl, ⟨_, ho, rfl⟩, call_meets F.slot_tuple_mul ⟨_, ho, rfl⟩ F.entry_tuple_mul (F.args_tuple_mul_2 _ _) (tuple_mul0 l its.toArray n dd sl k t h1 h0 hi) ⟨ho, ?_⟩⟩)
    refine ⟨.ref s.heap.objs.size, _, I.laid (t' := s.toks) (o := .tup []) (fun b ob q => Heap.get?_push_of_some _ q) (Nat.le_refl _) ?_, rfl, q _ (I.hok.fresh (Nat.le_refl _))⟩
    exact ⟨by show 0 ≤ sizeLine; exact Nat.zero_le _, [], .nil, IsTup.new _ _⟩
end
mutual
def D.py : D → Option PyData
  | .non => some .none
  | .bl b => some (.bool b)
  | .int i => some (.int i)
  | .str x => some (.str x)
  | .tup ds => (D.pyL ds).map .tuple
  | .lst ds => (D.pyL ds).map .list
  | .dic _ _ => none
  | .dit _ _ => none
  | .ins _ _ => none
def D.pyL : List D → Option (List PyData)
  | [] => some []
  | d :: r => match D.py d, D.pyL r with
    | some x, some y => some (x :: y)
    | _, _ => none
end
section
variable {K : PySem.W.Frag} {im : Addr → Bool} {H : Hp}
mutual
theorem Rep.dp : ∀ (d : D) (v : V) (p : PyData), Rep K im H v d → d.py = some p → Dp K H v p
  | .non, _, _, h, e => by cases h; simp [D.py] at e; subst e; exact .non
  | .bl b, _, _, h, e => by cases h; simp [D.py] at e; subst e; exact .bl b
  | .int b, _, _, h, e => by cases h; simp [D.py] at e; subst e; exact .int b
  | .str b, _, _, h, e => by cases h; simp [D.py] at e; subst e; exact .str b
  | .tup ds, _, _, h, e => by
    cases h with
    | tup h1 h2 =>
      cases q : D.pyL ds with
      | none => simp [D.py, q] at e
      | some ps =>
        simp [D.py, q] at e
        subst e
        exact .tup h1 (RepL.dp ds _ ps h2 q)
  | .lst ds, _, _, h, e => by
    cases h with
    | lst h1 h2 =>
      cases q : D.pyL ds with
      | none => simp [D.py, q] at e
      | some ps =>
        simp [D.py, q] at e
        subst e
        exact .lst h1.l (RepL.dp ds _ ps h2 q)
  | .dic _ _, _, _, _, e => by simp [D.py] at e
  | .dit _ _, _, _, _, e => by simp [D.py] at e
  | .ins _ _, _, _, _, e => by simp [D.py] at e
theorem RepL.dp : ∀ (ds : List D) (vs : List V) (ps : List PyData), RepL K im H vs ds → D.pyL ds = some ps → DpAll K H vs ps
  | [], _, _, h, e => by cases h; simp [D.pyL] at e; subst e; exact .nil
  | d :: ds, _, _, h, e => by
    cases h with
    | cons h1 h2 =>
      cases q1 : D.py d with
      | none => simp [D.pyL, q1] at e
      | some p =>
        cases q2 : D.pyL ds with
        | none => simp [D.pyL, q1, q2] at e
        | some ps =>
          simp [D.pyL, q1, q2] at e
          subst e
          exact .cons (Rep.dp d _ p h1 q1) (RepL.dp ds _ ps h2 q2)
end
end
def eqB (d e : D) : Option Bool := match d.py, e.py with
  | some p, some q => if p.canLay0 = true ∧ q.canLay0 = true ∧ min p.depth q.depth ≤ 150 then some (PyData.eqv p q) else none
  | _, _ => none
def eqD (d e : D) : Option D := (eqB d e).map .bl
def neD (d e : D) : Option D := (eqB d e).map fun b => .bl (!b)
def addD : D → D → Option D
  | .int i, .int j => some (.int (i + j))
  | .str x, .str y => if x.length + y.length ≤ sizeLine then some (.str (x ++ y)) else none
  | .tup xs, .tup ys => if xs.length + ys.length ≤ sizeLine then some (.tup (xs ++ ys)) else none
  | .lst xs, .lst ys => if xs.length + ys.length ≤ sizeLine then some (.lst (xs ++ ys)) else none
  | _, _ => none
def subD : D → D → Option D
  | .int i, .int j => some (.int (i - j))
  | _, _ => none
instance {i j : Int} : Decidable (CMul i j) := by unfold CMul; infer_instance
instance {i j : Int} : Decidable (CMulW i j) := by unfold CMulW; infer_instance
def mulD : D → D → Option D
  | .int i, .int j => if CMul i j ∨ CMulW i j then some (.int (i * j)) else none
  | .lst xs, .int k => if -(2 ^ 63) ≤ k ∧ k < 2 ^ 63 ∧ xs.length * k.toNat ≤ sizeLine then some (.lst (List.replicate k.toNat xs).flatten) else none
  | .tup xs, .int k => if xs ≠ [] ∧ 2 ≤ k ∧ k ≤ 1000 ∧ xs.length ≤ 1000 then some (.tup (List.replicate k.toNat xs).flatten) else if xs ≠ [] ∧ k = 1 then some (.tup xs) else if xs ≠ [] ∧ -(2 ^ 63) ≤ k ∧ k ≤ 0 then some (.tup []) else none
  | _, _ => none
instance {i j : Int} : Decidable (CDivW i j) := by unfold CDivW; infer_instance
def fdivD : D → D → Option D
  | .int i, .int j => if CDivW i j then some (.int (i / j)) else none
  | _, _ => none
def modD : D → D → Option D
  | .int i, .int j => if 0 < j then some (.int (i % j)) else none
  | _, _ => none
def cmpD (f : Int → Int → Bool) : D → D → Option D
  | .int i, .int j => some (.bl (f i j))
  | _, _ => none
def ltD : D → D → Option D := cmpD fun i j => decide (i < j)
def gtD : D → D → Option D := cmpD fun i j => decide (j < i)
def isND : D → D → Option D
  | .non, .non => some (.bl true)
  | _, .non => some (.bl false)
  | .bl a, .bl b => some (.bl (decide (a = b)))
  | _, _ => none
def ixD : D → D → Option D
  | .tup xs, .int i => atI xs i
  | .lst xs, .int i => atI xs i
  | .str z, .int i => if z.length ≤ sizeLine then (atI z.cps.toList i).map fun c => .str ⟨#[c]⟩ else none
  | _, _ => none
def negD : D → Option D
  | .int i => some (.int (-i))
  | _ => none
def cutL {α : Type} (xs : List α) (lo hi : Option Int) : List α := (xs.drop (HT.sIx xs.length 0 lo)).take (HT.sIx xs.length xs.length hi - HT.sIx xs.length 0 lo)
def sliceD : D → Option Int → Option Int → Option D
  | .tup xs, lo, hi => some (.tup (cutL xs lo hi))
  | .lst xs, lo, hi => some (.lst (cutL xs lo hi))
  | _, _, _ => none
def lenD : D → Option D
  | .tup xs => some (.int xs.length)
  | .lst xs => some (.int xs.length)
  | .str z => if z.length ≤ sizeLine then some (.int z.length) else none
  | _ => none
def intD : D → Option D
  | .int i => some (.int i)
  | .bl k => some (.int (if k then 1 else 0))
  | _ => none
def max2D : D → D → Option D
  | .int i, .int j => some (.int (if j > i then j else i))
  | _, _ => none
section
variable (K : PySem.W.Frag) (im : Addr → Bool)
/-- what a rule asks of data -/
def rD1 (f : D → Option D) : V → Hp → VK → Prop := fun x H Q => ∃ d z, Rep K im H x d ∧ f d = some z ∧ ∀ v H', Same H H' → Rep K im H' v z → Q v H'
def rD2 (f : D → D → Option D) : R2 := fun x y H Q => ∃ d e z, Rep K im H x d ∧ Rep K im H y e ∧ f d e = some z ∧ ∀ v H', Same H H' → Rep K im H' v z → Q v H'
def rDN (f : List D → Option D) : List V → Hp → VK → Prop := fun xs H Q => ∃ ds z, RepL K im H xs ds ∧ f ds = some z ∧ ∀ v H', Same H H' → Rep K im H' v z → Q v H'
end
section
variable {X : Cx} {im : Addr → Bool} {pins : List (Addr × Obj)} {σ : L2.St} {H : Hp} {s : Shared}
theorem Same.new {H : Hp} {p : Addr} {o : HO} (h : H p = none) : Same H (upd H p o) := fun a u e => by
  rw [upd_ne (ne_of_none e h)]
  exact e
theorem EP.newL {p : Addr} {zs : List V} {ds : List D} {Q : VK} {s' : Shared} (hp : H p = none) (I : Inv X pins σ (upd H p (.lst zs)) s') (r : RepL X.K im H zs ds)
    (q : ∀ v H', Same H H' → Rep X.K im H' v (.lst ds) → Q v H') : EP X pins σ Q (.ref p) s' := by
  obtain ⟨o, J⟩ := Inv.freeze I upd_same
  rw [upd_upd] at J
  have sm : Same H (upd H p (.frz o (.lst zs))) := Same.new hp
  exact ⟨.ref p, _, J, rfl, q _ _ sm (.lst ⟨o, upd_same⟩ (r.up (.of sm)))⟩
theorem newT_ {p : Addr} {zs : List V} {ds : List D} {Q : VK} (hp : H p = none) (r : RepL X.K im H zs ds)
    (q : ∀ v H', Same H H' → Rep X.K im H' v (.tup ds) → Q v H') : Q (.ref p) (upd H p (.tup zs)) := by
  have sm : Same H (upd H p (.tup zs)) := Same.new hp
  exact q _ _ sm (.tup upd_same (r.up (.of sm)))
theorem Inv.zlst {l : Addr} {xs : List V} (I : Inv X pins σ H s) (h : SqZ H l xs) : xs.length ≤ sizeLine ∧ ∃ (its : List Value) (n : Nat), Vals xs its ∧ xs.length = its.length ∧ s.heap.get? l = some { cls := .type "list", data := .seq its.toArray n } := by
  obtain ⟨o, h⟩ := h
  obtain ⟨_, z, its, n, r, e⟩ := I.hok l _ h
  exact ⟨z, its, n, r, r.length, e⟩
theorem atI_len {α β : Type} {xs : List α} {ys : List β} {i : Int} {d : α} (hl : ys.length = xs.length) (h : atI xs i = some d) : ∃ j : Nat, atI ys i = ys[j]? ∧ xs[j]? = some d := by
  unfold atI at h ⊢
  rw [hl]
  cases e : ixN xs.length i with
  | none => rw [e] at h; cases h
  | some j => rw [e] at h; exact ⟨j, rfl, h⟩
theorem RepL.at {ds : List D} {vs : List V} {i : Int} {d : D} {K : PySem.W.Frag} (h : RepL K im H vs ds) (e : atI ds i = some d) : ∃ v, atI vs i = some v ∧ Rep K im H v d := by
  obtain ⟨j, e1, e2⟩ := atI_len h.length e
  obtain ⟨v, e3, r⟩ := h.get e2
  exact ⟨v, by rw [e1, e3], r⟩
theorem RepL.cut {ds : List D} {vs : List V} {K : PySem.W.Frag} (h : RepL K im H vs ds) (lo hi : Option Int) : RepL K im H (cutL vs lo hi) (cutL ds lo hi) := by
  unfold cutL
  rw [h.length]
  exact (h.drop _).take _
theorem op_addD : OpR X (binaryOp .Add) (rD2 X.K im addD) := by
  intro pins s σ H x y v u Q I rx ry h
  obtain ⟨d, e, z, hd, he, hz, q⟩ := h
  cases hd with
  | int i =>
    cases he with
    | int j =>
      simp [addD] at hz; subst hz
      exact op_add pins s σ H _ _ v u Q I rx ry ⟨i, j, rfl, rfl, q _ _ (Same.refl _) (.int _)⟩
    | _ => simp [addD] at hz
  | str i =>
    cases he with
    | str j =>
      simp [addD] at hz
      obtain ⟨hl, rfl⟩ := hz
      exact op_add_str pins s σ H _ _ v u Q I rx ry ⟨i, j, rfl, rfl, hl, q _ _ (Same.refl _) (.str _)⟩
    | _ => simp [addD] at hz
  | @tup a vs ds h1 h2 =>
    cases he with
    | @tup b ws es h3 h4 =>
      simp [addD] at hz
      obtain ⟨hl, rfl⟩ := hz
      have l1 := h2.length
      have l2 := h4.length
      refine op_catA pins s σ H _ _ v u Q I rx ry ⟨a, b, vs, ws, rfl, rfl, h1, h3, by omega, fun e => ?_, fun e e' => ?_, fun _ _ p hp => newT_ hp (h2.append h4) q⟩
      · subst e
        cases h2
        exact q _ _ (Same.refl _) (.tup h3 h4)
      · subst e'
        cases h4
        rw [List.append_nil] at q
        exact q _ _ (Same.refl _) (.tup h1 h2)
    | _ => simp [addD] at hz
  | @lst a vs ds h1 h2 =>
    cases he with
    | @lst b ws es h3 h4 =>
      simp [addD] at hz
      obtain ⟨hl, rfl⟩ := hz
      have l1 := h2.length
      have l2 := h4.length
      cases rx
      cases ry
      obtain ⟨z, its, n, r, hl1, e⟩ := Inv.zlst I h1
      obtain ⟨z2, its2, n2, r2, hl2, e2⟩ := Inv.zlst I h3
      have room : its.toArray.size + its2.toArray.size ≤ sizeLine := by simp only [List.size_toArray]; omega
      have joined : its.toArray ++ its2.toArray = List.toArray (its ++ its2) := List.append_toArray its its2
      refine PySem.P.add_list e e2 (?_ : _) room
      rw [joined]
      exact EP.newL (Inv.fresh I) (Inv.lnew (t' := s.toks) I (r.append r2) (by rw [List.length_append]; omega)) (h2.append h4) q
    | _ => simp [addD] at hz
  | _ => simp [addD] at hz
theorem op_subD : OpR X (binaryOp .Sub) (rD2 X.K im subD) := by
  intro pins s σ H x y v u Q I rx ry h
  obtain ⟨d, e, z, hd, he, hz, q⟩ := h
  cases hd <;> cases he <;> simp [subD] at hz
  subst hz
  exact op_sub pins s σ H _ _ v u Q I rx ry ⟨_, _, rfl, rfl, q _ _ (Same.refl _) (.int _)⟩
theorem join_rep (its : List Value) (m : Nat) : List.foldl (fun x1 x2 => x1 ++ x2) #[] (List.replicate (if its.toArray.isEmpty = true then 0 else m) its.toArray) = (List.replicate m its).flatten.toArray := by
  rcases its with _ | ⟨b, r⟩
  · simp
  · simpa using foldl_rep (b :: r) m []
theorem op_mulD : OpR X (binaryOp .Mult) (rD2 X.K im mulD) := by
  intro pins s σ H x y v u Q I rx ry h
  obtain ⟨d, e, z, hd, he, hz, q⟩ := h
  cases hd with
  | int i =>
    cases he with
    | int j =>
      simp only [mulD] at hz
      split at hz
      · rename_i hc
        cases hz
        rcases hc with hc | hc
        · exact op_mul pins s σ H _ _ v u Q I rx ry ⟨i, j, rfl, rfl, hc, q _ _ (Same.refl _) (.int _)⟩
        · exact op_mulW pins s σ H _ _ v u Q I rx ry ⟨i, j, rfl, rfl, hc, q _ _ (Same.refl _) (.int _)⟩
      · cases hz
    | _ => simp [mulD] at hz
  | @tup a vs ds h1 h2 =>
    cases he with
    | int k =>
      simp only [mulD] at hz
      have l1 := h2.length
      have nev : ds ≠ [] → vs ≠ [] := fun c e => c (by subst e; cases h2; rfl)
      split at hz
      · rename_i hc
        cases hz
        obtain ⟨c1, c2, c3, c4⟩ := hc
        exact op_repT pins s σ H _ _ v u Q I rx ry ⟨a, k, vs, rfl, rfl, h1, nev c1, c2, c3, by omega, fun p hp => newT_ hp (h2.rep _) q⟩
      · split at hz
        · rename_i hc
          cases hz
          exact op_repT01 pins s σ H _ _ v u Q I rx ry ⟨a, k, vs, rfl, rfl, h1, nev hc.1, .inl ⟨hc.2, q _ _ (Same.refl _) (.tup h1 h2)⟩⟩
        · split at hz
          · rename_i hc
            cases hz
            exact op_repT01 pins s σ H _ _ v u Q I rx ry ⟨a, k, vs, rfl, rfl, h1, nev hc.1, .inr ⟨hc.2.1, hc.2.2, fun p hp => newT_ hp .nil q⟩⟩
          · cases hz
    | _ => simp [mulD] at hz
  | @lst a vs ds h1 h2 =>
    cases he with
    | int k =>
      simp only [mulD] at hz
      split at hz
      · rename_i hc
        cases hz
        obtain ⟨c1, c2, c3⟩ := hc
        have l1 := h2.length
        cases rx
        obtain ⟨t, rfl⟩ := ry
        obtain ⟨z, its, n, r, hl, e⟩ := Inv.zlst I h1
        have small : its.toArray.size * k.toNat ≤ sizeLine := by
          simp only [List.size_toArray]
          rw [← hl, l1]
          exact c3
        have below : ¬ (2 ^ 63 - 1) / 8 < its.toArray.size * k.toNat := by
          rw [sizeLine_eq] at small
          omega
        have fits := fitsIndex_both c1 c2
        have short := notLongL small
        refine wpAny_binaryOp_repeat_ref (T := "list") (U := "int") (by decide)
          ⟨_, e, rfl⟩ (fun _ => typeIs_int _ k t) noFill_list_mul F.fills_int_mul
          F.slot_int_rmul repeat_list F.slot_int_index.lookup ?_
        refine call_meets F.slot_int_rmul (typeIs_int s k t) F.entry_int_rmul (F.args_int_rmul_2 _ _)
          (int___rmul___int_list k t a its.toArray n) ⟨e, rfl, ⟨_, e, rfl⟩, ?_⟩
        refine call_meets F.slot_list_mul ⟨_, e, rfl⟩ F.entry_list_mul (F.args_list_mul_2 _ _)
          (AutoListH.list___mul___list_int_3 a its.toArray n k t (by rw [fits]; nofun) below (by rw [short]; nofun)) ⟨e, ?_⟩
        rw [join_rep]
        exact EP.newL (Inv.fresh I) (Inv.lnew (t' := s.toks) I (r.rep k.toNat) (by rw [PyProof.Rows.lm_len_rep_flat, Nat.mul_comm, l1]; exact c3)) (h2.rep _) q
      · cases hz
    | _ => simp [mulD] at hz
  | _ => simp [mulD] at hz
theorem op_fdivD : OpR X (binaryOp .FloorDiv) (rD2 X.K im fdivD) := by
  intro pins s σ H x y v u Q I rx ry h
  obtain ⟨d, e, z, hd, he, hz, q⟩ := h
  cases hd <;> cases he <;> simp [fdivD] at hz
  obtain ⟨hc, rfl⟩ := hz
  exact op_fdivW pins s σ H _ _ v u Q I rx ry ⟨_, _, rfl, rfl, hc, q _ _ (Same.refl _) (.int _)⟩
theorem op_modD : OpR X (binaryOp .Mod) (rD2 X.K im modD) := by
  intro pins s σ H x y v u Q I rx ry h
  obtain ⟨d, e, z, hd, he, hz, q⟩ := h
  cases hd <;> cases he <;> simp [modD] at hz
  obtain ⟨hc, rfl⟩ := hz
  exact op_mod pins s σ H _ _ v u Q I rx ry ⟨_, _, rfl, rfl, hc, q _ _ (Same.refl _) (.int _)⟩
theorem op_cmpD {op : CmpOp} {f : Int → Int → Bool} (ho : OpR X (compareOp op) (rI0 fun i j => .bl (f i j))) : OpR X (compareOp op) (rD2 X.K im (cmpD f)) := by
  intro pins s σ H x y v u Q I rx ry h
  obtain ⟨d, e, z, hd, he, hz, q⟩ := h
  cases hd <;> cases he <;> simp [cmpD] at hz
  subst hz
  exact ho pins s σ H _ _ v u Q I rx ry ⟨_, _, rfl, rfl, q _ _ (Same.refl _) (.bl _)⟩
theorem op_ltD : OpR X (compareOp .Lt) (rD2 X.K im ltD) := op_cmpD op_lt
theorem op_gtD : OpR X (compareOp .Gt) (rD2 X.K im gtD) := op_cmpD op_gt
theorem op_isND : OpR X (compareOp .Is) (rD2 X.K im isND) := by
  intro pins s σ H x y v u Q I rx ry h
  obtain ⟨d, e, z, hd, he, hz, q⟩ := h
  cases he with
  | non =>
    refine op_isN pins s σ H _ _ v u Q I rx ry ⟨rfl, ?_⟩
    cases hd <;> simp [isND] at hz <;> subst hz <;> exact q _ _ (Same.refl _) (.bl _)
  | bl b =>
    cases hd <;> simp only [isND] at hz <;> cases hz
    exact op_isBl pins s σ H _ _ v u Q I rx ry ⟨_, _, rfl, rfl, q _ _ (Same.refl _) (.bl _)⟩
  | _ => cases hd <;> simp [isND] at hz
theorem eqB_some {d e : D} {b : Bool} (h : eqB d e = some b) : ∃ p q, d.py = some p ∧ e.py = some q ∧ p.canLay0 = true ∧ q.canLay0 = true ∧ min p.depth q.depth ≤ 150 ∧ b = PyData.eqv p q := by
  unfold eqB at h
  cases h1 : d.py with
  | none => rw [h1] at h; simp at h
  | some p =>
    cases h2 : e.py with
    | none => rw [h1, h2] at h; simp at h
    | some q =>
      rw [h1, h2] at h
      simp only [Option.ite_none_right_eq_some] at h
      obtain ⟨⟨a, b, c⟩, e⟩ := h
      exact ⟨p, q, rfl, rfl, a, b, c, (Option.some.inj e).symm⟩
theorem op_eqDD (hu : X.A.units + 200 < cLine) : OpR X (compareOp .Eq) (rD2 X.K im eqD) := by
  intro pins s σ H x y v u Q I rx ry h
  obtain ⟨d, e, z, hd, he, hz, q⟩ := h
  unfold eqD at hz
  obtain ⟨b, hb, rfl⟩ := Option.map_eq_some_iff.mp hz
  obtain ⟨p1, p2, e1, e2, c1, c2, c3, rfl⟩ := eqB_some hb
  obtain ⟨as, r1⟩ := Dp.reads I p1 x v (Rep.dp _ _ _ hd e1) rx
  obtain ⟨bs, r2⟩ := Dp.reads I p2 y u (Rep.dp _ _ _ he e2) ry
  exact SeqAt.compareEq_reads r1 r2 c1 c2 (by omega) ⟨.bl _, H, I, rfl, q _ _ (Same.refl _) (.bl _)⟩
theorem op_neDD (hu : X.A.units + 200 < cLine) : OpR X (compareOp .NotEq) (rD2 X.K im neD) := by
  intro pins s σ H x y v u Q I rx ry h
  obtain ⟨d, e, z, hd, he, hz, q⟩ := h
  unfold neD at hz
  obtain ⟨b, hb, rfl⟩ := Option.map_eq_some_iff.mp hz
  obtain ⟨p1, p2, e1, e2, c1, c2, c3, rfl⟩ := eqB_some hb
  obtain ⟨as, r1⟩ := Dp.reads I p1 x v (Rep.dp _ _ _ hd e1) rx
  obtain ⟨bs, r2⟩ := Dp.reads I p2 y u (Rep.dp _ _ _ he e2) ry
  exact SeqAt.compareNe_reads r1 r2 c1 c2 (by omega) ⟨.bl _, H, I, rfl, q _ _ (Same.refl _) (.bl _)⟩
theorem un_negD : UnR X (unaryOp .USub) (rD1 X.K im negD) := by
  intro pins s σ H x v Q I rx h
  obtain ⟨d, z, hd, hz, q⟩ := h
  cases hd <;> simp [negD] at hz
  subst hz
  exact un_neg pins s σ H _ v Q I rx ⟨_, rfl, q _ _ (Same.refl _) (.int _)⟩
theorem ix_D : IxR X (rD2 X.K im ixD) := by
  intro a b pins s σ H x y v u Q I rx ry h
  obtain ⟨d, e, z, hd, he, hz, q⟩ := h
  cases he with
  | int i =>
    cases hd with
    | @tup a' vs ds h1 h2 =>
      obtain ⟨w, e1, r⟩ := h2.at hz
      exact ix_tup a b pins s σ H _ _ v u Q I rx ry ⟨a', vs, i, w, rfl, rfl, h1, e1, q _ _ (Same.refl _) r⟩
    | @lst a' vs ds h1 h2 =>
      obtain ⟨w, e1, r⟩ := h2.at hz
      exact ix_list a b pins s σ H _ _ v u Q I rx ry ⟨a', vs, i, w, rfl, rfl, h1.l, e1, q _ _ (Same.refl _) r⟩
    | str w =>
      simp only [ixD, Option.ite_none_right_eq_some] at hz
      obtain ⟨hl, hz⟩ := hz
      obtain ⟨c, e1, rfl⟩ := Option.map_eq_some_iff.mp hz
      exact ix_str a b pins s σ H _ _ v u Q I rx ry ⟨w, i, c, rfl, rfl, hl, e1, q _ _ (Same.refl _) (.str _)⟩
    | _ => simp [ixD] at hz
  | _ => cases hd <;> simp [ixD] at hz
/-- a slice -/
def rSlD (K : PySem.W.Frag) (im : Addr → Bool) : V → Option Int → Option Int → Hp → VK → Prop := fun x lo hi H Q => ∃ d z, Rep K im H x d ∧ sliceD d lo hi = some z ∧ ∀ v H', Same H H' → Rep K im H' v z → Q v H'
theorem sl_D : SlR X (rSlD X.K im) := by
  intro pins s σ H x v vl vu lo hi sl Q I rx hs pl pu h
  obtain ⟨d, z, hd, hz, q⟩ := h
  cases hd with
  | @tup a vs ds h1 h2 =>
    simp [sliceD] at hz
    subst hz
    refine sl_tupA pins s σ H _ v vl vu lo hi sl Q I rx hs pl pu ⟨a, vs, rfl, h1, fun e => ?_, fun _ p hp => newT_ hp (h2.cut lo hi) q⟩
    refine q _ _ (Same.refl _) (.tup h1 ?_)
    have l := h2.length
    have e2 : cutL ds lo hi = ds := by
      unfold cutL
      rw [← l, e.1, e.2, List.drop_zero, Nat.sub_zero, l, List.take_length]
    rw [e2]; exact h2
  | @lst a vs ds h1 h2 =>
    simp [sliceD] at hz
    subst hz
    obtain ⟨T, id, h3, h4, h5⟩ := sl_list pins s σ H _ v vl vu lo hi sl (fun v H1 => ∃ p zs, v = .ref p ∧ H1 = upd H p (.lst zs) ∧ H p = none ∧ zs = cutL vs lo hi) I rx hs pl pu ⟨a, vs, rfl, h1.l, fun p hp => ⟨p, _, rfl, rfl, hp, rfl⟩⟩
    refine ⟨T, id, h3, h4, thn h5 fun u s' hh => ?_⟩
    obtain ⟨w, H1, J, r, p, zs, rfl, rfl, hp, rfl⟩ := hh
    cases r
    exact EP.newL hp J (h2.cut lo hi) q
  | _ => simp [sliceD] at hz
theorem r1 {f : D → Option D} : ∀ {vs : List V} {ds : List D} {K : PySem.W.Frag}, RepL K im H vs ds → ∀ {z : D}, (match ds with | [d] => f d | _ => none) = some z → ∃ v d, vs = [v] ∧ ds = [d] ∧ Rep K im H v d ∧ f d = some z
  | _, [], _, _, _, e => by simp at e
  | _, [d], _, h, _, e => by
    cases h with
    | cons h1 h2 => cases h2; exact ⟨_, _, rfl, rfl, h1, e⟩
  | _, _ :: _ :: _, _, _, _, e => by simp at e
def un1 (f : D → Option D) : List D → Option D := fun ds => match ds with | [d] => f d | _ => none
def bi2 (f : D → D → Option D) : List D → Option D := fun ds => match ds with | [d, e] => f d e | _ => none
theorem un1_ok {f : D → Option D} {vs : List V} {ds : List D} {K : PySem.W.Frag} {z : D} (h : RepL K im H vs ds) (e : un1 f ds = some z) : ∃ v d, vs = [v] ∧ Rep K im H v d ∧ f d = some z := by
  obtain ⟨v, d, a, b, c, e⟩ := r1 h e
  exact ⟨v, d, a, c, e⟩
theorem bi2_ok {f : D → D → Option D} : ∀ {vs : List V} {ds : List D} {K : PySem.W.Frag} {z : D}, RepL K im H vs ds → bi2 f ds = some z → ∃ v w d e, vs = [v, w] ∧ Rep K im H v d ∧ Rep K im H w e ∧ f d e = some z
  | _, [], _, _, _, e => by simp [bi2] at e
  | _, [d], _, _, _, e => by simp [bi2] at e
  | _, [d, e], _, _, h, q => by
    cases h with
    | cons h1 h2 => cases h2 with | cons h2 h3 => cases h3; exact ⟨_, _, _, _, rfl, h1, h2, q⟩
  | _, _ :: _ :: _ :: _, _, _, _, e => by simp [bi2] at e
theorem call_lenDD : CallR X (.builtin "len") (rDN X.K im (un1 lenD)) := by
  intro pins s σ H xs us Q I r h
  obtain ⟨ds, z, hd, hz, q⟩ := h
  obtain ⟨v, d, rfl, hd, hz⟩ := un1_ok hd hz
  cases hd with
  | @tup a vs ds h1 h2 =>
    simp [lenD] at hz; subst hz
    have l := h2.length
    exact call_len_seq pins s σ H _ us Q I r ⟨a, vs, rfl, .inr h1, by rw [l]; exact q _ _ (Same.refl _) (.int _)⟩
  | @lst a vs ds h1 h2 =>
    simp [lenD] at hz; subst hz
    have l := h2.length
    exact call_len_seq pins s σ H _ us Q I r ⟨a, vs, rfl, .inl h1.l, by rw [l]; exact q _ _ (Same.refl _) (.int _)⟩
  | str w =>
    simp only [lenD, Option.ite_none_right_eq_some] at hz
    obtain ⟨hl, hz⟩ := hz
    cases hz
    exact call_len_str pins s σ H _ us Q I r ⟨w, rfl, hl, q _ _ (Same.refl _) (.int _)⟩
  | _ => simp [lenD] at hz
theorem call_intDD : CallR X (.type "int") (rDN X.K im (un1 intD)) := by
  intro pins s σ H xs us Q I r h
  obtain ⟨ds, z, hd, hz, q⟩ := h
  obtain ⟨v, d, rfl, hd, hz⟩ := un1_ok hd hz
  cases hd <;> simp [intD] at hz <;> subst hz
  · exact call_int1 pins s σ H _ us Q I r (.inr ⟨_, rfl, q _ _ (Same.refl _) (.int _)⟩)
  · exact call_int1 pins s σ H _ us Q I r (.inl ⟨_, rfl, q _ _ (Same.refl _) (.int _)⟩)
theorem call_max2DD (hc : X.calm = true) : CallR X (.builtin "max") (rDN X.K im (bi2 max2D)) := by
  intro pins s σ H xs us Q I r h
  obtain ⟨ds, z, hd, hz, q⟩ := h
  obtain ⟨v, w, d, e, rfl, hd, he, hz⟩ := bi2_ok hd hz
  cases hd <;> cases he <;> simp [max2D] at hz
  subst hz
  exact call_max2 hc pins s σ H _ us Q I r ⟨_, _, rfl, q _ _ (Same.refl _) (.int _)⟩
end
end DL
namespace DL
open PySem PySem.Spec PyProof.Rows L2
structure Exn where
  cls : Addr
  fs : List Str
  ds : List D
inductive R (Ω α : Type) where
  | ok (a : α) (ω : Ω)
  | ex (x : Exn) (ω : Ω)
  | no
def R.bind {Ω α β : Type} (r : R Ω α) (f : α → Ω → R Ω β) : R Ω β := match r with
  | .ok a ω => f a ω
  | .ex x ω => .ex x ω
  | .no => .no
def R.ofO {Ω α : Type} (o : Option α) (ω : Ω) : R Ω α := match o with
  | some a => .ok a ω
  | none => .no
@[simp] theorem R.bind_ok {Ω α β : Type} (a : α) (ω : Ω) (f : α → Ω → R Ω β) : (R.ok a ω).bind f = f a ω := rfl
@[simp] theorem R.bind_ex {Ω α β : Type} (x : Exn) (ω : Ω) (f : α → Ω → R Ω β) : (R.ex x ω).bind f = .ex x ω := rfl
@[simp] theorem R.bind_no {Ω α β : Type} (f : α → Ω → R Ω β) : (R.no : R Ω α).bind f = .no := rfl
@[simp] theorem R.ofO_some {Ω α : Type} (a : α) (ω : Ω) : R.ofO (some a) ω = .ok a ω := rfl
@[simp] theorem R.ofO_none {Ω α : Type} (ω : Ω) : (R.ofO none ω : R Ω α) = .no := rfl
/-- a list, a dict by ints and texts, a dict by tuples of such -/
inductive OKd where
  | L
  | K (ks : List Key)
  | T (ks : List (List Key))
def OKd.ho : OKd → List V → HO
  | .L, vs => .lst vs
  | .K ks, vs => .dK (ks.zip vs)
  | .T ks, vs => .dT (ks.zip vs)
def OKd.len : OKd → Nat → Prop
  | .L, _ => True
  | .K ks, n => ks.length = n
  | .T ks, n => ks.length = n
inductive Cell where
  | d (x : D)
  | ow (k : OKd) (xs : List D)
  | src
abbrev Tau := List (Option Cell)
/-- the one thing that a def is handed and may change: what it is, where it lies -/
structure Gam (im : Addr → Bool) (Ω : Type) where
  At : Ω → Hp → Prop
  FP : Addr → Prop
  obj : V
  keep : ∀ {ω : Ω} {H H' : Hp}, At ω H → (∀ b o, FP b → H b = some o → H' b = some o) → Sb im H H' → At ω H'
  nost : ∀ {ω : Ω} {H : Hp}, At ω H → ∀ b o, FP b → H b = some o → ¬ stb im o
  trk : ∀ {ω : Ω} {H : Hp}, At ω H → ∀ b, FP b → H b ≠ none
/-- nothing -/
def gam0 (im : Addr → Bool) : Gam im Unit where
  At := fun _ _ => True
  FP := fun _ => False
  obj := .non
  keep := fun _ _ _ => trivial
  nost := fun _ _ _ h => h.elim
  trk := fun _ _ h => h.elim
section
variable {im : Addr → Bool} {Ω : Type} (G : Gam im Ω)
def Kp (H H' : Hp) : Prop := ∀ b o, H b = some o → ¬ G.FP b → H' b = some o
variable {G} {H H1 H2 H' : Hp} {ω : Ω}
theorem Kp.refl : Kp G H H := fun _ _ h _ => h
theorem Kp.trans (a : Kp G H H1) (b : Kp G H1 H2) : Kp G H H2 := fun c o e n => b c o (a c o e n) n
theorem Kp.of (a : Same H H1) : Kp G H H1 := fun c o e _ => a c o e
theorem Kp.sb (a : Kp G H H1) (t : G.At ω H) : Sb im H H1 := fun b o e s => a b o e fun f => G.nost t b o f e s
theorem At.same (t : G.At ω H) (a : Same H H1) : G.At ω H1 := G.keep t (fun b o _ e => a b o e) (.of a)
variable (G) (K : PySem.W.Frag)
inductive SlotOk (H0 H : Hp) : Option V → Option Cell → Prop
  | un {v : Option V} : SlotOk H0 H v none
  | d {v : V} {x : D} : Rep K im H v x → SlotOk H0 H (some v) (some (.d x))
  | ow {l : Addr} {k : OKd} {vs : List V} {xs : List D} : H l = some (k.ho vs) → RepL K im H vs xs → H0 l = none → ¬ G.FP l → k.len xs.length → SlotOk H0 H (some (.ref l)) (some (.ow k xs))
  | src : SlotOk H0 H (some G.obj) (some .src)
structure STT (H0 H : Hp) (σ : L2.St) (τ : Tau) : Prop where
  len : σ.length = τ.length
  ok : ∀ (i : Nat) (v : Option V) (c : Option Cell), σ[i]? = some v → τ[i]? = some c → SlotOk G K H0 H v c
  dj : ∀ (i j : Nat) (l : Addr) {k k' : OKd} (xs ys : List D), i ≠ j → σ[i]? = some (some (.ref l)) → τ[i]? = some (some (.ow k xs)) → σ[j]? = some (some (.ref l)) → τ[j]? = some (some (.ow k' ys)) → False
  fr : Kp G H0 H
variable {G} {K}
variable {H0 : Hp} {σ : L2.St} {τ : Tau}
theorem SlotOk.step {v : Option V} {c : Option Cell} (s : SlotOk G K H0 H v c) (t : G.At ω H) (k : Kp G H H') : SlotOk G K H0 H' v c := by
  cases s with
  | un => exact .un
  | d r => exact .d (r.up (k.sb t))
  | ow h1 h2 h3 h4 h5 => exact .ow (k _ _ h1 h4) (h2.up (k.sb t)) h3 h4 h5
  | src => exact .src
theorem STT.step (s : STT G K H0 H σ τ) (t : G.At ω H) (k : Kp G H H') : STT G K H0 H' σ τ :=
  ⟨s.len, fun i v c e1 e2 => (s.ok i v c e1 e2).step t k, s.dj, s.fr.trans k⟩
theorem STT.slot (s : STT G K H0 H σ τ) {i : Nat} {c : Cell} (h : τ[i]? = some (some c)) : ∃ v, σ[i]? = some v ∧ SlotOk G K H0 H v (some c) := by
  have hi : i < σ.length := by rw [s.len]; exact (List.getElem?_eq_some_iff.mp h).1
  exact ⟨σ[i], List.getElem?_eq_getElem hi, s.ok i _ _ (List.getElem?_eq_getElem hi) h⟩
theorem STT.get (s : STT G K H0 H σ τ) {i : Nat} {x : D} (h : τ[i]? = some (some (.d x))) : ∃ v, σ[i]? = some (some v) ∧ Rep K im H v x := by
  obtain ⟨v, e, k⟩ := s.slot h
  cases k with
  | d r => exact ⟨_, e, r⟩
theorem STT.getW (s : STT G K H0 H σ τ) {i : Nat} {k : OKd} {xs : List D} (h : τ[i]? = some (some (.ow k xs))) : ∃ l vs, σ[i]? = some (some (.ref l)) ∧ H l = some (k.ho vs) ∧ RepL K im H vs xs ∧ H0 l = none ∧ ¬ G.FP l ∧ k.len xs.length := by
  obtain ⟨v, e, k⟩ := s.slot h
  cases k with
  | ow h1 h2 h3 h4 h5 => exact ⟨_, _, e, h1, h2, h3, h4, h5⟩
theorem STT.getO (s : STT G K H0 H σ τ) {i : Nat} {xs : List D} (h : τ[i]? = some (some (.ow .L xs))) : ∃ l vs, σ[i]? = some (some (.ref l)) ∧ H l = some (.lst vs) ∧ RepL K im H vs xs ∧ H0 l = none ∧ ¬ G.FP l := by
  obtain ⟨l, vs, h1, h2, h3, h4, h5, _⟩ := s.getW h
  exact ⟨l, vs, h1, h2, h3, h4, h5⟩
theorem STT.getS (s : STT G K H0 H σ τ) {i : Nat} (h : τ[i]? = some (some .src)) : σ[i]? = some (some G.obj) := by
  obtain ⟨v, e, k⟩ := s.slot h
  cases k with
  | src => exact e
theorem STT.setD (s : STT G K H0 H σ τ) {v : V} {x : D} (r : Rep K im H v x) (i : Nat) : STT G K H0 H (σ.set i (some v)) (τ.set i (some (.d x))) := by
  refine ⟨by simp [s.len], fun j w c e1 e2 => ?_, fun j k l _ _ xs ys hjk e1 e2 e3 e4 => ?_, s.fr⟩
  · by_cases hj : i = j
    · subst hj
      have hi : i < σ.length := by simpa using (List.getElem?_eq_some_iff.mp e1).1
      rw [List.getElem?_set_self hi] at e1
      rw [List.getElem?_set_self (by rw [← s.len]; exact hi)] at e2
      cases e1; cases e2
      exact .d r
    · rw [List.getElem?_set_ne hj] at e1 e2
      exact s.ok j w c e1 e2
  · have a : i ≠ j := fun q => by
      subst q
      have hi : i < τ.length := by simpa using (List.getElem?_eq_some_iff.mp e2).1
      rw [List.getElem?_set_self hi] at e2
      cases e2
    have b : i ≠ k := fun q => by
      subst q
      have hi : i < τ.length := by simpa using (List.getElem?_eq_some_iff.mp e4).1
      rw [List.getElem?_set_self hi] at e4
      cases e4
    rw [List.getElem?_set_ne a] at e1 e2
    rw [List.getElem?_set_ne b] at e3 e4
    exact s.dj j k l xs ys hjk e1 e2 e3 e4
/-- a new owned list -/
theorem STT.setW (s : STT G K H0 H σ τ) (t : G.At ω H) {p : Addr} {kd : OKd} {vs : List V} {xs : List D} (hp : H p = none) (k : Kp G H H') (h : H' p = some (kd.ho vs)) (r : RepL K im H' vs xs) (hlen : kd.len xs.length) (i : Nat) :
    STT G K H0 H' (σ.set i (some (.ref p))) (τ.set i (some (.ow kd xs))) := by
  have nf : ¬ G.FP p := fun f => G.trk t p f hp
  have h0 : H0 p = none := by
    cases e : H0 p with
    | none => rfl
    | some o => have := s.fr p o e nf; rw [hp] at this; cases this
  have s' := s.step t k
  have nw : ∀ (j : Nat) {k : OKd} (ys : List D), τ[j]? = some (some (.ow k ys)) → σ[j]? ≠ some (some (.ref p)) := fun j k ys e q => by
    obtain ⟨l, ws, e1, e2, _⟩ := s.getW e
    rw [e1] at q
    cases q
    rw [hp] at e2; cases e2
  refine ⟨by simp [s.len], fun j w c e1 e2 => ?_, fun j k l _ _ ys zs hjk e1 e2 e3 e4 => ?_, s'.fr⟩
  · by_cases hj : i = j
    · subst hj
      have hi : i < σ.length := by simpa using (List.getElem?_eq_some_iff.mp e1).1
      rw [List.getElem?_set_self hi] at e1
      rw [List.getElem?_set_self (by rw [← s.len]; exact hi)] at e2
      cases e1; cases e2
      exact .ow h r h0 nf hlen
    · rw [List.getElem?_set_ne hj] at e1 e2
      exact s'.ok j w c e1 e2
  · by_cases a : i = j
    · subst a
      have hi : i < σ.length := by simpa using (List.getElem?_eq_some_iff.mp e1).1
      rw [List.getElem?_set_self hi] at e1
      cases e1
      rw [List.getElem?_set_ne hjk] at e3 e4
      exact nw k zs e4 e3
    · by_cases b : i = k
      · subst b
        have hi : i < σ.length := by simpa using (List.getElem?_eq_some_iff.mp e3).1
        rw [List.getElem?_set_self hi] at e3
        cases e3
        rw [List.getElem?_set_ne a] at e1 e2
        exact nw j ys e2 e1
      · rw [List.getElem?_set_ne a] at e1 e2
        rw [List.getElem?_set_ne b] at e3 e4
        exact s.dj j k l ys zs hjk e1 e2 e3 e4
/-- an owned list is changed -/
theorem OKd.nst {k : OKd} {vs : List V} : ¬ stb im (k.ho vs) := by cases k <;> exact id
theorem STT.mutW (s : STT G K H0 H σ τ) (t : G.At ω H) {i : Nat} {l : Addr} {kd kd' : OKd} {vs : List V} {xs ys : List D} (h : τ[i]? = some (some (.ow kd xs))) (e : σ[i]? = some (some (.ref l)))
    (r : RepL K im H vs ys) (hlen : kd'.len ys.length) : STT G K H0 (upd H l (kd'.ho vs)) σ (τ.set i (some (.ow kd' ys))) ∧ G.At ω (upd H l (kd'.ho vs)) ∧ Sb im H (upd H l (kd'.ho vs)) := by
  obtain ⟨l', ws', e', h1, h2, h3, h4, h5⟩ := s.getW h
  have el : l' = l := by rw [e] at e'; cases e'; rfl
  subst el
  have sb : Sb im H (upd H l' (kd'.ho vs)) := fun b o eb st => by
    have : b ≠ l' := fun q => by subst q; rw [h1] at eb; cases eb; exact OKd.nst st
    rw [upd_ne this]; exact eb
  have at' : G.At ω (upd H l' (kd'.ho vs)) := G.keep t (fun b o f eb => by
    have : b ≠ l' := fun q => h4 (q ▸ f)
    rw [upd_ne this]; exact eb) sb
  refine ⟨⟨by simp [s.len], fun j w c e1 e2 => ?_, fun j k a _ _ xs' zs hjk e1 e2 e3 e4 => ?_, fun b o eb nf => ?_⟩, at', sb⟩
  · by_cases hj : i = j
    · subst hj
      have hi : i < τ.length := (List.getElem?_eq_some_iff.mp h).1
      rw [List.getElem?_set_self hi] at e2
      cases e2
      rw [e] at e1; cases e1
      exact .ow upd_same (r.up sb) h3 h4 hlen
    · rw [List.getElem?_set_ne hj] at e2
      have q := s.ok j w c e1 e2
      cases q with
      | un => exact .un
      | d r => exact .d (r.up sb)
      | @ow l2 k2 vs2 xs2 a1 a2 a3 a4 a5 =>
        have ne : l2 ≠ l' := fun q => by
          subst q
          exact s.dj i j l2 _ _ hj e h e1 e2
        exact .ow (by rw [upd_ne ne]; exact a1) (a2.up sb) a3 a4 a5
      | src => exact .src
  · have a1 : ∃ k2 xs2, τ[j]? = some (some (.ow k2 xs2)) := by
      by_cases hj : i = j
      · subst hj; exact ⟨_, _, h⟩
      · rw [List.getElem?_set_ne hj] at e2; exact ⟨_, _, e2⟩
    have a2 : ∃ k2 xs2, τ[k]? = some (some (.ow k2 xs2)) := by
      by_cases hj : i = k
      · subst hj; exact ⟨_, _, h⟩
      · rw [List.getElem?_set_ne hj] at e4; exact ⟨_, _, e4⟩
    obtain ⟨_, _, a1⟩ := a1
    obtain ⟨_, _, a2⟩ := a2
    exact s.dj j k a _ _ hjk e1 a1 e3 a2
  · have k := s.fr b o eb nf
    have : b ≠ l' := fun q => by subst q; rw [h3] at eb; cases eb
    rw [upd_ne this]; exact k
theorem STT.setO (s : STT G K H0 H σ τ) (t : G.At ω H) {p : Addr} {vs : List V} {xs : List D} (hp : H p = none) (k : Kp G H H') (h : H' p = some (.lst vs)) (r : RepL K im H' vs xs) (i : Nat) :
    STT G K H0 H' (σ.set i (some (.ref p))) (τ.set i (some (.ow .L xs))) := s.setW (kd := .L) t hp k h r trivial i
theorem STT.mutO (s : STT G K H0 H σ τ) (t : G.At ω H) {i : Nat} {l : Addr} {vs : List V} {xs ys : List D} (h : τ[i]? = some (some (.ow .L xs))) (e : σ[i]? = some (some (.ref l))) (hl : ∃ ws, H l = some (.lst ws))
    (r : RepL K im H vs ys) : STT G K H0 (upd H l (.lst vs)) σ (τ.set i (some (.ow .L ys))) ∧ G.At ω (upd H l (.lst vs)) ∧ Sb im H (upd H l (.lst vs)) := s.mutW (kd' := .L) t h e r trivial
end
section
variable (K : PySem.W.Frag) (im : Addr → Bool)
def ExRep (H : Hp) (cls : Value) (dd : Option Addr) (x : Exn) : Prop :=
  cls = .ref x.cls ∧ ((x.fs = [] ∧ dd = none) ∨ ∃ (d : Addr) (vs : List V), dd = some d ∧ H d = some (.xd (x.fs.zip vs)) ∧ x.fs.length = vs.length ∧ RepL K im H vs x.ds)
end
section
variable {im : Addr → Bool} {Ω : Type} (G : Gam im Ω) (K : PySem.W.Frag)
def Res {α : Type} (r : R Ω α) (H : Hp) (k : α → Ω → Hp → Prop) (kx : Exn → Ω → Hp → Prop) : Prop := match r with
  | .ok a ω => ∀ H', Kp G H H' → G.At ω H' → k a ω H'
  | .ex x ω => ∀ H', Kp G H H' → G.At ω H' → kx x ω H'
  | .no => False
abbrev E (Ω α : Type) := Tau → Ω → R Ω α
def kX (G : Gam im Ω) (K : PySem.W.Frag) (W : WX) (σ : L2.St) : Exn → Ω → Hp → Prop := fun x _ H' => ∀ cls dd, ExRep K im H' cls dd x → W cls dd σ H'
def kD (G : Gam im Ω) (K : PySem.W.Frag) (Q : VK) : D → Ω → Hp → Prop := fun d _ H' => ∀ v, Rep K im H' v d → Q v H'
def kL (G : Gam im Ω) (K : PySem.W.Frag) (Q : List V → Hp → Prop) : List D → Ω → Hp → Prop := fun ds _ H' => ∀ vs, RepL K im H' vs ds → Q vs H'
def DE (W : WX) (te : TE) (F : E Ω D) : Prop := ∀ H0 σ H ω τ, STT G K H0 H σ τ → G.At ω H → ∀ Q : VK, Res G (F τ ω) H (kD G K Q) (kX G K W σ) → te σ H Q
def DT (W : WX) (tt : TT) (F : E Ω Bool) : Prop := ∀ H0 σ H ω τ, STT G K H0 H σ τ → G.At ω H → ∀ Q : Bool → Hp → Prop, Res G (F τ ω) H (fun b _ H' => Q b H') (kX G K W σ) → tt σ H Q
def DA (W : WX) (ta : TA) (F : E Ω (List D)) : Prop := ∀ H0 σ H ω τ, STT G K H0 H σ τ → G.At ω H → ∀ Q : List V → Hp → Prop, Res G (F τ ω) H (kL G K Q) (kX G K W σ) → ta σ H Q
def DO (W : WX) (to : TO) (F : E Ω (Option Int)) : Prop := ∀ H0 σ H ω τ, STT G K H0 H σ τ → G.At ω H → ∀ Q : Option Int → Hp → Prop, Res G (F τ ω) H (fun b _ H' => Q b H') (kX G K W σ) → to σ H Q
/-- a new list, not finished yet -/
def DL (W : WX) (te : TE) (F : E Ω (List D)) : Prop := ∀ H0 σ H ω τ, STT G K H0 H σ τ → G.At ω H → ∀ Q : VK, Res G (F τ ω) H (fun ds _ H' => ∀ p vs, H p = none → H' p = some (.lst vs) → RepL K im H' vs ds → Q (.ref p) H') (kX G K W σ) → te σ H Q
variable {G} {K}
theorem Res.mono {α : Type} {r : R Ω α} {H H1 : Hp} {k : α → Ω → Hp → Prop} {kx : Exn → Ω → Hp → Prop} (h : Res G r H k kx) (a : Kp G H H1) : Res G r H1 k kx := by
  cases r with
  | ok x ω => exact fun H' b t => h H' (a.trans b) t
  | ex x ω => exact fun H' b t => h H' (a.trans b) t
  | no => exact h
theorem Res.imp {α : Type} {r : R Ω α} {H : Hp} {k k' : α → Ω → Hp → Prop} {kx kx' : Exn → Ω → Hp → Prop} (h : Res G r H k kx) (f : ∀ a ω H', Kp G H H' → G.At ω H' → k a ω H' → k' a ω H') (g : ∀ x ω H', Kp G H H' → G.At ω H' → kx x ω H' → kx' x ω H') : Res G r H k' kx' := by
  cases r with
  | ok x ω => exact fun H' b t => f x ω H' b t (h H' b t)
  | ex x ω => exact fun H' b t => g x ω H' b t (h H' b t)
  | no => exact h
theorem Res.bind {α β : Type} {r : R Ω α} {f : α → Ω → R Ω β} {H : Hp} {k : β → Ω → Hp → Prop} {kx : Exn → Ω → Hp → Prop} (h : Res G (r.bind f) H k kx) : Res G r H (fun a ω1 _ => Res G (f a ω1) H k kx) kx := by
  cases r with
  | ok x ω => exact fun H' b t => h
  | ex x ω => exact h
  | no => exact h
end
section
variable {im : Addr → Bool} {Ω : Type} {G : Gam im Ω} {K : PySem.W.Frag} {W : WX} {ta tb te : TE} {Fa Fb : E Ω D}
def eVar (i : Nat) : E Ω D := fun τ ω => match τ[i]? with
  | some (some (.d x)) => .ok x ω
  | _ => .no
def eC (d : D) : E Ω D := fun _ ω => .ok d ω
def eOp (f : D → D → Option D) (a b : E Ω D) : E Ω D := fun τ ω => (a τ ω).bind fun x ω1 => (b τ ω1).bind fun y ω2 => .ofO (f x y) ω2
def eUn (f : D → Option D) (a : E Ω D) : E Ω D := fun τ ω => (a τ ω).bind fun x ω1 => .ofO (f x) ω1
def eCall (f : List D → Option D) (a : E Ω (List D)) : E Ω D := fun τ ω => (a τ ω).bind fun x ω1 => .ofO (f x) ω1
def aNil : E Ω (List D) := fun _ ω => .ok [] ω
def aCons (a : E Ω D) (r : E Ω (List D)) : E Ω (List D) := fun τ ω => (a τ ω).bind fun x ω1 => (r τ ω1).bind fun xs ω2 => .ok (x :: xs) ω2
def eTup (a : E Ω (List D)) : E Ω D := fun τ ω => (a τ ω).bind fun xs ω1 => if xs.length ≤ 1000 then .ok (.tup xs) ω1 else .no
def eLst (a : E Ω (List D)) : E Ω (List D) := fun τ ω => (a τ ω).bind fun xs ω1 => if xs.length ≤ 1000 then .ok xs ω1 else .no
def eFrz (a : E Ω (List D)) : E Ω D := fun τ ω => (a τ ω).bind fun xs ω1 => .ok (.lst xs) ω1
theorem de_var (i : Nat) : DE G K W (tVar i) (eVar i) := by
  intro H0 σ H ω τ s t Q h
  unfold eVar at h
  split at h
  · rename_i x hx
    obtain ⟨v, e, r⟩ := s.get hx
    exact ⟨v, e, h H .refl t v r⟩
  · exact h.elim
theorem de_c {v : V} {d : D} (r : ∀ H, Rep K im H v d) : DE G K W (tC v) (eC d) := fun H0 σ H ω τ s t Q h => h H .refl t v (r H)
theorem de_int {i : Int} : DE G K W (tC (.int i)) (eC (.int i)) := de_c fun _ => .int i
theorem de_bl {b : Bool} : DE G K W (tC (.bl b)) (eC (.bl b)) := de_c fun _ => .bl b
theorem de_non : DE G K W (tC .non) (eC .non) := de_c fun _ => .non
/-- a written tuple of the module -/
theorem de_op {f : D → D → Option D} (ha : DE G K W ta Fa) (hb : DE G K W tb Fb) : DE G K W (tOp (rD2 K im f) ta tb) (eOp f Fa Fb) := by
  intro H0 σ H ω τ s t Q h
  refine ha H0 σ H ω τ s t _ (Res.imp (Res.bind h) (fun x ω1 H1 k1 t1 h1 v r => ?_) fun _ _ _ _ _ q => q)
  refine hb H0 σ H1 ω1 τ (s.step t k1) t1 _ (Res.imp (Res.bind (h1.mono k1)) (fun y ω2 H2 k2 t2 h2 w r2 => ?_) fun _ _ _ _ _ q => q)
  have h3 := (h2.mono k2)
  cases e : f x y with
  | none => rw [e] at h3; exact h3.elim
  | some z =>
    rw [e] at h3
    exact ⟨x, y, z, r.up (k2.sb t1), r2, e, fun v H' sm rv => h3 H' (.of sm) (At.same t2 sm) v rv⟩
theorem de_un {f : D → Option D} (ha : DE G K W ta Fa) : DE G K W (tUn (rD1 K im f) ta) (eUn f Fa) := by
  intro H0 σ H ω τ s t Q h
  refine ha H0 σ H ω τ s t _ (Res.imp (Res.bind h) (fun x ω1 H1 k1 t1 h1 v r => ?_) fun _ _ _ _ _ q => q)
  have h3 := h1.mono k1
  cases e : f x with
  | none => rw [e] at h3; exact h3.elim
  | some z =>
    rw [e] at h3
    exact ⟨x, z, r, e, fun v H' sm rv => h3 H' (.of sm) (At.same t1 sm) v rv⟩
theorem da_nil : DA G K W tNil aNil := fun H0 σ H ω τ s t Q h => h H .refl t [] .nil
theorem da_cons {tr : TA} {Fr : E Ω (List D)} (ha : DE G K W ta Fa) (hr : DA G K W tr Fr) : DA G K W (tCons ta tr) (aCons Fa Fr) := by
  intro H0 σ H ω τ s t Q h
  refine ha H0 σ H ω τ s t _ (Res.imp (Res.bind h) (fun x ω1 H1 k1 t1 h1 v r => ?_) fun _ _ _ _ _ q => q)
  refine hr H0 σ H1 ω1 τ (s.step t k1) t1 _ (Res.imp (Res.bind (h1.mono k1)) (fun ys ω2 H2 k2 t2 h2 ws r2 => ?_) fun _ _ _ _ _ q => q)
  exact (h2.mono k2) H2 .refl t2 _ (.cons (r.up (k2.sb t1)) r2)
theorem de_callN {f : List D → Option D} {tr : TA} {Fr : E Ω (List D)} (hr : DA G K W tr Fr) : DE G K W (tCB (rDN K im f) tr) (eCall f Fr) := by
  intro H0 σ H ω τ s t Q h
  refine hr H0 σ H ω τ s t _ (Res.imp (Res.bind h) (fun xs ω1 H1 k1 t1 h1 vs r => ?_) fun _ _ _ _ _ q => q)
  have h3 := h1.mono k1
  cases e : f xs with
  | none => rw [e] at h3; exact h3.elim
  | some z =>
    rw [e] at h3
    exact ⟨xs, z, r, e, fun v H' sm rv => h3 H' (.of sm) (At.same t1 sm) v rv⟩
theorem line1000 {n : Nat} (h : n ≤ 1000) : n ≤ sizeLine := Nat.le_of_lt (small1000 h)
theorem de_tup {tr : TA} {Fr : E Ω (List D)} (hr : DA G K W tr Fr) : DE G K W (tTup tr) (eTup Fr) := by
  intro H0 σ H ω τ s t Q h
  refine hr H0 σ H ω τ s t _ (Res.imp (Res.bind h) (fun xs ω1 H1 k1 t1 h1 vs r => ?_) fun _ _ _ _ _ q => q)
  have h3 := h1.mono k1
  split at h3
  · rename_i hl
    refine ⟨by rw [r.length]; exact line1000 hl, fun p hp => ?_⟩
    have sm : Same H1 (upd H1 p (.tup vs)) := Same.new hp
    exact h3 _ (.of sm) (At.same t1 sm) _ (.tup upd_same (r.up (.of sm)))
  · exact h3.elim
theorem dl_lst {tr : TA} {Fr : E Ω (List D)} (hr : DA G K W tr Fr) : DL G K W (tLst tr) (eLst Fr) := by
  intro H0 σ H ω τ s t Q h
  refine hr H0 σ H ω τ s t _ (Res.imp (Res.bind h) (fun xs ω1 H1 k1 t1 h1 vs r => ?_) fun _ _ _ _ _ q => q)
  have h3 := h1.mono k1
  split at h3
  · rename_i hl
    refine ⟨by rw [r.length]; exact line1000 hl, fun p hp => ?_⟩
    have sm : Same H1 (upd H1 p (.lst vs)) := Same.new hp
    have hp0 : H p = none := by
      cases e : H p with
      | none => rfl
      | some o =>
        by_cases f : G.FP p
        · exact absurd hp (G.trk t1 p f)
        · have := k1 p o e f; rw [hp] at this; cases this
    exact h3 _ (.of sm) (At.same t1 sm) _ _ hp0 upd_same (r.up (.of sm))
  · exact h3.elim
theorem de_frz {Fl : E Ω (List D)} (hl : DL G K W te Fl) : DE G K W (tFrz te) (eFrz Fl) := by
  intro H0 σ H ω τ s t Q h
  refine hl H0 σ H ω τ s t _ (Res.imp (Res.bind h) (fun xs ω1 H1 k1 t1 h1 p vs hp h2 r => ?_) fun _ _ _ _ _ q => q)
  refine ⟨p, vs, rfl, h2, fun o => ?_⟩
  have nf : ¬ G.FP p := fun f => G.trk t p f hp
  have sb : Sb im H1 (upd H1 p (.frz o (.lst vs))) := fun b u eb st => by
    have : b ≠ p := fun q => by subst q; rw [h2] at eb; cases eb; exact st
    rw [upd_ne this]; exact eb
  have at' : G.At ω1 (upd H1 p (.frz o (.lst vs))) := G.keep t1 (fun b u f eb => by
    have : b ≠ p := fun q => nf (q ▸ f)
    rw [upd_ne this]; exact eb) sb
  exact h1 _ (fun b u eb nfb => by
    have : b ≠ p := fun q => by subst q; rw [hp] at eb; cases eb
    rw [upd_ne this]; exact k1 b u eb nfb) at' _ (.lst ⟨o, upd_same⟩ (r.up sb))
end
end DL
namespace DL
open PySem PySem.Spec PyProof.Rows L2
section
variable {im : Addr → Bool} {Ω : Type} {G : Gam im Ω} {K : PySem.W.Frag} {W : WX} {ta tb te : TE} {Fa Fb : E Ω D} {t u : TT} {Ft Fu : E Ω Bool}
def D.bool : D → Option Bool
  | .bl b => some b
  | _ => none
def eB (a : E Ω D) : E Ω Bool := fun τ ω => (a τ ω).bind fun x ω1 => .ofO x.bool ω1
def bAnd (a b : E Ω Bool) : E Ω Bool := fun τ ω => (a τ ω).bind fun x ω1 => if x then b τ ω1 else .ok false ω1
def bOr (a b : E Ω Bool) : E Ω Bool := fun τ ω => (a τ ω).bind fun x ω1 => if x then .ok true ω1 else b τ ω1
def bNot (a : E Ω Bool) : E Ω Bool := fun τ ω => (a τ ω).bind fun x ω1 => .ok (!x) ω1
def bYes : E Ω Bool := fun _ ω => .ok true ω
def eIf (c : E Ω Bool) (a b : E Ω D) : E Ω D := fun τ ω => (c τ ω).bind fun x ω1 => if x then a τ ω1 else b τ ω1
def eAnd (a b : E Ω D) : E Ω D := fun τ ω => (a τ ω).bind fun x ω1 => match x with
  | .bl true => b τ ω1
  | .bl false => .ok (.bl false) ω1
  | _ => .no
theorem bool_rep {H : Hp} {x : D} {b : Bool} {v : V} (r : Rep K im H v x) (e : x.bool = some b) : v = .bl b := by
  cases r <;> simp [D.bool] at e
  subst e; rfl
theorem dt_B (ha : DE G K W ta Fa) : DT G K W (tB ta) (eB Fa) := by
  intro H0 σ H ω τ s t Q h
  refine ha H0 σ H ω τ s t _ (Res.imp (Res.bind h) (fun x ω1 H1 k1 t1 h1 v r => ?_) fun _ _ _ _ _ q => q)
  cases e : x.bool with
  | none => rw [e] at h1; exact h1.elim
  | some b => rw [e] at h1; exact ⟨b, bool_rep r e, h1 H1 k1 t1⟩
theorem dt_test (ha : DE G K W ta Fa) : DT G K W (tTest ta) (eB Fa) := dt_B ha
theorem dt_and (ha : DT G K W t Ft) (hb : DT G K W u Fu) : DT G K W (tAnd t u) (bAnd Ft Fu) := by
  intro H0 σ H ω τ s t Q h
  refine ha H0 σ H ω τ s t _ (Res.imp (Res.bind h) (fun x ω1 H1 k1 t1 h1 => ?_) fun _ _ _ _ _ q => q)
  cases x with
  | true => exact hb H0 σ H1 ω1 τ (s.step t k1) t1 _ (h1.mono k1)
  | false => exact h1 H1 k1 t1
theorem dt_or (ha : DT G K W t Ft) (hb : DT G K W u Fu) : DT G K W (tOr t u) (bOr Ft Fu) := by
  intro H0 σ H ω τ s t Q h
  refine ha H0 σ H ω τ s t _ (Res.imp (Res.bind h) (fun x ω1 H1 k1 t1 h1 => ?_) fun _ _ _ _ _ q => q)
  cases x with
  | false => exact hb H0 σ H1 ω1 τ (s.step t k1) t1 _ (h1.mono k1)
  | true => exact h1 H1 k1 t1
theorem dt_yes : DT G K W tYes bYes := fun H0 σ H ω τ s t Q h => h H .refl t
theorem de_if (hc : DT G K W t Ft) (ha : DE G K W ta Fa) (hb : DE G K W tb Fb) : DE G K W (tIf t ta tb) (eIf Ft Fa Fb) := by
  intro H0 σ H ω τ s t Q h
  refine hc H0 σ H ω τ s t _ (Res.imp (Res.bind h) (fun x ω1 H1 k1 t1 h1 => ?_) fun _ _ _ _ _ q => q)
  cases x with
  | true => exact ha H0 σ H1 ω1 τ (s.step t k1) t1 _ (h1.mono k1)
  | false => exact hb H0 σ H1 ω1 τ (s.step t k1) t1 _ (h1.mono k1)
theorem de_and (ha : DE G K W ta Fa) (hb : DE G K W tb Fb) : DE G K W (tAndV ta tb) (eAnd Fa Fb) := by
  intro H0 σ H ω τ s t Q h
  refine ha H0 σ H ω τ s t _ (Res.imp (Res.bind h) (fun x ω1 H1 k1 t1 h1 v r => ?_) fun _ _ _ _ _ q => q)
  cases r with
  | bl b =>
    cases b with
    | true => exact ⟨true, rfl, hb H0 σ H1 ω1 τ (s.step t k1) t1 _ (h1.mono k1)⟩
    | false => exact ⟨false, rfl, h1 H1 k1 t1 _ (.bl false)⟩
  | _ => exact h1.elim
def oNone : E Ω (Option Int) := fun _ ω => .ok none ω
def D.toI : D → Option (Option Int)
  | .int i => some (some i)
  | _ => none
def oSome (a : E Ω D) : E Ω (Option Int) := fun τ ω => (a τ ω).bind fun x ω1 => .ofO x.toI ω1
def eSl (a : E Ω D) (l h : E Ω (Option Int)) : E Ω D := fun τ ω => (a τ ω).bind fun x ω1 => (l τ ω1).bind fun lo ω2 => (h τ ω2).bind fun hi ω3 => .ofO (sliceD x lo hi) ω3
theorem do_none : DO G K W tNoPart oNone := fun H0 σ H ω τ s t Q h => h H .refl t
theorem do_some (ha : DE G K W ta Fa) : DO G K W (tPart ta) (oSome Fa) := by
  intro H0 σ H ω τ s t Q h
  refine ha H0 σ H ω τ s t _ (Res.imp (Res.bind h) (fun x ω1 H1 k1 t1 h1 v r => ?_) fun _ _ _ _ _ q => q)
  cases r with
  | int i => exact ⟨i, rfl, h1 H1 k1 t1⟩
  | _ => exact h1.elim
theorem de_sl {tl th : TO} {Fl Fh : E Ω (Option Int)} (ha : DE G K W ta Fa) (hl : DO G K W tl Fl) (hh : DO G K W th Fh) : DE G K W (tSl (rSlD K im) ta tl th) (eSl Fa Fl Fh) := by
  intro H0 σ H ω τ s t Q h
  refine ha H0 σ H ω τ s t _ (Res.imp (Res.bind h) (fun x ω1 H1 k1 t1 h1 v r => ?_) fun _ _ _ _ _ q => q)
  refine hl H0 σ H1 ω1 τ (s.step t k1) t1 _ (Res.imp (Res.bind (h1.mono k1)) (fun lo ω2 H2 k2 t2 h2 => ?_) fun _ _ _ _ _ q => q)
  refine hh H0 σ H2 ω2 τ ((s.step t k1).step t1 k2) t2 _ (Res.imp (Res.bind (h2.mono k2)) (fun hi ω3 H3 k3 t3 h3 => ?_) fun _ _ _ _ _ q => q)
  have h4 := h3.mono k3
  cases e : sliceD x lo hi with
  | none => rw [e] at h4; exact h4.elim
  | some z =>
    rw [e] at h4
    exact ⟨x, z, (r.up (k2.sb t1)).up (k3.sb t2), e, fun v H' sm rv => h4 H' (.of sm) (At.same t3 sm) v rv⟩
def oLen (i : Nat) : E Ω D := fun τ ω => match τ[i]? with
  | some (some (.ow .L xs)) => .ok (.int xs.length) ω
  | _ => .no
def oIx (i : Nat) (b : E Ω D) : E Ω D := fun τ ω => match τ[i]? with
  | some (some (.ow .L xs)) => (b τ ω).bind fun y ω1 => .ofO (ixD (.lst xs) y) ω1
  | _ => .no
def oTuple (i : Nat) : E Ω D := fun τ ω => match τ[i]? with
  | some (some (.ow .L xs)) => .ok (.tup xs) ω
  | _ => .no
end
section
variable {im : Addr → Bool} (K : PySem.W.Frag)
/-- a def that changes nothing -/
def spD (im : Addr → Bool) (n : Nat) (F : List D → R Unit D) : Sp := fun vs H Q Ex => vs.length = n ∧ ∃ ds, RepL K im H vs ds ∧ (match F ds with
  | .ok d _ => ∀ v H', Same H H' → Rep K im H' v d → Q v H'
  | .ex x _ => ∀ cls dd H', Same H H' → ExRep K im H' cls dd x → Ex cls dd H'
  | .no => False)
/-- a def that is handed the one thing that it may change, at place j -/
def spW {Ω P : Type} (Γ : P → Gam im Ω) (n j : Nat) (F : List D → Ω → R Ω D) : Sp := fun vs H Q Ex => vs.length = n ∧ ∃ p ω ws ds, vs = ws.take j ++ (Γ p).obj :: ws.drop j ∧ (Γ p).At ω H ∧ RepL K im H ws ds ∧
  Res (Γ p) (F ds ω) H (kD (Γ p) K Q) (fun x _ H' => ∀ cls dd, ExRep K im H' cls dd x → Ex cls dd H')
variable {K} {Ω : Type} {G : Gam im Ω} {W : WX} {ta tb te : TE} {Fa Fb : E Ω D} {tr : TA} {Fr : E Ω (List D)}
def lift {Ω α : Type} (r : R Unit α) (ω : Ω) : R Ω α := match r with
  | .ok a _ => .ok a ω
  | .ex x _ => .ex x ω
  | .no => .no
@[simp] theorem lift_ok {Ω α : Type} (a : α) (ω : Ω) (u : Unit) : lift (.ok a u) ω = .ok a ω := rfl
@[simp] theorem lift_no {Ω α : Type} (ω : Ω) : lift (.no : R Unit α) ω = .no := rfl
/-- no exception is met -/
def nox {Ω α : Type} (r : R Ω α) : R Ω α := match r with
  | .ok a ω => .ok a ω
  | _ => .no
@[simp] theorem nox_ok {Ω α : Type} (a : α) (ω : Ω) : nox (.ok a ω) = .ok a ω := rfl
@[simp] theorem nox_no {Ω α : Type} : nox (.no : R Ω α) = .no := rfl
/-- so many arguments -/
def AN {Ω : Type} (Fr : E Ω (List D)) (n : Nat) : Prop := ∀ τ ω xs ω', Fr τ ω = .ok xs ω' → xs.length = n
theorem an_nil : AN (aNil : E Ω (List D)) 0 := fun _ _ _ _ e => by cases e; rfl
theorem an_cons {n : Nat} (h : AN Fr n) : AN (aCons Fa Fr) (n + 1) := fun τ ω xs ω' e => by
  unfold aCons at e
  cases h1 : Fa τ ω with
  | ok x ω1 =>
    rw [h1] at e
    simp only [R.bind_ok] at e
    cases h2 : Fr τ ω1 with
    | ok ys ω2 =>
      rw [h2] at e
      simp only [R.bind_ok] at e
      cases e
      rw [List.length_cons, h _ _ _ _ h2]
    | ex x ω2 => rw [h2] at e; cases e
    | no => rw [h2] at e; cases e
  | ex x ω1 => rw [h1] at e; cases e
  | no => rw [h1] at e; cases e
def cD (F : List D → R Unit D) (a : E Ω (List D)) : E Ω D := fun τ ω => (a τ ω).bind fun xs ω1 => nox (lift (F xs) ω1)
theorem dc_D {n : Nat} {F : List D → R Unit D} (hr : DA G K W tr Fr) (hn : AN Fr n) : DE G K W (tCall (spD K im n F) [] E0 tr) (cD F Fr) := by
  intro H0 σ H ω τ s t Q h
  have hr' := hr H0 σ H ω τ s t
  cases e0 : Fr τ ω with
  | ok xs ω1 =>
    have hl := hn τ ω xs ω1 e0
    unfold cD at h
    rw [e0] at h hr'
    refine hr' _ fun H1 k1 t1 vs r => ?_
    have h1 : Res G (nox (lift (F xs) ω1)) H (kD G K Q) (kX G K W σ) := h
    refine ⟨by rw [List.append_nil, r.length, hl], xs, by rw [List.append_nil]; exact r, ?_⟩
    cases e : F xs with
    | ok d u =>
      rw [e] at h1
      exact fun v H' sm rv => h1 H' (k1.trans (.of sm)) (At.same t1 sm) v rv
    | ex x u => rw [e] at h1; exact h1.elim
    | no => rw [e] at h1; exact h1.elim
  | ex x ω1 =>
    unfold cD at h
    rw [e0] at h hr'
    exact hr' _ h
  | no => unfold cD at h; rw [e0] at h; exact h.elim
/-- the thing itself stands in slot i and is handed on as the first argument -/
def cW (F : List D → Ω → R Ω D) (i : Nat) (a : E Ω (List D)) : E Ω D := fun τ ω => match τ[i]? with
  | some (some .src) => (a τ ω).bind fun xs ω1 => nox (F xs ω1)
  | _ => .no
theorem dc_W {P : Type} {Γ : P → Gam im Ω} {p : P} {n m i : Nat} {F : List D → Ω → R Ω D} {tr : TA} {Fr : E Ω (List D)} (hr : DA (Γ p) K W tr Fr) (hn : AN Fr m) (hm : m + 1 = n := by rfl) :
    DE (Γ p) K W (tCall (spW K Γ n 0 F) [] E0 (tCons (tVar i) tr)) (cW F i Fr) := by
  intro H0 σ H ω τ s t Q h
  unfold cW at h
  split at h
  · rename_i hx
    refine ⟨_, s.getS hx, ?_⟩
    have hr' := hr H0 σ H ω τ s t
    cases e0 : Fr τ ω with
    | ok xs ω1 =>
      have hl := hn τ ω xs ω1 e0
      rw [e0] at h hr'
      refine hr' _ fun H1 k1 t1 vs r => ?_
      have h1 : Res (Γ p) (nox (F xs ω1)) H (kD (Γ p) K Q) (kX (Γ p) K W σ) := h
      refine ⟨by rw [List.append_nil, List.length_cons, r.length, hl, hm], p, ω1, vs, xs, by rw [List.append_nil] <;> rfl, t1, r, ?_⟩
      have h2 := h1.mono k1
      cases e : F xs ω1 with
      | ok d u => rw [e] at h2; exact h2
      | ex x u => rw [e] at h2; exact h2.elim
      | no => rw [e] at h2; exact h2.elim
    | ex x ω1 =>
      rw [e0] at h hr'
      exact hr' _ h
    | no => rw [e0] at h; exact h.elim
  · exact h.elim
end
end DL
namespace DL
open PySem PySem.Spec PyProof.Rows L2
inductive Fl where
  | nx (τ : Tau)
  | rt (d : D)
  | bk (τ : Tau)
  | ct (τ : Tau)
  | rs (x : Exn) (τ : Tau)
  | rl (ds : List D)
section
variable {im : Addr → Bool} {Ω : Type} (G : Gam im Ω) (K : PySem.W.Frag)
abbrev S (Ω : Type) := Tau → Ω → Option (Fl × Ω)
def KS (H0 H : Hp) (D : Ends) (W : WX) : Option (Fl × Ω) → Prop
  | none => False
  | some (.nx τ, ω) => ∀ σ' H', Sb im H H' → STT G K H0 H' σ' τ → G.At ω H' → D.nx σ' H'
  | some (.bk τ, ω) => ∀ σ' H', Sb im H H' → STT G K H0 H' σ' τ → G.At ω H' → D.bk σ' H'
  | some (.ct τ, ω) => ∀ σ' H', Sb im H H' → STT G K H0 H' σ' τ → G.At ω H' → D.ct σ' H'
  | some (.rt d, ω) => ∀ v H', Sb im H H' → Kp G H0 H' → G.At ω H' → Rep K im H' v d → D.rt v H'
  | some (.rs x τ, ω) => ∀ σ' H', Sb im H H' → STT G K H0 H' σ' τ → G.At ω H' → ∀ cls dd, ExRep K im H' cls dd x → W cls dd σ' H'
  | some (.rl ds, ω) => ∀ p vs H', Sb im H H' → Kp G H0 H' → G.At ω H' → H0 p = none → ¬ G.FP p → H' p = some (.lst vs) → RepL K im H' vs ds → D.rt (.ref p) H'
def DS (W : WX) (ts : TS) (F : S Ω) : Prop := ∀ H0 σ H ω τ, STT G K H0 H σ τ → G.At ω H → ∀ D, KS G K H0 H D W (F τ ω) → ts D σ H
variable {G} {K}
theorem KS.mono {H0 H H1 : Hp} {D : Ends} {W : WX} {r : Option (Fl × Ω)} (h : KS G K H0 H D W r) (s : Sb im H H1) : KS G K H0 H1 D W r := by
  rcases r with _ | ⟨fl, ω⟩
  · exact h
  · cases fl with
    | nx τ => exact fun σ' H' sb => h σ' H' (s.trans sb)
    | bk τ => exact fun σ' H' sb => h σ' H' (s.trans sb)
    | ct τ => exact fun σ' H' sb => h σ' H' (s.trans sb)
    | rt d => exact fun v H' sb => h v H' (s.trans sb)
    | rs x τ => exact fun σ' H' sb => h σ' H' (s.trans sb)
    | rl ds => exact fun p vs H' sb => h p vs H' (s.trans sb)
end
section
variable {im : Addr → Bool} {Ω : Type} {G : Gam im Ω} {K : PySem.W.Frag} {W : WX} {te : TE} {Fe : E Ω D} {Fl' : E Ω (List D)} {t u : TS} {Ft Fu : S Ω} {c : TT} {Fc : E Ω Bool}
/-- an expression, then what follows with its value; what it raises leaves -/
def withE {α : Type} (e : E Ω α) (k : α → S Ω) : S Ω := fun τ ω => match e τ ω with
  | .ok a ω1 => k a τ ω1
  | .ex x ω1 => some (.rs x τ, ω1)
  | .no => none
def sNx : S Ω := fun τ ω => some (.nx τ, ω)
def sSeq (a b : S Ω) : S Ω := fun τ ω => match a τ ω with
  | some (.nx τ1, ω1) => b τ1 ω1
  | r => r
def sIf (c : E Ω Bool) (a b : S Ω) : S Ω := withE c fun x => if x then a else b
def sRet (e : E Ω D) : S Ω := withE e fun d _ ω => some (.rt d, ω)
def sRetO (i : Nat) : S Ω := fun τ ω => match τ[i]? with
  | some (some (.ow .L xs)) => some (.rt (.lst xs), ω)
  | _ => none
def sAsg (e : E Ω D) (B : D → Tau → Option Tau) : S Ω := withE e fun d τ ω => (B d τ).map fun τ' => (.nx τ', ω)
def sSetO (e : E Ω (List D)) (i : Nat) : S Ω := withE e fun ds τ ω => some (.nx (τ.set i (some (.ow .L ds))), ω)
def sApp (i : Nat) (e : E Ω D) : S Ω := fun τ ω => match τ[i]? with
  | some (some (.ow .L xs)) => withE e (fun d τ ω => if xs.length ≤ 100000 then some (.nx (τ.set i (some (.ow .L (xs ++ [d])))), ω) else none) τ ω
  | _ => none
theorem withE_kx {α : Type} {e : E Ω α} {k : α → S Ω} {τ : Tau} {ω : Ω} {H0 H : Hp} {σ : L2.St} {D : Ends} (s : STT G K H0 H σ τ) (t : G.At ω H) (h : KS G K H0 H D W (withE e k τ ω)) :
    Res G (e τ ω) H (fun a ω1 H1 => KS G K H0 H1 D W (k a τ ω1)) (kX G K W σ) := by
  unfold withE at h
  cases q : e τ ω with
  | ok a ω1 => rw [q] at h; exact fun H1 k1 t1 => h.mono (k1.sb t)
  | ex x ω1 =>
    rw [q] at h
    exact fun H1 k1 t1 cls dd r => h σ H1 (k1.sb t) (s.step t k1) t1 cls dd r
  | no => rw [q] at h; exact h.elim
theorem ds_nx : DS G K W tNext sNx := fun H0 σ H ω τ s t D h => h σ H .refl s t
theorem ds_seq (ha : DS G K W t Ft) (hb : DS G K W u Fu) : DS G K W (tSeq t u) (sSeq Ft Fu) := by
  intro H0 σ H ω τ s t' D h
  refine ha H0 σ H ω τ s t' _ ?_
  unfold sSeq at h
  cases q : Ft τ ω with
  | none => rw [q] at h; exact h
  | some p =>
    obtain ⟨fl, ω1⟩ := p
    rw [q] at h
    cases fl with
    | nx τ1 => exact fun σ' H' sb s1 t1 => hb H0 σ' H' ω1 τ1 s1 t1 D (h.mono sb)
    | bk τ1 => exact h
    | ct τ1 => exact h
    | rt d => exact h
    | rs x τ1 => exact h
    | rl d => exact h
theorem ds_if (hc : DT G K W c Fc) (ha : DS G K W t Ft) (hb : DS G K W u Fu) : DS G K W (tIfS c t u) (sIf Fc Ft Fu) := by
  intro H0 σ H ω τ s t' D h
  refine hc H0 σ H ω τ s t' _ (Res.imp (withE_kx s t' h) (fun x ω1 H1 k1 t1 h1 => ?_) fun _ _ _ _ _ q => q)
  cases x with
  | true => exact ha H0 σ H1 ω1 τ (s.step t' k1) t1 D h1
  | false => exact hb H0 σ H1 ω1 τ (s.step t' k1) t1 D h1
theorem ds_ret (he : DE G K W te Fe) : DS G K W (tRet te) (sRet Fe) := by
  intro H0 σ H ω τ s t' D h
  exact he H0 σ H ω τ s t' _ (Res.imp (withE_kx s t' h) (fun x ω1 H1 k1 t1 h1 v r => h1 v H1 .refl (s.step t' k1).fr t1 r) fun _ _ _ _ _ q => q)
def DG (G : Gam im Ω) (K : PySem.W.Frag) (g : TG) (sl : List Nat) (B : D → Tau → Option Tau) : Prop := ∀ H0 σ H τ v d τ', STT G K H0 H σ τ → Rep K im H v d → B d τ = some τ' →
  ∀ Q : L2.St → Hp → Prop, (∀ σ', STT G K H0 H σ' τ' → (∀ j, j ∉ sl → σ'[j]? = σ[j]?) → σ'.length = σ.length → Q σ' H) → g v σ H Q
def DGs (G : Gam im Ω) (K : PySem.W.Frag) (g : TGs) (sl : List Nat) (B : List D → Tau → Option Tau) : Prop := ∀ H0 σ H τ vs ds τ', STT G K H0 H σ τ → RepL K im H vs ds → B ds τ = some τ' →
  ∀ Q : L2.St → Hp → Prop, (∀ σ', STT G K H0 H σ' τ' → (∀ j, j ∉ sl → σ'[j]? = σ[j]?) → σ'.length = σ.length → Q σ' H) → g vs σ H Q
def bName (i : Nat) : D → Tau → Option Tau := fun d τ => some (τ.set i (some (.d d)))
def bNil : List D → Tau → Option Tau := fun ds τ => match ds with
  | [] => some τ
  | _ => none
def bCons (b : D → Tau → Option Tau) (r : List D → Tau → Option Tau) : List D → Tau → Option Tau := fun ds τ => match ds with
  | d :: ds => (b d τ).bind (r ds)
  | [] => none
def bTup (n : Nat) (r : List D → Tau → Option Tau) : D → Tau → Option Tau := fun d τ => match d with
  | .tup ds => if ds.length = n then r ds τ else none
  | .lst ds => if ds.length = n then r ds τ else none
  | _ => none
theorem dg_name {i : Nat} : DG G K (gName i) [i] (bName i) := by
  intro H0 σ H τ v d τ' s r e Q q
  cases e
  exact q _ (s.setD r i) (fun j hj => by rw [List.getElem?_set_ne]; intro z; exact hj (by simp [z])) (by simp)
theorem dgs_nil : DGs G K gNil [] bNil := by
  intro H0 σ H τ vs ds τ' s r e Q q
  cases ds with
  | nil => cases e; cases r; exact ⟨rfl, q σ s (fun _ _ => rfl) rfl⟩
  | cons d ds => cases e
theorem dgs_cons {g : TG} {gs : TGs} {sl sl' : List Nat} {b : D → Tau → Option Tau} {r : List D → Tau → Option Tau} (h1 : DG G K g sl b) (h2 : DGs G K gs sl' r) : DGs G K (gCons g gs) (sl ++ sl') (bCons b r) := by
  intro H0 σ H τ vs ds τ' s r' e Q q
  cases ds with
  | nil => cases e
  | cons d ds =>
    cases r' with
    | @cons v vs _ _ ra rb =>
      obtain ⟨τ1, e1, e2⟩ := Option.bind_eq_some_iff.mp e
      refine ⟨v, vs, rfl, h1 H0 σ H τ v d τ1 s ra e1 _ fun σ1 s1 f1 l1 => ?_⟩
      refine h2 H0 σ1 H τ1 vs ds τ' s1 rb e2 Q fun σ2 s2 f2 l2 => q σ2 s2 (fun j hj => ?_) (l2.trans l1)
      rw [List.mem_append, not_or] at hj
      rw [f2 j hj.2, f1 j hj.1]
/-- a tuple or a list is taken apart -/
def gSq (K : PySem.W.Frag) (n : Nat) (gs : TGs) : TG := fun v σ H Q => gTup K n gs v σ H Q ∨ gLst K n gs v σ H Q
theorem pg_sq {X : Cx} {pos : Pos} {es : List Expr} {k : Nat} {t : TGs} {n : Nat} (hc : X.calm = true) (h : PGs X es t)
    (hn : (assignEach es X.env).length = n := by rfl) (hst : (assignEach es X.env).findIdx? (·.1) = none := by rfl) : PG X (.Tuple es k pos) (gSq X.K n t) :=
  ⟨fun pins s σ H v u Q I r hw => hw.elim (fun q => (pg_tup (k := k) (pos := pos) hc h hn hst).run pins s σ H v u Q I r q) (fun q => (pg_lst (k := k) (pos := pos) hc h hn hst).run pins s σ H v u Q I r q)⟩
theorem dg_tup {n : Nat} {gs : TGs} {sl : List Nat} {r : List D → Tau → Option Tau} (h : DGs G K gs sl r) : DG G K (gSq K n gs) sl (bTup n r) := by
  intro H0 σ H τ v d τ' s r' e Q q
  cases r' with
  | @tup a vs ds h1 h2 =>
    simp only [bTup, Option.ite_none_right_eq_some] at e
    obtain ⟨hl, e⟩ := e
    exact .inl ⟨a, vs, rfl, h1, by rw [h2.length]; exact hl, h H0 σ H τ vs ds τ' s h2 e Q q⟩
  | @lst a vs ds h1 h2 =>
    simp only [bTup, Option.ite_none_right_eq_some] at e
    obtain ⟨hl, e⟩ := e
    exact .inr ⟨a, vs, rfl, h1.l, by rw [h2.length]; exact hl, h H0 σ H τ vs ds τ' s h2 e Q q⟩
  | _ => cases e
theorem ds_asg {g : TG} {sl : List Nat} {B : D → Tau → Option Tau} (he : DE G K W te Fe) (hg : DG G K g sl B) : DS G K W (tAsg te g) (sAsg Fe B) := by
  intro H0 σ H ω τ s t' D h
  refine he H0 σ H ω τ s t' _ (Res.imp (withE_kx s t' h) (fun d ω1 H1 k1 t1 h1 v r => ?_) fun _ _ _ _ _ q => q)
  cases e : B d τ with
  | none => rw [e] at h1; exact h1.elim
  | some τ' =>
    rw [e] at h1
    exact hg H0 σ H1 τ v d τ' (s.step t' k1) r e D.nx fun σ' s' _ _ => h1 σ' H1 .refl s' t1
theorem ds_setO {i : Nat} (he : DL G K W te Fl') : DS G K W (tAsg te (gName i)) (sSetO Fl' i) := by
  intro H0 σ H ω τ s t' D h
  refine he H0 σ H ω τ s t' _ (Res.imp (withE_kx s t' h) (fun ds ω1 H1 k1 t1 h1 p vs hp hl r => ?_) fun _ _ _ _ _ q => q)
  exact h1 _ H1 .refl (s.setO t' hp k1 hl r i) t1
theorem ds_app {i : Nat} (he : DE G K W te Fe) : DS G K W (tDrop (tBM K "list" rAppend (tVar i) (tCons te tNil))) (sApp i Fe) := by
  intro H0 σ H ω τ s t' D h
  unfold sApp at h
  split at h
  · rename_i xs hx
    obtain ⟨l, vs, e, h1, h2, h3, h4⟩ := s.getO hx
    refine ⟨_, e, .inl ⟨rfl, vs, SqL.of h1⟩, ?_⟩
    refine he H0 σ H ω τ s t' _ (Res.imp (withE_kx s t' h) (fun d ω1 H1 k1 t1 h1' v r => ?_) fun _ _ _ _ _ q => q)
    split at h1'
    · rename_i hlen
      have hl1 : H1 l = some (.lst vs) := k1 _ _ h1 h4
      have rr : RepL K im H1 (vs ++ [v]) (xs ++ [d]) := (h2.up (k1.sb t')).append (.one r)
      obtain ⟨s2, t2, sb⟩ := (s.step t' k1).mutO t1 hx e ⟨vs, hl1⟩ rr
      refine ⟨l, vs, v, rfl, rfl, hl1, Nat.lt_of_le_of_lt (by rw [h2.length]; exact hlen) (by rw [sizeLine_eq]; decide), h1' σ _ sb s2 t2⟩
    · exact h1'.elim
  · exact h.elim
def Yields (im : Addr → Bool) (K : PySem.W.Frag) (J : It) (H : Hp) (ds : List D) : Prop := ∀ (i : Nat) (H' : Hp), Sb im H H' →
  (∀ d, ds[i]? = some d → J.go i H' ∧ ∀ x H3, J.yld i H' x H3 → Same H' H3 ∧ Rep K im H3 x d) ∧ (ds.length ≤ i → J.stop i H')
def DI (G : Gam im Ω) (K : PySem.W.Frag) (W : WX) (wi : TI) (F : E Ω (List D)) : Prop := ∀ H0 σ H ω τ, STT G K H0 H σ τ → G.At ω H → ∀ R : It → Hp → Prop,
  Res G (F τ ω) H (fun ds _ H' => ∀ J, Yields im K J H' ds → R J H') (kX G K W σ) → wi σ H R
theorem yields_list {a : Addr} {H : Hp} {vs : List V} {ds : List D} (h1 : SqZ H a vs) (h2 : RepL K im H vs ds) : Yields im K (Itl K a) H ds := by
  intro i H' sb
  have q := sb.sqZ h1
  have r := h2.up sb
  refine ⟨fun d hd => ?_, fun hi => ⟨vs, q.l, by rw [r.length]; exact hi⟩⟩
  obtain ⟨v, hv, rv⟩ := r.get hd
  refine ⟨⟨vs, v, q.l, hv⟩, fun x H3 y => ?_⟩
  obtain ⟨rfl, y⟩ := y
  have := y vs q.l
  rw [hv] at this; cases this
  exact ⟨Same.refl _, rv⟩
theorem yields_tup {a : Addr} {H : Hp} {vs : List V} {ds : List D} (h1 : SqT K H a vs) (h2 : RepL K im H vs ds) : Yields im K (Itt K a) H ds := by
  intro i H' sb
  have q := sb.sqT h1
  have r := h2.up sb
  refine ⟨fun d hd => ?_, fun hi => ⟨vs, q, by rw [r.length]; exact hi⟩⟩
  obtain ⟨v, hv, rv⟩ := r.get hd
  refine ⟨⟨vs, v, q, hv⟩, fun x H3 y => ?_⟩
  obtain ⟨rfl, y⟩ := y
  have := y vs q
  rw [hv] at this; cases this
  exact ⟨Same.refl _, rv⟩
/-- lo, lo + c, .. -/
def rangeL (lo c : Int) : Nat → List D
  | 0 => []
  | n + 1 => .int lo :: rangeL (lo + c) c n
theorem rangeL_len (c : Int) : ∀ (n : Nat) (lo : Int), (rangeL lo c n).length = n
  | 0, _ => rfl
  | n + 1, lo => by rw [rangeL, List.length_cons, rangeL_len c n]
theorem rangeL_get (c : Int) : ∀ (n : Nat) (lo : Int) (i : Nat) (d : D), (rangeL lo c n)[i]? = some d → d = .int (lo + i * c) ∧ i < n
  | 0, _, i, d, h => by simp [rangeL] at h
  | n + 1, lo, 0, d, h => by
    simp [rangeL] at h
    subst h
    exact ⟨by simp, by omega⟩
  | n + 1, lo, i + 1, d, h => by
    simp only [rangeL, List.getElem?_cons_succ] at h
    obtain ⟨h1, h2⟩ := rangeL_get c n _ i d h
    refine ⟨?_, by omega⟩
    rw [h1]
    congr 1
    have : ((i + 1 : Nat) : Int) * c = (i : Int) * c + c := by rw [Int.natCast_add, Int.add_mul]; simp
    rw [this]; omega
def rg1 : List D → Option (List D)
  | [.int j] => if -(2 ^ 62) ≤ j ∧ j < 2 ^ 62 then some (rangeL 0 1 j.toNat) else none
  | _ => none
def iRg (f : List D → Option (List D)) (a : E Ω (List D)) : E Ω (List D) := fun τ ω => (a τ ω).bind fun x ω1 => .ofO (f x) ω1
theorem yields_range {H : Hp} {lo : Int} {n : Nat} : Yields im K (Itr lo n) H (rangeL lo 1 n) := by
  intro i H' sb
  refine ⟨fun d hd => ?_, fun hi => by rw [rangeL_len] at hi; exact hi⟩
  obtain ⟨rfl, hi⟩ := rangeL_get 1 n lo i d hd
  refine ⟨hi, fun x H3 y => ?_⟩
  obtain ⟨rfl, rfl⟩ := y
  rw [Int.mul_one]
  exact ⟨Same.refl _, .int _⟩
theorem di_rg1 {ta : TA} {Fr : E Ω (List D)} (ha : DA G K W ta Fr) : DI G K W (iRng1 ta) (iRg rg1 Fr) := by
  intro H0 σ H ω τ s t' R h
  refine ha H0 σ H ω τ s t' _ (Res.imp (Res.bind h) (fun xs ω1 H1 k1 t1 h1 vs r => ?_) fun _ _ _ _ _ q => q)
  cases e : rg1 xs with
  | none => rw [e] at h1; exact h1.elim
  | some ds =>
    rw [e] at h1
    unfold rg1 at e
    split at e
    · cases r with
      | cons ra rb =>
        cases ra
        cases rb
        simp only [Option.ite_none_right_eq_some] at e
        obtain ⟨⟨e1, e2⟩, e3⟩ := e
        cases e3
        exact ⟨_, rfl, e1, e2, h1 H1 k1 t1 _ yields_range⟩
    · cases e
def loop (B : D → Tau → Option Tau) (F : S Ω) : List D → S Ω
  | [] => fun τ ω => some (.nx τ, ω)
  | d :: ds => fun τ ω => match B d τ with
    | none => none
    | some τ1 => match F τ1 ω with
      | some (.nx τ2, ω2) => loop B F ds τ2 ω2
      | some (.ct τ2, ω2) => loop B F ds τ2 ω2
      | some (.bk τ2, ω2) => some (.nx τ2, ω2)
      | r => r
def sFor (i : E Ω (List D)) (B : D → Tau → Option Tau) (F : S Ω) : S Ω := withE i fun ds => loop B F ds
theorem ds_for {wi : TI} {Fi : E Ω (List D)} {g : TG} {sl : List Nat} {B : D → Tau → Option Tau} (hi : DI G K W wi Fi) (hg : DG G K g sl B) (hb : DS G K W t Ft) : DS G K W (tFor wi g t) (sFor Fi B Ft) := by
  intro H0 σ H ω τ s t' D h
  refine hi H0 σ H ω τ s t' _ (Res.imp (withE_kx s t' h) (fun ds ω1 H1 k1 t1 h1 J y => ?_) fun _ _ _ _ _ q => q)
  refine ⟨fun i m σ' H' => m = ds.length - i ∧ i ≤ ds.length ∧ ∃ τ' ω', Sb im H1 H' ∧ STT G K H0 H' σ' τ' ∧ G.At ω' H' ∧ KS G K H0 H' D W (loop B Ft (ds.drop i) τ' ω'),
    ⟨ds.length, by simp, Nat.zero_le _, τ, ω1, .refl, s.step t' k1, t1, by simpa using h1⟩, ?_⟩
  rintro i m σ' H' ⟨rfl, hle, τ', ω', sb, s', t2, ks⟩
  by_cases hlt : i < ds.length
  · refine .inr ?_
    have hd : ds[i]? = some ds[i] := List.getElem?_eq_getElem hlt
    obtain ⟨go, yl⟩ := (y i H' sb).1 _ hd
    have hdrop : ds.drop i = ds[i] :: ds.drop (i + 1) := List.drop_eq_getElem_cons hlt
    rw [hdrop] at ks
    refine ⟨go, fun σ2 H2 => ∃ τ2 ω2, Sb im H1 H2 ∧ STT G K H0 H2 σ2 τ2 ∧ G.At ω2 H2 ∧ KS G K H0 H2 D W (loop B Ft (ds.drop (i + 1)) τ2 ω2), fun σ2 H2 ⟨τ2, ω2, a, b, c, d⟩ => ⟨_, by omega, rfl, hlt, τ2, ω2, a, b, c, d⟩, fun x H3 yx => ?_⟩
    obtain ⟨sm, rx⟩ := yl x H3 yx
    have s3 := s'.step t2 (.of sm)
    have t3 := At.same t2 sm
    unfold loop at ks
    cases eB : B ds[i] τ' with
    | none => rw [eB] at ks; exact ks.elim
    | some τ1 =>
      rw [eB] at ks
      have ks := ks.mono (Sb.of sm)
      refine hg H0 σ' H3 τ' x _ τ1 s3 rx eB _ fun σ4 s4 _ _ => ?_
      refine hb H0 σ4 H3 ω' τ1 s4 t3 _ ?_
      have base := sb.trans (Sb.of (im := im) sm)
      simp only at ks
      cases eF : Ft τ1 ω' with
      | none => rw [eF] at ks; exact ks.elim
      | some p =>
        obtain ⟨fl, ω5⟩ := p
        rw [eF] at ks
        cases fl with
        | nx τ5 => exact fun σ6 H6 sb6 s6 t6 => ⟨τ5, ω5, base.trans sb6, s6, t6, ks.mono sb6⟩
        | ct τ5 => exact fun σ6 H6 sb6 s6 t6 => ⟨τ5, ω5, base.trans sb6, s6, t6, ks.mono sb6⟩
        | bk τ5 => exact fun σ6 H6 sb6 s6 t6 => ks σ6 H6 sb6 s6 t6
        | rt d => exact ks
        | rs x τ5 => exact ks
        | rl d => exact ks
  · refine .inl ⟨(y i H' sb).2 (by omega), ?_⟩
    have : ds.drop i = [] := List.drop_eq_nil_of_le (by omega)
    rw [this] at ks
    exact ks σ' H' .refl s' t2
def wloop (c : E Ω Bool) (F : S Ω) : Nat → S Ω
  | 0 => fun _ _ => none
  | n + 1 => withE c fun b τ ω => if b then match F τ ω with
      | some (.nx τ2, ω2) => wloop c F n τ2 ω2
      | some (.ct τ2, ω2) => wloop c F n τ2 ω2
      | some (.bk τ2, ω2) => some (.nx τ2, ω2)
      | r => r
    else some (.nx τ, ω)
def sWhile (n : Tau → Ω → Nat) (c : E Ω Bool) (F : S Ω) : S Ω := fun τ ω => wloop c F (n τ ω) τ ω
theorem ds_while {n : Tau → Ω → Nat} (hc : DT G K W c Fc) (hb : DS G K W t Ft) : DS G K W (tWhile c t) (sWhile n Fc Ft) := by
  intro H0 σ H ω τ s t' D h
  refine ⟨fun m σ' H' => ∃ τ' ω', STT G K H0 H' σ' τ' ∧ G.At ω' H' ∧ KS G K H0 H' D W (wloop Fc Ft m τ' ω'), ⟨n τ ω, τ, ω, s, t', h⟩, ?_⟩
  rintro m σ' H' ⟨τ', ω', s', t2, ks⟩
  cases m with
  | zero => exact ks.elim
  | succ m =>
    unfold wloop at ks
    refine hc H0 σ' H' ω' τ' s' t2 _ (Res.imp (withE_kx s' t2 ks) (fun b ω1 H1 k1 t1 h1 => ?_) fun _ _ _ _ _ q => q)
    have s1 := s'.step t2 k1
    cases b with
    | false => exact h1 σ' H1 .refl s1 t1
    | true =>
      refine ⟨fun σ2 H2 => ∃ τ2 ω2, STT G K H0 H2 σ2 τ2 ∧ G.At ω2 H2 ∧ KS G K H0 H2 D W (wloop Fc Ft m τ2 ω2), fun σ2 H2 q => ⟨m, Nat.lt_succ_self m, q⟩, ?_⟩
      refine hb H0 σ' H1 ω1 τ' s1 t1 _ ?_
      simp only [if_true] at h1
      cases eF : Ft τ' ω1 with
      | none => rw [eF] at h1; exact h1.elim
      | some p =>
        obtain ⟨fl, ω5⟩ := p
        rw [eF] at h1
        cases fl with
        | nx τ5 => exact fun σ6 H6 sb6 s6 t6 => ⟨τ5, ω5, s6, t6, KS.mono (r := wloop Fc Ft m τ5 ω5) h1 sb6⟩
        | ct τ5 => exact fun σ6 H6 sb6 s6 t6 => ⟨τ5, ω5, s6, t6, KS.mono (r := wloop Fc Ft m τ5 ω5) h1 sb6⟩
        | bk τ5 => exact h1
        | rt d => exact h1
        | rs x τ5 => exact h1
        | rl d => exact h1
end
end DL
namespace DL
open PySem PySem.Spec PyProof.Rows L2
def wipeT (τ : Tau) : List Nat → Tau
  | [] => τ
  | v :: vs => (wipeT τ vs).set v none
section
variable {im : Addr → Bool} {Ω : Type} {G : Gam im Ω} {K : PySem.W.Frag} {W W' : WX} {te : TE} {Fe : E Ω D} {tt : TT} {Ft : E Ω Bool}
theorem STT.setN {H0 H : Hp} {σ : L2.St} {τ : Tau} (s : STT G K H0 H σ τ) (i : Nat) (v : Option V) : STT G K H0 H (σ.set i v) (τ.set i none) := by
  refine ⟨by simp [s.len], fun j w c e1 e2 => ?_, fun j k l _ _ xs ys hjk e1 e2 e3 e4 => ?_, s.fr⟩
  · by_cases hj : i = j
    · subst hj
      have hi : i < σ.length := by simpa using (List.getElem?_eq_some_iff.mp e1).1
      rw [List.getElem?_set_self (by rw [← s.len]; exact hi)] at e2
      cases e2
      exact .un
    · rw [List.getElem?_set_ne hj] at e1 e2
      exact s.ok j w c e1 e2
  · have a : i ≠ j := fun q => by
      subst q
      have hi : i < τ.length := by simpa using (List.getElem?_eq_some_iff.mp e2).1
      rw [List.getElem?_set_self hi] at e2
      cases e2
    have b : i ≠ k := fun q => by
      subst q
      have hi : i < τ.length := by simpa using (List.getElem?_eq_some_iff.mp e4).1
      rw [List.getElem?_set_self hi] at e4
      cases e4
    rw [List.getElem?_set_ne a] at e1 e2
    rw [List.getElem?_set_ne b] at e3 e4
    exact s.dj j k l xs ys hjk e1 e2 e3 e4
theorem STT.wipe {H0 H : Hp} {σ : L2.St} {τ : Tau} (s : STT G K H0 H σ τ) : ∀ vs : List Nat, STT G K H0 H (wipe σ vs) (wipeT τ vs)
  | [] => s
  | v :: vs => (STT.wipe s vs).setN v none
theorem wipe_get (σ : L2.St) : ∀ (vs : List Nat) (i : Nat), (wipe σ vs)[i]? = if i ∈ vs ∧ i < σ.length then some none else σ[i]?
  | [], i => by simp [wipe]
  | v :: vs, i => by
    unfold wipe
    by_cases hv : v = i
    · subst hv
      by_cases hl : v < σ.length
      · rw [List.getElem?_set_self (by rw [wipe_length]; exact hl), if_pos ⟨by simp, hl⟩]
      · rw [List.getElem?_eq_none (by rw [List.length_set, wipe_length]; omega), if_neg (fun h => hl h.2), List.getElem?_eq_none (by omega)]
    · rw [List.getElem?_set_ne hv, wipe_get σ vs i]
      have e : i ∈ v :: vs ↔ i ∈ vs := by simp [Ne.symm hv]
      simp only [e]
theorem wipe_ext {σ σ' : L2.St} {vs : List Nat} (h : ∀ j, j ∉ vs → σ'[j]? = (L2.wipe σ vs)[j]?) (hl : σ'.length = (L2.wipe σ vs).length) : L2.wipe σ' vs = L2.wipe σ vs := by
  apply List.ext_getElem?
  intro i
  rw [wipe_get, wipe_get]
  rw [wipe_length] at hl
  rw [hl]
  split
  · rfl
  · rename_i hn
    by_cases hm : i ∈ vs
    · have : ¬ i < σ.length := fun z => hn ⟨hm, z⟩
      rw [List.getElem?_eq_none (by omega), List.getElem?_eq_none (by omega)]
    · rw [h i hm, wipe_get, if_neg (fun z => hm z.1)]
def lcL (B : D → Tau → Option Tau) (Ft : E Ω Bool) (Fe : E Ω D) (τ : Tau) : List D → Ω → R Ω (List D)
  | [], ω => .ok [] ω
  | d :: ds, ω => match B d τ with
    | none => .no
    | some τ1 => (nox (Ft τ1 ω)).bind fun b ω1 => if b then (nox (Fe τ1 ω1)).bind fun x ω2 => (lcL B Ft Fe τ ds ω2).bind fun xs ω3 => .ok (x :: xs) ω3 else lcL B Ft Fe τ ds ω1
def eLc (vs : List Nat) (i : E Ω (List D)) (B : D → Tau → Option Tau) (Ft : E Ω Bool) (Fe : E Ω D) : E Ω (List D) := fun τ ω => (i τ ω).bind fun ds ω1 => if ds.length ≤ sizeLine then nox (lcL B Ft Fe (wipeT τ vs) ds ω1) else .no
theorem nox_eq {α : Type} {r : R Ω α} {a : α} {ω : Ω} (h : nox r = .ok a ω) : r = .ok a ω := by
  cases r <;> simp [nox] at h
  obtain ⟨rfl, rfl⟩ := h; rfl
theorem bind_eq {α β : Type} {r : R Ω α} {f : α → Ω → R Ω β} {b : β} {ω : Ω} (h : r.bind f = .ok b ω) : ∃ a ω1, r = .ok a ω1 ∧ f a ω1 = .ok b ω := by
  cases r with
  | ok a ω1 => exact ⟨a, ω1, rfl, h⟩
  | ex x ω1 => cases h
  | no => cases h
theorem dl_lc {wi : TI} {Fi : E Ω (List D)} {g : TG} {sl vs : List Nat} {B : D → Tau → Option Tau} (hi : DI G K W wi Fi) (hg : DG G K g sl B) (ht : DT G K W' tt Ft) (he : DE G K W' te Fe) (hsl : ∀ j, j ∉ vs → j ∉ sl) : DL G K W (tLc wi g tt te vs) (eLc vs Fi B Ft Fe) := by
  intro H0 σ H ω τ s t' Q h
  refine hi H0 σ H ω τ s t' _ (Res.imp (Res.bind h) (fun ds ω1 H1 k1 t1 h1 J y => ?_) fun _ _ _ _ _ q => q)
  have hlen : ds.length ≤ sizeLine := by
    by_cases hq : ds.length ≤ sizeLine
    · exact hq
    · rw [if_neg hq] at h1; exact h1.elim
  rw [if_pos hlen] at h1
  cases e0 : lcL B Ft Fe (wipeT τ vs) ds ω1 with
  | no => rw [e0] at h1; exact h1.elim
  | ex x u => rw [e0] at h1; exact h1.elim
  | ok total ωe =>
  rw [e0] at h1
  intro p hp
  have nf : ¬ G.FP p := fun f => G.trk t1 p f hp
  have hp0 : H p = none := by
    cases e : H p with
    | none => rfl
    | some o => have := k1 p o e nf; rw [hp] at this; cases this
  refine ⟨fun i m H' => m = ds.length - i ∧ i ≤ ds.length ∧ ∃ ω' acc accd rest, Kp G H1 H' ∧ H' p = some (.lst acc) ∧ RepL K im H' acc accd ∧ G.At ω' H' ∧ lcL B Ft Fe (wipeT τ vs) (ds.drop i) ω' = .ok rest ωe ∧ accd ++ rest = total ∧ acc.length ≤ i,
    ⟨ds.length, by simp, Nat.zero_le _, ω1, [], [], total, .of (Same.new hp), upd_same, .nil, At.same t1 (Same.new hp), by simpa using e0, rfl, Nat.le_refl _⟩, ?_⟩
  rintro i m H' ⟨rfl, hle, ω', acc, accd, rest, kp, hpl, racc, t2, el, eapp, hacc⟩
  have sb1 : Sb im H1 H' := kp.sb t1
  by_cases hlt : i < ds.length
  · refine .inr ?_
    have hd : ds[i]? = some ds[i] := List.getElem?_eq_getElem hlt
    obtain ⟨go, yl⟩ := (y i H' sb1).1 _ hd
    have hdrop : ds.drop i = ds[i] :: ds.drop (i + 1) := List.drop_eq_getElem_cons hlt
    rw [hdrop] at el
    unfold lcL at el
    cases eB : B ds[i] (wipeT τ vs) with
    | none => rw [eB] at el; cases el
    | some τ1 =>
    rw [eB] at el
    obtain ⟨b, ω5, ef, el⟩ := bind_eq el
    have ef := nox_eq ef
    refine ⟨go, fun H'' => ∃ m', m' = ds.length - (i + 1) ∧ i + 1 ≤ ds.length ∧ ∃ ω' acc accd rest, Kp G H1 H'' ∧ H'' p = some (.lst acc) ∧ RepL K im H'' acc accd ∧ G.At ω' H'' ∧ lcL B Ft Fe (wipeT τ vs) (ds.drop (i + 1)) ω' = .ok rest ωe ∧ accd ++ rest = total ∧ acc.length ≤ i + 1,
      fun H'' ⟨m', e, a⟩ => ⟨m', by omega, e, a⟩, fun x H3 yx => ?_⟩
    obtain ⟨sm, rx⟩ := yl x H3 yx
    have s3 : STT G K H0 H3 (L2.wipe σ vs) (wipeT τ vs) := ((((s.step t' k1).step t1 kp).step t2 (.of sm))).wipe vs
    have t3 := At.same t2 sm
    refine hg H0 (L2.wipe σ vs) H3 (wipeT τ vs) x _ τ1 s3 rx eB _ fun σ4 s4 f4 l4 => ⟨wipe_ext (fun j hj => f4 j (hsl j hj)) l4, ?_⟩
    refine ht H0 σ4 H3 ω' τ1 s4 t3 _ ?_
    rw [ef]
    intro H5 k5 t5
    have kk : Kp G H1 H5 := (kp.trans (.of sm)).trans k5
    have hp5 : H5 p = some (.lst acc) := k5 p _ (sm p _ hpl) nf
    have sb5 : Sb im H' H5 := (Sb.of sm).trans (k5.sb t3)
    cases b with
    | false =>
      simp only [Bool.false_eq_true, if_false] at el ⊢
      exact ⟨_, rfl, hlt, ω5, acc, accd, rest, kk, hp5, racc.up sb5, t5, el, eapp, by omega⟩
    | true =>
      simp only [if_true] at el ⊢
      obtain ⟨z, ω6, ee, el⟩ := bind_eq el
      have ee := nox_eq ee
      obtain ⟨rest', ω7, el2, er⟩ := bind_eq el
      cases er
      refine he H0 σ4 H5 ω5 τ1 (s4.step t3 k5) t5 _ ?_
      rw [ee]
      intro H6 k6 t6 v rv
      have hp6 : H6 p = some (.lst acc) := k6 p _ hp5 nf
      have sb6 : Sb im H' H6 := sb5.trans (k6.sb t5)
      have sbu : Sb im H6 (upd H6 p (.lst (acc ++ [v]))) := fun c u eb st => by
        have : c ≠ p := fun q => by subst q; rw [hp6] at eb; cases eb; exact st
        rw [upd_ne this]; exact eb
      refine ⟨acc, hp6, Nat.lt_of_lt_of_le (Nat.lt_of_le_of_lt hacc hlt) hlen, _, rfl, hlt, ω6, acc ++ [v], accd ++ [z], rest', fun c u eb nfc => ?_, upd_same, ((racc.up sb6).append (.one rv)).up sbu, G.keep t6 (fun c u f eb => ?_) sbu, el2, by rw [List.append_assoc]; exact eapp, by rw [List.length_append, List.length_singleton]; omega⟩
      · have : c ≠ p := fun q => by subst q; rw [hp] at eb; cases eb
        rw [upd_ne this]; exact k6 c u (kk c u eb nfc) nfc
      · have : c ≠ p := fun q => nf (q ▸ f)
        rw [upd_ne this]; exact eb
  · refine .inl ⟨(y i H' sb1).2 (by omega), ?_⟩
    have e1 : ds.drop i = [] := List.drop_eq_nil_of_le (by omega)
    rw [e1] at el
    unfold lcL at el
    cases el
    rw [List.append_nil] at eapp
    subst eapp
    exact h1 H' (k1.trans kp) t2 p acc hp0 hpl racc
end
section
variable {im : Addr → Bool} {P : Program} {w : World} {K : PySem.W.Frag} {mg : Str → Option Value} {base : Heap}
def startT (N : Nat) (cs : List Cell) : Tau := cs.map some ++ List.replicate (N - cs.length) none
/-- what a body gives -/
def runS {Ω : Type} (F : S Ω) (τ : Tau) (ω : Ω) : R Ω D := match F τ ω with
  | some (.rt d, ω') => .ok d ω'
  | some (.nx _, ω') => .ok .non ω'
  | some (.rs x _, ω') => .ex x ω'
  | _ => .no
theorem stt_start {Ω : Type} {G : Gam im Ω} {H : Hp} : ∀ {vs : List V} {cs : List Cell}, vs.length = cs.length → (∀ (i : Nat) v c, vs[i]? = some v → cs[i]? = some c → SlotOk G K H H (some v) (some c)) → (∀ c ∈ cs, ∀ k xs, c ≠ .ow k xs) → ∀ (n : Nat), STT G K H H (vs.map some ++ List.replicate (n - vs.length) none) (startT n cs) := by
  intro vs cs hl h ho n
  have no : ∀ (i : Nat) (k : OKd) (xs : List D), (startT n cs)[i]? ≠ some (some (.ow k xs)) := fun i k xs e => by
    unfold startT at e
    by_cases hi : i < cs.length
    · rw [List.getElem?_append_left (by simpa using hi), List.getElem?_map] at e
      cases q : cs[i]? with
      | none => rw [q] at e; cases e
      | some c =>
        rw [q] at e
        simp at e
        exact ho c (List.mem_of_getElem? q) k xs e
    · rw [List.getElem?_append_right (by simpa using hi)] at e
      rw [List.getElem?_replicate] at e
      split at e <;> cases e
  refine ⟨by unfold startT; simp [hl], fun i v c e1 e2 => ?_, fun i j l _ _ xs ys _ _ e2 _ _ => absurd e2 (no i _ xs), .refl⟩
  unfold startT at e2
  by_cases hi : i < cs.length
  · rw [List.getElem?_append_left (by simpa using hi), List.getElem?_map] at e2
    rw [List.getElem?_append_left (by simpa [hl] using hi), List.getElem?_map] at e1
    cases q2 : cs[i]? with
    | none => rw [q2] at e2; cases e2
    | some c' =>
      cases q1 : vs[i]? with
      | none => rw [q1] at e1; cases e1
      | some v' =>
        rw [q1] at e1; rw [q2] at e2
        simp at e1 e2
        subst e1 e2
        exact h i v' c' q1 q2
  · rw [List.getElem?_append_right (by simpa using hi)] at e2
    rw [List.getElem?_replicate] at e2
    split at e2
    · cases e2; exact .un
    · cases e2
/-- a def that changes nothing and raises nothing -/
theorem fn_D {x qual : Str} {st : Stmt} {f : Addr} {fd : FuncData} {N ps : List Str} {k : Nat} {F : S Unit} (Fn : Fun K x qual st f fd) (Sc : FnScope N ps (defScope st))
    (hb : ∀ (cdv : Value) (A : Around) (outer : List Env) (s : Shared) (H : Hp) (Ex : XK), Room k (A.deeper (envOfC qual (defScope st) s.heap.objs.size f cdv)) →
      ∃ t, PSs (cxOf CX0 P w K mg base N qual (defScope st) f cdv A outer s H Ex).nox (defBody st) t ∧ DS (gam0 im) K (fun _ _ _ _ => False) t F) :
    FnOk P w K mg base CX0 (k + 1) f fd ps (spD K im ps.length fun ds => nox (runS F (startT N.length (ds.map .d)) ())) := by
  refine Fn.ok Sc (fun vs H Q Ex h => h.1) fun cdv A outer s H vs Q Ex hr h => ?_
  obtain ⟨hl, ds, r, h⟩ := h
  obtain ⟨t, ht, hd⟩ := hb cdv A outer s H Ex hr
  refine ⟨t, ht, ?_⟩
  have st : STT (gam0 im) K H H (start N vs) (startT N.length (ds.map .d)) := stt_start (by rw [List.length_map, r.length]) (fun i v c e1 e2 => by
    rw [List.getElem?_map] at e2
    cases q : ds[i]? with
    | none => rw [q] at e2; cases e2
    | some d =>
      rw [q] at e2; cases e2
      obtain ⟨v', e3, r'⟩ := r.get q
      rw [e1] at e3; cases e3
      exact .d r') (fun c hc _ xs e => by
    obtain ⟨d, _, rfl⟩ := List.mem_map.mp hc
    cases e) _
  refine hd H (start N vs) H () _ st trivial _ ?_
  unfold runS at h
  dsimp only at h
  cases q : F (startT N.length (ds.map .d)) () with
  | none => rw [q] at h; exact h.elim
  | some p =>
    obtain ⟨fl, ω'⟩ := p
    rw [q] at h
    cases fl with
    | nx τ => exact fun σ' H' _ s t => h .non H' (fun b o e => s.fr b o e id) .non
    | rt d => exact fun v H' _ k t r => h v H' (fun b o e => k b o e id) r
    | bk τ => exact h.elim
    | ct τ => exact h.elim
    | rs x τ => exact h.elim
    | rl d => exact h.elim
/-- a def that is handed the one thing first -/
theorem fn_W {Ω Pp : Type} {Γ : Pp → Gam im Ω} {x qual : Str} {st : Stmt} {f : Addr} {fd : FuncData} {N ps : List Str} {k : Nat} {F : S Ω} (Fn : Fun K x qual st f fd) (Sc : FnScope N ps (defScope st))
    (hb : ∀ (p : Pp) (cdv : Value) (A : Around) (outer : List Env) (s : Shared) (H : Hp) (Ex : XK), Room k (A.deeper (envOfC qual (defScope st) s.heap.objs.size f cdv)) →
      ∃ t, PSs (cxOf CX0 P w K mg base N qual (defScope st) f cdv A outer s H Ex).nox (defBody st) t ∧ DS (Γ p) K (fun _ _ _ _ => False) t F) :
    FnOk P w K mg base CX0 (k + 1) f fd ps (spW K Γ ps.length 0 fun ds ω => nox (runS F (startT N.length (.src :: ds.map .d)) ω)) := by
  refine Fn.ok Sc (fun vs H Q Ex h => h.1) fun cdv A outer s H vs Q Ex hr h => ?_
  obtain ⟨hl, p, ω, ws, ds, rfl, at0, r, h⟩ := h
  obtain ⟨t, ht, hd⟩ := hb p cdv A outer s H Ex hr
  refine ⟨t, ht, ?_⟩
  have st : STT (Γ p) K H H (start N ((Γ p).obj :: ws)) (startT N.length (.src :: ds.map .d)) := stt_start (by simp [r.length]) (fun i v c e1 e2 => by
    cases i with
    | zero => simp at e1 e2; subst e1 e2; exact .src
    | succ i =>
      simp only [List.getElem?_cons_succ] at e1 e2
      rw [List.getElem?_map] at e2
      cases q : ds[i]? with
      | none => rw [q] at e2; cases e2
      | some d =>
        rw [q] at e2; cases e2
        obtain ⟨v', e3, r'⟩ := r.get q
        rw [e1] at e3; cases e3
        exact .d r') (fun c hc _ xs e => by
    rcases List.mem_cons.mp hc with q | q
    · rw [q] at e; cases e
    · obtain ⟨d, _, rfl⟩ := List.mem_map.mp q
      cases e) _
  refine hd H (start N ((Γ p).obj :: ws)) H ω _ st at0 _ ?_
  unfold runS at h
  dsimp only at h
  cases q : F (startT N.length (.src :: ds.map .d)) ω with
  | none => rw [q] at h; exact h.elim
  | some p' =>
    obtain ⟨fl, ω'⟩ := p'
    rw [q] at h
    cases fl with
    | nx τ => exact fun σ' H' _ s t => h H' s.fr t .non .non
    | rt d => exact fun v H' _ k t r => h H' k t v r
    | bk τ => exact h.elim
    | ct τ => exact h.elim
    | rs x τ => exact h.elim
    | rl d => exact h.elim
theorem FnOk.no {f : Addr} {fd : FuncData} {ps : List Str} {k : Nat} {CX : CXT} {sp : Sp} (h : ∀ vs H Q Ex, ¬ sp vs H Q Ex) : FnOk P w K mg base CX k f fd ps sp :=
  ⟨fun vs H Q Ex q => (h vs H Q Ex q).elim, fun _ _ _ H _ _ vs Q Ex _ _ _ _ q => (h vs H Q Ex q).elim⟩
theorem spD_no {n : Nat} {vs : List V} {H : Hp} {Q : VK} {Ex : XK} : ¬ spD K im n (fun _ => .no) vs H Q Ex := fun ⟨_, _, _, h⟩ => h
theorem spW_no {Ω Pp : Type} {Γ : Pp → Gam im Ω} {n j : Nat} {vs : List V} {H : Hp} {Q : VK} {Ex : XK} : ¬ spW K Γ n j (fun _ _ => .no) vs H Q Ex := fun ⟨_, _, _, _, _, _, _, _, h⟩ => h
end
end DL
namespace DL
open PySem PySem.Spec PyProof.Rows L2
section
variable {X : Cx} {tg : Expr}
def iSeq (K : PySem.W.Frag) (tl : TE) : TI := fun σ H R => tl σ H fun x H1 => ∃ a, x = .ref a ∧ (((∃ xs, SqL K H1 a xs) ∧ R (Itl K a) H1) ∨ ((∃ xs, SqT K H1 a xs) ∧ R (Itt K a) H1))
theorem pi_seq {l : Expr} {tl : TE} (hl : PE X l tl) : PI X tg l (iSeq X.K tl) := by
  constructor
  intro pn st slots hp Rr inv h
  apply thn (hl.run pn st slots hp _ inv h)
  rintro val st1 ⟨w, hp1, inv1, rel, adr, ew, q⟩
  cases ew
  cases rel
  -- the iterator is the one new object, and the heap has grown by it alone
  have grown := fun {ob : Obj} => inv1.kept (t' := st1.toks) (h' := st1.heap.push ob) fun _ _ e => Heap.get?_push_of_some _ e
  have mine : ∀ b ∈ [st1.heap.objs.size], FpOk X pn hp1 b := by
    intro b hb
    rw [List.mem_singleton.mp hb]
    exact inv1.fpOk (Nat.le_refl _) (inv1.hok.fresh (Nat.le_refl _))
  rcases q with ⟨⟨xs, hq⟩, q⟩ | ⟨⟨xs, hq⟩, q⟩
  · obtain ⟨its, _, pl, _⟩ := inv1.list hq
    apply wpAny_pyIter_list pl.isList
    exact ⟨st1.heap.objs.size, [st1.heap.objs.size], _, _, hp1, rfl, grown, turn_list adr _, ⟨_, Heap.get?_push_size _ rfl, rfl, rfl⟩, mine, q⟩
  · obtain ⟨its, _, pl, _⟩ := inv1.tuple hq
    apply wpAny_pyIter_tuple (show st1.heap.IsTuple adr its.toArray from pl)
    exact ⟨st1.heap.objs.size, [st1.heap.objs.size], _, _, hp1, rfl, grown, turn_tuple adr _, ⟨_, Heap.get?_push_size _ rfl, rfl, rfl⟩, mine, q⟩
/-- a name's list is finished behind a statement -/
def tFz (i : Nat) (t : TS) : TS := fun D σ H => t { D with nx := fun σ' H' => ∃ a xs, σ'[i]? = some (some (.ref a)) ∧ H' a = some (.lst xs) ∧ ∀ o, D.nx σ' (upd H' a (.frz o (.lst xs))) } σ H
theorem ps_fz {st : Stmt} {t : TS} (i : Nat) (h : PS X st t) : PS X st (tFz i t) := by
  refine ⟨fun pins s σ H D I q => ?_⟩
  refine thn (h.run pins s σ H _ I q) fun f s' hs => ?_
  cases f with
  | next =>
    obtain ⟨σ', H', J, a, xs, e, ha, q⟩ := hs
    obtain ⟨o, J'⟩ := Inv.freeze J ha
    exact ⟨σ', _, J', q o⟩
  | brk => exact hs
  | cont => exact hs
  | ret u => exact hs
end
section
variable {im : Addr → Bool} {Ω : Type} {G : Gam im Ω} {K : PySem.W.Frag} {W : WX} {ta tb te : TE} {Fe Fa Fb : E Ω D} {Fl' Fm' : E Ω (List D)} {t u : TS} {Ft Fu : S Ω} {c : TT} {Fc : E Ω Bool}
def D.itemsS : D → Option (List D)
  | .lst ds => some ds
  | .tup ds => some ds
  | _ => none
def iSq (a : E Ω D) : E Ω (List D) := fun τ ω => (a τ ω).bind fun x ω1 => .ofO x.itemsS ω1
theorem di_seq (he : DE G K W te Fe) : DI G K W (iSeq K te) (iSq Fe) := by
  intro H0 σ H ω τ s t' R h
  refine he H0 σ H ω τ s t' _ (Res.imp (Res.bind h) (fun x ω1 H1 k1 t1 h1 v r => ?_) fun _ _ _ _ _ q => q)
  cases r with
  | @lst a vs ds a1 a2 => exact ⟨a, rfl, .inl ⟨⟨vs, a1.l⟩, h1 H1 k1 t1 _ (yields_list a1 a2)⟩⟩
  | @tup a vs ds a1 a2 => exact ⟨a, rfl, .inr ⟨⟨vs, a1⟩, h1 H1 k1 t1 _ (yields_tup a1 a2)⟩⟩
  | _ => exact h1.elim
def fzT (i : Nat) (τ : Tau) : Option Tau := match τ[i]? with
  | some (some (.ow .L xs)) => some (τ.set i (some (.d (.lst xs))))
  | _ => none
def sFz (i : Nat) (F : S Ω) : S Ω := fun τ ω => match F τ ω with
  | some (.nx τ1, ω1) => (fzT i τ1).map fun τ2 => (.nx τ2, ω1)
  | r => r
theorem STT.fz {H0 H : Hp} {ω : Ω} {σ : L2.St} {τ : Tau} (s : STT G K H0 H σ τ) (t : G.At ω H) {i : Nat} {l : Addr} {vs : List V} {xs : List D} (h : τ[i]? = some (some (.ow .L xs))) (e : σ[i]? = some (some (.ref l))) (hl : H l = some (.lst vs)) (o : Obj) :
    STT G K H0 (upd H l (.frz o (.lst vs))) σ (τ.set i (some (.d (.lst xs)))) ∧ G.At ω (upd H l (.frz o (.lst vs))) ∧ Sb im H (upd H l (.frz o (.lst vs))) := by
  obtain ⟨l', ws', e', h1, h2, h3, h4⟩ := s.getO h
  have el : l' = l := by rw [e] at e'; cases e'; rfl
  subst el
  rw [hl] at h1; cases h1
  have sb : Sb im H (upd H l' (.frz o (.lst vs))) := fun b u eb st => by
    have : b ≠ l' := fun q => by subst q; rw [hl] at eb; cases eb; exact st
    rw [upd_ne this]; exact eb
  have at' : G.At ω (upd H l' (.frz o (.lst vs))) := G.keep t (fun b o f eb => by
    have : b ≠ l' := fun q => h4 (q ▸ f)
    rw [upd_ne this]; exact eb) sb
  refine ⟨⟨by simp [s.len], fun j w c e1 e2 => ?_, fun j k a _ _ xs' zs hjk e1 e2 e3 e4 => ?_, fun b u eb nf => ?_⟩, at', sb⟩
  · by_cases hj : i = j
    · subst hj
      have hi : i < τ.length := (List.getElem?_eq_some_iff.mp h).1
      rw [List.getElem?_set_self hi] at e2
      cases e2
      rw [e] at e1; cases e1
      exact .d (.lst ⟨o, upd_same⟩ (h2.up sb))
    · rw [List.getElem?_set_ne hj] at e2
      have q := s.ok j w c e1 e2
      cases q with
      | un => exact .un
      | d r => exact .d (r.up sb)
      | @ow l2 k2 vs2 xs2 a1 a2 a3 a4 a5 =>
        have ne : l2 ≠ l' := fun q => by
          subst q
          exact s.dj i j l2 _ _ hj e h e1 e2
        exact .ow (by rw [upd_ne ne]; exact a1) (a2.up sb) a3 a4 a5
      | src => exact .src
  · have a : i ≠ j := fun q => by
      subst q
      have hi : i < τ.length := (List.getElem?_eq_some_iff.mp h).1
      rw [List.getElem?_set_self hi] at e2; cases e2
    have b : i ≠ k := fun q => by
      subst q
      have hi : i < τ.length := (List.getElem?_eq_some_iff.mp h).1
      rw [List.getElem?_set_self hi] at e4; cases e4
    rw [List.getElem?_set_ne a] at e2
    rw [List.getElem?_set_ne b] at e4
    exact s.dj j k _ _ _ hjk e1 e2 e3 e4
  · have k := s.fr b u eb nf
    have : b ≠ l' := fun q => by subst q; rw [h3] at eb; cases eb
    rw [upd_ne this]; exact k
theorem ds_fz {i : Nat} (h : DS G K W t Ft) : DS G K W (tFz i t) (sFz i Ft) := by
  intro H0 σ H ω τ s t' D ks
  refine h H0 σ H ω τ s t' _ ?_
  unfold sFz at ks
  cases e : Ft τ ω with
  | none => rw [e] at ks; exact ks
  | some p =>
    obtain ⟨fl, ω1⟩ := p
    rw [e] at ks
    cases fl with
    | nx τ1 =>
      intro σ' H' sb s' t1
      simp only at ks
      unfold fzT at ks
      split at ks
      · rename_i xs hx
        obtain ⟨l, vs, e1, h1, _⟩ := s'.getO hx
        refine ⟨l, vs, e1, h1, fun o => ?_⟩
        obtain ⟨s2, t2, sb2⟩ := s'.fz t1 hx e1 h1 o
        exact ks _ _ (sb.trans sb2) s2 t2
      · exact ks.elim
    | bk τ1 => exact ks
    | ct τ1 => exact ks
    | rt d => exact ks
    | rs x τ1 => exact ks
    | rl d => exact ks
def sPar (i j : Nat) (a b : E Ω D) : S Ω := withE a fun x => withE b fun y τ ω => some (.nx ((τ.set i (some (.d x))).set j (some (.d y))), ω)
theorem ds_par {i j : Nat} (ha : DE G K W ta Fa) (hb : DE G K W tb Fb) : DS G K W (tPar i j (tCons ta (tCons tb tNil))) (sPar i j Fa Fb) := by
  intro H0 σ H ω τ s t' D h
  refine ha H0 σ H ω τ s t' _ (Res.imp (withE_kx s t' h) (fun x ω1 H1 k1 t1 h1 v r => ?_) fun _ _ _ _ _ q => q)
  refine hb H0 σ H1 ω1 τ (s.step t' k1) t1 _ (Res.imp (withE_kx (s.step t' k1) t1 h1) (fun y ω2 H2 k2 t2 h2 v2 r2 => ?_) fun _ _ _ _ _ q => q)
  refine ⟨v, v2, rfl, h2 _ H2 .refl ?_ t2⟩
  exact (((s.step t' k1).step t1 k2).setD (r.up (k2.sb t1)) i).setD r2 j
/-- the first is a new list that is to change -/
def sParO1 (i j : Nat) (a : E Ω (List D)) (b : E Ω D) : S Ω := withE a fun x => withE b fun y τ ω => some (.nx ((τ.set i (some (.ow .L x))).set j (some (.d y))), ω)
/-- the second is a new list that is to change -/
def sParO2 (i j : Nat) (a : E Ω D) (b : E Ω (List D)) : S Ω := withE a fun x => withE b fun y τ ω => some (.nx ((τ.set i (some (.d x))).set j (some (.ow .L y))), ω)
def D.tru : D → Option Bool
  | .non => some false
  | .bl b => some b
  | .int i => some (i != 0)
  | .str x => if x.length ≤ sizeLine then some ((x.length : Int) != 0) else none
  | .tup ds => some (!ds.isEmpty)
  | .lst ds => some (!ds.isEmpty)
  | _ => none
def eTru (a : E Ω D) : E Ω Bool := fun τ ω => (a τ ω).bind fun x ω1 => .ofO x.tru ω1
end
end DL
namespace DL
open PySem PySem.Spec PyProof.Rows L2
end DL
namespace DL
open PySem PySem.Spec PyProof.Rows L2
theorem room_hu {k : Nat} {A : Around} (hr : Room k A) : A.units + 200 < cLine := by have := hr.un; omega
theorem hu1 {A : Around} (h : A.units + 200 < cLine) : A.units + 1 < cLine := by omega
/-- a def of the text, where it stands -/
structure DefOk (K : PySem.W.Frag) (mg : Str → Option Value) (name : Str) (st : Stmt) (ps : List Str) where
  f : Addr
  fd : FuncData
  F : Fun K name name st f fd
  g : mg name = some (.ref f)
  b : Binds K fd ps []
/-- what is left of the script's numbers (the next one first), of the present one, a mixed number, how many were mixed -/
structure Src where
  cells : List Int
  left : Int
  mixed : Int
  turn : Int
def srcKvs (c : Addr) (ω : Src) : List (Key × V) := [(.inr "cells", .ref c), (.inr "left", .int ω.left), (.inr "mixed", .int ω.mixed), (.inr "turn", .int ω.turn)]
def srcG (im : Addr → Bool) (p : Addr × Addr) : Gam im Src where
  At := fun ω H => H p.1 = some (.dK (srcKvs p.2 ω)) ∧ H p.2 = some (.lst (ω.cells.reverse.map V.int))
  FP := fun b => b = p.1 ∨ b = p.2
  obj := .ref p.1
  keep := fun ⟨h1, h2⟩ k _ => ⟨k _ _ (.inl rfl) h1, k _ _ (.inr rfl) h2⟩
  nost := fun ⟨h1, h2⟩ b o f e s => by
    rcases f with rfl | rfl
    · rw [h1] at e; cases e; exact s
    · rw [h2] at e; cases e; exact s
  trk := fun ⟨h1, h2⟩ b f e => by
    rcases f with rfl | rfl
    · rw [h1] at e; cases e
    · rw [h2] at e; cases e
section
variable {im : Addr → Bool} {K : PySem.W.Frag} {W : WX} {p : Addr × Addr} {te : TE} {Fe : E Src D}
/-- source['left'] and the like -/
def eSrc (i : Nat) (f : Src → Int) : E Src D := fun τ ω => match τ[i]? with
  | some (some .src) => .ok (.int (f ω)) ω
  | _ => .no
def eSrcN (i : Nat) : E Src D := fun τ ω => match τ[i]? with
  | some (some .src) => .ok (.int ω.cells.length) ω
  | _ => .no
def eSrcP (i : Nat) : E Src D := fun τ ω => match τ[i]?, ω.cells with
  | some (some .src), z :: r => .ok (.int z) { ω with cells := r }
  | _, _ => .no
def sSrc (i : Nat) (f : Src → Int → Src) (e : E Src D) : S Src := withE e fun d τ ω => match τ[i]?, d with
  | some (some .src), .int z => some (.nx τ, f ω z)
  | _, _ => none
theorem valS1 (c : Addr) (ω : Src) : valV (srcKvs c ω) (.inr "cells") = some (.ref c) := by simp [srcKvs, valV, List.find?_cons]
theorem valS2 (c : Addr) (ω : Src) : valV (srcKvs c ω) (.inr "left") = some (.int ω.left) := by
  have h : ¬ (("cells" : Str) = "left") := by decide +kernel
  simp [srcKvs, valV, List.find?_cons, h]
theorem valS3 (c : Addr) (ω : Src) : valV (srcKvs c ω) (.inr "mixed") = some (.int ω.mixed) := by
  have h : ¬ (("cells" : Str) = "mixed") := by decide +kernel
  have h2 : ¬ (("left" : Str) = "mixed") := by decide +kernel
  simp [srcKvs, valV, List.find?_cons, h, h2]
theorem valS4 (c : Addr) (ω : Src) : valV (srcKvs c ω) (.inr "turn") = some (.int ω.turn) := by
  have h : ¬ (("cells" : Str) = "turn") := by decide +kernel
  have h2 : ¬ (("left" : Str) = "turn") := by decide +kernel
  have h3 : ¬ (("mixed" : Str) = "turn") := by decide +kernel
  simp [srcKvs, valV, List.find?_cons, h, h2, h3]
theorem putS2 (c : Addr) (ω : Src) (z : Int) : putK (srcKvs c ω) (.inr "left") (.int z) = srcKvs c { ω with left := z } := by
  have h : ¬ (("cells" : Str) = "left") := by decide +kernel
  have h3 : ¬ (("mixed" : Str) = "left") := by decide +kernel
  have h4 : ¬ (("turn" : Str) = "left") := by decide +kernel
  simp [srcKvs, putK, h, h3, h4]
theorem putS3 (c : Addr) (ω : Src) (z : Int) : putK (srcKvs c ω) (.inr "mixed") (.int z) = srcKvs c { ω with mixed := z } := by
  have h : ¬ (("cells" : Str) = "mixed") := by decide +kernel
  have h2 : ¬ (("left" : Str) = "mixed") := by decide +kernel
  have h4 : ¬ (("turn" : Str) = "mixed") := by decide +kernel
  simp [srcKvs, putK, h, h2, h4]
theorem putS4 (c : Addr) (ω : Src) (z : Int) : putK (srcKvs c ω) (.inr "turn") (.int z) = srcKvs c { ω with turn := z } := by
  have h : ¬ (("cells" : Str) = "turn") := by decide +kernel
  have h2 : ¬ (("left" : Str) = "turn") := by decide +kernel
  have h3 : ¬ (("mixed" : Str) = "turn") := by decide +kernel
  simp [srcKvs, putK, h, h2, h3]
theorem de_src {i : Nat} {x : Str} {f : Src → Int} (hv : ∀ c ω, valV (srcKvs c ω) (.inr x) = some (.int (f ω))) : DE (srcG im p) K W (tDGet (tVar i) (tC (.str x))) (eSrc i f) := by
  intro H0 σ H ω τ s t Q h
  unfold eSrc at h
  split at h
  · rename_i hx
    refine ⟨_, s.getS hx, p.1, .int (f ω), rfl, ?_, h H .refl t _ (.int _)⟩
    have := DGet.k (k := .inr x) t.1
    rw [hv] at this
    exact this
  · exact h.elim
theorem de_srcL {i : Nat} : DE (srcG im p) K W (tDGet (tVar i) (tC (.str "left"))) (eSrc i Src.left) := de_src valS2
theorem de_srcM {i : Nat} : DE (srcG im p) K W (tDGet (tVar i) (tC (.str "mixed"))) (eSrc i Src.mixed) := de_src valS3
theorem de_srcT {i : Nat} : DE (srcG im p) K W (tDGet (tVar i) (tC (.str "turn"))) (eSrc i Src.turn) := de_src valS4
theorem de_srcN {i : Nat} : DE (srcG im p) K W (tCB (fun xs H Q => ∃ p ys, xs = [.ref p] ∧ (SqL K H p ys ∨ SqT K H p ys) ∧ Q (.int ys.length) H) (tCons (tDGet (tVar i) (tC (.str "cells"))) tNil)) (eSrcN i) := by
  intro H0 σ H ω τ s t Q h
  unfold eSrcN at h
  split at h
  · rename_i hx
    have g := DGet.k (k := .inr "cells") t.1
    rw [valS1] at g
    refine ⟨_, s.getS hx, p.1, .ref p.2, rfl, g, p.2, _, rfl, .inl (SqL.of t.2), ?_⟩
    have hl : (ω.cells.reverse.map V.int).length = ω.cells.length := by simp
    rw [hl]
    exact h H .refl t _ (.int _)
  · exact h.elim
theorem de_srcP {i : Nat} : DE (srcG im p) K W (tBM0 K "list" rPop (tDGet (tVar i) (tC (.str "cells")))) (eSrcP i) := by
  intro H0 σ H ω τ s t Q h
  unfold eSrcP at h
  split at h
  · rename_i z r hx hc
    have g := DGet.k (k := .inr "cells") t.1
    rw [valS1] at g
    refine ⟨_, s.getS hx, p.1, .ref p.2, rfl, g, .inl ⟨rfl, _, SqL.of t.2⟩, p.2, _, .int z, rfl, rfl, t.2, ?_, ?_⟩
    · rw [hc]; simp
    · have hd : (ω.cells.reverse.map V.int).dropLast = r.reverse.map V.int := by
        rw [hc, List.reverse_cons, List.map_append, List.map_singleton, List.dropLast_concat]
      rw [hd]
      have ne : p.1 ≠ p.2 := ne_of t.1 t.2 (by intro z; cases z)
      refine h _ (fun b o e nf => ?_) ⟨?_, upd_same⟩ _ (.int z)
      · have : b ≠ p.2 := fun q => nf (.inr q)
        rw [upd_ne this]; exact e
      · rw [upd_ne ne]; exact t.1
  · exact h.elim
theorem ds_src {i : Nat} {x : Str} {f : Src → Int → Src} (hp : ∀ c ω z, putK (srcKvs c ω) (.inr x) (.int z) = srcKvs c (f ω z)) (hf : ∀ ω z, (f ω z).cells = ω.cells) (he : DE (srcG im p) K W te Fe) : DS (srcG im p) K W (sDPut (tVar i) (tC (.str x)) te) (sSrc i f Fe) := by
  intro H0 σ H ω τ s t D h
  refine he H0 σ H ω τ s t _ (Res.imp (withE_kx s t h) (fun d ω1 H1 k1 t1 h1 v r => ?_) fun _ _ _ _ _ q => q)
  have s1 := s.step t k1
  split at h1
  · rename_i z hx
    cases r
    have ne : p.1 ≠ p.2 := ne_of t1.1 t1.2 (by intro z; cases z)
    have g := DPut.k (k := .inr x) (v := .int z) t1.1 (by show 4 < sizeLine; rw [sizeLine_eq]; decide)
    rw [hp] at g
    have sb : Sb im H1 (upd H1 p.1 (.dK (srcKvs p.2 (f ω1 z)))) := fun b o e st => by
      have : b ≠ p.1 := fun q => by subst q; rw [t1.1] at e; cases e; exact st
      rw [upd_ne this]; exact e
    have t2 : (srcG im p).At (f ω1 z) (upd H1 p.1 (.dK (srcKvs p.2 (f ω1 z)))) := ⟨upd_same, by rw [upd_ne ne.symm, hf]; exact t1.2⟩
    refine ⟨_, s1.getS hx, p.1, _, rfl, g, h1 σ _ sb ?_ t2⟩
    exact s1.step t1 fun b o e nf => by
      have : b ≠ p.1 := fun q => nf (.inl q)
      rw [upd_ne this]; exact e
  · exact h1.elim
theorem ds_srcL {i : Nat} (he : DE (srcG im p) K W te Fe) : DS (srcG im p) K W (sDPut (tVar i) (tC (.str "left")) te) (sSrc i (fun ω z => { ω with left := z }) Fe) := ds_src putS2 (fun _ _ => rfl) he
theorem ds_srcM {i : Nat} (he : DE (srcG im p) K W te Fe) : DS (srcG im p) K W (sDPut (tVar i) (tC (.str "mixed")) te) (sSrc i (fun ω z => { ω with mixed := z }) Fe) := ds_src putS3 (fun _ _ => rfl) he
theorem ds_srcT {i : Nat} (he : DE (srcG im p) K W te Fe) : DS (srcG im p) K W (sDPut (tVar i) (tC (.str "turn")) te) (sSrc i (fun ω z => { ω with turn := z }) Fe) := ds_src putS4 (fun _ _ => rfl) he
end
section
variable {im : Addr → Bool} {P : Program} {w : World} {K : PySem.W.Frag} {mg : Str → Option Value} {base : Heap}
theorem fn_Dx {x qual : Str} {st : Stmt} {f : Addr} {fd : FuncData} {N ps : List Str} {k k' j : Nat} {F : S Unit} {F' : List D → R Unit D} (Fn : Fun K x qual st f fd) (Sc : FnScope N ps (defScope st))
    (ek : k' = k + 1) (ej : j = ps.length) (eF : F' = fun ds => nox (runS F (startT N.length (ds.map .d)) ()))
    (hb : ∀ (cdv : Value) (A : Around) (outer : List Env) (s : Shared) (H : Hp) (Ex : XK), Room k (A.deeper (envOfC qual (defScope st) s.heap.objs.size f cdv)) →
      ∃ t, PSs (cxOf CX0 P w K mg base N qual (defScope st) f cdv A outer s H Ex).nox (defBody st) t ∧ DS (gam0 im) K (fun _ _ _ _ => False) t F) :
    FnOk P w K mg base CX0 k' f fd ps (spD K im j F') := by
  subst ek ej eF; exact fn_D Fn Sc hb
theorem fn_Wx {Ω Pp : Type} {Γ : Pp → Gam im Ω} {x qual : Str} {st : Stmt} {f : Addr} {fd : FuncData} {N ps : List Str} {k k' j : Nat} {F : S Ω} {F' : List D → Ω → R Ω D} (Fn : Fun K x qual st f fd) (Sc : FnScope N ps (defScope st))
    (ek : k' = k + 1) (ej : j = ps.length) (eF : F' = fun ds ω => nox (runS F (startT N.length (.src :: ds.map .d)) ω))
    (hb : ∀ (p : Pp) (cdv : Value) (A : Around) (outer : List Env) (s : Shared) (H : Hp) (Ex : XK), Room k (A.deeper (envOfC qual (defScope st) s.heap.objs.size f cdv)) →
      ∃ t, PSs (cxOf CX0 P w K mg base N qual (defScope st) f cdv A outer s H Ex).nox (defBody st) t ∧ DS (Γ p) K (fun _ _ _ _ => False) t F) :
    FnOk P w K mg base CX0 k' f fd ps (spW K Γ j 0 F') := by
  subst ek ej eF; exact fn_W Fn Sc hb
end
end DL
namespace DL
open PySem PySem.Spec PyProof.Rows L2
/-- as FnOk, for calls while nothing is being shown -/
structure GOk (P : Program) (w : World) (K : PySem.W.Frag) (mg : Str → Option Value) (base : Heap) (k : Nat) (f : Addr) (fd : FuncData) (ps : List Str) (sp : Sp) : Prop where
  arity : ∀ vs H Q Ex, sp vs H Q Ex → vs.length = ps.length
  enter : ∀ (A : Around) (outer : List Env) (s : Shared) (H : Hp) (args : Args) (us : List Value) (vs : List V) (Q : VK) (Ex : XK), A.guards = some [] → Room k A → Env0 P w K mg base A outer s H →
    BindsTo s fd args (ps.zip us) → Vals vs us → sp vs H Q Ex → codeAny (model P w) A (.call (.ref f) args) (CR CX0 outer P w H s Q Ex) s
section
variable {P : Program} {w : World} {K : PySem.W.Frag} {mg : Str → Option Value} {base : Heap} {k j : Nat} {f : Addr} {fd : FuncData} {N ps : List Str} {sp : Sp} {x qual : Str} {st : Stmt}
theorem GOk.of (F : FnOk P w K mg base CX0 k f fd ps sp) : GOk P w K mg base k f fd ps sp := ⟨F.len, fun A o s H a us vs Q Ex _ r => F.run A o s H a us vs Q Ex r⟩
/-- a def from its body, where the body may know that nothing is being shown -/
theorem GOk.ofBody (Fn : Fun K x qual st f fd) (Sc : FnScope N ps (defScope st)) (ar : ∀ vs H Q Ex, sp vs H Q Ex → vs.length = ps.length)
    (body : ∀ (cdv : Value) (A : Around) (outer : List Env) (s : Shared) (H : Hp) (vs : List V) (Q : VK) (Ex : XK), A.guards = some [] → Room k (A.deeper (envOfC qual (defScope st) s.heap.objs.size f cdv)) → sp vs H Q Ex →
      ∃ t, PSs (cxOf CX0 P w K mg base N qual (defScope st) f cdv A outer s H Ex).nox (defBody st) t ∧ t { nx := fun _ H' => Q .non H', rt := Q } (start N vs) H) :
    GOk P w K mg base (k + 1) f fd ps sp := by
  obtain ⟨oc, od, kV, doc, pm, an, cdv, ct, osl, rfl, found, code⟩ := Fn.ex
  constructor
  · exact ar
  · intro A outer s H args us vs Q Ex gu room env bound vals want
    have up : ∀ b o, base.get? b = some o → s.heap.get? b = some o := fun b o e => (env.bs b o e).1
    have inK : K.In s.heap := env.mod.kin.keeps up
    have slots : ∀ y ∈ ps.zip us, (defScope st).names.lookup y.1 = some .local ∨ ((defScope st).names.lookup y.1 = some .cell ∧ ((cellsFrom (s.heap.objs.size + 1) (defScope st).names []).lookup y.1).isSome = true) := by
      rintro ⟨n, u⟩ hy
      cases Sc.par n (List.of_mem_zip hy).1 with
      | inl c => exact .inl c
      | inr c => exact .inr ⟨c, PySem.W.cellsFrom_some _ _ _ (.inl c)⟩
    obtain ⟨t, tells, holds⟩ := body cdv A outer s H vs Q Ex gu (room.deeper _) want
    have done : ∀ {σ1 : L2.St} {H1 : Hp} {v : V} {u : Value} {s1 : Shared}, Inv (cxOf CX0 P w K mg base N qual (defScope st) f cdv A outer s H Ex) [] σ1 H1 s1 → RelV v u → Q v H1 → CE outer P w H s Q u s1 := by
      intro σ1 H1 v u s1 J rv q
      exact ⟨v, H1, J.os, J.bare, J.base, J.hok, rv, q⟩
    apply codeAny_call_function room.depth (inK _ _ found) rfl Sc.co Sc.gen rfl (PySem.W.codeRec_of inK code)
    apply bound
    apply wpAny_newFunctionEnv_cells Sc.kind slots
    rintro e rfl s1 laid
    refine ⟨(env.mod.nolimit.keeps up).keeps laid.toInCall.keep, codeAny_func ?_⟩
    have first := inv_start (CX := CX0) (qual := qual) (f := f) (cd := cdv) (E := Ex) Sc room.hd env (ar _ _ _ _ want) vals laid
    apply wpAny_mono (tells.nox.run [] s1 (start N vs) H _ first holds)
    · intro fl s' ends
      match fl, ends with
      | .ret u, ⟨v, _, _, J, rv, q⟩ => exact done J rv q
      | .next, ⟨_, _, J, q⟩ => exact done (v := .non) J rfl q
      | .brk, ⟨_, _, _, q⟩ => exact q.elim
      | .cont, ⟨_, _, _, q⟩ => exact q.elim
    · exact fun _ _ z => z
theorem GOk.mono (F : GOk P w K mg base j f fd ps sp) (h : j ≤ k) : GOk P w K mg base k f fd ps sp := ⟨F.arity, fun A o s H a us vs Q Ex g r => F.enter A o s H a us vs Q Ex g (r.mono h)⟩
end
def reprD : D → Option D
  | .int i => if i.natAbs.log2 < 1920 then some (.str (toString i)) else none
  | .bl b => some (.str (if b then "True" else "False"))
  | .non => some (.str "None")
  | .str x => if (reprText x).length ≤ sizeLine then some (.str (reprText x)) else none
  | .tup ds => match (D.tup ds).py with
    | some p => if p.showable = true ∧ p.hasDict = false ∧ p.depth ≤ 150 ∧ p.shown.length ≤ sizeLine then some (.str p.shown) else none
    | none => none
  | .lst ds => match (D.lst ds).py with
    | some p => if p.showable = true ∧ p.hasDict = false ∧ p.depth ≤ 150 ∧ p.shown.length ≤ sizeLine then some (.str p.shown) else none
    | none => none
  | .dic ks _ => if ks.isEmpty = true then some (.str "{}") else none
  | _ => none
section
variable {X : Cx} {im : Addr → Bool}
theorem repr_empty {pins : List (Addr × Obj)} {s : Shared} {σ : L2.St} {H : Hp} {Q : VK} {a : Addr} {o : Obj} (hu : X.A.units + 200 < cLine) (gu : X.A.guards = some []) (I : Inv X pins σ H s) (h : H a = some (.frz o (.dK []))) (q : Q (.str "{}") H) : wpAny (model X.prog X.w) X.A (call (.builtin "repr") [.ref a]) (EP X pins σ Q) X.xe s := by
  obtain ⟨h1, h2, h3, es, ep, vs, h4, h5, _, _⟩ := I.frzK h
  have he : es = #[] := Array.eq_empty_of_size_eq_zero h5
  subst he
  have r : Reads s.heap (.ref a) (.dict []) (a :: [] ++ []) := .dict h2 h3.1 h4 .nil .nil
  refine repr_of_reads' r rfl (fun _ hm => ?_) gu (by simp [PyData.depth, PyData.depthKv]; omega) (fun _ _ e => e) (fun h' u tk more => ⟨.str _, H, I.kept more, ⟨u, rfl⟩, q⟩) (by decide +kernel)
  have : sysModules = a := by simpa using hm
  rw [this] at h1
  simp at h1
theorem repr_run {pins : List (Addr × Obj)} {s : Shared} {σ : L2.St} {H : Hp} {Q : VK} {v : V} {d : D} {p : PyData} {a : Addr} (hu : X.A.units + 200 < cLine) (gu : X.A.guards = some []) (I : Inv X pins σ H s) (rx : RelV v (.ref a)) (hd : Rep X.K im H v d) (e : d.py = some p)
    (h : p.showable = true ∧ p.hasDict = false ∧ p.depth ≤ 150 ∧ p.shown.length ≤ sizeLine) (q : Q (.str p.shown) H) : wpAny (model X.prog X.w) X.A (call (.builtin "repr") [.ref a]) (EP X pins σ Q) X.xe s := by
  obtain ⟨as, r⟩ := Dp.reads I p v (.ref a) (Rep.dp _ _ _ hd e) rx
  exact repr_of_reads' r h.1 (PyData.noDict_hsm h.2.1) gu (by omega) (fun _ _ e => e) (fun h' u tk more => ⟨.str _, H, I.kept more, ⟨u, rfl⟩, q⟩) h.2.2.2
theorem call_reprDD (hu : X.A.units + 200 < cLine) (gu : X.A.guards = some []) : CallR X (.builtin "repr") (rDN X.K im (un1 reprD)) := by
  intro pins s σ H xs us Q I r h
  obtain ⟨ds, z, hd, hz, q⟩ := h
  obtain ⟨v, d, rfl, hd, hz⟩ := un1_ok hd hz
  cases hd with
  | int i =>
    unfold reprD at hz
    dsimp only at hz
    split at hz
    · rename_i c
      cases hz
      exact SkE.call_repr_int pins s σ H _ us Q I r ⟨i, rfl, c, q _ _ (Same.refl _) (.str _)⟩
    · cases hz
  | bl b =>
    obtain ⟨u, rfl, rx⟩ := vals1 r
    cases rx
    cases hz
    exact PySem.P.repr_of_bool ⟨.str _, H, I.tok _, ⟨_, rfl⟩, q _ _ (Same.refl _) (.str _)⟩
  | non =>
    obtain ⟨u, rfl, rx⟩ := vals1 r
    cases rx
    cases hz
    exact PySem.P.repr_of_none ⟨.str _, H, I.tok _, ⟨_, rfl⟩, q _ _ (Same.refl _) (.str _)⟩
  | str x =>
    obtain ⟨u, rfl, t, rfl⟩ := vals1 r
    unfold reprD at hz
    dsimp only at hz
    split at hz
    · rename_i c
      cases hz
      exact PySem.P.repr_of_str ⟨.str _, H, I.tok _, ⟨_, rfl⟩, q _ _ (Same.refl _) (.str _)⟩ c
    · cases hz
  | @tup a vs ds h1 h2 =>
    obtain ⟨u, rfl, rx⟩ := vals1 r
    cases rx
    unfold reprD at hz
    dsimp only at hz
    cases e : (D.tup ds).py with
    | none => rw [e] at hz; cases hz
    | some p =>
      rw [e] at hz
      dsimp only at hz
      split at hz
      · rename_i c
        cases hz
        exact repr_run (v := V.ref a) hu gu I (show RelV (V.ref a) (.ref a) from rfl) (.tup h1 h2) e c (q _ _ (Same.refl _) (.str _))
      · cases hz
  | @lst a vs ds h1 h2 =>
    obtain ⟨u, rfl, rx⟩ := vals1 r
    cases rx
    unfold reprD at hz
    dsimp only at hz
    cases e : (D.lst ds).py with
    | none => rw [e] at hz; cases hz
    | some p =>
      rw [e] at hz
      dsimp only at hz
      split at hz
      · rename_i c
        cases hz
        exact repr_run (v := V.ref a) hu gu I (show RelV (V.ref a) (.ref a) from rfl) (.lst h1 h2) e c (q _ _ (Same.refl _) (.str _))
      · cases hz
  | @dic a o ks vs ds h1 h2 h3 =>
    obtain ⟨u, rfl, rx⟩ := vals1 r
    cases rx
    unfold reprD at hz
    dsimp only at hz
    split at hz
    · rename_i c
      cases hz
      obtain rfl : ks = [] := List.isEmpty_iff.mp c
      rw [List.zip_nil_left] at h1
      exact repr_empty hu gu I h1 (q _ _ (Same.refl _) (.str _))
    · cases hz
  | _ => cases hz
end
section
variable {P : Program} {w : World} {K : PySem.W.Frag} {mg mb : Str → Option Value} {k : Nat} {fa a : Addr} {fd : FuncData} {x : Str} {sp : Sp} {st : Shared} {vs : List Value} {ns : List Int}
/-- from an abstract heap T that tracks the script or nothing -/
theorem enter_at {T : Hp} (inK : K.In st.heap) (gl : st.heap.Ns mainGlobals mg) (bi : st.heap.Ns builtinsNs mb) (bib : ∀ y : Str, y ≠ "__name__" → mb y = bootBuiltins y) (lim : st.heap.NoLimit) (calm : st.gens = #[])
    (scr : st.heap.get? a = some { cls := .type "list", data := .seq vs.toArray }) (room : Room k callerA) (F : ∀ base : Heap, K.In base → base.Ns mainGlobals mg → GOk P w K mg base k fa fd [x] sp)
    (bind : ∀ (s : Shared) (u : Value), BindsTo s fd ⟨[u], []⟩ [(x, u)]) (only : Only T) (tracked : HOk P w T st.heap) (alone : ∀ b, T b ≠ none → b = a) (apart : T a ≠ none → K.lookup a = none)
    (want : sp [.ref a] T (fun v _ => v = .bl true) fun _ _ _ => False) :
    codeAny (model P w) callerA (.call (.ref fa) ⟨[.ref a], []⟩) (fun r s' => r = .ok (.ret (.bool true)) ∧ OldK st.heap s'.heap ∧ s'.os = st.os ∧ AllBare s'.gens) st := by
  -- no table of names is the script
  have plain : ∀ {b : Addr} {o : Obj} {es : Array DictEntry} {n : Nat}, st.heap.get? b = some o → o.data = .dict es n → T b = none := by
    intro b o es n there dict
    apply Classical.byContradiction
    intro some'
    have := alone b some'
    subst this
    rw [scr] at there
    cases there
    exact nomatch dict
  have names : ∀ {b : Addr} {m : Str → Option Value}, st.heap.Ns b m → (hidT st.heap T).Ns b m := by
    rintro b m ⟨o, es, n, there, dict, rest⟩
    exact ⟨o, es, n, hidT_get there (plain there dict), dict, rest⟩
  have ground : K.In (hidT st.heap T) := by
    intro b o found
    apply hidT_get (inK b o found)
    apply Classical.byContradiction
    intro some'
    have := alone b some'
    subst this
    rw [apart some'] at found
    cases found
  obtain ⟨mc, lim1, lim2⟩ := lim
  have env : Env0 P w K mg (hidT st.heap T) callerA [] st T :=
    ⟨rfl, ⟨ground, names gl, ⟨mb, names bi, bib⟩, ⟨mc, names lim1, lim2⟩⟩, fun _ _ e => of_hidT e, Nat.le_of_eq (hidT_size _ _), trivial, fun b hb => (nomatch hb), tracked, .of_eq calm⟩
  refine codeAny_mono ((F _ ground (names gl)).enter callerA [] st T ⟨[.ref a], []⟩ [.ref a] [V.ref a] _ _ rfl room env (bind st _) (.cons rfl .nil) want) ?_
  intro r s' out
  match r, out with
  | .error _, out => exact out.elim
  | .ok .next, out => exact out.elim
  | .ok .brk, out => exact out.elim
  | .ok .cont, out => exact out.elim
  | .ok (.ret u), ⟨v, T', sameOs, bare, un, after, rel, yes⟩ =>
    cases yes
    cases rel
    refine ⟨rfl, OldK.of_keep ?_, sameOs, bare⟩
    intro b o there
    cases tb : T b with
    | none => exact un.keep b o there tb (fun z => by cases z) (fun z => by cases z)
    | some h =>
      rcases only b with z | ⟨ob, xs, z⟩
      · rw [tb] at z; cases z
      · have was := (tracked b _ z).1
        have is := (after b _ (un.frzs b ob _ z)).1
        rw [there] at was
        cases was
        exact is
theorem law_enter (inK : K.In st.heap) (gl : st.heap.Ns mainGlobals mg) (bi : st.heap.Ns builtinsNs mb) (bib : ∀ y : Str, y ≠ "__name__" → mb y = bootBuiltins y) (lim : st.heap.NoLimit) (calm : st.gens = #[])
    (scr : st.heap.get? a = some { cls := .type "list", data := .seq vs.toArray }) (nums : IntsAre vs ns) (short : ns.length ≤ sizeLine) (room : Room k callerA) (F : ∀ base : Heap, K.In base → base.Ns mainGlobals mg → GOk P w K mg base k fa fd [x] sp)
    (bind : ∀ (s : Shared) (u : Value), BindsTo s fd ⟨[u], []⟩ [(x, u)]) (want : ∀ H : Hp, Only H → SqL K H a (ns.map V.int) → sp [.ref a] H (fun v _ => v = .bl true) fun _ _ _ => False) :
    codeAny (model P w) callerA (.call (.ref fa) ⟨[.ref a], []⟩) (fun r s' => r = .ok (.ret (.bool true)) ∧ OldK st.heap s'.heap ∧ s'.os = st.os ∧ AllBare s'.gens) st := by
  have rels := vals_ints nums
  have many := nums.length
  cases own : K.lookup a with
  | some o =>
    have there := inK a o own
    rw [scr] at there
    cases there
    have none' : Only (fun _ => none) := fun _ => .inl rfl
    refine enter_at (T := fun _ => none) inK gl bi bib lim calm scr room F bind none' (fun b u z => nomatch (show (none : Option HO) = some u from z)) (fun b z => absurd rfl z) (fun z => absurd rfl z) (want _ none' ?_)
    exact .inr ⟨_, vs.toArray, _, own, rfl, rfl, rfl, by rw [List.size_toArray, many]; exact short, by simpa using rels⟩
  | none =>
    let T : Hp := fun b => if b = a then some (.frz { cls := .type "list", data := .seq vs.toArray } (.lst (ns.map V.int))) else none
    have at_a : T a = some (.frz { cls := .type "list", data := .seq vs.toArray } (.lst (ns.map V.int))) := if_pos rfl
    have off : ∀ b, b ≠ a → T b = none := fun b h => if_neg h
    have only : Only T := fun b => by
      by_cases h : b = a
      · exact .inr ⟨_, _, by rw [h]; exact at_a⟩
      · exact .inl (off b h)
    refine enter_at (T := T) inK gl bi bib lim calm scr room F bind only ?_ ?_ (fun _ => own) (want T only (.inl (.inr ⟨_, at_a⟩)))
    · intro b u z
      by_cases h : b = a
      · subst h
        rw [at_a] at z
        cases z
        exact ⟨scr, by rw [List.length_map]; exact short, vs, _, rels, scr⟩
      · rw [off b h] at z; cases z
    · intro b z
      apply Classical.byContradiction
      intro h
      exact z (off b h)
end
theorem walk_g {l : PySem.W.OpenLaw} {n k : Nat} {q : Program} {loose : List Str} {XP : (Str → Option Value) → Heap → Prop} {YP : World → Heap → Prop} {d : DefRec} {K : Params → PySem.W.Frag} {sp : World → Sp} {x : Str}
    (most : l.most = some n) (fits : n ≤ sizeLine) (bare : d.params.defaults = []) (room : Room k callerA) (inK : ∀ (w : World) (h : Heap), YP w h → (K w.params).In h)
    (F : ∀ (w : World) (mg : Str → Option Value) (fa : Addr) (h : Heap), (K w.params).In h → h.Ns mainGlobals mg → mg d.name = some (.ref fa) →
      ∃ fd : FuncData, (∀ (s : Shared) (u : Value), BindsTo s fd ⟨[u], []⟩ [(x, u)]) ∧ ∀ base : Heap, (K w.params).In base → base.Ns mainGlobals mg → GOk l.prog w (K w.params) mg base k fa fd [x] (sp w))
    (want : ∀ (w : World) (H : Hp) (a : Addr) (ns : List Int), ns.length ≤ n → Only H → SqL (K w.params) H a (ns.map V.int) → sp w [.ref a] H (fun v _ => v = .bl true) fun _ _ _ => False) :
    PySem.W.WalkO q loose XP YP l.row.toRowW d [] (fun f vs => PySem.call f vs) := by
  refine Att.attach_call most bare fun w s0 s1 mg mb fa o pm cd doc a vs ns G Y ho hd hcd hmg hobj hints hlen hg => ?_
  have KX := inK w _ Y
  obtain ⟨fd, hb, hF⟩ := F w mg fa _ KX G.T.g hmg
  exact law_enter KX G.T.g G.T.b G.T.builtins G.T.nolimit hg hobj hints (Nat.le_trans hlen fits) room hF hb fun H hO hS => want w H a ns hlen hO hS
section
variable {im : Addr → Bool} {P : Program} {w : World} {K : PySem.W.Frag} {mg : Str → Option Value} {base : Heap}
theorem GOk.no {f : Addr} {fd : FuncData} {ps : List Str} {k : Nat} {sp : Sp} (h : ∀ vs H Q Ex, ¬ sp vs H Q Ex) : GOk P w K mg base k f fd ps sp :=
  ⟨fun vs H Q Ex q => (h vs H Q Ex q).elim, fun _ _ _ H _ _ vs Q Ex _ _ _ _ _ q => (h vs H Q Ex q).elim⟩
end
end DL
namespace DL
open PySem PySem.Spec PyProof.Rows L2
end DL
namespace DL
open PySem PySem.Spec PyProof.Rows L2
section
variable {Ω α β : Type}
/-- a run ends well with P, or with an exception in X -/
@[irreducible] def R.wp (r : R Ω α) (P : α → Ω → Prop) (X : Exn → Ω → Prop) : Prop := match r with
  | .ok a ω => P a ω
  | .ex x ω => X x ω
  | .no => False
@[irreducible] def sw (o : Option (Fl × Ω)) (P : Fl → Ω → Prop) : Prop := match o with
  | some (f, ω) => P f ω
  | none => False
abbrev X0 : Exn → Ω → Prop := fun _ _ => False
theorem wp_ok {a : α} {ω : Ω} {P X} : (R.ok a ω).wp P X = P a ω := by with_unfolding_all rfl
theorem wp_bind {r : R Ω α} {f : α → Ω → R Ω β} {P X} : (r.bind f).wp P X = r.wp (fun a ω => (f a ω).wp P X) X := by cases r <;> with_unfolding_all rfl
theorem wp_nox {r : R Ω α} {P X} : (nox r).wp P X = r.wp P X0 := by cases r <;> with_unfolding_all rfl
theorem wp_lift {r : R Unit α} {ω : Ω} {P X} : (lift r ω).wp P X = r.wp (fun a _ => P a ω) (fun x _ => X x ω) := by cases r <;> with_unfolding_all rfl
theorem R.wp.mono {r : R Ω α} {P P' : α → Ω → Prop} {X X' : Exn → Ω → Prop} (h : r.wp P X) (k : ∀ a ω, P a ω → P' a ω) (kx : ∀ x ω, X x ω → X' x ω := by exact fun _ _ h => h) : r.wp P' X' := by
  cases r with
  | ok a ω => with_unfolding_all exact k _ _ h
  | ex x ω => with_unfolding_all exact kx _ _ h
  | no => with_unfolding_all exact h
theorem R.wp.equ {r : R Unit α} {a : α} (h : r.wp (fun b _ => b = a) X0) : r = .ok a () := by
  unfold R.wp at h
  cases r with
  | ok b ω' => cases h; with_unfolding_all rfl
  | ex x ω => exact h.elim
  | no => exact h.elim
theorem R.wp.ex {r : R Ω α} {P : α → Ω → Prop} (h : r.wp P X0) : ∃ a ω, r = .ok a ω ∧ P a ω := by
  cases r with
  | ok b ω' => with_unfolding_all exact ⟨_, _, rfl, h⟩
  | ex x ω => with_unfolding_all exact h.elim
  | no => with_unfolding_all exact h.elim
theorem sw_some {f : Fl} {ω : Ω} {P} : sw (some (f, ω)) P = P f ω := by with_unfolding_all rfl
theorem sw.mono {o : Option (Fl × Ω)} {P P' : Fl → Ω → Prop} (h : sw o P) (k : ∀ f ω, P f ω → P' f ω) : sw o P' := by
  cases o with
  | none => with_unfolding_all exact h
  | some p => with_unfolding_all exact k _ _ h
theorem sw_withE {e : E Ω α} {k : α → S Ω} {τ : Tau} {ω : Ω} {P} : sw (withE e k τ ω) P = (e τ ω).wp (fun a ω1 => sw (k a τ ω1) P) (fun x ω1 => P (.rs x τ) ω1) := by
  unfold withE; cases e τ ω <;> with_unfolding_all rfl
theorem sw_seq {a b : S Ω} {τ : Tau} {ω : Ω} {P} : sw (sSeq a b τ ω) P = sw (a τ ω) (fun f ω1 => match f with | .nx τ1 => sw (b τ1 ω1) P | f => P f ω1) := by
  unfold sSeq
  rcases a τ ω with _ | ⟨fl, ω1⟩
  · with_unfolding_all rfl
  · cases fl <;> with_unfolding_all rfl
theorem sw_if {c : E Ω Bool} {a b : S Ω} {τ : Tau} {ω : Ω} {P} : sw (sIf c a b τ ω) P = (c τ ω).wp (fun x ω1 => if x then sw (a τ ω1) P else sw (b τ ω1) P) (fun x ω1 => P (.rs x τ) ω1) := by
  unfold sIf; rw [sw_withE]; congr; funext x ω1; cases x <;> with_unfolding_all rfl
theorem sw_ret {e : E Ω D} {τ : Tau} {ω : Ω} {P} : sw (sRet e τ ω) P = (e τ ω).wp (fun d ω1 => P (.rt d) ω1) (fun x ω1 => P (.rs x τ) ω1) := by
  unfold sRet; rw [sw_withE]; with_unfolding_all rfl
theorem sw_asg {e : E Ω D} {B : D → Tau → Option Tau} {τ : Tau} {ω : Ω} {P} : sw (sAsg e B τ ω) P = (e τ ω).wp (fun d ω1 => ∃ τ1, B d τ = some τ1 ∧ P (.nx τ1) ω1) (fun x ω1 => P (.rs x τ) ω1) := by
  unfold sAsg; rw [sw_withE]; congr; funext d ω1; cases B d τ <;> simp [sw]
theorem sw_asgN {e : E Ω D} {i : Nat} {τ : Tau} {ω : Ω} {P} : sw (sAsg e (bName i) τ ω) P = (e τ ω).wp (fun d ω1 => P (.nx (τ.set i (some (.d d)))) ω1) (fun x ω1 => P (.rs x τ) ω1) := by
  rw [sw_asg]; simp [bName]
theorem sw_setO {e : E Ω (List D)} {i : Nat} {τ : Tau} {ω : Ω} {P} : sw (sSetO e i τ ω) P = (e τ ω).wp (fun ds ω1 => P (.nx (τ.set i (some (.ow .L ds)))) ω1) (fun x ω1 => P (.rs x τ) ω1) := by
  unfold sSetO; rw [sw_withE]; with_unfolding_all rfl
theorem sw_nx {τ : Tau} {ω : Ω} {P} : sw (sNx τ ω) P = P (.nx τ) ω := by with_unfolding_all rfl
theorem sw_par {i j : Nat} {a b : E Ω D} {τ : Tau} {ω : Ω} {P} : sw (sPar i j a b τ ω) P = (a τ ω).wp (fun x ω1 => (b τ ω1).wp (fun y ω2 => P (.nx ((τ.set i (some (.d x))).set j (some (.d y)))) ω2) (fun x ω1 => P (.rs x τ) ω1)) (fun x ω1 => P (.rs x τ) ω1) := by
  unfold sPar; simp only [sw_withE]; with_unfolding_all rfl
theorem sw_parO1 {i j : Nat} {a : E Ω (List D)} {b : E Ω D} {τ : Tau} {ω : Ω} {P} : sw (sParO1 i j a b τ ω) P = (a τ ω).wp (fun x ω1 => (b τ ω1).wp (fun y ω2 => P (.nx ((τ.set i (some (.ow .L x))).set j (some (.d y)))) ω2) (fun x ω1 => P (.rs x τ) ω1)) (fun x ω1 => P (.rs x τ) ω1) := by
  unfold sParO1; simp only [sw_withE]; with_unfolding_all rfl
theorem sw_parO2 {i j : Nat} {a : E Ω D} {b : E Ω (List D)} {τ : Tau} {ω : Ω} {P} : sw (sParO2 i j a b τ ω) P = (a τ ω).wp (fun x ω1 => (b τ ω1).wp (fun y ω2 => P (.nx ((τ.set i (some (.d x))).set j (some (.ow .L y)))) ω2) (fun x ω1 => P (.rs x τ) ω1)) (fun x ω1 => P (.rs x τ) ω1) := by
  unfold sParO2; simp only [sw_withE]; with_unfolding_all rfl
theorem sw_app {i : Nat} {e : E Ω D} {τ : Tau} {ω : Ω} {P} {xs : List D} (h : τ[i]? = some (some (.ow .L xs))) (hl : xs.length ≤ 100000) : sw (sApp i e τ ω) P = (e τ ω).wp (fun d ω1 => P (.nx (τ.set i (some (.ow .L (xs ++ [d]))))) ω1) (fun x ω1 => P (.rs x τ) ω1) := by
  unfold sApp; rw [h]; simp only [sw_withE]; congr; funext d ω1; rw [if_pos hl]; with_unfolding_all rfl
theorem sw_retO {i : Nat} {τ : Tau} {ω : Ω} {P} {xs : List D} (h : τ[i]? = some (some (.ow .L xs))) : sw (sRetO i τ ω) P = P (.rt (.lst xs)) ω := by
  unfold sRetO; rw [h]; with_unfolding_all rfl
theorem sw_fz {i : Nat} {F : S Ω} {τ : Tau} {ω : Ω} {P} : sw (sFz i F τ ω) P = sw (F τ ω) (fun f ω1 => match f with | .nx τ1 => ∃ τ2, fzT i τ1 = some τ2 ∧ P (.nx τ2) ω1 | f => P f ω1) := by
  unfold sFz
  rcases F τ ω with _ | ⟨fl, ω1⟩
  · with_unfolding_all rfl
  · cases fl with
    | nx τ1 => cases e : fzT i τ1 <;> simp [sw, e]
    | _ => with_unfolding_all rfl
theorem wp_runS {F : S Ω} {τ : Tau} {ω : Ω} {P X} : (runS F τ ω).wp P X = sw (F τ ω) (fun f ω' => match f with | .rt d => P d ω' | .nx _ => P .non ω' | .rs x _ => X x ω' | _ => False) := by
  unfold runS
  rcases F τ ω with _ | ⟨fl, ω1⟩
  · with_unfolding_all rfl
  · cases fl <;> with_unfolding_all rfl
theorem sw_for {i : E Ω (List D)} {B : D → Tau → Option Tau} {F : S Ω} {τ : Tau} {ω : Ω} {P} : sw (sFor i B F τ ω) P = (i τ ω).wp (fun ds ω1 => sw (loop B F ds τ ω1) P) (fun x ω1 => P (.rs x τ) ω1) := by
  unfold sFor; rw [sw_withE]
theorem loop_aux {B : D → Tau → Option Tau} {F : S Ω} {P : Fl → Ω → Prop} (I : Nat → Tau → Ω → Prop) (ds : List D)
    (step : ∀ i d τ ω, ds[i]? = some d → I i τ ω → ∃ τ1, B d τ = some τ1 ∧ sw (F τ1 ω) (fun f ω' => match f with | .nx τ' => I (i + 1) τ' ω' | .ct τ' => I (i + 1) τ' ω' | .bk τ' => P (.nx τ') ω' | f => P f ω'))
    (fin : ∀ τ ω, I ds.length τ ω → P (.nx τ) ω) : ∀ (k : Nat) (τ : Tau) (ω : Ω), k ≤ ds.length → I k τ ω → sw (loop B F (ds.drop k) τ ω) P := by
  intro k
  generalize hn : ds.length - k = n
  induction n generalizing k with
  | zero =>
    intro τ ω hk h
    have : k = ds.length := by omega
    subst this
    rw [List.drop_length]
    with_unfolding_all exact fin _ _ h
  | succ n ih =>
    intro τ ω hk h
    have hlt : k < ds.length := by omega
    rw [List.drop_eq_getElem_cons hlt]
    obtain ⟨τ1, e1, h1⟩ := step k ds[k] τ ω (List.getElem?_eq_getElem hlt) h
    unfold loop
    rw [e1]
    dsimp only
    revert h1
    rcases F τ1 ω with _ | ⟨fl, ω2⟩
    · with_unfolding_all exact id
    · cases fl with
      | nx τ2 => with_unfolding_all exact fun h1 => ih (k + 1) (by omega) τ2 ω2 (by omega) h1
      | ct τ2 => with_unfolding_all exact fun h1 => ih (k + 1) (by omega) τ2 ω2 (by omega) h1
      | _ => with_unfolding_all exact fun h1 => h1
theorem loop_inv {B : D → Tau → Option Tau} {F : S Ω} {P : Fl → Ω → Prop} {ds : List D} {τ : Tau} {ω : Ω} (I : Nat → Tau → Ω → Prop) (h0 : I 0 τ ω)
    (step : ∀ i d τ ω, ds[i]? = some d → I i τ ω → ∃ τ1, B d τ = some τ1 ∧ sw (F τ1 ω) (fun f ω' => match f with | .nx τ' => I (i + 1) τ' ω' | .ct τ' => I (i + 1) τ' ω' | .bk τ' => P (.nx τ') ω' | f => P f ω'))
    (fin : ∀ τ ω, I ds.length τ ω → P (.nx τ) ω) : sw (loop B F ds τ ω) P := loop_aux I ds step fin 0 τ ω (Nat.zero_le _) h0
theorem wp_lc {vs : List Nat} {i : E Ω (List D)} {B : D → Tau → Option Tau} {Ft : E Ω Bool} {Fe : E Ω D} {τ : Tau} {ω : Ω} {P X} :
    (eLc vs i B Ft Fe τ ω).wp P X = (i τ ω).wp (fun ds ω1 => ds.length ≤ sizeLine ∧ (lcL B Ft Fe (wipeT τ vs) ds ω1).wp P X0) X := by
  unfold eLc
  rw [wp_bind]
  congr
  funext ds ω1
  by_cases h : ds.length ≤ sizeLine
  · rw [if_pos h, wp_nox]; simp [h]
  · rw [if_neg h]; simp [h, R.wp]
theorem lc_aux {B : D → Tau → Option Tau} {Ft : E Ω Bool} {Fe : E Ω D} {τ : Tau} (I : Nat → List D → Ω → Prop) (ds : List D)
    (step : ∀ i d acc ω, ds[i]? = some d → I i acc ω → ∃ τ1, B d τ = some τ1 ∧ (Ft τ1 ω).wp (fun b ω1 => if b then (Fe τ1 ω1).wp (fun x ω2 => I (i + 1) (acc ++ [x]) ω2) X0 else I (i + 1) acc ω1) X0)
    : ∀ (k : Nat) (acc : List D) (ω : Ω), k ≤ ds.length → I k acc ω → (lcL B Ft Fe τ (ds.drop k) ω).wp (fun xs ω' => I ds.length (acc ++ xs) ω') X0 := by
  intro k
  generalize hn : ds.length - k = n
  induction n generalizing k with
  | zero =>
    intro acc ω hk h
    have : k = ds.length := by omega
    subst this
    rw [List.drop_length]
    simpa [lcL, R.wp] using h
  | succ n ih =>
    intro acc ω hk h
    have hlt : k < ds.length := by omega
    rw [List.drop_eq_getElem_cons hlt]
    obtain ⟨τ1, e1, h1⟩ := step k ds[k] acc ω (List.getElem?_eq_getElem hlt) h
    unfold lcL
    rw [e1]
    dsimp only
    rw [wp_bind, wp_nox]
    refine h1.mono fun b ω1 h2 => ?_
    cases b with
    | false => simpa using ih (k + 1) (by omega) acc ω1 (by omega) (by simpa using h2)
    | true =>
      simp only [if_true] at h2 ⊢
      rw [wp_bind, wp_nox]
      refine h2.mono fun x ω2 h3 => ?_
      rw [wp_bind]
      refine (ih (k + 1) (by omega) (acc ++ [x]) ω2 (by omega) h3).mono fun xs ω3 h4 => ?_
      simpa [R.wp] using h4
theorem lc_inv {B : D → Tau → Option Tau} {Ft : E Ω Bool} {Fe : E Ω D} {τ : Tau} {ds : List D} {ω : Ω} {P : List D → Ω → Prop} (I : Nat → List D → Ω → Prop) (h0 : I 0 [] ω)
    (step : ∀ i d acc ω, ds[i]? = some d → I i acc ω → ∃ τ1, B d τ = some τ1 ∧ (Ft τ1 ω).wp (fun b ω1 => if b then (Fe τ1 ω1).wp (fun x ω2 => I (i + 1) (acc ++ [x]) ω2) X0 else I (i + 1) acc ω1) X0)
    (fin : ∀ acc ω, I ds.length acc ω → P acc ω) : (lcL B Ft Fe τ ds ω).wp P X0 :=
  (lc_aux I ds step 0 [] ω (Nat.zero_le _) h0).mono fun xs ω' h => fin _ _ (by simpa using h)
theorem while_inv {n : Tau → Ω → Nat} {c : E Ω Bool} {F : S Ω} {P : Fl → Ω → Prop} {τ : Tau} {ω : Ω} (I : Nat → Tau → Ω → Prop) (h0 : I (n τ ω) τ ω)
    (step : ∀ m τ ω, I m τ ω → 0 < m ∧ (c τ ω).wp (fun b ω1 => if b then sw (F τ ω1) (fun f ω' => match f with | .nx τ' => I (m - 1) τ' ω' | .ct τ' => I (m - 1) τ' ω' | .bk τ' => P (.nx τ') ω' | f => P f ω') else P (.nx τ) ω1) (fun x ω1 => P (.rs x τ) ω1)) : sw (sWhile n c F τ ω) P := by
  unfold sWhile
  generalize n τ ω = m at *
  induction m generalizing τ ω with
  | zero => with_unfolding_all exact absurd (step 0 τ ω h0).1 (by omega)
  | succ m ih =>
    have h1 := (step (m + 1) τ ω h0).2
    unfold wloop
    rw [sw_withE]
    refine h1.mono (fun b ω1 h2 => ?_) (fun _ _ h => h)
    cases b with
    | false => simpa [sw_some] using h2
    | true =>
      simp only [if_true] at h2 ⊢
      revert h2
      rcases F τ ω1 with _ | ⟨fl, ω2⟩
      · with_unfolding_all exact id
      · cases fl with
        | nx τ2 => with_unfolding_all exact fun h2 => ih h2
        | ct τ2 => with_unfolding_all exact fun h2 => ih h2
        | _ => with_unfolding_all exact fun h2 => h2
variable {τ : Tau} {ω : Ω}
theorem wp_var {i : Nat} {P : D → Ω → Prop} {X} {d : D} (h : τ[i]? = some (some (.d d))) : (eVar i τ ω).wp P X = P d ω := by unfold eVar; rw [h]; with_unfolding_all rfl
theorem wp_c {d : D} {P X} : ((eC d : E Ω D) τ ω).wp P X = P d ω := by with_unfolding_all rfl
theorem wp_op {f : D → D → Option D} {a b : E Ω D} {P X} : (eOp f a b τ ω).wp P X = (a τ ω).wp (fun x ω1 => (b τ ω1).wp (fun y ω2 => (R.ofO (f x y) ω2).wp P X) X) X := by
  unfold eOp; simp only [wp_bind]
theorem wp_un {f : D → Option D} {a : E Ω D} {P X} : (eUn f a τ ω).wp P X = (a τ ω).wp (fun x ω1 => (R.ofO (f x) ω1).wp P X) X := by
  unfold eUn; simp only [wp_bind]
theorem wp_call {f : List D → Option D} {a : E Ω (List D)} {P X} : (eCall f a τ ω).wp P X = (a τ ω).wp (fun x ω1 => (R.ofO (f x) ω1).wp P X) X := by
  unfold eCall; simp only [wp_bind]
theorem wp_nil {P X} : ((aNil : E Ω (List D)) τ ω).wp P X = P [] ω := by with_unfolding_all rfl
theorem wp_cons {a : E Ω D} {r : E Ω (List D)} {P X} : (aCons a r τ ω).wp P X = (a τ ω).wp (fun x ω1 => (r τ ω1).wp (fun xs ω2 => P (x :: xs) ω2) X) X := by
  unfold aCons; simp only [wp_bind, wp_ok]
theorem wp_tup {a : E Ω (List D)} {P X} : (eTup a τ ω).wp P X = (a τ ω).wp (fun xs ω1 => xs.length ≤ 1000 ∧ P (.tup xs) ω1) X := by
  unfold eTup; rw [wp_bind]; congr; funext xs ω1; by_cases h : xs.length ≤ 1000 <;> simp [h, R.wp]
theorem wp_lst {a : E Ω (List D)} {P X} : (eLst a τ ω).wp P X = (a τ ω).wp (fun xs ω1 => xs.length ≤ 1000 ∧ P xs ω1) X := by
  unfold eLst; rw [wp_bind]; congr; funext xs ω1; by_cases h : xs.length ≤ 1000 <;> simp [h, R.wp]
theorem wp_frz {a : E Ω (List D)} {P X} : (eFrz a τ ω).wp P X = (a τ ω).wp (fun xs ω1 => P (.lst xs) ω1) X := by
  unfold eFrz; rw [wp_bind]; with_unfolding_all rfl
theorem wp_b {a : E Ω D} {P X} : (eB a τ ω).wp P X = (a τ ω).wp (fun x ω1 => (R.ofO x.bool ω1).wp P X) X := by unfold eB; rw [wp_bind]
theorem wp_tru {a : E Ω D} {P X} : (eTru a τ ω).wp P X = (a τ ω).wp (fun x ω1 => (R.ofO x.tru ω1).wp P X) X := by unfold eTru; rw [wp_bind]
theorem wp_and {a b : E Ω Bool} {P X} : (bAnd a b τ ω).wp P X = (a τ ω).wp (fun x ω1 => if x then (b τ ω1).wp P X else P false ω1) X := by
  unfold bAnd; rw [wp_bind]; congr; funext x ω1; cases x <;> with_unfolding_all rfl
theorem wp_or {a b : E Ω Bool} {P X} : (bOr a b τ ω).wp P X = (a τ ω).wp (fun x ω1 => if x then P true ω1 else (b τ ω1).wp P X) X := by
  unfold bOr; rw [wp_bind]; congr; funext x ω1; cases x <;> with_unfolding_all rfl
theorem wp_not {a : E Ω Bool} {P X} : (bNot a τ ω).wp P X = (a τ ω).wp (fun x ω1 => P (!x) ω1) X := by unfold bNot; rw [wp_bind]; with_unfolding_all rfl
theorem wp_yes {P X} : ((bYes : E Ω Bool) τ ω).wp P X = P true ω := by with_unfolding_all rfl
theorem wp_eif {c : E Ω Bool} {a b : E Ω D} {P X} : (eIf c a b τ ω).wp P X = (c τ ω).wp (fun x ω1 => if x then (a τ ω1).wp P X else (b τ ω1).wp P X) X := by
  unfold eIf; rw [wp_bind]; congr; funext x ω1; cases x <;> with_unfolding_all rfl
theorem wp_oNone {P X} : ((oNone : E Ω (Option Int)) τ ω).wp P X = P none ω := by with_unfolding_all rfl
theorem wp_oSome {a : E Ω D} {P X} : (oSome a τ ω).wp P X = (a τ ω).wp (fun x ω1 => (R.ofO x.toI ω1).wp P X) X := by unfold oSome; rw [wp_bind]
theorem wp_sl {a : E Ω D} {l h : E Ω (Option Int)} {P X} : (eSl a l h τ ω).wp P X = (a τ ω).wp (fun x ω1 => (l τ ω1).wp (fun lo ω2 => (h τ ω2).wp (fun hi ω3 => (R.ofO (sliceD x lo hi) ω3).wp P X) X) X) X := by
  unfold eSl; simp only [wp_bind]
theorem wp_sq {a : E Ω D} {P X} : (iSq a τ ω).wp P X = (a τ ω).wp (fun x ω1 => (R.ofO x.itemsS ω1).wp P X) X := by unfold iSq; rw [wp_bind]
theorem wp_rg {f : List D → Option (List D)} {a : E Ω (List D)} {P X} : (iRg f a τ ω).wp P X = (a τ ω).wp (fun x ω1 => (R.ofO (f x) ω1).wp P X) X := by unfold iRg; rw [wp_bind]
theorem wp_cD {F : List D → R Unit D} {a : E Ω (List D)} {P X} : (cD F a τ ω).wp P X = (a τ ω).wp (fun xs ω1 => (F xs).wp (fun d _ => P d ω1) X0) X := by
  unfold cD; simp only [wp_bind, wp_nox, wp_lift]
theorem wp_cW {F : List D → Ω → R Ω D} {i : Nat} {a : E Ω (List D)} {P X} (h : τ[i]? = some (some .src)) : (cW F i a τ ω).wp P X = (a τ ω).wp (fun xs ω1 => (F xs ω1).wp P X0) X := by
  unfold cW; rw [h]; simp only [wp_bind, wp_nox]
theorem wp_oLen {i : Nat} {P : D → Ω → Prop} {X} {xs : List D} (h : τ[i]? = some (some (.ow .L xs))) : (oLen i τ ω).wp P X = P (.int xs.length) ω := by unfold oLen; rw [h]; with_unfolding_all rfl
theorem wp_oTuple {i : Nat} {P : D → Ω → Prop} {X} {xs : List D} (h : τ[i]? = some (some (.ow .L xs))) : (oTuple i τ ω).wp P X = P (.tup xs) ω := by unfold oTuple; rw [h]; with_unfolding_all rfl
theorem wp_oIx {i : Nat} {b : E Ω D} {P : D → Ω → Prop} {X} {xs : List D} (h : τ[i]? = some (some (.ow .L xs))) : (oIx i b τ ω).wp P X = (b τ ω).wp (fun y ω1 => (R.ofO (ixD (.lst xs) y) ω1).wp P X) X := by unfold oIx; rw [h]; simp only [wp_bind]
end
section
variable {τ : Tau} {ω : Src}
theorem wp_src {i : Nat} {f : Src → Int} {P : D → Src → Prop} {X} (h : τ[i]? = some (some .src)) : (eSrc i f τ ω).wp P X = P (.int (f ω)) ω := by unfold eSrc; rw [h]; with_unfolding_all rfl
theorem wp_srcN {i : Nat} {P : D → Src → Prop} {X} (h : τ[i]? = some (some .src)) : (eSrcN i τ ω).wp P X = P (.int ω.cells.length) ω := by unfold eSrcN; rw [h]; with_unfolding_all rfl
theorem wp_srcP {i : Nat} {P : D → Src → Prop} {X} {z : Int} {r : List Int} (h : τ[i]? = some (some .src)) (e : ω.cells = z :: r) : (eSrcP i τ ω).wp P X = P (.int z) { ω with cells := r } := by unfold eSrcP; rw [h, e]; with_unfolding_all rfl
theorem sw_src {i : Nat} {f : Src → Int → Src} {e : E Src D} {P : Fl → Src → Prop} (h : τ[i]? = some (some .src)) : sw (sSrc i f e τ ω) P = (e τ ω).wp (fun d ω1 => ∃ z, d = .int z ∧ P (.nx τ) (f ω1 z)) (fun x ω1 => P (.rs x τ) ω1) := by
  unfold sSrc; rw [sw_withE]; congr; funext d ω1; rw [h]; cases d <;> simp [sw]
end
section
variable {Ω α : Type} {τ : Tau} {ω : Ω}
theorem wp_eqn {r : R Ω α} {a : α} {P X} (h : r = .ok a ω) : r.wp P X = P a ω := by rw [h]; with_unfolding_all rfl
theorem wp_ofOs {o : Option α} {a : α} {P X} (h : o = some a) : (R.ofO o ω).wp P X = P a ω := by rw [h]; with_unfolding_all rfl
theorem wp_varI {i : Nat} {P : D → Ω → Prop} {X} {d : D} (h : τ[i]? = some (some (.d d))) (k : P d ω) : (eVar i τ ω).wp P X := (wp_var h).mpr k
theorem wp_ofOI {o : Option α} {a : α} {P X} (h : o = some a) (k : P a ω) : (R.ofO o ω).wp P X := (wp_ofOs h).mpr k
theorem sw_asgI {e : E Ω D} {B : D → Tau → Option Tau} {P} (k : (e τ ω).wp (fun d ω1 => ∃ τ1, B d τ = some τ1 ∧ P (.nx τ1) ω1) (fun x ω1 => P (.rs x τ) ω1)) : sw (sAsg e B τ ω) P := sw_asg.mpr k
theorem exI {o : Option Tau} {τ1 : Tau} {P : Tau → Prop} (h : o = some τ1) (k : P τ1) : ∃ τ1, o = some τ1 ∧ P τ1 := ⟨_, h, k⟩
theorem sw_appI {i : Nat} {e : E Ω D} {P} {xs : List D} (h : τ[i]? = some (some (.ow .L xs))) (k : (e τ ω).wp (fun d ω1 => P (.nx (τ.set i (some (.ow .L (xs ++ [d]))))) ω1) (fun x ω1 => P (.rs x τ) ω1)) (hl : xs.length ≤ 100000) : sw (sApp i e τ ω) P := (sw_app h hl).mpr k
theorem sw_retOI {i : Nat} {P} {xs : List D} (h : τ[i]? = some (some (.ow .L xs))) (k : P (.rt (.lst xs)) ω) : sw (sRetO i τ ω) P := (sw_retO h).mpr k
theorem wp_oLenI {i : Nat} {P : D → Ω → Prop} {X} {xs : List D} (h : τ[i]? = some (some (.ow .L xs))) (k : P (.int xs.length) ω) : (oLen i τ ω).wp P X := (wp_oLen h).mpr k
theorem wp_oTupleI {i : Nat} {P : D → Ω → Prop} {X} {xs : List D} (h : τ[i]? = some (some (.ow .L xs))) (k : P (.tup xs) ω) : (oTuple i τ ω).wp P X := (wp_oTuple h).mpr k
theorem wp_oIxI {i : Nat} {b : E Ω D} {P : D → Ω → Prop} {X} {xs : List D} (h : τ[i]? = some (some (.ow .L xs))) (k : (b τ ω).wp (fun y ω1 => (R.ofO (ixD (.lst xs) y) ω1).wp P X) X) : (oIx i b τ ω).wp P X := (wp_oIx h).mpr k
theorem sw_srcI {τ : Tau} {ω : Src} {i : Nat} {f : Src → Int → Src} {e : E Src D} {P : Fl → Src → Prop} (h : τ[i]? = some (some .src)) (k : (e τ ω).wp (fun d ω1 => ∃ z, d = .int z ∧ P (.nx τ) (f ω1 z)) (fun x ω1 => P (.rs x τ) ω1)) : sw (sSrc i f e τ ω) P := (sw_src h).mpr k
theorem exD {i : Int} {P : Int → Prop} (k : P i) : ∃ z, D.int i = .int z ∧ P z := ⟨_, rfl, k⟩
theorem iteT {p : Prop} [Decidable p] {a b : Prop} (h : p) : (if p then a else b) = a := if_pos h
theorem iteF {p : Prop} [Decidable p] {a b : Prop} (h : ¬ p) : (if p then a else b) = b := if_neg h
end
end DL
local macro_rules
  | `(tactic| walk_at "ev1") => `(tactic| first
    | (with_reducible refine Eq.mpr DL.sw_seq ?_)
    | ((with_reducible apply DL.wp_varI); (· exact rfl))
    | (with_reducible refine Eq.mpr DL.wp_c ?_)
    | (with_reducible refine Eq.mpr DL.wp_op ?_)
    | ((with_reducible apply DL.wp_ofOI); (· first | exact rfl | assumption))
    | (with_reducible refine Eq.mpr DL.wp_cons ?_)
    | (with_reducible refine Eq.mpr DL.wp_nil ?_)
    | (with_reducible refine Eq.mpr DL.wp_cD ?_)
    | ((with_reducible refine Eq.mpr (DL.wp_cW ?evh) ?_); (case evh => exact rfl))
    | (with_reducible refine Eq.mpr DL.sw_asgN ?_)
    | (with_reducible refine Eq.mpr DL.sw_if ?_)
    | (with_reducible refine Eq.mpr DL.wp_b ?_)
    | (with_reducible refine Eq.mpr DL.sw_ret ?_)
    | (with_reducible refine Eq.mpr DL.sw_nx ?_)
    | (with_reducible refine Eq.mpr DL.wp_call ?_)
    | (with_reducible refine Eq.mpr DL.wp_tup ?_)
    | (with_reducible refine Eq.mpr DL.wp_lst ?_)
    | ((with_reducible apply And.intro); (· exact Nat.le_of_ble_eq_true rfl))
    | (with_reducible refine Eq.mpr DL.wp_frz ?_)
    | (with_reducible refine DL.sw_asgI ?_)
    | ((with_reducible apply DL.exI); (· exact rfl))
    | (with_reducible apply DL.exD)
    | (with_reducible refine Eq.mpr DL.sw_setO ?_)
    | (with_reducible refine Eq.mpr DL.sw_par ?_)
    | (with_reducible refine Eq.mpr DL.sw_parO1 ?_)
    | (with_reducible refine Eq.mpr DL.sw_parO2 ?_)
    | (with_reducible refine Eq.mpr DL.sw_for ?_)
    | (with_reducible refine Eq.mpr DL.wp_rg ?_)
    | (with_reducible refine Eq.mpr DL.wp_sq ?_)
    | (with_reducible refine Eq.mpr DL.wp_lc ?_)
    | (with_reducible refine Eq.mpr DL.wp_un ?_)
    | (with_reducible refine Eq.mpr DL.wp_and ?_)
    | (with_reducible refine Eq.mpr DL.wp_or ?_)
    | (with_reducible refine Eq.mpr DL.wp_not ?_)
    | (with_reducible refine Eq.mpr DL.wp_yes ?_)
    | (with_reducible refine Eq.mpr DL.wp_tru ?_)
    | (with_reducible refine Eq.mpr DL.wp_eif ?_)
    | (with_reducible refine Eq.mpr DL.wp_sl ?_)
    | (with_reducible refine Eq.mpr DL.wp_oNone ?_)
    | (with_reducible refine Eq.mpr DL.wp_oSome ?_)
    | ((with_reducible apply DL.sw_appI); (· exact rfl))
    | ((with_reducible apply DL.sw_retOI); (· exact rfl))
    | ((with_reducible apply DL.wp_oLenI); (· exact rfl))
    | ((with_reducible apply DL.wp_oTupleI); (· exact rfl))
    | ((with_reducible apply DL.wp_oIxI); (· exact rfl))
    | ((with_reducible refine Eq.mpr (DL.wp_src ?evh) ?_); (case evh => exact rfl))
    | ((with_reducible refine Eq.mpr (DL.wp_srcN ?evh) ?_); (case evh => exact rfl))
    | ((with_reducible apply DL.sw_srcI); (· exact rfl))
    | (with_reducible refine Eq.mpr DL.sw_fz ?_)
    | (with_reducible refine Eq.mpr DL.wp_nox ?_)
    | (with_reducible refine Eq.mpr DL.wp_runS ?_)
    | ((with_reducible refine Eq.mpr (DL.iteT ?evh) ?_); (case evh => exact rfl))
    | ((with_reducible refine Eq.mpr (DL.iteF ?evh) ?_); (case evh => exact Bool.false_ne_true)))
namespace DL
open PySem
inductive Sh where
  | o
  | n (l r : Sh)
  deriving DecidableEq
namespace Sh
def size : Sh → Nat
  | .o => 1
  | .n l r => l.size + r.size
theorem size_pos : ∀ s : Sh, 1 ≤ s.size
  | .o => Nat.le_refl _
  | .n l r => by have := size_pos l; simp only [size]; omega
def py : Sh → PyData
  | .o => .tuple []
  | .n l r => .tuple [l.py, r.py]
def enc : Sh → D
  | .o => .tup []
  | .n l r => .tup [l.enc, r.enc]
theorem enc_py : ∀ s : Sh, s.enc.py = some s.py
  | .o => rfl
  | .n l r => by simp [enc, D.py, D.pyL, enc_py l, enc_py r, py]
theorem eqv : ∀ a b : Sh, PyData.eqv a.py b.py = decide (a = b)
  | .o, .o => by simp [py, PyData.eqv, PyData.eqvAll]
  | .o, .n l r => by simp [py, PyData.eqv, PyData.eqvAll]
  | .n l r, .o => by simp [py, PyData.eqv, PyData.eqvAll]
  | .n l r, .n l' r' => by
    simp only [py, PyData.eqv, PyData.eqvAll, eqv l l', eqv r r', Bool.and_true]
    by_cases h1 : l = l' <;> by_cases h2 : r = r' <;> simp [h1, h2]
theorem lay : ∀ s : Sh, s.py.canLay0 = true
  | .o => by simp [py, PyData.canLay0, PyData.canLayAll0]
  | .n l r => by simp [py, PyData.canLay0, PyData.canLayAll0, lay l, lay r]
theorem dep : ∀ s : Sh, s.py.depth ≤ s.size
  | .o => by simp [py, PyData.depth, PyData.depthAll, size]
  | .n l r => by
    have h1 := dep l; have h2 := dep r; have h3 := size_pos l; have h4 := size_pos r
    simp only [py, PyData.depth, PyData.depthAll, size]
    omega
end Sh
class Enc (α : Type) [DecidableEq α] where
  enc : α → D
  py : α → PyData
  dep : α → Nat
  e1 : ∀ a, (enc a).py = some (py a)
  e2 : ∀ a b, PyData.eqv (py a) (py b) = decide (a = b)
  e3 : ∀ a, (py a).canLay0 = true
  e4 : ∀ a, (py a).depth ≤ dep a
section
variable {α : Type} [DecidableEq α] [Enc α]
theorem pyL_map (xs : List α) : D.pyL (xs.map Enc.enc) = some (xs.map Enc.py) := by
  induction xs with
  | nil => rfl
  | cons x xs ih => simp [D.pyL, Enc.e1, ih]
theorem eqvAll_map : ∀ xs ys : List α, PyData.eqvAll (xs.map Enc.py) (ys.map Enc.py) = decide (xs = ys)
  | [], [] => by simp [PyData.eqvAll]
  | [], _ :: _ => by simp [PyData.eqvAll]
  | _ :: _, [] => by simp [PyData.eqvAll]
  | x :: xs, y :: ys => by
    simp only [List.map_cons, PyData.eqvAll, Enc.e2, eqvAll_map xs ys]
    by_cases h1 : x = y <;> by_cases h2 : xs = ys <;> simp [h1, h2]
theorem lay_map (xs : List α) : PyData.canLayAll0 (xs.map Enc.py) = true := by
  induction xs with
  | nil => simp [PyData.canLayAll0]
  | cons x xs ih => simp [PyData.canLayAll0, Enc.e3, ih]
def depL (xs : List α) : Nat := xs.foldr (fun x m => max (Enc.dep x) m) 0
theorem dep_map (xs : List α) : PyData.depthAll (xs.map Enc.py) ≤ depL xs := by
  induction xs with
  | nil => simp [PyData.depthAll, depL]
  | cons x xs ih =>
    have := Enc.e4 x
    simp only [List.map_cons, PyData.depthAll, depL, List.foldr_cons] at *
    omega
theorem eqB_enc (a b : α) (h : Enc.dep a ≤ 150 ∨ Enc.dep b ≤ 150) : eqB (Enc.enc a) (Enc.enc b) = some (decide (a = b)) := by
  unfold eqB
  rw [Enc.e1, Enc.e1]
  have h1 := Enc.e4 a; have h2 := Enc.e4 b
  dsimp only
  rw [if_pos ⟨Enc.e3 a, Enc.e3 b, by omega⟩, Enc.e2]
end
instance : Enc Sh := ⟨Sh.enc, Sh.py, Sh.size, Sh.enc_py, Sh.eqv, Sh.lay, Sh.dep⟩
instance : Enc Int := ⟨.int, .int, fun _ => 0, fun _ => rfl, fun a b => by simp only [PyData.eqv]; rfl, fun a => by simp only [PyData.canLay0], fun a => by simp only [PyData.depth]; exact Nat.le_refl _⟩
instance : Enc Bool := ⟨.bl, .bool, fun _ => 0, fun _ => rfl, fun a b => by simp only [PyData.eqv]; cases a <;> cases b <;> rfl, fun a => by simp only [PyData.canLay0], fun a => by simp only [PyData.depth]; exact Nat.le_refl _⟩
/-- a tuple of equal kinds -/
instance {α : Type} [DecidableEq α] [Enc α] : Enc (List α) where
  enc xs := .tup (xs.map Enc.enc)
  py xs := .tuple (xs.map Enc.py)
  dep xs := depL xs + 1
  e1 xs := by simp [D.py, pyL_map]
  e2 xs ys := by simp only [PyData.eqv]; exact eqvAll_map xs ys
  e3 xs := by simp only [PyData.canLay0]; exact lay_map xs
  e4 xs := by have := dep_map xs; simp only [PyData.depth]; omega
/-- a list of equal kinds -/
structure Lst (α : Type) where
  l : List α
  deriving DecidableEq
instance {α : Type} [DecidableEq α] [Enc α] : Enc (Lst α) where
  enc xs := .lst (xs.l.map Enc.enc)
  py xs := .list (xs.l.map Enc.py)
  dep xs := depL xs.l + 1
  e1 xs := by simp [D.py, pyL_map]
  e2 xs ys := by
    simp only [PyData.eqv]; rw [eqvAll_map xs.l ys.l]
    cases xs; cases ys; simp
  e3 xs := by simp only [PyData.canLay0]; exact lay_map xs.l
  e4 xs := by have := dep_map xs.l; simp only [PyData.depth]; omega
theorem eqD_enc {α : Type} [DecidableEq α] [Enc α] (a b : α) (h : Enc.dep a ≤ 150 ∨ Enc.dep b ≤ 150) : eqD (Enc.enc a) (Enc.enc b) = some (.bl (decide (a = b))) := by unfold eqD; rw [eqB_enc a b h]; rfl
theorem neD_enc {α : Type} [DecidableEq α] [Enc α] (a b : α) (h : Enc.dep a ≤ 150 ∨ Enc.dep b ≤ 150) : neD (Enc.enc a) (Enc.enc b) = some (.bl (!decide (a = b))) := by unfold neD; rw [eqB_enc a b h]; rfl
theorem eqD_int (a b : Int) : eqD (.int a) (.int b) = some (.bl (decide (a = b))) := eqD_enc a b (.inl (Nat.zero_le _))
theorem neD_int (a b : Int) : neD (.int a) (.int b) = some (.bl (!decide (a = b))) := neD_enc a b (.inl (Nat.zero_le _))
theorem eqD_sh (a b : Sh) (h : a.size ≤ 150 ∨ b.size ≤ 150) : eqD a.enc b.enc = some (.bl (decide (a = b))) := eqD_enc a b h
theorem neD_sh (a b : Sh) (h : a.size ≤ 150 ∨ b.size ≤ 150) : neD a.enc b.enc = some (.bl (!decide (a = b))) := neD_enc a b h
theorem atI_nat {α : Type} {xs : List α} {i : Nat} : L2.atI xs (i : Int) = xs[i]? := by
  unfold L2.atI L2.ixN
  rw [if_pos (by omega)]
  by_cases h : i < xs.length
  · rw [if_pos (by omega)]; simp
  · rw [if_neg (by omega)]; simp; omega
theorem atI_of {α : Type} {xs : List α} {i : Int} {k : Nat} {d : α} (e : i = k) (h : xs[k]? = some d) : L2.atI xs i = some d := by
  subst e; rw [atI_nat]; exact h
theorem ix_tup {xs : List D} {i : Int} {k : Nat} {d : D} (e : i = k) (h : xs[k]? = some d) : ixD (.tup xs) (.int i) = some d := atI_of e h
theorem ix_lst {xs : List D} {i : Int} {k : Nat} {d : D} (e : i = k) (h : xs[k]? = some d) : ixD (.lst xs) (.int i) = some d := atI_of e h
theorem cut_to {α : Type} (xs : List α) (j : Nat) : cutL xs none (some (j : Int)) = xs.take j := by
  unfold cutL
  rw [HT.sIx_nat]
  show (xs.drop 0).take (min j xs.length - 0) = _
  rw [List.drop_zero, Nat.sub_zero]
  by_cases h2 : j ≤ xs.length
  · rw [Nat.min_eq_left h2]
  · rw [Nat.min_eq_right (by omega), List.take_of_length_le (by omega), List.take_of_length_le (by omega)]
theorem addN (a b : Nat) : addD (.int (a : Int)) (.int (b : Int)) = some (.int ((a + b : Nat) : Int)) := by unfold addD; rw [Int.natCast_add]
theorem subN (a b : Nat) (h : b ≤ a) : subD (.int (a : Int)) (.int (b : Int)) = some (.int ((a - b : Nat) : Int)) := by unfold subD; rw [Int.natCast_sub h]
theorem fdivN (a b : Nat) (h1 : 0 < b) (h2 : b < 2 ^ 60) : fdivD (.int (a : Int)) (.int (b : Int)) = some (.int ((a / b : Nat) : Int)) := by
  unfold fdivD
  dsimp only
  rw [if_pos ⟨by omega, by rw [Int.natAbs_natCast]; exact Nat.lt_of_lt_of_le ((Nat.log2_lt (by omega)).mpr h2) (by omega)⟩, Int.natCast_ediv]
theorem addL (xs ys : List D) (h : xs.length + ys.length ≤ 100000) : addD (.lst xs) (.lst ys) = some (.lst (xs ++ ys)) := by
  unfold addD
  dsimp only
  rw [if_pos (by rw [sizeLine_eq]; omega)]
theorem ne_same {α : Type} [DecidableEq α] [Enc α] (a : α) (h : Enc.dep a ≤ 150) : neD (Enc.enc a) (Enc.enc a) = some (.bl false) := by
  rw [neD_enc a a (.inl h)]; simp
end DL
namespace DL
open Sh
abbrev Tab := List Sh
def bsz (t : Tab) : Nat := t.length + 1
def ent (t : Tab) (m : Nat) : Sh := if m ≤ 1 then .o else t.getD (m - 2) .o
def fill : Sh → List Sh → Sh
  | .o, ps => ps.headD .o
  | .n l r, ps => .n (fill l ps) (fill r (ps.drop l.size))
/-- a row pressed with a table -/
def prs (t : Tab) (row : List Sh) : List Sh :=
  if h : row = [] then [] else fill (ent t (min (bsz t) row.length)) row :: prs t (row.drop (bsz t))
termination_by row.length
decreasing_by
  have : 0 < row.length := List.length_pos_iff.mpr h
  simp [bsz]; omega
theorem prs_ne (t : Tab) {row : List Sh} (h : row ≠ []) : prs t row = fill (ent t (min (bsz t) row.length)) row :: prs t (row.drop (bsz t)) := by rw [prs, dif_neg h]
end DL
namespace DL
open Sh
end DL
namespace DL
open PySem PySem.Spec PyProof.Rows L2
instance {i j : Int} : Decidable (CDivP i j) := by unfold CDivP; infer_instance
end DL
namespace DL
open PySem PySem.Spec PyProof.Rows L2
section
variable {im : Addr → Bool} {Ω : Type} {G : Gam im Ω} {K : PySem.W.Frag} {W : WX} {ta tb tc : TE} {Fa Fb Fc : E Ω D} {Fl' : E Ω (List D)}
def rgI (lo : Int) : Nat → List Int
  | 0 => []
  | n + 1 => lo :: rgI (lo + 1) n
theorem rangeL_rgI : ∀ (n : Nat) (lo : Int), rangeL lo 1 n = (rgI lo n).map D.int
  | 0, _ => rfl
  | n + 1, lo => by rw [rangeL, rgI, List.map_cons, rangeL_rgI n]
theorem rgI_get : ∀ (n : Nat) (lo : Int) (i : Nat), (rgI lo n)[i]? = if i < n then some (lo + (i : Nat)) else none
  | 0, lo, i => by simp [rgI]
  | n + 1, lo, 0 => by simp [rgI]
  | n + 1, lo, i + 1 => by
    simp only [rgI, List.getElem?_cons_succ, rgI_get n (lo + 1) i]
    by_cases h : i < n
    · rw [if_pos h, if_pos (by omega)]; congr 1; omega
    · rw [if_neg h, if_neg (by omega)]
theorem rgV_rgI (a b : Int) : rgV a b = (rgI a (b - a).toNat).map V.int := by
  apply List.ext_getElem?
  intro i
  unfold rgV
  rw [List.getElem?_map, List.getElem?_map, rgI_get]
  by_cases h : i < (b - a).toNat
  · rw [if_pos h, List.getElem?_range h]; rfl
  · rw [if_neg h, List.getElem?_eq_none (by simpa using h)]; rfl
theorem rgV_rep {H : Hp} (a b : Int) : RepL K im H (rgV a b) (rangeL a 1 (b - a).toNat) := by
  rw [rgV_rgI, rangeL_rgI]
  generalize rgI a (b - a).toNat = xs
  induction xs with
  | nil => exact .nil
  | cons x xs ih => exact .cons (.int x) ih
def DRg (G : Gam im Ω) (K : PySem.W.Frag) (W : WX) (tr : L2.St → Hp → (Int → Int → Hp → Prop) → Prop) (F : E Ω (Int × Int)) : Prop := ∀ H0 σ H ω τ, STT G K H0 H σ τ → G.At ω H → ∀ Q : Int → Int → Hp → Prop,
  Res G (F τ ω) H (fun p _ H' => Q p.1 p.2 H') (kX G K W σ) → tr σ H Q
def rRg1 (a : E Ω D) : E Ω (Int × Int) := fun τ ω => (a τ ω).bind fun x ω1 => match x with
  | .int j => .ok (0, j) ω1
  | _ => .no
theorem drg_1 (ha : DE G K W ta Fa) : DRg G K W (tRg1 ta) (rRg1 Fa) := by
  intro H0 σ H ω τ s t Q h
  refine ha H0 σ H ω τ s t _ (Res.imp (Res.bind h) (fun x ω1 H1 k1 t1 h1 v r => ?_) fun _ _ _ _ _ q => q)
  cases r with
  | int j => exact ⟨j, rfl, h1 H1 k1 t1⟩
  | _ => exact h1.elim
def eLRg (r : E Ω (Int × Int)) : E Ω (List D) := fun τ ω => (r τ ω).bind fun p ω1 => if -(2 ^ 62) ≤ p.1 ∧ p.1 < 2 ^ 62 ∧ -(2 ^ 62) ≤ p.2 ∧ p.2 < 2 ^ 62 ∧ (p.2 - p.1).toNat ≤ 2 ^ 24 then .ok (rangeL p.1 1 (p.2 - p.1).toNat) ω1 else .no
theorem dl_lrg {tr : L2.St → Hp → (Int → Int → Hp → Prop) → Prop} {Fr : E Ω (Int × Int)} (hr : DRg G K W tr Fr) : DL G K W (tLstRg tr) (eLRg Fr) := by
  intro H0 σ H ω τ s t Q h
  refine hr H0 σ H ω τ s t _ (Res.imp (Res.bind h) (fun p ω1 H1 k1 t1 h1 => ?_) fun _ _ _ _ _ q => q)
  have h2 := h1.mono k1
  split at h2
  · rename_i hc
    refine ⟨hc, fun q hq => ?_⟩
    have sm : Same H1 (upd H1 q (.lst (rgV p.1 p.2))) := Same.new hq
    have hp0 : H q = none := by
      cases e : H q with
      | none => rfl
      | some o =>
        by_cases f : G.FP q
        · exact absurd hq (G.trk t1 q f)
        · have := k1 q o e f; rw [hq] at this; cases this
    exact h2 _ (.of sm) (At.same t1 sm) _ _ hp0 upd_same (rgV_rep _ _)
  · exact h2.elim
end
end DL
namespace DL
open PySem PySem.Spec PyProof.Rows L2
end DL
namespace DL
open PySem PySem.Spec PyProof.Rows L2
section
variable {κ : Type} [DecidableEq κ]
def lkp : List κ → List D → κ → Option D
  | k' :: ks, d :: ds, k => if k' = k then some d else lkp ks ds k
  | _, _, _ => none
def repD : List κ → List D → κ → D → List D
  | k' :: ks, d' :: ds, k, d => (if k' = k then d else d') :: repD ks ds k d
  | _, _, _, _ => []
def putKs (ks : List κ) (k : κ) : List κ := if ks.any (fun k' => decide (k' = k)) = true then ks else ks ++ [k]
def putDs (ks : List κ) (ds : List D) (k : κ) (d : D) : List D := if ks.any (fun k' => decide (k' = k)) = true then repD ks ds k d else ds ++ [d]
section
variable {K : PySem.W.Frag} {im : Addr → Bool} {H : Hp}
theorem lkp_val : ∀ {ks : List κ} {vs : List V} {ds : List D} (k : κ), ks.length = vs.length → RepL K im H vs ds → (∀ d, lkp ks ds k = some d → ∃ v, valV (ks.zip vs) k = some v ∧ Rep K im H v d) ∧ (lkp ks ds k = none → valV (ks.zip vs) k = none)
  | [], _, _, k, hl, r => ⟨fun d e => by simp [lkp] at e, fun _ => by simp [valV_nil]⟩
  | k' :: ks, [], _, k, hl, r => by simp at hl
  | k' :: ks, v :: vs, _, k, hl, .cons (d := d0) (ds := ds) r1 r2 => by
    rw [List.zip_cons_cons]
    by_cases e : k' = k
    · rw [valV_pos e]
      simp only [lkp, if_pos e]
      exact ⟨fun d h => ⟨v, rfl, by cases h; exact r1⟩, fun h => by cases h⟩
    · rw [valV_neg (p := (k', v)) e]
      simp only [lkp, if_neg e]
      exact lkp_val k (by simpa using hl) r2
def repV : List κ → List V → κ → V → List V
  | k' :: ks, d' :: ds, k, d => (if k' = k then d else d') :: repV ks ds k d
  | _, _, _, _ => []
theorem zip_any (k : κ) : ∀ {ks : List κ} {vs : List V}, ks.length = vs.length → ((ks.zip vs).any fun kv => decide (kv.1 = k)) = ks.any (fun k' => decide (k' = k))
  | [], _, _ => rfl
  | k' :: ks, [], hl => by simp at hl
  | k' :: ks, v :: vs, hl => by rw [List.zip_cons_cons, List.any_cons, List.any_cons, zip_any k (ks := ks) (vs := vs) (by simpa using hl)]
theorem zip_rep (k : κ) (v : V) : ∀ {ks : List κ} {vs : List V}, ks.length = vs.length → (ks.zip vs).map (fun kv => if kv.1 = k then (kv.1, v) else kv) = ks.zip (repV ks vs k v)
  | [], _, _ => rfl
  | k' :: ks, [], hl => by simp at hl
  | k' :: ks, v' :: vs, hl => by
    rw [List.zip_cons_cons, List.map_cons, zip_rep k v (ks := ks) (vs := vs) (by simpa using hl), repV, List.zip_cons_cons]
    congr 1
    by_cases e : k' = k <;> simp [e]
theorem repV_len (k : κ) (v : V) : ∀ {ks : List κ} {vs : List V}, ks.length = vs.length → ks.length = (repV ks vs k v).length
  | [], _, _ => by simp [repV]
  | k' :: ks, [], hl => by simp at hl
  | k' :: ks, v' :: vs, hl => by rw [repV, List.length_cons, List.length_cons, ← repV_len k v (ks := ks) (vs := vs) (by simpa using hl)]
theorem repV_rep {v : V} {d : D} (k : κ) (r : Rep K im H v d) : ∀ {ks : List κ} {vs : List V} {ds : List D}, ks.length = vs.length → RepL K im H vs ds → RepL K im H (repV ks vs k v) (repD ks ds k d)
  | [], _, _, _, _ => by simp [repV, repD]; exact .nil
  | k' :: ks, [], _, hl, _ => by simp at hl
  | k' :: ks, v' :: vs, _, hl, .cons r1 r2 => by
    rw [repV, repD]
    refine .cons ?_ (repV_rep k r (by simpa using hl) r2)
    split
    · exact r
    · exact r1
theorem put_ok {v : V} {d : D} {ks : List κ} {vs : List V} {ds : List D} (k : κ) (hl : ks.length = vs.length) (r : RepL K im H vs ds) (rv : Rep K im H v d) :
    ∃ ws, putK (ks.zip vs) k v = (putKs ks k).zip ws ∧ (putKs ks k).length = ws.length ∧ RepL K im H ws (putDs ks ds k d) := by
  unfold putK putKs putDs
  rw [zip_any k hl]
  split
  · exact ⟨repV ks vs k v, zip_rep k v hl, repV_len k v hl, repV_rep k rv hl r⟩
  · refine ⟨vs ++ [v], ?_, by simp [hl], r.append (.one rv)⟩
    rw [List.zip_append hl]; rfl
theorem repD_len (k : κ) (d : D) : ∀ {ks : List κ} {ds : List D}, ks.length = ds.length → (repD ks ds k d).length = ds.length
  | [], ds, h => by simp [repD]; simp at h; omega
  | k' :: ks, [], hl => by simp at hl
  | k' :: ks, v' :: vs, hl => by rw [repD, List.length_cons, List.length_cons, repD_len k d (ks := ks) (ds := vs) (by simpa using hl)]
theorem put_len {ks : List κ} {ds : List D} (k : κ) (d : D) (hl : ks.length = ds.length) : (putKs ks k).length = (putDs ks ds k d).length := by
  unfold putKs putDs
  split
  · rw [repD_len k d hl]; exact hl
  · simp [hl]
end
end
def D.key : D → Option Key
  | .int i => some (.inl i)
  | .str x => some (.inr x)
  | _ => none
def D.keyL : List D → Option (List Key)
  | [] => some []
  | d :: ds => match d.key, D.keyL ds with
    | some k, some r => some (k :: r)
    | _, _ => none
theorem Rep.key {K : PySem.W.Frag} {im : Addr → Bool} {H : Hp} {v : V} {d : D} {k : Key} (r : Rep K im H v d) (e : d.key = some k) : v = kV k := by
  cases r <;> simp [D.key] at e <;> subst e <;> rfl
theorem RepL.key {K : PySem.W.Frag} {im : Addr → Bool} {H : Hp} : ∀ {vs : List V} {ds : List D} {k : List Key}, RepL K im H vs ds → D.keyL ds = some k → vs = k.map kV
  | _, _, _, .nil, e => by cases e; rfl
  | _, _, _, .cons (d := d) (ds := ds) r1 r2, e => by
    unfold D.keyL at e
    cases h1 : d.key with
    | none => rw [h1] at e; cases e
    | some k1 =>
      cases h2 : D.keyL ds with
      | none => rw [h1, h2] at e; cases e
      | some k2 =>
        rw [h1, h2] at e
        cases e
        rw [List.map_cons, ← r1.key h1, ← RepL.key r2 h2]
section
variable {im : Addr → Bool} {Ω : Type} {G : Gam im Ω} {K : PySem.W.Frag} {W : WX} {ta tk te : TE} {Fa Fk Fe : E Ω D} {tr : TA} {Fr : E Ω (List D)}
/-- a name that holds a dict by tuples: what it has -/
def PlT (G : Gam im Ω) (K : PySem.W.Frag) (i : Nat) (P : Tau → Ω → Option (List (List Key) × List D)) : Prop := ∀ H0 σ H ω τ, STT G K H0 H σ τ → G.At ω H → ∀ ks ds, P τ ω = some (ks, ds) →
  ∃ a vs, σ[i]? = some (some (.ref a)) ∧ Rd H a (.dT (ks.zip vs)) ∧ ks.length = vs.length ∧ RepL K im H vs ds
def pT (i : Nat) : Tau → Ω → Option (List (List Key) × List D) := fun τ _ => match τ[i]? with
  | some (some (.d (.dit ks ds))) => some (ks, ds)
  | some (some (.ow (.T ks) ds)) => some (ks, ds)
  | _ => none
theorem plT (i : Nat) : PlT G K i (pT i) := by
  intro H0 σ H ω τ s t ks ds e
  unfold pT at e
  split at e
  · rename_i ks' ds' h
    cases e
    obtain ⟨v, e1, r⟩ := s.get h
    cases r with
    | dit h1 h2 h3 => exact ⟨_, _, e1, .inr ⟨_, h1⟩, h2, h3⟩
  · rename_i ks' ds' h
    cases e
    obtain ⟨l, vs, e1, h1, h2, _, _, h3⟩ := s.getW h
    exact ⟨_, vs, e1, .inl h1, by rw [h2.length]; exact h3, h2⟩
  · cases e
def eDiT (b : Bool → Bool) (P : Tau → Ω → Option (List (List Key) × List D)) (r : E Ω (List D)) : E Ω D := fun τ ω => (r τ ω).bind fun xs ω1 => match D.keyL xs, P τ ω1 with
  | some k, some (ks, ds) => if k.length ≤ 1000 then .ok (.bl (b (lkp ks ds k).isSome)) ω1 else .no
  | _, _ => .no
theorem keyL_len : ∀ {xs : List D} {k : List Key}, D.keyL xs = some k → k.length = xs.length
  | [], _, e => by cases e; rfl
  | d :: ds, _, e => by
    unfold D.keyL at e
    cases h1 : d.key with
    | none => rw [h1] at e; cases e
    | some k1 =>
      cases h2 : D.keyL ds with
      | none => rw [h1, h2] at e; cases e
      | some k2 => rw [h1, h2] at e; cases e; simp [keyL_len h2]
theorem rd_keep {H : Hp} {a p : Addr} {u v : HO} (r : Rd H a u) (hp : H p = none) : Rd (upd H p v) a u := by
  rcases r with r | ⟨o, r⟩
  · exact .inl (by rw [upd_ne (ne_of_none r hp)]; exact r)
  · exact .inr ⟨o, by rw [upd_ne (ne_of_none r hp)]; exact r⟩
theorem getT_core {i : Nat} {P : Tau → Ω → Option (List (List Key) × List D)} (hP : PlT G K i P) {H0 : Hp} {σ : L2.St} {H : Hp} {ω : Ω} {τ : Tau} (s : STT G K H0 H σ τ) (t : G.At ω H) {xs : List D} {vs : List V} {k : List Key} {ks : List (List Key)} {ds : List D}
    (r : RepL K im H vs xs) (ek : D.keyL xs = some k) (eP : P τ ω = some (ks, ds)) {p : Addr} (hp : H p = none) :
    ∃ a ws, σ[i]? = some (some (.ref a)) ∧ DGet (upd H p (.tup vs)) a (.ref p) (valV (ks.zip ws) k) ∧ IsD H a ∧ ks.length = ws.length ∧ RepL K im (upd H p (.tup vs)) ws ds := by
  obtain ⟨a, ws, e1, rd, hl, rr⟩ := hP H0 σ H ω τ s t ks ds eP
  refine ⟨a, ws, e1, .inr ⟨ks.zip ws, k, p, rd_keep rd hp, rfl, ?_, rfl⟩, .inr ⟨_, rd⟩, hl, rr.up (.of (Same.new hp))⟩
  rw [upd_same, r.key ek]
theorem inT_core {i : Nat} {b : Bool → Bool} {P : Tau → Ω → Option (List (List Key) × List D)} (hP : PlT G K i P) (hr : DA G K W tr Fr) :
    DE G K W (fun σ H Q => tTup tr σ H fun y H1 => tVar i σ H1 fun x H2 => ∃ a o, x = .ref a ∧ DGet H2 a y o ∧ Q (.bl (b o.isSome)) H2) (eDiT b P Fr) := by
  intro H0 σ H ω τ s t Q h
  unfold eDiT at h
  refine hr H0 σ H ω τ s t _ (Res.imp (Res.bind h) (fun xs ω1 H1 k1 t1 h1 vs r => ?_) fun _ _ _ _ _ q => q)
  have h2 := h1.mono k1
  cases ek : D.keyL xs with
  | none => rw [ek] at h2; exact h2.elim
  | some k =>
  cases eP : P τ ω1 with
  | none => rw [ek, eP] at h2; exact h2.elim
  | some q =>
  obtain ⟨ks, ds⟩ := q
  rw [ek, eP] at h2
  dsimp only at h2
  split at h2
  case isFalse => exact h2.elim
  rename_i hk
  refine ⟨by rw [r.length, ← keyL_len ek]; exact line1000 hk, fun p hp => ?_⟩
  obtain ⟨a, ws, e1, g, _, hl, rr⟩ := getT_core hP (s.step t k1) t1 r ek eP hp
  have sm : Same H1 (upd H1 p (.tup vs)) := Same.new hp
  refine ⟨_, e1, a, _, rfl, g, ?_⟩
  have e : (valV (ks.zip ws) k).isSome = (lkp ks ds k).isSome := by
    cases el : lkp ks ds k with
    | none => rw [(lkp_val k hl rr).2 el]; rfl
    | some z => obtain ⟨v, hv, _⟩ := (lkp_val k hl rr).1 z el; rw [hv]; rfl
  rw [e]
  exact h2 _ (.of sm) (At.same t1 sm) _ (.bl _)
theorem de_diT {i : Nat} {P : Tau → Ω → Option (List (List Key) × List D)} (hP : PlT G K i P) (hr : DA G K W tr Fr) : DE G K W (tDIn (tTup tr) (tVar i)) (eDiT (fun b => b) P Fr) := inT_core hP hr
def sNewT (i : Nat) : S Ω := fun τ ω => some (.nx (τ.set i (some (.ow (.T []) []))), ω)
theorem ds_newT {i : Nat} : DS G K W (tAsg tDNewT (gName i)) (sNewT i) := by
  intro H0 σ H ω τ s t D h p hp
  exact h _ _ (.of (Same.new hp)) (s.setW (kd := .T []) t hp (.of (Same.new hp)) upd_same .nil rfl i) (At.same t (Same.new hp))
/-- what e gives, finished -/
def tFrzW (te : TE) : TE := fun σ H Q => te σ H fun v H1 => ∃ a u, v = .ref a ∧ H1 a = some u ∧ Mut (some u) ∧ ∀ o, Q (.ref a) (upd H1 a (.frz o u))
theorem pe_frzW {X : Cx} {e : Expr} {te : TE} (h : PE X e te) : PE X e (tFrzW te) :=
  ⟨fun pins s σ H Q I q => thn (h.run pins s σ H _ I q) fun _ _ ⟨v, H1, J, r, a, u, ev, ha, mu, q⟩ => by
    subst ev
    obtain ⟨o, J'⟩ := J.lock ha mu
    exact ⟨_, _, J', r, q o⟩⟩
def OKd.fin : OKd → List D → D
  | .L, xs => .lst xs
  | .K ks, xs => .dic ks xs
  | .T ks, xs => .dit ks xs
def sRetW (i : Nat) : S Ω := fun τ ω => match τ[i]? with
  | some (some (.ow k xs)) => some (.rt (k.fin xs), ω)
  | _ => none
theorem OKd.mut (k : OKd) (vs : List V) : Mut (some (k.ho vs)) := by cases k <;> trivial
theorem OKd.rep {H : Hp} {l : Addr} {k : OKd} {vs : List V} {xs : List D} {o : Obj} (h : H l = some (.frz o (k.ho vs))) (r : RepL K im H vs xs) (hl : k.len xs.length) : Rep K im H (.ref l) (k.fin xs) := by
  cases k with
  | L => exact .lst ⟨o, h⟩ r
  | K ks => exact .dic h (by rw [r.length]; exact hl) r
  | T ks => exact .dit h (by rw [r.length]; exact hl) r
theorem ds_retW {i : Nat} : DS G K W (tRet (tFrzW (tVar i))) (sRetW i) := by
  intro H0 σ H ω τ s t D h
  unfold sRetW at h
  split at h
  · rename_i k xs hx
    obtain ⟨l, vs, e, h1, h2, h3, h4, h5⟩ := s.getW hx
    refine ⟨_, e, l, _, rfl, h1, k.mut vs, fun o => ?_⟩
    have sb : Sb im H (upd H l (.frz o (k.ho vs))) := fun b u eb st => by
      have : b ≠ l := fun q => by subst q; rw [h1] at eb; cases eb; exact OKd.nst st
      rw [upd_ne this]; exact eb
    refine h _ _ sb (fun b u eb nf => ?_) (G.keep t (fun b u f eb => ?_) sb) (OKd.rep upd_same (h2.up sb) h5)
    · have k := s.fr b u eb nf
      have : b ≠ l := fun q => by subst q; rw [h3] at eb; cases eb
      rw [upd_ne this]; exact k
    · have : b ≠ l := fun q => h4 (q ▸ f)
      rw [upd_ne this]; exact eb
  · exact h.elim
end
end DL
namespace DL
open PySem PySem.Spec PyProof.Rows L2
def kD' : Key → D
  | .inl i => .int i
  | .inr x => .str x
theorem Rep.ofKey {K : PySem.W.Frag} {im : Addr → Bool} {H : Hp} (k : Key) : Rep K im H (kV k) (kD' k) := by cases k with
  | inl i => exact .int i
  | inr x => exact .str x
theorem RepL.ofKeys {K : PySem.W.Frag} {im : Addr → Bool} {H : Hp} : ∀ ks : List Key, RepL K im H (ks.map kV) (ks.map kD')
  | [] => .nil
  | k :: ks => .cons (.ofKey k) (RepL.ofKeys ks)
theorem zip_get {α β : Type} : ∀ {xs : List α} {ys : List β} {i : Nat} {a : α}, xs.length = ys.length → xs[i]? = some a → ∃ b, (xs.zip ys)[i]? = some (a, b)
  | [], _, _, _, _, h => by simp at h
  | x :: xs, [], _, _, hl, _ => by simp at hl
  | x :: xs, y :: ys, 0, a, _, h => by simp at h; subst h; exact ⟨y, rfl⟩
  | x :: xs, y :: ys, i + 1, a, hl, h => by
    obtain ⟨b, e⟩ := zip_get (xs := xs) (ys := ys) (i := i) (by simpa using hl) (by simpa using h)
    exact ⟨b, by simpa using e⟩
section
variable {im : Addr → Bool} {Ω : Type} {G : Gam im Ω} {K : PySem.W.Frag} {W : WX} {ta tk te : TE} {Fa Fk Fe : E Ω D} {tr : TA} {Fr : E Ω (List D)}
def D.keysOf : D → Option (List D)
  | .dic ks _ => some (ks.map kD')
  | .dit ks _ => some (ks.map fun k => .tup (k.map kD'))
  | _ => none
def iKy (a : E Ω D) : E Ω (List D) := fun τ ω => (a τ ω).bind fun x ω1 => .ofO x.keysOf ω1
theorem di_keys (he : DE G K W te Fe) : DI G K W (iKeys te) (iKy Fe) := by
  intro H0 σ H ω τ s t' R h
  refine he H0 σ H ω τ s t' _ (Res.imp (Res.bind h) (fun x ω1 H1 k1 t1 h1 v r => ?_) fun _ _ _ _ _ q => q)
  cases r with
  | @dic a o ks vs ds a1 a2 a3 =>
    refine ⟨a, o, rfl, .inl ⟨_, a1, h1 H1 k1 t1 _ fun i H' sb => ⟨fun d hd => ?_, fun hi => ?_⟩⟩⟩
    · have hH := sb a _ a1 trivial
      rw [List.getElem?_map] at hd
      obtain ⟨k, hk, rfl⟩ := Option.map_eq_some_iff.mp hd
      obtain ⟨b, eb⟩ := zip_get a2 hk
      refine ⟨⟨hH, (List.getElem?_eq_some_iff.mp eb).1⟩, fun x H3 y => ?_⟩
      obtain ⟨rfl, k', v, ek, rfl⟩ := y
      rw [eb] at ek; cases ek
      exact ⟨Same.refl _, .ofKey k⟩
    · refine ⟨sb a _ a1 trivial, ?_⟩
      rw [List.length_map] at hi
      rw [List.length_zip]; omega
  | @dit a o ks vs ds a1 a2 a3 =>
    refine ⟨a, o, rfl, .inr ⟨_, a1, h1 H1 k1 t1 _ fun i H' sb => ⟨fun d hd => ?_, fun hi => ?_⟩⟩⟩
    · have hH := sb a _ a1 trivial
      rw [List.getElem?_map] at hd
      obtain ⟨k, hk, rfl⟩ := Option.map_eq_some_iff.mp hd
      obtain ⟨b, eb⟩ := zip_get a2 hk
      refine ⟨⟨hH, (List.getElem?_eq_some_iff.mp eb).1⟩, fun x H3 y => ?_⟩
      obtain ⟨rfl, k', v, q, ek, rfl, hq⟩ := y
      rw [eb] at ek; cases ek
      exact ⟨Same.refl _, .tup (hq) (RepL.ofKeys k)⟩
    · refine ⟨sb a _ a1 trivial, ?_⟩
      rw [List.length_map] at hi
      rw [List.length_zip]; omega
  | _ => exact h1.elim
def eGetT (a : E Ω D) (r : E Ω (List D)) : E Ω D := fun τ ω => (a τ ω).bind fun x ω1 => match x with
  | .dit ks ds => (r τ ω1).bind fun xs ω2 => match D.keyL xs with
    | some k => if k.length ≤ 1000 then .ok ((lkp ks ds k).getD .non) ω2 else .no
    | none => .no
  | _ => .no
theorem de_getT (ha : DE G K W ta Fa) (hr : DA G K W tr Fr) : DE G K W (tDGet1 ta (tTup tr)) (eGetT Fa Fr) := by
  intro H0 σ H ω τ s t Q h
  refine ha H0 σ H ω τ s t _ (Res.imp (Res.bind h) (fun x ω1 H1 k1 t1 h1 v r => ?_) fun _ _ _ _ _ q => q)
  have h2 := h1.mono k1
  cases r with
  | @dit a o ks vs ds a1 a2 a3 =>
    refine ⟨a, rfl, .inr ⟨_, .inr ⟨_, a1⟩⟩, ?_⟩
    refine hr H0 σ H1 ω1 τ (s.step t k1) t1 _ (Res.imp (Res.bind h2) (fun xs ω2 H2 k2 t2 h3 us r2 => ?_) fun _ _ _ _ _ q => q)
    have h4 := h3.mono k2
    cases ek : D.keyL xs with
    | none => rw [ek] at h4; exact h4.elim
    | some k =>
    rw [ek] at h4
    dsimp only at h4
    split at h4
    case isFalse => exact h4.elim
    rename_i hk
    refine ⟨by rw [r2.length, ← keyL_len ek]; exact line1000 hk, fun p hp => ?_⟩
    have sm : Same H2 (upd H2 p (.tup us)) := Same.new hp
    have sb : Sb im H1 (upd H2 p (.tup us)) := (k2.sb t1).trans (.of sm)
    have rr := a3.up sb
    refine ⟨_, .inr ⟨_, k, p, .inr ⟨o, sb a _ a1 trivial⟩, rfl, by rw [upd_same, r2.key ek], rfl⟩, ?_⟩
    refine h4 _ (.of sm) (At.same t2 sm) _ ?_
    cases el : lkp ks ds k with
    | none => rw [(lkp_val k a2 rr).2 el]; exact .non
    | some z => obtain ⟨v, hv, rv⟩ := (lkp_val k a2 rr).1 z el; rw [hv]; exact rv
  | _ => exact h2.elim
end
abbrev OW := OKd × List D
def owG (im : Addr → Bool) (K : PySem.W.Frag) (p : Addr) : Gam im OW where
  At := fun ω H => ∃ vs, H p = some (ω.1.ho vs) ∧ RepL K im H vs ω.2 ∧ ω.1.len ω.2.length
  FP := fun b => b = p
  obj := .ref p
  keep := fun ⟨vs, h1, h2, h3⟩ k sb => ⟨vs, k _ _ rfl h1, h2.up sb, h3⟩
  nost := fun ⟨vs, h1, _⟩ b o f e s => by subst f; rw [h1] at e; cases e; exact OKd.nst s
  trk := fun ⟨vs, h1, _⟩ b f e => by subst f; rw [h1] at e; cases e
section
variable {im : Addr → Bool} {K : PySem.W.Frag} {W : WX} {p : Addr} {tv tk : TE} {Fv Fk : E OW D} {tr : TA} {Fr : E OW (List D)}
def sPutTs (i : Nat) (r : E OW (List D)) (v : E OW D) : S OW := fun τ ω => match τ[i]? with
  | some (some .src) => withE v (fun d => withE r fun xs τ ω => match D.keyL xs, ω with
    | some key, (.T ks, ds) => if ks.length ≤ 100000 ∧ key.length ≤ 1000 then some (.nx τ, (.T (putKs ks key), putDs ks ds key d)) else none
    | _, _ => none) τ ω
  | _ => none
theorem ow_chg {H0 H : Hp} {σ : L2.St} {τ : Tau} {ω ω' : OW} {vs : List V} (s : STT (owG im K p) K H0 H σ τ) (t : (owG im K p).At ω H) (r : RepL K im H vs ω'.2) (hl : ω'.1.len ω'.2.length) :
    STT (owG im K p) K H0 (upd H p (ω'.1.ho vs)) σ τ ∧ (owG im K p).At ω' (upd H p (ω'.1.ho vs)) ∧ Sb im H (upd H p (ω'.1.ho vs)) := by
  obtain ⟨us, h1, h2, h3⟩ := id t
  have sb : Sb im H (upd H p (ω'.1.ho vs)) := fun b o e st => by
    have : b ≠ p := fun q => by subst q; rw [h1] at e; cases e; exact OKd.nst st
    rw [upd_ne this]; exact e
  refine ⟨s.step t fun b o e nf => ?_, ⟨vs, upd_same, r.up sb, hl⟩, sb⟩
  have : b ≠ p := nf
  rw [upd_ne this]; exact e
theorem ds_putTs {i : Nat} (hr : DA (owG im K p) K W tr Fr) (hv : DE (owG im K p) K W tv Fv) : DS (owG im K p) K W (sDPut (tVar i) (tTup tr) tv) (sPutTs i Fr Fv) := by
  intro H0 σ H ω τ s t D' h
  unfold sPutTs at h
  split at h
  case h_2 => exact h.elim
  rename_i hτ
  refine hv H0 σ H ω τ s t _ (Res.imp (withE_kx s t h) (fun d ω1 H1 k1 t1 h1 v r => ?_) fun _ _ _ _ _ q => q)
  have s1 := s.step t k1
  refine ⟨_, s1.getS hτ, ?_⟩
  refine hr H0 σ H1 ω1 τ s1 t1 _ (Res.imp (withE_kx s1 t1 h1) (fun xs ω2 H2 k2 t2 h2 vs rx => ?_) fun _ _ _ _ _ q => q)
  have s2 := s1.step t1 k2
  obtain ⟨kd, ds⟩ := ω2
  cases ek : D.keyL xs with
  | none => rw [ek] at h2; exact h2.elim
  | some key =>
  rw [ek] at h2
  cases kd with
  | T ks =>
    dsimp only at h2
    split at h2
    case isFalse => exact h2.elim
    rename_i hsz
    refine ⟨by rw [rx.length, ← keyL_len ek]; exact line1000 hsz.2, fun q hq => ?_⟩
    have sm : Same H2 (upd H2 q (.tup vs)) := Same.new hq
    have s3 := s2.step t2 (.of sm)
    have t3 := At.same t2 sm
    obtain ⟨ws, hp3, rws, hlen⟩ := id t3
    have hkw : ks.length = ws.length := by rw [rws.length]; exact hlen
    have sb12 : Sb im H1 (upd H2 q (.tup vs)) := (k2.sb t1).trans (.of sm)
    obtain ⟨ws', ep, elen, rr⟩ := put_ok key hkw rws (r.up sb12)
    obtain ⟨s4, t4, sb⟩ := ow_chg (ω' := (.T (putKs ks key), putDs ks ds key d)) s3 t3 rr (put_len key d hlen)
    refine ⟨p, _, rfl, .inr ⟨ks.zip ws, key, q, hp3, rfl, by rw [upd_same, rx.key ek], by rw [List.length_zip, sizeLine_eq]; omega, rfl⟩, ?_⟩
    rw [ep]
    exact h2 σ _ ((Sb.of sm).trans sb) s4 t4
  | _ => exact h2.elim
end
section
variable {im : Addr → Bool} {Ω : Type} {G : Gam im Ω} {K : PySem.W.Frag} {W : WX} {ta : TE} {Fa : E Ω D} {tr : TA} {Fr : E Ω (List D)}
/-- arguments, that of place j being what slot i holds -/
def DAJ (G : Gam im Ω) (K : PySem.W.Frag) (W : WX) (ta : TA) (i j : Nat) (F : E Ω (List D)) : Prop := ∀ H0 σ H ω τ v0, STT G K H0 H σ τ → G.At ω H → σ[i]? = some (some v0) → ∀ Q : List V → Hp → Prop,
  Res G (F τ ω) H (fun ds _ H' => ∀ ws, RepL K im H' ws ds → Q (ws.take j ++ v0 :: ws.drop j) H') (kX G K W σ) → ta σ H Q
theorem daj_here {i : Nat} (hr : DA G K W tr Fr) : DAJ G K W (tCons (tVar i) tr) i 0 Fr := by
  intro H0 σ H ω τ v0 s t hv Q h
  exact ⟨v0, hv, hr H0 σ H ω τ s t _ (Res.imp h (fun ds ω1 H1 k1 t1 h1 vs r => by simpa using h1 vs r) fun _ _ _ _ _ q => q)⟩
theorem daj_next {i j : Nat} (ha : DE G K W ta Fa) (hr : DAJ G K W tr i j Fr) : DAJ G K W (tCons ta tr) i (j + 1) (aCons Fa Fr) := by
  intro H0 σ H ω τ v0 s t hv Q h
  refine ha H0 σ H ω τ s t _ (Res.imp (Res.bind h) (fun x ω1 H1 k1 t1 h1 v r => ?_) fun _ _ _ _ _ q => q)
  refine hr H0 σ H1 ω1 τ v0 (s.step t k1) t1 hv _ (Res.imp (Res.bind (h1.mono k1)) (fun xs ω2 H2 k2 t2 h2 ws r2 => ?_) fun _ _ _ _ _ q => q)
  have := (h2.mono k2) H2 .refl t2 (v :: ws) (.cons (r.up (k2.sb t1)) r2)
  simpa using this
/-- the thing itself, which stands in slot i, is handed on as argument j -/
theorem dc_WJ {P : Type} {Γ : P → Gam im Ω} {p : P} {n m i j : Nat} {F : List D → Ω → R Ω D} {tr : TA} {Fr : E Ω (List D)} (hr : DAJ (Γ p) K W tr i j Fr) (hn : AN Fr m) (hm : m + 1 = n := by rfl) (hj : j ≤ m := by decide) :
    DE (Γ p) K W (tCall (spW K Γ n j F) [] E0 tr) (cW F i Fr) := by
  intro H0 σ H ω τ s t Q h
  unfold cW at h
  split at h
  · rename_i hx
    have hr' := hr H0 σ H ω τ _ s t (s.getS hx)
    cases e0 : Fr τ ω with
    | ok xs ω1 =>
      have hl := hn τ ω xs ω1 e0
      rw [e0] at h hr'
      refine hr' _ fun H1 k1 t1 vs r => ?_
      have h1 : Res (Γ p) (nox (F xs ω1)) H (kD (Γ p) K Q) (kX (Γ p) K W σ) := h
      refine ⟨?_, p, ω1, vs, xs, by rw [List.append_nil], t1, r, ?_⟩
      · rw [List.append_nil, List.length_append, List.length_cons, List.length_take, List.length_drop, r.length, hl]
        omega
      have h2 := h1.mono k1
      cases e : F xs ω1 with
      | ok d u => rw [e] at h2; exact h2
      | ex x u => rw [e] at h2; exact h2.elim
      | no => rw [e] at h2; exact h2.elim
    | ex x ω1 =>
      rw [e0] at h hr'
      exact hr' _ h
    | no => rw [e0] at h; exact h.elim
  · exact h.elim
/-- all but the thing at l stands -/
theorem STT.chg {H0 H H' : Hp} {σ : L2.St} {τ : Tau} {ω : Ω} (s : STT G K H0 H σ τ) (t : G.At ω H) {i : Nat} {l : Addr} {kd kd' : OKd} {vs : List V} {xs ys : List D} (h : τ[i]? = some (some (.ow kd xs))) (e : σ[i]? = some (some (.ref l)))
    (fr : ∀ b o, H b = some o → b ≠ l → H' b = some o) (new : H' l = some (kd'.ho vs)) (r : RepL K im H' vs ys) (hlen : kd'.len ys.length) : STT G K H0 H' σ (τ.set i (some (.ow kd' ys))) ∧ G.At ω H' ∧ Sb im H H' := by
  obtain ⟨l', ws', e', h1, h2, h3, h4, h5⟩ := s.getW h
  have el : l' = l := by rw [e] at e'; cases e'; rfl
  subst el
  have sb : Sb im H H' := fun b o eb st => by
    have : b ≠ l' := fun q => by subst q; rw [h1] at eb; cases eb; exact OKd.nst st
    exact fr b o eb this
  have at' : G.At ω H' := G.keep t (fun b o f eb => by
    have : b ≠ l' := fun q => h4 (q ▸ f)
    exact fr b o eb this) sb
  refine ⟨⟨by simp [s.len], fun j w c e1 e2 => ?_, fun j k a _ _ xs' zs hjk e1 e2 e3 e4 => ?_, fun b o eb nf => ?_⟩, at', sb⟩
  · by_cases hj : i = j
    · subst hj
      have hi : i < τ.length := (List.getElem?_eq_some_iff.mp h).1
      rw [List.getElem?_set_self hi] at e2
      cases e2
      rw [e] at e1; cases e1
      exact .ow new r h3 h4 hlen
    · rw [List.getElem?_set_ne hj] at e2
      have q := s.ok j w c e1 e2
      cases q with
      | un => exact .un
      | d r => exact .d (r.up sb)
      | @ow l2 k2 vs2 xs2 a1 a2 a3 a4 a5 =>
        have ne : l2 ≠ l' := fun q => by
          subst q
          exact s.dj i j l2 _ _ hj e h e1 e2
        exact .ow (fr _ _ a1 ne) (a2.up sb) a3 a4 a5
      | src => exact .src
  · have a1 : ∃ k2 xs2, τ[j]? = some (some (.ow k2 xs2)) := by
      by_cases hj : i = j
      · subst hj; exact ⟨_, _, h⟩
      · rw [List.getElem?_set_ne hj] at e2; exact ⟨_, _, e2⟩
    have a2 : ∃ k2 xs2, τ[k]? = some (some (.ow k2 xs2)) := by
      by_cases hj : i = k
      · subst hj; exact ⟨_, _, h⟩
      · rw [List.getElem?_set_ne hj] at e4; exact ⟨_, _, e4⟩
    obtain ⟨_, _, a1⟩ := a1
    obtain ⟨_, _, a2⟩ := a2
    exact s.dj j k a _ _ hjk e1 a1 e3 a2
  · have k := s.fr b o eb nf
    have : b ≠ l' := fun q => by subst q; rw [h3] at eb; cases eb
    exact fr b o k this
/-- f(.., d, ..), d an own dict or list that f may change; its value is stored in slot z -/
def sCallW (F : List D → OW → R OW D) (i : Nat) (a : E Ω (List D)) (B : D → Tau → Option Tau) : S Ω := fun τ ω => match τ[i]? with
  | some (some (.ow kd xs)) => withE a (fun ds τ ω1 => match nox (F ds (kd, xs)) with
    | .ok d (kd', ys) => (B d (τ.set i (some (.ow kd' ys)))).map fun τ' => (.nx τ', ω1)
    | _ => none) τ ω
  | _ => none
theorem callW_core {n m i j : Nat} {F : List D → OW → R OW D} {tr : TA} {Fr : E Ω (List D)} {B : D → Tau → Option Tau} (hr : DAJ G K W tr i j Fr) (hn : AN Fr m) (hm : m + 1 = n) (hj : j ≤ m)
    {H0 : Hp} {σ : L2.St} {H : Hp} {ω : Ω} {τ : Tau} (s : STT G K H0 H σ τ) (t : G.At ω H) {D' : Ends} (h : KS G K H0 H D' W (sCallW F i Fr B τ ω)) :
    ∀ Q : VK, (∀ v H1 d τ1 τ2 ω1, Sb im H H1 → Rep K im H1 v d → STT G K H0 H1 σ τ1 → G.At ω1 H1 → B d τ1 = some τ2 → KS G K H0 H1 D' W (some (.nx τ2, ω1)) → Q v H1) → tCall (spW K (owG im K) n j F) [] E0 tr σ H Q := by
  intro Q fin
  unfold sCallW at h
  split at h
  case h_2 => exact h.elim
  rename_i kd xs hτ
  obtain ⟨l, ws, el, hl, rws, h0, nf, hlen⟩ := s.getW hτ
  have hr' := hr H0 σ H ω τ _ s t el
  have h' := withE_kx s t h
  cases e0 : Fr τ ω with
  | ok ds ω1 =>
    have hl' := hn τ ω ds ω1 e0
    rw [e0] at h' hr'
    refine hr' _ fun H1 k1 t1 vs r => ?_
    have h1 := h' H1 k1 t1
    dsimp only at h1
    have s1 := s.step t k1
    have hl1 : H1 l = some (kd.ho ws) := k1 l _ hl nf
    have rws1 := rws.up (k1.sb t)
    refine ⟨?_, l, (kd, xs), vs, ds, by rw [List.append_nil]; rfl, ⟨ws, hl1, rws1, hlen⟩, r, ?_⟩
    · rw [List.append_nil, List.length_append, List.length_cons, List.length_take, List.length_drop, r.length, hl']
      omega
    cases eF : F ds (kd, xs) with
    | no => rw [eF] at h1; exact h1.elim
    | ex x u => rw [eF] at h1; exact h1.elim
    | ok d o2 =>
      obtain ⟨kd', ys⟩ := o2
      rw [eF] at h1
      intro H2 k2 t2 v rv
      obtain ⟨us, hn2, rn2, ln2⟩ := t2
      obtain ⟨s3, t3, sb3⟩ := s1.chg (H' := H2) t1 hτ el (fun b o e ne => k2 b o e ne) hn2 rn2 ln2
      have h2 : KS G K H0 H1 D' W ((B d (τ.set i (some (.ow kd' ys)))).map fun τ' => (.nx τ', ω1)) := h1
      cases eB : B d (τ.set i (some (.ow kd' ys))) with
      | none => rw [eB] at h2; exact h2.elim
      | some τ2 =>
        rw [eB] at h2
        exact fin v H2 d _ τ2 ω1 ((k1.sb t).trans sb3) rv s3 t3 eB (h2.mono sb3)
  | ex x ω1 => rw [e0] at h' hr'; exact hr' _ h'
  | no => rw [e0] at h'; exact h'.elim
theorem ds_callW {n m i j : Nat} {F : List D → OW → R OW D} {tr : TA} {Fr : E Ω (List D)} (hr : DAJ G K W tr i j Fr) (hn : AN Fr m) (hm : m + 1 = n := by rfl) (hj : j ≤ m := by decide) :
    DS G K W (tDrop (tCall (spW K (owG im K) n j F) [] E0 tr)) (sCallW F i Fr fun _ τ => some τ) := by
  intro H0 σ H ω τ s t D' h
  refine callW_core hr hn hm hj s t h _ fun v H1 d τ1 τ2 ω1 sb rv s1 t1 eB ks => ?_
  cases eB
  exact ks σ H1 .refl s1 t1
end
section
variable {im : Addr → Bool} {P : Program} {w : World} {K : PySem.W.Frag} {mg : Str → Option Value} {base : Heap}
def cellsJ (j : Nat) (ds : List D) : List Cell := (ds.take j).map .d ++ .src :: (ds.drop j).map .d
theorem cellsJ_get {j i : Nat} {ds : List D} {c : Cell} (h : (cellsJ j ds)[i]? = some c) (hj : j ≤ ds.length) : (i < j ∧ ∃ d, ds[i]? = some d ∧ c = .d d) ∨ (i = j ∧ c = .src) ∨ (j < i ∧ ∃ d, ds[i - 1]? = some d ∧ c = .d d) := by
  unfold cellsJ at h
  by_cases h1 : i < j
  · rw [List.getElem?_append_left (by simp; omega), List.getElem?_map, List.getElem?_take_of_lt h1] at h
    obtain ⟨d, e, rfl⟩ := Option.map_eq_some_iff.mp h
    exact .inl ⟨h1, d, e, rfl⟩
  · rw [List.getElem?_append_right (by simp; omega)] at h
    have hl : ((ds.take j).map Cell.d).length = j := by simp; omega
    rw [hl] at h
    by_cases h2 : i = j
    · subst h2
      simp at h
      exact .inr (.inl ⟨rfl, h.symm⟩)
    · have e : i - j = (i - j - 1) + 1 := by omega
      rw [e, List.getElem?_cons_succ, List.getElem?_map, List.getElem?_drop] at h
      obtain ⟨d, e2, rfl⟩ := Option.map_eq_some_iff.mp h
      exact .inr (.inr ⟨by omega, d, by rw [← e2]; congr 1; omega, rfl⟩)
theorem vsJ_get {j i : Nat} {ws : List V} {u v : V} (h : (ws.take j ++ u :: ws.drop j)[i]? = some v) (hj : j ≤ ws.length) : (i < j → ws[i]? = some v) ∧ (i = j → v = u) ∧ (j < i → ws[i - 1]? = some v) := by
  refine ⟨fun h1 => ?_, fun h1 => ?_, fun h1 => ?_⟩
  · rw [List.getElem?_append_left (by simp; omega), List.getElem?_take_of_lt h1] at h
    exact h
  · subst h1
    rw [List.getElem?_append_right (by simp; omega)] at h
    have hl : (ws.take i).length = i := by simp; omega
    rw [hl] at h
    simp at h
    exact h.symm
  · rw [List.getElem?_append_right (by simp; omega)] at h
    have hl : (ws.take j).length = j := by simp; omega
    rw [hl] at h
    have e : i - j = (i - j - 1) + 1 := by omega
    rw [e, List.getElem?_cons_succ, List.getElem?_drop] at h
    rw [← h]; congr 1; omega
theorem close_WJ {Ω Pp : Type} {Γ : Pp → Gam im Ω} {N ps : List Str} {j : Nat} {F : S Ω} {t : TS} {vs : List V} {H : Hp} {Q : VK} {Ex : XK} (hd : ∀ p, DS (Γ p) K (fun _ _ _ _ => False) t F) (hj : j < ps.length)
    (h : spW K Γ ps.length j (fun ds ω => nox (runS F (startT N.length (cellsJ j ds)) ω)) vs H Q Ex) : t { nx := fun _ H' => Q .non H', rt := Q } (start N vs) H := by
  obtain ⟨hl, p, ω, ws, ds, rfl, at0, r, h⟩ := h
  replace hd := hd p
  have lw : ws.length + 1 = ps.length := by
    rw [List.length_append, List.length_cons, List.length_take, List.length_drop] at hl; omega
  have jw : j ≤ ws.length := by omega
  have jd : j ≤ ds.length := by rw [← r.length]; exact jw
  have st : STT (Γ p) K H H (start N (ws.take j ++ (Γ p).obj :: ws.drop j)) (startT N.length (cellsJ j ds)) := stt_start (by unfold cellsJ; simp [r.length]) (fun i v c e1 e2 => by
    obtain ⟨g1, g2, g3⟩ := vsJ_get e1 jw
    rcases cellsJ_get e2 jd with ⟨h1, d, ed, rfl⟩ | ⟨h1, rfl⟩ | ⟨h1, d, ed, rfl⟩
    · obtain ⟨v', e3, r'⟩ := r.get ed
      rw [g1 h1] at e3; cases e3
      exact .d r'
    · obtain rfl := g2 h1
      exact .src
    · obtain ⟨v', e3, r'⟩ := r.get ed
      rw [g3 h1] at e3; cases e3
      exact .d r') (fun c hc _ xs e => by
    obtain ⟨i, hi⟩ := List.getElem?_of_mem hc
    rcases cellsJ_get hi jd with ⟨h1, d, ed, rfl⟩ | ⟨h1, rfl⟩ | ⟨h1, d, ed, rfl⟩ <;> cases e) _
  refine hd H (start N (ws.take j ++ (Γ p).obj :: ws.drop j)) H ω _ st at0 _ ?_
  unfold runS at h
  dsimp only at h
  cases q : F (startT N.length (cellsJ j ds)) ω with
  | none => rw [q] at h; exact h.elim
  | some p' =>
    obtain ⟨fl, ω'⟩ := p'
    rw [q] at h
    cases fl with
    | nx τ => exact fun σ' H' _ s t => h H' s.fr t .non .non
    | rt d => exact fun v H' _ k t r => h H' k t v r
    | bk τ => exact h.elim
    | ct τ => exact h.elim
    | rs x τ => exact h.elim
    | rl d => exact h.elim
theorem fn_WxJ {Ω Pp : Type} {Γ : Pp → Gam im Ω} {x qual : Str} {st : Stmt} {f : Addr} {fd : FuncData} {N ps : List Str} {k k' n j : Nat} {F : S Ω} {F' : List D → Ω → R Ω D} (Fn : Fun K x qual st f fd) (Sc : FnScope N ps (defScope st))
    (hj : j < ps.length) (ek : k' = k + 1) (ej : n = ps.length) (eF : F' = fun ds ω => nox (runS F (startT N.length (cellsJ j ds)) ω))
    (hb : ∀ (cdv : Value) (A : Around) (outer : List Env) (s : Shared) (H : Hp) (Ex : XK), Room k (A.deeper (envOfC qual (defScope st) s.heap.objs.size f cdv)) →
      ∃ t, PSs (cxOf CX0 P w K mg base N qual (defScope st) f cdv A outer s H Ex).nox (defBody st) t ∧ ∀ p, DS (Γ p) K (fun _ _ _ _ => False) t F) :
    FnOk P w K mg base CX0 k' f fd ps (spW K Γ n j F') := by
  subst ek ej eF
  refine Fn.ok Sc (fun vs H Q Ex h => h.1) fun cdv A outer s H vs Q Ex hr h => ?_
  obtain ⟨t, ht, hd⟩ := hb cdv A outer s H Ex hr
  exact ⟨t, ht, close_WJ hd hj h⟩
theorem spWJ_no {Ω Pp : Type} {Γ : Pp → Gam im Ω} {n j : Nat} {vs : List V} {H : Hp} {Q : VK} {Ex : XK} : ¬ spW K Γ n j (fun _ _ => .no) vs H Q Ex := fun ⟨_, _, _, _, _, _, _, _, h⟩ => h
end
end DL
namespace DL
open PySem
theorem str_ne_same (s : Str) (h : PyData.strOk s = true) : neD (.str s) (.str s) = some (.bl false) := by
  unfold neD eqB
  simp only [D.py]
  rw [if_pos ⟨by simp only [PyData.canLay0]; exact h, by simp only [PyData.canLay0]; exact h, by simp only [PyData.depth]; omega⟩]
  simp only [PyData.eqv, Option.map_some]
  simp
end DL
namespace DL
open PySem PySem.Spec PyProof.Rows L2
def tPre (i : Nat) (t : TS) : TS := fun D σ H => t D σ H ∨ ∃ a u, σ[i]? = some (some (.ref a)) ∧ H a = some u ∧ Mut (some u) ∧ ∀ o, t D σ (upd H a (.frz o u))
theorem ps_pre {X : Cx} {st : Stmt} {t : TS} (i : Nat) (h : PS X st t) : PS X st (tPre i t) := by
  refine ⟨fun pins s σ H D I q => ?_⟩
  rcases q with q | ⟨a, u, e, ha, mu, q⟩
  · exact h.run pins s σ H D I q
  · obtain ⟨o, J⟩ := I.lock ha mu
    exact h.run pins s σ _ D J (q o)
section
variable {im : Addr → Bool} {Ω : Type} {G : Gam im Ω} {K : PySem.W.Frag} {W : WX} {t : TS} {Ft : S Ω}
theorem STT.fzW {H0 H : Hp} {ω : Ω} {σ : L2.St} {τ : Tau} (s : STT G K H0 H σ τ) (t : G.At ω H) {i : Nat} {l : Addr} {kd : OKd} {vs : List V} {xs : List D} (h : τ[i]? = some (some (.ow kd xs))) (e : σ[i]? = some (some (.ref l))) (hl : H l = some (kd.ho vs)) (r : RepL K im H vs xs) (len : kd.len xs.length) (o : Obj) :
    STT G K H0 (upd H l (.frz o (kd.ho vs))) σ (τ.set i (some (.d (kd.fin xs)))) ∧ G.At ω (upd H l (.frz o (kd.ho vs))) ∧ Sb im H (upd H l (.frz o (kd.ho vs))) := by
  obtain ⟨l', ws', e', h1, h2, h3, h4, h5⟩ := s.getW h
  have el : l' = l := by rw [e] at e'; cases e'; rfl
  subst el
  have sb : Sb im H (upd H l' (.frz o (kd.ho vs))) := fun b u eb st => by
    have : b ≠ l' := fun q => by subst q; rw [hl] at eb; cases eb; exact OKd.nst st
    rw [upd_ne this]; exact eb
  have at' : G.At ω (upd H l' (.frz o (kd.ho vs))) := G.keep t (fun b o f eb => by
    have : b ≠ l' := fun q => h4 (q ▸ f)
    rw [upd_ne this]; exact eb) sb
  refine ⟨⟨by simp [s.len], fun j w c e1 e2 => ?_, fun j k a _ _ xs' zs hjk e1 e2 e3 e4 => ?_, fun b u eb nf => ?_⟩, at', sb⟩
  · by_cases hj : i = j
    · subst hj
      have hi : i < τ.length := (List.getElem?_eq_some_iff.mp h).1
      rw [List.getElem?_set_self hi] at e2
      cases e2
      rw [e] at e1; cases e1
      exact .d (OKd.rep upd_same (r.up sb) len)
    · rw [List.getElem?_set_ne hj] at e2
      have q := s.ok j w c e1 e2
      cases q with
      | un => exact .un
      | d r => exact .d (r.up sb)
      | @ow l2 k2 vs2 xs2 a1 a2 a3 a4 a5 =>
        have ne : l2 ≠ l' := fun q => by
          subst q
          exact s.dj i j l2 _ _ hj e h e1 e2
        exact .ow (by rw [upd_ne ne]; exact a1) (a2.up sb) a3 a4 a5
      | src => exact .src
  · have a : i ≠ j := fun q => by
      subst q
      have hi : i < τ.length := (List.getElem?_eq_some_iff.mp h).1
      rw [List.getElem?_set_self hi] at e2; cases e2
    have b : i ≠ k := fun q => by
      subst q
      have hi : i < τ.length := (List.getElem?_eq_some_iff.mp h).1
      rw [List.getElem?_set_self hi] at e4; cases e4
    rw [List.getElem?_set_ne a] at e2
    rw [List.getElem?_set_ne b] at e4
    exact s.dj j k _ _ _ hjk e1 e2 e3 e4
  · have k := s.fr b u eb nf
    have : b ≠ l' := fun q => by subst q; rw [h3] at eb; cases eb
    rw [upd_ne this]; exact k
def sPre (i : Nat) (F : S Ω) : S Ω := fun τ ω => match τ[i]? with
  | some (some (.ow k xs)) => F (τ.set i (some (.d (k.fin xs)))) ω
  | _ => F τ ω
theorem ds_pre (i : Nat) (h : DS G K W t Ft) : DS G K W (tPre i t) (sPre i Ft) := by
  intro H0 σ H ω τ s t' D ks
  unfold sPre at ks
  split at ks
  · rename_i k xs hx
    obtain ⟨l, vs, e, h1, r, _, _, hlen⟩ := s.getW hx
    refine .inr ⟨l, _, e, h1, k.mut vs, fun o => ?_⟩
    obtain ⟨s2, t2, sb⟩ := s.fzW t' hx e h1 r hlen o
    exact h H0 σ _ ω _ s2 t2 D (ks.mono sb)
  · exact .inl (h H0 σ H ω τ s t' D ks)
end
end DL
namespace DL
open Sh
def sub : Sh → Nat → Nat → Option Sh
  | .o, i, j => if i = 0 ∧ j = 1 then some .o else none
  | .n l r, i, j => if i = 0 ∧ j = l.size + r.size then some (.n l r) else if j ≤ l.size then sub l i j else if l.size ≤ i then sub r (i - l.size) (j - l.size) else none
theorem sub_bd : ∀ (e : Sh) (i j : Nat) (x : Sh), sub e i j = some x → i < j ∧ j ≤ e.size
  | .o, i, j, x, h => by
    unfold sub at h
    split at h
    · simp only [size]; omega
    · cases h
  | .n l r, i, j, x, h => by
    have := size_pos l
    have := size_pos r
    unfold sub at h
    simp only [size]
    split at h
    · omega
    · split at h
      · have := sub_bd l i j x h; omega
      · split at h
        · have := sub_bd r _ _ x h; omega
        · cases h
end DL
namespace DL
open PySem PySem.Spec PyProof.Rows L2
section
variable {κ : Type} [DecidableEq κ]
theorem any_key : ∀ (ks : List κ) (k : κ), ks.any (fun k' => decide (k' = k)) = true ↔ k ∈ ks
  | [], k => by simp
  | k' :: ks, k => by
    rw [List.any_cons, Bool.or_eq_true, any_key ks k, List.mem_cons, decide_eq_true_eq]
    exact or_congr_left eq_comm
theorem lkp_rep (k : κ) (d : D) : ∀ (ks : List κ) (ds : List D) (k' : κ), ks.length = ds.length → lkp ks (repD ks ds k d) k' = if k = k' ∧ k ∈ ks then some d else lkp ks ds k'
  | [], ds, k', _ => by simp [lkp]
  | a :: ks, [], k', h => by simp at h
  | a :: ks, b :: ds, k', h => by
    simp only [repD, lkp]
    rw [lkp_rep k d ks ds k' (by simpa using h)]
    by_cases e : a = k'
    · subst e
      by_cases e2 : a = k
      · subst e2; simp
      · simp [e2, Ne.symm e2]
    · rw [if_neg e, if_neg e]
      by_cases e2 : k = k'
      · subst e2
        simp [e, Ne.symm e]
      · simp [e2]
theorem lkp_app (k : κ) (d : D) : ∀ (ks : List κ) (ds : List D) (k' : κ), ks.length = ds.length → k ∉ ks → lkp (ks ++ [k]) (ds ++ [d]) k' = if k = k' then some d else lkp ks ds k'
  | [], [], k', _, _ => by simp [lkp]
  | [], _ :: _, k', h, _ => by simp at h
  | a :: ks, [], k', h, _ => by simp at h
  | a :: ks, b :: ds, k', h, hk => by
    rw [List.mem_cons, not_or] at hk
    simp only [List.cons_append, lkp]
    rw [lkp_app k d ks ds k' (by simpa using h) hk.2]
    by_cases e : a = k'
    · subst e; simp [hk.1]
    · simp [e]
theorem lkp_put (k : κ) (d : D) (ks : List κ) (ds : List D) (k' : κ) (h : ks.length = ds.length) : lkp (putKs ks k) (putDs ks ds k d) k' = if k = k' then some d else lkp ks ds k' := by
  unfold putKs putDs
  by_cases e : k ∈ ks
  · rw [if_pos ((any_key ks k).mpr e), if_pos ((any_key ks k).mpr e), lkp_rep k d ks ds k' h]
    simp [e]
  · rw [if_neg (fun q => e ((any_key ks k).mp q)), if_neg (fun q => e ((any_key ks k).mp q)), lkp_app k d ks ds k' h e]
theorem putKs_le (ks : List κ) (k : κ) : (putKs ks k).length ≤ ks.length + 1 := by
  unfold putKs; split <;> simp
end
section
variable {Ω : Type} {τ : Tau} {ω : Ω}
theorem sw_newT {i : Nat} {P} : sw ((sNewT i : S Ω) τ ω) P = P (.nx (τ.set i (some (.ow (.T []) [])))) ω := by with_unfolding_all rfl
theorem sw_retW {i : Nat} {P} {k : OKd} {xs : List D} (h : τ[i]? = some (some (.ow k xs))) : sw ((sRetW i : S Ω) τ ω) P = P (.rt (k.fin xs)) ω := by
  unfold sRetW; rw [h]; with_unfolding_all rfl
theorem sw_pre {i : Nat} {F : S Ω} {P} {k : OKd} {xs : List D} (h : τ[i]? = some (some (.ow k xs))) : sw (sPre i F τ ω) P = sw (F (τ.set i (some (.d (k.fin xs)))) ω) P := by
  unfold sPre; rw [h]
theorem sw_callW {F : List D → OW → R OW D} {i : Nat} {a : E Ω (List D)} {B : D → Tau → Option Tau} {P} {kd : OKd} {xs : List D} (h : τ[i]? = some (some (.ow kd xs)))
    (k : (a τ ω).wp (fun ds ω1 => (F ds (kd, xs)).wp (fun d o2 => ∃ τ', B d (τ.set i (some (.ow o2.1 o2.2))) = some τ' ∧ P (.nx τ') ω1) X0) (fun x ω1 => P (.rs x τ) ω1)) : sw (sCallW F i a B τ ω) P := by
  unfold sCallW
  rw [h]
  rw [sw_withE]
  refine k.mono (fun ds ω1 h1 => ?_) fun _ _ h => h
  cases e : F ds (kd, xs) with
  | ok d o2 =>
    obtain ⟨kd', ys⟩ := o2
    rw [e, wp_ok] at h1
    obtain ⟨τ', e1, h2⟩ := h1
    dsimp only [nox] at e1 ⊢
    rw [e1]
    with_unfolding_all exact h2
  | ex x u => rw [e] at h1; with_unfolding_all exact h1.elim
  | no => rw [e] at h1; with_unfolding_all exact h1.elim
theorem pT_d {i : Nat} {ks : List (List Key)} {ds : List D} (h : τ[i]? = some (some (.d (.dit ks ds)))) : pT i τ ω = some (ks, ds) := by unfold pT; rw [h]
theorem wp_diT {b : Bool → Bool} {p : Tau → Ω → Option (List (List Key) × List D)} {r : E Ω (List D)} {P X} {ks : List (List Key)} {ds : List D} (h : ∀ ω, p τ ω = some (ks, ds))
    (k : (r τ ω).wp (fun xs ω1 => ∃ k, D.keyL xs = some k ∧ k.length ≤ 1000 ∧ P (.bl (b (lkp ks ds k).isSome)) ω1) X) : (eDiT b p r τ ω).wp P X := by
  unfold eDiT
  rw [wp_bind]
  refine k.mono (fun xs ω1 h1 => ?_) fun _ _ h => h
  obtain ⟨k, e1, e2, h1⟩ := h1
  rw [e1, h ω1]
  dsimp only
  rw [if_pos e2, wp_ok]
  exact h1
end
section
variable {τ : Tau} {ω : OW}
theorem sw_putTs {i : Nat} {r : E OW (List D)} {v : E OW D} {P} (h : τ[i]? = some (some .src))
    (k : (v τ ω).wp (fun d ω1 => (r τ ω1).wp (fun xs ω2 => ∃ key ks ds, D.keyL xs = some key ∧ ω2 = (OKd.T ks, ds) ∧ ks.length ≤ 100000 ∧ key.length ≤ 1000 ∧ P (.nx τ) (OKd.T (putKs ks key), putDs ks ds key d)) (fun x ω1 => P (.rs x τ) ω1)) (fun x ω1 => P (.rs x τ) ω1)) : sw (sPutTs i r v τ ω) P := by
  unfold sPutTs
  rw [h]
  simp only [sw_withE]
  refine k.mono (fun d ω1 h1 => R.wp.mono h1 (fun xs ω2 h2 => ?_) fun _ _ h => h) fun _ _ h => h
  obtain ⟨key, ks, ds, e1, rfl, e2, e3, h2⟩ := h2
  rw [e1]
  dsimp only
  rw [if_pos ⟨e2, e3⟩, sw_some]
  exact h2
end
end DL
namespace DL
open Sh
/-- all lumps, with their parts -/
def lm : Sh → Nat → List (Nat × Nat × Sh)
  | .o, p => [(p, p + 1, .o)]
  | .n l r, p => (p, p + (l.size + r.size), .n l r) :: (lm l p ++ lm r (p + l.size))
theorem lm_cons : ∀ (s : Sh) (p : Nat), ∃ r, lm s p = (p, p + s.size, s) :: r
  | .o, p => ⟨_, rfl⟩
  | .n l r, p => ⟨_, rfl⟩
theorem lm_len : ∀ (s : Sh) (p : Nat), (lm s p).length + 1 = 2 * s.size
  | .o, p => rfl
  | .n l r, p => by
    have h1 := lm_len l p
    have h2 := lm_len r (p + l.size)
    simp only [lm, List.length_cons, List.length_append, size]
    omega
theorem mem_lm : ∀ (s : Sh) (p i j : Nat) (x : Sh), (i, j, x) ∈ lm s p ↔ p ≤ i ∧ sub s (i - p) (j - p) = some x
  | .o, p, i, j, x => by
    simp only [lm, List.mem_singleton, Prod.mk.injEq, sub]
    constructor
    · rintro ⟨rfl, rfl, rfl⟩; exact ⟨Nat.le_refl _, by rw [if_pos (by omega)]⟩
    · rintro ⟨h1, h2⟩
      split at h2
      · cases h2; exact ⟨by omega, by omega, rfl⟩
      · cases h2
  | .n l r, p, i, j, x => by
    have hl := size_pos l
    have hr := size_pos r
    simp only [lm, List.mem_cons, List.mem_append, Prod.mk.injEq, mem_lm l, mem_lm r]
    constructor
    · rintro (⟨rfl, rfl, rfl⟩ | ⟨h1, h2⟩ | ⟨h1, h2⟩)
      · refine ⟨Nat.le_refl _, ?_⟩
        unfold sub; rw [if_pos (by omega)]
      · have := sub_bd _ _ _ _ h2
        refine ⟨h1, ?_⟩
        unfold sub; rw [if_neg (by omega), if_pos (by omega)]; exact h2
      · have := sub_bd _ _ _ _ h2
        refine ⟨by omega, ?_⟩
        unfold sub
        rw [if_neg (by omega), if_neg (by omega), if_pos (by omega), show i - p - l.size = i - (p + l.size) from by omega, show j - p - l.size = j - (p + l.size) from by omega]
        exact h2
    · rintro ⟨h1, h2⟩
      have hb := sub_bd _ _ _ _ h2
      unfold sub at h2
      split at h2
      · cases h2; exact .inl ⟨by omega, by omega, rfl⟩
      · split at h2
        · exact .inr (.inl ⟨h1, h2⟩)
        · split at h2
          · refine .inr (.inr ⟨by omega, ?_⟩)
            rw [show i - (p + l.size) = i - p - l.size from by omega, show j - (p + l.size) = j - p - l.size from by omega]
            exact h2
          · cases h2
end DL
namespace DL
open PySem PySem.Spec PyProof.Rows L2
/-- a lump with its part -/
abbrev lD (x : Nat × Nat × Sh) : D := .tup [.int (x.1 : Nat), .int (x.2.1 : Nat), x.2.2.enc]
theorem addL2 (xs ys : List D) (h : xs.length + ys.length ≤ 100000) : addD (.lst xs) (.lst ys) = some (.lst (xs ++ ys)) := addL xs ys h
end DL
namespace DL
open PySem PySem.Spec PyProof.Rows L2
section
variable {im : Addr → Bool} {Ω : Type} (G : Gam im Ω) (K : PySem.W.Frag)
def KSL (H0 H : Hp) (D' : Ends) : Option (List D × Ω) → Prop
  | none => False
  | some (ds, ω) => ∀ p vs H', Sb im H H' → Kp G H0 H' → G.At ω H' → H0 p = none → ¬ G.FP p → H' p = some (.lst vs) → RepL K im H' vs ds → D'.rt (.ref p) H'
variable {G} {K}
theorem KSL.mono {H0 H H1 : Hp} {D' : Ends} {r : Option (List D × Ω)} (h : KSL G K H0 H D' r) (s : Sb im H H1) : KSL G K H0 H1 D' r := by
  rcases r with _ | ⟨ds, ω⟩
  · exact h
  · exact fun p vs H' sb => h p vs H' (s.trans sb)
end
end DL
namespace DL
open PySem PySem.Spec PyProof.Rows L2
end DL
namespace DL
open PySem PySem.Spec PyProof.Rows L2
end DL
namespace DL
open PySem PySem.Spec PyProof.Rows L2
end DL
namespace DL
open PySem PySem.Spec PyProof.Rows L2
theorem strOk_append (x y : Str) : PyData.strOk (x ++ y) = (PyData.strOk x && PyData.strOk y) := by
  unfold PyData.strOk
  show (x.cps ++ y.cps).all _ = _
  rw [Array.all_append]
theorem strOk_app {x y : Str} (h1 : PyData.strOk x = true) (h2 : PyData.strOk y = true) : PyData.strOk (x ++ y) = true := by rw [strOk_append, h1, h2]; rfl
theorem join_ok : ∀ (ts : List Str), (∀ t ∈ ts, PyData.strOk t = true) → PyData.strOk (Str.join ", " ts) = true ∧ (Str.join ", " ts).length ≤ piled ts
  | [], _ => ⟨by decide +kernel, by show (0 : Nat) ≤ _; exact Nat.zero_le _⟩
  | [x], h => ⟨h x (List.mem_singleton.mpr rfl), by show x.length ≤ _; rw [piled_cons]; omega⟩
  | x :: y :: r, h => by
    obtain ⟨h1, h2⟩ := join_ok (y :: r) fun t ht => h t (List.mem_cons_of_mem _ ht)
    have e : Str.join ", " (x :: y :: r) = x ++ ", " ++ Str.join ", " (y :: r) := rfl
    refine ⟨by rw [e]; exact strOk_app (strOk_app (h x (List.mem_cons_self ..)) (by decide +kernel)) h1, ?_⟩
    rw [e, strLen_append, strLen_append, piled_cons]
    have : (", " : Str).length = 2 := rfl
    omega
theorem tupleText_ok {ts : List Str} (h : ∀ t ∈ ts, PyData.strOk t = true) : PyData.strOk (tupleText ts) = true ∧ (tupleText ts).length ≤ piled ts + 3 := by
  obtain ⟨h1, h2⟩ := join_ok ts h
  unfold tupleText
  refine ⟨strOk_app (strOk_app (by decide +kernel) h1) (by split <;> decide +kernel), ?_⟩
  rw [strLen_append, strLen_append]
  have a : ("(" : Str).length = 1 := rfl
  have b : ((if (ts.length == 1) = true then ",)" else ")" : String) : Str).length ≤ 2 := by split <;> decide
  omega
theorem textFrom_ok : ∀ (ts : List Str) (k : Nat) (acc : Str), (∀ t ∈ ts, PyData.strOk t = true) → PyData.strOk acc = true → PyData.strOk (textFrom k acc ts) = true ∧ (textFrom k acc ts).length ≤ acc.length + piled ts
  | [], k, acc, _, ha => ⟨ha, by show acc.length ≤ _; omega⟩
  | t :: ts, k, acc, h, ha => by
    have hs : PyData.strOk ((if k > 0 then ", " else "" : String) : Str) = true := by split <;> decide +kernel
    obtain ⟨h1, h2⟩ := textFrom_ok ts (k + 1) (acc ++ (if k > 0 then ", " else "" : String) ++ t) (fun x hx => h x (List.mem_cons_of_mem _ hx)) (strOk_app (strOk_app ha hs) (h t (List.mem_cons_self ..)))
    refine ⟨h1, ?_⟩
    unfold textFrom
    refine Nat.le_trans h2 ?_
    rw [strLen_append, strLen_append, piled_cons]
    have : ((if k > 0 then ", " else "" : String) : Str).length ≤ 2 := by split <;> decide
    omega
theorem listText_ok {ts : List Str} (h : ∀ t ∈ ts, PyData.strOk t = true) : PyData.strOk (listText ts) = true ∧ (listText ts).length ≤ piled ts + 3 := by
  obtain ⟨h1, h2⟩ := textFrom_ok ts 0 "[" h (by decide +kernel)
  unfold listText
  refine ⟨strOk_app h1 (by decide +kernel), ?_⟩
  rw [strLen_append]
  have a : ("[" : Str).length = 1 := rfl
  have b : ("]" : Str).length = 1 := rfl
  omega
theorem sh_shown : ∀ s : Sh, PyData.strOk (PyData.shown s.py) = true ∧ (PyData.shown s.py).length + 7 ≤ 14 * s.size
  | .o => by
    have := tupleText_ok (ts := []) (fun _ h => absurd h (by simp))
    show PyData.strOk (tupleText []) = true ∧ (tupleText []).length + 7 ≤ _
    refine ⟨this.1, ?_⟩
    have h2 := this.2
    rw [piled_nil] at h2
    simp only [Sh.size]
    omega
  | .n l r => by
    obtain ⟨a1, a2⟩ := sh_shown l
    obtain ⟨b1, b2⟩ := sh_shown r
    have := tupleText_ok (ts := [PyData.shown l.py, PyData.shown r.py]) (fun t h => by
      rcases List.mem_cons.mp h with rfl | h
      · exact a1
      · rw [List.mem_singleton.mp h]; exact b1)
    have e : PyData.shown (Sh.n l r).py = tupleText [PyData.shown l.py, PyData.shown r.py] := by
      simp [Sh.py, PyData.shown, PyData.shownAll]
    rw [e]
    refine ⟨this.1, ?_⟩
    have h2 := this.2
    rw [piled_cons, piled_cons, piled_nil] at h2
    simp only [Sh.size]
    omega
theorem sh_showable : ∀ s : Sh, PyData.showable s.py = true
  | .o => by simp [Sh.py, PyData.showable, PyData.showableAll]
  | .n l r => by simp [Sh.py, PyData.showable, PyData.showableAll, sh_showable l, sh_showable r]
/-- data that can be shown, in so many signs -/
structure Gd (p : PyData) (b d : Nat) : Prop where
  sh : p.showable = true
  ly : p.canLay0 = true
  dp : p.depth ≤ d
  ok : PyData.strOk p.shown = true
  ln : p.shown.length ≤ b
theorem Gd.shp (s : Sh) : Gd s.py (14 * s.size) s.size := ⟨sh_showable s, s.lay, s.dep, (sh_shown s).1, by have := (sh_shown s).2; omega⟩
theorem gd_all {α : Type} (f : α → PyData) (b d : Nat) : ∀ xs : List α, (∀ x ∈ xs, Gd (f x) b d) → PyData.showableAll (xs.map f) = true ∧ PyData.canLayAll0 (xs.map f) = true ∧ PyData.depthAll (xs.map f) ≤ d ∧ (∀ t ∈ PyData.shownAll (xs.map f), PyData.strOk t = true) ∧ piled (PyData.shownAll (xs.map f)) ≤ xs.length * (b + 2)
  | [], _ => ⟨by simp [PyData.showableAll], by simp [PyData.canLayAll0], by simp [PyData.depthAll], by simp [PyData.shownAll], by simp [PyData.shownAll, piled_nil]⟩
  | x :: xs, h => by
    obtain ⟨h1, h2, h3, h4, h5⟩ := gd_all f b d xs fun y hy => h y (List.mem_cons_of_mem _ hy)
    have g := h x (List.mem_cons_self ..)
    have gd := g.dp; have gl := g.ln
    refine ⟨by simp [PyData.showableAll, g.sh, h1], by simp [PyData.canLayAll0, g.ly, h2], by simp only [List.map_cons, PyData.depthAll]; omega, fun t ht => ?_, ?_⟩
    · simp only [List.map_cons, PyData.shownAll, List.mem_cons] at ht
      rcases ht with rfl | ht
      · exact g.ok
      · exact h4 t ht
    · simp only [List.map_cons, PyData.shownAll, piled_cons, List.length_cons]
      rw [Nat.succ_mul]
      omega
theorem Gd.tup {α : Type} {f : α → PyData} {b d : Nat} {xs : List α} (h : ∀ x ∈ xs, Gd (f x) b d) : Gd (.tuple (xs.map f)) (xs.length * (b + 2) + 3) (d + 1) := by
  obtain ⟨h1, h2, h3, h4, h5⟩ := gd_all f b d xs h
  obtain ⟨k1, k2⟩ := tupleText_ok h4
  exact ⟨by simp only [PyData.showable]; exact h1, by simp only [PyData.canLay0]; exact h2, by simp only [PyData.depth]; omega, by simp only [PyData.shown]; exact k1, by simp only [PyData.shown]; omega⟩
theorem Gd.lst {α : Type} {f : α → PyData} {b d : Nat} {xs : List α} (h : ∀ x ∈ xs, Gd (f x) b d) : Gd (.list (xs.map f)) (xs.length * (b + 2) + 3) (d + 1) := by
  obtain ⟨h1, h2, h3, h4, h5⟩ := gd_all f b d xs h
  obtain ⟨k1, k2⟩ := listText_ok h4
  exact ⟨by simp only [PyData.showable]; exact h1, by simp only [PyData.canLay0]; exact h2, by simp only [PyData.depth]; omega, by simp only [PyData.shown]; exact k1, by simp only [PyData.shown]; omega⟩
theorem Gd.reprD {x : D} {p : PyData} {b d : Nat} (hx : (∃ ds, x = .tup ds) ∨ ∃ ds, x = .lst ds) (e : x.py = some p) (g : Gd p b d) (hb : b ≤ 1000000) (hd : d ≤ 150) : un1 reprD [x] = some (.str p.shown) := by
  have h1 : p.showable = true ∧ p.hasDict = false ∧ p.depth ≤ 150 ∧ p.shown.length ≤ sizeLine := ⟨g.sh, PyData.hasDict_of_canLay _ g.ly, by have := g.dp; omega, by have := g.ln; rw [sizeLine_eq]; omega⟩
  show DL.reprD x = _
  rcases hx with ⟨ds, rfl⟩ | ⟨ds, rfl⟩
  · unfold DL.reprD
    dsimp only
    rw [e]
    dsimp only
    rw [if_pos h1]
  · unfold DL.reprD
    dsimp only
    rw [e]
    dsimp only
    rw [if_pos h1]
theorem strOk_ofString (s : String) : PyData.strOk (Str.ofString s) = true := by
  unfold PyData.strOk
  rw [Str.ofString_eq_toList]
  show (List.toArray (s.toList.map Char.toNat)).all _ = true
  rw [List.all_toArray, List.all_map, List.all_eq_true]
  intro c _
  have := c.valid
  show decide (c.toNat < 0x110000) = true
  rw [decide_eq_true_eq]
  have h : c.toNat = c.val.toNat := rfl
  rcases this with h1 | ⟨_, h1⟩
  · rw [h]; exact Nat.lt_trans h1 (by decide)
  · rw [h]; exact h1
theorem Gd.int {i : Int} {k : Nat} (h : i.natAbs < 2 ^ k) (hk : 0 < k) (hk2 : k ≤ 1000) : Gd (.int i) (k + 1) 0 := by
  have hl : i.natAbs.log2 < k := by
    rcases Nat.eq_zero_or_pos i.natAbs with e | e
    · rw [e]; exact hk
    · exact (Nat.log2_lt (by omega)).mpr h
  refine ⟨by simp only [PyData.showable]; exact decide_eq_true (by omega), by simp only [PyData.canLay0], by simp only [PyData.depth]; omega, ?_, ?_⟩
  · simp only [PyData.shown]; exact strOk_ofString _
  · simp only [PyData.shown]
    rw [show ((toString i : String) : Str).length = (toString i).length from PySem.ofString_length _]
    exact int_text_length_le hk hl
theorem Gd.bool (b : Bool) : Gd (.bool b) 5 0 := by
  refine ⟨by simp only [PyData.showable], by simp only [PyData.canLay0], by simp only [PyData.depth]; omega, ?_, ?_⟩
  · simp only [PyData.shown]; cases b <;> exact strOk_ofString _
  · simp only [PyData.shown]; cases b <;> decide
theorem Gd.non : Gd .none 4 0 := by
  refine ⟨by simp only [PyData.showable], by simp only [PyData.canLay0], by simp only [PyData.depth]; omega, ?_, ?_⟩
  · simp only [PyData.shown]; exact strOk_ofString _
  · simp only [PyData.shown]; decide
theorem Gd.le {p : PyData} {b d b' d' : Nat} (g : Gd p b d) (h1 : b ≤ b') (h2 : d ≤ d') : Gd p b' d' := ⟨g.sh, g.ly, Nat.le_trans g.dp h2, g.ok, Nat.le_trans g.ln h1⟩
/-- a thing that can be compared and shown -/
theorem repr_ne_same {α : Type} [DecidableEq α] [Enc α] (x : α) {b d : Nat} (hx : (∃ ds, Enc.enc x = .tup ds) ∨ ∃ ds, Enc.enc x = .lst ds) (g : Gd (Enc.py x) b d) (hb : b ≤ 1000000) (hd : d ≤ 150) :
    un1 reprD [Enc.enc x] = some (.str (PyData.shown (Enc.py x))) ∧ neD (.str (PyData.shown (Enc.py x))) (.str (PyData.shown (Enc.py x))) = some (.bl false) :=
  ⟨g.reprD hx (Enc.e1 x) hb hd, str_ne_same _ g.ok⟩
end DL
namespace DL
open PySem PySem.Spec PyProof.Rows L2
def optE : Option Sh → D
  | none => .non
  | some s => s.enc
def optP : Option Sh → PyData
  | none => .none
  | some s => s.py
instance : Enc (Option Sh) where
  enc := optE
  py := optP
  dep := fun o => match o with | none => 0 | some s => s.size
  e1 o := by cases o with
    | none => rfl
    | some s => exact Sh.enc_py s
  e2 a b := by
    cases a with
    | none => cases b with
      | none => simp [optP, PyData.eqv]
      | some s => cases s <;> simp [optP, Sh.py, PyData.eqv]
    | some a => cases b with
      | none => cases a <;> simp [optP, Sh.py, PyData.eqv]
      | some b =>
        show PyData.eqv a.py b.py = _
        rw [Sh.eqv]
        exact decide_eq_decide.mpr (by simp)
  e3 o := by cases o with
    | none => simp [optP, PyData.canLay0]
    | some s => exact Sh.lay s
  e4 o := by cases o with
    | none => simp [optP, PyData.depth]
    | some s => exact Sh.dep s
open Sh
def ends (m b : Nat) : List Nat := (List.range ((m + b - 1) / b)).map fun k => min (k * b + b) m
end DL
namespace DL
open PySem PySem.Spec PyProof.Rows L2
end DL
namespace DL
open PySem PySem.Spec PyProof.Rows L2
def rAddN (K : PySem.W.Frag) (im : Addr → Bool) : R2 := fun x y H Q => ∃ a b vs ws ds es, x = .ref a ∧ y = .ref b ∧ SqZ H a vs ∧ SqZ H b ws ∧ RepL K im H vs ds ∧ RepL K im H ws es ∧ ds.length + es.length ≤ sizeLine ∧ ∀ p, H p = none → Q (.ref p) (upd H p (.lst (vs ++ ws)))
def eAddL {Ω : Type} (a b : E Ω D) : E Ω (List D) := fun τ ω => (a τ ω).bind fun x ω1 => (b τ ω1).bind fun y ω2 => match x, y with
  | .lst xs, .lst ys => if xs.length + ys.length ≤ sizeLine then .ok (xs ++ ys) ω2 else .no
  | _, _ => .no
section
variable {X : Cx} {im : Addr → Bool}
theorem op_addLL : OpR X (binaryOp .Add) (rAddN X.K im) := by
  intro pins s σ H x y v u Q I rx ry h
  obtain ⟨a, b, vs, ws, ds, es, rfl, rfl, h1, h3, h2, h4, hl, q⟩ := h
  have l1 := h2.length
  have l2 := h4.length
  cases rx
  cases ry
  obtain ⟨z, its, n, r, hl1, e⟩ := Inv.zlst I h1
  obtain ⟨z2, its2, n2, r2, hl2, e2⟩ := Inv.zlst I h3
  have room : its.toArray.size + its2.toArray.size ≤ sizeLine := by simp only [List.size_toArray]; omega
  have joined : its.toArray ++ its2.toArray = List.toArray (its ++ its2) := List.append_toArray its its2
  refine PySem.P.add_list e e2 (?_ : _) room
  rw [joined]
  exact ⟨.ref _, _, Inv.lnew (t' := s.toks) I (r.append r2) (by rw [List.length_append]; omega), rfl, q _ (Inv.fresh I)⟩
end
section
variable {im : Addr → Bool} {Ω : Type} {G : Gam im Ω} {K : PySem.W.Frag} {W : WX} {ta tb : TE} {Fa Fb : E Ω D}
theorem dl_add (ha : DE G K W ta Fa) (hb : DE G K W tb Fb) : DL G K W (tOp (rAddN K im) ta tb) (eAddL Fa Fb) := by
  intro H0 σ H ω τ s t Q h
  refine ha H0 σ H ω τ s t _ (Res.imp (Res.bind h) (fun x ω1 H1 k1 t1 h1 v r => ?_) fun _ _ _ _ _ q => q)
  refine hb H0 σ H1 ω1 τ (s.step t k1) t1 _ (Res.imp (Res.bind (h1.mono k1)) (fun y ω2 H2 k2 t2 h2 w r2 => ?_) fun _ _ _ _ _ q => q)
  have h3 := h2.mono k2
  cases r with
  | @lst a vs ds g1 g2 =>
    cases r2 with
    | @lst b ws es g3 g4 =>
      dsimp only at h3
      by_cases hl : ds.length + es.length ≤ sizeLine
      · rw [if_pos hl] at h3
        refine ⟨a, b, vs, ws, ds, es, rfl, rfl, (k2.sb t1).sqZ g1, g3, g2.up (k2.sb t1), g4, hl, fun p hp => ?_⟩
        have sm : Same H2 (upd H2 p (.lst (vs ++ ws))) := Same.new hp
        refine h3 _ (.of sm) (At.same t2 sm) p _ ?_ upd_same (((g2.up (k2.sb t1)).append g4).up (.of sm))
        cases e2 : H p with
        | none => rfl
        | some o =>
          by_cases f : G.FP p
          · exact absurd hp (G.trk t2 p f)
          · have := k2 p o (k1 p o e2 f) f; rw [hp] at this; cases this
      · rw [if_neg hl] at h3; exact h3.elim
    | _ => exact h3.elim
  | _ => exact h3.elim
end
section
variable {Ω : Type} {τ : Tau} {ω : Ω}
theorem wp_eAddL {a b : E Ω D} {P : List D → Ω → Prop} {X} : (eAddL a b τ ω).wp P X = (a τ ω).wp (fun x ω1 => (b τ ω1).wp (fun y ω2 => ∃ xs ys, x = .lst xs ∧ y = .lst ys ∧ xs.length + ys.length ≤ sizeLine ∧ P (xs ++ ys) ω2) X) X := by
  unfold eAddL; rw [wp_bind]; congr; funext x ω1; rw [wp_bind]; congr; funext y ω2
  have no : ∀ {x y : D}, (∀ xs ys, x = .lst xs → y = .lst ys → False) → (R.no : R Ω (List D)).wp P X = ∃ xs ys, x = .lst xs ∧ y = .lst ys ∧ xs.length + ys.length ≤ sizeLine ∧ P (xs ++ ys) ω2 := fun hn =>
    propext ⟨fun h => by with_unfolding_all exact h.elim, fun ⟨xs, ys, h1, h2, _⟩ => (hn xs ys h1 h2).elim⟩
  cases x with
  | lst xs =>
    cases y with
    | lst ys =>
      dsimp only
      by_cases h : xs.length + ys.length ≤ sizeLine
      · rw [if_pos h, wp_ok]
        exact propext ⟨fun p => ⟨xs, ys, rfl, rfl, h, p⟩, fun ⟨_, _, h1, h2, _, p⟩ => by cases h1; cases h2; exact p⟩
      · rw [if_neg h]
        exact propext ⟨fun h => by with_unfolding_all exact h.elim, fun ⟨_, _, h1, h2, h3, _⟩ => by cases h1; cases h2; exact (h h3).elim⟩
    | _ => exact no fun _ _ _ h => by cases h
  | _ => exact no fun _ _ h _ => by cases h
end
end DL
namespace DL
open PySem PySem.Spec PyProof.Rows L2
end DL
namespace DL
open PySem PySem.Spec PyProof.Rows L2
end DL
namespace DL
open PySem PySem.Spec PyProof.Rows L2
end DL
namespace DL
open PySem PySem.Spec PyProof.Rows L2
end DL
namespace DL
open PySem PySem.Spec PyProof.Rows L2
end DL
namespace DL
open PySem PySem.Spec PyProof.Rows L2
end DL
namespace DL
open PySem PySem.Spec PyProof.Rows L2
end DL
namespace DL
open PySem PySem.Spec PyProof.Rows L2
def powD : D → D → Option D
  | .int i, .int j => if 0 ≤ j ∧ j ≤ 1000000 ∧ i.natAbs < 2 ^ 64 then some (.int (i ^ j.toNat)) else none
  | _, _ => none
section
variable {X : Cx} {im : Addr → Bool}
theorem op_powD : OpR X (binaryOp .Pow) (rD2 X.K im powD) := by
  intro pins s σ H x y v u Q I rx ry h
  obtain ⟨d, e, z, hd, he, hz, q⟩ := h
  cases hd <;> cases he <;> simp only [powD] at hz <;> first | (cases hz; done) | skip
  split at hz
  · rename_i hc
    cases hz
    exact op_pow pins s σ H _ _ v u Q I rx ry ⟨_, _, rfl, rfl, hc, q _ _ (Same.refl _) (.int _)⟩
  · cases hz
end
end DL
namespace DL
open PySem PySem.Spec PyProof.Rows L2
end DL
namespace DL
open PySem PySem.Spec PyProof.Rows L2
end DL
namespace DL
open PySem PySem.Spec PyProof.Rows L2
end DL
namespace DL
open PySem PySem.Spec PyProof.Rows L2
end DL
namespace DL
open PySem PySem.Spec PyProof.Rows L2
end DL
namespace DL
open PySem PySem.Spec PyProof.Rows L2
end DL
namespace DL
open PySem PySem.Spec PyProof.Rows L2
def tChain4 (r r' r'' : R2) (ta tb tc td : TE) : TE := fun σ H Q => ta σ H fun x H1 => tb σ H1 fun y H2 => r x y H2 fun z H3 => ∃ k, z = .bl k ∧
  (if k = true then tc σ H3 fun w H4 => r' y w H4 fun z' H5 => ∃ k', z' = .bl k' ∧ (if k' = true then td σ H5 fun u H6 => r'' w u H6 Q else Q (.bl false) H5) else Q (.bl false) H3)
section
variable {X : Cx} {a b c d : Expr} {ta tb tc td : TE} {pos : Pos} {o1 o2 o3 : CmpOp} {r r' r'' : R2}
theorem pt_chain4 (h1 : OpR X (compareOp o1) r) (h2 : OpR X (compareOp o2) r') (h3 : OpR X (compareOp o3) r'') (ha : PE X a ta) (hb : PE X b tb) (hc : PE X c tc) (hd : PE X d td)
    (hm : lastMarks [o1, o2, o3] [b, c, d] = false := by with_unfolding_all rfl) : PT X (.Compare a [o1, o2, o3] [b, c, d] pos) (tTest (tChain4 r r' r'' ta tb tc td)) := by
  refine ⟨fun pins s σ H Q I h => ?_⟩
  refine isTrue_chain (thn (ha.run pins s σ H _ I h) fun v s1 ⟨x, H1, I1, r1, q1⟩ => test_link (thn (hb.run pins s1 σ H1 _ I1 q1) fun u s2 ⟨y, H2, I2, r2, q2⟩ =>
    thn (h1 pins s2 σ H2 x y v u _ I2 r1 r2 q2) fun e s3 ⟨z, H3, I3, r3, k, ez, q3⟩ => ?_)) hm
  subst ez
  cases r3
  refine wpAny_truthy_bool ?_
  cases k with
  | false =>
    obtain ⟨k', e', q'⟩ := q3
    cases e'
    exact ite_ff ⟨H3, I3, q'⟩
  | true =>
    refine ite_tt (test_link (thn (hc.run pins s3 σ H3 _ I3 q3) fun w s4 ⟨y2, H4, I4, r4, q4⟩ => thn (h2 pins s4 σ H4 y y2 u w _ I4 r2 r4 q4) fun e2 s5 ⟨z2, H5, I5, r5, k2, ez2, q5⟩ => ?_))
    subst ez2
    cases r5
    refine wpAny_truthy_bool ?_
    cases k2 with
    | false =>
      obtain ⟨k', e', q'⟩ := q5
      cases e'
      exact ite_ff ⟨H5, I5, q'⟩
    | true =>
      refine ite_tt (test_last (thn (hd.run pins s5 σ H5 _ I5 q5) fun w2 s6 ⟨y3, H6, I6, r6, q6⟩ => thn (h3 pins s6 σ H6 y2 y3 w w2 _ I6 r4 r6 q6) fun e3 s7 ⟨z3, H7, I7, r7, k3, ez3, q7⟩ => ?_))
      subst ez3
      cases r7
      exact wpAny_truthy_bool ⟨H7, I7, q7⟩
end
def eChain4 {Ω : Type} (f g h : D → D → Option D) (a b c d : E Ω D) : E Ω D := fun τ ω => (a τ ω).bind fun x ω1 => (b τ ω1).bind fun y ω2 => match f x y with
  | some (.bl true) => (c τ ω2).bind fun z ω3 => match g y z with
    | some (.bl true) => (d τ ω3).bind fun w ω4 => .ofO (h z w) ω4
    | some (.bl false) => .ok (.bl false) ω3
    | _ => .no
  | some (.bl false) => .ok (.bl false) ω2
  | _ => .no
section
variable {im : Addr → Bool} {Ω : Type} {G : Gam im Ω} {K : PySem.W.Frag} {W : WX} {ta tb tc td : TE} {Fa Fb Fc Fd : E Ω D}
theorem de_chain4 {f g h' : D → D → Option D} (ha : DE G K W ta Fa) (hb : DE G K W tb Fb) (hc : DE G K W tc Fc) (hd : DE G K W td Fd) : DE G K W (tChain4 (rD2 K im f) (rD2 K im g) (rD2 K im h') ta tb tc td) (eChain4 f g h' Fa Fb Fc Fd) := by
  intro H0 σ H ω τ s t Q h
  refine ha H0 σ H ω τ s t _ (Res.imp (Res.bind h) (fun x ω1 H1 k1 t1 h1 v r => ?_) fun _ _ _ _ _ q => q)
  refine hb H0 σ H1 ω1 τ (s.step t k1) t1 _ (Res.imp (Res.bind (h1.mono k1)) (fun y ω2 H2 k2 t2 h2 w r2 => ?_) fun _ _ _ _ _ q => q)
  have h3 := h2.mono k2
  cases e : f x y with
  | none => rw [e] at h3; exact h3.elim
  | some z =>
    rw [e] at h3
    refine ⟨x, y, z, r.up (k2.sb t1), r2, e, fun v' H' sm rv => ?_⟩
    cases rv with
    | bl b =>
      refine ⟨b, rfl, ?_⟩
      have h4 := h3.mono (.of sm)
      have t3 := At.same t2 sm
      cases b with
      | true =>
        refine hc H0 σ H' ω2 τ (((s.step t k1).step t1 k2).step t2 (.of sm)) t3 _ (Res.imp (Res.bind h4) (fun z' ω3 H3 k3 t4 h5 w3 r3 => ?_) fun _ _ _ _ _ q => q)
        have h6 := h5.mono k3
        have r2' := (r2.up (.of sm)).up (k3.sb t3)
        cases e2 : g y z' with
        | none => rw [e2] at h6; exact h6.elim
        | some z2 =>
          rw [e2] at h6
          refine ⟨y, z', z2, r2', r3, e2, fun v2 H4 sm4 rv4 => ?_⟩
          cases rv4 with
          | bl b2 =>
            refine ⟨b2, rfl, ?_⟩
            have h7 := h6.mono (.of sm4)
            have t5 := At.same t4 sm4
            cases b2 with
            | true =>
              refine hd H0 σ H4 ω3 τ (((((s.step t k1).step t1 k2).step t2 (.of sm)).step t3 k3).step t4 (.of sm4)) t5 _ (Res.imp (Res.bind h7) (fun u ω4 H5 k5 t6 h8 w4 r4 => ?_) fun _ _ _ _ _ q => q)
              have h9 := h8.mono k5
              cases e3 : h' z' u with
              | none => rw [e3] at h9; exact h9.elim
              | some z3 =>
                rw [e3] at h9
                exact ⟨z', u, z3, (r3.up (.of sm4)).up (k5.sb t5), r4, e3, fun v3 H6 sm6 rv6 => h9 H6 (.of sm6) (At.same t6 sm6) v3 rv6⟩
            | false => exact h7 H4 .refl t5 _ (.bl false)
          | _ => exact h6.elim
      | false => exact h4 H' .refl t3 _ (.bl false)
    | _ => exact h3.elim
end
end DL
namespace DL
open PySem PySem.Spec PyProof.Rows L2
end DL
namespace DL
open PySem PySem.Spec PyProof.Rows L2
def eDiX {Ω : Type} (r : E Ω (List D)) (e : E Ω D) : E Ω D := fun τ ω => (r τ ω).bind fun xs ω1 => match D.keyL xs with
  | some k => if k.length ≤ 1000 then (e τ ω1).bind fun d ω2 => match d with
      | .dit ks ds => .ok (.bl (lkp ks ds k).isSome) ω2
      | _ => .no
    else .no
  | none => .no
section
variable {im : Addr → Bool} {Ω : Type} {G : Gam im Ω} {K : PySem.W.Frag} {W : WX} {te : TE} {Fe : E Ω D} {tr : TA} {Fr : E Ω (List D)}
theorem de_diX (hr : DA G K W tr Fr) (he : DE G K W te Fe) : DE G K W (tDIn (tTup tr) te) (eDiX Fr Fe) := by
  intro H0 σ H ω τ s t Q h
  unfold eDiX at h
  refine hr H0 σ H ω τ s t _ (Res.imp (Res.bind h) (fun xs ω1 H1 k1 t1 h1 vs r => ?_) fun _ _ _ _ _ q => q)
  have h2 := h1.mono k1
  cases ek : D.keyL xs with
  | none => rw [ek] at h2; exact h2.elim
  | some k =>
  rw [ek] at h2
  dsimp only at h2
  split at h2
  case isFalse => exact h2.elim
  rename_i hk
  refine ⟨by rw [r.length, ← keyL_len ek]; exact line1000 hk, fun p hp => ?_⟩
  have sm : Same H1 (upd H1 p (.tup vs)) := Same.new hp
  have nf : ¬ G.FP p := fun f => G.trk t1 p f hp
  refine he H0 σ _ ω1 τ ((s.step t k1).step t1 (.of sm)) (At.same t1 sm) _ (Res.imp (Res.bind (h2.mono (.of sm))) (fun d ω2 H2 k2 t2 h3 v rv => ?_) fun _ _ _ _ _ q => q)
  have h4 := h3.mono k2
  have hp2 : H2 p = some (.tup vs) := k2 p _ upd_same nf
  cases rv with
  | @dit a o ks ws ds g1 g2 g3 =>
    have e : (valV (ks.zip ws) k).isSome = (lkp ks ds k).isSome := by
      cases el : lkp ks ds k with
      | none => rw [(lkp_val k g2 g3).2 el]; rfl
      | some z => obtain ⟨v, hv, _⟩ := (lkp_val k g2 g3).1 z el; rw [hv]; rfl
    refine ⟨a, _, rfl, .inr ⟨ks.zip ws, k, p, .inr ⟨o, g1⟩, rfl, by rw [hp2, r.key ek], rfl⟩, ?_⟩
    rw [e]
    exact h4 H2 .refl t2 _ (.bl _)
  | _ => exact h4.elim
theorem wp_eDiX {τ : Tau} {ω : Ω} {P : D → Ω → Prop} {X} : (eDiX Fr Fe τ ω).wp P X = (Fr τ ω).wp (fun xs ω1 => ∃ k, D.keyL xs = some k ∧ k.length ≤ 1000 ∧ (Fe τ ω1).wp (fun d ω2 => ∃ ks ds, d = .dit ks ds ∧ P (.bl (lkp ks ds k).isSome) ω2) X) X := by
  unfold eDiX; rw [wp_bind]; congr; funext xs ω1
  cases ek : D.keyL xs with
  | none => exact propext ⟨fun h => by with_unfolding_all exact h.elim, fun ⟨_, e, _⟩ => by cases e⟩
  | some k =>
    dsimp only
    by_cases hk : k.length ≤ 1000
    · rw [if_pos hk, wp_bind]
      have e : (fun (a : D) (ω : Ω) => (match a with | .dit ks ds => (R.ok (.bl (lkp ks ds k).isSome) ω : R Ω D) | _ => .no).wp P X) = fun d ω2 => ∃ ks ds, d = .dit ks ds ∧ P (.bl (lkp ks ds k).isSome) ω2 := by
        funext d ω2
        cases d with
        | dit ks ds => dsimp only; rw [wp_ok]; exact propext ⟨fun p => ⟨ks, ds, rfl, p⟩, fun ⟨_, _, e, p⟩ => by cases e; exact p⟩
        | _ => exact propext ⟨fun h => by with_unfolding_all exact h.elim, fun ⟨_, _, e, _⟩ => by cases e⟩
      rw [e]
      exact propext ⟨fun p => ⟨k, rfl, hk, p⟩, fun ⟨_, e, _, p⟩ => by cases e; exact p⟩
    · rw [if_neg hk]
      exact propext ⟨fun h => by with_unfolding_all exact h.elim, fun ⟨_, e, h, _⟩ => by cases e; exact (hk h).elim⟩
end
end DL
namespace DL
open PySem PySem.Spec PyProof.Rows L2
end DL
namespace DL
open PySem PySem.Spec PyProof.Rows L2
end DL
namespace DL
open PySem PySem.Spec PyProof.Rows L2
section
variable {im : Addr → Bool} {Ω : Type} (G : Gam im Ω) (K : PySem.W.Frag)
def KSP (H0 H : Hp) (D' : Ends) : Option ((List D × D) × Ω) → Prop
  | none => False
  | some ((ds, d), ω) => ∀ q a vs w H', Sb im H H' → Kp G H0 H' → G.At ω H' → H0 a = none → ¬ G.FP a → H' a = some (.lst vs) → RepL K im H' vs ds → Rep K im H' w d → SqT K H' q [.ref a, w] → D'.rt (.ref q) H'
variable {G} {K}
theorem KSP.mono {H0 H H1 : Hp} {D' : Ends} {r : Option ((List D × D) × Ω)} (h : KSP G K H0 H D' r) (s : Sb im H H1) : KSP G K H0 H1 D' r := by
  rcases r with _ | ⟨⟨ds, d⟩, ω⟩
  · exact h
  · exact fun q a vs w H' sb => h q a vs w H' (s.trans sb)
end
end DL
namespace DL
open PySem PySem.Spec PyProof.Rows L2
end DL
namespace DL
open PySem PySem.Spec PyProof.Rows L2
end DL
namespace DL
open PySem PySem.Spec PyProof.Rows L2
inductive OwnAll (F : List D → R Unit D) : List D → List D → Prop
  | nil : OwnAll F [] []
  | cons {fs gs fs' gs' ds es u} : F [.ins fs gs, .ins fs' gs'] = .ok (.bl true) u → OwnAll F ds es → OwnAll F (.ins fs gs :: ds) (.ins fs' gs' :: es)
def ownAll (F : List D → R Unit D) : List D → List D → Bool
  | [], [] => true
  | .ins fs gs :: ds, .ins fs' gs' :: es => (match F [.ins fs gs, .ins fs' gs'] with | .ok (.bl true) _ => true | _ => false) && ownAll F ds es
  | _, _ => false
theorem OwnAll.of {F : List D → R Unit D} : ∀ {ds es : List D}, ownAll F ds es = true → OwnAll F ds es
  | [], [], _ => .nil
  | d :: ds, e :: es, h => by
    unfold ownAll at h
    split at h
    · rename_i h1 h2; cases h1
    · rename_i fs gs ds' fs' gs' es' h1 h2
      injection h1 with h1 h3
      injection h2 with h2 h4
      subst h1 h2 h3 h4
      rw [Bool.and_eq_true] at h
      obtain ⟨h5, h6⟩ := h
      split at h5
      · rename_i u q
        exact .cons q (OwnAll.of h6)
      · cases h5
    · cases h
  | [], e :: es, h => by unfold ownAll at h; cases h
  | d :: ds, [], h => by unfold ownAll at h; cases d <;> cases h
theorem OwnAll.at {F : List D → R Unit D} : ∀ {ds es : List D}, OwnAll F ds es → ∀ {j : Nat} {d e : D}, ds[j]? = some d → es[j]? = some e → ∃ fs gs fs' gs' u, d = .ins fs gs ∧ e = .ins fs' gs' ∧ F [d, e] = .ok (.bl true) u
  | _, _, .nil, j, d, e, h, _ => by simp at h
  | _, _, .cons h1 h2, 0, d, e, h, h' => by
    simp at h h'
    subst h h'
    exact ⟨_, _, _, _, _, rfl, rfl, h1⟩
  | _, _, .cons h1 h2, j + 1, d, e, h, h' => by
    simp at h h'
    exact h2.at h h'
theorem OwnAll.len {F : List D → R Unit D} : ∀ {ds es : List D}, OwnAll F ds es → ds.length = es.length
  | _, _, .nil => rfl
  | _, _, .cons _ h => by simp [h.len]
end DL
namespace DL
open PySem PySem.Spec PyProof.Rows L2
end DL
namespace DL
open PySem PySem.Spec PyProof.Rows L2 LamX
section
variable {im : Addr → Bool} {Ω : Type} {K : PySem.W.Frag}
/-- G as a part of G' -/
structure SubG (G G' : Gam im Ω) : Prop where
  obj : G'.obj = G.obj
  down : ∀ {ω H}, G'.At ω H → G.At ω H
  up : ∀ {ω ω' H H'}, G'.At ω H → Kp G H H' → G.At ω' H' → G'.At ω' H'
  fp : ∀ {b}, G.FP b → G'.FP b
theorem SubG.kp {G G' : Gam im Ω} (S : SubG G G') {H H' : Hp} (k : Kp G H H') : Kp G' H H' := fun b o e n => k b o e fun f => n (S.fp f)
variable {Pp : Type} {Γ : Pp → Gam im Ω} {G : Gam im Ω} {W : WX} {cA P : Addr} {nm : Str} {t : TE} {Fb : E Ω D}
end
end DL
namespace DL
open PySem PySem.Spec PyProof.Rows L2 LamX
/-- a run that gives True ends as the law's end wants it -/
theorem ks_law {im : Addr → Bool} {Ω : Type} {G : Gam im Ω} {K : PySem.W.Frag} {H0 H : Hp} {D : Ends} {W : WX} {B : S Ω} {τ : Tau} {ω ω' : Ω} (hF : runS B τ ω = .ok (.bl true) ω') (k : ∀ v H', v = V.bl true → D.rt v H') : KS G K H0 H D W (B τ ω) := by
  unfold runS at hF
  generalize B τ ω = r at hF ⊢
  match r, hF with
  | some (.rt d, ω1), hF =>
    simp only [R.ok.injEq] at hF
    obtain ⟨rfl, rfl⟩ := hF
    intro v H2 _ _ _ r
    cases r
    exact k _ _ rfl
  | some (.nx τ, ω1), hF => simp only [R.ok.injEq] at hF; exact absurd hF.1 (by intro z; cases z)
  | some (.bk τ, ω1), hF => cases hF
  | some (.ct τ, ω1), hF => cases hF
  | some (.rs x τ, ω1), hF => cases hF
  | some (.rl d, ω1), hF => cases hF
  | none, hF => cases hF
end DL
namespace DL
open PySem PySem.Spec PyProof.Rows L2
end DL
namespace DL
open PySem PySem.Spec PyProof.Rows L2
section
variable {P : Program} {w : World} {B : Around} {u : Shared}
/-- nothing but x differs -/
def But (x : Addr) (g h : Heap) : Prop := ∀ q o, q ≠ x → g.get? q = some o → h.get? q = some o
theorem But.trans {x : Addr} {f g h : Heap} (k1 : But x f g) (k2 : But x g h) : But x f h := fun q o n e => k2 q o n (k1 q o n e)
theorem But.push {x : Addr} {h : Heap} (ob : Obj) : But x h (h.push ob) := fun q o _ e => Heap.get?_push_of_some _ e
end
end DL
namespace DL
open PySem PySem.Spec PyProof.Rows L2
section
variable {im : Addr → Bool} {Ω : Type} {K : PySem.W.Frag} {W : WX}
/-- the state does not speak of finished lists -/
class Thaws (G : Gam im Ω) : Prop where
  at' : ∀ {ω : Ω} {H : Hp} {l : Addr} {o : Obj} {vs ws : List V}, G.At ω H → H l = some (.frz o (.lst vs)) → ¬ G.FP l → G.At ω (upd H l (.lst ws))
instance : Thaws (gam0 im) := ⟨fun _ _ _ => trivial⟩
instance {p : Addr × Addr} : Thaws (srcG im p) where
  at' := fun ⟨h1, h2⟩ e nf => by
    refine ⟨?_, ?_⟩
    · rw [upd_ne (fun z => nf (.inl z.symm))]
      exact h1
    · rw [upd_ne (fun z => nf (.inr z.symm))]
      exact h2
variable {H H' : Hp} {l : Addr} {o : Obj} {u u' : HO}
end
end DL
namespace DL
open PySem PySem.Spec PyProof.Rows L2
end DL
namespace DL
open PySem PySem.Spec PyProof.Rows L2
end DL
namespace DL
open PySem PySem.Spec PyProof.Rows L2
section
variable {κ : Type} [DecidableEq κ]
theorem storedAll_new : ∀ (ps acc : List (κ × Addr × Value)), ((acc ++ ps).map (·.1)).Nodup → storedAllH acc ps = acc ++ ps
  | [], acc, _ => by rw [List.append_nil]; rfl
  | (k, a, v) :: ps, acc, h => by
    have e2 : acc ++ (k, a, v) :: ps = (acc ++ [(k, a, v)]) ++ ps := by simp
    have hn : atKey acc k = none := by
      refine atKey_none_of_get fun j p e => ?_
      have hm := List.mem_of_getElem? e
      rw [List.map_append, List.nodup_append] at h
      exact h.2.2 k (List.mem_map.mpr ⟨_, hm, rfl⟩) k (by simp) rfl
    show storedAllH (storedH acc k a v) ps = _
    rw [storedH_new hn, e2]
    rw [e2] at h
    exact storedAll_new ps (acc ++ [(k, a, v)]) h
end
section
variable {X : Cx} {im : Addr → Bool}
theorem tpairs_of {pins : List (Addr × Obj)} {σ : L2.St} {H : Hp} {s : Shared} (I : Inv X pins σ H s) : ∀ {ps : List Addr} {kvs : List (List Key × Addr × V)}, Paired (fun p kv => SqT X.K H p [.ref kv.2.1, kv.2.2] ∧ H kv.2.1 = some (.tup (kv.1.map kV))) ps kvs →
    ∃ prs : List (List Key × Addr × Value), Paired (fun (p : List Key × V) (q : List Key × Addr × Value) => p.1 = q.1 ∧ H q.2.1 = some (.tup (p.1.map kV)) ∧ RelV p.2 q.2.2) (kvs.map fun q => (q.1, q.2.2)) prs ∧ prs.length = ps.length ∧
      prs.map (·.1) = kvs.map (·.1) ∧ ∀ (j : Nat) (q : List Key × Addr × Value), prs[j]? = some q → ∃ b : Addr, ps[j]? = some b ∧ IsTup s.heap b #[.ref q.2.1, q.2.2]
  | _, _, .nil => ⟨[], .nil, rfl, rfl, fun j q e => by simp at e⟩
  | _, _, .cons (a := p) (b := kv) h t => by
    obtain ⟨prs, r, hl, hk, hp⟩ := tpairs_of I t
    obtain ⟨its, rv, ht, _⟩ := I.tuple h.1
    obtain ⟨u, y, ei, ru, ry⟩ := vals2 rv
    subst ei
    cases ru
    refine ⟨(kv.1, kv.2.1, y) :: prs, .cons ⟨rfl, h.2, ry⟩ r, by rw [List.length_cons, List.length_cons, hl], by rw [List.map_cons, List.map_cons, hk], fun j q e => ?_⟩
    cases j with
    | zero =>
      have e' : (kv.1, kv.2.1, y) = q := Option.some.inj e
      subst e'
      exact ⟨p, rfl, ht⟩
    | succ j =>
      obtain ⟨b, e1, e2⟩ := hp j q (by simpa using e)
      exact ⟨b, by simpa using e1, e2⟩
theorem call_dictTP (hu : X.A.units + 200 < cLine) (hcalm : X.calm = true) : CallR X (.type "dict") (fun xs H Q => ∃ (a : Addr) (ps : List Addr) (kvs : List (List Key × Addr × V)), xs = [.ref a] ∧ SqL X.K H a (ps.map V.ref) ∧
    Paired (fun p kv => SqT X.K H p [.ref kv.2.1, kv.2.2] ∧ H kv.2.1 = some (.tup (kv.1.map kV))) ps kvs ∧ (kvs.map (·.1)).Nodup ∧ ∀ p, H p = none → Q (.ref p) (upd H p (.dT (kvs.map fun q => (q.1, q.2.2))))) := by
  intro pins s σ H xs us Q I r q
  obtain ⟨a, ps, kvs, ex, hq, hp, hnd, q⟩ := q
  subst ex
  obtain ⟨u, eu, rx⟩ := vals1 r
  subst eu
  cases rx
  obtain ⟨its, rv, pl, hz⟩ := I.list hq
  have ei := refs_at rv
  subst ei
  rw [List.length_map] at hz
  obtain ⟨prs, rel, hl, hk, hpr⟩ := tpairs_of I hp
  obtain ⟨o, n, ho, hc, hd, hdat⟩ := pl
  have hks : ∀ x ∈ prs, ∃ kv : List Key × V, x.1 = kv.1 ∧ H x.2.1 = some (.tup (kv.1.map kV)) := by
    intro x hx
    clear hpr hk hl
    generalize kvs.map (fun q => (q.1, q.2.2)) = L at rel
    induction rel with
    | nil => exact absurd hx (by simp)
    | @cons p q l1 l2 hr t ih =>
      rcases List.mem_cons.mp hx with e | hx
      · subst e; exact ⟨p, hr.1.symm, hr.2.1⟩
      · exact ih hx
  have P := PairArg.list (prog := X.prog) (w := X.w) a (ps.map Value.ref).toArray (fun j => (ps[j]?).getD 0) (prs.map fun x => (Value.ref x.2.1, x.2.2))
  refine call_dict_pairsH (knd := tupleKind (mixKind X.prog X.w)) (ps := prs) P (I.ok.hd hcalm) ?_ ⟨⟨o, n, ho, hc, hd, hdat⟩, ?_, ?_⟩ ⟨?_, ?_⟩ ?_ ?_ fun h' tk hd' hkp => ?_
  · show X.A.in1.in1.units < cLine
    have : X.A.in1.in1.units = X.A.units + 2 := rfl
    omega
  · simp [hl]
  · intro j k v hj
    rw [List.getElem?_map] at hj
    obtain ⟨x, hx, e⟩ := Option.map_eq_some_iff.mp hj
    cases e
    obtain ⟨b, e1, e2⟩ := hpr j x hx
    refine ⟨by simp [e1], .inl ?_⟩
    show s.heap.IsTuple ((ps[j]?).getD 0) _
    rw [e1]
    exact e2
  · rw [List.length_map]
  · intro i key v hj
    have hj' : (prs.map fun x => (Value.ref x.2.1, x.2.2))[i]? = some (key, v) := hj
    rw [List.getElem?_map] at hj'
    obtain ⟨x, hx, e⟩ := Option.map_eq_some_iff.mp hj'
    cases e
    exact ⟨x.1, x.2.1, hx, rfl⟩
  · intro h' kp x hx
    obtain ⟨kv, e1, e2⟩ := hks x hx
    obtain ⟨ox, its, m, h1, h2, h3, h4⟩ := key_of I.hok e2
    rw [e1]
    exact ⟨ox, its, m, kp _ _ (Nat.ne_of_lt (Heap.lt_size h1)) (by simp) h1, h2, h3, h4⟩
  · rw [List.length_map, hl]; exact hz
  · have hnp : (prs.map (·.1)).Nodup := by rw [hk]; exact hnd
    rw [storedAll_new prs [] (by rw [List.nil_append]; exact hnp), List.nil_append] at hd'
    obtain ⟨o', es, ep, h1, h2, h3, h4, _, h5⟩ := hd'
    have hm : (s.heap.objs.size == sysModules) = false := beq_eq_false_iff_ne.mpr (Nat.ne_of_gt I.big)
    have fr : H s.heap.objs.size = none := I.hok.fresh (Nat.le_refl _)
    have rel2 : Paired (fun (p : List Key × V) (q : List Key × Addr × Value) => p.1 = q.1 ∧ upd H s.heap.objs.size (.dT (kvs.map fun q => (q.1, q.2.2))) q.2.1 = some (.tup (p.1.map kV)) ∧ RelV p.2 q.2.2) (kvs.map fun q => (q.1, q.2.2)) prs := by
      refine Paired.mono (fun p q z => ⟨z.1, ?_, z.2.2⟩) rel
      rw [upd_ne (ne_of_none z.2.1 fr)]
      exact z.2.1
    have hlen : (kvs.map fun q => (q.1, q.2.2)).length ≤ sizeLine := by
      have := congrArg List.length hk
      rw [List.length_map, List.length_map] at this
      rw [List.length_map]; omega
    exact ⟨.ref s.heap.objs.size, upd H s.heap.objs.size (.dT (kvs.map fun q => (q.1, q.2.2))), I.laid (t' := tk) (fun b u e => hkp b u (by simp) e) (Nat.le_refl _) ⟨hlen, hm, prs, rel2, o', es, ep, h1, h2, h3, h4, h5⟩, rfl, q _ fr⟩
/-- the keys and values of a list of pairs -/
def pairsT : List D → Option (List (List Key) × List D)
  | [] => some ([], [])
  | .tup [.tup k, d] :: r => match D.keyL k, pairsT r with
    | some ks, some (kss, ds) => some (ks :: kss, d :: ds)
    | _, _ => none
  | _ => none
def dictTD : D → Option D
  | .lst xs => match pairsT xs with
    | some (ks, ds) => if ks.Nodup then some (.dit ks ds) else none
    | none => none
  | _ => none
theorem pairsT_cons {d : D} {r : List D} {ks : List (List Key)} {zs : List D} (h : pairsT (d :: r) = some (ks, zs)) : ∃ k x kk ks' zs', d = .tup [.tup k, x] ∧ D.keyL k = some kk ∧ pairsT r = some (ks', zs') ∧ ks = kk :: ks' ∧ zs = x :: zs' := by
  unfold pairsT at h
  split at h
  · rename_i e; cases e
  · rename_i k x r' e
    cases e
    split at h
    · rename_i kk ks' zs' e1 e2
      cases h
      exact ⟨k, x, kk, ks', zs', rfl, e1, e2, rfl, rfl⟩
    · cases h
  · cases h
theorem reps_pairs {H : Hp} {K : PySem.W.Frag} : ∀ (ds : List D) {vs : List V} {ks : List (List Key)} {zs : List D}, RepL K im H vs ds → pairsT ds = some (ks, zs) →
    ∃ (ps : List Addr) (kvs : List (List Key × Addr × V)), vs = ps.map V.ref ∧ Paired (fun p kv => SqT K H p [.ref kv.2.1, kv.2.2] ∧ H kv.2.1 = some (.tup (kv.1.map kV))) ps kvs ∧ kvs.map (·.1) = ks ∧ RepL K im H (kvs.map (·.2.2)) zs
  | [], _, _, _, r, h => by
    cases r
    cases h
    exact ⟨[], [], rfl, .nil, rfl, .nil⟩
  | d :: ds, _, ks, zs, r, h => by
    obtain ⟨k, x, kk, ks', zs', rfl, e1, e2, rfl, rfl⟩ := pairsT_cons h
    cases r with
    | @cons v vs _ _ r1 r2 =>
      obtain ⟨ps, kvs, rfl, hp, hk, hz⟩ := reps_pairs ds r2 e2
      cases r1 with
      | @tup a us _ h1 h2 =>
        cases h2 with
        | cons h3 h4 =>
          cases h4 with
          | cons h5 h6 =>
            cases h6
            cases h3 with
            | @tup a2 us2 _ g1 g2 =>
              have ek := g2.key e1
              refine ⟨a :: ps, (kk, a2, _) :: kvs, rfl, .cons ⟨.inl (.inl h1), ?_⟩ hp, by rw [List.map_cons, hk], .cons h5 hz⟩
              show H a2 = _
              rw [← ek]
              exact g1
theorem EP.newT {pins : List (Addr × Obj)} {σ : L2.St} {H : Hp} {p : Addr} {ks : List (List Key)} {vs : List V} {ds : List D} {Q : VK} {s' : Shared} (hp : H p = none) (I : Inv X pins σ (upd H p (.dT (ks.zip vs))) s') (hl : ks.length = vs.length) (r : RepL X.K im H vs ds)
    (q : ∀ v H', Same H H' → Rep X.K im H' v (.dit ks ds) → Q v H') : EP X pins σ Q (.ref p) s' := by
  obtain ⟨o, J⟩ := Inv.lock I upd_same trivial
  rw [upd_upd] at J
  have sm : Same H (upd H p (.frz o (.dT (ks.zip vs)))) := Same.new hp
  exact ⟨.ref p, _, J, rfl, q _ _ sm (.dit upd_same hl (r.up (.of sm)))⟩
theorem call_dictTD (hu : X.A.units + 200 < cLine) (hcalm : X.calm = true) : CallR X (.type "dict") (rDN X.K im (un1 dictTD)) := by
  intro pins s σ H xs us Q I r h
  obtain ⟨ds, z, hd, hz, q⟩ := h
  obtain ⟨v, d, rfl, hd, hz⟩ := un1_ok hd hz
  cases hd with
  | @lst a vs ds h1 h2 =>
    unfold dictTD at hz
    dsimp only at hz
    split at hz
    · rename_i ks zs e
      split at hz
      · rename_i hnd
        cases hz
        obtain ⟨ps, kvs, rfl, hp, hk, hr⟩ := reps_pairs _ h2 e
        refine thn (call_dictTP hu hcalm pins s σ H _ us (fun v H1 => ∃ p, v = .ref p ∧ H1 = upd H p (.dT (kvs.map fun q => (q.1, q.2.2))) ∧ H p = none) I r ⟨a, ps, kvs, rfl, h1.l, hp, by rw [hk]; exact hnd, fun p hn => ⟨p, rfl, rfl, hn⟩⟩) fun u s' hh => ?_
        obtain ⟨w, H1, J, r', p, rfl, rfl, hp⟩ := hh
        cases r'
        have ez : (kvs.map fun q => (q.1, q.2.2)) = ks.zip (kvs.map (·.2.2)) := by
          rw [← hk, List.zip_map']
        rw [ez] at J
        exact EP.newT hp J (by rw [← hk, List.length_map, List.length_map]) hr q
      · cases hz
    · cases hz
  | _ => simp [dictTD] at hz
def lenTD : D → Option D
  | .dit ks _ => some (.int ks.length)
  | _ => none
def listTD : D → Option D
  | .dit ks _ => some (.lst (ks.map fun k => .tup (k.map kD')))
  | _ => none
theorem call_lenTD : CallR X (.builtin "len") (rDN X.K im (un1 lenTD)) := by
  intro pins s σ H xs us Q I r h
  obtain ⟨ds, z, hd, hz, q⟩ := h
  obtain ⟨v, d, rfl, hd, hz⟩ := un1_ok hd hz
  cases hd with
  | @dit a o ks vs ds h1 h2 h3 =>
    cases hz
    obtain ⟨u, rfl, rx⟩ := vals1 r
    obtain rfl : u = .ref a := rx
    obtain ⟨z, hd, ys, rel, dd⟩ := dt_rd I.hok (.inr ⟨_, h1⟩)
    have hl : (ks.zip vs).length = ys.length := Paired.length rel
    have hk : (ks.zip vs).length = ks.length := by rw [List.length_zip]; omega
    refine call_len_dictH hd dd (by rw [← hl]; rw [sizeLine_eq] at z; omega) ?_
    rw [← hl, hk]
    exact ⟨.int ((ks.length : Nat) : Int), H, I.tok _, ⟨_, rfl⟩, q _ _ (Same.refl _) (.int _)⟩
  | _ => simp [lenTD] at hz
theorem reps_keys {H : Hp} {K : PySem.W.Frag} : ∀ {ks : List (List Key)} {vs : List V} {bs : List Addr}, ks.length = vs.length → IsKeys H (ks.zip vs) bs → RepL K im H (bs.map V.ref) (ks.map fun k => D.tup (k.map kD'))
  | [], vs, bs, _, h => by
    cases h
    exact .nil
  | k :: ks, [], _, hl, _ => by simp at hl
  | k :: ks, v :: vs, _, hl, h => by
    cases h with
    | cons h1 h2 => exact .cons (.tup h1 (RepL.ofKeys k)) (reps_keys (by simpa using hl) h2)
theorem call_listTD (hcalm : X.calm = true) : CallR X (.type "list") (rDN X.K im (un1 listTD)) := by
  intro pins s σ H xs us Q I r h
  obtain ⟨ds, z, hd, hz, q⟩ := h
  obtain ⟨v, d, rfl, hd, hz⟩ := un1_ok hd hz
  cases hd with
  | @dit a o ks vs ds h1 h2 h3 =>
    cases hz
    refine thn (call_list_dT hcalm pins s σ H _ us (fun v H1 => ∃ p bs, v = .ref p ∧ H1 = upd H p (.lst (bs.map V.ref)) ∧ H p = none ∧ IsKeys H (ks.zip vs) bs) I r ⟨a, ks.zip vs, rfl, .inr ⟨_, h1⟩, fun p bs hn hk => ⟨p, bs, rfl, rfl, hn, hk⟩⟩) fun u s' hh => ?_
    obtain ⟨w, H1, J, r', p, bs, rfl, rfl, hp, hk⟩ := hh
    cases r'
    exact EP.newL hp J (reps_keys h2 hk) q
  | _ => simp [listTD] at hz
def prsI : List D → Option (List (Int × Int))
  | [] => some []
  | .tup [.int i, .int j] :: r => (prsI r).map ((i, j) :: ·)
  | _ => none
def intP (q : Int × Int) : D := .tup [.int q.1, .int q.2]
def leP (p q : Int × Int) : Prop := p.1 < q.1 ∨ (p.1 = q.1 ∧ p.2 ≤ q.2)
instance {p q : Int × Int} : Decidable (leP p q) := by unfold leP; infer_instance
def insP (q : Int × Int) : List (Int × Int) → List (Int × Int)
  | [] => [q]
  | x :: xs => if leP q x then q :: x :: xs else x :: insP q xs
def sortP : List (Int × Int) → List (Int × Int)
  | [] => []
  | x :: xs => insP x (sortP xs)
theorem leP_no {p q : Int × Int} (h : ¬ leP p q) : leP q p := by unfold leP at *; omega
theorem leP_tr {p q r : Int × Int} (h1 : leP p q) (h2 : leP q r) : leP p r := by unfold leP at *; omega
theorem leP_anti {p q : Int × Int} (h1 : leP p q) (h2 : leP q p) : p = q := by
  unfold leP at *
  have a : p.1 = q.1 := by omega
  have b : p.2 = q.2 := by omega
  exact Prod.ext a b
theorem insP_perm (n : Int × Int) : ∀ ms, (insP n ms).Perm (n :: ms)
  | [] => .refl _
  | m :: ms => by
    unfold insP
    split
    · exact .refl _
    · exact ((insP_perm n ms).cons m).trans (.swap ..)
theorem sortP_perm : ∀ ns, (sortP ns).Perm ns
  | [] => .refl _
  | n :: ns => (insP_perm n _).trans ((sortP_perm ns).cons n)
theorem insP_sorted (n : Int × Int) : ∀ ms, ms.Pairwise leP → (insP n ms).Pairwise leP
  | [], _ => by simp [insP]
  | m :: ms, h => by
    rw [List.pairwise_cons] at h
    unfold insP
    split
    · rename_i c
      refine List.pairwise_cons.mpr ⟨fun a ha => ?_, List.pairwise_cons.mpr h⟩
      rcases List.mem_cons.mp ha with e | e
      · rw [e]; exact c
      · exact leP_tr c (h.1 a e)
    · rename_i c
      refine List.pairwise_cons.mpr ⟨fun a ha => ?_, insP_sorted n ms h.2⟩
      rcases List.mem_cons.mp ((insP_perm n ms).mem_iff.mp ha) with e | e
      · rw [e]; exact leP_no c
      · exact h.1 a e
theorem sortP_sorted : ∀ ns, (sortP ns).Pairwise leP
  | [] => .nil
  | n :: ns => insP_sorted n _ (sortP_sorted ns)
theorem sortP_unique : ∀ {xs ys : List (Int × Int)}, xs.Perm ys → xs.Pairwise leP → ys.Pairwise leP → xs = ys
  | [], ys, p, _, _ => by rw [List.nil_perm.mp p]
  | x :: xs, [], p, _, _ => by have := p.length_eq; simp at this
  | x :: xs, y :: ys, p, h1, h2 => by
    have e : x = y := by
      have a : x ∈ y :: ys := p.mem_iff.mp (List.mem_cons_self ..)
      have b : y ∈ x :: xs := p.mem_iff.mpr (List.mem_cons_self ..)
      rw [List.pairwise_cons] at h1 h2
      rcases List.mem_cons.mp a with q | q
      · exact q
      · rcases List.mem_cons.mp b with r | r
        · exact r.symm
        · exact leP_anti (h1.1 y r) (h2.1 x q)
    subst e
    rw [sortP_unique (List.Perm.cons_inv p) (List.pairwise_cons.mp h1).2 (List.pairwise_cons.mp h2).2]
def sortedPD : D → Option D
  | .lst xs => (prsI xs).map fun ps => .lst ((sortP ps).map intP)
  | _ => none
theorem prsI_map : ∀ {ds : List D} {ps : List (Int × Int)}, prsI ds = some ps → ds = ps.map intP := by
  intro ds
  induction ds with
  | nil => intro ps h; cases h; rfl
  | cons d ds ih =>
    intro ps h
    unfold prsI at h
    split at h
    · rename_i e; cases e
    · rename_i i j r e
      cases e
      obtain ⟨qs, e1, rfl⟩ := Option.map_eq_some_iff.mp h
      rw [List.map_cons, ← ih e1]
      rfl
    · cases h
/-- which pair a thing is -/
def kP (H : Hp) : V → Int × Int
  | .ref t => match H t with
    | some (.tup [.int i, .int j]) => (i, j)
    | _ => (0, 0)
  | _ => (0, 0)
theorem reps_prs {H : Hp} {K : PySem.W.Frag} : ∀ {ps : List (Int × Int)} {vs : List V}, RepL K im H vs (ps.map intP) → vs.map (kP H) = ps ∧ ∀ x ∈ vs, ∃ t, x = V.ref t ∧ H t = some (.tup [.int (kP H x).1, .int (kP H x).2])
  | [], vs, r => by cases r; exact ⟨rfl, fun x hx => absurd hx (by simp)⟩
  | p :: ps, _, r => by
    cases r with
    | @cons v vs _ _ r1 r2 =>
      obtain ⟨h1, h2⟩ := reps_prs r2
      cases r1 with
      | @tup a us _ g1 g2 =>
        cases g2 with
        | cons g3 g4 =>
          cases g4 with
          | cons g5 g6 =>
            cases g6
            cases g3
            cases g5
            have g1' : H a = some (.tup [.int p.1, .int p.2]) := g1
            have ek : kP H (.ref a) = p := by
              show (match H a with
                | some (.tup [.int i, .int j]) => (i, j)
                | _ => (0, 0)) = p
              rw [g1']
            refine ⟨by rw [List.map_cons, ek, h1], fun x hx => ?_⟩
            rcases List.mem_cons.mp hx with e | hx
            · subst e
              rw [ek]
              exact ⟨a, rfl, g1'⟩
            · exact h2 x hx
theorem reps_back {H : Hp} {K : PySem.W.Frag} : ∀ {vs : List V}, (∀ x ∈ vs, ∃ t, x = V.ref t ∧ H t = some (.tup [.int (kP H x).1, .int (kP H x).2])) → RepL K im H vs ((vs.map (kP H)).map intP)
  | [], _ => .nil
  | v :: vs, h => by
    obtain ⟨t, e, g⟩ := h v (List.mem_cons_self ..)
    refine .cons ?_ (reps_back fun x hx => h x (List.mem_cons_of_mem _ hx))
    rw [e]
    rw [e] at g
    exact .tup g (.cons (.int _) (.cons (.int _) .nil))
theorem call_sortedPD : CallR X (.builtin "sorted") (rDN X.K im (un1 sortedPD)) := by
  intro pins s σ H xs us Q I r h
  obtain ⟨ds, z, hd, hz, q⟩ := h
  obtain ⟨v, d, rfl, hd, hz⟩ := un1_ok hd hz
  cases hd with
  | @lst a vs ds h1 h2 =>
    obtain ⟨ps, e, rfl⟩ := Option.map_eq_some_iff.mp hz
    obtain rfl := prsI_map e
    obtain ⟨m1, m2⟩ := reps_prs h2
    refine thn (cr_sortedPO pins s σ H _ us (fun v H1 => ∃ p ys, v = .ref p ∧ H1 = upd H p (.lst ys) ∧ H p = none ∧ RepL X.K im H ys ((sortP ps).map intP)) I r ⟨a, vs, kP H, rfl, h1.l, m2, fun ys p h3 h4 hn => ⟨p, ys, rfl, rfl, hn, ?_⟩⟩) fun u s' hh => ?_
    · have hp : (ys.map (kP H)).Perm ps := by rw [← m1]; exact h4.perm.map _
      have hs : (ys.map (kP H)).Pairwise leP := by
        refine List.pairwise_map.mpr (List.Pairwise.imp (fun {x y} hxy => ?_) h3)
        have := SrtO.lexB_no.mp hxy
        unfold leP
        omega
      rw [← sortP_unique (hp.trans (sortP_perm ps).symm) hs (sortP_sorted ps)]
      exact reps_back fun x hx => m2 x (h4.perm.mem_iff.mp hx)
    · obtain ⟨w, H1, J, r', p, ys, rfl, rfl, hp, hr⟩ := hh
      cases r'
      exact EP.newL hp J hr q
  | _ => simp [sortedPD] at hz
end
section
variable {im : Addr → Bool} {Ω : Type} {G : Gam im Ω} {K : PySem.W.Frag} {W : WX} {ta te : TE} {Fa Fe : E Ω D} {tr : TA} {Fr : E Ω (List D)}
def eGetT2 (a : E Ω D) (r : E Ω (List D)) (e : E Ω D) : E Ω D := fun τ ω => (a τ ω).bind fun x ω1 => match x with
  | .dit ks ds => (r τ ω1).bind fun xs ω2 => match D.keyL xs with
    | some k => if k.length ≤ 1000 then (e τ ω2).bind fun z ω3 => .ok ((lkp ks ds k).getD z) ω3 else .no
    | none => .no
  | _ => .no
theorem de_getT2 (ha : DE G K W ta Fa) (hr : DA G K W tr Fr) (he : DE G K W te Fe) : DE G K W (tDGet2 ta (tTup tr) te) (eGetT2 Fa Fr Fe) := by
  intro H0 σ H ω τ s t Q h
  refine ha H0 σ H ω τ s t _ (Res.imp (Res.bind h) (fun x ω1 H1 k1 t1 h1 v r => ?_) fun _ _ _ _ _ q => q)
  have h2 := h1.mono k1
  cases r with
  | @dit a o ks vs ds a1 a2 a3 =>
    refine ⟨a, rfl, .inr ⟨_, .inr ⟨_, a1⟩⟩, ?_⟩
    have s1 := s.step t k1
    refine hr H0 σ H1 ω1 τ s1 t1 _ (Res.imp (Res.bind h2) (fun xs ω2 H2 k2 t2 h3 us r2 => ?_) fun _ _ _ _ _ q => q)
    have h4 := h3.mono k2
    cases ek : D.keyL xs with
    | none => rw [ek] at h4; exact h4.elim
    | some k =>
    rw [ek] at h4
    dsimp only at h4
    split at h4
    case isFalse => exact h4.elim
    rename_i hk
    refine ⟨by rw [r2.length, ← keyL_len ek]; exact line1000 hk, fun p hp => ?_⟩
    have sm : Same H2 (upd H2 p (.tup us)) := Same.new hp
    have nf : ¬ G.FP p := fun f => G.trk t2 p f hp
    have t3 := At.same t2 sm
    refine he H0 σ _ ω2 τ ((s1.step t1 k2).step t2 (.of sm)) t3 _ (Res.imp (Res.bind (h4.mono (.of sm))) (fun z ω3 H3 k3 t4 h5 v3 r3 => ?_) fun _ _ _ _ _ q => q)
    have h6 := h5.mono k3
    have sb : Sb im H1 H3 := ((k2.sb t1).trans (.of sm)).trans (k3.sb t3)
    have rr := a3.up sb
    have hp3 : H3 p = some (.tup us) := k3 p _ upd_same nf
    refine ⟨_, .inr ⟨_, k, p, .inr ⟨o, sb a _ a1 trivial⟩, rfl, by rw [hp3, r2.key ek], rfl⟩, ?_⟩
    refine h6 _ .refl t4 _ ?_
    cases el : lkp ks ds k with
    | none => rw [(lkp_val k a2 rr).2 el]; exact r3
    | some z => obtain ⟨v, hv, rv⟩ := (lkp_val k a2 rr).1 z el; rw [hv]; exact rv
  | _ => exact h2.elim
theorem wp_eGetT2 {τ : Tau} {ω : Ω} {P : D → Ω → Prop} {X} (h : (Fa τ ω).wp (fun x ω1 => ∃ ks ds, x = .dit ks ds ∧ (Fr τ ω1).wp (fun xs ω2 => ∃ k, D.keyL xs = some k ∧ k.length ≤ 1000 ∧ (Fe τ ω2).wp (fun z ω3 => P ((lkp ks ds k).getD z) ω3) X) X) X) : (eGetT2 Fa Fr Fe τ ω).wp P X := by
  unfold eGetT2; rw [wp_bind]
  refine h.mono ?_
  rintro x ω1 ⟨ks, ds, rfl, h⟩
  dsimp only
  rw [wp_bind]
  refine h.mono ?_
  rintro xs ω2 ⟨k, e, hk, h⟩
  rw [e]
  dsimp only
  rw [if_pos hk, wp_bind]
  refine h.mono ?_
  intro z ω3 h
  exact Eq.mpr wp_ok h
end
end DL
namespace Lk
open PySem L2 DL
def topS (i : Nat) : Stmt := PySem.Challenge.pw_lumpplans_k19_lumps_of_shapes.main.body.getD i (.Pass ⟨0, 0, 0, 0⟩)
abbrev s_note_parts : Stmt := topS 1
abbrev s_lump_parts : Stmt := topS 2
abbrev s_is_shape_lump : Stmt := topS 3
abbrev s_lump_part : Stmt := topS 4
abbrev s_law_source : Stmt := topS 6
abbrev s_law_pick : Stmt := topS 7
abbrev s_law_of : Stmt := topS 8
abbrev s_law_size : Stmt := topS 9
abbrev s_law_shape : Stmt := topS 10
abbrev s_law_lumps : Stmt := topS 11
abbrev s_law : Stmt := topS 12
/-- the source's first state -/
def mixedOf (ns : List Int) : Int := ns.foldl (fun m c => (m * 69069 + c * 31 + 5) % 2147483629) 11
def srcOf (ns : List Int) : Src := { cells := ns.map fun i => if i < 0 then -i else i, left := 1, mixed := mixedOf ns, turn := 0 }
def spSource (K : PySem.W.Frag) (im : Addr → Bool) : Sp := fun vs H Q _ => ∃ (a : Addr) (ns : List Int), vs = [.ref a] ∧ SqL K H a (ns.map V.int) ∧ ns.length ≤ 100000 ∧
  ∀ p H', Same H H' → H p.1 = none → H p.2 = none → (srcG im p).At (srcOf ns) H' → Q (.ref p.1) H'
def B_note_parts (rec : List D → OW → R OW D) : S OW :=
  (sSeq (sAsg (eOp addD (eVar 1) (eC (.int 1))) (bName 3))
    (sSeq (sIf (eB (eOp neD (eVar 0) (eTup aNil))) (sSeq (sAsg (cW rec 2 (aCons (eOp ixD (eVar 0) (eC (.int 0))) (aCons (eVar 1) aNil))) (bName 4))
    (sAsg (cW rec 2 (aCons (eOp ixD (eVar 0) (eC (.int 1))) (aCons (eVar 4) aNil))) (bName 3))) sNx)
    (sSeq (sPutTs 2 (aCons (eVar 1) (aCons (eVar 3) aNil)) (eVar 0))
    (sRet (eVar 3)))))
def F_note_parts : Nat → List D → OW → R OW D
  | 0 => fun _ _ => .no
  | n + 1 => fun ds ω => nox (runS (B_note_parts (F_note_parts n)) (startT 5 (cellsJ 2 ds)) ω)
def B_lump_parts : S Unit :=
  (sSeq (sNewT 1)
    (sSeq (sCallW (F_note_parts 70) 1 (aCons (eVar 0) (aCons (eC (.int 0)) aNil)) fun _ τ => some τ)
    (sRetW 1)))
def F_lump_parts : List D → R Unit D := fun ds => nox (runS B_lump_parts (startT 2 (ds.map .d)) ())
def B_is_shape_lump : S Unit :=
  (sRet (eDiX (aCons (eVar 1) (aCons (eVar 2) aNil)) (cD F_lump_parts (aCons (eVar 0) aNil))))
def F_is_shape_lump : List D → R Unit D := fun ds => nox (runS B_is_shape_lump (startT 3 (ds.map .d)) ())
def B_lump_part : S Unit :=
  (sRet (eGetT (cD F_lump_parts (aCons (eVar 0) aNil)) (aCons (eVar 1) (aCons (eVar 2) aNil))))
def F_lump_part : List D → R Unit D := fun ds => nox (runS B_lump_part (startT 3 (ds.map .d)) ())
def B_law_pick : S Src :=
  (sSeq (sWhile (fun _ ω => ω.cells.length + 2) (bAnd (eB (eOp gtD (eVar 1) (eC (.int 1)))) (bAnd (eB (eOp ltD (eSrc 0 Src.left) (eC (.int 2)))) (eB (eOp gtD (eSrcN 0) (eC (.int 0)))))) (sSrc 0 (fun ω z => { ω with left := z }) (eSrcP 0)))
    (sSeq (sAsg (eSrc 0 Src.left) (bName 2))
    (sSeq (sIf (bOr (eB (eOp ltD (eVar 1) (eC (.int 2)))) (eB (eOp gtD (eVar 2) (eC (.int 1))))) (sSeq (sSrc 0 (fun ω z => { ω with left := z }) (eOp fdivD (eVar 2) (eCall (bi2 max2D) (aCons (eC (.int 1)) (aCons (eVar 1) aNil)))))
    (sRet (eOp modD (eCall (un1 intD) (aCons (eVar 2) aNil)) (eCall (bi2 max2D) (aCons (eC (.int 1)) (aCons (eVar 1) aNil)))))) sNx)
    (sSeq (sSrc 0 (fun ω z => { ω with turn := z }) (eOp addD (eSrc 0 Src.turn) (eC (.int 1))))
    (sSeq (sAsg (eOp modD (eCall (un1 intD) (aCons (eOp addD (eSrc 0 Src.mixed) (eOp mulD (eSrc 0 Src.turn) (eC (.int 104729)))) aNil)) (eC (.int 998244353))) (bName 3))
    (sSeq (sAsg (eOp modD (eCall (un1 intD) (aCons (eOp addD (eOp mulD (eVar 3) (eVar 3)) (eOp mulD (eSrc 0 Src.turn) (eC (.int 17)))) aNil)) (eC (.int 2147483647))) (bName 3))
    (sSeq (sSrc 0 (fun ω z => { ω with mixed := z }) (eVar 3))
    (sRet (eOp modD (eCall (un1 intD) (aCons (eOp fdivD (eVar 3) (eC (.int 16))) aNil)) (eVar 1))))))))))
def F_law_pick : List D → Src → R Src D := fun ds ω => nox (runS B_law_pick (startT 4 (.src :: ds.map .d)) ω)
def B_law_of : S Src :=
  (sRet (eOp ixD (eVar 1) (cW F_law_pick 0 (aCons (eCall (un1 lenD) (aCons (eVar 1) aNil)) aNil))))
def F_law_of : List D → Src → R Src D := fun ds ω => nox (runS B_law_of (startT 2 (.src :: ds.map .d)) ω)
def B_law_size (rec : List D → R Unit D) : S Unit :=
  (sRet (eIf (eB (eOp eqD (eVar 0) (eTup aNil))) (eC (.int 1)) (eOp addD (cD rec (aCons (eOp ixD (eVar 0) (eC (.int 0))) aNil)) (cD rec (aCons (eOp ixD (eVar 0) (eC (.int 1))) aNil)))))
def F_law_size : Nat → List D → R Unit D
  | 0 => fun _ => .no
  | n + 1 => fun ds => nox (runS (B_law_size (F_law_size n)) (startT 1 (ds.map .d)) ())
def B_law_shape (rec : List D → Src → R Src D) : S Src :=
  (sSeq (sIf (eB (eOp eqD (eVar 1) (eC (.int 1)))) (sRet (eTup aNil)) sNx)
    (sSeq (sAsg (cW F_law_of 0 (aCons (eFrz (eLst (aCons (eOp addD (eC (.int 1)) (cW F_law_pick 0 (aCons (eOp subD (eVar 1) (eC (.int 1))) aNil))) (aCons (eOp addD (eC (.int 1)) (cW F_law_pick 0 (aCons (eOp subD (eVar 1) (eC (.int 1))) aNil))) (aCons (eOp fdivD (eVar 1) (eC (.int 2))) (aCons (eC (.int 1)) (aCons (eOp subD (eVar 1) (eC (.int 1))) aNil))))))) aNil)) (bName 2))
    (sRet (eTup (aCons (cW rec 0 (aCons (eVar 2) aNil)) (aCons (cW rec 0 (aCons (eOp subD (eVar 1) (eVar 2)) aNil)) aNil))))))
def F_law_shape : Nat → List D → Src → R Src D
  | 0 => fun _ _ => .no
  | n + 1 => fun ds ω => nox (runS (B_law_shape (F_law_shape n)) (startT 3 (.src :: ds.map .d)) ω)
def B_law_lumps (rec : List D → R Unit D) : S Unit :=
  (sSeq (sIf (eB (eOp eqD (eVar 0) (eTup aNil))) (sRet (eFrz (eLst (aCons (eTup (aCons (eVar 1) (aCons (eOp addD (eVar 1) (eC (.int 1))) (aCons (eTup aNil) aNil)))) aNil)))) sNx)
    (sSeq (sAsg (cD rec (aCons (eOp ixD (eVar 0) (eC (.int 0))) (aCons (eVar 1) aNil))) (bName 2))
    (sSeq (sAsg (cD rec (aCons (eOp ixD (eVar 0) (eC (.int 1))) (aCons (eOp ixD (eOp ixD (eVar 2) (eC (.int 0))) (eC (.int 1))) aNil))) (bName 3))
    (sRet (eOp addD (eOp addD (eFrz (eLst (aCons (eTup (aCons (eVar 1) (aCons (eOp ixD (eOp ixD (eVar 3) (eC (.int 0))) (eC (.int 1))) (aCons (eVar 0) aNil)))) aNil))) (eVar 2)) (eVar 3))))))
def F_law_lumps : Nat → List D → R Unit D
  | 0 => fun _ => .no
  | n + 1 => fun ds => nox (runS (B_law_lumps (F_law_lumps n)) (startT 4 (ds.map .d)) ())
def B_law : S Src :=
  (sSeq (sFor (iSq (eFrz (eLst (aCons (eC (.int 5)) (aCons (eC (.int 12)) (aCons (eC (.int 60)) aNil)))))) (bName 2) (sSeq (sAsg (cW (F_law_shape 70) 1 (aCons (eOp addD (eC (.int 1)) (cW F_law_pick 1 (aCons (eVar 2) aNil))) aNil)) (bName 3))
    (sSeq (sAsg (eTup (aCons (cD (F_law_size 70) (aCons (eVar 3) aNil)) (aCons (eCall (un1 dictTD) (aCons (eFrz (eLc [7, 8, 14] (iSq (cD (F_law_lumps 70) (aCons (eVar 3) (aCons (eC (.int 0)) aNil)))) (bTup 3 (bCons (bName 7) (bCons (bName 8) (bCons (bName 14) bNil)))) bYes (eTup (aCons (eTup (aCons (eVar 7) (aCons (eVar 8) aNil))) (aCons (eVar 14) aNil))))) aNil)) aNil))) (bTup 2 (bCons (bName 4) (bCons (bName 5) bNil))))
    (sSeq (sIf (eB (eOp neD (eCall (un1 lenTD) (aCons (eVar 5) aNil)) (eOp subD (eOp mulD (eC (.int 2)) (eVar 4)) (eC (.int 1))))) (sRet (eC (.bl false))) sNx)
    (sSeq (sSetO (eAddL (eCall (un1 listTD) (aCons (eVar 5) aNil)) (eFrz (eLc [13] (iRg rg1 (aCons (eC (.int 12)) aNil)) (bName 13) bYes (eTup (aCons (eOp subD (cW F_law_pick 1 (aCons (eOp addD (eVar 4) (eC (.int 3))) aNil)) (eC (.int 1))) (aCons (eOp subD (cW F_law_pick 1 (aCons (eOp addD (eVar 4) (eC (.int 3))) aNil)) (eC (.int 1))) aNil)))))) 6)
    (sSeq (sPre 6 (sSetO (eAddL (eVar 6) (eFrz (eLst (aCons (eTup (aCons (eC (.int 0)) (aCons (eC (.int 0)) aNil))) (aCons (eTup (aCons (eC (.int 0)) (aCons (eOp addD (eVar 4) (eC (.int 1))) aNil))) (aCons (eTup (aCons (eUn negD (eC (.int 1))) (aCons (eVar 4) aNil))) (aCons (eTup (aCons (eVar 4) (aCons (eC (.int 0)) aNil))) (aCons (eTup (aCons (eVar 4) (aCons (eVar 4) aNil))) (aCons (eTup (aCons (eUn negD (eC (.int 1))) (aCons (eC (.int 0)) aNil))) (aCons (eTup (aCons (eVar 4) (aCons (eOp addD (eVar 4) (eC (.int 1))) aNil))) aNil)))))))))) 6))
    (sSeq (sApp 6 (eTup (aCons (eOp powD (eC (.int 10)) (eC (.int 30))) (aCons (eUn negD (eOp powD (eC (.int 10)) (eC (.int 30)))) aNil))))
    (sSeq (sPre 6 (sFor (iSq (eVar 6)) (bTup 2 (bCons (bName 7) (bCons (bName 8) bNil))) (sSeq (sIf (eB (eOp neD (eCall (un1 reprD) (aCons (cD F_is_shape_lump (aCons (eVar 3) (aCons (eVar 7) (aCons (eVar 8) aNil)))) aNil)) (eCall (un1 reprD) (aCons (eDiT (fun b => b) (pT 5) (aCons (eVar 7) (aCons (eVar 8) aNil))) aNil)))) (sRet (eC (.bl false))) sNx)
    (sIf (eB (eOp neD (eCall (un1 reprD) (aCons (cD F_lump_part (aCons (eVar 3) (aCons (eVar 7) (aCons (eVar 8) aNil)))) aNil)) (eCall (un1 reprD) (aCons (eGetT2 (eVar 5) (aCons (eVar 7) (aCons (eVar 8) aNil)) (eC .non)) aNil)))) (sRet (eC (.bl false))) sNx))))
    (sSeq (sAsg (eIf (eB (eOp ltD (eVar 4) (eC (.int 13)))) (eFrz (eLRg (rRg1 (eVar 4)))) (eFrz (eLc [13] (iRg rg1 (aCons (eC (.int 3)) aNil)) (bName 13) bYes (cW F_law_pick 1 (aCons (eVar 4) aNil))))) (bName 9))
    (sSeq (sFor (iSq (eVar 9)) (bName 7) (sSeq (sFz 10 (sSetO (eLc [8] (iRg rg1 (aCons (eOp addD (eVar 4) (eC (.int 2))) aNil)) (bName 8) (eB (cD F_is_shape_lump (aCons (eVar 3) (aCons (eVar 7) (aCons (eVar 8) aNil))))) (eTup (aCons (eVar 7) (aCons (eVar 8) aNil)))) 10))
    (sIf (eB (eOp neD (eVar 10) (eCall (un1 sortedPD) (aCons (eFrz (eLc [15] (iKy (eVar 5)) (bName 15) (eB (eOp eqD (eOp ixD (eVar 15) (eC (.int 0))) (eVar 7))) (eVar 15))) aNil)))) (sRet (eC (.bl false))) sNx)))
    (sFor (iSq (eSl (eCall (un1 listTD) (aCons (eVar 5) aNil)) oNone (oSome (eC (.int 20))))) (bTup 2 (bCons (bName 7) (bCons (bName 8) bNil))) (sIf (eB (eOp neD (eFrz (eLc [16, 17] (iKy (eVar 5)) (bTup 2 (bCons (bName 16) (bCons (bName 17) bNil))) (bOr (eB (eChain4 ltD ltD ltD (eVar 7) (eVar 16) (eVar 8) (eVar 17))) (eB (eChain4 ltD ltD ltD (eVar 16) (eVar 7) (eVar 17) (eVar 8)))) (eC (.int 1)))) (eFrz (eLst aNil)))) (sRet (eC (.bl false))) sNx))))))))))))
    (sSeq (sAsg (eTup (aCons (eTup aNil) (aCons (eTup aNil) aNil))) (bTup 2 (bCons (bName 11) (bCons (bName 12) bNil))))
    (sSeq (sFor (iRg rg1 (aCons (eC (.int 59)) aNil)) (bName 13) (sPar 11 12 (eTup (aCons (eVar 11) (aCons (eTup aNil) aNil))) (eTup (aCons (eTup aNil) (aCons (eVar 12) aNil)))))
    (sSeq (sAsg (eFrz (eLst (aCons (cD F_is_shape_lump (aCons (eVar 11) (aCons (eC (.int 0)) (aCons (eC (.int 40)) aNil)))) (aCons (cD F_is_shape_lump (aCons (eVar 11) (aCons (eC (.int 20)) (aCons (eC (.int 60)) aNil)))) aNil)))) (bName 10))
    (sSeq (sIf (eB (eOp neD (eOp addD (eVar 10) (eFrz (eLst (aCons (cD F_is_shape_lump (aCons (eVar 12) (aCons (eC (.int 20)) (aCons (eC (.int 60)) aNil)))) (aCons (cD F_is_shape_lump (aCons (eVar 12) (aCons (eC (.int 0)) (aCons (eC (.int 40)) aNil)))) aNil))))) (eFrz (eLst (aCons (eC (.bl true)) (aCons (eC (.bl false)) (aCons (eC (.bl true)) (aCons (eC (.bl false)) aNil)))))))) (sRet (eC (.bl false))) sNx)
    (sRet (eAnd (eOp eqD (cD F_lump_part (aCons (eTup (aCons (eTup (aCons (eTup aNil) (aCons (eTup aNil) aNil))) (aCons (eTup aNil) aNil))) (aCons (eC (.int 0)) (aCons (eC (.int 2)) aNil)))) (eTup (aCons (eTup aNil) (aCons (eTup aNil) aNil)))) (eOp isND (cD F_lump_part (aCons (eTup (aCons (eTup (aCons (eTup aNil) (aCons (eTup aNil) aNil))) (aCons (eTup aNil) aNil))) (aCons (eC (.int 1)) (aCons (eC (.int 3)) aNil)))) (eC .non)))))))))
def tau0 : Tau := (List.replicate 18 none).set 1 (some .src)
structure Defs (K : PySem.W.Frag) (mg : Str → Option Value) where
  d_note_parts : DefOk K mg "_note_parts" s_note_parts ["shape", "place", "parts"]
  d_lump_parts : DefOk K mg "lump_parts" s_lump_parts ["shape"]
  d_is_shape_lump : DefOk K mg "is_shape_lump" s_is_shape_lump ["shape", "i", "j"]
  d_lump_part : DefOk K mg "lump_part" s_lump_part ["shape", "i", "j"]
  d_law_source : DefOk K mg "_law_source" s_law_source ["_law_script"]
  d_law_pick : DefOk K mg "_law_pick" s_law_pick ["_law_source_here", "_law_many"]
  d_law_of : DefOk K mg "_law_of" s_law_of ["_law_source_here", "_law_some"]
  d_law_size : DefOk K mg "_law_size" s_law_size ["_law_shape_here"]
  d_law_shape : DefOk K mg "_law_shape" s_law_shape ["_law_source_here", "_law_size_here"]
  d_law_lumps : DefOk K mg "_law_lumps" s_law_lumps ["_law_shape_here", "_law_begin"]
  d_law : DefOk K mg "law" s_law ["_law_script"]
  n_int : mg "int" = none
  n_abs : mg "abs" = none
  n_len : mg "len" = none
  n_max : mg "max" = none
  n_dict : mg "dict" = none
  n_list : mg "list" = none
  n_range : mg "range" = none
  n_repr : mg "repr" = none
  n_sorted : mg "sorted" = none
section
variable {P : Program} {w : World} {K : PySem.W.Frag} {mg : Str → Option Value} {base : Heap} {im : Addr → Bool}
theorem ok_law_source (T : Defs K mg) : FnOk P w K mg base CX0 1 T.d_law_source.f T.d_law_source.fd ["_law_script"] (spSource K im) := by
  have Sc : FnScope ["_law_script", "_law_mixed", "_law_cell"] ["_law_script"] (defScope s_law_source) := ⟨rfl, rfl, rfl, by decide +kernel, rfl, by decide +kernel, by decide +kernel⟩
  refine T.d_law_source.F.ok Sc (fun vs H Q E h => ?_) (fun cdv A outer s H vs Q E hr h => ?_)
  · obtain ⟨a, ns, rfl, _⟩ := h
    rfl
  obtain ⟨a, ns, rfl, hS, hlen, k⟩ := h
  refine ⟨_, pss_cons (ps_set (i := 1) Sc.nd rfl (Or.inl rfl) pe_int)
    (pss_cons (ps_for PassesOwn.never rfl (pi_list (pv 0)) (pg_name (i := 2) Sc.nd rfl (Or.inl rfl))
      (pss_one (ps_set (i := 1) Sc.nd rfl (Or.inl rfl) (pe_op op_mod (pe_callTy call_int1 (by rfl) T.n_int (by decide +kernel) (pa_cons (pe_op op_add (pe_op op_add (pe_op op_mul (pv 1) pe_int) (pe_op op_mul (pv 2) pe_int)) pe_int) pa_nil)) pe_int))))
    (pss_one (ps_ret (pe_disp (pps_cons pe_str (pe_revL (pe_lc (own := [("_law_cell", 2)]) rfl Sc.nd (pi_list (pv 0)) (blkOk_by (own := [("_law_cell", 2)]) (N := ["_law_script", "_law_mixed", "_law_cell"]) (sc := defScope s_law_source) (by decide +kernel)) (fun _ _ _ _ _ => (pg_name (i := 2) Sc.nd rfl (Or.inl rfl))) (fun _ _ _ _ _ => pts_nil) (fun _ _ _ _ _ => (pe_callB call_abs (by rfl) T.n_abs (by decide +kernel) (pa_cons (pv 2) pa_nil)))))
      (pps_cons pe_str pe_int (pps_cons pe_str (pv 1) (pps_cons pe_str pe_int pps_nil)))) (by rfl) (by rfl) (fun z => by cases z) (by decide))))), ?_⟩
  refine ⟨_, rfl, a, rfl, ⟨_, hS⟩, for_list (K := K) (a := a) (xs := ns.map V.int) (fun i σ H' => H' = H ∧ ∃ v, σ = [some (.ref a), some (.int (mixedOf (ns.take i))), v]) ⟨rfl, none, rfl⟩ (fun i σ H' _ q => by rw [q.1]; exact hS) ?_ ?_⟩
  · rintro i y σ H' hi ⟨rfl, v, rfl⟩
    obtain ⟨u, hu, rfl⟩ : ∃ u, ns[i]? = some u ∧ y = V.int u := by
      rw [List.getElem?_map] at hi
      cases e : ns[i]? with
      | none => rw [e] at hi; cases hi
      | some u => rw [e] at hi; exact ⟨u, rfl, (Option.some.inj hi).symm⟩
    refine ⟨_, rfl, _, _, rfl, rfl, .inr ⟨by decide, by decide⟩, _, rfl, _, _, rfl, rfl, .inr ⟨by decide, by decide⟩, _, _, rfl, rfl, _, _, rfl, rfl, .inl ⟨_, rfl, _, _, rfl, rfl, (by show (0 : Int) < 2147483629; decide), ?_⟩⟩
    refine ⟨rfl, some (.int u), ?_⟩
    have e : mixedOf (ns.take (i + 1)) = (mixedOf (ns.take i) * 69069 + u * 31 + 5) % 2147483629 := by
      unfold mixedOf
      have hlt : i < ns.length := (List.getElem?_eq_some_iff.mp hu).1
      rw [List.take_succ_eq_append_getElem hlt, List.foldl_append, List.foldl_cons, List.foldl_nil, (List.getElem?_eq_some_iff.mp hu).2]
    rw [e]
    rfl
  · rintro σ H' ⟨rfl, v, rfl⟩
    rw [List.length_map, List.take_length]
    intro p hp
    have sm1 : Same H' (upd H' p (.dK [])) := Same.new hp
    refine ⟨_, rfl, a, rfl, ⟨_, Same.seq sm1 hS⟩, fun D hD => lc_list (K := K) (a := a) (xs := ns.map V.int) (fun i H'' => Same (upd H' p (.dK [])) H'' ∧ H'' D = some (.lst ((ns.take i).map fun z => V.int (if z < 0 then -z else z)))) ⟨Same.new hD, upd_same⟩ (fun i H'' _ q => Same.seq q.1 (Same.seq sm1 hS)) ?_ ?_⟩
    · rintro i y H'' hi ⟨q1, q2⟩
      obtain ⟨u, hu, rfl⟩ : ∃ u, ns[i]? = some u ∧ y = V.int u := by
        rw [List.getElem?_map] at hi
        cases e : ns[i]? with
        | none => rw [e] at hi; cases hi
        | some u => rw [e] at hi; exact ⟨u, rfl, (Option.some.inj hi).symm⟩
      have hlt : i < ns.length := (List.getElem?_eq_some_iff.mp hu).1
      refine ⟨rfl, ?_⟩
      refine ⟨_, rfl, u, rfl, _, q2, ?_, ?_, ?_⟩
      · rw [List.length_map, List.length_take, sizeLine_eq]; omega
      · intro b o e
        have ne : b ≠ D := fun q => by subst q; rw [e] at hD; cases hD
        rw [upd_ne ne]; exact q1 b o e
      · rw [upd_same, List.take_succ_eq_append_getElem hlt, List.map_append, List.map_singleton, (List.getElem?_eq_some_iff.mp hu).2]
    · rintro H'' ⟨q1, q2⟩
      rw [List.length_map, List.take_length] at q2
      refine ⟨D, _, rfl, SqL.of q2, fun c hc => ?_⟩
      refine ⟨_, rfl, ?_⟩
      have hp2 : H'' p = some (.dK []) := q1 p _ upd_same
      have npc : p ≠ c := ne_of_none hp2 hc
      have hcH : H' c = none := by
        cases e : H' c with
        | none => rfl
        | some o => have := q1 c o (sm1 c o e); rw [hc] at this; cases this
      refine ⟨by rw [upd_ne npc]; exact hp2, [(.inr "cells", .ref c), (.inr "left", .int 1), (.inr "mixed", .int (mixedOf ns)), (.inr "turn", .int 0)], rfl, (by show 4 ≤ 15; decide), ?_⟩
      have em : mergeK [] [((.inr "cells" : Key), V.ref c), (.inr "left", .int 1), (.inr "mixed", .int (mixedOf ns)), (.inr "turn", .int 0)] = srcKvs c (srcOf ns) := by
        have h1 : ¬ (("cells" : Str) = "left") := by decide +kernel
        have h2 : ¬ (("cells" : Str) = "mixed") := by decide +kernel
        have h3 : ¬ (("left" : Str) = "mixed") := by decide +kernel
        have h4 : ¬ (("cells" : Str) = "turn") := by decide +kernel
        have h5 : ¬ (("left" : Str) = "turn") := by decide +kernel
        have h6 : ¬ (("mixed" : Str) = "turn") := by decide +kernel
        simp [mergeK, putK, srcKvs, srcOf, h1, h2, h3, h4, h5, h6]
      rw [em]
      refine k (p, c) _ (fun b o e => ?_) hp hcH ⟨upd_same, ?_⟩
      · have n1 : b ≠ p := fun q => by subst q; rw [hp] at e; cases e
        have n2 : b ≠ c := fun q => by subst q; rw [hcH] at e; cases e
        rw [upd_ne n1, upd_ne n2]
        exact q1 b o (sm1 b o e)
      · rw [upd_ne npc.symm, upd_same]
        simp [srcOf, List.map_reverse, List.map_map, Function.comp_def]
theorem ok_note_parts (T : Defs K mg) : ∀ n, FnOk P w K mg base CX0 (0 + n) T.d_note_parts.f T.d_note_parts.fd ["shape", "place", "parts"] (spW K (owG im K) 3 2 (F_note_parts n))
  | 0 => FnOk.no fun _ _ _ _ => spWJ_no
  | n + 1 => by
    have ih := ok_note_parts T n
    have Sc : FnScope ["shape", "place", "parts", "end", "middle"] ["shape", "place", "parts"] (defScope s_note_parts) := ⟨rfl, rfl, rfl, by decide +kernel, rfl, by decide +kernel, by decide +kernel⟩
    refine fn_WxJ (Γ := owG im K) (hj := by decide) (k := 0 + n) (N := ["shape", "place", "parts", "end", "middle"]) (ps := ["shape", "place", "parts"]) (F := B_note_parts (F_note_parts n)) T.d_note_parts.F Sc rfl rfl rfl fun cdv A outer s H Ex hr => ?_
    have hu := room_hu hr
    exact ⟨_, (pss_cons (ps_set (i := 3) Sc.nd rfl (by first | exact Or.inl rfl | exact Or.inr rfl) (pe_op op_addD (pv 1) pe_int))
      (pss_cons (ps_if (pt_cmpR (op_neDD hu) (pv 0) (pe_tup pa_nil) (nomark _)) (pss_cons (ps_set (i := 4) Sc.nd rfl (by first | exact Or.inl rfl | exact Or.inr rfl) (pe_call ih hr rfl T.d_note_parts.g T.d_note_parts.F.kp T.d_note_parts.b .nil pass0 (pa_cons (pe_ix ix_D (pv 0) pe_int (fun _ _ => rfl)) (pa_cons (pv 1) (pa_cons (pv 2) pa_nil)))))
      (pss_one (ps_set (i := 3) Sc.nd rfl (by first | exact Or.inl rfl | exact Or.inr rfl) (pe_call ih hr rfl T.d_note_parts.g T.d_note_parts.F.kp T.d_note_parts.b .nil pass0 (pa_cons (pe_ix ix_D (pv 0) pe_int (fun _ _ => rfl)) (pa_cons (pv 4) (pa_cons (pv 2) pa_nil))))))) pss_nil)
      (pss_cons (ps_dput (hu1 hu) (pv 2) (pe_tup (pa_cons (pv 1) (pa_cons (pv 3) pa_nil))) (pv 0) (by rfl))
      (pss_one (ps_ret (pv 3)))))),
      fun p => (ds_seq (ds_asg (de_op (de_var 1) de_int) dg_name)
      (ds_seq (ds_if (dt_test (de_op (de_var 0) (de_tup da_nil))) (ds_seq (ds_asg (dc_WJ (daj_next (de_op (de_var 0) de_int) (daj_next (de_var 1) (daj_here da_nil))) (an_cons (an_cons an_nil))) dg_name)
      (ds_asg (dc_WJ (daj_next (de_op (de_var 0) de_int) (daj_next (de_var 4) (daj_here da_nil))) (an_cons (an_cons an_nil))) dg_name)) ds_nx)
      (ds_seq (ds_putTs (da_cons (de_var 1) (da_cons (de_var 3) da_nil)) (de_var 0))
      (ds_ret (de_var 3)))))⟩
theorem ok_lump_parts (T : Defs K mg) : FnOk P w K mg base CX0 71 T.d_lump_parts.f T.d_lump_parts.fd ["shape"] (spD K im 1 F_lump_parts) := by
  have G_note_parts := ok_note_parts (P := P) (w := w) (base := base) (im := im) T
  have Sc : FnScope ["shape", "parts"] ["shape"] (defScope s_lump_parts) := ⟨rfl, rfl, rfl, by decide +kernel, rfl, by decide +kernel, by decide +kernel⟩
  refine fn_Dx (N := ["shape", "parts"]) (ps := ["shape"]) (F := B_lump_parts) T.d_lump_parts.F Sc rfl rfl rfl fun cdv A outer s H Ex hr => ?_
  have hu := room_hu hr
  exact ⟨_, (pss_cons (ps_set (i := 1) Sc.nd rfl (by first | exact Or.inl rfl | exact Or.inr rfl) pe_dnewT)
      (pss_cons (ps_expr (pe_call (G_note_parts 70) (hr.mono (by first | decide | omega)) rfl T.d_note_parts.g T.d_note_parts.F.kp T.d_note_parts.b .nil pass0 (pa_cons (pv 0) (pa_cons pe_int (pa_cons (pv 1) pa_nil)))))
      (pss_one (ps_ret (pe_frzW (pv 1)))))),
      (ds_seq ds_newT
      (ds_seq (ds_callW (daj_next (de_var 0) (daj_next de_int (daj_here da_nil))) (an_cons (an_cons an_nil)))
      ds_retW))⟩
theorem ok_is_shape_lump (T : Defs K mg) : FnOk P w K mg base CX0 72 T.d_is_shape_lump.f T.d_is_shape_lump.fd ["shape", "i", "j"] (spD K im 3 F_is_shape_lump) := by
  have G_lump_parts := ok_lump_parts (P := P) (w := w) (base := base) (im := im) T
  have Sc : FnScope ["shape", "i", "j"] ["shape", "i", "j"] (defScope s_is_shape_lump) := ⟨rfl, rfl, rfl, by decide +kernel, rfl, by decide +kernel, by decide +kernel⟩
  refine fn_Dx (N := ["shape", "i", "j"]) (ps := ["shape", "i", "j"]) (F := B_is_shape_lump) T.d_is_shape_lump.F Sc rfl rfl rfl fun cdv A outer s H Ex hr => ?_
  have hu := room_hu hr
  exact ⟨_, (pss_one (ps_ret (pe_cmp (pc_din (hu1 hu) (pe_tup (pa_cons (pv 1) (pa_cons (pv 2) pa_nil))) (pe_call G_lump_parts (hr.mono (by first | decide | omega)) rfl T.d_lump_parts.g T.d_lump_parts.F.kp T.d_lump_parts.b .nil pass0 (pa_cons (pv 0) pa_nil)))))),
      (ds_ret (de_diX (da_cons (de_var 1) (da_cons (de_var 2) da_nil)) (dc_D (da_cons (de_var 0) da_nil) (an_cons an_nil))))⟩
theorem ok_lump_part (T : Defs K mg) : FnOk P w K mg base CX0 72 T.d_lump_part.f T.d_lump_part.fd ["shape", "i", "j"] (spD K im 3 F_lump_part) := by
  have G_lump_parts := ok_lump_parts (P := P) (w := w) (base := base) (im := im) T
  have Sc : FnScope ["shape", "i", "j"] ["shape", "i", "j"] (defScope s_lump_part) := ⟨rfl, rfl, rfl, by decide +kernel, rfl, by decide +kernel, by decide +kernel⟩
  refine fn_Dx (N := ["shape", "i", "j"]) (ps := ["shape", "i", "j"]) (F := B_lump_part) T.d_lump_part.F Sc rfl rfl rfl fun cdv A outer s H Ex hr => ?_
  have hu := room_hu hr
  exact ⟨_, (pss_one (ps_ret (pe_dget1 (hu1 hu) (pe_call G_lump_parts (hr.mono (by first | decide | omega)) rfl T.d_lump_parts.g T.d_lump_parts.F.kp T.d_lump_parts.b .nil pass0 (pa_cons (pv 0) pa_nil)) (pe_tup (pa_cons (pv 1) (pa_cons (pv 2) pa_nil))) ⟨rfl, rfl, rfl, rfl⟩))),
      (ds_ret (de_getT (dc_D (da_cons (de_var 0) da_nil) (an_cons an_nil)) (da_cons (de_var 1) (da_cons (de_var 2) da_nil))))⟩
theorem ok_law_pick (T : Defs K mg) : FnOk P w K mg base CX0 1 T.d_law_pick.f T.d_law_pick.fd ["_law_source_here", "_law_many"] (spW K (srcG im) 2 0 F_law_pick) := by
  have Sc : FnScope ["_law_source_here", "_law_many", "_law_left", "_law_mixed"] ["_law_source_here", "_law_many"] (defScope s_law_pick) := ⟨rfl, rfl, rfl, by decide +kernel, rfl, by decide +kernel, by decide +kernel⟩
  refine fn_Wx (Γ := srcG im) (N := ["_law_source_here", "_law_many", "_law_left", "_law_mixed"]) (ps := ["_law_source_here", "_law_many"]) (F := B_law_pick) T.d_law_pick.F Sc rfl rfl rfl fun p cdv A outer s H Ex hr => ?_
  have hu := room_hu hr
  exact ⟨_, (pss_cons (ps_while PassesOwn.never (PW.pt (pw_and (pt_cmpR op_gtD (pv 1) pe_int (nomark _)) (pw_and (pt_cmpR op_ltD (pe_dget (hu1 hu) (pv 0) pe_str (fun _ _ => rfl)) pe_int (nomark _)) (pw_and1 (pt_cmpR op_gtD (pe_callB call_len_seq (by rfl) T.n_len (by decide +kernel) (pa_cons (pe_dget (hu1 hu) (pv 0) pe_str (fun _ _ => rfl)) pa_nil)) pe_int (nomark _)))))) (pss_one (ps_dput (hu1 hu) (pv 0) pe_str (pe_bm0 PySem.F.plainAttrs_list PySem.F.slot_list_pop PySem.F.type_list_pop mt_pop (pe_dget (hu1 hu) (pv 0) pe_str (fun _ _ => rfl))) (by rfl))))
      (pss_cons (ps_set (i := 2) Sc.nd rfl (by first | exact Or.inl rfl | exact Or.inr rfl) (pe_dget (hu1 hu) (pv 0) pe_str (fun _ _ => rfl)))
      (pss_cons (ps_if (PW.pt (pw_or (pt_cmpR op_ltD (pv 1) pe_int (nomark _)) (pw_or1 (pt_cmpR op_gtD (pv 2) pe_int (nomark _))))) (pss_cons (ps_dput (hu1 hu) (pv 0) pe_str (pe_op op_fdivD (pv 2) (pe_callB (call_max2DD rfl) (by rfl) T.n_max (by decide +kernel) (pa_cons pe_int (pa_cons (pv 1) pa_nil)))) (by rfl))
      (pss_one (ps_ret (pe_op op_modD (pe_callTy call_intDD (by rfl) T.n_int (by decide +kernel) (pa_cons (pv 2) pa_nil)) (pe_callB (call_max2DD rfl) (by rfl) T.n_max (by decide +kernel) (pa_cons pe_int (pa_cons (pv 1) pa_nil))))))) pss_nil)
      (pss_cons (ps_dput (hu1 hu) (pv 0) pe_str (pe_op op_addD (pe_dget (hu1 hu) (pv 0) pe_str (fun _ _ => rfl)) pe_int) (by rfl))
      (pss_cons (ps_set (i := 3) Sc.nd rfl (by first | exact Or.inl rfl | exact Or.inr rfl) (pe_op op_modD (pe_callTy call_intDD (by rfl) T.n_int (by decide +kernel) (pa_cons (pe_op op_addD (pe_dget (hu1 hu) (pv 0) pe_str (fun _ _ => rfl)) (pe_op op_mulD (pe_dget (hu1 hu) (pv 0) pe_str (fun _ _ => rfl)) pe_int)) pa_nil)) pe_int))
      (pss_cons (ps_set (i := 3) Sc.nd rfl (by first | exact Or.inl rfl | exact Or.inr rfl) (pe_op op_modD (pe_callTy call_intDD (by rfl) T.n_int (by decide +kernel) (pa_cons (pe_op op_addD (pe_op op_mulD (pv 3) (pv 3)) (pe_op op_mulD (pe_dget (hu1 hu) (pv 0) pe_str (fun _ _ => rfl)) pe_int)) pa_nil)) pe_int))
      (pss_cons (ps_dput (hu1 hu) (pv 0) pe_str (pv 3) (by rfl))
      (pss_one (ps_ret (pe_op op_modD (pe_callTy call_intDD (by rfl) T.n_int (by decide +kernel) (pa_cons (pe_op op_fdivD (pv 3) pe_int) pa_nil)) (pv 1))))))))))),
      (ds_seq (ds_while (n := (fun _ ω => ω.cells.length + 2)) (dt_and (dt_test (de_op (de_var 1) de_int)) (dt_and (dt_test (de_op de_srcL de_int)) (dt_test (de_op de_srcN de_int)))) (ds_srcL de_srcP))
      (ds_seq (ds_asg de_srcL dg_name)
      (ds_seq (ds_if (dt_or (dt_test (de_op (de_var 1) de_int)) (dt_test (de_op (de_var 2) de_int))) (ds_seq (ds_srcL (de_op (de_var 2) (de_callN (da_cons de_int (da_cons (de_var 1) da_nil)))))
      (ds_ret (de_op (de_callN (da_cons (de_var 2) da_nil)) (de_callN (da_cons de_int (da_cons (de_var 1) da_nil)))))) ds_nx)
      (ds_seq (ds_srcT (de_op de_srcT de_int))
      (ds_seq (ds_asg (de_op (de_callN (da_cons (de_op de_srcM (de_op de_srcT de_int)) da_nil)) de_int) dg_name)
      (ds_seq (ds_asg (de_op (de_callN (da_cons (de_op (de_op (de_var 3) (de_var 3)) (de_op de_srcT de_int)) da_nil)) de_int) dg_name)
      (ds_seq (ds_srcM (de_var 3))
      (ds_ret (de_op (de_callN (da_cons (de_op (de_var 3) de_int) da_nil)) (de_var 1))))))))))⟩
theorem ok_law_of (T : Defs K mg) : FnOk P w K mg base CX0 2 T.d_law_of.f T.d_law_of.fd ["_law_source_here", "_law_some"] (spW K (srcG im) 2 0 F_law_of) := by
  have G_law_pick := ok_law_pick (P := P) (w := w) (base := base) (im := im) T
  have Sc : FnScope ["_law_source_here", "_law_some"] ["_law_source_here", "_law_some"] (defScope s_law_of) := ⟨rfl, rfl, rfl, by decide +kernel, rfl, by decide +kernel, by decide +kernel⟩
  refine fn_Wx (Γ := srcG im) (N := ["_law_source_here", "_law_some"]) (ps := ["_law_source_here", "_law_some"]) (F := B_law_of) T.d_law_of.F Sc rfl rfl rfl fun p cdv A outer s H Ex hr => ?_
  have hu := room_hu hr
  exact ⟨_, (pss_one (ps_ret (pe_ix ix_D (pv 1) (pe_call G_law_pick (hr.mono (by first | decide | omega)) rfl T.d_law_pick.g T.d_law_pick.F.kp T.d_law_pick.b .nil pass0 (pa_cons (pv 0) (pa_cons (pe_callB call_lenDD (by rfl) T.n_len (by decide +kernel) (pa_cons (pv 1) pa_nil)) pa_nil))) (fun _ _ => rfl)))),
      (ds_ret (de_op (de_var 1) (dc_W (da_cons (de_callN (da_cons (de_var 1) da_nil)) da_nil) (an_cons an_nil))))⟩
theorem ok_law_size (T : Defs K mg) : ∀ n, FnOk P w K mg base CX0 (0 + n) T.d_law_size.f T.d_law_size.fd ["_law_shape_here"] (spD K im 1 (F_law_size n))
  | 0 => FnOk.no fun _ _ _ _ => spD_no
  | n + 1 => by
    have ih := ok_law_size T n
    have Sc : FnScope ["_law_shape_here"] ["_law_shape_here"] (defScope s_law_size) := ⟨rfl, rfl, rfl, by decide +kernel, rfl, by decide +kernel, by decide +kernel⟩
    refine fn_Dx (k := 0 + n) (N := ["_law_shape_here"]) (ps := ["_law_shape_here"]) (F := B_law_size (F_law_size n)) T.d_law_size.F Sc rfl rfl rfl fun cdv A outer s H Ex hr => ?_
    have hu := room_hu hr
    exact ⟨_, (pss_one (ps_ret (pe_ifExp (pt_cmpR (op_eqDD hu) (pv 0) (pe_tup pa_nil) (nomark _)) pe_int (pe_op op_addD (pe_call ih hr rfl T.d_law_size.g T.d_law_size.F.kp T.d_law_size.b .nil pass0 (pa_cons (pe_ix ix_D (pv 0) pe_int (fun _ _ => rfl)) pa_nil)) (pe_call ih hr rfl T.d_law_size.g T.d_law_size.F.kp T.d_law_size.b .nil pass0 (pa_cons (pe_ix ix_D (pv 0) pe_int (fun _ _ => rfl)) pa_nil)))))),
      (ds_ret (de_if (dt_test (de_op (de_var 0) (de_tup da_nil))) de_int (de_op (dc_D (da_cons (de_op (de_var 0) de_int) da_nil) (an_cons an_nil)) (dc_D (da_cons (de_op (de_var 0) de_int) da_nil) (an_cons an_nil)))))⟩
theorem ok_law_shape (T : Defs K mg) : ∀ n, FnOk P w K mg base CX0 (2 + n) T.d_law_shape.f T.d_law_shape.fd ["_law_source_here", "_law_size_here"] (spW K (srcG im) 2 0 (F_law_shape n))
  | 0 => FnOk.no fun _ _ _ _ => spW_no
  | n + 1 => by
    have ih := ok_law_shape T n
    have G_law_of := ok_law_of (P := P) (w := w) (base := base) (im := im) T
    have G_law_pick := ok_law_pick (P := P) (w := w) (base := base) (im := im) T
    have Sc : FnScope ["_law_source_here", "_law_size_here", "_law_at"] ["_law_source_here", "_law_size_here"] (defScope s_law_shape) := ⟨rfl, rfl, rfl, by decide +kernel, rfl, by decide +kernel, by decide +kernel⟩
    refine fn_Wx (Γ := srcG im) (k := 2 + n) (N := ["_law_source_here", "_law_size_here", "_law_at"]) (ps := ["_law_source_here", "_law_size_here"]) (F := B_law_shape (F_law_shape n)) T.d_law_shape.F Sc rfl rfl rfl fun p cdv A outer s H Ex hr => ?_
    have hu := room_hu hr
    exact ⟨_, (pss_cons (ps_if (pt_cmpR (op_eqDD hu) (pv 1) pe_int (nomark _)) (pss_one (ps_ret (pe_tup pa_nil))) pss_nil)
      (pss_cons (ps_set (i := 2) Sc.nd rfl (by first | exact Or.inl rfl | exact Or.inr rfl) (pe_call G_law_of (hr.mono (by first | decide | omega)) rfl T.d_law_of.g T.d_law_of.F.kp T.d_law_of.b .nil pass0 (pa_cons (pv 0) (pa_cons (pe_frz (pe_lst (pa_cons (pe_op op_addD pe_int (pe_call G_law_pick (hr.mono (by first | decide | omega)) rfl T.d_law_pick.g T.d_law_pick.F.kp T.d_law_pick.b .nil pass0 (pa_cons (pv 0) (pa_cons (pe_op op_subD (pv 1) pe_int) pa_nil)))) (pa_cons (pe_op op_addD pe_int (pe_call G_law_pick (hr.mono (by first | decide | omega)) rfl T.d_law_pick.g T.d_law_pick.F.kp T.d_law_pick.b .nil pass0 (pa_cons (pv 0) (pa_cons (pe_op op_subD (pv 1) pe_int) pa_nil)))) (pa_cons (pe_op op_fdivD (pv 1) pe_int) (pa_cons pe_int (pa_cons (pe_op op_subD (pv 1) pe_int) pa_nil))))))) pa_nil))))
      (pss_one (ps_ret (pe_tup (pa_cons (pe_call ih hr rfl T.d_law_shape.g T.d_law_shape.F.kp T.d_law_shape.b .nil pass0 (pa_cons (pv 0) (pa_cons (pv 2) pa_nil))) (pa_cons (pe_call ih hr rfl T.d_law_shape.g T.d_law_shape.F.kp T.d_law_shape.b .nil pass0 (pa_cons (pv 0) (pa_cons (pe_op op_subD (pv 1) (pv 2)) pa_nil))) pa_nil))))))),
      (ds_seq (ds_if (dt_test (de_op (de_var 1) de_int)) (ds_ret (de_tup da_nil)) ds_nx)
      (ds_seq (ds_asg (dc_W (da_cons (de_frz (dl_lst (da_cons (de_op de_int (dc_W (da_cons (de_op (de_var 1) de_int) da_nil) (an_cons an_nil))) (da_cons (de_op de_int (dc_W (da_cons (de_op (de_var 1) de_int) da_nil) (an_cons an_nil))) (da_cons (de_op (de_var 1) de_int) (da_cons de_int (da_cons (de_op (de_var 1) de_int) da_nil))))))) da_nil) (an_cons an_nil)) dg_name)
      (ds_ret (de_tup (da_cons (dc_W (da_cons (de_var 2) da_nil) (an_cons an_nil)) (da_cons (dc_W (da_cons (de_op (de_var 1) (de_var 2)) da_nil) (an_cons an_nil)) da_nil))))))⟩
theorem ok_law_lumps (T : Defs K mg) : ∀ n, FnOk P w K mg base CX0 (0 + n) T.d_law_lumps.f T.d_law_lumps.fd ["_law_shape_here", "_law_begin"] (spD K im 2 (F_law_lumps n))
  | 0 => FnOk.no fun _ _ _ _ => spD_no
  | n + 1 => by
    have ih := ok_law_lumps T n
    have Sc : FnScope ["_law_shape_here", "_law_begin", "_law_left", "_law_right"] ["_law_shape_here", "_law_begin"] (defScope s_law_lumps) := ⟨rfl, rfl, rfl, by decide +kernel, rfl, by decide +kernel, by decide +kernel⟩
    refine fn_Dx (k := 0 + n) (N := ["_law_shape_here", "_law_begin", "_law_left", "_law_right"]) (ps := ["_law_shape_here", "_law_begin"]) (F := B_law_lumps (F_law_lumps n)) T.d_law_lumps.F Sc rfl rfl rfl fun cdv A outer s H Ex hr => ?_
    have hu := room_hu hr
    exact ⟨_, (pss_cons (ps_if (pt_cmpR (op_eqDD hu) (pv 0) (pe_tup pa_nil) (nomark _)) (pss_one (ps_ret (pe_frz (pe_lst (pa_cons (pe_tup (pa_cons (pv 1) (pa_cons (pe_op op_addD (pv 1) pe_int) (pa_cons (pe_tup pa_nil) pa_nil)))) pa_nil))))) pss_nil)
      (pss_cons (ps_set (i := 2) Sc.nd rfl (by first | exact Or.inl rfl | exact Or.inr rfl) (pe_call ih hr rfl T.d_law_lumps.g T.d_law_lumps.F.kp T.d_law_lumps.b .nil pass0 (pa_cons (pe_ix ix_D (pv 0) pe_int (fun _ _ => rfl)) (pa_cons (pv 1) pa_nil))))
      (pss_cons (ps_set (i := 3) Sc.nd rfl (by first | exact Or.inl rfl | exact Or.inr rfl) (pe_call ih hr rfl T.d_law_lumps.g T.d_law_lumps.F.kp T.d_law_lumps.b .nil pass0 (pa_cons (pe_ix ix_D (pv 0) pe_int (fun _ _ => rfl)) (pa_cons (pe_ix ix_D (pe_ix ix_D (pv 2) pe_int (fun _ _ => rfl)) pe_int (fun _ _ => rfl)) pa_nil))))
      (pss_one (ps_ret (pe_op op_addD (pe_op op_addD (pe_frz (pe_lst (pa_cons (pe_tup (pa_cons (pv 1) (pa_cons (pe_ix ix_D (pe_ix ix_D (pv 3) pe_int (fun _ _ => rfl)) pe_int (fun _ _ => rfl)) (pa_cons (pv 0) pa_nil)))) pa_nil))) (pv 2)) (pv 3))))))),
      (ds_seq (ds_if (dt_test (de_op (de_var 0) (de_tup da_nil))) (ds_ret (de_frz (dl_lst (da_cons (de_tup (da_cons (de_var 1) (da_cons (de_op (de_var 1) de_int) (da_cons (de_tup da_nil) da_nil)))) da_nil)))) ds_nx)
      (ds_seq (ds_asg (dc_D (da_cons (de_op (de_var 0) de_int) (da_cons (de_var 1) da_nil)) (an_cons (an_cons an_nil))) dg_name)
      (ds_seq (ds_asg (dc_D (da_cons (de_op (de_var 0) de_int) (da_cons (de_op (de_op (de_var 2) de_int) de_int) da_nil)) (an_cons (an_cons an_nil))) dg_name)
      (ds_ret (de_op (de_op (de_frz (dl_lst (da_cons (de_tup (da_cons (de_var 1) (da_cons (de_op (de_op (de_var 3) de_int) de_int) (da_cons (de_var 0) da_nil)))) da_nil))) (de_var 2)) (de_var 3))))))⟩
def spLaw (K : PySem.W.Frag) : Sp := fun vs H Q _ => ∃ (a : Addr) (ns : List Int), vs = [.ref a] ∧ SqL K H a (ns.map V.int) ∧ ns.length ≤ 63 ∧ ∀ v H', v = .bl true → Q v H'
theorem ok_law (LT : ∀ ns : List Int, ns.length ≤ 63 → ∃ ω', runS B_law tau0 (srcOf ns) = .ok (.bl true) ω') (T : Defs K mg) : GOk P w K mg base 73 T.d_law.f T.d_law.fd ["_law_script"] (spLaw K) := by
  have G_law_source := ok_law_source (P := P) (w := w) (base := base) (im := (fun _ => false)) T
  have G_law_shape := ok_law_shape (P := P) (w := w) (base := base) (im := (fun _ => false)) T
  have G_is_shape_lump := ok_is_shape_lump (P := P) (w := w) (base := base) (im := (fun _ => false)) T
  have G_law_size := ok_law_size (P := P) (w := w) (base := base) (im := (fun _ => false)) T
  have G_lump_part := ok_lump_part (P := P) (w := w) (base := base) (im := (fun _ => false)) T
  have G_law_pick := ok_law_pick (P := P) (w := w) (base := base) (im := (fun _ => false)) T
  have G_law_lumps := ok_law_lumps (P := P) (w := w) (base := base) (im := (fun _ => false)) T
  have Sc : FnScope ["_law_script", "_law_source_here", "_law_most", "_law_shape_here", "_law_size_here", "_law_lumps_here", "_law_pairs", "_law_i", "_law_j", "_law_some", "_law_told", "_law_left", "_law_right", "_law_lap", "_law_part", "_law_pair", "_law_m", "_law_n"] ["_law_script"] (defScope s_law) := ⟨rfl, rfl, rfl, by decide +kernel, rfl, by decide +kernel, by decide +kernel⟩
  refine GOk.ofBody T.d_law.F Sc (fun vs H Q E h => ?_) (fun cdv A outer s H vs Q E gu hr h => ?_)
  · obtain ⟨a, ns, rfl, _⟩ := h
    rfl
  obtain ⟨a, ns, rfl, hS, hlen, k⟩ := h
  have hu := room_hu hr
  obtain ⟨tB, pB, dB⟩ : ∃ t, PSs (cxOf CX0 P w K mg base ["_law_script", "_law_source_here", "_law_most", "_law_shape_here", "_law_size_here", "_law_lumps_here", "_law_pairs", "_law_i", "_law_j", "_law_some", "_law_told", "_law_left", "_law_right", "_law_lap", "_law_part", "_law_pair", "_law_m", "_law_n"] "law" (defScope s_law) T.d_law.f cdv A outer s H E).nox (defBody s_law).tail t ∧ ∀ p : Addr × Addr, DS (srcG (fun _ => false) p) K (fun _ _ _ _ => False) t B_law := ⟨_, (pss_cons (ps_for PassesOwn.never rfl (pi_seq (pe_frz (pe_lst (pa_cons pe_int (pa_cons pe_int (pa_cons pe_int pa_nil)))))) (pg_name (i := 2) Sc.nd rfl (by first | exact Or.inl rfl | exact Or.inr rfl)) (pss_cons (ps_set (i := 3) Sc.nd rfl (by first | exact Or.inl rfl | exact Or.inr rfl) (pe_call (G_law_shape 70) (hr.mono (by first | decide | omega)) rfl T.d_law_shape.g T.d_law_shape.F.kp T.d_law_shape.b .nil pass0 (pa_cons (pv 1) (pa_cons (pe_op op_addD pe_int (pe_call G_law_pick (hr.mono (by first | decide | omega)) rfl T.d_law_pick.g T.d_law_pick.F.kp T.d_law_pick.b .nil pass0 (pa_cons (pv 1) (pa_cons (pv 2) pa_nil)))) pa_nil))))
      (pss_cons (ps_asg (pe_tup (pa_cons (pe_call (G_law_size 70) (hr.mono (by first | decide | omega)) rfl T.d_law_size.g T.d_law_size.F.kp T.d_law_size.b .nil pass0 (pa_cons (pv 3) pa_nil)) (pa_cons (pe_callTy (call_dictTD hu rfl) (by rfl) T.n_dict (by decide +kernel) (pa_cons (pe_frz (pe_lc (own := [("_law_i", 7), ("_law_j", 8), ("_law_part", 14)]) rfl Sc.nd (pi_seq (pe_call (G_law_lumps 70) (hr.mono (by first | decide | omega)) rfl T.d_law_lumps.g T.d_law_lumps.F.kp T.d_law_lumps.b .nil pass0 (pa_cons (pv 3) (pa_cons pe_int pa_nil)))) (blkOk_by (own := [("_law_i", 7), ("_law_j", 8), ("_law_part", 14)]) (N := ["_law_script", "_law_source_here", "_law_most", "_law_shape_here", "_law_size_here", "_law_lumps_here", "_law_pairs", "_law_i", "_law_j", "_law_some", "_law_told", "_law_left", "_law_right", "_law_lap", "_law_part", "_law_pair", "_law_m", "_law_n"]) (sc := defScope s_law) (by decide +kernel)) (fun _ _ _ _ _ => (pg_sq rfl (pgs_cons (pg_name (i := 7) Sc.nd rfl (by first | exact Or.inl rfl | exact Or.inr rfl)) (pgs_cons (pg_name (i := 8) Sc.nd rfl (by first | exact Or.inl rfl | exact Or.inr rfl)) (pgs_cons (pg_name (i := 14) Sc.nd rfl (by first | exact Or.inl rfl | exact Or.inr rfl)) pgs_nil))))) (fun _ _ _ _ _ => pts_nil) (fun _ _ _ _ _ => (pe_tup (pa_cons (pe_tup (pa_cons (pv 7) (pa_cons (pv 8) pa_nil))) (pa_cons (pv 14) pa_nil)))))) pa_nil)) pa_nil))) (pg_sq rfl (pgs_cons (pg_name (i := 4) Sc.nd rfl (by first | exact Or.inl rfl | exact Or.inr rfl)) (pgs_cons (pg_name (i := 5) Sc.nd rfl (by first | exact Or.inl rfl | exact Or.inr rfl)) pgs_nil))))
      (pss_cons (ps_if (pt_cmpR (op_neDD hu) (pe_callB call_lenTD (by rfl) T.n_len (by decide +kernel) (pa_cons (pv 5) pa_nil)) (pe_op op_subD (pe_op op_mulD pe_int (pv 4)) pe_int) (nomark _)) (pss_one (ps_ret pe_bl)) pss_nil)
      (pss_cons (ps_set (i := 6) Sc.nd rfl (by first | exact Or.inl rfl | exact Or.inr rfl) (pe_op op_addLL (pe_callTy (call_listTD rfl) (by rfl) T.n_list (by decide +kernel) (pa_cons (pv 5) pa_nil)) (pe_frz (pe_lc (own := [("_law_lap", 13)]) rfl Sc.nd (pi_range1 rfl T.n_range (pa_cons pe_int pa_nil)) (blkOk_by (own := [("_law_lap", 13)]) (N := ["_law_script", "_law_source_here", "_law_most", "_law_shape_here", "_law_size_here", "_law_lumps_here", "_law_pairs", "_law_i", "_law_j", "_law_some", "_law_told", "_law_left", "_law_right", "_law_lap", "_law_part", "_law_pair", "_law_m", "_law_n"]) (sc := defScope s_law) (by decide +kernel)) (fun _ _ _ _ _ => (pg_name (i := 13) Sc.nd rfl (by first | exact Or.inl rfl | exact Or.inr rfl))) (fun _ _ _ _ _ => pts_nil) (fun _ _ _ _ _ => (pe_tup (pa_cons (pe_op op_subD (pe_call G_law_pick (hr.mono (by first | decide | omega)) rfl T.d_law_pick.g T.d_law_pick.F.kp T.d_law_pick.b .nil pass0 (pa_cons (pv 1) (pa_cons (pe_op op_addD (pv 4) pe_int) pa_nil))) pe_int) (pa_cons (pe_op op_subD (pe_call G_law_pick (hr.mono (by first | decide | omega)) rfl T.d_law_pick.g T.d_law_pick.F.kp T.d_law_pick.b .nil pass0 (pa_cons (pv 1) (pa_cons (pe_op op_addD (pv 4) pe_int) pa_nil))) pe_int) pa_nil))))))))
      (pss_cons (ps_pre 6 (ps_set (i := 6) Sc.nd rfl (by first | exact Or.inl rfl | exact Or.inr rfl) (pe_op op_addLL (pv 6) (pe_frz (pe_lst (pa_cons (pe_tup (pa_cons pe_int (pa_cons pe_int pa_nil))) (pa_cons (pe_tup (pa_cons pe_int (pa_cons (pe_op op_addD (pv 4) pe_int) pa_nil))) (pa_cons (pe_tup (pa_cons (pe_un un_negD pe_int) (pa_cons (pv 4) pa_nil))) (pa_cons (pe_tup (pa_cons (pv 4) (pa_cons pe_int pa_nil))) (pa_cons (pe_tup (pa_cons (pv 4) (pa_cons (pv 4) pa_nil))) (pa_cons (pe_tup (pa_cons (pe_un un_negD pe_int) (pa_cons pe_int pa_nil))) (pa_cons (pe_tup (pa_cons (pv 4) (pa_cons (pe_op op_addD (pv 4) pe_int) pa_nil))) pa_nil))))))))))))
      (pss_cons (ps_expr (pe_bm PySem.F.plainAttrs_list PySem.F.slot_list_append PySem.F.type_list_append mt_append (pv 6) (pa_cons (pe_tup (pa_cons (pe_op op_powD pe_int pe_int) (pa_cons (pe_un un_negD (pe_op op_powD pe_int pe_int)) pa_nil))) pa_nil)))
      (pss_cons (ps_pre 6 (ps_for PassesOwn.never rfl (pi_seq (pv 6)) (pg_sq rfl (pgs_cons (pg_name (i := 7) Sc.nd rfl (by first | exact Or.inl rfl | exact Or.inr rfl)) (pgs_cons (pg_name (i := 8) Sc.nd rfl (by first | exact Or.inl rfl | exact Or.inr rfl)) pgs_nil))) (pss_cons (ps_if (pt_cmpR (op_neDD hu) (pe_callB (call_reprDD hu gu) (by rfl) T.n_repr (by decide +kernel) (pa_cons (pe_call G_is_shape_lump (hr.mono (by first | decide | omega)) rfl T.d_is_shape_lump.g T.d_is_shape_lump.F.kp T.d_is_shape_lump.b .nil pass0 (pa_cons (pv 3) (pa_cons (pv 7) (pa_cons (pv 8) pa_nil)))) pa_nil)) (pe_callB (call_reprDD hu gu) (by rfl) T.n_repr (by decide +kernel) (pa_cons (pe_cmp (pc_din (hu1 hu) (pe_tup (pa_cons (pv 7) (pa_cons (pv 8) pa_nil))) (pv 5))) pa_nil)) (nomark _)) (pss_one (ps_ret pe_bl)) pss_nil)
      (pss_one (ps_if (pt_cmpR (op_neDD hu) (pe_callB (call_reprDD hu gu) (by rfl) T.n_repr (by decide +kernel) (pa_cons (pe_call G_lump_part (hr.mono (by first | decide | omega)) rfl T.d_lump_part.g T.d_lump_part.F.kp T.d_lump_part.b .nil pass0 (pa_cons (pv 3) (pa_cons (pv 7) (pa_cons (pv 8) pa_nil)))) pa_nil)) (pe_callB (call_reprDD hu gu) (by rfl) T.n_repr (by decide +kernel) (pa_cons (pe_dget2 (hu1 hu) (pv 5) (pe_tup (pa_cons (pv 7) (pa_cons (pv 8) pa_nil))) pe_non ⟨rfl, rfl, rfl, rfl⟩) pa_nil)) (nomark _)) (pss_one (ps_ret pe_bl)) pss_nil)))))
      (pss_cons (ps_set (i := 9) Sc.nd rfl (by first | exact Or.inl rfl | exact Or.inr rfl) (pe_ifExp (pt_cmpR op_ltD (pv 4) pe_int (nomark _)) (pe_frz (pe_listRg rfl rfl T.n_list (prg_1 rfl T.n_range (pv 4)))) (pe_frz (pe_lc (own := [("_law_lap", 13)]) rfl Sc.nd (pi_range1 rfl T.n_range (pa_cons pe_int pa_nil)) (blkOk_by (own := [("_law_lap", 13)]) (N := ["_law_script", "_law_source_here", "_law_most", "_law_shape_here", "_law_size_here", "_law_lumps_here", "_law_pairs", "_law_i", "_law_j", "_law_some", "_law_told", "_law_left", "_law_right", "_law_lap", "_law_part", "_law_pair", "_law_m", "_law_n"]) (sc := defScope s_law) (by decide +kernel)) (fun _ _ _ _ _ => (pg_name (i := 13) Sc.nd rfl (by first | exact Or.inl rfl | exact Or.inr rfl))) (fun _ _ _ _ _ => pts_nil) (fun _ _ _ _ _ => (pe_call G_law_pick (hr.mono (by first | decide | omega)) rfl T.d_law_pick.g T.d_law_pick.F.kp T.d_law_pick.b .nil pass0 (pa_cons (pv 1) (pa_cons (pv 4) pa_nil))))))))
      (pss_cons (ps_for PassesOwn.never rfl (pi_seq (pv 9)) (pg_name (i := 7) Sc.nd rfl (by first | exact Or.inl rfl | exact Or.inr rfl)) (pss_cons (ps_fz 10 (ps_setLc (i := 10) (own := [("_law_j", 8)]) rfl Sc.nd rfl rfl (sw_true rfl rfl rfl (by decide +kernel)) (pi_range1 rfl T.n_range (pa_cons (pe_op op_addD (pv 4) pe_int) pa_nil)) (blkOk_by (own := [("_law_j", 8)]) (N := ["_law_script", "_law_source_here", "_law_most", "_law_shape_here", "_law_size_here", "_law_lumps_here", "_law_pairs", "_law_i", "_law_j", "_law_some", "_law_told", "_law_left", "_law_right", "_law_lap", "_law_part", "_law_pair", "_law_m", "_law_n"]) (sc := defScope s_law) (by decide +kernel)) (fun _ _ _ _ _ => (pg_name (i := 8) Sc.nd rfl (by first | exact Or.inl rfl | exact Or.inr rfl))) (fun _ _ _ _ _ => (pts_one (pt_val (pe_call G_is_shape_lump (hr.mono (by first | decide | omega)) rfl T.d_is_shape_lump.g T.d_is_shape_lump.F.kp T.d_is_shape_lump.b .nil pass0 (pa_cons (pv 3) (pa_cons (pv 7) (pa_cons (pv 8) pa_nil))))))) (fun _ _ _ _ _ => (pe_tup (pa_cons (pv 7) (pa_cons (pv 8) pa_nil))))))
      (pss_one (ps_if (pt_cmpR (op_neDD hu) (pv 10) (pe_callB call_sortedPD (by rfl) T.n_sorted (by decide +kernel) (pa_cons (pe_frz (pe_lc (own := [("_law_pair", 15)]) rfl Sc.nd (pi_keys (pv 5)) (blkOk_by (own := [("_law_pair", 15)]) (N := ["_law_script", "_law_source_here", "_law_most", "_law_shape_here", "_law_size_here", "_law_lumps_here", "_law_pairs", "_law_i", "_law_j", "_law_some", "_law_told", "_law_left", "_law_right", "_law_lap", "_law_part", "_law_pair", "_law_m", "_law_n"]) (sc := defScope s_law) (by decide +kernel)) (fun _ _ _ _ _ => (pg_name (i := 15) Sc.nd rfl (by first | exact Or.inl rfl | exact Or.inr rfl))) (fun _ _ _ _ _ => (pts_one (pt_cmpR (op_eqDD hu) (pe_ix ix_D (pv 15) pe_int (fun _ _ => rfl)) (pv 7) (nomark _)))) (fun _ _ _ _ _ => (pv 15)))) pa_nil)) (nomark _)) (pss_one (ps_ret pe_bl)) pss_nil))))
      (pss_one (ps_for PassesOwn.never rfl (pi_seq (pe_slice sl_D (pe_callTy (call_listTD rfl) (by rfl) T.n_list (by decide +kernel) (pa_cons (pv 5) pa_nil)) po_none (po_some pe_int))) (pg_sq rfl (pgs_cons (pg_name (i := 7) Sc.nd rfl (by first | exact Or.inl rfl | exact Or.inr rfl)) (pgs_cons (pg_name (i := 8) Sc.nd rfl (by first | exact Or.inl rfl | exact Or.inr rfl)) pgs_nil))) (pss_one (ps_if (pt_cmpR (op_neDD hu) (pe_frz (pe_lc (own := [("_law_m", 16), ("_law_n", 17)]) rfl Sc.nd (pi_keys (pv 5)) (blkOk_by (own := [("_law_m", 16), ("_law_n", 17)]) (N := ["_law_script", "_law_source_here", "_law_most", "_law_shape_here", "_law_size_here", "_law_lumps_here", "_law_pairs", "_law_i", "_law_j", "_law_some", "_law_told", "_law_left", "_law_right", "_law_lap", "_law_part", "_law_pair", "_law_m", "_law_n"]) (sc := defScope s_law) (by decide +kernel)) (fun _ _ _ _ _ => (pg_sq rfl (pgs_cons (pg_name (i := 16) Sc.nd rfl (by first | exact Or.inl rfl | exact Or.inr rfl)) (pgs_cons (pg_name (i := 17) Sc.nd rfl (by first | exact Or.inl rfl | exact Or.inr rfl)) pgs_nil)))) (fun _ _ _ _ _ => (pts_one (PW.pt (pw_or (pt_chain4 op_ltD op_ltD op_ltD (pv 7) (pv 16) (pv 8) (pv 17)) (pw_or1 (pt_chain4 op_ltD op_ltD op_ltD (pv 16) (pv 7) (pv 17) (pv 8))))))) (fun _ _ _ _ _ => pe_int))) (pe_frz (pe_lst pa_nil)) (nomark _)) (pss_one (ps_ret pe_bl)) pss_nil))))))))))))))
      (pss_cons (ps_asg (pe_tup (pa_cons (pe_tup pa_nil) (pa_cons (pe_tup pa_nil) pa_nil))) (pg_sq rfl (pgs_cons (pg_name (i := 11) Sc.nd rfl (by first | exact Or.inl rfl | exact Or.inr rfl)) (pgs_cons (pg_name (i := 12) Sc.nd rfl (by first | exact Or.inl rfl | exact Or.inr rfl)) pgs_nil))))
      (pss_cons (ps_for PassesOwn.never rfl (pi_range1 rfl T.n_range (pa_cons pe_int pa_nil)) (pg_name (i := 13) Sc.nd rfl (by first | exact Or.inl rfl | exact Or.inr rfl)) (pss_one (ps_par (i := 11) (j := 12) rfl Sc.nd rfl rfl (by decide) rfl rfl (pa_cons (pe_tup (pa_cons (pv 11) (pa_cons (pe_tup pa_nil) pa_nil))) (pa_cons (pe_tup (pa_cons (pe_tup pa_nil) (pa_cons (pv 12) pa_nil))) pa_nil)) (by rfl))))
      (pss_cons (ps_set (i := 10) Sc.nd rfl (by first | exact Or.inl rfl | exact Or.inr rfl) (pe_frz (pe_lst (pa_cons (pe_call G_is_shape_lump (hr.mono (by first | decide | omega)) rfl T.d_is_shape_lump.g T.d_is_shape_lump.F.kp T.d_is_shape_lump.b .nil pass0 (pa_cons (pv 11) (pa_cons pe_int (pa_cons pe_int pa_nil)))) (pa_cons (pe_call G_is_shape_lump (hr.mono (by first | decide | omega)) rfl T.d_is_shape_lump.g T.d_is_shape_lump.F.kp T.d_is_shape_lump.b .nil pass0 (pa_cons (pv 11) (pa_cons pe_int (pa_cons pe_int pa_nil)))) pa_nil)))))
      (pss_cons (ps_if (pt_cmpR (op_neDD hu) (pe_op op_addD (pv 10) (pe_frz (pe_lst (pa_cons (pe_call G_is_shape_lump (hr.mono (by first | decide | omega)) rfl T.d_is_shape_lump.g T.d_is_shape_lump.F.kp T.d_is_shape_lump.b .nil pass0 (pa_cons (pv 12) (pa_cons pe_int (pa_cons pe_int pa_nil)))) (pa_cons (pe_call G_is_shape_lump (hr.mono (by first | decide | omega)) rfl T.d_is_shape_lump.g T.d_is_shape_lump.F.kp T.d_is_shape_lump.b .nil pass0 (pa_cons (pv 12) (pa_cons pe_int (pa_cons pe_int pa_nil)))) pa_nil))))) (pe_frz (pe_lst (pa_cons pe_bl (pa_cons pe_bl (pa_cons pe_bl (pa_cons pe_bl pa_nil)))))) (nomark _)) (pss_one (ps_ret pe_bl)) pss_nil)
      (pss_one (ps_ret (pe_and (pe_cmpR (op_eqDD hu) (pe_call G_lump_part (hr.mono (by first | decide | omega)) rfl T.d_lump_part.g T.d_lump_part.F.kp T.d_lump_part.b .nil pass0 (pa_cons (pe_tup (pa_cons (pe_tup (pa_cons (pe_tup pa_nil) (pa_cons (pe_tup pa_nil) pa_nil))) (pa_cons (pe_tup pa_nil) pa_nil))) (pa_cons pe_int (pa_cons pe_int pa_nil)))) (pe_tup (pa_cons (pe_tup pa_nil) (pa_cons (pe_tup pa_nil) pa_nil))) (nomark _)) (pe_one (pe_cmpR op_isND (pe_call G_lump_part (hr.mono (by first | decide | omega)) rfl T.d_lump_part.g T.d_lump_part.F.kp T.d_lump_part.b .nil pass0 (pa_cons (pe_tup (pa_cons (pe_tup (pa_cons (pe_tup pa_nil) (pa_cons (pe_tup pa_nil) pa_nil))) (pa_cons (pe_tup pa_nil) pa_nil))) (pa_cons pe_int (pa_cons pe_int pa_nil)))) pe_non (nomark _))))))))))), fun p => (ds_seq (ds_for (di_seq (de_frz (dl_lst (da_cons de_int (da_cons de_int (da_cons de_int da_nil)))))) (dg_name (i := 2)) (ds_seq (ds_asg (dc_W (da_cons (de_op de_int (dc_W (da_cons (de_var 2) da_nil) (an_cons an_nil))) da_nil) (an_cons an_nil)) dg_name)
      (ds_seq (ds_asg (de_tup (da_cons (dc_D (da_cons (de_var 3) da_nil) (an_cons an_nil)) (da_cons (de_callN (da_cons (de_frz (dl_lc (W' := fun _ _ _ _ => False) (vs := [7, 8, 14]) (di_seq (dc_D (da_cons (de_var 3) (da_cons de_int da_nil)) (an_cons (an_cons an_nil)))) (dg_tup (dgs_cons (dg_name (i := 7)) (dgs_cons (dg_name (i := 8)) (dgs_cons (dg_name (i := 14)) dgs_nil)))) dt_yes (de_tup (da_cons (de_tup (da_cons (de_var 7) (da_cons (de_var 8) da_nil))) (da_cons (de_var 14) da_nil))) (fun _ h => h))) da_nil)) da_nil))) (dg_tup (dgs_cons (dg_name (i := 4)) (dgs_cons (dg_name (i := 5)) dgs_nil))))
      (ds_seq (ds_if (dt_test (de_op (de_callN (da_cons (de_var 5) da_nil)) (de_op (de_op de_int (de_var 4)) de_int))) (ds_ret de_bl) ds_nx)
      (ds_seq (ds_setO (dl_add (de_callN (da_cons (de_var 5) da_nil)) (de_frz (dl_lc (W' := fun _ _ _ _ => False) (vs := [13]) (di_rg1 (da_cons de_int da_nil)) (dg_name (i := 13)) dt_yes (de_tup (da_cons (de_op (dc_W (da_cons (de_op (de_var 4) de_int) da_nil) (an_cons an_nil)) de_int) (da_cons (de_op (dc_W (da_cons (de_op (de_var 4) de_int) da_nil) (an_cons an_nil)) de_int) da_nil))) (fun _ h => h)))))
      (ds_seq (ds_pre 6 (ds_setO (dl_add (de_var 6) (de_frz (dl_lst (da_cons (de_tup (da_cons de_int (da_cons de_int da_nil))) (da_cons (de_tup (da_cons de_int (da_cons (de_op (de_var 4) de_int) da_nil))) (da_cons (de_tup (da_cons (de_un de_int) (da_cons (de_var 4) da_nil))) (da_cons (de_tup (da_cons (de_var 4) (da_cons de_int da_nil))) (da_cons (de_tup (da_cons (de_var 4) (da_cons (de_var 4) da_nil))) (da_cons (de_tup (da_cons (de_un de_int) (da_cons de_int da_nil))) (da_cons (de_tup (da_cons (de_var 4) (da_cons (de_op (de_var 4) de_int) da_nil))) da_nil))))))))))))
      (ds_seq (ds_app (de_tup (da_cons (de_op de_int de_int) (da_cons (de_un (de_op de_int de_int)) da_nil))))
      (ds_seq (ds_pre 6 (ds_for (di_seq (de_var 6)) (dg_tup (dgs_cons (dg_name (i := 7)) (dgs_cons (dg_name (i := 8)) dgs_nil))) (ds_seq (ds_if (dt_test (de_op (de_callN (da_cons (dc_D (da_cons (de_var 3) (da_cons (de_var 7) (da_cons (de_var 8) da_nil))) (an_cons (an_cons (an_cons an_nil)))) da_nil)) (de_callN (da_cons (de_diT (plT 5) (da_cons (de_var 7) (da_cons (de_var 8) da_nil))) da_nil)))) (ds_ret de_bl) ds_nx)
      (ds_if (dt_test (de_op (de_callN (da_cons (dc_D (da_cons (de_var 3) (da_cons (de_var 7) (da_cons (de_var 8) da_nil))) (an_cons (an_cons (an_cons an_nil)))) da_nil)) (de_callN (da_cons (de_getT2 (de_var 5) (da_cons (de_var 7) (da_cons (de_var 8) da_nil)) de_non) da_nil)))) (ds_ret de_bl) ds_nx))))
      (ds_seq (ds_asg (de_if (dt_test (de_op (de_var 4) de_int)) (de_frz (dl_lrg (drg_1 (de_var 4)))) (de_frz (dl_lc (W' := fun _ _ _ _ => False) (vs := [13]) (di_rg1 (da_cons de_int da_nil)) (dg_name (i := 13)) dt_yes (dc_W (da_cons (de_var 4) da_nil) (an_cons an_nil)) (fun _ h => h)))) dg_name)
      (ds_seq (ds_for (di_seq (de_var 9)) (dg_name (i := 7)) (ds_seq (ds_fz (ds_setO (dl_lc (W' := fun _ _ _ _ => False) (vs := [8]) (di_rg1 (da_cons (de_op (de_var 4) de_int) da_nil)) (dg_name (i := 8)) (dt_B (dc_D (da_cons (de_var 3) (da_cons (de_var 7) (da_cons (de_var 8) da_nil))) (an_cons (an_cons (an_cons an_nil))))) (de_tup (da_cons (de_var 7) (da_cons (de_var 8) da_nil))) (fun _ h => h))))
      (ds_if (dt_test (de_op (de_var 10) (de_callN (da_cons (de_frz (dl_lc (W' := fun _ _ _ _ => False) (vs := [15]) (di_keys (de_var 5)) (dg_name (i := 15)) (dt_test (de_op (de_op (de_var 15) de_int) (de_var 7))) (de_var 15) (fun _ h => h))) da_nil)))) (ds_ret de_bl) ds_nx)))
      (ds_for (di_seq (de_sl (de_callN (da_cons (de_var 5) da_nil)) do_none (do_some de_int))) (dg_tup (dgs_cons (dg_name (i := 7)) (dgs_cons (dg_name (i := 8)) dgs_nil))) (ds_if (dt_test (de_op (de_frz (dl_lc (W' := fun _ _ _ _ => False) (vs := [16, 17]) (di_keys (de_var 5)) (dg_tup (dgs_cons (dg_name (i := 16)) (dgs_cons (dg_name (i := 17)) dgs_nil))) (dt_or (dt_test (de_chain4 (de_var 7) (de_var 16) (de_var 8) (de_var 17))) (dt_test (de_chain4 (de_var 16) (de_var 7) (de_var 17) (de_var 8)))) de_int (fun _ h => h))) (de_frz (dl_lst da_nil)))) (ds_ret de_bl) ds_nx))))))))))))
      (ds_seq (ds_asg (de_tup (da_cons (de_tup da_nil) (da_cons (de_tup da_nil) da_nil))) (dg_tup (dgs_cons (dg_name (i := 11)) (dgs_cons (dg_name (i := 12)) dgs_nil))))
      (ds_seq (ds_for (di_rg1 (da_cons de_int da_nil)) (dg_name (i := 13)) (ds_par (de_tup (da_cons (de_var 11) (da_cons (de_tup da_nil) da_nil))) (de_tup (da_cons (de_tup da_nil) (da_cons (de_var 12) da_nil)))))
      (ds_seq (ds_asg (de_frz (dl_lst (da_cons (dc_D (da_cons (de_var 11) (da_cons de_int (da_cons de_int da_nil))) (an_cons (an_cons (an_cons an_nil)))) (da_cons (dc_D (da_cons (de_var 11) (da_cons de_int (da_cons de_int da_nil))) (an_cons (an_cons (an_cons an_nil)))) da_nil)))) dg_name)
      (ds_seq (ds_if (dt_test (de_op (de_op (de_var 10) (de_frz (dl_lst (da_cons (dc_D (da_cons (de_var 12) (da_cons de_int (da_cons de_int da_nil))) (an_cons (an_cons (an_cons an_nil)))) (da_cons (dc_D (da_cons (de_var 12) (da_cons de_int (da_cons de_int da_nil))) (an_cons (an_cons (an_cons an_nil)))) da_nil))))) (de_frz (dl_lst (da_cons de_bl (da_cons de_bl (da_cons de_bl (da_cons de_bl da_nil)))))))) (ds_ret de_bl) ds_nx)
      (ds_ret (de_and (de_op (dc_D (da_cons (de_tup (da_cons (de_tup (da_cons (de_tup da_nil) (da_cons (de_tup da_nil) da_nil))) (da_cons (de_tup da_nil) da_nil))) (da_cons de_int (da_cons de_int da_nil))) (an_cons (an_cons (an_cons an_nil)))) (de_tup (da_cons (de_tup da_nil) (da_cons (de_tup da_nil) da_nil)))) (de_op (dc_D (da_cons (de_tup (da_cons (de_tup (da_cons (de_tup da_nil) (da_cons (de_tup da_nil) da_nil))) (da_cons (de_tup da_nil) da_nil))) (da_cons de_int (da_cons de_int da_nil))) (an_cons (an_cons (an_cons an_nil)))) de_non))))))))⟩
  refine ⟨_, pss_cons (ps_set (i := 1) Sc.nd rfl (by first | exact Or.inl rfl | exact Or.inr rfl) (pe_call G_law_source (hr.mono (by first | decide | omega)) rfl T.d_law_source.g T.d_law_source.F.kp T.d_law_source.b .nil pass0 (pa_cons (pv 0) pa_nil))) pB, ?_⟩
  refine ⟨_, rfl, a, ns, rfl, hS, by omega, fun p H' sm h1 h2 at' => ?_⟩
  obtain ⟨ω', hF⟩ := LT ns hlen
  clear LT
  generalize B_law = Bl at dB hF
  have D0 := dB p
  refine D0 H' _ H' (srcOf ns) tau0 ⟨rfl, fun i v c e1 e2 => ?_, fun i j l _ _ xs ys _ _ e2 _ _ => ?_, .refl⟩ at' _ ?_
  · by_cases hi : i = 1
    · subst hi
      cases e1; cases e2
      exact .src
    · have e3 : c = none := by
        unfold tau0 at e2
        rw [List.getElem?_set_ne (Ne.symm hi), List.getElem?_replicate] at e2
        split at e2 <;> cases e2
        rfl
      subst e3
      exact .un
  · by_cases hi : i = 1
    · subst hi
      cases e2
    · unfold tau0 at e2
      rw [List.getElem?_set_ne (Ne.symm hi), List.getElem?_replicate] at e2
      split at e2 <;> cases e2
  · exact ks_law hF (fun v H2 e => k _ _ e)
end
theorem all_mk {l : PySem.W.OpenLaw} {w : World} {K : PySem.W.Frag} {h : Heap} {mg : Str → Option Value} {fa : Addr} (LT : ∀ ns : List Int, ns.length ≤ 63 → ∃ ω', runS B_law tau0 (srcOf ns) = .ok (.bl true) ω') (X : K.In h) (G : h.Ns mainGlobals mg) (hfa : mg "law" = some (.ref fa))
    {f0 : Addr} {od0 an0 : Option Addr} {sl0 : Array (Option Value)} {oc0 kV0 dc0 pm0 cd0 ct0 : Value}
    (a0 : PySem.W.nsIn K mainGlobals "_note_parts" = some (some (.ref f0))) (l0 : K.lookup f0 = some ⟨oc0, od0, .func (PySem.W.fnOf "_note_parts" "_note_parts" (defArgs s_note_parts) (defBody s_note_parts) (defScope s_note_parts) .none kV0 dc0 pm0 an0 cd0 ct0), sl0⟩) (c0 : PySem.W.codeIn K cd0 "_note_parts" = true) (k0 : PySem.W.keepIn K (.ref f0) = true)
    {f1 : Addr} {od1 an1 : Option Addr} {sl1 : Array (Option Value)} {oc1 kV1 dc1 pm1 cd1 ct1 : Value}
    (a1 : PySem.W.nsIn K mainGlobals "lump_parts" = some (some (.ref f1))) (l1 : K.lookup f1 = some ⟨oc1, od1, .func (PySem.W.fnOf "lump_parts" "lump_parts" (defArgs s_lump_parts) (defBody s_lump_parts) (defScope s_lump_parts) .none kV1 dc1 pm1 an1 cd1 ct1), sl1⟩) (c1 : PySem.W.codeIn K cd1 "lump_parts" = true) (k1 : PySem.W.keepIn K (.ref f1) = true)
    {f2 : Addr} {od2 an2 : Option Addr} {sl2 : Array (Option Value)} {oc2 kV2 dc2 pm2 cd2 ct2 : Value}
    (a2 : PySem.W.nsIn K mainGlobals "is_shape_lump" = some (some (.ref f2))) (l2 : K.lookup f2 = some ⟨oc2, od2, .func (PySem.W.fnOf "is_shape_lump" "is_shape_lump" (defArgs s_is_shape_lump) (defBody s_is_shape_lump) (defScope s_is_shape_lump) .none kV2 dc2 pm2 an2 cd2 ct2), sl2⟩) (c2 : PySem.W.codeIn K cd2 "is_shape_lump" = true) (k2 : PySem.W.keepIn K (.ref f2) = true)
    {f3 : Addr} {od3 an3 : Option Addr} {sl3 : Array (Option Value)} {oc3 kV3 dc3 pm3 cd3 ct3 : Value}
    (a3 : PySem.W.nsIn K mainGlobals "lump_part" = some (some (.ref f3))) (l3 : K.lookup f3 = some ⟨oc3, od3, .func (PySem.W.fnOf "lump_part" "lump_part" (defArgs s_lump_part) (defBody s_lump_part) (defScope s_lump_part) .none kV3 dc3 pm3 an3 cd3 ct3), sl3⟩) (c3 : PySem.W.codeIn K cd3 "lump_part" = true) (k3 : PySem.W.keepIn K (.ref f3) = true)
    {f4 : Addr} {od4 an4 : Option Addr} {sl4 : Array (Option Value)} {oc4 kV4 dc4 pm4 cd4 ct4 : Value}
    (a4 : PySem.W.nsIn K mainGlobals "_law_source" = some (some (.ref f4))) (l4 : K.lookup f4 = some ⟨oc4, od4, .func (PySem.W.fnOf "_law_source" "_law_source" (defArgs s_law_source) (defBody s_law_source) (defScope s_law_source) .none kV4 dc4 pm4 an4 cd4 ct4), sl4⟩) (c4 : PySem.W.codeIn K cd4 "_law_source" = true) (k4 : PySem.W.keepIn K (.ref f4) = true)
    {f5 : Addr} {od5 an5 : Option Addr} {sl5 : Array (Option Value)} {oc5 kV5 dc5 pm5 cd5 ct5 : Value}
    (a5 : PySem.W.nsIn K mainGlobals "_law_pick" = some (some (.ref f5))) (l5 : K.lookup f5 = some ⟨oc5, od5, .func (PySem.W.fnOf "_law_pick" "_law_pick" (defArgs s_law_pick) (defBody s_law_pick) (defScope s_law_pick) .none kV5 dc5 pm5 an5 cd5 ct5), sl5⟩) (c5 : PySem.W.codeIn K cd5 "_law_pick" = true) (k5 : PySem.W.keepIn K (.ref f5) = true)
    {f6 : Addr} {od6 an6 : Option Addr} {sl6 : Array (Option Value)} {oc6 kV6 dc6 pm6 cd6 ct6 : Value}
    (a6 : PySem.W.nsIn K mainGlobals "_law_of" = some (some (.ref f6))) (l6 : K.lookup f6 = some ⟨oc6, od6, .func (PySem.W.fnOf "_law_of" "_law_of" (defArgs s_law_of) (defBody s_law_of) (defScope s_law_of) .none kV6 dc6 pm6 an6 cd6 ct6), sl6⟩) (c6 : PySem.W.codeIn K cd6 "_law_of" = true) (k6 : PySem.W.keepIn K (.ref f6) = true)
    {f7 : Addr} {od7 an7 : Option Addr} {sl7 : Array (Option Value)} {oc7 kV7 dc7 pm7 cd7 ct7 : Value}
    (a7 : PySem.W.nsIn K mainGlobals "_law_size" = some (some (.ref f7))) (l7 : K.lookup f7 = some ⟨oc7, od7, .func (PySem.W.fnOf "_law_size" "_law_size" (defArgs s_law_size) (defBody s_law_size) (defScope s_law_size) .none kV7 dc7 pm7 an7 cd7 ct7), sl7⟩) (c7 : PySem.W.codeIn K cd7 "_law_size" = true) (k7 : PySem.W.keepIn K (.ref f7) = true)
    {f8 : Addr} {od8 an8 : Option Addr} {sl8 : Array (Option Value)} {oc8 kV8 dc8 pm8 cd8 ct8 : Value}
    (a8 : PySem.W.nsIn K mainGlobals "_law_shape" = some (some (.ref f8))) (l8 : K.lookup f8 = some ⟨oc8, od8, .func (PySem.W.fnOf "_law_shape" "_law_shape" (defArgs s_law_shape) (defBody s_law_shape) (defScope s_law_shape) .none kV8 dc8 pm8 an8 cd8 ct8), sl8⟩) (c8 : PySem.W.codeIn K cd8 "_law_shape" = true) (k8 : PySem.W.keepIn K (.ref f8) = true)
    {f9 : Addr} {od9 an9 : Option Addr} {sl9 : Array (Option Value)} {oc9 kV9 dc9 pm9 cd9 ct9 : Value}
    (a9 : PySem.W.nsIn K mainGlobals "_law_lumps" = some (some (.ref f9))) (l9 : K.lookup f9 = some ⟨oc9, od9, .func (PySem.W.fnOf "_law_lumps" "_law_lumps" (defArgs s_law_lumps) (defBody s_law_lumps) (defScope s_law_lumps) .none kV9 dc9 pm9 an9 cd9 ct9), sl9⟩) (c9 : PySem.W.codeIn K cd9 "_law_lumps" = true) (k9 : PySem.W.keepIn K (.ref f9) = true)
    {f10 : Addr} {od10 an10 : Option Addr} {sl10 : Array (Option Value)} {oc10 kV10 dc10 pm10 cd10 ct10 : Value}
    (a10 : PySem.W.nsIn K mainGlobals "law" = some (some (.ref f10))) (l10 : K.lookup f10 = some ⟨oc10, od10, .func (PySem.W.fnOf "law" "law" (defArgs s_law) (defBody s_law) (defScope s_law) .none kV10 dc10 pm10 an10 cd10 ct10), sl10⟩) (c10 : PySem.W.codeIn K cd10 "law" = true) (k10 : PySem.W.keepIn K (.ref f10) = true)
    (z_int : PySem.W.nsIn K mainGlobals "int" = some none)
    (z_abs : PySem.W.nsIn K mainGlobals "abs" = some none)
    (z_len : PySem.W.nsIn K mainGlobals "len" = some none)
    (z_max : PySem.W.nsIn K mainGlobals "max" = some none)
    (z_dict : PySem.W.nsIn K mainGlobals "dict" = some none)
    (z_list : PySem.W.nsIn K mainGlobals "list" = some none)
    (z_range : PySem.W.nsIn K mainGlobals "range" = some none)
    (z_repr : PySem.W.nsIn K mainGlobals "repr" = some none)
    (z_sorted : PySem.W.nsIn K mainGlobals "sorted" = some none)
    : ∃ fd : FuncData, (∀ (s : Shared) (v : Value), BindsTo s fd ⟨[v], []⟩ [("_law_script", v)]) ∧ ∀ base : Heap, K.In base → base.Ns mainGlobals mg → GOk l.prog w K mg base 73 fa fd ["_law_script"] (spLaw K) := by
  have e := hfa.symm.trans (PySem.W.mg_of X G a10)
  cases e
  have F0 := fun_mk (st := s_note_parts) l0 c0 k0
  have F1 := fun_mk (st := s_lump_parts) l1 c1 k1
  have F2 := fun_mk (st := s_is_shape_lump) l2 c2 k2
  have F3 := fun_mk (st := s_lump_part) l3 c3 k3
  have F4 := fun_mk (st := s_law_source) l4 c4 k4
  have F5 := fun_mk (st := s_law_pick) l5 c5 k5
  have F6 := fun_mk (st := s_law_of) l6 c6 k6
  have F7 := fun_mk (st := s_law_size) l7 c7 k7
  have F8 := fun_mk (st := s_law_shape) l8 c8 k8
  have F9 := fun_mk (st := s_law_lumps) l9 c9 k9
  have F10 := fun_mk (st := s_law) l10 c10 k10
  let T : Defs K mg := {
    d_note_parts := ⟨_, _, F0, PySem.W.mg_of X G a0, F0.binds (ps := ["shape", "place", "parts"]) fun _ _ _ _ _ _ us hl => match us, hl with | [_, _, _], _ => rfl⟩,
    d_lump_parts := ⟨_, _, F1, PySem.W.mg_of X G a1, F1.binds (ps := ["shape"]) fun _ _ _ _ _ _ us hl => match us, hl with | [_], _ => rfl⟩,
    d_is_shape_lump := ⟨_, _, F2, PySem.W.mg_of X G a2, F2.binds (ps := ["shape", "i", "j"]) fun _ _ _ _ _ _ us hl => match us, hl with | [_, _, _], _ => rfl⟩,
    d_lump_part := ⟨_, _, F3, PySem.W.mg_of X G a3, F3.binds (ps := ["shape", "i", "j"]) fun _ _ _ _ _ _ us hl => match us, hl with | [_, _, _], _ => rfl⟩,
    d_law_source := ⟨_, _, F4, PySem.W.mg_of X G a4, F4.binds (ps := ["_law_script"]) fun _ _ _ _ _ _ us hl => match us, hl with | [_], _ => rfl⟩,
    d_law_pick := ⟨_, _, F5, PySem.W.mg_of X G a5, F5.binds (ps := ["_law_source_here", "_law_many"]) fun _ _ _ _ _ _ us hl => match us, hl with | [_, _], _ => rfl⟩,
    d_law_of := ⟨_, _, F6, PySem.W.mg_of X G a6, F6.binds (ps := ["_law_source_here", "_law_some"]) fun _ _ _ _ _ _ us hl => match us, hl with | [_, _], _ => rfl⟩,
    d_law_size := ⟨_, _, F7, PySem.W.mg_of X G a7, F7.binds (ps := ["_law_shape_here"]) fun _ _ _ _ _ _ us hl => match us, hl with | [_], _ => rfl⟩,
    d_law_shape := ⟨_, _, F8, PySem.W.mg_of X G a8, F8.binds (ps := ["_law_source_here", "_law_size_here"]) fun _ _ _ _ _ _ us hl => match us, hl with | [_, _], _ => rfl⟩,
    d_law_lumps := ⟨_, _, F9, PySem.W.mg_of X G a9, F9.binds (ps := ["_law_shape_here", "_law_begin"]) fun _ _ _ _ _ _ us hl => match us, hl with | [_, _], _ => rfl⟩,
    d_law := ⟨_, _, F10, PySem.W.mg_of X G a10, F10.binds (ps := ["_law_script"]) fun _ _ _ _ _ _ us hl => match us, hl with | [_], _ => rfl⟩,
    n_int := PySem.W.mg_none_of X G z_int,
    n_abs := PySem.W.mg_none_of X G z_abs,
    n_len := PySem.W.mg_none_of X G z_len,
    n_max := PySem.W.mg_none_of X G z_max,
    n_dict := PySem.W.mg_none_of X G z_dict,
    n_list := PySem.W.mg_none_of X G z_list,
    n_range := PySem.W.mg_none_of X G z_range,
    n_repr := PySem.W.mg_none_of X G z_repr,
    n_sorted := PySem.W.mg_none_of X G z_sorted }
  exact ⟨_, fun s v => .of_eq rfl, fun base _ _ => ok_law LT T⟩
theorem walk {l : PySem.W.OpenLaw} {q : Program} {loose : List Str} {XP : (Str → Option Value) → Heap → Prop} {YP : World → Heap → Prop} {d : DefRec} {K : Params → PySem.W.Frag} (hn : l.most = some 63) (hdf : d.params.defaults = [])
    (hY : ∀ (w : World) (h : Heap), YP w h → (K w.params).In h)
    (F : ∀ (w : World) (mg : Str → Option Value) (fa : Addr) (h : Heap), (K w.params).In h → h.Ns mainGlobals mg → mg d.name = some (.ref fa) →
      ∃ fd : FuncData, (∀ (s : Shared) (u : Value), BindsTo s fd ⟨[u], []⟩ [("_law_script", u)]) ∧ ∀ base : Heap, (K w.params).In base → base.Ns mainGlobals mg → GOk l.prog w (K w.params) mg base 73 fa fd ["_law_script"] (spLaw (K w.params))) :
    PySem.W.WalkO q loose XP YP l.row.toRowW d [] (fun f vs => PySem.call f vs) :=
  DL.walk_g (n := 63) (k := 73) (x := "_law_script") (sp := fun w => spLaw (K w.params)) hn (by decide) hdf ⟨rfl, by decide, by decide⟩ hY F (fun _ _ a ns hl _ hS => ⟨a, ns, rfl, hS, hl, fun _ _ e => e⟩)
end Lk
namespace Lk
open PySem L2 DL
theorem pick_wp (ω : Src) (many : Int) (h1 : 1 ≤ many) (h2 : many < 2 ^ 60) : (F_law_pick [.int many] ω).wp (fun d _ => ∃ r : Int, d = .int r ∧ 0 ≤ r ∧ r < many) X0 := by
  unfold F_law_pick B_law_pick
  refine Eq.mpr wp_nox ?_
  refine Eq.mpr wp_runS ?_
  refine Eq.mpr sw_seq ?_
  refine sw.mono (P := fun f _ => f = .nx (startT 4 (.src :: [D.int many].map .d))) (while_inv (fun m τ ω => ω.cells.length < m ∧ τ = startT 4 (.src :: [D.int many].map .d)) ⟨by show _ < _ + 2; omega, rfl⟩ ?_) ?_
  · rintro m τ ω ⟨hm, rfl⟩
    refine ⟨by omega, ?_⟩
    repeat walk_at "ev1"
    split
    · repeat walk_at "ev1"
      split
      · repeat walk_at "ev1"
        split
        · rename_i hl
          cases ec : ω.cells with
          | nil => rw [ec] at hl; simp at hl
          | cons z r =>
            refine Eq.mpr (sw_src rfl) ?_
            refine Eq.mpr (wp_srcP rfl ec) ?_
            exact ⟨_, rfl, by rw [ec] at hm; simp at hm ⊢; omega, rfl⟩
        · rfl
      · repeat walk_at "ev1"
        rfl
    · repeat walk_at "ev1"
      rfl
  · rintro f ω1 rfl
    repeat walk_at "ev1"
    have hc : ∀ a : Int, 0 ≤ a % many ∧ a % many < many := fun a => ⟨Int.emod_nonneg _ (by omega), Int.emod_lt_of_pos _ (by omega)⟩
    have hlg : many.natAbs.log2 < 9000 := by
      have : many.natAbs.log2 < 60 := (Nat.log2_lt (by omega)).mpr (by omega)
      omega
    have hd : ∀ x : Int, fdivD (.int x) (.int many) = some (.int (x / many)) := fun x => if_pos ⟨by omega, hlg⟩
    have hm : ∀ x : Int, modD (.int x) (.int many) = some (.int (x % many)) := fun x => if_pos (by omega)
    have hx : bi2 max2D [.int 1, .int many] = some (.int many) := by
      show some (D.int (if many > 1 then many else 1)) = _
      by_cases e : many > 1
      · rw [if_pos e]
      · rw [if_neg e, show many = 1 from by omega]
    have h16 : ∀ x : Int, fdivD (.int x) (.int 16) = some (.int (x / 16)) := fun x => by unfold fdivD; exact if_pos (show (0:Int) < 16 ∧ Nat.log2 16 < 9000 from ⟨by omega, (Nat.log2_lt (by omega)).mpr (by omega)⟩)
    have hk1 : ∀ x : Int, mulD (.int x) (.int 104729) = some (.int (x * 104729)) := fun x => if_pos (.inl (.inr ⟨by omega, by omega⟩))
    have hk2 : ∀ x : Int, mulD (.int x) (.int 17) = some (.int (x * 17)) := fun x => if_pos (.inl (.inr ⟨by omega, by omega⟩))
    have hk3 : ∀ x : Int, mulD (.int (x % 998244353)) (.int (x % 998244353)) = some (.int (x % 998244353 * (x % 998244353))) := fun x => if_pos (.inl (.inr ⟨by omega, by omega⟩))
    have hq1 : ∀ x : Int, modD (.int x) (.int 998244353) = some (.int (x % 998244353)) := fun x => by unfold modD; exact if_pos (show (0:Int) < 998244353 by omega)
    have hq2 : ∀ x : Int, modD (.int x) (.int 2147483647) = some (.int (x % 2147483647)) := fun x => by unfold modD; exact if_pos (show (0:Int) < 2147483647 by omega)
    split
    · repeat (first | with_reducible refine Eq.mpr (DL.wp_eqn (hx)) ?_ | with_reducible refine Eq.mpr (DL.wp_ofOs (hx)) ?_ | with_reducible refine Eq.mpr (DL.wp_eqn (hd _)) ?_ | with_reducible refine Eq.mpr (DL.wp_ofOs (hd _)) ?_ | with_reducible refine Eq.mpr (DL.wp_eqn (hm _)) ?_ | with_reducible refine Eq.mpr (DL.wp_ofOs (hm _)) ?_ | walk_at "ev1")
      exact hc _
    · repeat walk_at "ev1"
      split
      · repeat (first | with_reducible refine Eq.mpr (DL.wp_eqn (hx)) ?_ | with_reducible refine Eq.mpr (DL.wp_ofOs (hx)) ?_ | with_reducible refine Eq.mpr (DL.wp_eqn (hd _)) ?_ | with_reducible refine Eq.mpr (DL.wp_ofOs (hd _)) ?_ | with_reducible refine Eq.mpr (DL.wp_eqn (hm _)) ?_ | with_reducible refine Eq.mpr (DL.wp_ofOs (hm _)) ?_ | walk_at "ev1")
        exact hc _
      · repeat (first | with_reducible refine Eq.mpr (DL.wp_eqn (h16 _)) ?_ | with_reducible refine Eq.mpr (DL.wp_ofOs (h16 _)) ?_ | with_reducible refine Eq.mpr (DL.wp_eqn (hk1 _)) ?_ | with_reducible refine Eq.mpr (DL.wp_ofOs (hk1 _)) ?_ | with_reducible refine Eq.mpr (DL.wp_eqn (hk2 _)) ?_ | with_reducible refine Eq.mpr (DL.wp_ofOs (hk2 _)) ?_ | with_reducible refine Eq.mpr (DL.wp_eqn (hk3 _)) ?_ | with_reducible refine Eq.mpr (DL.wp_ofOs (hk3 _)) ?_ | with_reducible refine Eq.mpr (DL.wp_eqn (hq1 _)) ?_ | with_reducible refine Eq.mpr (DL.wp_ofOs (hq1 _)) ?_ | with_reducible refine Eq.mpr (DL.wp_eqn (hq2 _)) ?_ | with_reducible refine Eq.mpr (DL.wp_ofOs (hq2 _)) ?_ | with_reducible refine Eq.mpr (DL.wp_eqn (hm _)) ?_ | with_reducible refine Eq.mpr (DL.wp_ofOs (hm _)) ?_ | walk_at "ev1")
        exact hc _
theorem pick_ok (ω : Src) (many : Int) (h1 : 1 ≤ many) (h2 : many < 2 ^ 60) : ∃ (r : Int) (ω' : Src), F_law_pick [.int many] ω = .ok (.int r) ω' ∧ 0 ≤ r ∧ r < many := by
  obtain ⟨d, ω', e, r, rfl, h⟩ := (pick_wp ω many h1 h2).ex
  exact ⟨r, ω', e, h⟩
theorem pick_nat (ω : Src) (many : Nat) (h1 : 1 ≤ many) (h2 : many < 1000000) : ∃ (r : Nat) (ω' : Src), F_law_pick [.int (many : Nat)] ω = .ok (.int (r : Nat)) ω' ∧ r < many := by
  obtain ⟨r, ω', e, h3, h4⟩ := pick_ok ω (many : Int) (by omega) (by omega)
  exact ⟨r.toNat, ω', by rw [e]; congr 2; omega, by omega⟩
theorem of_ok (ω : Src) (xs : List D) (h0 : xs ≠ []) (hl : xs.length < 2 ^ 50) : ∃ d ω', F_law_of [.lst xs] ω = .ok d ω' ∧ d ∈ xs := by
  have hp : 1 ≤ xs.length := List.length_pos_iff.mpr h0
  obtain ⟨r, ω1, e, h1, h2⟩ := pick_ok ω (xs.length : Nat) (by omega) (by omega)
  have hr : r = ((r.toNat : Nat) : Int) := by omega
  have hlt : r.toNat < xs.length := by omega
  have e2 : ixD (.lst xs) (.int r) = some xs[r.toNat] := ix_lst hr (List.getElem?_eq_getElem hlt)
  refine R.wp.ex ?_
  unfold F_law_of B_law_of
  have el : un1 lenD [.lst xs] = some (.int (xs.length : Nat)) := rfl
  repeat (first | with_reducible refine Eq.mpr (DL.wp_eqn (el)) ?_ | with_reducible refine Eq.mpr (DL.wp_ofOs (el)) ?_ | with_reducible refine Eq.mpr (DL.wp_eqn (e)) ?_ | with_reducible refine Eq.mpr (DL.wp_ofOs (e)) ?_ | with_reducible refine Eq.mpr (DL.wp_eqn (e2)) ?_ | with_reducible refine Eq.mpr (DL.wp_ofOs (e2)) ?_ | walk_at "ev1")
  exact List.getElem_mem hlt
def hgt : Sh → Nat
  | .o => 0
  | .n l r => 1 + max (hgt l) (hgt r)
theorem hgt_lt : ∀ s : Sh, hgt s < s.size
  | .o => by simp [hgt, Sh.size]
  | .n l r => by
    have h1 := hgt_lt l; have h2 := hgt_lt r; have h3 := Sh.size_pos l; have h4 := Sh.size_pos r
    simp only [hgt, Sh.size]; omega
theorem eqO (s : Sh) : eqD s.enc (.tup []) = some (.bl (decide (s = .o))) := eqD_sh s .o (.inr (by simp [Sh.size]))
theorem eqO_o : eqD (.tup []) (.tup []) = some (.bl true) := eqO .o
theorem eqO_n (l r : Sh) : eqD (.tup [l.enc, r.enc]) (.tup []) = some (.bl false) := eqO (.n l r)
theorem law_size_ok : ∀ (n : Nat) (s : Sh), hgt s < n → F_law_size n [s.enc] = .ok (.int s.size) ()
  | 0, _, h => by omega
  | n + 1, .o, _ => by
    refine R.wp.equ ?_
    show (F_law_size (n + 1) [.tup []]).wp _ _
    unfold F_law_size B_law_size
    repeat (first | with_reducible refine Eq.mpr (DL.wp_eqn (eqO_o)) ?_ | with_reducible refine Eq.mpr (DL.wp_ofOs (eqO_o)) ?_ | walk_at "ev1")
    rfl
  | n + 1, .n l r, h => by
    simp only [hgt] at h
    have e1 := law_size_ok n l (by omega)
    have e2 := law_size_ok n r (by omega)
    refine R.wp.equ ?_
    show (F_law_size (n + 1) [.tup [l.enc, r.enc]]).wp _ _
    unfold F_law_size B_law_size
    repeat (first | with_reducible refine Eq.mpr (DL.wp_eqn (eqO_n l r)) ?_ | with_reducible refine Eq.mpr (DL.wp_ofOs (eqO_n l r)) ?_ | with_reducible refine Eq.mpr (DL.wp_eqn (e1)) ?_ | with_reducible refine Eq.mpr (DL.wp_ofOs (e1)) ?_ | with_reducible refine Eq.mpr (DL.wp_eqn (e2)) ?_ | with_reducible refine Eq.mpr (DL.wp_ofOs (e2)) ?_ | with_reducible refine Eq.mpr (DL.wp_eqn (addN _ _)) ?_ | with_reducible refine Eq.mpr (DL.wp_ofOs (addN _ _)) ?_ | walk_at "ev1")
    rfl
theorem iteP {c : Prop} [Decidable c] {a b : Prop} (h : c) (k : a) : if c then a else b := by rw [if_pos h]; exact k
theorem iteN {c : Prop} [Decidable c] {a b : Prop} (h : ¬ c) (k : b) : if c then a else b := by rw [if_neg h]; exact k
abbrev kk (i j : Nat) : List Key := [.inl (i : Int), .inl (j : Int)]
theorem kk_inj {i j i' j' : Nat} : kk i j = kk i' j' ↔ i = i' ∧ j = j' := by
  unfold kk; constructor
  · intro h; injection h with h1 h2; injection h2 with h2; injection h1 with h1; injection h2 with h2; omega
  · rintro ⟨rfl, rfl⟩; rfl
theorem kk_neg {a b : Nat} {i j : Int} (h : i < 0 ∨ j < 0) : ¬ kk a b = [.inl i, .inl j] := by
  unfold kk
  intro e
  injection e with e1 e2
  injection e2 with e2
  injection e1 with e1
  injection e2 with e2
  omega
/-- a part by whole numbers of any sign -/
def subI (s : Sh) (i j : Int) : Option Sh := if 0 ≤ i ∧ 0 ≤ j then sub s i.toNat j.toNat else none
def orE : Option Sh → Option D → Option D
  | some x, _ => some x.enc
  | none, d => d
theorem note_parts_ok : ∀ (n : Nat) (s : Sh) (p : Nat) (ks : List (List Key)) (ds : List D), hgt s < n → ks.length = ds.length → ks.length + 2 * s.size ≤ 1000 →
    (F_note_parts n [s.enc, .int p] (.T ks, ds)).wp (fun d o => d = .int (p + s.size : Nat) ∧ ∃ ks' ds', o = (.T ks', ds') ∧ ks'.length = ds'.length ∧ ks'.length + 1 ≤ ks.length + 2 * s.size ∧ (∀ i j, lkp ks' ds' (kk i j) = if p ≤ i then orE (sub s (i - p) (j - p)) (lkp ks ds (kk i j)) else lkp ks ds (kk i j)) ∧ ∀ i j : Int, i < 0 ∨ j < 0 → lkp ks' ds' [.inl i, .inl j] = lkp ks ds [.inl i, .inl j]) X0
  | 0, s, _, _, _, h, _, _ => by omega
  | n + 1, .o, p, ks, ds, h, hl, hz => by
    show (F_note_parts (n + 1) [.tup [], .int p] (.T ks, ds)).wp _ _
    unfold F_note_parts B_note_parts
    have e0 : neD (.tup []) (.tup []) = some (.bl false) := ne_same Sh.o (by decide)
    repeat (first | with_reducible refine Eq.mpr (DL.wp_eqn (e0)) ?_ | with_reducible refine Eq.mpr (DL.wp_ofOs (e0)) ?_ | with_reducible refine Eq.mpr (DL.wp_eqn (addN p 1)) ?_ | with_reducible refine Eq.mpr (DL.wp_ofOs (addN p 1)) ?_ | walk_at "ev1")
    refine sw_putTs rfl ?_
    repeat walk_at "ev1"
    refine ⟨_, ks, ds, rfl, rfl, by simp [Sh.size] at hz; omega, Nat.le_of_ble_eq_true rfl, ?_⟩
    repeat walk_at "ev1"
    refine ⟨rfl, _, _, rfl, put_len _ _ hl, ?_, fun i j => ?_, fun i j hn => (lkp_put (kk p (p + 1)) (.tup []) ks ds _ hl).trans (if_neg (kk_neg hn))⟩
    · have := putKs_le ks (kk p (p + 1)); simp only [Sh.size]; exact Nat.le_trans (Nat.succ_le_succ this) (by omega)
    · have hk := lkp_put (kk p (p + 1)) (.tup []) ks ds (kk i j) hl
      refine hk.trans ?_
      by_cases hi : p ≤ i
      · rw [if_pos hi]
        by_cases hc : kk p (p + 1) = kk i j
        · rw [if_pos hc]
          obtain ⟨rfl, rfl⟩ := kk_inj.mp hc
          simp [sub, orE, Sh.enc]
        · rw [if_neg hc]
          have : sub .o (i - p) (j - p) = none := by
            unfold sub; rw [if_neg]; intro ⟨a, b⟩; exact hc (kk_inj.mpr (by omega))
          rw [this]; rfl
      · rw [if_neg hi, if_neg]
        intro hc; obtain ⟨rfl, rfl⟩ := kk_inj.mp hc; omega
  | n + 1, .n l r, p, ks, ds, h, hl, hz => by
    simp only [hgt] at h
    simp only [Sh.size] at hz
    have l1 := Sh.size_pos l
    have r1 := Sh.size_pos r
    obtain ⟨d1, o1, e1, rfl, ks1, ds1, rfl, a1, a2, a3, a4⟩ := (note_parts_ok n l p ks ds (by omega) hl (by omega)).ex
    obtain ⟨d2, o2, e2, rfl, ks2, ds2, rfl, b1, b2, b3, b4⟩ := (note_parts_ok n r (p + l.size) ks1 ds1 (by omega) a1 (by omega)).ex
    show (F_note_parts (n + 1) [.tup [l.enc, r.enc], .int p] (.T ks, ds)).wp _ _
    unfold F_note_parts B_note_parts
    have e0 : neD (.tup [l.enc, r.enc]) (.tup []) = some (.bl true) := neD_sh (.n l r) .o (.inr (by decide))
    repeat (first | with_reducible refine Eq.mpr (DL.wp_eqn (e0)) ?_ | with_reducible refine Eq.mpr (DL.wp_ofOs (e0)) ?_ | with_reducible refine Eq.mpr (DL.wp_eqn (addN p 1)) ?_ | with_reducible refine Eq.mpr (DL.wp_ofOs (addN p 1)) ?_ | with_reducible refine Eq.mpr (DL.wp_eqn (e1)) ?_ | with_reducible refine Eq.mpr (DL.wp_ofOs (e1)) ?_ | with_reducible refine Eq.mpr (DL.wp_eqn (e2)) ?_ | with_reducible refine Eq.mpr (DL.wp_ofOs (e2)) ?_ | walk_at "ev1")
    refine sw_putTs rfl ?_
    repeat walk_at "ev1"
    refine ⟨_, ks2, ds2, rfl, rfl, by omega, Nat.le_of_ble_eq_true rfl, ?_⟩
    repeat walk_at "ev1"
    refine ⟨by simp only [Sh.size, Nat.add_assoc], _, _, rfl, put_len _ _ b1, ?_, fun i j => ?_, fun i j hn => (lkp_put (kk p (p + l.size + r.size)) (.tup [l.enc, r.enc]) ks2 ds2 _ b1).trans ((if_neg (kk_neg hn)).trans ((b4 i j hn).trans (a4 i j hn)))⟩
    · have := putKs_le ks2 (kk p (p + l.size + r.size)); simp only [Sh.size]; exact Nat.le_trans (Nat.succ_le_succ this) (by omega)
    · refine (lkp_put (kk p (p + l.size + r.size)) (.tup [l.enc, r.enc]) ks2 ds2 (kk i j) b1).trans ?_
      by_cases hi : p ≤ i
      · rw [if_pos hi]
        by_cases hc : kk p (p + l.size + r.size) = kk i j
        · rw [if_pos hc]
          obtain ⟨rfl, rfl⟩ := kk_inj.mp hc
          have : sub (.n l r) (p - p) (p + l.size + r.size - p) = some (.n l r) := by
            unfold sub; rw [if_pos (by omega)]
          rw [this]; rfl
        · rw [if_neg hc, b3 i j, a3 i j, if_pos hi]
          have hne : ¬ (i - p = 0 ∧ j - p = l.size + r.size) := fun ⟨x, y⟩ => hc (kk_inj.mpr (by omega))
          have e : sub (.n l r) (i - p) (j - p) = if j - p ≤ l.size then sub l (i - p) (j - p) else if l.size ≤ i - p then sub r (i - p - l.size) (j - p - l.size) else none := by
            conv => lhs; unfold sub
            rw [if_neg hne]
          rw [e]
          by_cases hj : j - p ≤ l.size
          · rw [if_pos hj]
            by_cases hi2 : p + l.size ≤ i
            · rw [if_pos hi2]
              have : sub r (i - (p + l.size)) (j - (p + l.size)) = none := by
                cases q : sub r (i - (p + l.size)) (j - (p + l.size)) with
                | none => rfl
                | some x => have := sub_bd _ _ _ _ q; omega
              rw [this]; rfl
            · rw [if_neg hi2]
          · have q0 : sub l (i - p) (j - p) = none := by
              cases q : sub l (i - p) (j - p) with
              | none => rfl
              | some x => have := sub_bd _ _ _ _ q; omega
            rw [if_neg hj, q0]
            by_cases hi2 : p + l.size ≤ i
            · rw [if_pos hi2, if_pos (by omega), show i - (p + l.size) = i - p - l.size by omega, show j - (p + l.size) = j - p - l.size by omega]
              rfl
            · rw [if_neg hi2, if_neg (by omega)]
      · rw [if_neg hi, if_neg, b3 i j, a3 i j, if_neg (by omega), if_neg hi]
        intro hc; obtain ⟨rfl, rfl⟩ := kk_inj.mp hc; omega
theorem lump_parts_ok (s : Sh) (h : s.size ≤ 70) : ∃ ks ds, F_lump_parts [s.enc] = .ok (.dit ks ds) () ∧ ks.length = ds.length ∧ ks.length ≤ 2 * s.size ∧ ∀ i j : Int, lkp ks ds [.inl i, .inl j] = (subI s i j).map Sh.enc := by
  suffices h : (F_lump_parts [s.enc]).wp (fun d _ => ∃ ks ds, d = .dit ks ds ∧ ks.length = ds.length ∧ ks.length ≤ 2 * s.size ∧ ∀ i j : Int, lkp ks ds [.inl i, .inl j] = (subI s i j).map Sh.enc) X0 by
    obtain ⟨d, _, e, ks, ds, rfl, h1, h2⟩ := h.ex
    exact ⟨ks, ds, e, h1, h2⟩
  have hh := hgt_lt s
  obtain ⟨d1, o1, e1, rfl, ks1, ds1, rfl, a1, a2, a3, a4⟩ := (note_parts_ok 70 s 0 [] [] (by omega) rfl (by simp; omega)).ex
  unfold F_lump_parts B_lump_parts
  repeat walk_at "ev1"
  refine Eq.mpr sw_newT ?_
  repeat walk_at "ev1"
  refine sw_callW rfl ?_
  repeat (first | with_reducible refine Eq.mpr (DL.wp_eqn (e1)) ?_ | with_reducible refine Eq.mpr (DL.wp_ofOs (e1)) ?_ | walk_at "ev1")
  show sw (sRetW 1 [some (.d s.enc), some (.ow (.T ks1) ds1)] ()) _
  refine Eq.mpr (sw_retW (k := .T ks1) (xs := ds1) rfl) ?_
  show ∃ ks ds, _
  refine ⟨ks1, ds1, rfl, a1, by simp at a2; omega, fun i j => ?_⟩
  unfold subI
  by_cases hc : 0 ≤ i ∧ 0 ≤ j
  · rw [if_pos hc]
    obtain ⟨i', rfl⟩ := Int.eq_ofNat_of_zero_le hc.1
    obtain ⟨j', rfl⟩ := Int.eq_ofNat_of_zero_le hc.2
    refine (a3 i' j').trans ?_
    rw [if_pos (Nat.zero_le _)]
    simp only [Nat.sub_zero, lkp, Int.toNat_natCast]
    cases sub s i' j' <;> rfl
  · rw [if_neg hc]
    exact a4 i j (by omega)
theorem law_lumps_ok : ∀ (n : Nat) (s : Sh) (p : Nat), hgt s < n → s.size ≤ 100 → F_law_lumps n [s.enc, .int p] = .ok (.lst ((lm s p).map lD)) ()
  | 0, _, _, h, _ => by omega
  | n + 1, .o, p, _, _ => by
    refine R.wp.equ ?_
    show (F_law_lumps (n + 1) [.tup [], .int p]).wp _ _
    unfold F_law_lumps B_law_lumps
    repeat (first | with_reducible refine Eq.mpr (DL.wp_eqn (eqO_o)) ?_ | with_reducible refine Eq.mpr (DL.wp_ofOs (eqO_o)) ?_ | with_reducible refine Eq.mpr (DL.wp_eqn (addN p 1)) ?_ | with_reducible refine Eq.mpr (DL.wp_ofOs (addN p 1)) ?_ | walk_at "ev1")
    rfl
  | n + 1, .n l r, p, h, hz => by
    simp only [hgt] at h
    simp only [Sh.size] at hz
    have e1 := law_lumps_ok n l p (by omega) (by omega)
    have e2 := law_lumps_ok n r (p + l.size) (by omega) (by omega)
    have n1 := lm_len l p
    have n2 := lm_len r (p + l.size)
    refine R.wp.equ ?_
    show (F_law_lumps (n + 1) [.tup [l.enc, r.enc], .int p]).wp _ _
    unfold F_law_lumps B_law_lumps
    obtain ⟨r1, h1⟩ := lm_cons l p
    obtain ⟨r2, h2⟩ := lm_cons r (p + l.size)
    have i1 : ixD (.lst ((lm l p).map lD)) (.int 0) = some (lD (p, p + l.size, l)) := by
      rw [h1]; exact ix_lst (k := 0) rfl rfl
    have i2 : ixD (.lst ((lm r (p + l.size)).map lD)) (.int 0) = some (lD (p + l.size, p + l.size + r.size, r)) := by
      rw [h2]; exact ix_lst (k := 0) rfl rfl
    have j1 : ∀ a b c : D, ixD (.tup [a, b, c]) (.int 1) = some b := fun a b c => ix_tup (k := 1) rfl rfl
    have k1 := addL2 [lD (p, p + l.size + r.size, .n l r)] ((lm l p).map lD) (by simp; omega)
    have k2 := addL2 ([lD (p, p + l.size + r.size, .n l r)] ++ (lm l p).map lD) ((lm r (p + l.size)).map lD) (by simp; omega)
    repeat (first | with_reducible refine Eq.mpr (DL.wp_eqn (eqO_n l r)) ?_ | with_reducible refine Eq.mpr (DL.wp_ofOs (eqO_n l r)) ?_ | with_reducible refine Eq.mpr (DL.wp_eqn (e1)) ?_ | with_reducible refine Eq.mpr (DL.wp_ofOs (e1)) ?_ | with_reducible refine Eq.mpr (DL.wp_eqn (i1)) ?_ | with_reducible refine Eq.mpr (DL.wp_ofOs (i1)) ?_ | with_reducible refine Eq.mpr (DL.wp_eqn (j1 _ _ _)) ?_ | with_reducible refine Eq.mpr (DL.wp_ofOs (j1 _ _ _)) ?_ | with_reducible refine Eq.mpr (DL.wp_eqn (e2)) ?_ | with_reducible refine Eq.mpr (DL.wp_ofOs (e2)) ?_ | with_reducible refine Eq.mpr (DL.wp_eqn (i2)) ?_ | with_reducible refine Eq.mpr (DL.wp_ofOs (i2)) ?_ | with_reducible refine Eq.mpr (DL.wp_eqn (k1)) ?_ | with_reducible refine Eq.mpr (DL.wp_ofOs (k1)) ?_ | with_reducible refine Eq.mpr (DL.wp_eqn (k2)) ?_ | with_reducible refine Eq.mpr (DL.wp_ofOs (k2)) ?_ | walk_at "ev1")
    show D.lst _ = D.lst _
    simp only [lm, List.map_cons, List.map_append, Nat.add_assoc, List.singleton_append, List.cons_append, List.nil_append]
abbrev kq (q : Nat × Nat × Sh) : List Key := [.inl (q.1 : Int), .inl (q.2.1 : Int)]
abbrev tD (q : Nat × Nat × Sh) : D := .tup [.tup [.int (q.1 : Nat), .int (q.2.1 : Nat)], q.2.2.enc]
theorem pairsT_lm : ∀ L : List (Nat × Nat × Sh), pairsT (L.map tD) = some (L.map kq, L.map fun q => q.2.2.enc)
  | [] => rfl
  | q :: L => by
    have ih := pairsT_lm L
    simp only [List.map_cons, pairsT, D.keyL, D.key, ih]
theorem lm_bd {s : Sh} {p : Nat} {q : Nat × Nat × Sh} (h : q ∈ lm s p) : p ≤ q.1 ∧ q.1 < q.2.1 ∧ q.2.1 ≤ p + s.size := by
  obtain ⟨i, j, x⟩ := q
  obtain ⟨h1, h2⟩ := (mem_lm s p i j x).mp h
  have := sub_bd _ _ _ _ h2
  dsimp only
  omega
theorem kq_inj {q r : Nat × Nat × Sh} (h : kq q = kq r) : q.1 = r.1 ∧ q.2.1 = r.2.1 := by
  injection h with h1 h2
  injection h2 with h2
  injection h1 with h1
  injection h2 with h2
  omega
theorem lm_nodup : ∀ (s : Sh) (p : Nat), ((lm s p).map kq).Nodup
  | .o, p => by simp [lm]
  | .n l r, p => by
    have h1 := lm_nodup l p
    have h2 := lm_nodup r (p + l.size)
    have lp := l.size_pos
    have rp := r.size_pos
    rw [lm, List.map_cons, List.map_append, List.nodup_cons, List.nodup_append]
    refine ⟨fun hm => ?_, h1, h2, fun a ha b hb e => ?_⟩
    · rcases List.mem_append.mp hm with hm | hm
      · obtain ⟨q, hq, e⟩ := List.mem_map.mp hm
        have := kq_inj e
        have := lm_bd hq
        dsimp only at *
        omega
      · obtain ⟨q, hq, e⟩ := List.mem_map.mp hm
        have := kq_inj e
        have := lm_bd hq
        dsimp only at *
        omega
    · obtain ⟨q, hq, e1⟩ := List.mem_map.mp ha
      obtain ⟨q', hq', e2⟩ := List.mem_map.mp hb
      have := kq_inj (e1.trans (e.trans e2.symm))
      have := lm_bd hq
      have := lm_bd hq'
      omega
theorem dict_lm (s : Sh) : un1 dictTD [.lst ((lm s 0).map tD)] = some (.dit ((lm s 0).map kq) ((lm s 0).map fun q => q.2.2.enc)) := by
  unfold un1 dictTD
  dsimp only
  rw [pairsT_lm]
  dsimp only
  rw [if_pos (lm_nodup s 0)]
theorem lkp_map (k : List Key) : ∀ L : List (Nat × Nat × Sh), lkp (L.map kq) (L.map fun q => q.2.2.enc) k = (L.find? fun q => decide (kq q = k)).map fun q => q.2.2.enc
  | [] => rfl
  | q :: L => by
    have ih := lkp_map k L
    rw [List.map_cons, List.map_cons]
    show (if kq q = k then some q.2.2.enc else lkp (L.map kq) (L.map fun q => q.2.2.enc) k) = _
    rw [ih, List.find?_cons]
    by_cases c : kq q = k
    · rw [if_pos c, decide_eq_true c]; rfl
    · rw [if_neg c, decide_eq_false c]
theorem lkp_lm (s : Sh) (i j : Int) : lkp ((lm s 0).map kq) ((lm s 0).map fun q => q.2.2.enc) [.inl i, .inl j] = (subI s i j).map Sh.enc := by
  rw [lkp_map]
  unfold subI
  by_cases hc : 0 ≤ i ∧ 0 ≤ j
  · rw [if_pos hc]
    obtain ⟨i', rfl⟩ := Int.eq_ofNat_of_zero_le hc.1
    obtain ⟨j', rfl⟩ := Int.eq_ofNat_of_zero_le hc.2
    rw [Int.toNat_natCast, Int.toNat_natCast]
    cases hf : (lm s 0).find? fun q => decide (kq q = [.inl (i' : Int), .inl (j' : Int)]) with
    | none =>
      cases hs : sub s i' j' with
      | none => rfl
      | some x =>
        have hm : (i', j', x) ∈ lm s 0 := (mem_lm s 0 i' j' x).mpr ⟨Nat.zero_le _, hs⟩
        have := List.find?_eq_none.mp hf _ hm
        simp at this
    | some q =>
      have hm := List.mem_of_find?_eq_some hf
      have he : kq q = [.inl (i' : Int), .inl (j' : Int)] := of_decide_eq_true (List.find?_some (p := fun q => decide (kq q = [.inl (i' : Int), .inl (j' : Int)])) hf)
      obtain ⟨a, b, x⟩ := q
      have he2 : kq (a, b, x) = kq (i', j', x) := he
      obtain ⟨e1, e2⟩ := kq_inj he2
      dsimp only at e1 e2
      subst e1 e2
      have := ((mem_lm s 0 a b x).mp hm).2
      rw [Nat.sub_zero, Nat.sub_zero] at this
      rw [this]
      rfl
  · rw [if_neg hc]
    have hf : (lm s 0).find? (fun q => decide (kq q = [.inl i, .inl j])) = none := List.find?_eq_none.mpr fun q hq e => by
      have e := of_decide_eq_true e
      injection e with e1 e2
      injection e2 with e2
      injection e1 with e1
      injection e2 with e2
      omega
    rw [hf]
    rfl
/-- no two lumps cross -/
theorem lm_apart : ∀ (s : Sh) (p : Nat) (q r : Nat × Nat × Sh), q ∈ lm s p → r ∈ lm s p → ¬ (q.1 < r.1 ∧ r.1 < q.2.1 ∧ q.2.1 < r.2.1)
  | .o, p, q, r, h1, h2, h => by
    simp only [lm, List.mem_singleton] at h1 h2
    subst h1 h2
    dsimp only at h
    omega
  | .n l r', p, q, r, h1, h2, h => by
    have b1 := lm_bd h1
    have b2 := lm_bd h2
    simp only [Sh.size] at b1 b2
    simp only [lm, List.mem_cons, List.mem_append] at h1 h2
    rcases h1 with rfl | h1 | h1
    · dsimp only at h; omega
    · rcases h2 with rfl | h2 | h2
      · dsimp only at h; omega
      · exact lm_apart l p q r h1 h2 h
      · have := lm_bd h1
        have := lm_bd h2
        omega
    · rcases h2 with rfl | h2 | h2
      · dsimp only at h; omega
      · have := lm_bd h1
        have := lm_bd h2
        omega
      · exact lm_apart r' (p + l.size) q r h1 h2 h
/-- the lumps that begin at i, sorted -/
abbrev pI (q : Nat × Nat × Sh) : Int × Int := ((q.1 : Int), (q.2.1 : Int))
theorem strict_unique : ∀ {xs ys : List (Int × Int)}, (∀ x, x ∈ xs ↔ x ∈ ys) → xs.Pairwise (fun a b => leP a b ∧ a ≠ b) → ys.Pairwise (fun a b => leP a b ∧ a ≠ b) → xs = ys
  | [], [], _, _, _ => rfl
  | [], y :: ys, h, _, _ => absurd ((h y).mpr (List.mem_cons_self ..)) (by simp)
  | x :: xs, [], h, _, _ => absurd ((h x).mp (List.mem_cons_self ..)) (by simp)
  | x :: xs, y :: ys, h, h1, h2 => by
    rw [List.pairwise_cons] at h1 h2
    have e : x = y := by
      rcases List.mem_cons.mp ((h x).mp (List.mem_cons_self ..)) with q | q
      · exact q
      · rcases List.mem_cons.mp ((h y).mpr (List.mem_cons_self ..)) with r | r
        · exact r.symm
        · exact leP_anti (h1.1 y r).1 (h2.1 x q).1
    subst e
    rw [strict_unique (fun z => ⟨fun hz => ?_, fun hz => ?_⟩) h1.2 h2.2]
    · rcases List.mem_cons.mp ((h z).mp (List.mem_cons_of_mem _ hz)) with q | q
      · exact absurd q.symm (h1.1 z hz).2
      · exact q
    · rcases List.mem_cons.mp ((h z).mpr (List.mem_cons_of_mem _ hz)) with q | q
      · exact absurd q.symm (h2.1 z hz).2
      · exact q
theorem sort_strict {xs : List (Int × Int)} (h : xs.Nodup) : (sortP xs).Pairwise (fun a b => leP a b ∧ a ≠ b) :=
  List.Pairwise.and (sortP_sorted xs) ((sortP_perm xs).nodup_iff.mpr h)
theorem sort_begin (s : Sh) (i : Nat) : sortP (((lm s 0).filter fun q => decide (q.1 = i)).map pI) = ((List.range (s.size + 2)).filter fun j : Nat => (subI s (i : Int) (j : Int)).isSome).map fun j : Nat => ((i : Int), (j : Int)) := by
  refine strict_unique (fun x => ?_) (sort_strict ?_) ?_
  · rw [(sortP_perm _).mem_iff, List.mem_map, List.mem_map]
    constructor
    · rintro ⟨q, hq, rfl⟩
      obtain ⟨hq1, hq2⟩ := List.mem_filter.mp hq
      have hq2 := of_decide_eq_true hq2
      have hb := lm_bd hq1
      obtain ⟨a, b, x⟩ := q
      dsimp only at hq2 hb
      subst hq2
      have hs := ((mem_lm s 0 a b x).mp hq1).2
      rw [Nat.sub_zero, Nat.sub_zero] at hs
      refine ⟨b, List.mem_filter.mpr ⟨List.mem_range.mpr (by omega), ?_⟩, rfl⟩
      unfold subI
      rw [if_pos (by omega), Int.toNat_natCast, Int.toNat_natCast, hs]
      rfl
    · rintro ⟨j, hj, rfl⟩
      obtain ⟨hj1, hj2⟩ := List.mem_filter.mp hj
      unfold subI at hj2
      rw [if_pos (by omega), Int.toNat_natCast, Int.toNat_natCast] at hj2
      obtain ⟨x, hx⟩ := Option.isSome_iff_exists.mp hj2
      exact ⟨(i, j, x), List.mem_filter.mpr ⟨(mem_lm s 0 i j x).mpr ⟨Nat.zero_le _, hx⟩, decide_eq_true rfl⟩, rfl⟩
  · have hn := lm_nodup s 0
    refine List.pairwise_map.mpr (List.Pairwise.filter _ ?_)
    refine List.Pairwise.imp ?_ (List.pairwise_map.mp hn)
    intro a b hab e
    have e1 : (a.1 : Int) = b.1 := congrArg Prod.fst e
    have e2 : (a.2.1 : Int) = b.2.1 := congrArg Prod.snd e
    refine hab ?_
    show [Sum.inl (a.1 : Int), Sum.inl (a.2.1 : Int)] = [Sum.inl (b.1 : Int), Sum.inl (b.2.1 : Int)]
    rw [e1, e2]
  · refine List.pairwise_map.mpr (List.Pairwise.filter _ ?_)
    refine List.Pairwise.imp ?_ List.pairwise_lt_range
    intro a b hab
    refine ⟨by unfold leP; dsimp only; omega, fun e => ?_⟩
    have : (a : Int) = b := congrArg Prod.snd e
    omega
structure Sf (p : PyData) (k : Nat) : Prop where
  l : p.canLay0 = true
  d : p.depth ≤ k
  e : PyData.eqv p p = true
theorem Sf.all {ps : List PyData} {k : Nat} (h : ∀ p ∈ ps, Sf p k) : PyData.canLayAll0 ps = true ∧ PyData.depthAll ps ≤ k ∧ PyData.eqvAll ps ps = true := by
  induction ps with
  | nil => exact ⟨by simp only [PyData.canLayAll0], by simp only [PyData.depthAll]; omega, by simp only [PyData.eqvAll]⟩
  | cons p ps ih =>
    obtain ⟨h1, h2, h3⟩ := ih fun x hx => h x (List.mem_cons_of_mem _ hx)
    have hp := h p (List.mem_cons_self ..)
    refine ⟨by simp only [PyData.canLayAll0, hp.l, h1]; rfl, ?_, by simp only [PyData.eqvAll, hp.e, h3]; rfl⟩
    have := hp.d
    simp only [PyData.depthAll]
    omega
theorem Sf.tup {ps : List PyData} {k : Nat} (h : ∀ p ∈ ps, Sf p k) : Sf (.tuple ps) (k + 1) := by
  obtain ⟨h1, h2, h3⟩ := Sf.all h
  exact ⟨by simp only [PyData.canLay0, h1], by simp only [PyData.depth]; omega, by simp only [PyData.eqv, h3]⟩
theorem Sf.lst {ps : List PyData} {k : Nat} (h : ∀ p ∈ ps, Sf p k) : Sf (.list ps) (k + 1) := by
  obtain ⟨h1, h2, h3⟩ := Sf.all h
  exact ⟨by simp only [PyData.canLay0, h1], by simp only [PyData.depth]; omega, by simp only [PyData.eqv, h3]⟩
theorem Sf.enc {α : Type} [DecidableEq α] [Enc α] (a : α) : Sf (Enc.py a) (Enc.dep a) := ⟨Enc.e3 a, Enc.e4 a, by rw [Enc.e2]; exact decide_eq_true rfl⟩
theorem Sf.le {p : PyData} {k m : Nat} (h : Sf p k) (hk : k ≤ m) : Sf p m := ⟨h.l, Nat.le_trans h.d hk, h.e⟩
theorem Sf.non : Sf .none 0 := ⟨by simp only [PyData.canLay0], by simp only [PyData.depth]; omega, by simp only [PyData.eqv]⟩
theorem Sf.ne {d : D} {p : PyData} {k : Nat} (h : Sf p k) (e : d.py = some p) (hk : k ≤ 150) : neD d d = some (.bl false) := by
  unfold neD eqB
  rw [e]
  dsimp only
  rw [if_pos ⟨h.l, h.l, by have := h.d; omega⟩]
  show some (D.bl (!(PyData.eqv p p))) = _
  rw [h.e]
  rfl
abbrev shD (o : Option Sh) : D := (o.map Sh.enc).getD .non
theorem is_isl (s : Sh) (hs : s.size ≤ 60) (i j : Int) : F_is_shape_lump [s.enc, .int i, .int j] = .ok (.bl (subI s i j).isSome) () := by
  obtain ⟨ks, ds, e, _, _, h3⟩ := lump_parts_ok s (by omega)
  apply R.wp.equ
  unfold F_is_shape_lump B_is_shape_lump
  have hs0 : startT 3 ([s.enc, D.int i, D.int j].map Cell.d) = [some (.d s.enc), some (.d (.int i)), some (.d (.int j))] := rfl
  rw [hs0]
  repeat walk_at "ev1"
  refine Eq.mpr wp_eDiX ?_
  repeat walk_at "ev1"
  refine ⟨[.inl i, .inl j], rfl, Nat.le_of_ble_eq_true rfl, ?_⟩
  repeat (first | with_reducible refine Eq.mpr (DL.wp_eqn (e)) ?_ | with_reducible refine Eq.mpr (DL.wp_ofOs (e)) ?_ | walk_at "ev1")
  refine ⟨ks, ds, rfl, ?_⟩
  rw [h3, Option.isSome_map]
theorem wp_eGetT1 {Ω : Type} {τ : Tau} {ω : Ω} {Fa : E Ω D} {Fr : E Ω (List D)} {P : D → Ω → Prop} {X} (h : (Fa τ ω).wp (fun x ω1 => ∃ ks ds, x = .dit ks ds ∧ (Fr τ ω1).wp (fun xs ω2 => ∃ k, D.keyL xs = some k ∧ k.length ≤ 1000 ∧ P ((lkp ks ds k).getD .non) ω2) X) X) : (eGetT Fa Fr τ ω).wp P X := by
  unfold eGetT; rw [wp_bind]
  refine h.mono ?_
  rintro x ω1 ⟨ks, ds, rfl, h⟩
  dsimp only
  rw [wp_bind]
  refine h.mono ?_
  rintro xs ω2 ⟨k, e, hk, h⟩
  rw [e]
  dsimp only
  rw [if_pos hk]
  exact Eq.mpr wp_ok h
theorem part_ok (s : Sh) (hs : s.size ≤ 60) (i j : Int) : F_lump_part [s.enc, .int i, .int j] = .ok (shD (subI s i j)) () := by
  obtain ⟨ks, ds, e, _, _, h3⟩ := lump_parts_ok s (by omega)
  apply R.wp.equ
  unfold F_lump_part B_lump_part
  have hs0 : startT 3 ([s.enc, D.int i, D.int j].map Cell.d) = [some (.d s.enc), some (.d (.int i)), some (.d (.int j))] := rfl
  rw [hs0]
  repeat walk_at "ev1"
  refine wp_eGetT1 ?_
  repeat (first | with_reducible refine Eq.mpr (DL.wp_eqn (e)) ?_ | with_reducible refine Eq.mpr (DL.wp_ofOs (e)) ?_ | walk_at "ev1")
  refine ⟨ks, ds, rfl, ?_⟩
  repeat walk_at "ev1"
  refine ⟨[.inl i, .inl j], rfl, Nat.le_of_ble_eq_true rfl, ?_⟩
  rw [h3]
theorem sub_sz : ∀ (s : Sh) (i j : Nat) (x : Sh), sub s i j = some x → x.size ≤ s.size
  | .o, i, j, x, h => by
    unfold sub at h
    split at h
    · cases h; exact Nat.le_refl _
    · cases h
  | .n l r, i, j, x, h => by
    simp only [Sh.size]
    unfold sub at h
    split at h
    · cases h; exact Nat.le_refl _
    · split at h
      · have := sub_sz l _ _ _ h; omega
      · split at h
        · have := sub_sz r _ _ _ h; omega
        · cases h
theorem subI_sz {s : Sh} {i j : Int} {x : Sh} (h : subI s i j = some x) : x.size ≤ s.size := by
  unfold subI at h
  split at h
  · exact sub_sz _ _ _ _ h
  · cases h
theorem repr_shD (o : Option Sh) (h : ∀ s, o = some s → s.size ≤ 60) : ∃ z : Str, un1 DL.reprD [shD o] = some (.str z) ∧ neD (.str z) (.str z) = some (.bl false) := by
  cases o with
  | none => exact ⟨"None", by kernel_rfl, by kernel_rfl⟩
  | some s =>
    have hz := h s rfl
    have g := (Gd.shp s).le (b' := 1000000) (d' := 60) (by omega) hz
    have h := repr_ne_same (α := Sh) s (.inl (by cases s; exact ⟨_, rfl⟩; exact ⟨_, rfl⟩)) g (by omega) (by omega)
    exact ⟨_, h.1, h.2⟩
theorem repr_b (b : Bool) : ∃ z : Str, un1 DL.reprD [.bl b] = some (.str z) ∧ neD (.str z) (.str z) = some (.bl false) := by
  cases b
  · exact ⟨_, rfl, str_ne_same _ (strOk_ofString _)⟩
  · exact ⟨_, rfl, str_ne_same _ (strOk_ofString _)⟩
theorem prs_ne (L : List (Int × Int)) : neD (.lst (L.map intP)) (.lst (L.map intP)) = some (.bl false) := by
  have hp : ∀ L : List (Int × Int), D.pyL (L.map intP) = some (L.map fun q => PyData.tuple [.int q.1, .int q.2]) := by
    intro L
    induction L with
    | nil => rfl
    | cons q L ih => simp [DL.intP, D.pyL, D.py, ih]
  have e : (D.lst (L.map intP)).py = some (.list (L.map fun q => PyData.tuple [.int q.1, .int q.2])) := by rw [D.py, hp]; rfl
  refine Sf.ne (k := 2) (Sf.lst fun p h => ?_) e (by omega)
  obtain ⟨q, _, rfl⟩ := List.mem_map.mp h
  refine Sf.tup fun p h => ?_
  simp only [List.mem_cons, List.not_mem_nil, or_false] at h
  rcases h with rfl | rfl
  · exact Sf.enc (α := Int) _
  · exact Sf.enc (α := Int) _
theorem rangeL_N : ∀ n, rangeL 0 1 n = (List.range n).map fun k : Nat => D.int (k : Int) := by
  have key : ∀ (n : Nat) (lo : Nat), rangeL (lo : Nat) 1 n = (List.range n).map fun k : Nat => D.int ((lo + k : Nat) : Int) := by
    intro n
    induction n with
    | zero => exact fun _ => rfl
    | succ n ih =>
      intro lo
      have := ih (lo + 1)
      rw [List.range_succ_eq_map, List.map_cons, List.map_map]
      show D.int (lo : Int) :: rangeL ((lo : Int) + 1) 1 n = _
      rw [show ((lo : Int) + 1) = ((lo + 1 : Nat) : Int) by omega, this]
      congr 1
      refine List.map_congr_left fun k _ => ?_
      show D.int _ = D.int _
      congr 2
      show lo + 1 + k = lo + (k + 1)
      omega
  intro n
  have := key n 0
  rw [show ((0 : Nat) : Int) = 0 from rfl] at this
  rw [this]
  refine List.map_congr_left fun k _ => ?_
  rw [Nat.zero_add]
theorem lc_each {Ω α : Type} {B : D → Tau → Option Tau} {Fe : E Ω D} {τ : Tau} {ω : Ω} {P : List D → Ω → Prop} (f g : α → D) (xs : List α)
    (step : ∀ k ∈ xs, ∃ τ1, B (f k) τ = some τ1 ∧ (Fe τ1 ω).wp (fun x ω2 => x = g k ∧ ω2 = ω) X0) (fin : P (xs.map g) ω) : (lcL B bYes Fe τ (xs.map f) ω).wp P X0 := by
  refine lc_inv (fun i acc ω' => acc = (xs.take i).map g ∧ ω' = ω) ⟨rfl, rfl⟩ ?_ ?_
  · rintro i d acc ω' hd ⟨rfl, rfl⟩
    rw [List.getElem?_map] at hd
    obtain ⟨k, hk, rfl⟩ := Option.map_eq_some_iff.mp hd
    obtain ⟨τ1, e, h⟩ := step k (List.mem_of_getElem? hk)
    refine ⟨τ1, e, ?_⟩
    repeat walk_at "ev1"
    refine h.mono ?_
    rintro x ω2 ⟨rfl, rfl⟩
    refine ⟨?_, rfl⟩
    rw [List.take_add_one, hk, List.map_append]
    rfl
  · rintro acc ω' ⟨rfl, rfl⟩
    rw [List.length_map, List.take_length]
    exact fin
theorem law_shape_ok : ∀ (n m : Nat) (ω : Src), 1 ≤ m → m ≤ n → m ≤ 60 → ∃ (s : Sh) (ω' : Src), F_law_shape n [.int (m : Nat)] ω = .ok s.enc ω' ∧ s.size = m
  | 0, _, _, h1, h2, _ => by omega
  | n + 1, m, ω, h1, h2, h3 => by
    suffices hh : (F_law_shape (n + 1) [.int (m : Nat)] ω).wp (fun d _ => ∃ s : Sh, d = s.enc ∧ s.size = m) X0 by
      obtain ⟨d, ω', e, s, rfl, h⟩ := hh.ex
      exact ⟨s, ω', e, h⟩
    unfold F_law_shape B_law_shape
    have hs0 : startT 3 (.src :: [D.int (m : Nat)].map .d) = [some .src, some (.d (.int (m : Nat))), none] := rfl
    rw [hs0]
    have q1 : eqD (.int (m : Nat)) (.int 1) = some (.bl (decide (m = 1))) := by
      rw [eqD_int]; exact congrArg (fun b => some (D.bl b)) (decide_eq_decide.mpr (by omega))
    repeat (first | with_reducible refine Eq.mpr (DL.wp_eqn (q1)) ?_ | with_reducible refine Eq.mpr (DL.wp_ofOs (q1)) ?_ | walk_at "ev1")
    by_cases c1 : m = 1
    · refine iteP (decide_eq_true c1) ?_
      repeat walk_at "ev1"
      exact ⟨.o, rfl, by rw [c1]; rfl⟩
    · refine iteN (by rw [decide_eq_true_eq]; exact c1) ?_
      have s1 : subD (.int (m : Nat)) (.int 1) = some (.int (m - 1 : Nat)) := subN m 1 h1
      obtain ⟨r1, ω1, e1', hr1⟩ := pick_nat ω (m - 1) (by omega) (by omega)
      obtain ⟨r2, ω2, e2', hr2⟩ := pick_nat ω1 (m - 1) (by omega) (by omega)
      have a1 : addD (.int 1) (.int (r1 : Nat)) = some (.int (1 + r1 : Nat)) := addN 1 r1
      have a2 : addD (.int 1) (.int (r2 : Nat)) = some (.int (1 + r2 : Nat)) := addN 1 r2
      have f1 : fdivD (.int (m : Nat)) (.int 2) = some (.int (m / 2 : Nat)) := fdivN m 2 (by omega) (by omega)
      obtain ⟨d, ω3, e3, hd⟩ := of_ok ω2 [.int (1 + r1 : Nat), .int (1 + r2 : Nat), .int (m / 2 : Nat), .int 1, .int (m - 1 : Nat)] (by simp) (by simp)
      obtain ⟨k, rfl, hk1, hk2⟩ : ∃ k : Nat, d = .int (k : Nat) ∧ 1 ≤ k ∧ k < m := by
        simp only [List.mem_cons, List.not_mem_nil, or_false] at hd
        rcases hd with h | h | h | h | h
        · exact ⟨_, h, by omega, by omega⟩
        · exact ⟨_, h, by omega, by omega⟩
        · exact ⟨_, h, by omega, by omega⟩
        · exact ⟨1, h, by omega, by omega⟩
        · exact ⟨_, h, by omega, by omega⟩
      have s2 : subD (.int (m : Nat)) (.int (k : Nat)) = some (.int (m - k : Nat)) := subN m k (by omega)
      obtain ⟨x, ω4, e4, hx⟩ := law_shape_ok n k ω3 hk1 (by omega) (by omega)
      obtain ⟨y, ω5, e5, hy⟩ := law_shape_ok n (m - k) ω4 (by omega) (by omega) (by omega)
      repeat (first | with_reducible refine Eq.mpr (DL.wp_eqn (s1)) ?_ | with_reducible refine Eq.mpr (DL.wp_ofOs (s1)) ?_ | with_reducible refine Eq.mpr (DL.wp_eqn (e1')) ?_ | with_reducible refine Eq.mpr (DL.wp_ofOs (e1')) ?_ | with_reducible refine Eq.mpr (DL.wp_eqn (a1)) ?_ | with_reducible refine Eq.mpr (DL.wp_ofOs (a1)) ?_ | with_reducible refine Eq.mpr (DL.wp_eqn (e2')) ?_ | with_reducible refine Eq.mpr (DL.wp_ofOs (e2')) ?_ | with_reducible refine Eq.mpr (DL.wp_eqn (a2)) ?_ | with_reducible refine Eq.mpr (DL.wp_ofOs (a2)) ?_ | with_reducible refine Eq.mpr (DL.wp_eqn (f1)) ?_ | with_reducible refine Eq.mpr (DL.wp_ofOs (f1)) ?_ | with_reducible refine Eq.mpr (DL.wp_eqn (e3)) ?_ | with_reducible refine Eq.mpr (DL.wp_ofOs (e3)) ?_ | with_reducible refine Eq.mpr (DL.wp_eqn (e4)) ?_ | with_reducible refine Eq.mpr (DL.wp_ofOs (e4)) ?_ | with_reducible refine Eq.mpr (DL.wp_eqn (s2)) ?_ | with_reducible refine Eq.mpr (DL.wp_ofOs (s2)) ?_ | with_reducible refine Eq.mpr (DL.wp_eqn (e5)) ?_ | with_reducible refine Eq.mpr (DL.wp_ofOs (e5)) ?_ | walk_at "ev1")
      exact ⟨.n x y, rfl, by simp only [Sh.size]; omega⟩
theorem lc_filt {Ω α : Type} {B : D → Tau → Option Tau} {Ft : E Ω Bool} {Fe : E Ω D} {τ : Tau} {ω : Ω} {P : List D → Ω → Prop} (f : α → D) (xs : List α) (p : α → Bool) (g : α → D)
    (step : ∀ k ∈ xs, ∃ τ1, B (f k) τ = some τ1 ∧ (Ft τ1 ω).wp (fun b ω1 => b = p k ∧ ω1 = ω ∧ (p k = true → (Fe τ1 ω).wp (fun x ω2 => x = g k ∧ ω2 = ω) X0)) X0)
    (fin : P ((xs.filter p).map g) ω) : (lcL B Ft Fe τ (xs.map f) ω).wp P X0 := by
  refine lc_inv (fun i acc ω' => acc = ((xs.take i).filter p).map g ∧ ω' = ω) ⟨by simp, rfl⟩ ?_ ?_
  · rintro i d acc ω' hd ⟨rfl, rfl⟩
    have hi : i < xs.length := by have := (List.getElem?_eq_some_iff.mp hd).1; simpa using this
    rw [List.getElem?_map, List.getElem?_eq_getElem hi] at hd
    cases hd
    obtain ⟨τ1, e, h⟩ := step xs[i] (List.getElem_mem hi)
    refine ⟨τ1, e, h.mono fun b ω1 ⟨hb, hw, hk⟩ => ?_⟩
    subst hb hw
    rw [List.take_succ_eq_append_getElem hi, List.filter_append]
    cases hp : p xs[i] with
    | true =>
      rw [if_pos rfl]
      refine (hk hp).mono fun x ω2 ⟨hx, hw⟩ => ?_
      subst hx hw
      simp [hp]
    | false =>
      rw [if_neg (by simp)]
      simp [hp]
  · rintro acc ω' ⟨rfl, rfl⟩
    rw [List.length_map, List.take_length]
    exact fin
theorem rg1_nat (b : Nat) (h2 : b < 100000) : rg1 [.int b] = some (rangeL 0 1 b) := by
  unfold rg1
  dsimp only
  rw [if_pos (by omega)]
  simp
theorem chain4_ok {Ω : Type} {f g h : D → D → Option D} {a b c d : E Ω D} {τ : Tau} {ω : Ω} {x y z w : D} {p q r : Bool} (ha : a τ ω = .ok x ω) (hb : b τ ω = .ok y ω) (hc : c τ ω = .ok z ω) (hd : d τ ω = .ok w ω) (hf : f x y = some (.bl p)) (hg : g y z = some (.bl q)) (hh : h z w = some (.bl r)) : eChain4 f g h a b c d τ ω = .ok (.bl (p && q && r)) ω := by
  unfold eChain4
  rw [ha]
  simp only [R.bind_ok, hb, hf, R.ofO_some]
  cases p with
  | false => rfl
  | true =>
    simp only [hc, R.bind_ok, hg, R.ofO_some]
    cases q with
    | false => rfl
    | true =>
      simp only [hd, R.bind_ok, hh, R.ofO_some]
      cases r <;> rfl
def Bp1 : S Src := (sSeq (sIf (eB (eOp neD (eCall (un1 reprD) (aCons (cD F_is_shape_lump (aCons (eVar 3) (aCons (eVar 7) (aCons (eVar 8) aNil)))) aNil)) (eCall (un1 reprD) (aCons (eDiT (fun b => b) (pT 5) (aCons (eVar 7) (aCons (eVar 8) aNil))) aNil)))) (sRet (eC (.bl false))) sNx) (sIf (eB (eOp neD (eCall (un1 reprD) (aCons (cD F_lump_part (aCons (eVar 3) (aCons (eVar 7) (aCons (eVar 8) aNil)))) aNil)) (eCall (un1 reprD) (aCons (eGetT2 (eVar 5) (aCons (eVar 7) (aCons (eVar 8) aNil)) (eC .non)) aNil)))) (sRet (eC (.bl false))) sNx))
def Bp2 : S Src := (sSeq (sFz 10 (sSetO (eLc [8] (iRg rg1 (aCons (eOp addD (eVar 4) (eC (.int 2))) aNil)) (bName 8) (eB (cD F_is_shape_lump (aCons (eVar 3) (aCons (eVar 7) (aCons (eVar 8) aNil))))) (eTup (aCons (eVar 7) (aCons (eVar 8) aNil)))) 10)) (sIf (eB (eOp neD (eVar 10) (eCall (un1 sortedPD) (aCons (eFrz (eLc [15] (iKy (eVar 5)) (bName 15) (eB (eOp eqD (eOp ixD (eVar 15) (eC (.int 0))) (eVar 7))) (eVar 15))) aNil)))) (sRet (eC (.bl false))) sNx))
def Bp3 : S Src := (sIf (eB (eOp neD (eFrz (eLc [16, 17] (iKy (eVar 5)) (bTup 2 (bCons (bName 16) (bCons (bName 17) bNil))) (bOr (eB (eChain4 ltD ltD ltD (eVar 7) (eVar 16) (eVar 8) (eVar 17))) (eB (eChain4 ltD ltD ltD (eVar 16) (eVar 7) (eVar 17) (eVar 8)))) (eC (.int 1)))) (eFrz (eLst aNil)))) (sRet (eC (.bl false))) sNx)
def Blap : S Src := (sSeq (sAsg (cW (F_law_shape 70) 1 (aCons (eOp addD (eC (.int 1)) (cW F_law_pick 1 (aCons (eVar 2) aNil))) aNil)) (bName 3)) (sSeq (sAsg (eTup (aCons (cD (F_law_size 70) (aCons (eVar 3) aNil)) (aCons (eCall (un1 dictTD) (aCons (eFrz (eLc [7, 8, 14] (iSq (cD (F_law_lumps 70) (aCons (eVar 3) (aCons (eC (.int 0)) aNil)))) (bTup 3 (bCons (bName 7) (bCons (bName 8) (bCons (bName 14) bNil)))) bYes (eTup (aCons (eTup (aCons (eVar 7) (aCons (eVar 8) aNil))) (aCons (eVar 14) aNil))))) aNil)) aNil))) (bTup 2 (bCons (bName 4) (bCons (bName 5) bNil)))) (sSeq (sIf (eB (eOp neD (eCall (un1 lenTD) (aCons (eVar 5) aNil)) (eOp subD (eOp mulD (eC (.int 2)) (eVar 4)) (eC (.int 1))))) (sRet (eC (.bl false))) sNx) (sSeq (sSetO (eAddL (eCall (un1 listTD) (aCons (eVar 5) aNil)) (eFrz (eLc [13] (iRg rg1 (aCons (eC (.int 12)) aNil)) (bName 13) bYes (eTup (aCons (eOp subD (cW F_law_pick 1 (aCons (eOp addD (eVar 4) (eC (.int 3))) aNil)) (eC (.int 1))) (aCons (eOp subD (cW F_law_pick 1 (aCons (eOp addD (eVar 4) (eC (.int 3))) aNil)) (eC (.int 1))) aNil)))))) 6) (sSeq (sPre 6 (sSetO (eAddL (eVar 6) (eFrz (eLst (aCons (eTup (aCons (eC (.int 0)) (aCons (eC (.int 0)) aNil))) (aCons (eTup (aCons (eC (.int 0)) (aCons (eOp addD (eVar 4) (eC (.int 1))) aNil))) (aCons (eTup (aCons (eUn negD (eC (.int 1))) (aCons (eVar 4) aNil))) (aCons (eTup (aCons (eVar 4) (aCons (eC (.int 0)) aNil))) (aCons (eTup (aCons (eVar 4) (aCons (eVar 4) aNil))) (aCons (eTup (aCons (eUn negD (eC (.int 1))) (aCons (eC (.int 0)) aNil))) (aCons (eTup (aCons (eVar 4) (aCons (eOp addD (eVar 4) (eC (.int 1))) aNil))) aNil)))))))))) 6)) (sSeq (sApp 6 (eTup (aCons (eOp powD (eC (.int 10)) (eC (.int 30))) (aCons (eUn negD (eOp powD (eC (.int 10)) (eC (.int 30)))) aNil)))) (sSeq (sPre 6 (sFor (iSq (eVar 6)) (bTup 2 (bCons (bName 7) (bCons (bName 8) bNil))) Bp1)) (sSeq (sAsg (eIf (eB (eOp ltD (eVar 4) (eC (.int 13)))) (eFrz (eLRg (rRg1 (eVar 4)))) (eFrz (eLc [13] (iRg rg1 (aCons (eC (.int 3)) aNil)) (bName 13) bYes (cW F_law_pick 1 (aCons (eVar 4) aNil))))) (bName 9)) (sSeq (sFor (iSq (eVar 9)) (bName 7) Bp2) (sFor (iSq (eSl (eCall (un1 listTD) (aCons (eVar 5) aNil)) oNone (oSome (eC (.int 20))))) (bTup 2 (bCons (bName 7) (bCons (bName 8) bNil))) Bp3))))))))))
abbrev E18 (c2 c3 c4 c5 c6 c7 c8 c9 c10 c11 c12 c13 c14 c15 c16 c17 : Option Cell) : Tau := [none, some .src, c2, c3, c4, c5, c6, c7, c8, c9, c10, c11, c12, c13, c14, c15, c16, c17]
abbrev dL (s : Sh) : D := .dit ((lm s 0).map kq) ((lm s 0).map fun q => q.2.2.enc)
theorem keys_lm (s : Sh) : (dL s).keysOf = some ((lm s 0).map fun q => DL.intP (pI q)) := by
  show some (((lm s 0).map kq).map fun k => D.tup (k.map kD')) = _
  rw [List.map_map]
  rfl
theorem list_lm (s : Sh) : un1 listTD [dL s] = some (.lst (((lm s 0).map pI).map DL.intP)) := by
  show some (D.lst (((lm s 0).map kq).map fun k => D.tup (k.map kD'))) = _
  rw [List.map_map, List.map_map]
  rfl
theorem wp_iKy {Ω : Type} {τ : Tau} {ω : Ω} {a : E Ω D} {P : List D → Ω → Prop} {X} : (iKy a τ ω).wp P X = (a τ ω).wp (fun x ω1 => (R.ofO x.keysOf ω1).wp P X) X := by
  unfold iKy
  rw [wp_bind]
section
variable {c2 c6 c7 c8 c9 c10 c11 c12 c13 c14 c15 c16 c17 : Option Cell} {P : Fl → Src → Prop}
theorem step1 (s : Sh) (hs : s.size ≤ 60) (i j : Int) (ω : Src) (k : P (.nx (E18 c2 (some (.d s.enc)) (some (.d (.int (s.size : Nat)))) (some (.d (dL s))) c6 (some (.d (.int i))) (some (.d (.int j))) c9 c10 c11 c12 c13 c14 c15 c16 c17)) ω) :
    sw (Bp1 (E18 c2 (some (.d s.enc)) (some (.d (.int (s.size : Nat)))) (some (.d (dL s))) c6 (some (.d (.int i))) (some (.d (.int j))) c9 c10 c11 c12 c13 c14 c15 c16 c17) ω) P := by
  unfold Bp1
  have h1 := is_isl s hs i j
  have h2 := part_ok s hs i j
  have h3 := lkp_lm s i j
  obtain ⟨z1, r1, r2⟩ := repr_b (subI s i j).isSome
  obtain ⟨z2, r3, r4⟩ := repr_shD (subI s i j) fun x hx => Nat.le_trans (subI_sz hx) hs
  refine Eq.mpr sw_seq ?_
  refine sw.mono (P := fun f ω' => ω' = ω ∧ f = .nx (E18 c2 (some (.d s.enc)) (some (.d (.int (s.size : Nat)))) (some (.d (dL s))) c6 (some (.d (.int i))) (some (.d (.int j))) c9 c10 c11 c12 c13 c14 c15 c16 c17)) (by
    repeat (first | with_reducible refine Eq.mpr (DL.wp_eqn (h1)) ?_ | with_reducible refine Eq.mpr (DL.wp_ofOs (h1)) ?_ | with_reducible refine Eq.mpr (DL.wp_eqn (r1)) ?_ | with_reducible refine Eq.mpr (DL.wp_ofOs (r1)) ?_ | walk_at "ev1")
    refine wp_diT (fun _ => pT_d rfl) ?_
    repeat walk_at "ev1"
    refine ⟨[.inl i, .inl j], rfl, Nat.le_of_ble_eq_true rfl, ?_⟩
    rw [h3, Option.isSome_map]
    repeat (first | with_reducible refine Eq.mpr (DL.wp_eqn (r1)) ?_ | with_reducible refine Eq.mpr (DL.wp_ofOs (r1)) ?_ | with_reducible refine Eq.mpr (DL.wp_eqn (r2)) ?_ | with_reducible refine Eq.mpr (DL.wp_ofOs (r2)) ?_ | walk_at "ev1")
    exact ⟨rfl, rfl⟩) ?_
  rintro f ω1 ⟨rfl, rfl⟩
  repeat (first | with_reducible refine Eq.mpr (DL.wp_eqn (h2)) ?_ | with_reducible refine Eq.mpr (DL.wp_ofOs (h2)) ?_ | with_reducible refine Eq.mpr (DL.wp_eqn (r3)) ?_ | with_reducible refine Eq.mpr (DL.wp_ofOs (r3)) ?_ | walk_at "ev1")
  refine wp_eGetT2 ?_
  repeat walk_at "ev1"
  refine ⟨_, _, rfl, ?_⟩
  repeat walk_at "ev1"
  refine ⟨[.inl i, .inl j], rfl, Nat.le_of_ble_eq_true rfl, ?_⟩
  repeat walk_at "ev1"
  rw [h3]
  repeat (first | with_reducible refine Eq.mpr (DL.wp_eqn (r3)) ?_ | with_reducible refine Eq.mpr (DL.wp_ofOs (r3)) ?_ | with_reducible refine Eq.mpr (DL.wp_eqn (r4)) ?_ | with_reducible refine Eq.mpr (DL.wp_ofOs (r4)) ?_ | walk_at "ev1")
  exact k
theorem step2 (s : Sh) (hs : s.size ≤ 60) (i : Nat) (ω : Src) (k : ∀ c10, P (.nx (E18 c2 (some (.d s.enc)) (some (.d (.int (s.size : Nat)))) (some (.d (dL s))) c6 (some (.d (.int (i : Nat)))) c8 c9 c10 c11 c12 c13 c14 c15 c16 c17)) ω) :
    sw (Bp2 (E18 c2 (some (.d s.enc)) (some (.d (.int (s.size : Nat)))) (some (.d (dL s))) c6 (some (.d (.int (i : Nat)))) c8 c9 c10 c11 c12 c13 c14 c15 c16 c17) ω) P := by
  unfold Bp2
  have a1 : addD (.int (s.size : Nat)) (.int 2) = some (.int (s.size + 2 : Nat)) := addN _ _
  have hr := rg1_nat (s.size + 2) (by omega)
  rw [rangeL_N] at hr
  refine Eq.mpr sw_seq ?_
  refine sw.mono (P := fun f ω' => ω' = ω ∧ f = .nx (E18 c2 (some (.d s.enc)) (some (.d (.int (s.size : Nat)))) (some (.d (dL s))) c6 (some (.d (.int (i : Nat)))) c8 c9 (some (.d (.lst ((((List.range (s.size + 2)).filter fun j : Nat => (subI s (i : Int) (j : Int)).isSome).map fun j : Nat => ((i : Int), (j : Int))).map DL.intP)))) c11 c12 c13 c14 c15 c16 c17)) (by
    refine Eq.mpr sw_fz ?_
    refine Eq.mpr sw_setO ?_
    repeat (first | with_reducible refine Eq.mpr (DL.wp_eqn (a1)) ?_ | with_reducible refine Eq.mpr (DL.wp_ofOs (a1)) ?_ | with_reducible refine Eq.mpr (DL.wp_eqn (hr)) ?_ | with_reducible refine Eq.mpr (DL.wp_ofOs (hr)) ?_ | walk_at "ev1")
    refine ⟨by rw [List.length_map, List.length_range, sizeLine_eq]; omega, ?_⟩
    refine lc_filt (fun k : Nat => D.int (k : Int)) (List.range (s.size + 2)) (fun j : Nat => (subI s (i : Int) (j : Int)).isSome) (fun j : Nat => DL.intP ((i : Int), (j : Int))) (fun j hj => ⟨_, rfl, ?_⟩) ?_
    · have h1 := is_isl s hs i j
      repeat (first | with_reducible refine Eq.mpr (DL.wp_eqn (h1)) ?_ | with_reducible refine Eq.mpr (DL.wp_ofOs (h1)) ?_ | walk_at "ev1")
      refine ⟨rfl, rfl, fun _ => ?_⟩
      repeat walk_at "ev1"
      exact ⟨rfl, rfl⟩
    · refine ⟨_, rfl, rfl, ?_⟩
      rw [List.map_map]
      rfl) ?_
  rintro f ω1 ⟨rfl, rfl⟩
  have hsrt : un1 sortedPD [.lst (((lm s 0).filter fun q => decide (q.1 = i)).map fun q => DL.intP (pI q))] = some (.lst ((((List.range (s.size + 2)).filter fun j : Nat => (subI s (i : Int) (j : Int)).isSome).map fun j : Nat => ((i : Int), (j : Int))).map DL.intP)) := by
    rw [← sort_begin]
    have hp : ∀ L : List (Int × Int), prsI (L.map DL.intP) = some L := by
      intro L
      induction L with
      | nil => rfl
      | cons q L ih =>
        show (prsI (L.map DL.intP)).map ((q.1, q.2) :: ·) = _
        rw [ih]; rfl
    have e : ((lm s 0).filter fun q => decide (q.1 = i)).map (fun q => DL.intP (pI q)) = (((lm s 0).filter fun q => decide (q.1 = i)).map pI).map DL.intP := by rw [List.map_map]; rfl
    rw [e]
    unfold un1 sortedPD
    dsimp only
    rw [hp]
    rfl
  have hne := prs_ne (((List.range (s.size + 2)).filter fun j : Nat => (subI s (i : Int) (j : Int)).isSome).map fun j : Nat => ((i : Int), (j : Int)))
  generalize D.lst ((((List.range (s.size + 2)).filter fun j : Nat => (subI s (i : Int) (j : Int)).isSome).map fun j : Nat => ((i : Int), (j : Int))).map DL.intP) = LL at *
  repeat walk_at "ev1"
  refine Eq.mpr wp_iKy ?_
  repeat (first | with_reducible refine Eq.mpr (DL.wp_eqn (keys_lm s)) ?_ | with_reducible refine Eq.mpr (DL.wp_ofOs (keys_lm s)) ?_ | walk_at "ev1")
  refine ⟨by rw [List.length_map, sizeLine_eq]; have := lm_len s 0; omega, ?_⟩
  refine lc_filt (fun q => DL.intP (pI q)) (lm s 0) (fun q => decide (q.1 = i)) (fun q => DL.intP (pI q)) (fun q hq => ⟨_, rfl, ?_⟩) ?_
  · have x0 : ixD (DL.intP (pI q)) (.int 0) = some (.int (q.1 : Nat)) := rfl
    have e1 : eqD (.int (q.1 : Nat)) (.int (i : Nat)) = some (.bl (decide (q.1 = i))) := by
      rw [eqD_int]; exact congrArg (fun b => some (D.bl b)) (decide_eq_decide.mpr (by omega))
    repeat (first | with_reducible refine Eq.mpr (DL.wp_eqn (x0)) ?_ | with_reducible refine Eq.mpr (DL.wp_ofOs (x0)) ?_ | with_reducible refine Eq.mpr (DL.wp_eqn (e1)) ?_ | with_reducible refine Eq.mpr (DL.wp_ofOs (e1)) ?_ | walk_at "ev1")
    refine ⟨rfl, rfl, fun _ => ?_⟩
    repeat walk_at "ev1"
    exact ⟨rfl, rfl⟩
  · repeat (first | with_reducible refine Eq.mpr (DL.wp_eqn (hsrt)) ?_ | with_reducible refine Eq.mpr (DL.wp_ofOs (hsrt)) ?_ | with_reducible refine Eq.mpr (DL.wp_eqn (hne)) ?_ | with_reducible refine Eq.mpr (DL.wp_ofOs (hne)) ?_ | walk_at "ev1")
    exact k _
theorem step3 (s : Sh) (hs : s.size ≤ 60) (q : Nat × Nat × Sh) (hq : q ∈ lm s 0) (c4 : Option Cell) (ω : Src) (k : P (.nx (E18 c2 (some (.d s.enc)) c4 (some (.d (dL s))) c6 (some (.d (.int (q.1 : Nat)))) (some (.d (.int (q.2.1 : Nat)))) c9 c10 c11 c12 c13 c14 c15 c16 c17)) ω) :
    sw (Bp3 (E18 c2 (some (.d s.enc)) c4 (some (.d (dL s))) c6 (some (.d (.int (q.1 : Nat)))) (some (.d (.int (q.2.1 : Nat)))) c9 c10 c11 c12 c13 c14 c15 c16 c17) ω) P := by
  unfold Bp3
  have hne : neD (.lst []) (.lst []) = some (.bl false) := by kernel_rfl
  repeat walk_at "ev1"
  refine Eq.mpr wp_iKy ?_
  repeat (first | with_reducible refine Eq.mpr (DL.wp_eqn (keys_lm s)) ?_ | with_reducible refine Eq.mpr (DL.wp_ofOs (keys_lm s)) ?_ | walk_at "ev1")
  refine ⟨by rw [List.length_map, sizeLine_eq]; have := lm_len s 0; omega, ?_⟩
  refine lc_filt (fun q => DL.intP (pI q)) (lm s 0) (fun _ => false) (fun _ => D.int 1) (fun r hr => ⟨_, rfl, ?_⟩) ?_
  · have h1 := lm_apart s 0 q r hq hr
    have h2 := lm_apart s 0 r q hr hq
    have b1 := lm_bd hq
    have b2 := lm_bd hr
    have ch : ∀ (a b c d : Nat) (i1 i2 i3 i4 : Nat) (τ : Tau), τ[i1]? = some (some (.d (.int (a : Nat)))) → τ[i2]? = some (some (.d (.int (b : Nat)))) → τ[i3]? = some (some (.d (.int (c : Nat)))) → τ[i4]? = some (some (.d (.int (d : Nat)))) → ¬ (a < b ∧ b < c ∧ c < d) → eChain4 ltD ltD ltD (eVar i1) (eVar i2) (eVar i3) (eVar i4) τ ω = .ok (.bl false) ω := by
      intro a b c d i1 i2 i3 i4 τ t1 t2 t3 t4 hn
      have l : ∀ x y : Nat, ltD (.int (x : Nat)) (.int (y : Nat)) = some (.bl (decide (x < y))) := fun x y => congrArg (fun b => some (D.bl b)) (decide_eq_decide.mpr (by omega))
      have := chain4_ok (f := ltD) (g := ltD) (h := ltD) (a := (eVar i1 : E Src D)) (b := eVar i2) (c := eVar i3) (d := eVar i4) (τ := τ) (ω := ω) (x := .int (a : Nat)) (y := .int (b : Nat)) (z := .int (c : Nat)) (w := .int (d : Nat)) (by unfold eVar; rw [t1]) (by unfold eVar; rw [t2]) (by unfold eVar; rw [t3]) (by unfold eVar; rw [t4]) (l a b) (l b c) (l c d)
      rw [this]
      have e : (decide (a < b) && decide (b < c) && decide (c < d)) = false := by
        cases q : (decide (a < b) && decide (b < c) && decide (c < d)) with
        | false => rfl
        | true =>
          rw [Bool.and_eq_true, Bool.and_eq_true, decide_eq_true_eq, decide_eq_true_eq, decide_eq_true_eq] at q
          exact absurd ⟨q.1.1, q.1.2, q.2⟩ hn
      rw [e]
    have e1 := ch q.1 r.1 q.2.1 r.2.1 7 16 8 17
    have e2 := ch r.1 q.1 r.2.1 q.2.1 16 7 17 8
    repeat walk_at "ev1"
    refine Eq.mpr (wp_eqn (e1 _ rfl rfl rfl rfl h1)) ?_
    repeat walk_at "ev1"
    refine Eq.mpr (wp_eqn (e2 _ rfl rfl rfl rfl h2)) ?_
    repeat walk_at "ev1"
    exact ⟨rfl, rfl, fun z => Bool.noConfusion z⟩
  · have hf : (lm s 0).filter (fun _ => false) = [] := List.filter_eq_nil_iff.mpr fun _ _ => by simp
    rw [hf]
    repeat (first | with_reducible refine Eq.mpr (DL.wp_eqn (hne)) ?_ | with_reducible refine Eq.mpr (DL.wp_ofOs (hne)) ?_ | walk_at "ev1")
    exact k
end
theorem wp_eAndI {Ω : Type} {a b : E Ω D} {τ : Tau} {ω : Ω} {P : D → Ω → Prop} {X} (h : (a τ ω).wp (fun x ω1 => (x = .bl true ∧ (b τ ω1).wp P X) ∨ (x = .bl false ∧ P (.bl false) ω1)) X) : (eAnd a b τ ω).wp P X := by
  unfold eAnd
  rw [wp_bind]
  refine h.mono fun x ω1 hx => ?_
  rcases hx with ⟨rfl, hx⟩ | ⟨rfl, hx⟩
  · exact hx
  · with_unfolding_all exact hx
theorem wp_lrg1 {Ω : Type} {a : E Ω D} {τ : Tau} {ω : Ω} {P : List D → Ω → Prop} {X : Exn → Ω → Prop} (n : Nat) (hn : n ≤ 100000) (h : (a τ ω).wp (fun x ω1 => x = .int (n : Nat) ∧ P (rangeL 0 1 n) ω1) X) : (eLRg (rRg1 a) τ ω).wp P X := by
  unfold eLRg rRg1
  rw [wp_bind, wp_bind]
  refine h.mono ?_
  rintro x ω1 ⟨rfl, h⟩
  refine Eq.mpr wp_ok ?_
  dsimp only
  rw [if_pos (by omega), show ((n : Int) - 0).toNat = n by omega]
  exact Eq.mpr wp_ok h
theorem mulN2 (a b : Nat) (h : b < 2 ^ 60) : mulD (.int (a : Int)) (.int (b : Int)) = some (.int ((a * b : Nat) : Int)) := by
  unfold mulD
  dsimp only
  rw [if_pos (.inl (.inr ⟨by omega, by omega⟩)), Int.natCast_mul]
theorem lap_ok (m : Nat) (h1 : 1 ≤ m) (h2 : m ≤ 60) (ω : Src) {c3 c4 c5 c6 c7 c8 c9 c10 c11 c12 c13 c14 c15 c16 c17 : Option Cell} {P : Fl → Src → Prop}
    (k : ∀ c3 c4 c5 c6 c7 c8 c9 c10 ω, P (.nx (E18 (some (.d (.int (m : Nat)))) c3 c4 c5 c6 c7 c8 c9 c10 c11 c12 c13 c14 c15 c16 c17)) ω) :
    sw (Blap (E18 (some (.d (.int (m : Nat)))) c3 c4 c5 c6 c7 c8 c9 c10 c11 c12 c13 c14 c15 c16 c17) ω) P := by
  obtain ⟨r, ω1, e1', hr⟩ := pick_nat ω m h1 (by omega)
  have e1 : F_law_pick [.int (m : Nat)] ω = .ok (.int (r : Nat)) ω1 := e1'
  have a1 : addD (.int 1) (.int (r : Nat)) = some (.int (1 + r : Nat)) := addN 1 r
  obtain ⟨s, ω2, e2, hs⟩ := law_shape_ok 70 (1 + r) ω1 (by omega) (by omega) (by omega)
  have hs60 : s.size ≤ 60 := by omega
  have hh := hgt_lt s
  have e3 := law_size_ok 70 s (by omega)
  have e4 : F_law_lumps 70 [s.enc, .int 0] = .ok (.lst ((lm s 0).map lD)) () := law_lumps_ok 70 s 0 (by omega) (by omega)
  have hll := lm_len s 0
  have hsp := s.size_pos
  unfold Blap
  refine Eq.mpr sw_seq ?_
  refine sw.mono (P := fun f ω' => ω' = ω2 ∧ f = .nx (E18 (some (.d (.int (m : Nat)))) (some (.d s.enc)) c4 c5 c6 c7 c8 c9 c10 c11 c12 c13 c14 c15 c16 c17)) (by
    repeat (first | with_reducible refine Eq.mpr (DL.wp_eqn (e1)) ?_ | with_reducible refine Eq.mpr (DL.wp_ofOs (e1)) ?_ | with_reducible refine Eq.mpr (DL.wp_eqn (a1)) ?_ | with_reducible refine Eq.mpr (DL.wp_ofOs (a1)) ?_ | with_reducible refine Eq.mpr (DL.wp_eqn (e2)) ?_ | with_reducible refine Eq.mpr (DL.wp_ofOs (e2)) ?_ | walk_at "ev1")
    exact ⟨rfl, rfl⟩) ?_
  rintro f ω3 ⟨rfl, rfl⟩
  refine Eq.mpr sw_seq ?_
  have itl : (D.lst ((lm s 0).map lD)).itemsS = some ((lm s 0).map lD) := rfl
  have hd := dict_lm s
  refine sw.mono (P := fun f ω' => ω' = ω3 ∧ f = .nx (E18 (some (.d (.int (m : Nat)))) (some (.d s.enc)) (some (.d (.int (s.size : Nat)))) (some (.d (dL s))) c6 c7 c8 c9 c10 c11 c12 c13 c14 c15 c16 c17)) (by
    refine sw_asgI ?_
    repeat (first | with_reducible refine Eq.mpr (DL.wp_eqn (e3)) ?_ | with_reducible refine Eq.mpr (DL.wp_ofOs (e3)) ?_ | with_reducible refine Eq.mpr (DL.wp_eqn (e4)) ?_ | with_reducible refine Eq.mpr (DL.wp_ofOs (e4)) ?_ | with_reducible refine Eq.mpr (DL.wp_eqn (itl)) ?_ | with_reducible refine Eq.mpr (DL.wp_ofOs (itl)) ?_ | walk_at "ev1")
    refine ⟨by rw [List.length_map, sizeLine_eq]; omega, ?_⟩
    refine lc_each lD tD (lm s 0) (fun q hq => ⟨_, rfl, ?_⟩) ?_
    · repeat walk_at "ev1"
      exact ⟨rfl, rfl⟩
    · repeat (first | with_reducible refine Eq.mpr (DL.wp_eqn (hd)) ?_ | with_reducible refine Eq.mpr (DL.wp_ofOs (hd)) ?_ | walk_at "ev1")
      exact ⟨rfl, rfl⟩) ?_
  rintro f ω4 ⟨rfl, rfl⟩
  have l1 : un1 lenTD [dL s] = some (.int ((lm s 0).length : Nat)) := by
    show some (D.int (((lm s 0).map kq).length : Nat)) = _
    rw [List.length_map]
  have m1 : mulD (.int 2) (.int (s.size : Nat)) = some (.int (2 * s.size : Nat)) := mulN2 2 s.size (by omega)
  have s1 : subD (.int (2 * s.size : Nat)) (.int 1) = some (.int (2 * s.size - 1 : Nat)) := subN _ 1 (by omega)
  have n1 : neD (.int ((lm s 0).length : Nat)) (.int (2 * s.size - 1 : Nat)) = some (.bl false) := by
    rw [neD_int, decide_eq_true (by omega)]; rfl
  refine Eq.mpr sw_seq ?_
  refine sw.mono (P := fun f ω' => ω' = ω4 ∧ f = .nx (E18 (some (.d (.int (m : Nat)))) (some (.d s.enc)) (some (.d (.int (s.size : Nat)))) (some (.d (dL s))) c6 c7 c8 c9 c10 c11 c12 c13 c14 c15 c16 c17)) (by
    repeat (first | with_reducible refine Eq.mpr (DL.wp_eqn (l1)) ?_ | with_reducible refine Eq.mpr (DL.wp_ofOs (l1)) ?_ | with_reducible refine Eq.mpr (DL.wp_eqn (m1)) ?_ | with_reducible refine Eq.mpr (DL.wp_ofOs (m1)) ?_ | with_reducible refine Eq.mpr (DL.wp_eqn (s1)) ?_ | with_reducible refine Eq.mpr (DL.wp_ofOs (s1)) ?_ | with_reducible refine Eq.mpr (DL.wp_eqn (n1)) ?_ | with_reducible refine Eq.mpr (DL.wp_ofOs (n1)) ?_ | walk_at "ev1")
    exact ⟨rfl, rfl⟩) ?_
  rintro f ω5 ⟨rfl, rfl⟩
  have hl2 := list_lm s
  have hr12 : rg1 [.int 12] = some (rangeL 0 1 12) := rg1_nat 12 (by omega)
  have a3 : addD (.int (s.size : Nat)) (.int 3) = some (.int (s.size + 3 : Nat)) := addN _ _
  refine Eq.mpr sw_seq ?_
  refine sw.mono (P := fun f ω' => ∃ L : List (Int × Int), L.length ≤ 200 ∧ f = .nx (E18 (some (.d (.int (m : Nat)))) (some (.d s.enc)) (some (.d (.int (s.size : Nat)))) (some (.d (dL s))) (some (.ow .L (L.map DL.intP))) c7 c8 c9 c10 c11 c12 c13 c14 c15 c16 c17)) (by
    refine Eq.mpr sw_setO ?_
    refine Eq.mpr wp_eAddL ?_
    repeat (first | with_reducible refine Eq.mpr (DL.wp_eqn (hl2)) ?_ | with_reducible refine Eq.mpr (DL.wp_ofOs (hl2)) ?_ | with_reducible refine Eq.mpr (DL.wp_eqn (hr12)) ?_ | with_reducible refine Eq.mpr (DL.wp_ofOs (hr12)) ?_ | walk_at "ev1")
    refine lc_inv (fun i acc _ => ∃ L : List (Int × Int), L.length = i ∧ acc = L.map DL.intP) ⟨[], rfl, rfl⟩ ?_ ?_
    · rintro i d acc ω6 hd ⟨L, hL, rfl⟩
      obtain ⟨p, ω7, q1', hp⟩ := pick_nat ω6 (s.size + 3) (by omega) (by omega)
      have q1 : F_law_pick [.int (s.size + 3 : Nat)] ω6 = .ok (.int (p : Nat)) ω7 := q1'
      obtain ⟨q, ω8, q2', hq⟩ := pick_nat ω7 (s.size + 3) (by omega) (by omega)
      have q2 : F_law_pick [.int (s.size + 3 : Nat)] ω7 = .ok (.int (q : Nat)) ω8 := q2'
      have s2 : subD (.int (p : Nat)) (.int 1) = some (.int ((p : Int) - 1)) := rfl
      have s3 : subD (.int (q : Nat)) (.int 1) = some (.int ((q : Int) - 1)) := rfl
      refine ⟨_, rfl, ?_⟩
      repeat (first | with_reducible refine Eq.mpr (DL.wp_eqn (a3)) ?_ | with_reducible refine Eq.mpr (DL.wp_ofOs (a3)) ?_ | with_reducible refine Eq.mpr (DL.wp_eqn (q1)) ?_ | with_reducible refine Eq.mpr (DL.wp_ofOs (q1)) ?_ | with_reducible refine Eq.mpr (DL.wp_eqn (s2)) ?_ | with_reducible refine Eq.mpr (DL.wp_ofOs (s2)) ?_ | with_reducible refine Eq.mpr (DL.wp_eqn (q2)) ?_ | with_reducible refine Eq.mpr (DL.wp_ofOs (q2)) ?_ | with_reducible refine Eq.mpr (DL.wp_eqn (s3)) ?_ | with_reducible refine Eq.mpr (DL.wp_ofOs (s3)) ?_ | walk_at "ev1")
      refine ⟨L ++ [((p : Int) - 1, (q : Int) - 1)], by rw [List.length_append, hL]; rfl, ?_⟩
      rw [List.map_append]
      rfl
    · rintro acc ω6 ⟨L, hL, rfl⟩
      rw [rangeL_len] at hL
      repeat walk_at "ev1"
      refine ⟨_, _, rfl, rfl, by rw [List.length_map, List.length_map, List.length_map, sizeLine_eq]; omega, ?_⟩
      refine ⟨(lm s 0).map pI ++ L, by rw [List.length_append, List.length_map]; omega, ?_⟩
      rw [List.map_append]
      rfl) ?_
  rintro f ω6 ⟨L, hL, rfl⟩
  have a4 : addD (.int (s.size : Nat)) (.int 1) = some (.int (s.size + 1 : Nat)) := addN _ _
  have g1 : negD (.int 1) = some (.int (-1)) := rfl
  refine Eq.mpr sw_seq ?_
  refine sw.mono (P := fun f ω' => ∃ L : List (Int × Int), L.length ≤ 300 ∧ f = .nx (E18 (some (.d (.int (m : Nat)))) (some (.d s.enc)) (some (.d (.int (s.size : Nat)))) (some (.d (dL s))) (some (.ow .L (L.map DL.intP))) c7 c8 c9 c10 c11 c12 c13 c14 c15 c16 c17)) (by
    refine Eq.mpr (sw_pre (xs := L.map DL.intP) rfl) ?_
    refine Eq.mpr sw_setO ?_
    refine Eq.mpr wp_eAddL ?_
    repeat (first | with_reducible refine Eq.mpr (DL.wp_eqn (a4)) ?_ | with_reducible refine Eq.mpr (DL.wp_ofOs (a4)) ?_ | with_reducible refine Eq.mpr (DL.wp_eqn (g1)) ?_ | with_reducible refine Eq.mpr (DL.wp_ofOs (g1)) ?_ | walk_at "ev1")
    refine ⟨L.map DL.intP, _, rfl, rfl, by rw [List.length_map, sizeLine_eq]; show L.length + 7 ≤ _; omega, ?_⟩
    refine ⟨L ++ ([((0 : Int), (0 : Int)), ((0 : Int), ((s.size + 1 : Nat) : Int)), ((-1 : Int), ((s.size : Nat) : Int)), (((s.size : Nat) : Int), (0 : Int)), (((s.size : Nat) : Int), ((s.size : Nat) : Int)), ((-1 : Int), (0 : Int)), (((s.size : Nat) : Int), ((s.size + 1 : Nat) : Int))] : List (Int × Int)), by rw [List.length_append]; show L.length + 7 ≤ _; omega, ?_⟩
    rw [List.map_append]
    rfl) ?_
  clear hL L
  rintro f ω7 ⟨L, hL, rfl⟩
  have pw : powD (.int 10) (.int 30) = some (.int (10 ^ 30)) := by kernel_rfl
  refine Eq.mpr sw_seq ?_
  refine sw.mono (P := fun f ω' => ∃ L : List (Int × Int), L.length ≤ 400 ∧ f = .nx (E18 (some (.d (.int (m : Nat)))) (some (.d s.enc)) (some (.d (.int (s.size : Nat)))) (some (.d (dL s))) (some (.ow .L (L.map DL.intP))) c7 c8 c9 c10 c11 c12 c13 c14 c15 c16 c17)) (by
    generalize (10 ^ 30 : Int) = T at pw
    have g2 : negD (.int T) = some (.int (-T)) := rfl
    refine sw_appI rfl ?_ (by rw [List.length_map]; omega)
    repeat (first | with_reducible refine Eq.mpr (DL.wp_eqn (pw)) ?_ | with_reducible refine Eq.mpr (DL.wp_ofOs (pw)) ?_ | with_reducible refine Eq.mpr (DL.wp_eqn (g2)) ?_ | with_reducible refine Eq.mpr (DL.wp_ofOs (g2)) ?_ | walk_at "ev1")
    refine ⟨L ++ [(T, -T)], by rw [List.length_append]; show L.length + 1 ≤ _; omega, ?_⟩
    rw [List.map_append]
    rfl) ?_
  clear hL L
  rintro f ω8 ⟨L, hL, rfl⟩
  refine Eq.mpr sw_seq ?_
  have itL : (D.lst (L.map DL.intP)).itemsS = some (L.map DL.intP) := rfl
  refine sw.mono (P := fun f ω' => ∃ c6 c7 c8, f = .nx (E18 (some (.d (.int (m : Nat)))) (some (.d s.enc)) (some (.d (.int (s.size : Nat)))) (some (.d (dL s))) c6 c7 c8 c9 c10 c11 c12 c13 c14 c15 c16 c17)) (by
    refine Eq.mpr (sw_pre (xs := L.map DL.intP) rfl) ?_
    repeat (first | with_reducible refine Eq.mpr (DL.wp_eqn (itL)) ?_ | with_reducible refine Eq.mpr (DL.wp_ofOs (itL)) ?_ | walk_at "ev1")
    refine loop_inv (fun i τ _ => ∃ c6 c7 c8, τ = E18 (some (.d (.int (m : Nat)))) (some (.d s.enc)) (some (.d (.int (s.size : Nat)))) (some (.d (dL s))) c6 c7 c8 c9 c10 c11 c12 c13 c14 c15 c16 c17) ⟨_, _, _, rfl⟩ ?_ ?_
    · rintro i d τ ω9 hd ⟨c6, c7, c8, rfl⟩
      obtain ⟨q, hq, rfl⟩ := List.mem_map.mp (List.mem_of_getElem? hd)
      refine ⟨_, rfl, ?_⟩
      refine step1 s hs60 q.1 q.2 _ ?_
      exact ⟨_, _, _, rfl⟩
    · rintro τ ω9 ⟨c6, c7, c8, rfl⟩
      exact ⟨_, _, _, rfl⟩) ?_
  clear hL L itL
  rintro f ω9 ⟨c6, c7, c8, rfl⟩
  refine Eq.mpr sw_seq ?_
  refine sw.mono (P := fun f ω' => ∃ N : List Nat, f = .nx (E18 (some (.d (.int (m : Nat)))) (some (.d s.enc)) (some (.d (.int (s.size : Nat)))) (some (.d (dL s))) c6 c7 c8 (some (.d (.lst (N.map fun k : Nat => D.int (k : Int))))) c10 c11 c12 c13 c14 c15 c16 c17)) (by
    have lt : ltD (.int (s.size : Nat)) (.int 13) = some (.bl (decide (s.size < 13))) := congrArg (fun b => some (D.bl b)) (decide_eq_decide.mpr (by omega))
    have hr3 : rg1 [.int 3] = some (rangeL 0 1 3) := rg1_nat 3 (by omega)
    refine sw_asgI ?_
    repeat (first | with_reducible refine Eq.mpr (DL.wp_eqn (lt)) ?_ | with_reducible refine Eq.mpr (DL.wp_ofOs (lt)) ?_ | walk_at "ev1")
    by_cases c : s.size < 13
    · refine iteP (decide_eq_true c) ?_
      repeat walk_at "ev1"
      refine wp_lrg1 s.size (by omega) ?_
      repeat walk_at "ev1"
      refine ⟨rfl, ?_⟩
      rw [rangeL_N]
      repeat walk_at "ev1"
      exact ⟨List.range s.size, rfl⟩
    · refine iteN (by rw [decide_eq_true_eq]; exact c) ?_
      repeat (first | with_reducible refine Eq.mpr (DL.wp_eqn (hr3)) ?_ | with_reducible refine Eq.mpr (DL.wp_ofOs (hr3)) ?_ | walk_at "ev1")
      refine lc_inv (fun i acc _ => ∃ N : List Nat, acc = N.map fun k : Nat => D.int (k : Int)) ⟨[], rfl⟩ ?_ ?_
      · rintro i d acc ω10 hd ⟨N, rfl⟩
        obtain ⟨p, ω11, q1', hp⟩ := pick_nat ω10 s.size (by omega) (by omega)
        have q1 : F_law_pick [.int (s.size : Nat)] ω10 = .ok (.int (p : Nat)) ω11 := q1'
        refine ⟨_, rfl, ?_⟩
        repeat (first | with_reducible refine Eq.mpr (DL.wp_eqn (q1)) ?_ | with_reducible refine Eq.mpr (DL.wp_ofOs (q1)) ?_ | walk_at "ev1")
        refine ⟨N ++ [p], ?_⟩
        rw [List.map_append]
        rfl
      · rintro acc ω10 ⟨N, rfl⟩
        repeat walk_at "ev1"
        exact ⟨N, rfl⟩) ?_
  rintro f ω10 ⟨N, rfl⟩
  refine Eq.mpr sw_seq ?_
  have itN : (D.lst (N.map fun k : Nat => D.int (k : Int))).itemsS = some (N.map fun k : Nat => D.int (k : Int)) := rfl
  refine sw.mono (P := fun f ω' => ∃ c7 c9 c10, f = .nx (E18 (some (.d (.int (m : Nat)))) (some (.d s.enc)) (some (.d (.int (s.size : Nat)))) (some (.d (dL s))) c6 c7 c8 c9 c10 c11 c12 c13 c14 c15 c16 c17)) (by
    repeat (first | with_reducible refine Eq.mpr (DL.wp_eqn (itN)) ?_ | with_reducible refine Eq.mpr (DL.wp_ofOs (itN)) ?_ | walk_at "ev1")
    refine loop_inv (fun i τ _ => ∃ c7 c9 c10, τ = E18 (some (.d (.int (m : Nat)))) (some (.d s.enc)) (some (.d (.int (s.size : Nat)))) (some (.d (dL s))) c6 c7 c8 c9 c10 c11 c12 c13 c14 c15 c16 c17) ⟨_, _, _, rfl⟩ ?_ ?_
    · rintro i d τ ω11 hd ⟨c7, c9, c10, rfl⟩
      obtain ⟨x, hx, rfl⟩ := List.mem_map.mp (List.mem_of_getElem? hd)
      refine ⟨_, rfl, ?_⟩
      refine step2 s hs60 x _ fun c10 => ?_
      exact ⟨_, _, _, rfl⟩
    · rintro τ ω11 ⟨c7, c9, c10, rfl⟩
      exact ⟨_, _, _, rfl⟩) ?_
  rintro f ω11 ⟨c7, c9, c10, rfl⟩
  have hsl : sliceD (.lst (((lm s 0).map pI).map DL.intP)) none (some (20 : Int)) = some (.lst ((((lm s 0).take 20).map pI).map DL.intP)) := by
    show some (D.lst (cutL (((lm s 0).map pI).map DL.intP) none (some ((20 : Nat) : Int)))) = _
    rw [cut_to, ← List.map_take, ← List.map_take]
  have it2 : (D.lst ((((lm s 0).take 20).map pI).map DL.intP)).itemsS = some ((((lm s 0).take 20).map pI).map DL.intP) := rfl
  repeat (first | with_reducible refine Eq.mpr (DL.wp_eqn (hl2)) ?_ | with_reducible refine Eq.mpr (DL.wp_ofOs (hl2)) ?_ | with_reducible refine Eq.mpr (DL.wp_eqn (hsl)) ?_ | with_reducible refine Eq.mpr (DL.wp_ofOs (hsl)) ?_ | with_reducible refine Eq.mpr (DL.wp_eqn (it2)) ?_ | with_reducible refine Eq.mpr (DL.wp_ofOs (it2)) ?_ | walk_at "ev1")
  refine loop_inv (fun i τ _ => ∃ c7 c8, τ = E18 (some (.d (.int (m : Nat)))) (some (.d s.enc)) (some (.d (.int (s.size : Nat)))) (some (.d (dL s))) c6 c7 c8 c9 c10 c11 c12 c13 c14 c15 c16 c17) ⟨_, _, rfl⟩ ?_ ?_
  · rintro i d τ ω12 hd ⟨c7, c8, rfl⟩
    obtain ⟨x, hx, rfl⟩ := List.mem_map.mp (List.mem_of_getElem? hd)
    obtain ⟨q, hq, rfl⟩ := List.mem_map.mp hx
    refine ⟨_, rfl, ?_⟩
    refine step3 s hs60 q (List.mem_of_mem_take hq) _ _ ?_
    exact ⟨_, _, rfl⟩
  · rintro τ ω12 ⟨c7, c8, rfl⟩
    exact k _ _ _ _ _ _ _ _ _
def cbS (b : Bool) : Nat → Sh
  | 0 => .o
  | k + 1 => if b then .n (cbS b k) .o else .n .o (cbS b k)
theorem cbS_size (b : Bool) : ∀ k, (cbS b k).size = k + 1
  | 0 => rfl
  | k + 1 => by
    have := cbS_size b k
    cases b <;> simp [cbS, Sh.size] at * <;> omega
theorem cb_subs : subI (cbS true 59) 0 40 ≠ none ∧ subI (cbS true 59) 20 60 = none ∧ subI (cbS false 59) 20 60 ≠ none ∧ subI (cbS false 59) 0 40 = none := by decide +kernel
theorem law_wp (ns : List Int) : (runS B_law tau0 (srcOf ns)).wp (fun d _ => d = .bl true) X0 := by
  have ht0 : tau0 = E18 none none none none none none none none none none none none none none none none := rfl
  rw [ht0]
  unfold B_law
  have it0 : (D.lst [.int 5, .int 12, .int 60]).itemsS = some [.int 5, .int 12, .int 60] := rfl
  refine Eq.mpr wp_runS ?_
  refine Eq.mpr sw_seq ?_
  repeat (first | with_reducible refine Eq.mpr (DL.wp_eqn (it0)) ?_ | with_reducible refine Eq.mpr (DL.wp_ofOs (it0)) ?_ | walk_at "ev1")
  refine sw.mono (P := fun f _ => ∃ c2 c3 c4 c5 c6 c7 c8 c9 c10 c11 c12 c13 c14 c15 c16 c17, f = .nx (E18 c2 c3 c4 c5 c6 c7 c8 c9 c10 c11 c12 c13 c14 c15 c16 c17)) (by
    refine loop_inv (fun i τ _ => ∃ c2 c3 c4 c5 c6 c7 c8 c9 c10 c11 c12 c13 c14 c15 c16 c17, τ = E18 c2 c3 c4 c5 c6 c7 c8 c9 c10 c11 c12 c13 c14 c15 c16 c17) ⟨_, _, _, _, _, _, _, _, _, _, _, _, _, _, _, _, rfl⟩ ?_ ?_
    · rintro i d τ ω hd ⟨c2, c3, c4, c5, c6, c7, c8, c9, c10, c11, c12, c13, c14, c15, c16, c17, rfl⟩
      have hm := List.mem_of_getElem? hd
      obtain ⟨m, rfl, h1, h2⟩ : ∃ m : Nat, d = .int (m : Nat) ∧ 1 ≤ m ∧ m ≤ 60 := by
        simp only [List.mem_cons, List.not_mem_nil, or_false] at hm
        rcases hm with h | h | h
        · exact ⟨5, h, by omega, by omega⟩
        · exact ⟨12, h, by omega, by omega⟩
        · exact ⟨60, h, by omega, by omega⟩
      refine ⟨_, rfl, ?_⟩
      refine lap_ok m h1 h2 ω fun c3 c4 c5 c6 c7 c8 c9 c10 ω => ?_
      exact ⟨_, _, _, _, _, _, _, _, _, _, _, _, _, _, _, _, rfl⟩
    · rintro τ ω ⟨c2, c3, c4, c5, c6, c7, c8, c9, c10, c11, c12, c13, c14, c15, c16, c17, rfl⟩
      exact ⟨_, _, _, _, _, _, _, _, _, _, _, _, _, _, _, _, rfl⟩) ?_
  rintro f ω ⟨c2, c3, c4, c5, c6, c7, c8, c9, c10, c11, c12, c13, c14, c15, c16, c17, rfl⟩
  have hr59 : rg1 [.int 59] = some (rangeL 0 1 59) := rg1_nat 59 (by omega)
  refine Eq.mpr sw_seq ?_
  refine sw.mono (P := fun f ω' => f = .nx (E18 c2 c3 c4 c5 c6 c7 c8 c9 c10 (some (.d (cbS true 0).enc)) (some (.d (cbS false 0).enc)) c13 c14 c15 c16 c17)) (by
    refine sw_asgI ?_
    repeat walk_at "ev1"
    rfl) ?_
  rintro f ω1 rfl
  refine Eq.mpr sw_seq ?_
  repeat (first | with_reducible refine Eq.mpr (DL.wp_eqn (hr59)) ?_ | with_reducible refine Eq.mpr (DL.wp_ofOs (hr59)) ?_ | walk_at "ev1")
  refine sw.mono (P := fun f ω' => ∃ c13, f = .nx (E18 c2 c3 c4 c5 c6 c7 c8 c9 c10 (some (.d (cbS true 59).enc)) (some (.d (cbS false 59).enc)) c13 c14 c15 c16 c17)) (by
    refine loop_inv (fun i τ _ => ∃ c13, τ = E18 c2 c3 c4 c5 c6 c7 c8 c9 c10 (some (.d (cbS true i).enc)) (some (.d (cbS false i).enc)) c13 c14 c15 c16 c17) ⟨_, rfl⟩ ?_ ?_
    · rintro i d τ ω2 hd ⟨c13, rfl⟩
      refine ⟨_, rfl, ?_⟩
      refine Eq.mpr sw_par ?_
      repeat walk_at "ev1"
      exact ⟨_, rfl⟩
    · rintro τ ω2 ⟨c13, rfl⟩
      rw [rangeL_len]
      exact ⟨_, rfl⟩) ?_
  rintro f ω2 ⟨c13, rfl⟩
  obtain ⟨b1, b2, b3, b4⟩ := cb_subs
  have x1 := is_isl (cbS true 59) (by rw [cbS_size]; omega) 0 40
  have x2 := is_isl (cbS true 59) (by rw [cbS_size]; omega) 20 60
  have x3 := is_isl (cbS false 59) (by rw [cbS_size]; omega) 20 60
  have x4 := is_isl (cbS false 59) (by rw [cbS_size]; omega) 0 40
  rw [Option.isSome_iff_ne_none.mpr b1] at x1
  rw [b2] at x2
  rw [Option.isSome_iff_ne_none.mpr b3] at x3
  rw [b4] at x4
  have x2' : F_is_shape_lump [(cbS true 59).enc, .int 20, .int 60] = .ok (.bl false) () := x2
  have x4' : F_is_shape_lump [(cbS false 59).enc, .int 0, .int 40] = .ok (.bl false) () := x4
  have ad : addD (.lst [.bl true, .bl false]) (.lst [.bl true, .bl false]) = some (.lst [.bl true, .bl false, .bl true, .bl false]) := by kernel_rfl
  have nn : neD (.lst [.bl true, .bl false, .bl true, .bl false]) (.lst [.bl true, .bl false, .bl true, .bl false]) = some (.bl false) := by kernel_rfl
  have p1 : F_lump_part [(Sh.n (.n .o .o) .o).enc, .int 0, .int 2] = .ok (shD (subI (Sh.n (.n .o .o) .o) 0 2)) () := part_ok _ (by decide) 0 2
  have p2 : F_lump_part [(Sh.n (.n .o .o) .o).enc, .int 1, .int 3] = .ok (shD (subI (Sh.n (.n .o .o) .o) 1 3)) () := part_ok _ (by decide) 1 3
  have p1' : F_lump_part [.tup [.tup [.tup [], .tup []], .tup []], .int 0, .int 2] = .ok (.tup [.tup [], .tup []]) () := p1
  have p2' : F_lump_part [.tup [.tup [.tup [], .tup []], .tup []], .int 1, .int 3] = .ok .non () := p2
  have q1 : eqD (.tup [.tup [], .tup []]) (.tup [.tup [], .tup []]) = some (.bl true) := by kernel_rfl
  have q2 : isND .non .non = some (.bl true) := rfl
  generalize (cbS true 59).enc = A at *
  generalize (cbS false 59).enc = B at *
  repeat (first | with_reducible refine Eq.mpr (DL.wp_eqn (x1)) ?_ | with_reducible refine Eq.mpr (DL.wp_ofOs (x1)) ?_ | with_reducible refine Eq.mpr (DL.wp_eqn (x2')) ?_ | with_reducible refine Eq.mpr (DL.wp_ofOs (x2')) ?_ | with_reducible refine Eq.mpr (DL.wp_eqn (x3)) ?_ | with_reducible refine Eq.mpr (DL.wp_ofOs (x3)) ?_ | with_reducible refine Eq.mpr (DL.wp_eqn (x4')) ?_ | with_reducible refine Eq.mpr (DL.wp_ofOs (x4')) ?_ | with_reducible refine Eq.mpr (DL.wp_eqn (ad)) ?_ | with_reducible refine Eq.mpr (DL.wp_ofOs (ad)) ?_ | with_reducible refine Eq.mpr (DL.wp_eqn (nn)) ?_ | with_reducible refine Eq.mpr (DL.wp_ofOs (nn)) ?_ | walk_at "ev1")
  refine wp_eAndI ?_
  repeat (first | with_reducible refine Eq.mpr (DL.wp_eqn (p1')) ?_ | with_reducible refine Eq.mpr (DL.wp_ofOs (p1')) ?_ | with_reducible refine Eq.mpr (DL.wp_eqn (q1)) ?_ | with_reducible refine Eq.mpr (DL.wp_ofOs (q1)) ?_ | walk_at "ev1")
  refine .inl ⟨rfl, ?_⟩
  repeat (first | with_reducible refine Eq.mpr (DL.wp_eqn (p2')) ?_ | with_reducible refine Eq.mpr (DL.wp_ofOs (p2')) ?_ | with_reducible refine Eq.mpr (DL.wp_eqn (q2)) ?_ | with_reducible refine Eq.mpr (DL.wp_ofOs (q2)) ?_ | walk_at "ev1")
  rfl
theorem law_true : ∀ ns : List Int, ns.length ≤ 63 → ∃ ω', runS B_law tau0 (srcOf ns) = .ok (.bl true) ω' := by
  intro ns _
  obtain ⟨d, ω', e, rfl⟩ := (law_wp ns).ex
  exact ⟨ω', e⟩
end Lk
open PySem PySem.W PyProof.Rows in
set_option maxRecDepth 100000 in
set_option maxHeartbeats 0 in
theorem PySem.Challenge.cw_lumpplans_k19_lumps_of_shapes_holds : PySem.Challenge.rw_lumpplans_k19_lumps_of_shapes.Holds := by
  w_on; o_law; k_head; (case hw => w_witness2)
  k_fill
  refine Lk.walk (l := PySem.Challenge.rw_lumpplans_k19_lumps_of_shapes) rfl rfl (fun w h Y => PySem.W.kIn_of Y) ?F
  case F =>
    intro w mg fa h KX G hmg
    refine' Lk.all_mk Lk.law_true KX G hmg ?a0 ?l0 ?c0 ?k0 ?a1 ?l1 ?c1 ?k1 ?a2 ?l2 ?c2 ?k2 ?a3 ?l3 ?c3 ?k3 ?a4 ?l4 ?c4 ?k4 ?a5 ?l5 ?c5 ?k5 ?a6 ?l6 ?c6 ?k6 ?a7 ?l7 ?c7 ?k7 ?a8 ?l8 ?c8 ?k8 ?a9 ?l9 ?c9 ?k9 ?a10 ?l10 ?c10 ?k10 ?z_int ?z_abs ?z_len ?z_max ?z_dict ?z_list ?z_range ?z_repr ?z_sorted
    (case a0 => k_is)
    (case l0 => k_is)
    (case c0 => k_is)
    (case k0 => k_is)
    (case a1 => k_is)
    (case l1 => k_is)
    (case c1 => k_is)
    (case k1 => k_is)
    (case a2 => k_is)
    (case l2 => k_is)
    (case c2 => k_is)
    (case k2 => k_is)
    (case a3 => k_is)
    (case l3 => k_is)
    (case c3 => k_is)
    (case k3 => k_is)
    (case a4 => k_is)
    (case l4 => k_is)
    (case c4 => k_is)
    (case k4 => k_is)
    (case a5 => k_is)
    (case l5 => k_is)
    (case c5 => k_is)
    (case k5 => k_is)
    (case a6 => k_is)
    (case l6 => k_is)
    (case c6 => k_is)
    (case k6 => k_is)
    (case a7 => k_is)
    (case l7 => k_is)
    (case c7 => k_is)
    (case k7 => k_is)
    (case a8 => k_is)
    (case l8 => k_is)
    (case c8 => k_is)
    (case k8 => k_is)
    (case a9 => k_is)
    (case l9 => k_is)
    (case c9 => k_is)
    (case k9 => k_is)
    (case a10 => k_is)
    (case l10 => k_is)
    (case c10 => k_is)
    (case k10 => k_is)
    (case z_int => k_is)
    (case z_abs => k_is)
    (case z_len => k_is)
    (case z_max => k_is)
    (case z_dict => k_is)
    (case z_list => k_is)
    (case z_range => k_is)
    (case z_repr => k_is)
    (case z_sorted => k_is)
