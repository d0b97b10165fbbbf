import PyProof.Rows.All
import Wide.All
import OpenK.AllK
import Wide.FinOn
import HandS.ForMost
import HandS.Wide
import HandS.TupAny
import HandS.TupMul
import HandS.Exc
import HandS.TryOnly
import HandS.WordsExc
import HandS.IsInst
import HandS.Conv
import HandS.Style
import HandS.EndBits
import HandS.Ends
import PyProof.ReprRoads
import HandS.RaiseMore
import HandS.Deep
import KE.GoesEnum
import KE.GoesMore
import HandS.SortInts
import HandS.WideBits
import HandS.WideMore
import HandS.NoneIn
import HandS.SetKeys
import HandS.Defaults
import HandS.OwnEq
import PyProof.InstNe
import HandS.ExcOwn
import PyProof.NeKinds
import HandS.ListEq
import HandS.Flow
import HandS.Lambda
import KE.KNest
import HandS.MakeKwOnly
import PyProof.LongRange
import HandS.Iter
import HandS.SortRule
import HandS.TupLen
import KE.KDictPairs
import KE.SortKeyHeap
import HandS.ExcInit
import HandS.ExcField
import HandS.ExcIs
import KE.KExcIs
import PySem.Challenge.RW_lumpplans_k18_behind_cuts
set_option Elab.async false
set_option linter.all false
set_option maxRecDepth 100000
set_option maxHeartbeats 4000000
namespace DL
open PySem PySem.Spec PyProof.Rows L2
/-- data: what a value stands for, tuples and finished lists by their items -/
inductive D where
  | non
  | bl (b : Bool)
  | int (i : Int)
  | str (x : Str)
  | tup (ds : List D)
  | lst (ds : List D)
  | dic (ks : List Key) (ds : List D)
  | dit (ks : List (List Key)) (ds : List D)
  | ins (fs : List Str) (ds : List D)
section
variable (K : PySem.W.Frag) (im : Addr → Bool)
/-- a list that is not changed any more -/
def SqZ (H : Hp) (a : Addr) (xs : List V) : Prop := ∃ o, H a = some (.frz o (.lst xs))
/-- a tuple that the program made -/
def SqH (_ : PySem.W.Frag) (H : Hp) (a : Addr) (xs : List V) : Prop := H a = some (.tup xs)
mutual
inductive Rep (H : Hp) : V → D → Prop
  | non : Rep H .non .non
  | bl (b : Bool) : Rep H (.bl b) (.bl b)
  | int (i : Int) : Rep H (.int i) (.int i)
  | str (x : Str) : Rep H (.str x) (.str x)
  | tup {a : Addr} {vs : List V} {ds : List D} : SqH K H a vs → RepL H vs ds → Rep H (.ref a) (.tup ds)
  | lst {a : Addr} {vs : List V} {ds : List D} : SqZ H a vs → RepL H vs ds → Rep H (.ref a) (.lst ds)
  | dic {a : Addr} {o : Obj} {ks : List Key} {vs : List V} {ds : List D} : H a = some (.frz o (.dK (ks.zip vs))) → ks.length = vs.length → RepL H vs ds → Rep H (.ref a) (.dic ks ds)
  | dit {a : Addr} {o : Obj} {ks : List (List Key)} {vs : List V} {ds : List D} : H a = some (.frz o (.dT (ks.zip vs))) → ks.length = vs.length → RepL H vs ds → Rep H (.ref a) (.dit ks ds)
  | ins {a C dx : Addr} {fs : List Str} {vs : List V} {ds : List D} : im C = true → 2 ≤ fs.length → H a = some (.ins C dx (fs.zip vs)) → fs.length = vs.length → RepL H vs ds → Rep H (.ref a) (.ins fs ds)
inductive RepL (H : Hp) : List V → List D → Prop
  | nil : RepL H [] []
  | cons {v : V} {vs : List V} {d : D} {ds : List D} : Rep H v d → RepL H vs ds → RepL H (v :: vs) (d :: ds)
end
/-- what stays for ever -/
def stb : HO → Prop
  | .tup _ => True
  | .frz _ _ => True
  | .ext _ => True
  | .ins C _ kvs => im C = true ∧ 2 ≤ kvs.length
  | _ => False
def Sb (H H' : Hp) : Prop := ∀ b o, H b = some o → stb im o → H' b = some o
end
section
variable {K : PySem.W.Frag} {im : Addr → Bool} {H H' H1 H2 : Hp}
theorem Sb.refl : Sb im H H := fun _ _ e _ => e
theorem Sb.trans (a : Sb im H H1) (b : Sb im H1 H2) : Sb im H H2 := fun c o e s => b c o (a c o e s) s
theorem Sb.of (a : Same H H1) : Sb im H H1 := fun c o e _ => a c o e
theorem Sb.sqT {a : Addr} {xs : List V} (s : Sb im H H') (h : SqT K H a xs) : SqT K H' a xs := by
  rcases h with (h | ⟨o, h⟩) | h
  · exact .inl (.inl (s _ _ h trivial))
  · exact .inl (.inr ⟨o, s _ _ h trivial⟩)
  · exact .inr h
theorem Sb.sqZ {a : Addr} {xs : List V} (s : Sb im H H') (h : SqZ H a xs) : SqZ H' a xs := by
  obtain ⟨o, h⟩ := h
  exact ⟨o, s _ _ h trivial⟩
theorem SqH.q {a : Addr} {xs : List V} (h : SqH K H a xs) : SqT K H a xs := .inl (.inl h)
instance {a : Addr} {xs : List V} : Coe (SqH K H a xs) (SqT K H a xs) := ⟨SqH.q⟩
theorem Sb.sqH {a : Addr} {xs : List V} (s : Sb im H H') (h : SqH K H a xs) : SqH K H' a xs := s _ _ h trivial
theorem SqZ.l {a : Addr} {xs : List V} (h : SqZ H a xs) : SqL K H a xs := .inl (.inr h)
mutual
theorem Rep.mono (s : Sb im H H') : ∀ (d : D) (v : V), Rep K im H v d → Rep K im H' v d
  | .non, _, h => by cases h; exact .non
  | .bl _, _, h => by cases h; exact .bl _
  | .int _, _, h => by cases h; exact .int _
  | .str _, _, h => by cases h; exact .str _
  | .tup ds, _, h => by
    cases h with
    | tup h1 h2 => exact .tup (s.sqH h1) (RepL.mono s ds _ h2)
  | .lst ds, _, h => by
    cases h with
    | lst h1 h2 => exact .lst (s.sqZ h1) (RepL.mono s ds _ h2)
  | .dic ks ds, _, h => by
    cases h with
    | dic h1 h2 h3 => exact .dic (s _ _ h1 trivial) h2 (RepL.mono s ds _ h3)
  | .dit ks ds, _, h => by
    cases h with
    | dit h1 h2 h3 => exact .dit (s _ _ h1 trivial) h2 (RepL.mono s ds _ h3)
  | .ins fs ds, _, h => by
    cases h with
    | ins h0 h01 h1 h2 h3 => exact .ins h0 h01 (s _ _ h1 ⟨h0, by rw [List.length_zip, ← h2, Nat.min_self]; exact h01⟩) h2 (RepL.mono s ds _ h3)
theorem RepL.mono (s : Sb im H H') : ∀ (ds : List D) (vs : List V), RepL K im H vs ds → RepL K im H' vs ds
  | [], _, h => by cases h; exact .nil
  | d :: ds, _, h => by
    cases h with
    | cons h1 h2 => exact .cons (Rep.mono s d _ h1) (RepL.mono s ds _ h2)
end
theorem Rep.up {d : D} {v : V} (h : Rep K im H v d) (s : Sb im H H') : Rep K im H' v d := Rep.mono s d v h
theorem RepL.up {ds : List D} {vs : List V} (h : RepL K im H vs ds) (s : Sb im H H') : RepL K im H' vs ds := RepL.mono s ds vs h
theorem RepL.length : ∀ {ds : List D} {vs : List V}, RepL K im H vs ds → vs.length = ds.length
  | [], _, h => by cases h; rfl
  | _ :: ds, _, h => by
    cases h with
    | cons _ h2 => simp [RepL.length h2]
theorem RepL.get : ∀ {ds : List D} {vs : List V} {i : Nat} {d : D}, RepL K im H vs ds → ds[i]? = some d → ∃ v, vs[i]? = some v ∧ Rep K im H v d
  | [], _, _, _, h, e => by simp at e
  | _ :: ds, _, 0, d, h, e => by
    cases h with
    | cons h1 _ => simp at e; subst e; exact ⟨_, rfl, h1⟩
  | _ :: ds, _, i + 1, d, h, e => by
    cases h with
    | cons _ h2 =>
      obtain ⟨v, e1, r⟩ := RepL.get (i := i) h2 (by simpa using e)
      exact ⟨v, by simpa using e1, r⟩
theorem RepL.append : ∀ {ds es : List D} {vs ws : List V}, RepL K im H vs ds → RepL K im H ws es → RepL K im H (vs ++ ws) (ds ++ es)
  | [], _, _, _, h, k => by cases h; exact k
  | _ :: _, _, _, _, h, k => by
    cases h with
    | cons h1 h2 => exact .cons h1 (RepL.append h2 k)
theorem RepL.take : ∀ {ds : List D} {vs : List V} (n : Nat), RepL K im H vs ds → RepL K im H (vs.take n) (ds.take n)
  | _, _, 0, _ => by simp; exact .nil
  | [], _, n + 1, h => by cases h; simp; exact .nil
  | _ :: _, _, n + 1, h => by
    cases h with
    | cons h1 h2 => exact .cons h1 (RepL.take n h2)
theorem RepL.drop : ∀ {ds : List D} {vs : List V} (n : Nat), RepL K im H vs ds → RepL K im H (vs.drop n) (ds.drop n)
  | _, _, 0, h => h
  | [], _, n + 1, h => by cases h; simp; exact .nil
  | _ :: _, _, n + 1, h => by
    cases h with
    | cons h1 h2 => exact RepL.drop n h2
theorem RepL.reverse {ds : List D} {vs : List V} (h : RepL K im H vs ds) : RepL K im H vs.reverse ds.reverse := by
  induction ds generalizing vs with
  | nil => cases h; exact .nil
  | cons d ds ih =>
    cases h with
    | cons h1 h2 =>
      rw [List.reverse_cons, List.reverse_cons]
      exact RepL.append (ih h2) (.cons h1 .nil)
theorem RepL.rep {ds : List D} {vs : List V} (h : RepL K im H vs ds) : ∀ k : Nat, RepL K im H (List.replicate k vs).flatten (List.replicate k ds).flatten
  | 0 => .nil
  | k + 1 => by
    rw [List.replicate_succ, List.replicate_succ, List.flatten_cons, List.flatten_cons]
    exact RepL.append h (RepL.rep h k)
theorem RepL.one {v : V} {d : D} (h : Rep K im H v d) : RepL K im H [v] [d] := .cons h .nil
theorem RepL.dropLast {ds : List D} {vs : List V} (h : RepL K im H vs ds) : RepL K im H vs.dropLast ds.dropLast := by
  rw [List.dropLast_eq_take, List.dropLast_eq_take, h.length]
  exact h.take _
end
section
variable {X : Cx} {pins : List (Addr × Obj)} {σ : L2.St} {H : Hp} {s : Shared} {a : Addr} {xs : List V}
theorem Inv.freeze (I : Inv X pins σ H s) (h : H a = some (.lst xs)) : ∃ o, Inv X pins σ (upd H a (.frz o (.lst xs))) s := by
  obtain ⟨z, its, n, r, e⟩ := I.hok a _ h
  have ha : ∀ b, H b = none → b ≠ a := fun b hb q => by rw [q, h] at hb; cases hb
  have hne : ∀ b u, H b = some u → u ≠ .lst xs → b ≠ a := fun b u hb hu q => by rw [q, h] at hb; exact hu (Option.some.inj hb).symm
  refine ⟨{ cls := .type "list", data := .seq its.toArray n }, ⟨I.ok, I.os, I.bare, ⟨I.base.keep, I.base.slot, fun b ob q n hx => ?_, I.base.there, fun b ys q => ?_, fun b ob u q => ?_, fun b ps q => ?_⟩, I.loc, I.cell, ?_, fun x c q => ?_, fun p hp => ?_, fun b u q => ?_, I.len⟩⟩
  · have k := I.base.free b ob q n hx
    rw [upd_ne (ha b k)]; exact k
  · have k := I.base.tups b ys q
    rw [upd_ne (hne b _ k (by intro z; cases z))]; exact k
  · have k := I.base.frzs b ob u q
    rw [upd_ne (hne b _ k (by intro z; cases z))]; exact k
  · obtain ⟨m, k⟩ := I.base.tbls b ps q
    exact ⟨m, by rw [upd_ne (hne b _ k (by intro z; cases z))]; exact k⟩
  · rw [upd_ne (ha _ I.free)]; exact I.free
  · have k := I.freeC x c q
    rw [upd_ne (ha _ k)]; exact k
  · obtain ⟨p1, p2, p3⟩ := I.pin p hp
    exact ⟨p1, by rw [upd_ne (ha _ p2)]; exact p2, p3⟩
  · have own : ∀ c y, H c = some (.own y) → upd H a (.frz { cls := .type "list", data := .seq its.toArray n } (.lst xs)) c = some (.own y) := fun c y k => by
      rw [upd_ne (hne c _ k (by intro z; cases z))]; exact k
    have tup : ∀ c ys, H c = some (.tup ys) → upd H a (.frz { cls := .type "list", data := .seq its.toArray n } (.lst xs)) c = some (.tup ys) := fun c ys k => by
      rw [upd_ne (hne c _ k (by intro z; cases z))]; exact k
    by_cases hb : b = a
    · subst hb
      rw [upd_same] at q
      cases q
      exact ⟨e, z, its, n, r, e⟩
    · rw [upd_ne hb] at q
      exact (I.hok b u q).stay (fun _ _ _ k => k) (fun c k => own c b k) tup
/-- what e gives, a new list, finished -/
def tFrz (te : TE) : TE := fun σ H Q => te σ H fun v H1 => ∃ a xs, v = .ref a ∧ H1 a = some (.lst xs) ∧ ∀ o, Q (.ref a) (upd H1 a (.frz o (.lst xs)))
theorem EP.freeze {Q : VK} {u : Value} {s' : Shared} (h : EP X pins σ (fun v H1 => ∃ a xs, v = .ref a ∧ H1 a = some (.lst xs) ∧ ∀ o, Q (.ref a) (upd H1 a (.frz o (.lst xs)))) u s') : EP X pins σ Q u s' := by
  obtain ⟨v, H1, I, r, a, xs, rfl, ha, q⟩ := h
  obtain ⟨o, J⟩ := Inv.freeze I ha
  exact ⟨_, _, J, r, q o⟩
theorem pe_frz {e : Expr} {te : TE} (h : PE X e te) : PE X e (tFrz te) :=
  ⟨fun pins s σ H Q I q => thn (h.run pins s σ H _ I q) fun _ _ h => EP.freeze h⟩
end
end DL
namespace DL
open PySem PySem.Spec PyProof.Rows L2
theorem tuple_mul1 (l : Addr) (items : Array Value) (n : Nat) (dd : Option Addr) (sl : Array (Option Value)) (u : Tok) :
    Meets (Builtin.«tuple.__mul__» ⟨[.ref l, .int 1 u], []⟩) (fun _ R s => s.heap.get? l = some { cls := .type "tuple", dict := dd, data := .seq items n, slots := sl } ∧ R (.ok (.ret (.ref l))) s) :=
  .of_wp fun prog w A R s h => by
    obtain ⟨hp, g, d, tk, os⟩ := s
    obtain ⟨hl, h⟩ := h
    have f1 := AutoSeq1.idx_int
    wp_walk using wpAny_loadPart' hl
    have c1 : (items.isEmpty || (1 : Int) == 1) = true := by rw [Bool.or_eq_true]; exact .inr (by decide)
    repeat (first
      | (refine wpAny_ite_false (by decide) ?_; wp_walk using wpAny_loadPart' hl)
      | (refine wpAny_ite_true c1 ?_; wp_walk using wpAny_loadPart' hl)
      | (refine wpAny_ite_true (decide_eq_true c1) ?_; wp_walk using wpAny_loadPart' hl))
    exact ⟨_, rfl, h⟩
theorem tuple_mul0 (l : Addr) (items : Array Value) (n : Nat) (dd : Option Addr) (sl : Array (Option Value)) (x : Int) (u : Tok) (hx : x ≤ 0) (h0 : -(2 ^ 63) ≤ x) (hi : items.isEmpty = false) :
    Meets (Builtin.«tuple.__mul__» ⟨[.ref l, .int x u], []⟩) (fun _ R s => s.heap.get? l = some { cls := .type "tuple", dict := dd, data := .seq items n, slots := sl } ∧ R (.ok (.ret (.ref s.heap.objs.size))) { s with heap := s.heap.push { cls := Value.type "tuple", data := Data.seq #[] }, toks := s.toks }) :=
  .of_wp fun prog w A R s h => by
    obtain ⟨hp, g, d, tk, os⟩ := s
    obtain ⟨hl, h⟩ := h
    have f1 := AutoSeq1.idx_int
    have c0 : (decide (x < -(2 ^ 63)) || decide (x ≥ 2 ^ 63)) = false := by
      rw [decide_eq_false (by omega), decide_eq_false (by omega)] <;> rfl
    have c1 : (items.isEmpty || x == 1) = false := by
      rw [hi, Bool.false_or]
      exact beq_eq_false_iff_ne.mpr (by omega)
    have c2 : (decide (x ≤ 0) || items.isEmpty) = true := by
      rw [decide_eq_true hx]; rfl
    wp_walk using wpAny_loadPart' hl
    repeat (first
      | (refine wpAny_ite_false (decide_eq_false (by rw [c0]; exact Bool.false_ne_true)) ?_; wp_walk using wpAny_loadPart' hl)
      | (refine wpAny_ite_false (decide_eq_false (by rw [c1]; exact Bool.false_ne_true)) ?_; wp_walk using wpAny_loadPart' hl)
      | (refine wpAny_ite_true (decide_eq_true c2) ?_; wp_walk using wpAny_loadPart' hl))
    exact ⟨_, rfl, h⟩
def rRepT01 (K : PySem.W.Frag) : R2 := fun x y H Q => ∃ l k xs, x = .ref l ∧ y = .int k ∧ SqT K H l xs ∧ xs ≠ [] ∧ ((k = 1 ∧ Q (.ref l) H) ∨ (-(2 ^ 63) ≤ k ∧ k ≤ 0 ∧ ∀ p, H p = none → Q (.ref p) (upd H p (.tup []))))
section
variable {X : Cx}
theorem op_repT01 : OpR X (binaryOp .Mult) (rRepT01 X.K) := by
  intro pins s σ H x y v u Q I rx ry h
  obtain ⟨l, k, xs, rfl, rfl, hT, hne, q⟩ := h
  cases rx
  obtain ⟨t, rfl⟩ := ry
  obtain ⟨its, r, ⟨⟨cls, dd, data, sl⟩, ho, hc, n, hd⟩, hs⟩ := I.tuple hT
  simp only at hc hd
  subst hc hd
  have hle : its.length = xs.length := r.length.symm
  have hn : its ≠ [] := fun e => hne (by
    rw [e] at hle
    exact List.eq_nil_of_length_eq_zero hle.symm)
  have hi : its.toArray.isEmpty = false := by
    cases its with
    | nil => exact absurd rfl hn
    | cons a b => rfl
  rcases q with ⟨rfl, q⟩ | ⟨h0, h1, q⟩
  · refine wpAny_binaryOp_repeat_ref (T := "tuple") (U := "int") (by decide) ⟨_, ho, rfl⟩ (fun s' => typeIs_int s' 1 t) noFill_tuple_mul F.fills_int_mul F.slot_int_rmul repeat_tuple F.slot_int_index.lookup
      (call_meets F.slot_int_rmul (typeIs_int s 1 t) F.entry_int_rmul (F.args_int_rmul_2 _ _) (int_rmul_tuple 1 t l its.toArray n dd sl)
        ⟨ho, rfl, ⟨_, ho, rfl⟩, call_meets F.slot_tuple_mul ⟨_, ho, rfl⟩ F.entry_tuple_mul (F.args_tuple_mul_2 _ _) (tuple_mul1 l its.toArray n dd sl t) ⟨ho, ?_⟩⟩)
    exact ⟨.ref l, H, I, rfl, q⟩
  · refine wpAny_binaryOp_repeat_ref (T := "tuple") (U := "int") (by decide) ⟨_, ho, rfl⟩ (fun s' => typeIs_int s' k t) noFill_tuple_mul F.fills_int_mul F.slot_int_rmul repeat_tuple F.slot_int_index.lookup
      (call_meets F.slot_int_rmul (typeIs_int s k t) F.entry_int_rmul (F.args_int_rmul_2 _ _) (int_rmul_tuple k t l its.toArray n dd sl)
        ⟨ho, rfl, ⟨_, ho, rfl⟩, call_meets F.slot_tuple_mul ⟨_, ho, rfl⟩ F.entry_tuple_mul (F.args_tuple_mul_2 _ _) (tuple_mul0 l its.toArray n dd sl k t h1 h0 hi) ⟨ho, ?_⟩⟩)
    refine ⟨.ref s.heap.objs.size, _, I.laid (t' := s.toks) (o := .tup []) (fun b ob q => Heap.get?_push_of_some _ q) (Nat.le_refl _) ?_, rfl, q _ (I.hok.fresh (Nat.le_refl _))⟩
    exact ⟨by show 0 ≤ sizeLine; exact Nat.zero_le _, [], .nil, IsTup.new _ _⟩
end
mutual
def D.py : D → Option PyData
  | .non => some .none
  | .bl b => some (.bool b)
  | .int i => some (.int i)
  | .str x => some (.str x)
  | .tup ds => (D.pyL ds).map .tuple
  | .lst ds => (D.pyL ds).map .list
  | .dic _ _ => none
  | .dit _ _ => none
  | .ins _ _ => none
def D.pyL : List D → Option (List PyData)
  | [] => some []
  | d :: r => match D.py d, D.pyL r with
    | some x, some y => some (x :: y)
    | _, _ => none
end
section
variable {K : PySem.W.Frag} {im : Addr → Bool} {H : Hp}
mutual
theorem Rep.dp : ∀ (d : D) (v : V) (p : PyData), Rep K im H v d → d.py = some p → Dp K H v p
  | .non, _, _, h, e => by cases h; simp [D.py] at e; subst e; exact .non
  | .bl b, _, _, h, e => by cases h; simp [D.py] at e; subst e; exact .bl b
  | .int b, _, _, h, e => by cases h; simp [D.py] at e; subst e; exact .int b
  | .str b, _, _, h, e => by cases h; simp [D.py] at e; subst e; exact .str b
  | .tup ds, _, _, h, e => by
    cases h with
    | tup h1 h2 =>
      cases q : D.pyL ds with
      | none => simp [D.py, q] at e
      | some ps =>
        simp [D.py, q] at e
        subst e
        exact .tup h1 (RepL.dp ds _ ps h2 q)
  | .lst ds, _, _, h, e => by
    cases h with
    | lst h1 h2 =>
      cases q : D.pyL ds with
      | none => simp [D.py, q] at e
      | some ps =>
        simp [D.py, q] at e
        subst e
        exact .lst h1.l (RepL.dp ds _ ps h2 q)
  | .dic _ _, _, _, _, e => by simp [D.py] at e
  | .dit _ _, _, _, _, e => by simp [D.py] at e
  | .ins _ _, _, _, _, e => by simp [D.py] at e
theorem RepL.dp : ∀ (ds : List D) (vs : List V) (ps : List PyData), RepL K im H vs ds → D.pyL ds = some ps → DpAll K H vs ps
  | [], _, _, h, e => by cases h; simp [D.pyL] at e; subst e; exact .nil
  | d :: ds, _, _, h, e => by
    cases h with
    | cons h1 h2 =>
      cases q1 : D.py d with
      | none => simp [D.pyL, q1] at e
      | some p =>
        cases q2 : D.pyL ds with
        | none => simp [D.pyL, q1, q2] at e
        | some ps =>
          simp [D.pyL, q1, q2] at e
          subst e
          exact .cons (Rep.dp d _ p h1 q1) (RepL.dp ds _ ps h2 q2)
end
end
def eqB (d e : D) : Option Bool := match d.py, e.py with
  | some p, some q => if p.canLay0 = true ∧ q.canLay0 = true ∧ min p.depth q.depth ≤ 150 then some (PyData.eqv p q) else none
  | _, _ => none
def eqD (d e : D) : Option D := (eqB d e).map .bl
def neD (d e : D) : Option D := (eqB d e).map fun b => .bl (!b)
def addD : D → D → Option D
  | .int i, .int j => some (.int (i + j))
  | .str x, .str y => if x.length + y.length ≤ sizeLine then some (.str (x ++ y)) else none
  | .tup xs, .tup ys => if xs.length + ys.length ≤ sizeLine then some (.tup (xs ++ ys)) else none
  | .lst xs, .lst ys => if xs.length + ys.length ≤ sizeLine then some (.lst (xs ++ ys)) else none
  | _, _ => none
def subD : D → D → Option D
  | .int i, .int j => some (.int (i - j))
  | _, _ => none
instance {i j : Int} : Decidable (CMul i j) := by unfold CMul; infer_instance
instance {i j : Int} : Decidable (CMulW i j) := by unfold CMulW; infer_instance
def mulD : D → D → Option D
  | .int i, .int j => if CMul i j ∨ CMulW i j then some (.int (i * j)) else none
  | .lst xs, .int k => if -(2 ^ 63) ≤ k ∧ k < 2 ^ 63 ∧ xs.length * k.toNat ≤ sizeLine then some (.lst (List.replicate k.toNat xs).flatten) else none
  | .tup xs, .int k => if xs ≠ [] ∧ 2 ≤ k ∧ k ≤ 1000 ∧ xs.length ≤ 1000 then some (.tup (List.replicate k.toNat xs).flatten) else if xs ≠ [] ∧ k = 1 then some (.tup xs) else if xs ≠ [] ∧ -(2 ^ 63) ≤ k ∧ k ≤ 0 then some (.tup []) else none
  | _, _ => none
instance {i j : Int} : Decidable (CDivW i j) := by unfold CDivW; infer_instance
def fdivD : D → D → Option D
  | .int i, .int j => if CDivW i j then some (.int (i / j)) else none
  | _, _ => none
def modD : D → D → Option D
  | .int i, .int j => if 0 < j then some (.int (i % j)) else none
  | _, _ => none
def cmpD (f : Int → Int → Bool) : D → D → Option D
  | .int i, .int j => some (.bl (f i j))
  | _, _ => none
def ltD : D → D → Option D := cmpD fun i j => decide (i < j)
def leD : D → D → Option D := cmpD fun i j => decide (i ≤ j)
def gtD : D → D → Option D := cmpD fun i j => decide (j < i)
def geD : D → D → Option D := cmpD fun i j => decide (j ≤ i)
def isND : D → D → Option D
  | .non, .non => some (.bl true)
  | _, .non => some (.bl false)
  | .bl a, .bl b => some (.bl (decide (a = b)))
  | _, _ => none
def notND : D → D → Option D
  | .non, .non => some (.bl false)
  | _, .non => some (.bl true)
  | .bl a, .bl b => some (.bl (!decide (a = b)))
  | _, _ => none
def ixD : D → D → Option D
  | .tup xs, .int i => atI xs i
  | .lst xs, .int i => atI xs i
  | .str z, .int i => if z.length ≤ sizeLine then (atI z.cps.toList i).map fun c => .str ⟨#[c]⟩ else none
  | _, _ => none
def cutL {α : Type} (xs : List α) (lo hi : Option Int) : List α := (xs.drop (HT.sIx xs.length 0 lo)).take (HT.sIx xs.length xs.length hi - HT.sIx xs.length 0 lo)
def sliceD : D → Option Int → Option Int → Option D
  | .tup xs, lo, hi => some (.tup (cutL xs lo hi))
  | .lst xs, lo, hi => some (.lst (cutL xs lo hi))
  | _, _, _ => none
def lenD : D → Option D
  | .tup xs => some (.int xs.length)
  | .lst xs => some (.int xs.length)
  | .str z => if z.length ≤ sizeLine then some (.int z.length) else none
  | _ => none
def tupleD : D → Option D
  | .tup xs => some (.tup xs)
  | .lst xs => some (.tup xs)
  | _ => none
def intD : D → Option D
  | .int i => some (.int i)
  | .bl k => some (.int (if k then 1 else 0))
  | _ => none
def max2D : D → D → Option D
  | .int i, .int j => some (.int (if j > i then j else i))
  | _, _ => none
def min2D : D → D → Option D
  | .int i, .int j => some (.int (if j < i then j else i))
  | _, _ => none
section
variable (K : PySem.W.Frag) (im : Addr → Bool)
def rD2 (f : D → D → Option D) : R2 := fun x y H Q => ∃ d e z, Rep K im H x d ∧ Rep K im H y e ∧ f d e = some z ∧ ∀ v H', Same H H' → Rep K im H' v z → Q v H'
def rDN (f : List D → Option D) : List V → Hp → VK → Prop := fun xs H Q => ∃ ds z, RepL K im H xs ds ∧ f ds = some z ∧ ∀ v H', Same H H' → Rep K im H' v z → Q v H'
end
section
variable {X : Cx} {im : Addr → Bool} {pins : List (Addr × Obj)} {σ : L2.St} {H : Hp} {s : Shared}
theorem Same.new {H : Hp} {p : Addr} {o : HO} (h : H p = none) : Same H (upd H p o) := fun a u e => by
  rw [upd_ne (ne_of_none e h)]
  exact e
theorem EP.newL {p : Addr} {zs : List V} {ds : List D} {Q : VK} {s' : Shared} (hp : H p = none) (I : Inv X pins σ (upd H p (.lst zs)) s') (r : RepL X.K im H zs ds)
    (q : ∀ v H', Same H H' → Rep X.K im H' v (.lst ds) → Q v H') : EP X pins σ Q (.ref p) s' := by
  obtain ⟨o, J⟩ := Inv.freeze I upd_same
  rw [upd_upd] at J
  have sm : Same H (upd H p (.frz o (.lst zs))) := Same.new hp
  exact ⟨.ref p, _, J, rfl, q _ _ sm (.lst ⟨o, upd_same⟩ (r.up (.of sm)))⟩
theorem newT_ {p : Addr} {zs : List V} {ds : List D} {Q : VK} (hp : H p = none) (r : RepL X.K im H zs ds)
    (q : ∀ v H', Same H H' → Rep X.K im H' v (.tup ds) → Q v H') : Q (.ref p) (upd H p (.tup zs)) := by
  have sm : Same H (upd H p (.tup zs)) := Same.new hp
  exact q _ _ sm (.tup upd_same (r.up (.of sm)))
theorem Inv.zlst {l : Addr} {xs : List V} (I : Inv X pins σ H s) (h : SqZ H l xs) : xs.length ≤ sizeLine ∧ ∃ (its : List Value) (n : Nat), Vals xs its ∧ xs.length = its.length ∧ s.heap.get? l = some { cls := .type "list", data := .seq its.toArray n } := by
  obtain ⟨o, h⟩ := h
  obtain ⟨_, z, its, n, r, e⟩ := I.hok l _ h
  exact ⟨z, its, n, r, r.length, e⟩
theorem atI_len {α β : Type} {xs : List α} {ys : List β} {i : Int} {d : α} (hl : ys.length = xs.length) (h : atI xs i = some d) : ∃ j : Nat, atI ys i = ys[j]? ∧ xs[j]? = some d := by
  unfold atI at h ⊢
  rw [hl]
  cases e : ixN xs.length i with
  | none => rw [e] at h; cases h
  | some j => rw [e] at h; exact ⟨j, rfl, h⟩
theorem RepL.at {ds : List D} {vs : List V} {i : Int} {d : D} {K : PySem.W.Frag} (h : RepL K im H vs ds) (e : atI ds i = some d) : ∃ v, atI vs i = some v ∧ Rep K im H v d := by
  obtain ⟨j, e1, e2⟩ := atI_len h.length e
  obtain ⟨v, e3, r⟩ := h.get e2
  exact ⟨v, by rw [e1, e3], r⟩
theorem RepL.cut {ds : List D} {vs : List V} {K : PySem.W.Frag} (h : RepL K im H vs ds) (lo hi : Option Int) : RepL K im H (cutL vs lo hi) (cutL ds lo hi) := by
  unfold cutL
  rw [h.length]
  exact (h.drop _).take _
theorem op_addD : OpR X (binaryOp .Add) (rD2 X.K im addD) := by
  intro pins s σ H x y v u Q I rx ry h
  obtain ⟨d, e, z, hd, he, hz, q⟩ := h
  cases hd with
  | int i =>
    cases he with
    | int j =>
      simp [addD] at hz; subst hz
      exact op_add pins s σ H _ _ v u Q I rx ry ⟨i, j, rfl, rfl, q _ _ (Same.refl _) (.int _)⟩
    | _ => simp [addD] at hz
  | str i =>
    cases he with
    | str j =>
      simp [addD] at hz
      obtain ⟨hl, rfl⟩ := hz
      exact op_add_str pins s σ H _ _ v u Q I rx ry ⟨i, j, rfl, rfl, hl, q _ _ (Same.refl _) (.str _)⟩
    | _ => simp [addD] at hz
  | @tup a vs ds h1 h2 =>
    cases he with
    | @tup b ws es h3 h4 =>
      simp [addD] at hz
      obtain ⟨hl, rfl⟩ := hz
      have l1 := h2.length
      have l2 := h4.length
      refine op_catA pins s σ H _ _ v u Q I rx ry ⟨a, b, vs, ws, rfl, rfl, h1, h3, by omega, fun e => ?_, fun e e' => ?_, fun _ _ p hp => newT_ hp (h2.append h4) q⟩
      · subst e
        cases h2
        exact q _ _ (Same.refl _) (.tup h3 h4)
      · subst e'
        cases h4
        rw [List.append_nil] at q
        exact q _ _ (Same.refl _) (.tup h1 h2)
    | _ => simp [addD] at hz
  | @lst a vs ds h1 h2 =>
    cases he with
    | @lst b ws es h3 h4 =>
      simp [addD] at hz
      obtain ⟨hl, rfl⟩ := hz
      have l1 := h2.length
      have l2 := h4.length
      cases rx
      cases ry
      obtain ⟨z, its, n, r, hl1, e⟩ := Inv.zlst I h1
      obtain ⟨z2, its2, n2, r2, hl2, e2⟩ := Inv.zlst I h3
      have room : its.toArray.size + its2.toArray.size ≤ sizeLine := by simp only [List.size_toArray]; omega
      have joined : its.toArray ++ its2.toArray = List.toArray (its ++ its2) := List.append_toArray its its2
      refine PySem.P.add_list e e2 (?_ : _) room
      rw [joined]
      exact EP.newL (Inv.fresh I) (Inv.lnew (t' := s.toks) I (r.append r2) (by rw [List.length_append]; omega)) (h2.append h4) q
    | _ => simp [addD] at hz
  | _ => simp [addD] at hz
theorem op_subD : OpR X (binaryOp .Sub) (rD2 X.K im subD) := by
  intro pins s σ H x y v u Q I rx ry h
  obtain ⟨d, e, z, hd, he, hz, q⟩ := h
  cases hd <;> cases he <;> simp [subD] at hz
  subst hz
  exact op_sub pins s σ H _ _ v u Q I rx ry ⟨_, _, rfl, rfl, q _ _ (Same.refl _) (.int _)⟩
theorem join_rep (its : List Value) (m : Nat) : List.foldl (fun x1 x2 => x1 ++ x2) #[] (List.replicate (if its.toArray.isEmpty = true then 0 else m) its.toArray) = (List.replicate m its).flatten.toArray := by
  rcases its with _ | ⟨b, r⟩
  · simp
  · simpa using foldl_rep (b :: r) m []
theorem op_mulD : OpR X (binaryOp .Mult) (rD2 X.K im mulD) := by
  intro pins s σ H x y v u Q I rx ry h
  obtain ⟨d, e, z, hd, he, hz, q⟩ := h
  cases hd with
  | int i =>
    cases he with
    | int j =>
      simp only [mulD] at hz
      split at hz
      · rename_i hc
        cases hz
        rcases hc with hc | hc
        · exact op_mul pins s σ H _ _ v u Q I rx ry ⟨i, j, rfl, rfl, hc, q _ _ (Same.refl _) (.int _)⟩
        · exact op_mulW pins s σ H _ _ v u Q I rx ry ⟨i, j, rfl, rfl, hc, q _ _ (Same.refl _) (.int _)⟩
      · cases hz
    | _ => simp [mulD] at hz
  | @tup a vs ds h1 h2 =>
    cases he with
    | int k =>
      simp only [mulD] at hz
      have l1 := h2.length
      have nev : ds ≠ [] → vs ≠ [] := fun c e => c (by subst e; cases h2; rfl)
      split at hz
      · rename_i hc
        cases hz
        obtain ⟨c1, c2, c3, c4⟩ := hc
        exact op_repT pins s σ H _ _ v u Q I rx ry ⟨a, k, vs, rfl, rfl, h1, nev c1, c2, c3, by omega, fun p hp => newT_ hp (h2.rep _) q⟩
      · split at hz
        · rename_i hc
          cases hz
          exact op_repT01 pins s σ H _ _ v u Q I rx ry ⟨a, k, vs, rfl, rfl, h1, nev hc.1, .inl ⟨hc.2, q _ _ (Same.refl _) (.tup h1 h2)⟩⟩
        · split at hz
          · rename_i hc
            cases hz
            exact op_repT01 pins s σ H _ _ v u Q I rx ry ⟨a, k, vs, rfl, rfl, h1, nev hc.1, .inr ⟨hc.2.1, hc.2.2, fun p hp => newT_ hp .nil q⟩⟩
          · cases hz
    | _ => simp [mulD] at hz
  | @lst a vs ds h1 h2 =>
    cases he with
    | int k =>
      simp only [mulD] at hz
      split at hz
      · rename_i hc
        cases hz
        obtain ⟨c1, c2, c3⟩ := hc
        have l1 := h2.length
        cases rx
        obtain ⟨t, rfl⟩ := ry
        obtain ⟨z, its, n, r, hl, e⟩ := Inv.zlst I h1
        have small : its.toArray.size * k.toNat ≤ sizeLine := by
          simp only [List.size_toArray]
          rw [← hl, l1]
          exact c3
        have below : ¬ (2 ^ 63 - 1) / 8 < its.toArray.size * k.toNat := by
          rw [sizeLine_eq] at small
          omega
        have fits := fitsIndex_both c1 c2
        have short := notLongL small
        refine wpAny_binaryOp_repeat_ref (T := "list") (U := "int") (by decide)
          ⟨_, e, rfl⟩ (fun _ => typeIs_int _ k t) noFill_list_mul F.fills_int_mul
          F.slot_int_rmul repeat_list F.slot_int_index.lookup ?_
        refine call_meets F.slot_int_rmul (typeIs_int s k t) F.entry_int_rmul (F.args_int_rmul_2 _ _)
          (int___rmul___int_list k t a its.toArray n) ⟨e, rfl, ⟨_, e, rfl⟩, ?_⟩
        refine call_meets F.slot_list_mul ⟨_, e, rfl⟩ F.entry_list_mul (F.args_list_mul_2 _ _)
          (AutoListH.list___mul___list_int_3 a its.toArray n k t (by rw [fits]; nofun) below (by rw [short]; nofun)) ⟨e, ?_⟩
        rw [join_rep]
        exact EP.newL (Inv.fresh I) (Inv.lnew (t' := s.toks) I (r.rep k.toNat) (by rw [PyProof.Rows.lm_len_rep_flat, Nat.mul_comm, l1]; exact c3)) (h2.rep _) q
      · cases hz
    | _ => simp [mulD] at hz
  | _ => simp [mulD] at hz
theorem op_fdivD : OpR X (binaryOp .FloorDiv) (rD2 X.K im fdivD) := by
  intro pins s σ H x y v u Q I rx ry h
  obtain ⟨d, e, z, hd, he, hz, q⟩ := h
  cases hd <;> cases he <;> simp [fdivD] at hz
  obtain ⟨hc, rfl⟩ := hz
  exact op_fdivW pins s σ H _ _ v u Q I rx ry ⟨_, _, rfl, rfl, hc, q _ _ (Same.refl _) (.int _)⟩
theorem op_modD : OpR X (binaryOp .Mod) (rD2 X.K im modD) := by
  intro pins s σ H x y v u Q I rx ry h
  obtain ⟨d, e, z, hd, he, hz, q⟩ := h
  cases hd <;> cases he <;> simp [modD] at hz
  obtain ⟨hc, rfl⟩ := hz
  exact op_mod pins s σ H _ _ v u Q I rx ry ⟨_, _, rfl, rfl, hc, q _ _ (Same.refl _) (.int _)⟩
theorem op_cmpD {op : CmpOp} {f : Int → Int → Bool} (ho : OpR X (compareOp op) (rI0 fun i j => .bl (f i j))) : OpR X (compareOp op) (rD2 X.K im (cmpD f)) := by
  intro pins s σ H x y v u Q I rx ry h
  obtain ⟨d, e, z, hd, he, hz, q⟩ := h
  cases hd <;> cases he <;> simp [cmpD] at hz
  subst hz
  exact ho pins s σ H _ _ v u Q I rx ry ⟨_, _, rfl, rfl, q _ _ (Same.refl _) (.bl _)⟩
theorem op_ltD : OpR X (compareOp .Lt) (rD2 X.K im ltD) := op_cmpD op_lt
theorem op_leD : OpR X (compareOp .LtE) (rD2 X.K im leD) := op_cmpD op_le
theorem op_gtD : OpR X (compareOp .Gt) (rD2 X.K im gtD) := op_cmpD op_gt
theorem op_geD : OpR X (compareOp .GtE) (rD2 X.K im geD) := op_cmpD op_ge
theorem op_isND : OpR X (compareOp .Is) (rD2 X.K im isND) := by
  intro pins s σ H x y v u Q I rx ry h
  obtain ⟨d, e, z, hd, he, hz, q⟩ := h
  cases he with
  | non =>
    refine op_isN pins s σ H _ _ v u Q I rx ry ⟨rfl, ?_⟩
    cases hd <;> simp [isND] at hz <;> subst hz <;> exact q _ _ (Same.refl _) (.bl _)
  | bl b =>
    cases hd <;> simp only [isND] at hz <;> cases hz
    exact op_isBl pins s σ H _ _ v u Q I rx ry ⟨_, _, rfl, rfl, q _ _ (Same.refl _) (.bl _)⟩
  | _ => cases hd <;> simp [isND] at hz
theorem op_notND : OpR X (compareOp .IsNot) (rD2 X.K im notND) := by
  intro pins s σ H x y v u Q I rx ry h
  obtain ⟨d, e, z, hd, he, hz, q⟩ := h
  cases he with
  | non =>
    refine op_notN pins s σ H _ _ v u Q I rx ry ⟨rfl, ?_⟩
    cases hd <;> simp [notND] at hz <;> subst hz <;> exact q _ _ (Same.refl _) (.bl _)
  | bl b =>
    cases hd <;> simp only [notND] at hz <;> cases hz
    exact op_notBl pins s σ H _ _ v u Q I rx ry ⟨_, _, rfl, rfl, q _ _ (Same.refl _) (.bl _)⟩
  | _ => cases hd <;> simp [notND] at hz
theorem eqB_some {d e : D} {b : Bool} (h : eqB d e = some b) : ∃ p q, d.py = some p ∧ e.py = some q ∧ p.canLay0 = true ∧ q.canLay0 = true ∧ min p.depth q.depth ≤ 150 ∧ b = PyData.eqv p q := by
  unfold eqB at h
  cases h1 : d.py with
  | none => rw [h1] at h; simp at h
  | some p =>
    cases h2 : e.py with
    | none => rw [h1, h2] at h; simp at h
    | some q =>
      rw [h1, h2] at h
      simp only [Option.ite_none_right_eq_some] at h
      obtain ⟨⟨a, b, c⟩, e⟩ := h
      exact ⟨p, q, rfl, rfl, a, b, c, (Option.some.inj e).symm⟩
theorem op_eqDD (hu : X.A.units + 200 < cLine) : OpR X (compareOp .Eq) (rD2 X.K im eqD) := by
  intro pins s σ H x y v u Q I rx ry h
  obtain ⟨d, e, z, hd, he, hz, q⟩ := h
  unfold eqD at hz
  obtain ⟨b, hb, rfl⟩ := Option.map_eq_some_iff.mp hz
  obtain ⟨p1, p2, e1, e2, c1, c2, c3, rfl⟩ := eqB_some hb
  obtain ⟨as, r1⟩ := Dp.reads I p1 x v (Rep.dp _ _ _ hd e1) rx
  obtain ⟨bs, r2⟩ := Dp.reads I p2 y u (Rep.dp _ _ _ he e2) ry
  exact SeqAt.compareEq_reads r1 r2 c1 c2 (by omega) ⟨.bl _, H, I, rfl, q _ _ (Same.refl _) (.bl _)⟩
theorem op_neDD (hu : X.A.units + 200 < cLine) : OpR X (compareOp .NotEq) (rD2 X.K im neD) := by
  intro pins s σ H x y v u Q I rx ry h
  obtain ⟨d, e, z, hd, he, hz, q⟩ := h
  unfold neD at hz
  obtain ⟨b, hb, rfl⟩ := Option.map_eq_some_iff.mp hz
  obtain ⟨p1, p2, e1, e2, c1, c2, c3, rfl⟩ := eqB_some hb
  obtain ⟨as, r1⟩ := Dp.reads I p1 x v (Rep.dp _ _ _ hd e1) rx
  obtain ⟨bs, r2⟩ := Dp.reads I p2 y u (Rep.dp _ _ _ he e2) ry
  exact SeqAt.compareNe_reads r1 r2 c1 c2 (by omega) ⟨.bl _, H, I, rfl, q _ _ (Same.refl _) (.bl _)⟩
theorem ix_D : IxR X (rD2 X.K im ixD) := by
  intro a b pins s σ H x y v u Q I rx ry h
  obtain ⟨d, e, z, hd, he, hz, q⟩ := h
  cases he with
  | int i =>
    cases hd with
    | @tup a' vs ds h1 h2 =>
      obtain ⟨w, e1, r⟩ := h2.at hz
      exact ix_tup a b pins s σ H _ _ v u Q I rx ry ⟨a', vs, i, w, rfl, rfl, h1, e1, q _ _ (Same.refl _) r⟩
    | @lst a' vs ds h1 h2 =>
      obtain ⟨w, e1, r⟩ := h2.at hz
      exact ix_list a b pins s σ H _ _ v u Q I rx ry ⟨a', vs, i, w, rfl, rfl, h1.l, e1, q _ _ (Same.refl _) r⟩
    | str w =>
      simp only [ixD, Option.ite_none_right_eq_some] at hz
      obtain ⟨hl, hz⟩ := hz
      obtain ⟨c, e1, rfl⟩ := Option.map_eq_some_iff.mp hz
      exact ix_str a b pins s σ H _ _ v u Q I rx ry ⟨w, i, c, rfl, rfl, hl, e1, q _ _ (Same.refl _) (.str _)⟩
    | _ => simp [ixD] at hz
  | _ => cases hd <;> simp [ixD] at hz
/-- a slice -/
def rSlD (K : PySem.W.Frag) (im : Addr → Bool) : V → Option Int → Option Int → Hp → VK → Prop := fun x lo hi H Q => ∃ d z, Rep K im H x d ∧ sliceD d lo hi = some z ∧ ∀ v H', Same H H' → Rep K im H' v z → Q v H'
theorem sl_D : SlR X (rSlD X.K im) := by
  intro pins s σ H x v vl vu lo hi sl Q I rx hs pl pu h
  obtain ⟨d, z, hd, hz, q⟩ := h
  cases hd with
  | @tup a vs ds h1 h2 =>
    simp [sliceD] at hz
    subst hz
    refine sl_tupA pins s σ H _ v vl vu lo hi sl Q I rx hs pl pu ⟨a, vs, rfl, h1, fun e => ?_, fun _ p hp => newT_ hp (h2.cut lo hi) q⟩
    refine q _ _ (Same.refl _) (.tup h1 ?_)
    have l := h2.length
    have e2 : cutL ds lo hi = ds := by
      unfold cutL
      rw [← l, e.1, e.2, List.drop_zero, Nat.sub_zero, l, List.take_length]
    rw [e2]; exact h2
  | @lst a vs ds h1 h2 =>
    simp [sliceD] at hz
    subst hz
    obtain ⟨T, id, h3, h4, h5⟩ := sl_list pins s σ H _ v vl vu lo hi sl (fun v H1 => ∃ p zs, v = .ref p ∧ H1 = upd H p (.lst zs) ∧ H p = none ∧ zs = cutL vs lo hi) I rx hs pl pu ⟨a, vs, rfl, h1.l, fun p hp => ⟨p, _, rfl, rfl, hp, rfl⟩⟩
    refine ⟨T, id, h3, h4, thn h5 fun u s' hh => ?_⟩
    obtain ⟨w, H1, J, r, p, zs, rfl, rfl, hp, rfl⟩ := hh
    cases r
    exact EP.newL hp J (h2.cut lo hi) q
  | _ => simp [sliceD] at hz
theorem r1 {f : D → Option D} : ∀ {vs : List V} {ds : List D} {K : PySem.W.Frag}, RepL K im H vs ds → ∀ {z : D}, (match ds with | [d] => f d | _ => none) = some z → ∃ v d, vs = [v] ∧ ds = [d] ∧ Rep K im H v d ∧ f d = some z
  | _, [], _, _, _, e => by simp at e
  | _, [d], _, h, _, e => by
    cases h with
    | cons h1 h2 => cases h2; exact ⟨_, _, rfl, rfl, h1, e⟩
  | _, _ :: _ :: _, _, _, _, e => by simp at e
def un1 (f : D → Option D) : List D → Option D := fun ds => match ds with | [d] => f d | _ => none
def bi2 (f : D → D → Option D) : List D → Option D := fun ds => match ds with | [d, e] => f d e | _ => none
theorem un1_ok {f : D → Option D} {vs : List V} {ds : List D} {K : PySem.W.Frag} {z : D} (h : RepL K im H vs ds) (e : un1 f ds = some z) : ∃ v d, vs = [v] ∧ Rep K im H v d ∧ f d = some z := by
  obtain ⟨v, d, a, b, c, e⟩ := r1 h e
  exact ⟨v, d, a, c, e⟩
theorem bi2_ok {f : D → D → Option D} : ∀ {vs : List V} {ds : List D} {K : PySem.W.Frag} {z : D}, RepL K im H vs ds → bi2 f ds = some z → ∃ v w d e, vs = [v, w] ∧ Rep K im H v d ∧ Rep K im H w e ∧ f d e = some z
  | _, [], _, _, _, e => by simp [bi2] at e
  | _, [d], _, _, _, e => by simp [bi2] at e
  | _, [d, e], _, _, h, q => by
    cases h with
    | cons h1 h2 => cases h2 with | cons h2 h3 => cases h3; exact ⟨_, _, _, _, rfl, h1, h2, q⟩
  | _, _ :: _ :: _ :: _, _, _, _, e => by simp [bi2] at e
theorem call_lenDD : CallR X (.builtin "len") (rDN X.K im (un1 lenD)) := by
  intro pins s σ H xs us Q I r h
  obtain ⟨ds, z, hd, hz, q⟩ := h
  obtain ⟨v, d, rfl, hd, hz⟩ := un1_ok hd hz
  cases hd with
  | @tup a vs ds h1 h2 =>
    simp [lenD] at hz; subst hz
    have l := h2.length
    exact call_len_seq pins s σ H _ us Q I r ⟨a, vs, rfl, .inr h1, by rw [l]; exact q _ _ (Same.refl _) (.int _)⟩
  | @lst a vs ds h1 h2 =>
    simp [lenD] at hz; subst hz
    have l := h2.length
    exact call_len_seq pins s σ H _ us Q I r ⟨a, vs, rfl, .inl h1.l, by rw [l]; exact q _ _ (Same.refl _) (.int _)⟩
  | str w =>
    simp only [lenD, Option.ite_none_right_eq_some] at hz
    obtain ⟨hl, hz⟩ := hz
    cases hz
    exact call_len_str pins s σ H _ us Q I r ⟨w, rfl, hl, q _ _ (Same.refl _) (.int _)⟩
  | _ => simp [lenD] at hz
theorem call_tupleDD : CallR X (.type "tuple") (rDN X.K im (un1 tupleD)) := by
  intro pins s σ H xs us Q I r h
  obtain ⟨ds, z, hd, hz, q⟩ := h
  obtain ⟨v, d, rfl, hd, hz⟩ := un1_ok hd hz
  cases hd with
  | @tup a vs ds h1 h2 =>
    simp [tupleD] at hz; subst hz
    exact call_tuple_of pins s σ H _ us Q I r ⟨a, vs, rfl, .inr ⟨h1, q _ _ (Same.refl _) (.tup h1 h2)⟩⟩
  | @lst a vs ds h1 h2 =>
    simp [tupleD] at hz; subst hz
    exact call_tuple_of pins s σ H _ us Q I r ⟨a, vs, rfl, .inl ⟨h1.l, fun p hp => newT_ hp h2 q⟩⟩
  | _ => simp [tupleD] at hz
theorem call_intDD : CallR X (.type "int") (rDN X.K im (un1 intD)) := by
  intro pins s σ H xs us Q I r h
  obtain ⟨ds, z, hd, hz, q⟩ := h
  obtain ⟨v, d, rfl, hd, hz⟩ := un1_ok hd hz
  cases hd <;> simp [intD] at hz <;> subst hz
  · exact call_int1 pins s σ H _ us Q I r (.inr ⟨_, rfl, q _ _ (Same.refl _) (.int _)⟩)
  · exact call_int1 pins s σ H _ us Q I r (.inl ⟨_, rfl, q _ _ (Same.refl _) (.int _)⟩)
theorem call_max2DD (hc : X.calm = true) : CallR X (.builtin "max") (rDN X.K im (bi2 max2D)) := by
  intro pins s σ H xs us Q I r h
  obtain ⟨ds, z, hd, hz, q⟩ := h
  obtain ⟨v, w, d, e, rfl, hd, he, hz⟩ := bi2_ok hd hz
  cases hd <;> cases he <;> simp [max2D] at hz
  subst hz
  exact call_max2 hc pins s σ H _ us Q I r ⟨_, _, rfl, q _ _ (Same.refl _) (.int _)⟩
theorem call_min2DD (hc : X.calm = true) : CallR X (.builtin "min") (rDN X.K im (bi2 min2D)) := by
  intro pins s σ H xs us Q I r h
  obtain ⟨ds, z, hd, hz, q⟩ := h
  obtain ⟨v, w, d, e, rfl, hd, he, hz⟩ := bi2_ok hd hz
  cases hd <;> cases he <;> simp [min2D] at hz
  subst hz
  exact call_min2 hc pins s σ H _ us Q I r ⟨_, _, rfl, q _ _ (Same.refl _) (.int _)⟩
end
end DL
namespace DL
open PySem PySem.Spec PyProof.Rows L2
structure Exn where
  cls : Addr
  fs : List Str
  ds : List D
inductive R (Ω α : Type) where
  | ok (a : α) (ω : Ω)
  | ex (x : Exn) (ω : Ω)
  | no
def R.bind {Ω α β : Type} (r : R Ω α) (f : α → Ω → R Ω β) : R Ω β := match r with
  | .ok a ω => f a ω
  | .ex x ω => .ex x ω
  | .no => .no
def R.ofO {Ω α : Type} (o : Option α) (ω : Ω) : R Ω α := match o with
  | some a => .ok a ω
  | none => .no
@[simp] theorem R.bind_ok {Ω α β : Type} (a : α) (ω : Ω) (f : α → Ω → R Ω β) : (R.ok a ω).bind f = f a ω := rfl
@[simp] theorem R.bind_ex {Ω α β : Type} (x : Exn) (ω : Ω) (f : α → Ω → R Ω β) : (R.ex x ω).bind f = .ex x ω := rfl
@[simp] theorem R.bind_no {Ω α β : Type} (f : α → Ω → R Ω β) : (R.no : R Ω α).bind f = .no := rfl
@[simp] theorem R.ofO_some {Ω α : Type} (a : α) (ω : Ω) : R.ofO (some a) ω = .ok a ω := rfl
@[simp] theorem R.ofO_none {Ω α : Type} (ω : Ω) : (R.ofO none ω : R Ω α) = .no := rfl
/-- a list, a dict by ints and texts, a dict by tuples of such -/
inductive OKd where
  | L
  | K (ks : List Key)
  | T (ks : List (List Key))
def OKd.ho : OKd → List V → HO
  | .L, vs => .lst vs
  | .K ks, vs => .dK (ks.zip vs)
  | .T ks, vs => .dT (ks.zip vs)
def OKd.len : OKd → Nat → Prop
  | .L, _ => True
  | .K ks, n => ks.length = n
  | .T ks, n => ks.length = n
inductive Cell where
  | d (x : D)
  | ow (k : OKd) (xs : List D)
  | src
abbrev Tau := List (Option Cell)
/-- the one thing that a def is handed and may change: what it is, where it lies -/
structure Gam (im : Addr → Bool) (Ω : Type) where
  At : Ω → Hp → Prop
  FP : Addr → Prop
  obj : V
  keep : ∀ {ω : Ω} {H H' : Hp}, At ω H → (∀ b o, FP b → H b = some o → H' b = some o) → Sb im H H' → At ω H'
  nost : ∀ {ω : Ω} {H : Hp}, At ω H → ∀ b o, FP b → H b = some o → ¬ stb im o
  trk : ∀ {ω : Ω} {H : Hp}, At ω H → ∀ b, FP b → H b ≠ none
/-- nothing -/
def gam0 (im : Addr → Bool) : Gam im Unit where
  At := fun _ _ => True
  FP := fun _ => False
  obj := .non
  keep := fun _ _ _ => trivial
  nost := fun _ _ _ h => h.elim
  trk := fun _ _ h => h.elim
section
variable {im : Addr → Bool} {Ω : Type} (G : Gam im Ω)
def Kp (H H' : Hp) : Prop := ∀ b o, H b = some o → ¬ G.FP b → H' b = some o
variable {G} {H H1 H2 H' : Hp} {ω : Ω}
theorem Kp.refl : Kp G H H := fun _ _ h _ => h
theorem Kp.trans (a : Kp G H H1) (b : Kp G H1 H2) : Kp G H H2 := fun c o e n => b c o (a c o e n) n
theorem Kp.of (a : Same H H1) : Kp G H H1 := fun c o e _ => a c o e
theorem Kp.sb (a : Kp G H H1) (t : G.At ω H) : Sb im H H1 := fun b o e s => a b o e fun f => G.nost t b o f e s
theorem At.same (t : G.At ω H) (a : Same H H1) : G.At ω H1 := G.keep t (fun b o _ e => a b o e) (.of a)
variable (G) (K : PySem.W.Frag)
inductive SlotOk (H0 H : Hp) : Option V → Option Cell → Prop
  | un {v : Option V} : SlotOk H0 H v none
  | d {v : V} {x : D} : Rep K im H v x → SlotOk H0 H (some v) (some (.d x))
  | ow {l : Addr} {k : OKd} {vs : List V} {xs : List D} : H l = some (k.ho vs) → RepL K im H vs xs → H0 l = none → ¬ G.FP l → k.len xs.length → SlotOk H0 H (some (.ref l)) (some (.ow k xs))
  | src : SlotOk H0 H (some G.obj) (some .src)
structure STT (H0 H : Hp) (σ : L2.St) (τ : Tau) : Prop where
  len : σ.length = τ.length
  ok : ∀ (i : Nat) (v : Option V) (c : Option Cell), σ[i]? = some v → τ[i]? = some c → SlotOk G K H0 H v c
  dj : ∀ (i j : Nat) (l : Addr) {k k' : OKd} (xs ys : List D), i ≠ j → σ[i]? = some (some (.ref l)) → τ[i]? = some (some (.ow k xs)) → σ[j]? = some (some (.ref l)) → τ[j]? = some (some (.ow k' ys)) → False
  fr : Kp G H0 H
variable {G} {K}
variable {H0 : Hp} {σ : L2.St} {τ : Tau}
theorem SlotOk.step {v : Option V} {c : Option Cell} (s : SlotOk G K H0 H v c) (t : G.At ω H) (k : Kp G H H') : SlotOk G K H0 H' v c := by
  cases s with
  | un => exact .un
  | d r => exact .d (r.up (k.sb t))
  | ow h1 h2 h3 h4 h5 => exact .ow (k _ _ h1 h4) (h2.up (k.sb t)) h3 h4 h5
  | src => exact .src
theorem STT.step (s : STT G K H0 H σ τ) (t : G.At ω H) (k : Kp G H H') : STT G K H0 H' σ τ :=
  ⟨s.len, fun i v c e1 e2 => (s.ok i v c e1 e2).step t k, s.dj, s.fr.trans k⟩
theorem STT.slot (s : STT G K H0 H σ τ) {i : Nat} {c : Cell} (h : τ[i]? = some (some c)) : ∃ v, σ[i]? = some v ∧ SlotOk G K H0 H v (some c) := by
  have hi : i < σ.length := by rw [s.len]; exact (List.getElem?_eq_some_iff.mp h).1
  exact ⟨σ[i], List.getElem?_eq_getElem hi, s.ok i _ _ (List.getElem?_eq_getElem hi) h⟩
theorem STT.get (s : STT G K H0 H σ τ) {i : Nat} {x : D} (h : τ[i]? = some (some (.d x))) : ∃ v, σ[i]? = some (some v) ∧ Rep K im H v x := by
  obtain ⟨v, e, k⟩ := s.slot h
  cases k with
  | d r => exact ⟨_, e, r⟩
theorem STT.getW (s : STT G K H0 H σ τ) {i : Nat} {k : OKd} {xs : List D} (h : τ[i]? = some (some (.ow k xs))) : ∃ l vs, σ[i]? = some (some (.ref l)) ∧ H l = some (k.ho vs) ∧ RepL K im H vs xs ∧ H0 l = none ∧ ¬ G.FP l ∧ k.len xs.length := by
  obtain ⟨v, e, k⟩ := s.slot h
  cases k with
  | ow h1 h2 h3 h4 h5 => exact ⟨_, _, e, h1, h2, h3, h4, h5⟩
theorem STT.getO (s : STT G K H0 H σ τ) {i : Nat} {xs : List D} (h : τ[i]? = some (some (.ow .L xs))) : ∃ l vs, σ[i]? = some (some (.ref l)) ∧ H l = some (.lst vs) ∧ RepL K im H vs xs ∧ H0 l = none ∧ ¬ G.FP l := by
  obtain ⟨l, vs, h1, h2, h3, h4, h5, _⟩ := s.getW h
  exact ⟨l, vs, h1, h2, h3, h4, h5⟩
theorem STT.getS (s : STT G K H0 H σ τ) {i : Nat} (h : τ[i]? = some (some .src)) : σ[i]? = some (some G.obj) := by
  obtain ⟨v, e, k⟩ := s.slot h
  cases k with
  | src => exact e
theorem STT.setD (s : STT G K H0 H σ τ) {v : V} {x : D} (r : Rep K im H v x) (i : Nat) : STT G K H0 H (σ.set i (some v)) (τ.set i (some (.d x))) := by
  refine ⟨by simp [s.len], fun j w c e1 e2 => ?_, fun j k l _ _ xs ys hjk e1 e2 e3 e4 => ?_, s.fr⟩
  · by_cases hj : i = j
    · subst hj
      have hi : i < σ.length := by simpa using (List.getElem?_eq_some_iff.mp e1).1
      rw [List.getElem?_set_self hi] at e1
      rw [List.getElem?_set_self (by rw [← s.len]; exact hi)] at e2
      cases e1; cases e2
      exact .d r
    · rw [List.getElem?_set_ne hj] at e1 e2
      exact s.ok j w c e1 e2
  · have a : i ≠ j := fun q => by
      subst q
      have hi : i < τ.length := by simpa using (List.getElem?_eq_some_iff.mp e2).1
      rw [List.getElem?_set_self hi] at e2
      cases e2
    have b : i ≠ k := fun q => by
      subst q
      have hi : i < τ.length := by simpa using (List.getElem?_eq_some_iff.mp e4).1
      rw [List.getElem?_set_self hi] at e4
      cases e4
    rw [List.getElem?_set_ne a] at e1 e2
    rw [List.getElem?_set_ne b] at e3 e4
    exact s.dj j k l xs ys hjk e1 e2 e3 e4
/-- a new owned list -/
theorem STT.setW (s : STT G K H0 H σ τ) (t : G.At ω H) {p : Addr} {kd : OKd} {vs : List V} {xs : List D} (hp : H p = none) (k : Kp G H H') (h : H' p = some (kd.ho vs)) (r : RepL K im H' vs xs) (hlen : kd.len xs.length) (i : Nat) :
    STT G K H0 H' (σ.set i (some (.ref p))) (τ.set i (some (.ow kd xs))) := by
  have nf : ¬ G.FP p := fun f => G.trk t p f hp
  have h0 : H0 p = none := by
    cases e : H0 p with
    | none => rfl
    | some o => have := s.fr p o e nf; rw [hp] at this; cases this
  have s' := s.step t k
  have nw : ∀ (j : Nat) {k : OKd} (ys : List D), τ[j]? = some (some (.ow k ys)) → σ[j]? ≠ some (some (.ref p)) := fun j k ys e q => by
    obtain ⟨l, ws, e1, e2, _⟩ := s.getW e
    rw [e1] at q
    cases q
    rw [hp] at e2; cases e2
  refine ⟨by simp [s.len], fun j w c e1 e2 => ?_, fun j k l _ _ ys zs hjk e1 e2 e3 e4 => ?_, s'.fr⟩
  · by_cases hj : i = j
    · subst hj
      have hi : i < σ.length := by simpa using (List.getElem?_eq_some_iff.mp e1).1
      rw [List.getElem?_set_self hi] at e1
      rw [List.getElem?_set_self (by rw [← s.len]; exact hi)] at e2
      cases e1; cases e2
      exact .ow h r h0 nf hlen
    · rw [List.getElem?_set_ne hj] at e1 e2
      exact s'.ok j w c e1 e2
  · by_cases a : i = j
    · subst a
      have hi : i < σ.length := by simpa using (List.getElem?_eq_some_iff.mp e1).1
      rw [List.getElem?_set_self hi] at e1
      cases e1
      rw [List.getElem?_set_ne hjk] at e3 e4
      exact nw k zs e4 e3
    · by_cases b : i = k
      · subst b
        have hi : i < σ.length := by simpa using (List.getElem?_eq_some_iff.mp e3).1
        rw [List.getElem?_set_self hi] at e3
        cases e3
        rw [List.getElem?_set_ne a] at e1 e2
        exact nw j ys e2 e1
      · rw [List.getElem?_set_ne a] at e1 e2
        rw [List.getElem?_set_ne b] at e3 e4
        exact s.dj j k l ys zs hjk e1 e2 e3 e4
/-- an owned list is changed -/
theorem OKd.nst {k : OKd} {vs : List V} : ¬ stb im (k.ho vs) := by cases k <;> exact id
theorem STT.mutW (s : STT G K H0 H σ τ) (t : G.At ω H) {i : Nat} {l : Addr} {kd kd' : OKd} {vs : List V} {xs ys : List D} (h : τ[i]? = some (some (.ow kd xs))) (e : σ[i]? = some (some (.ref l)))
    (r : RepL K im H vs ys) (hlen : kd'.len ys.length) : STT G K H0 (upd H l (kd'.ho vs)) σ (τ.set i (some (.ow kd' ys))) ∧ G.At ω (upd H l (kd'.ho vs)) ∧ Sb im H (upd H l (kd'.ho vs)) := by
  obtain ⟨l', ws', e', h1, h2, h3, h4, h5⟩ := s.getW h
  have el : l' = l := by rw [e] at e'; cases e'; rfl
  subst el
  have sb : Sb im H (upd H l' (kd'.ho vs)) := fun b o eb st => by
    have : b ≠ l' := fun q => by subst q; rw [h1] at eb; cases eb; exact OKd.nst st
    rw [upd_ne this]; exact eb
  have at' : G.At ω (upd H l' (kd'.ho vs)) := G.keep t (fun b o f eb => by
    have : b ≠ l' := fun q => h4 (q ▸ f)
    rw [upd_ne this]; exact eb) sb
  refine ⟨⟨by simp [s.len], fun j w c e1 e2 => ?_, fun j k a _ _ xs' zs hjk e1 e2 e3 e4 => ?_, fun b o eb nf => ?_⟩, at', sb⟩
  · by_cases hj : i = j
    · subst hj
      have hi : i < τ.length := (List.getElem?_eq_some_iff.mp h).1
      rw [List.getElem?_set_self hi] at e2
      cases e2
      rw [e] at e1; cases e1
      exact .ow upd_same (r.up sb) h3 h4 hlen
    · rw [List.getElem?_set_ne hj] at e2
      have q := s.ok j w c e1 e2
      cases q with
      | un => exact .un
      | d r => exact .d (r.up sb)
      | @ow l2 k2 vs2 xs2 a1 a2 a3 a4 a5 =>
        have ne : l2 ≠ l' := fun q => by
          subst q
          exact s.dj i j l2 _ _ hj e h e1 e2
        exact .ow (by rw [upd_ne ne]; exact a1) (a2.up sb) a3 a4 a5
      | src => exact .src
  · have a1 : ∃ k2 xs2, τ[j]? = some (some (.ow k2 xs2)) := by
      by_cases hj : i = j
      · subst hj; exact ⟨_, _, h⟩
      · rw [List.getElem?_set_ne hj] at e2; exact ⟨_, _, e2⟩
    have a2 : ∃ k2 xs2, τ[k]? = some (some (.ow k2 xs2)) := by
      by_cases hj : i = k
      · subst hj; exact ⟨_, _, h⟩
      · rw [List.getElem?_set_ne hj] at e4; exact ⟨_, _, e4⟩
    obtain ⟨_, _, a1⟩ := a1
    obtain ⟨_, _, a2⟩ := a2
    exact s.dj j k a _ _ hjk e1 a1 e3 a2
  · have k := s.fr b o eb nf
    have : b ≠ l' := fun q => by subst q; rw [h3] at eb; cases eb
    rw [upd_ne this]; exact k
theorem STT.setO (s : STT G K H0 H σ τ) (t : G.At ω H) {p : Addr} {vs : List V} {xs : List D} (hp : H p = none) (k : Kp G H H') (h : H' p = some (.lst vs)) (r : RepL K im H' vs xs) (i : Nat) :
    STT G K H0 H' (σ.set i (some (.ref p))) (τ.set i (some (.ow .L xs))) := s.setW (kd := .L) t hp k h r trivial i
theorem STT.mutO (s : STT G K H0 H σ τ) (t : G.At ω H) {i : Nat} {l : Addr} {vs : List V} {xs ys : List D} (h : τ[i]? = some (some (.ow .L xs))) (e : σ[i]? = some (some (.ref l))) (hl : ∃ ws, H l = some (.lst ws))
    (r : RepL K im H vs ys) : STT G K H0 (upd H l (.lst vs)) σ (τ.set i (some (.ow .L ys))) ∧ G.At ω (upd H l (.lst vs)) ∧ Sb im H (upd H l (.lst vs)) := s.mutW (kd' := .L) t h e r trivial
end
section
variable (K : PySem.W.Frag) (im : Addr → Bool)
def ExRep (H : Hp) (cls : Value) (dd : Option Addr) (x : Exn) : Prop :=
  cls = .ref x.cls ∧ ((x.fs = [] ∧ dd = none) ∨ ∃ (d : Addr) (vs : List V), dd = some d ∧ H d = some (.xd (x.fs.zip vs)) ∧ x.fs.length = vs.length ∧ RepL K im H vs x.ds)
end
section
variable {im : Addr → Bool} {Ω : Type} (G : Gam im Ω) (K : PySem.W.Frag)
def Res {α : Type} (r : R Ω α) (H : Hp) (k : α → Ω → Hp → Prop) (kx : Exn → Ω → Hp → Prop) : Prop := match r with
  | .ok a ω => ∀ H', Kp G H H' → G.At ω H' → k a ω H'
  | .ex x ω => ∀ H', Kp G H H' → G.At ω H' → kx x ω H'
  | .no => False
abbrev E (Ω α : Type) := Tau → Ω → R Ω α
def kX (G : Gam im Ω) (K : PySem.W.Frag) (W : WX) (σ : L2.St) : Exn → Ω → Hp → Prop := fun x _ H' => ∀ cls dd, ExRep K im H' cls dd x → W cls dd σ H'
def kD (G : Gam im Ω) (K : PySem.W.Frag) (Q : VK) : D → Ω → Hp → Prop := fun d _ H' => ∀ v, Rep K im H' v d → Q v H'
def kL (G : Gam im Ω) (K : PySem.W.Frag) (Q : List V → Hp → Prop) : List D → Ω → Hp → Prop := fun ds _ H' => ∀ vs, RepL K im H' vs ds → Q vs H'
def DE (W : WX) (te : TE) (F : E Ω D) : Prop := ∀ H0 σ H ω τ, STT G K H0 H σ τ → G.At ω H → ∀ Q : VK, Res G (F τ ω) H (kD G K Q) (kX G K W σ) → te σ H Q
def DT (W : WX) (tt : TT) (F : E Ω Bool) : Prop := ∀ H0 σ H ω τ, STT G K H0 H σ τ → G.At ω H → ∀ Q : Bool → Hp → Prop, Res G (F τ ω) H (fun b _ H' => Q b H') (kX G K W σ) → tt σ H Q
def DA (W : WX) (ta : TA) (F : E Ω (List D)) : Prop := ∀ H0 σ H ω τ, STT G K H0 H σ τ → G.At ω H → ∀ Q : List V → Hp → Prop, Res G (F τ ω) H (kL G K Q) (kX G K W σ) → ta σ H Q
def DO (W : WX) (to : TO) (F : E Ω (Option Int)) : Prop := ∀ H0 σ H ω τ, STT G K H0 H σ τ → G.At ω H → ∀ Q : Option Int → Hp → Prop, Res G (F τ ω) H (fun b _ H' => Q b H') (kX G K W σ) → to σ H Q
/-- a new list, not finished yet -/
def DL (W : WX) (te : TE) (F : E Ω (List D)) : Prop := ∀ H0 σ H ω τ, STT G K H0 H σ τ → G.At ω H → ∀ Q : VK, Res G (F τ ω) H (fun ds _ H' => ∀ p vs, H p = none → H' p = some (.lst vs) → RepL K im H' vs ds → Q (.ref p) H') (kX G K W σ) → te σ H Q
variable {G} {K}
theorem Res.mono {α : Type} {r : R Ω α} {H H1 : Hp} {k : α → Ω → Hp → Prop} {kx : Exn → Ω → Hp → Prop} (h : Res G r H k kx) (a : Kp G H H1) : Res G r H1 k kx := by
  cases r with
  | ok x ω => exact fun H' b t => h H' (a.trans b) t
  | ex x ω => exact fun H' b t => h H' (a.trans b) t
  | no => exact h
theorem Res.imp {α : Type} {r : R Ω α} {H : Hp} {k k' : α → Ω → Hp → Prop} {kx kx' : Exn → Ω → Hp → Prop} (h : Res G r H k kx) (f : ∀ a ω H', Kp G H H' → G.At ω H' → k a ω H' → k' a ω H') (g : ∀ x ω H', Kp G H H' → G.At ω H' → kx x ω H' → kx' x ω H') : Res G r H k' kx' := by
  cases r with
  | ok x ω => exact fun H' b t => f x ω H' b t (h H' b t)
  | ex x ω => exact fun H' b t => g x ω H' b t (h H' b t)
  | no => exact h
theorem Res.bind {α β : Type} {r : R Ω α} {f : α → Ω → R Ω β} {H : Hp} {k : β → Ω → Hp → Prop} {kx : Exn → Ω → Hp → Prop} (h : Res G (r.bind f) H k kx) : Res G r H (fun a ω1 _ => Res G (f a ω1) H k kx) kx := by
  cases r with
  | ok x ω => exact fun H' b t => h
  | ex x ω => exact h
  | no => exact h
end
section
variable {im : Addr → Bool} {Ω : Type} {G : Gam im Ω} {K : PySem.W.Frag} {W : WX} {ta tb te : TE} {Fa Fb : E Ω D}
def eVar (i : Nat) : E Ω D := fun τ ω => match τ[i]? with
  | some (some (.d x)) => .ok x ω
  | _ => .no
def eC (d : D) : E Ω D := fun _ ω => .ok d ω
def eOp (f : D → D → Option D) (a b : E Ω D) : E Ω D := fun τ ω => (a τ ω).bind fun x ω1 => (b τ ω1).bind fun y ω2 => .ofO (f x y) ω2
def eUn (f : D → Option D) (a : E Ω D) : E Ω D := fun τ ω => (a τ ω).bind fun x ω1 => .ofO (f x) ω1
def eCall (f : List D → Option D) (a : E Ω (List D)) : E Ω D := fun τ ω => (a τ ω).bind fun x ω1 => .ofO (f x) ω1
def aNil : E Ω (List D) := fun _ ω => .ok [] ω
def aCons (a : E Ω D) (r : E Ω (List D)) : E Ω (List D) := fun τ ω => (a τ ω).bind fun x ω1 => (r τ ω1).bind fun xs ω2 => .ok (x :: xs) ω2
def eTup (a : E Ω (List D)) : E Ω D := fun τ ω => (a τ ω).bind fun xs ω1 => if xs.length ≤ 1000 then .ok (.tup xs) ω1 else .no
def eLst (a : E Ω (List D)) : E Ω (List D) := fun τ ω => (a τ ω).bind fun xs ω1 => if xs.length ≤ 1000 then .ok xs ω1 else .no
def eFrz (a : E Ω (List D)) : E Ω D := fun τ ω => (a τ ω).bind fun xs ω1 => .ok (.lst xs) ω1
theorem de_var (i : Nat) : DE G K W (tVar i) (eVar i) := by
  intro H0 σ H ω τ s t Q h
  unfold eVar at h
  split at h
  · rename_i x hx
    obtain ⟨v, e, r⟩ := s.get hx
    exact ⟨v, e, h H .refl t v r⟩
  · exact h.elim
theorem de_c {v : V} {d : D} (r : ∀ H, Rep K im H v d) : DE G K W (tC v) (eC d) := fun H0 σ H ω τ s t Q h => h H .refl t v (r H)
theorem de_int {i : Int} : DE G K W (tC (.int i)) (eC (.int i)) := de_c fun _ => .int i
theorem de_str {x : Str} : DE G K W (tC (.str x)) (eC (.str x)) := de_c fun _ => .str x
theorem de_bl {b : Bool} : DE G K W (tC (.bl b)) (eC (.bl b)) := de_c fun _ => .bl b
theorem de_non : DE G K W (tC .non) (eC .non) := de_c fun _ => .non
/-- a written tuple of the module -/
theorem de_op {f : D → D → Option D} (ha : DE G K W ta Fa) (hb : DE G K W tb Fb) : DE G K W (tOp (rD2 K im f) ta tb) (eOp f Fa Fb) := by
  intro H0 σ H ω τ s t Q h
  refine ha H0 σ H ω τ s t _ (Res.imp (Res.bind h) (fun x ω1 H1 k1 t1 h1 v r => ?_) fun _ _ _ _ _ q => q)
  refine hb H0 σ H1 ω1 τ (s.step t k1) t1 _ (Res.imp (Res.bind (h1.mono k1)) (fun y ω2 H2 k2 t2 h2 w r2 => ?_) fun _ _ _ _ _ q => q)
  have h3 := (h2.mono k2)
  cases e : f x y with
  | none => rw [e] at h3; exact h3.elim
  | some z =>
    rw [e] at h3
    exact ⟨x, y, z, r.up (k2.sb t1), r2, e, fun v H' sm rv => h3 H' (.of sm) (At.same t2 sm) v rv⟩
theorem da_nil : DA G K W tNil aNil := fun H0 σ H ω τ s t Q h => h H .refl t [] .nil
theorem da_cons {tr : TA} {Fr : E Ω (List D)} (ha : DE G K W ta Fa) (hr : DA G K W tr Fr) : DA G K W (tCons ta tr) (aCons Fa Fr) := by
  intro H0 σ H ω τ s t Q h
  refine ha H0 σ H ω τ s t _ (Res.imp (Res.bind h) (fun x ω1 H1 k1 t1 h1 v r => ?_) fun _ _ _ _ _ q => q)
  refine hr H0 σ H1 ω1 τ (s.step t k1) t1 _ (Res.imp (Res.bind (h1.mono k1)) (fun ys ω2 H2 k2 t2 h2 ws r2 => ?_) fun _ _ _ _ _ q => q)
  exact (h2.mono k2) H2 .refl t2 _ (.cons (r.up (k2.sb t1)) r2)
theorem de_callN {f : List D → Option D} {tr : TA} {Fr : E Ω (List D)} (hr : DA G K W tr Fr) : DE G K W (tCB (rDN K im f) tr) (eCall f Fr) := by
  intro H0 σ H ω τ s t Q h
  refine hr H0 σ H ω τ s t _ (Res.imp (Res.bind h) (fun xs ω1 H1 k1 t1 h1 vs r => ?_) fun _ _ _ _ _ q => q)
  have h3 := h1.mono k1
  cases e : f xs with
  | none => rw [e] at h3; exact h3.elim
  | some z =>
    rw [e] at h3
    exact ⟨xs, z, r, e, fun v H' sm rv => h3 H' (.of sm) (At.same t1 sm) v rv⟩
theorem line1000 {n : Nat} (h : n ≤ 1000) : n ≤ sizeLine := Nat.le_of_lt (small1000 h)
theorem de_tup {tr : TA} {Fr : E Ω (List D)} (hr : DA G K W tr Fr) : DE G K W (tTup tr) (eTup Fr) := by
  intro H0 σ H ω τ s t Q h
  refine hr H0 σ H ω τ s t _ (Res.imp (Res.bind h) (fun xs ω1 H1 k1 t1 h1 vs r => ?_) fun _ _ _ _ _ q => q)
  have h3 := h1.mono k1
  split at h3
  · rename_i hl
    refine ⟨by rw [r.length]; exact line1000 hl, fun p hp => ?_⟩
    have sm : Same H1 (upd H1 p (.tup vs)) := Same.new hp
    exact h3 _ (.of sm) (At.same t1 sm) _ (.tup upd_same (r.up (.of sm)))
  · exact h3.elim
theorem dl_lst {tr : TA} {Fr : E Ω (List D)} (hr : DA G K W tr Fr) : DL G K W (tLst tr) (eLst Fr) := by
  intro H0 σ H ω τ s t Q h
  refine hr H0 σ H ω τ s t _ (Res.imp (Res.bind h) (fun xs ω1 H1 k1 t1 h1 vs r => ?_) fun _ _ _ _ _ q => q)
  have h3 := h1.mono k1
  split at h3
  · rename_i hl
    refine ⟨by rw [r.length]; exact line1000 hl, fun p hp => ?_⟩
    have sm : Same H1 (upd H1 p (.lst vs)) := Same.new hp
    have hp0 : H p = none := by
      cases e : H p with
      | none => rfl
      | some o =>
        by_cases f : G.FP p
        · exact absurd hp (G.trk t1 p f)
        · have := k1 p o e f; rw [hp] at this; cases this
    exact h3 _ (.of sm) (At.same t1 sm) _ _ hp0 upd_same (r.up (.of sm))
  · exact h3.elim
theorem de_frz {Fl : E Ω (List D)} (hl : DL G K W te Fl) : DE G K W (tFrz te) (eFrz Fl) := by
  intro H0 σ H ω τ s t Q h
  refine hl H0 σ H ω τ s t _ (Res.imp (Res.bind h) (fun xs ω1 H1 k1 t1 h1 p vs hp h2 r => ?_) fun _ _ _ _ _ q => q)
  refine ⟨p, vs, rfl, h2, fun o => ?_⟩
  have nf : ¬ G.FP p := fun f => G.trk t p f hp
  have sb : Sb im H1 (upd H1 p (.frz o (.lst vs))) := fun b u eb st => by
    have : b ≠ p := fun q => by subst q; rw [h2] at eb; cases eb; exact st
    rw [upd_ne this]; exact eb
  have at' : G.At ω1 (upd H1 p (.frz o (.lst vs))) := G.keep t1 (fun b u f eb => by
    have : b ≠ p := fun q => nf (q ▸ f)
    rw [upd_ne this]; exact eb) sb
  exact h1 _ (fun b u eb nfb => by
    have : b ≠ p := fun q => by subst q; rw [hp] at eb; cases eb
    rw [upd_ne this]; exact k1 b u eb nfb) at' _ (.lst ⟨o, upd_same⟩ (r.up sb))
end
end DL
namespace DL
open PySem PySem.Spec PyProof.Rows L2
section
variable {im : Addr → Bool} {Ω : Type} {G : Gam im Ω} {K : PySem.W.Frag} {W : WX} {ta tb te : TE} {Fa Fb : E Ω D} {t u : TT} {Ft Fu : E Ω Bool}
def D.bool : D → Option Bool
  | .bl b => some b
  | _ => none
def eB (a : E Ω D) : E Ω Bool := fun τ ω => (a τ ω).bind fun x ω1 => .ofO x.bool ω1
def bAnd (a b : E Ω Bool) : E Ω Bool := fun τ ω => (a τ ω).bind fun x ω1 => if x then b τ ω1 else .ok false ω1
def bOr (a b : E Ω Bool) : E Ω Bool := fun τ ω => (a τ ω).bind fun x ω1 => if x then .ok true ω1 else b τ ω1
def bNot (a : E Ω Bool) : E Ω Bool := fun τ ω => (a τ ω).bind fun x ω1 => .ok (!x) ω1
def bYes : E Ω Bool := fun _ ω => .ok true ω
def eIf (c : E Ω Bool) (a b : E Ω D) : E Ω D := fun τ ω => (c τ ω).bind fun x ω1 => if x then a τ ω1 else b τ ω1
def eAnd (a b : E Ω D) : E Ω D := fun τ ω => (a τ ω).bind fun x ω1 => match x with
  | .bl true => b τ ω1
  | .bl false => .ok (.bl false) ω1
  | _ => .no
def eNot (a : E Ω D) : E Ω D := fun τ ω => (a τ ω).bind fun x ω1 => match x with
  | .bl b => .ok (.bl (!b)) ω1
  | _ => .no
theorem bool_rep {H : Hp} {x : D} {b : Bool} {v : V} (r : Rep K im H v x) (e : x.bool = some b) : v = .bl b := by
  cases r <;> simp [D.bool] at e
  subst e; rfl
theorem dt_B (ha : DE G K W ta Fa) : DT G K W (tB ta) (eB Fa) := by
  intro H0 σ H ω τ s t Q h
  refine ha H0 σ H ω τ s t _ (Res.imp (Res.bind h) (fun x ω1 H1 k1 t1 h1 v r => ?_) fun _ _ _ _ _ q => q)
  cases e : x.bool with
  | none => rw [e] at h1; exact h1.elim
  | some b => rw [e] at h1; exact ⟨b, bool_rep r e, h1 H1 k1 t1⟩
theorem dt_test (ha : DE G K W ta Fa) : DT G K W (tTest ta) (eB Fa) := dt_B ha
theorem dt_and (ha : DT G K W t Ft) (hb : DT G K W u Fu) : DT G K W (tAnd t u) (bAnd Ft Fu) := by
  intro H0 σ H ω τ s t Q h
  refine ha H0 σ H ω τ s t _ (Res.imp (Res.bind h) (fun x ω1 H1 k1 t1 h1 => ?_) fun _ _ _ _ _ q => q)
  cases x with
  | true => exact hb H0 σ H1 ω1 τ (s.step t k1) t1 _ (h1.mono k1)
  | false => exact h1 H1 k1 t1
theorem dt_or (ha : DT G K W t Ft) (hb : DT G K W u Fu) : DT G K W (tOr t u) (bOr Ft Fu) := by
  intro H0 σ H ω τ s t Q h
  refine ha H0 σ H ω τ s t _ (Res.imp (Res.bind h) (fun x ω1 H1 k1 t1 h1 => ?_) fun _ _ _ _ _ q => q)
  cases x with
  | false => exact hb H0 σ H1 ω1 τ (s.step t k1) t1 _ (h1.mono k1)
  | true => exact h1 H1 k1 t1
theorem dt_not (ha : DT G K W t Ft) : DT G K W (tNot t) (bNot Ft) := by
  intro H0 σ H ω τ s t Q h
  exact ha H0 σ H ω τ s t _ (Res.imp (Res.bind h) (fun x ω1 H1 k1 t1 h1 => h1 H1 k1 t1) fun _ _ _ _ _ q => q)
theorem dt_yes : DT G K W tYes bYes := fun H0 σ H ω τ s t Q h => h H .refl t
theorem de_if (hc : DT G K W t Ft) (ha : DE G K W ta Fa) (hb : DE G K W tb Fb) : DE G K W (tIf t ta tb) (eIf Ft Fa Fb) := by
  intro H0 σ H ω τ s t Q h
  refine hc H0 σ H ω τ s t _ (Res.imp (Res.bind h) (fun x ω1 H1 k1 t1 h1 => ?_) fun _ _ _ _ _ q => q)
  cases x with
  | true => exact ha H0 σ H1 ω1 τ (s.step t k1) t1 _ (h1.mono k1)
  | false => exact hb H0 σ H1 ω1 τ (s.step t k1) t1 _ (h1.mono k1)
theorem de_and (ha : DE G K W ta Fa) (hb : DE G K W tb Fb) : DE G K W (tAndV ta tb) (eAnd Fa Fb) := by
  intro H0 σ H ω τ s t Q h
  refine ha H0 σ H ω τ s t _ (Res.imp (Res.bind h) (fun x ω1 H1 k1 t1 h1 v r => ?_) fun _ _ _ _ _ q => q)
  cases r with
  | bl b =>
    cases b with
    | true => exact ⟨true, rfl, hb H0 σ H1 ω1 τ (s.step t k1) t1 _ (h1.mono k1)⟩
    | false => exact ⟨false, rfl, h1 H1 k1 t1 _ (.bl false)⟩
  | _ => exact h1.elim
theorem de_not (ha : DE G K W ta Fa) : DE G K W (tNotV ta) (eNot Fa) := by
  intro H0 σ H ω τ s t Q h
  refine ha H0 σ H ω τ s t _ (Res.imp (Res.bind h) (fun x ω1 H1 k1 t1 h1 v r => ?_) fun _ _ _ _ _ q => q)
  cases r with
  | bl b => exact ⟨b, rfl, h1 H1 k1 t1 _ (.bl _)⟩
  | _ => exact h1.elim
def oNone : E Ω (Option Int) := fun _ ω => .ok none ω
def D.toI : D → Option (Option Int)
  | .int i => some (some i)
  | _ => none
def oSome (a : E Ω D) : E Ω (Option Int) := fun τ ω => (a τ ω).bind fun x ω1 => .ofO x.toI ω1
def eSl (a : E Ω D) (l h : E Ω (Option Int)) : E Ω D := fun τ ω => (a τ ω).bind fun x ω1 => (l τ ω1).bind fun lo ω2 => (h τ ω2).bind fun hi ω3 => .ofO (sliceD x lo hi) ω3
theorem do_none : DO G K W tNoPart oNone := fun H0 σ H ω τ s t Q h => h H .refl t
theorem do_some (ha : DE G K W ta Fa) : DO G K W (tPart ta) (oSome Fa) := by
  intro H0 σ H ω τ s t Q h
  refine ha H0 σ H ω τ s t _ (Res.imp (Res.bind h) (fun x ω1 H1 k1 t1 h1 v r => ?_) fun _ _ _ _ _ q => q)
  cases r with
  | int i => exact ⟨i, rfl, h1 H1 k1 t1⟩
  | _ => exact h1.elim
theorem de_sl {tl th : TO} {Fl Fh : E Ω (Option Int)} (ha : DE G K W ta Fa) (hl : DO G K W tl Fl) (hh : DO G K W th Fh) : DE G K W (tSl (rSlD K im) ta tl th) (eSl Fa Fl Fh) := by
  intro H0 σ H ω τ s t Q h
  refine ha H0 σ H ω τ s t _ (Res.imp (Res.bind h) (fun x ω1 H1 k1 t1 h1 v r => ?_) fun _ _ _ _ _ q => q)
  refine hl H0 σ H1 ω1 τ (s.step t k1) t1 _ (Res.imp (Res.bind (h1.mono k1)) (fun lo ω2 H2 k2 t2 h2 => ?_) fun _ _ _ _ _ q => q)
  refine hh H0 σ H2 ω2 τ ((s.step t k1).step t1 k2) t2 _ (Res.imp (Res.bind (h2.mono k2)) (fun hi ω3 H3 k3 t3 h3 => ?_) fun _ _ _ _ _ q => q)
  have h4 := h3.mono k3
  cases e : sliceD x lo hi with
  | none => rw [e] at h4; exact h4.elim
  | some z =>
    rw [e] at h4
    exact ⟨x, z, (r.up (k2.sb t1)).up (k3.sb t2), e, fun v H' sm rv => h4 H' (.of sm) (At.same t3 sm) v rv⟩
def eChain (f g : D → D → Option D) (a b c : E Ω D) : E Ω D := fun τ ω => (a τ ω).bind fun x ω1 => (b τ ω1).bind fun y ω2 => match f x y with
  | some (.bl true) => (c τ ω2).bind fun z ω3 => .ofO (g y z) ω3
  | some (.bl false) => .ok (.bl false) ω2
  | _ => .no
theorem de_chain {f g : D → D → Option D} {tc : TE} {Fc : E Ω D} (ha : DE G K W ta Fa) (hb : DE G K W tb Fb) (hc : DE G K W tc Fc) : DE G K W (tChain (rD2 K im f) (rD2 K im g) ta tb tc) (eChain f g Fa Fb Fc) := by
  intro H0 σ H ω τ s t Q h
  refine ha H0 σ H ω τ s t _ (Res.imp (Res.bind h) (fun x ω1 H1 k1 t1 h1 v r => ?_) fun _ _ _ _ _ q => q)
  refine hb H0 σ H1 ω1 τ (s.step t k1) t1 _ (Res.imp (Res.bind (h1.mono k1)) (fun y ω2 H2 k2 t2 h2 w r2 => ?_) fun _ _ _ _ _ q => q)
  have h3 := h2.mono k2
  cases e : f x y with
  | none => rw [e] at h3; exact h3.elim
  | some z =>
    rw [e] at h3
    refine ⟨x, y, z, r.up (k2.sb t1), r2, e, fun v' H' sm rv => ?_⟩
    cases rv with
    | bl b =>
      refine ⟨b, rfl, ?_⟩
      have h4 := h3.mono (.of sm)
      have t3 := At.same t2 sm
      cases b with
      | true =>
        refine hc H0 σ H' ω2 τ (((s.step t k1).step t1 k2).step t2 (.of sm)) t3 _ (Res.imp (Res.bind h4) (fun z' ω3 H3 k3 t4 h5 w3 r3 => ?_) fun _ _ _ _ _ q => q)
        have h6 := h5.mono k3
        cases e2 : g y z' with
        | none => rw [e2] at h6; exact h6.elim
        | some z2 =>
          rw [e2] at h6
          exact ⟨y, z', z2, (r2.up (.of sm)).up (k3.sb t3), r3, e2, fun v2 H4 sm4 rv4 => h6 H4 (.of sm4) (At.same t4 sm4) v2 rv4⟩
      | false => exact h4 H' .refl t3 _ (.bl false)
    | _ => exact h3.elim
def oLen (i : Nat) : E Ω D := fun τ ω => match τ[i]? with
  | some (some (.ow .L xs)) => .ok (.int xs.length) ω
  | _ => .no
def oIx (i : Nat) (b : E Ω D) : E Ω D := fun τ ω => match τ[i]? with
  | some (some (.ow .L xs)) => (b τ ω).bind fun y ω1 => .ofO (ixD (.lst xs) y) ω1
  | _ => .no
def oTuple (i : Nat) : E Ω D := fun τ ω => match τ[i]? with
  | some (some (.ow .L xs)) => .ok (.tup xs) ω
  | _ => .no
theorem de_oTuple {i : Nat} : DE G K W (tCB (fun xs H Q => ∃ p ys, xs = [.ref p] ∧ ((SqL K H p ys ∧ ∀ l, H l = none → Q (.ref l) (upd H l (.tup ys))) ∨ (SqT K H p ys ∧ Q (.ref p) H))) (tCons (tVar i) tNil)) (oTuple i) := by
  intro H0 σ H ω τ s t Q h
  unfold oTuple at h
  split at h
  · rename_i xs hx
    obtain ⟨l, vs, e, h1, h2, _⟩ := s.getO hx
    refine ⟨_, e, l, vs, rfl, .inl ⟨SqL.of h1, fun p hp => ?_⟩⟩
    have sm : Same H (upd H p (.tup vs)) := Same.new hp
    exact h _ (.of sm) (At.same t sm) _ (.tup upd_same (h2.up (.of sm)))
  · exact h.elim
end
section
variable {im : Addr → Bool} (K : PySem.W.Frag)
/-- a def that changes nothing -/
def spD (im : Addr → Bool) (n : Nat) (F : List D → R Unit D) : Sp := fun vs H Q Ex => vs.length = n ∧ ∃ ds, RepL K im H vs ds ∧ (match F ds with
  | .ok d _ => ∀ v H', Same H H' → Rep K im H' v d → Q v H'
  | .ex x _ => ∀ cls dd H', Same H H' → ExRep K im H' cls dd x → Ex cls dd H'
  | .no => False)
/-- a def that is handed the one thing that it may change, at place j -/
def spW {Ω P : Type} (Γ : P → Gam im Ω) (n j : Nat) (F : List D → Ω → R Ω D) : Sp := fun vs H Q Ex => vs.length = n ∧ ∃ p ω ws ds, vs = ws.take j ++ (Γ p).obj :: ws.drop j ∧ (Γ p).At ω H ∧ RepL K im H ws ds ∧
  Res (Γ p) (F ds ω) H (kD (Γ p) K Q) (fun x _ H' => ∀ cls dd, ExRep K im H' cls dd x → Ex cls dd H')
variable {K} {Ω : Type} {G : Gam im Ω} {W : WX} {ta tb te : TE} {Fa Fb : E Ω D} {tr : TA} {Fr : E Ω (List D)}
def lift {Ω α : Type} (r : R Unit α) (ω : Ω) : R Ω α := match r with
  | .ok a _ => .ok a ω
  | .ex x _ => .ex x ω
  | .no => .no
@[simp] theorem lift_ok {Ω α : Type} (a : α) (ω : Ω) (u : Unit) : lift (.ok a u) ω = .ok a ω := rfl
@[simp] theorem lift_no {Ω α : Type} (ω : Ω) : lift (.no : R Unit α) ω = .no := rfl
/-- no exception is met -/
def nox {Ω α : Type} (r : R Ω α) : R Ω α := match r with
  | .ok a ω => .ok a ω
  | _ => .no
@[simp] theorem nox_ok {Ω α : Type} (a : α) (ω : Ω) : nox (.ok a ω) = .ok a ω := rfl
@[simp] theorem nox_no {Ω α : Type} : nox (.no : R Ω α) = .no := rfl
/-- so many arguments -/
def AN {Ω : Type} (Fr : E Ω (List D)) (n : Nat) : Prop := ∀ τ ω xs ω', Fr τ ω = .ok xs ω' → xs.length = n
theorem an_nil : AN (aNil : E Ω (List D)) 0 := fun _ _ _ _ e => by cases e; rfl
theorem an_cons {n : Nat} (h : AN Fr n) : AN (aCons Fa Fr) (n + 1) := fun τ ω xs ω' e => by
  unfold aCons at e
  cases h1 : Fa τ ω with
  | ok x ω1 =>
    rw [h1] at e
    simp only [R.bind_ok] at e
    cases h2 : Fr τ ω1 with
    | ok ys ω2 =>
      rw [h2] at e
      simp only [R.bind_ok] at e
      cases e
      rw [List.length_cons, h _ _ _ _ h2]
    | ex x ω2 => rw [h2] at e; cases e
    | no => rw [h2] at e; cases e
  | ex x ω1 => rw [h1] at e; cases e
  | no => rw [h1] at e; cases e
def cD (F : List D → R Unit D) (a : E Ω (List D)) : E Ω D := fun τ ω => (a τ ω).bind fun xs ω1 => nox (lift (F xs) ω1)
def cL (F : List D → R Unit (List D)) (a : E Ω (List D)) : E Ω (List D) := fun τ ω => (a τ ω).bind fun xs ω1 => nox (lift (F xs) ω1)
theorem dc_D {n : Nat} {F : List D → R Unit D} (hr : DA G K W tr Fr) (hn : AN Fr n) : DE G K W (tCall (spD K im n F) [] E0 tr) (cD F Fr) := by
  intro H0 σ H ω τ s t Q h
  have hr' := hr H0 σ H ω τ s t
  cases e0 : Fr τ ω with
  | ok xs ω1 =>
    have hl := hn τ ω xs ω1 e0
    unfold cD at h
    rw [e0] at h hr'
    refine hr' _ fun H1 k1 t1 vs r => ?_
    have h1 : Res G (nox (lift (F xs) ω1)) H (kD G K Q) (kX G K W σ) := h
    refine ⟨by rw [List.append_nil, r.length, hl], xs, by rw [List.append_nil]; exact r, ?_⟩
    cases e : F xs with
    | ok d u =>
      rw [e] at h1
      exact fun v H' sm rv => h1 H' (k1.trans (.of sm)) (At.same t1 sm) v rv
    | ex x u => rw [e] at h1; exact h1.elim
    | no => rw [e] at h1; exact h1.elim
  | ex x ω1 =>
    unfold cD at h
    rw [e0] at h hr'
    exact hr' _ h
  | no => unfold cD at h; rw [e0] at h; exact h.elim
/-- the thing itself stands in slot i and is handed on as the first argument -/
def cW (F : List D → Ω → R Ω D) (i : Nat) (a : E Ω (List D)) : E Ω D := fun τ ω => match τ[i]? with
  | some (some .src) => (a τ ω).bind fun xs ω1 => nox (F xs ω1)
  | _ => .no
theorem dc_W {P : Type} {Γ : P → Gam im Ω} {p : P} {n m i : Nat} {F : List D → Ω → R Ω D} {tr : TA} {Fr : E Ω (List D)} (hr : DA (Γ p) K W tr Fr) (hn : AN Fr m) (hm : m + 1 = n := by rfl) :
    DE (Γ p) K W (tCall (spW K Γ n 0 F) [] E0 (tCons (tVar i) tr)) (cW F i Fr) := by
  intro H0 σ H ω τ s t Q h
  unfold cW at h
  split at h
  · rename_i hx
    refine ⟨_, s.getS hx, ?_⟩
    have hr' := hr H0 σ H ω τ s t
    cases e0 : Fr τ ω with
    | ok xs ω1 =>
      have hl := hn τ ω xs ω1 e0
      rw [e0] at h hr'
      refine hr' _ fun H1 k1 t1 vs r => ?_
      have h1 : Res (Γ p) (nox (F xs ω1)) H (kD (Γ p) K Q) (kX (Γ p) K W σ) := h
      refine ⟨by rw [List.append_nil, List.length_cons, r.length, hl, hm], p, ω1, vs, xs, by rw [List.append_nil] <;> rfl, t1, r, ?_⟩
      have h2 := h1.mono k1
      cases e : F xs ω1 with
      | ok d u => rw [e] at h2; exact h2
      | ex x u => rw [e] at h2; exact h2.elim
      | no => rw [e] at h2; exact h2.elim
    | ex x ω1 =>
      rw [e0] at h hr'
      exact hr' _ h
    | no => rw [e0] at h; exact h.elim
  · exact h.elim
end
end DL
namespace DL
open PySem PySem.Spec PyProof.Rows L2
inductive Fl where
  | nx (τ : Tau)
  | rt (d : D)
  | bk (τ : Tau)
  | ct (τ : Tau)
  | rs (x : Exn) (τ : Tau)
  | rl (ds : List D)
section
variable {im : Addr → Bool} {Ω : Type} (G : Gam im Ω) (K : PySem.W.Frag)
abbrev S (Ω : Type) := Tau → Ω → Option (Fl × Ω)
def KS (H0 H : Hp) (D : Ends) (W : WX) : Option (Fl × Ω) → Prop
  | none => False
  | some (.nx τ, ω) => ∀ σ' H', Sb im H H' → STT G K H0 H' σ' τ → G.At ω H' → D.nx σ' H'
  | some (.bk τ, ω) => ∀ σ' H', Sb im H H' → STT G K H0 H' σ' τ → G.At ω H' → D.bk σ' H'
  | some (.ct τ, ω) => ∀ σ' H', Sb im H H' → STT G K H0 H' σ' τ → G.At ω H' → D.ct σ' H'
  | some (.rt d, ω) => ∀ v H', Sb im H H' → Kp G H0 H' → G.At ω H' → Rep K im H' v d → D.rt v H'
  | some (.rs x τ, ω) => ∀ σ' H', Sb im H H' → STT G K H0 H' σ' τ → G.At ω H' → ∀ cls dd, ExRep K im H' cls dd x → W cls dd σ' H'
  | some (.rl ds, ω) => ∀ p vs H', Sb im H H' → Kp G H0 H' → G.At ω H' → H0 p = none → ¬ G.FP p → H' p = some (.lst vs) → RepL K im H' vs ds → D.rt (.ref p) H'
def DS (W : WX) (ts : TS) (F : S Ω) : Prop := ∀ H0 σ H ω τ, STT G K H0 H σ τ → G.At ω H → ∀ D, KS G K H0 H D W (F τ ω) → ts D σ H
variable {G} {K}
theorem KS.mono {H0 H H1 : Hp} {D : Ends} {W : WX} {r : Option (Fl × Ω)} (h : KS G K H0 H D W r) (s : Sb im H H1) : KS G K H0 H1 D W r := by
  rcases r with _ | ⟨fl, ω⟩
  · exact h
  · cases fl with
    | nx τ => exact fun σ' H' sb => h σ' H' (s.trans sb)
    | bk τ => exact fun σ' H' sb => h σ' H' (s.trans sb)
    | ct τ => exact fun σ' H' sb => h σ' H' (s.trans sb)
    | rt d => exact fun v H' sb => h v H' (s.trans sb)
    | rs x τ => exact fun σ' H' sb => h σ' H' (s.trans sb)
    | rl ds => exact fun p vs H' sb => h p vs H' (s.trans sb)
end
section
variable {im : Addr → Bool} {Ω : Type} {G : Gam im Ω} {K : PySem.W.Frag} {W : WX} {te : TE} {Fe : E Ω D} {Fl' : E Ω (List D)} {t u : TS} {Ft Fu : S Ω} {c : TT} {Fc : E Ω Bool}
/-- an expression, then what follows with its value; what it raises leaves -/
def withE {α : Type} (e : E Ω α) (k : α → S Ω) : S Ω := fun τ ω => match e τ ω with
  | .ok a ω1 => k a τ ω1
  | .ex x ω1 => some (.rs x τ, ω1)
  | .no => none
def sNx : S Ω := fun τ ω => some (.nx τ, ω)
def sSeq (a b : S Ω) : S Ω := fun τ ω => match a τ ω with
  | some (.nx τ1, ω1) => b τ1 ω1
  | r => r
def sIf (c : E Ω Bool) (a b : S Ω) : S Ω := withE c fun x => if x then a else b
def sRet (e : E Ω D) : S Ω := withE e fun d _ ω => some (.rt d, ω)
def sRetO (i : Nat) : S Ω := fun τ ω => match τ[i]? with
  | some (some (.ow .L xs)) => some (.rt (.lst xs), ω)
  | _ => none
def sAsg (e : E Ω D) (B : D → Tau → Option Tau) : S Ω := withE e fun d τ ω => (B d τ).map fun τ' => (.nx τ', ω)
def sSetO (e : E Ω (List D)) (i : Nat) : S Ω := withE e fun ds τ ω => some (.nx (τ.set i (some (.ow .L ds))), ω)
def sApp (i : Nat) (e : E Ω D) : S Ω := fun τ ω => match τ[i]? with
  | some (some (.ow .L xs)) => withE e (fun d τ ω => if xs.length ≤ 100000 then some (.nx (τ.set i (some (.ow .L (xs ++ [d])))), ω) else none) τ ω
  | _ => none
theorem withE_kx {α : Type} {e : E Ω α} {k : α → S Ω} {τ : Tau} {ω : Ω} {H0 H : Hp} {σ : L2.St} {D : Ends} (s : STT G K H0 H σ τ) (t : G.At ω H) (h : KS G K H0 H D W (withE e k τ ω)) :
    Res G (e τ ω) H (fun a ω1 H1 => KS G K H0 H1 D W (k a τ ω1)) (kX G K W σ) := by
  unfold withE at h
  cases q : e τ ω with
  | ok a ω1 => rw [q] at h; exact fun H1 k1 t1 => h.mono (k1.sb t)
  | ex x ω1 =>
    rw [q] at h
    exact fun H1 k1 t1 cls dd r => h σ H1 (k1.sb t) (s.step t k1) t1 cls dd r
  | no => rw [q] at h; exact h.elim
theorem ds_nx : DS G K W tNext sNx := fun H0 σ H ω τ s t D h => h σ H .refl s t
theorem ds_seq (ha : DS G K W t Ft) (hb : DS G K W u Fu) : DS G K W (tSeq t u) (sSeq Ft Fu) := by
  intro H0 σ H ω τ s t' D h
  refine ha H0 σ H ω τ s t' _ ?_
  unfold sSeq at h
  cases q : Ft τ ω with
  | none => rw [q] at h; exact h
  | some p =>
    obtain ⟨fl, ω1⟩ := p
    rw [q] at h
    cases fl with
    | nx τ1 => exact fun σ' H' sb s1 t1 => hb H0 σ' H' ω1 τ1 s1 t1 D (h.mono sb)
    | bk τ1 => exact h
    | ct τ1 => exact h
    | rt d => exact h
    | rs x τ1 => exact h
    | rl d => exact h
theorem ds_if (hc : DT G K W c Fc) (ha : DS G K W t Ft) (hb : DS G K W u Fu) : DS G K W (tIfS c t u) (sIf Fc Ft Fu) := by
  intro H0 σ H ω τ s t' D h
  refine hc H0 σ H ω τ s t' _ (Res.imp (withE_kx s t' h) (fun x ω1 H1 k1 t1 h1 => ?_) fun _ _ _ _ _ q => q)
  cases x with
  | true => exact ha H0 σ H1 ω1 τ (s.step t' k1) t1 D h1
  | false => exact hb H0 σ H1 ω1 τ (s.step t' k1) t1 D h1
theorem ds_ret (he : DE G K W te Fe) : DS G K W (tRet te) (sRet Fe) := by
  intro H0 σ H ω τ s t' D h
  exact he H0 σ H ω τ s t' _ (Res.imp (withE_kx s t' h) (fun x ω1 H1 k1 t1 h1 v r => h1 v H1 .refl (s.step t' k1).fr t1 r) fun _ _ _ _ _ q => q)
theorem ds_retO {i : Nat} : DS G K W (tRet (tFrz (tVar i))) (sRetO i) := by
  intro H0 σ H ω τ s t D h
  unfold sRetO at h
  split at h
  · rename_i xs hx
    obtain ⟨l, vs, e, h1, h2, h3, h4⟩ := s.getO hx
    refine ⟨_, e, l, vs, rfl, h1, fun o => ?_⟩
    have sb : Sb im H (upd H l (.frz o (.lst vs))) := fun b u eb st => by
      have : b ≠ l := fun q => by subst q; rw [h1] at eb; cases eb; exact st
      rw [upd_ne this]; exact eb
    refine h _ _ sb (fun b u eb nf => ?_) (G.keep t (fun b u f eb => ?_) sb) (.lst ⟨o, upd_same⟩ (h2.up sb))
    · have k := s.fr b u eb nf
      have : b ≠ l := fun q => by subst q; rw [h3] at eb; cases eb
      rw [upd_ne this]; exact k
    · have : b ≠ l := fun q => h4 (q ▸ f)
      rw [upd_ne this]; exact eb
  · exact h.elim
def DG (G : Gam im Ω) (K : PySem.W.Frag) (g : TG) (sl : List Nat) (B : D → Tau → Option Tau) : Prop := ∀ H0 σ H τ v d τ', STT G K H0 H σ τ → Rep K im H v d → B d τ = some τ' →
  ∀ Q : L2.St → Hp → Prop, (∀ σ', STT G K H0 H σ' τ' → (∀ j, j ∉ sl → σ'[j]? = σ[j]?) → σ'.length = σ.length → Q σ' H) → g v σ H Q
def DGs (G : Gam im Ω) (K : PySem.W.Frag) (g : TGs) (sl : List Nat) (B : List D → Tau → Option Tau) : Prop := ∀ H0 σ H τ vs ds τ', STT G K H0 H σ τ → RepL K im H vs ds → B ds τ = some τ' →
  ∀ Q : L2.St → Hp → Prop, (∀ σ', STT G K H0 H σ' τ' → (∀ j, j ∉ sl → σ'[j]? = σ[j]?) → σ'.length = σ.length → Q σ' H) → g vs σ H Q
def bName (i : Nat) : D → Tau → Option Tau := fun d τ => some (τ.set i (some (.d d)))
def bNil : List D → Tau → Option Tau := fun ds τ => match ds with
  | [] => some τ
  | _ => none
def bCons (b : D → Tau → Option Tau) (r : List D → Tau → Option Tau) : List D → Tau → Option Tau := fun ds τ => match ds with
  | d :: ds => (b d τ).bind (r ds)
  | [] => none
def bTup (n : Nat) (r : List D → Tau → Option Tau) : D → Tau → Option Tau := fun d τ => match d with
  | .tup ds => if ds.length = n then r ds τ else none
  | .lst ds => if ds.length = n then r ds τ else none
  | _ => none
theorem dg_name {i : Nat} : DG G K (gName i) [i] (bName i) := by
  intro H0 σ H τ v d τ' s r e Q q
  cases e
  exact q _ (s.setD r i) (fun j hj => by rw [List.getElem?_set_ne]; intro z; exact hj (by simp [z])) (by simp)
theorem dgs_nil : DGs G K gNil [] bNil := by
  intro H0 σ H τ vs ds τ' s r e Q q
  cases ds with
  | nil => cases e; cases r; exact ⟨rfl, q σ s (fun _ _ => rfl) rfl⟩
  | cons d ds => cases e
theorem dgs_cons {g : TG} {gs : TGs} {sl sl' : List Nat} {b : D → Tau → Option Tau} {r : List D → Tau → Option Tau} (h1 : DG G K g sl b) (h2 : DGs G K gs sl' r) : DGs G K (gCons g gs) (sl ++ sl') (bCons b r) := by
  intro H0 σ H τ vs ds τ' s r' e Q q
  cases ds with
  | nil => cases e
  | cons d ds =>
    cases r' with
    | @cons v vs _ _ ra rb =>
      obtain ⟨τ1, e1, e2⟩ := Option.bind_eq_some_iff.mp e
      refine ⟨v, vs, rfl, h1 H0 σ H τ v d τ1 s ra e1 _ fun σ1 s1 f1 l1 => ?_⟩
      refine h2 H0 σ1 H τ1 vs ds τ' s1 rb e2 Q fun σ2 s2 f2 l2 => q σ2 s2 (fun j hj => ?_) (l2.trans l1)
      rw [List.mem_append, not_or] at hj
      rw [f2 j hj.2, f1 j hj.1]
/-- a tuple or a list is taken apart -/
def gSq (K : PySem.W.Frag) (n : Nat) (gs : TGs) : TG := fun v σ H Q => gTup K n gs v σ H Q ∨ gLst K n gs v σ H Q
theorem pg_sq {X : Cx} {pos : Pos} {es : List Expr} {k : Nat} {t : TGs} {n : Nat} (hc : X.calm = true) (h : PGs X es t)
    (hn : (assignEach es X.env).length = n := by rfl) (hst : (assignEach es X.env).findIdx? (·.1) = none := by rfl) : PG X (.Tuple es k pos) (gSq X.K n t) :=
  ⟨fun pins s σ H v u Q I r hw => hw.elim (fun q => (pg_tup (k := k) (pos := pos) hc h hn hst).run pins s σ H v u Q I r q) (fun q => (pg_lst (k := k) (pos := pos) hc h hn hst).run pins s σ H v u Q I r q)⟩
theorem dg_tup {n : Nat} {gs : TGs} {sl : List Nat} {r : List D → Tau → Option Tau} (h : DGs G K gs sl r) : DG G K (gSq K n gs) sl (bTup n r) := by
  intro H0 σ H τ v d τ' s r' e Q q
  cases r' with
  | @tup a vs ds h1 h2 =>
    simp only [bTup, Option.ite_none_right_eq_some] at e
    obtain ⟨hl, e⟩ := e
    exact .inl ⟨a, vs, rfl, h1, by rw [h2.length]; exact hl, h H0 σ H τ vs ds τ' s h2 e Q q⟩
  | @lst a vs ds h1 h2 =>
    simp only [bTup, Option.ite_none_right_eq_some] at e
    obtain ⟨hl, e⟩ := e
    exact .inr ⟨a, vs, rfl, h1.l, by rw [h2.length]; exact hl, h H0 σ H τ vs ds τ' s h2 e Q q⟩
  | _ => cases e
theorem ds_asg {g : TG} {sl : List Nat} {B : D → Tau → Option Tau} (he : DE G K W te Fe) (hg : DG G K g sl B) : DS G K W (tAsg te g) (sAsg Fe B) := by
  intro H0 σ H ω τ s t' D h
  refine he H0 σ H ω τ s t' _ (Res.imp (withE_kx s t' h) (fun d ω1 H1 k1 t1 h1 v r => ?_) fun _ _ _ _ _ q => q)
  cases e : B d τ with
  | none => rw [e] at h1; exact h1.elim
  | some τ' =>
    rw [e] at h1
    exact hg H0 σ H1 τ v d τ' (s.step t' k1) r e D.nx fun σ' s' _ _ => h1 σ' H1 .refl s' t1
theorem ds_setO {i : Nat} (he : DL G K W te Fl') : DS G K W (tAsg te (gName i)) (sSetO Fl' i) := by
  intro H0 σ H ω τ s t' D h
  refine he H0 σ H ω τ s t' _ (Res.imp (withE_kx s t' h) (fun ds ω1 H1 k1 t1 h1 p vs hp hl r => ?_) fun _ _ _ _ _ q => q)
  exact h1 _ H1 .refl (s.setO t' hp k1 hl r i) t1
theorem ds_app {i : Nat} (he : DE G K W te Fe) : DS G K W (tDrop (tBM K "list" rAppend (tVar i) (tCons te tNil))) (sApp i Fe) := by
  intro H0 σ H ω τ s t' D h
  unfold sApp at h
  split at h
  · rename_i xs hx
    obtain ⟨l, vs, e, h1, h2, h3, h4⟩ := s.getO hx
    refine ⟨_, e, .inl ⟨rfl, vs, SqL.of h1⟩, ?_⟩
    refine he H0 σ H ω τ s t' _ (Res.imp (withE_kx s t' h) (fun d ω1 H1 k1 t1 h1' v r => ?_) fun _ _ _ _ _ q => q)
    split at h1'
    · rename_i hlen
      have hl1 : H1 l = some (.lst vs) := k1 _ _ h1 h4
      have rr : RepL K im H1 (vs ++ [v]) (xs ++ [d]) := (h2.up (k1.sb t')).append (.one r)
      obtain ⟨s2, t2, sb⟩ := (s.step t' k1).mutO t1 hx e ⟨vs, hl1⟩ rr
      refine ⟨l, vs, v, rfl, rfl, hl1, Nat.lt_of_le_of_lt (by rw [h2.length]; exact hlen) (by rw [sizeLine_eq]; decide), h1' σ _ sb s2 t2⟩
    · exact h1'.elim
  · exact h.elim
def Yields (im : Addr → Bool) (K : PySem.W.Frag) (J : It) (H : Hp) (ds : List D) : Prop := ∀ (i : Nat) (H' : Hp), Sb im H H' →
  (∀ d, ds[i]? = some d → J.go i H' ∧ ∀ x H3, J.yld i H' x H3 → Same H' H3 ∧ Rep K im H3 x d) ∧ (ds.length ≤ i → J.stop i H')
def DI (G : Gam im Ω) (K : PySem.W.Frag) (W : WX) (wi : TI) (F : E Ω (List D)) : Prop := ∀ H0 σ H ω τ, STT G K H0 H σ τ → G.At ω H → ∀ R : It → Hp → Prop,
  Res G (F τ ω) H (fun ds _ H' => ∀ J, Yields im K J H' ds → R J H') (kX G K W σ) → wi σ H R
theorem yields_list {a : Addr} {H : Hp} {vs : List V} {ds : List D} (h1 : SqZ H a vs) (h2 : RepL K im H vs ds) : Yields im K (Itl K a) H ds := by
  intro i H' sb
  have q := sb.sqZ h1
  have r := h2.up sb
  refine ⟨fun d hd => ?_, fun hi => ⟨vs, q.l, by rw [r.length]; exact hi⟩⟩
  obtain ⟨v, hv, rv⟩ := r.get hd
  refine ⟨⟨vs, v, q.l, hv⟩, fun x H3 y => ?_⟩
  obtain ⟨rfl, y⟩ := y
  have := y vs q.l
  rw [hv] at this; cases this
  exact ⟨Same.refl _, rv⟩
theorem yields_tup {a : Addr} {H : Hp} {vs : List V} {ds : List D} (h1 : SqT K H a vs) (h2 : RepL K im H vs ds) : Yields im K (Itt K a) H ds := by
  intro i H' sb
  have q := sb.sqT h1
  have r := h2.up sb
  refine ⟨fun d hd => ?_, fun hi => ⟨vs, q, by rw [r.length]; exact hi⟩⟩
  obtain ⟨v, hv, rv⟩ := r.get hd
  refine ⟨⟨vs, v, q, hv⟩, fun x H3 y => ?_⟩
  obtain ⟨rfl, y⟩ := y
  have := y vs q
  rw [hv] at this; cases this
  exact ⟨Same.refl _, rv⟩
/-- lo, lo + c, .. -/
def rangeL (lo c : Int) : Nat → List D
  | 0 => []
  | n + 1 => .int lo :: rangeL (lo + c) c n
theorem rangeL_len (c : Int) : ∀ (n : Nat) (lo : Int), (rangeL lo c n).length = n
  | 0, _ => rfl
  | n + 1, lo => by rw [rangeL, List.length_cons, rangeL_len c n]
theorem rangeL_get (c : Int) : ∀ (n : Nat) (lo : Int) (i : Nat) (d : D), (rangeL lo c n)[i]? = some d → d = .int (lo + i * c) ∧ i < n
  | 0, _, i, d, h => by simp [rangeL] at h
  | n + 1, lo, 0, d, h => by
    simp [rangeL] at h
    subst h
    exact ⟨by simp, by omega⟩
  | n + 1, lo, i + 1, d, h => by
    simp only [rangeL, List.getElem?_cons_succ] at h
    obtain ⟨h1, h2⟩ := rangeL_get c n _ i d h
    refine ⟨?_, by omega⟩
    rw [h1]
    congr 1
    have : ((i + 1 : Nat) : Int) * c = (i : Int) * c + c := by rw [Int.natCast_add, Int.add_mul]; simp
    rw [this]; omega
def rg1 : List D → Option (List D)
  | [.int j] => if -(2 ^ 62) ≤ j ∧ j < 2 ^ 62 then some (rangeL 0 1 j.toNat) else none
  | _ => none
def rg2 : List D → Option (List D)
  | [.int i, .int j] => if -(2 ^ 62) ≤ i ∧ i < 2 ^ 62 ∧ -(2 ^ 62) ≤ j ∧ j < 2 ^ 62 then some (rangeL i 1 (j - i).toNat) else none
  | _ => none
def iRg (f : List D → Option (List D)) (a : E Ω (List D)) : E Ω (List D) := fun τ ω => (a τ ω).bind fun x ω1 => .ofO (f x) ω1
theorem yields_range {H : Hp} {lo : Int} {n : Nat} : Yields im K (Itr lo n) H (rangeL lo 1 n) := by
  intro i H' sb
  refine ⟨fun d hd => ?_, fun hi => by rw [rangeL_len] at hi; exact hi⟩
  obtain ⟨rfl, hi⟩ := rangeL_get 1 n lo i d hd
  refine ⟨hi, fun x H3 y => ?_⟩
  obtain ⟨rfl, rfl⟩ := y
  rw [Int.mul_one]
  exact ⟨Same.refl _, .int _⟩
theorem di_rg1 {ta : TA} {Fr : E Ω (List D)} (ha : DA G K W ta Fr) : DI G K W (iRng1 ta) (iRg rg1 Fr) := by
  intro H0 σ H ω τ s t' R h
  refine ha H0 σ H ω τ s t' _ (Res.imp (Res.bind h) (fun xs ω1 H1 k1 t1 h1 vs r => ?_) fun _ _ _ _ _ q => q)
  cases e : rg1 xs with
  | none => rw [e] at h1; exact h1.elim
  | some ds =>
    rw [e] at h1
    unfold rg1 at e
    split at e
    · cases r with
      | cons ra rb =>
        cases ra
        cases rb
        simp only [Option.ite_none_right_eq_some] at e
        obtain ⟨⟨e1, e2⟩, e3⟩ := e
        cases e3
        exact ⟨_, rfl, e1, e2, h1 H1 k1 t1 _ yields_range⟩
    · cases e
theorem di_rg2 {ta : TA} {Fr : E Ω (List D)} (ha : DA G K W ta Fr) : DI G K W (iRng2 ta) (iRg rg2 Fr) := by
  intro H0 σ H ω τ s t' R h
  refine ha H0 σ H ω τ s t' _ (Res.imp (Res.bind h) (fun xs ω1 H1 k1 t1 h1 vs r => ?_) fun _ _ _ _ _ q => q)
  cases e : rg2 xs with
  | none => rw [e] at h1; exact h1.elim
  | some ds =>
    rw [e] at h1
    unfold rg2 at e
    split at e
    · cases r with
      | cons ra rb =>
        cases ra
        cases rb with
        | cons rb rc =>
          cases rb
          cases rc
          simp only [Option.ite_none_right_eq_some] at e
          obtain ⟨⟨e1, e2, e4, e5⟩, e3⟩ := e
          cases e3
          exact ⟨_, _, rfl, ⟨e1, e2, e4, e5⟩, h1 H1 k1 t1 _ yields_range⟩
    · cases e
def loop (B : D → Tau → Option Tau) (F : S Ω) : List D → S Ω
  | [] => fun τ ω => some (.nx τ, ω)
  | d :: ds => fun τ ω => match B d τ with
    | none => none
    | some τ1 => match F τ1 ω with
      | some (.nx τ2, ω2) => loop B F ds τ2 ω2
      | some (.ct τ2, ω2) => loop B F ds τ2 ω2
      | some (.bk τ2, ω2) => some (.nx τ2, ω2)
      | r => r
def sFor (i : E Ω (List D)) (B : D → Tau → Option Tau) (F : S Ω) : S Ω := withE i fun ds => loop B F ds
theorem ds_for {wi : TI} {Fi : E Ω (List D)} {g : TG} {sl : List Nat} {B : D → Tau → Option Tau} (hi : DI G K W wi Fi) (hg : DG G K g sl B) (hb : DS G K W t Ft) : DS G K W (tFor wi g t) (sFor Fi B Ft) := by
  intro H0 σ H ω τ s t' D h
  refine hi H0 σ H ω τ s t' _ (Res.imp (withE_kx s t' h) (fun ds ω1 H1 k1 t1 h1 J y => ?_) fun _ _ _ _ _ q => q)
  refine ⟨fun i m σ' H' => m = ds.length - i ∧ i ≤ ds.length ∧ ∃ τ' ω', Sb im H1 H' ∧ STT G K H0 H' σ' τ' ∧ G.At ω' H' ∧ KS G K H0 H' D W (loop B Ft (ds.drop i) τ' ω'),
    ⟨ds.length, by simp, Nat.zero_le _, τ, ω1, .refl, s.step t' k1, t1, by simpa using h1⟩, ?_⟩
  rintro i m σ' H' ⟨rfl, hle, τ', ω', sb, s', t2, ks⟩
  by_cases hlt : i < ds.length
  · refine .inr ?_
    have hd : ds[i]? = some ds[i] := List.getElem?_eq_getElem hlt
    obtain ⟨go, yl⟩ := (y i H' sb).1 _ hd
    have hdrop : ds.drop i = ds[i] :: ds.drop (i + 1) := List.drop_eq_getElem_cons hlt
    rw [hdrop] at ks
    refine ⟨go, fun σ2 H2 => ∃ τ2 ω2, Sb im H1 H2 ∧ STT G K H0 H2 σ2 τ2 ∧ G.At ω2 H2 ∧ KS G K H0 H2 D W (loop B Ft (ds.drop (i + 1)) τ2 ω2), fun σ2 H2 ⟨τ2, ω2, a, b, c, d⟩ => ⟨_, by omega, rfl, hlt, τ2, ω2, a, b, c, d⟩, fun x H3 yx => ?_⟩
    obtain ⟨sm, rx⟩ := yl x H3 yx
    have s3 := s'.step t2 (.of sm)
    have t3 := At.same t2 sm
    unfold loop at ks
    cases eB : B ds[i] τ' with
    | none => rw [eB] at ks; exact ks.elim
    | some τ1 =>
      rw [eB] at ks
      have ks := ks.mono (Sb.of sm)
      refine hg H0 σ' H3 τ' x _ τ1 s3 rx eB _ fun σ4 s4 _ _ => ?_
      refine hb H0 σ4 H3 ω' τ1 s4 t3 _ ?_
      have base := sb.trans (Sb.of (im := im) sm)
      simp only at ks
      cases eF : Ft τ1 ω' with
      | none => rw [eF] at ks; exact ks.elim
      | some p =>
        obtain ⟨fl, ω5⟩ := p
        rw [eF] at ks
        cases fl with
        | nx τ5 => exact fun σ6 H6 sb6 s6 t6 => ⟨τ5, ω5, base.trans sb6, s6, t6, ks.mono sb6⟩
        | ct τ5 => exact fun σ6 H6 sb6 s6 t6 => ⟨τ5, ω5, base.trans sb6, s6, t6, ks.mono sb6⟩
        | bk τ5 => exact fun σ6 H6 sb6 s6 t6 => ks σ6 H6 sb6 s6 t6
        | rt d => exact ks
        | rs x τ5 => exact ks
        | rl d => exact ks
  · refine .inl ⟨(y i H' sb).2 (by omega), ?_⟩
    have : ds.drop i = [] := List.drop_eq_nil_of_le (by omega)
    rw [this] at ks
    exact ks σ' H' .refl s' t2
def wloop (c : E Ω Bool) (F : S Ω) : Nat → S Ω
  | 0 => fun _ _ => none
  | n + 1 => withE c fun b τ ω => if b then match F τ ω with
      | some (.nx τ2, ω2) => wloop c F n τ2 ω2
      | some (.ct τ2, ω2) => wloop c F n τ2 ω2
      | some (.bk τ2, ω2) => some (.nx τ2, ω2)
      | r => r
    else some (.nx τ, ω)
def sWhile (n : Tau → Ω → Nat) (c : E Ω Bool) (F : S Ω) : S Ω := fun τ ω => wloop c F (n τ ω) τ ω
theorem ds_while {n : Tau → Ω → Nat} (hc : DT G K W c Fc) (hb : DS G K W t Ft) : DS G K W (tWhile c t) (sWhile n Fc Ft) := by
  intro H0 σ H ω τ s t' D h
  refine ⟨fun m σ' H' => ∃ τ' ω', STT G K H0 H' σ' τ' ∧ G.At ω' H' ∧ KS G K H0 H' D W (wloop Fc Ft m τ' ω'), ⟨n τ ω, τ, ω, s, t', h⟩, ?_⟩
  rintro m σ' H' ⟨τ', ω', s', t2, ks⟩
  cases m with
  | zero => exact ks.elim
  | succ m =>
    unfold wloop at ks
    refine hc H0 σ' H' ω' τ' s' t2 _ (Res.imp (withE_kx s' t2 ks) (fun b ω1 H1 k1 t1 h1 => ?_) fun _ _ _ _ _ q => q)
    have s1 := s'.step t2 k1
    cases b with
    | false => exact h1 σ' H1 .refl s1 t1
    | true =>
      refine ⟨fun σ2 H2 => ∃ τ2 ω2, STT G K H0 H2 σ2 τ2 ∧ G.At ω2 H2 ∧ KS G K H0 H2 D W (wloop Fc Ft m τ2 ω2), fun σ2 H2 q => ⟨m, Nat.lt_succ_self m, q⟩, ?_⟩
      refine hb H0 σ' H1 ω1 τ' s1 t1 _ ?_
      simp only [if_true] at h1
      cases eF : Ft τ' ω1 with
      | none => rw [eF] at h1; exact h1.elim
      | some p =>
        obtain ⟨fl, ω5⟩ := p
        rw [eF] at h1
        cases fl with
        | nx τ5 => exact fun σ6 H6 sb6 s6 t6 => ⟨τ5, ω5, s6, t6, KS.mono (r := wloop Fc Ft m τ5 ω5) h1 sb6⟩
        | ct τ5 => exact fun σ6 H6 sb6 s6 t6 => ⟨τ5, ω5, s6, t6, KS.mono (r := wloop Fc Ft m τ5 ω5) h1 sb6⟩
        | bk τ5 => exact h1
        | rt d => exact h1
        | rs x τ5 => exact h1
        | rl d => exact h1
end
end DL
namespace DL
open PySem PySem.Spec PyProof.Rows L2
def wipeT (τ : Tau) : List Nat → Tau
  | [] => τ
  | v :: vs => (wipeT τ vs).set v none
section
variable {im : Addr → Bool} {Ω : Type} {G : Gam im Ω} {K : PySem.W.Frag} {W W' : WX} {te : TE} {Fe : E Ω D} {tt : TT} {Ft : E Ω Bool}
theorem STT.setN {H0 H : Hp} {σ : L2.St} {τ : Tau} (s : STT G K H0 H σ τ) (i : Nat) (v : Option V) : STT G K H0 H (σ.set i v) (τ.set i none) := by
  refine ⟨by simp [s.len], fun j w c e1 e2 => ?_, fun j k l _ _ xs ys hjk e1 e2 e3 e4 => ?_, s.fr⟩
  · by_cases hj : i = j
    · subst hj
      have hi : i < σ.length := by simpa using (List.getElem?_eq_some_iff.mp e1).1
      rw [List.getElem?_set_self (by rw [← s.len]; exact hi)] at e2
      cases e2
      exact .un
    · rw [List.getElem?_set_ne hj] at e1 e2
      exact s.ok j w c e1 e2
  · have a : i ≠ j := fun q => by
      subst q
      have hi : i < τ.length := by simpa using (List.getElem?_eq_some_iff.mp e2).1
      rw [List.getElem?_set_self hi] at e2
      cases e2
    have b : i ≠ k := fun q => by
      subst q
      have hi : i < τ.length := by simpa using (List.getElem?_eq_some_iff.mp e4).1
      rw [List.getElem?_set_self hi] at e4
      cases e4
    rw [List.getElem?_set_ne a] at e1 e2
    rw [List.getElem?_set_ne b] at e3 e4
    exact s.dj j k l xs ys hjk e1 e2 e3 e4
theorem STT.wipe {H0 H : Hp} {σ : L2.St} {τ : Tau} (s : STT G K H0 H σ τ) : ∀ vs : List Nat, STT G K H0 H (wipe σ vs) (wipeT τ vs)
  | [] => s
  | v :: vs => (STT.wipe s vs).setN v none
theorem wipe_get (σ : L2.St) : ∀ (vs : List Nat) (i : Nat), (wipe σ vs)[i]? = if i ∈ vs ∧ i < σ.length then some none else σ[i]?
  | [], i => by simp [wipe]
  | v :: vs, i => by
    unfold wipe
    by_cases hv : v = i
    · subst hv
      by_cases hl : v < σ.length
      · rw [List.getElem?_set_self (by rw [wipe_length]; exact hl), if_pos ⟨by simp, hl⟩]
      · rw [List.getElem?_eq_none (by rw [List.length_set, wipe_length]; omega), if_neg (fun h => hl h.2), List.getElem?_eq_none (by omega)]
    · rw [List.getElem?_set_ne hv, wipe_get σ vs i]
      have e : i ∈ v :: vs ↔ i ∈ vs := by simp [Ne.symm hv]
      simp only [e]
theorem wipe_ext {σ σ' : L2.St} {vs : List Nat} (h : ∀ j, j ∉ vs → σ'[j]? = (L2.wipe σ vs)[j]?) (hl : σ'.length = (L2.wipe σ vs).length) : L2.wipe σ' vs = L2.wipe σ vs := by
  apply List.ext_getElem?
  intro i
  rw [wipe_get, wipe_get]
  rw [wipe_length] at hl
  rw [hl]
  split
  · rfl
  · rename_i hn
    by_cases hm : i ∈ vs
    · have : ¬ i < σ.length := fun z => hn ⟨hm, z⟩
      rw [List.getElem?_eq_none (by omega), List.getElem?_eq_none (by omega)]
    · rw [h i hm, wipe_get, if_neg (fun z => hm z.1)]
def lcL (B : D → Tau → Option Tau) (Ft : E Ω Bool) (Fe : E Ω D) (τ : Tau) : List D → Ω → R Ω (List D)
  | [], ω => .ok [] ω
  | d :: ds, ω => match B d τ with
    | none => .no
    | some τ1 => (nox (Ft τ1 ω)).bind fun b ω1 => if b then (nox (Fe τ1 ω1)).bind fun x ω2 => (lcL B Ft Fe τ ds ω2).bind fun xs ω3 => .ok (x :: xs) ω3 else lcL B Ft Fe τ ds ω1
def eLc (vs : List Nat) (i : E Ω (List D)) (B : D → Tau → Option Tau) (Ft : E Ω Bool) (Fe : E Ω D) : E Ω (List D) := fun τ ω => (i τ ω).bind fun ds ω1 => if ds.length ≤ sizeLine then nox (lcL B Ft Fe (wipeT τ vs) ds ω1) else .no
theorem nox_eq {α : Type} {r : R Ω α} {a : α} {ω : Ω} (h : nox r = .ok a ω) : r = .ok a ω := by
  cases r <;> simp [nox] at h
  obtain ⟨rfl, rfl⟩ := h; rfl
theorem bind_eq {α β : Type} {r : R Ω α} {f : α → Ω → R Ω β} {b : β} {ω : Ω} (h : r.bind f = .ok b ω) : ∃ a ω1, r = .ok a ω1 ∧ f a ω1 = .ok b ω := by
  cases r with
  | ok a ω1 => exact ⟨a, ω1, rfl, h⟩
  | ex x ω1 => cases h
  | no => cases h
theorem dl_lc {wi : TI} {Fi : E Ω (List D)} {g : TG} {sl vs : List Nat} {B : D → Tau → Option Tau} (hi : DI G K W wi Fi) (hg : DG G K g sl B) (ht : DT G K W' tt Ft) (he : DE G K W' te Fe) (hsl : ∀ j, j ∉ vs → j ∉ sl) : DL G K W (tLc wi g tt te vs) (eLc vs Fi B Ft Fe) := by
  intro H0 σ H ω τ s t' Q h
  refine hi H0 σ H ω τ s t' _ (Res.imp (Res.bind h) (fun ds ω1 H1 k1 t1 h1 J y => ?_) fun _ _ _ _ _ q => q)
  have hlen : ds.length ≤ sizeLine := by
    by_cases hq : ds.length ≤ sizeLine
    · exact hq
    · rw [if_neg hq] at h1; exact h1.elim
  rw [if_pos hlen] at h1
  cases e0 : lcL B Ft Fe (wipeT τ vs) ds ω1 with
  | no => rw [e0] at h1; exact h1.elim
  | ex x u => rw [e0] at h1; exact h1.elim
  | ok total ωe =>
  rw [e0] at h1
  intro p hp
  have nf : ¬ G.FP p := fun f => G.trk t1 p f hp
  have hp0 : H p = none := by
    cases e : H p with
    | none => rfl
    | some o => have := k1 p o e nf; rw [hp] at this; cases this
  refine ⟨fun i m H' => m = ds.length - i ∧ i ≤ ds.length ∧ ∃ ω' acc accd rest, Kp G H1 H' ∧ H' p = some (.lst acc) ∧ RepL K im H' acc accd ∧ G.At ω' H' ∧ lcL B Ft Fe (wipeT τ vs) (ds.drop i) ω' = .ok rest ωe ∧ accd ++ rest = total ∧ acc.length ≤ i,
    ⟨ds.length, by simp, Nat.zero_le _, ω1, [], [], total, .of (Same.new hp), upd_same, .nil, At.same t1 (Same.new hp), by simpa using e0, rfl, Nat.le_refl _⟩, ?_⟩
  rintro i m H' ⟨rfl, hle, ω', acc, accd, rest, kp, hpl, racc, t2, el, eapp, hacc⟩
  have sb1 : Sb im H1 H' := kp.sb t1
  by_cases hlt : i < ds.length
  · refine .inr ?_
    have hd : ds[i]? = some ds[i] := List.getElem?_eq_getElem hlt
    obtain ⟨go, yl⟩ := (y i H' sb1).1 _ hd
    have hdrop : ds.drop i = ds[i] :: ds.drop (i + 1) := List.drop_eq_getElem_cons hlt
    rw [hdrop] at el
    unfold lcL at el
    cases eB : B ds[i] (wipeT τ vs) with
    | none => rw [eB] at el; cases el
    | some τ1 =>
    rw [eB] at el
    obtain ⟨b, ω5, ef, el⟩ := bind_eq el
    have ef := nox_eq ef
    refine ⟨go, fun H'' => ∃ m', m' = ds.length - (i + 1) ∧ i + 1 ≤ ds.length ∧ ∃ ω' acc accd rest, Kp G H1 H'' ∧ H'' p = some (.lst acc) ∧ RepL K im H'' acc accd ∧ G.At ω' H'' ∧ lcL B Ft Fe (wipeT τ vs) (ds.drop (i + 1)) ω' = .ok rest ωe ∧ accd ++ rest = total ∧ acc.length ≤ i + 1,
      fun H'' ⟨m', e, a⟩ => ⟨m', by omega, e, a⟩, fun x H3 yx => ?_⟩
    obtain ⟨sm, rx⟩ := yl x H3 yx
    have s3 : STT G K H0 H3 (L2.wipe σ vs) (wipeT τ vs) := ((((s.step t' k1).step t1 kp).step t2 (.of sm))).wipe vs
    have t3 := At.same t2 sm
    refine hg H0 (L2.wipe σ vs) H3 (wipeT τ vs) x _ τ1 s3 rx eB _ fun σ4 s4 f4 l4 => ⟨wipe_ext (fun j hj => f4 j (hsl j hj)) l4, ?_⟩
    refine ht H0 σ4 H3 ω' τ1 s4 t3 _ ?_
    rw [ef]
    intro H5 k5 t5
    have kk : Kp G H1 H5 := (kp.trans (.of sm)).trans k5
    have hp5 : H5 p = some (.lst acc) := k5 p _ (sm p _ hpl) nf
    have sb5 : Sb im H' H5 := (Sb.of sm).trans (k5.sb t3)
    cases b with
    | false =>
      simp only [Bool.false_eq_true, if_false] at el ⊢
      exact ⟨_, rfl, hlt, ω5, acc, accd, rest, kk, hp5, racc.up sb5, t5, el, eapp, by omega⟩
    | true =>
      simp only [if_true] at el ⊢
      obtain ⟨z, ω6, ee, el⟩ := bind_eq el
      have ee := nox_eq ee
      obtain ⟨rest', ω7, el2, er⟩ := bind_eq el
      cases er
      refine he H0 σ4 H5 ω5 τ1 (s4.step t3 k5) t5 _ ?_
      rw [ee]
      intro H6 k6 t6 v rv
      have hp6 : H6 p = some (.lst acc) := k6 p _ hp5 nf
      have sb6 : Sb im H' H6 := sb5.trans (k6.sb t5)
      have sbu : Sb im H6 (upd H6 p (.lst (acc ++ [v]))) := fun c u eb st => by
        have : c ≠ p := fun q => by subst q; rw [hp6] at eb; cases eb; exact st
        rw [upd_ne this]; exact eb
      refine ⟨acc, hp6, Nat.lt_of_lt_of_le (Nat.lt_of_le_of_lt hacc hlt) hlen, _, rfl, hlt, ω6, acc ++ [v], accd ++ [z], rest', fun c u eb nfc => ?_, upd_same, ((racc.up sb6).append (.one rv)).up sbu, G.keep t6 (fun c u f eb => ?_) sbu, el2, by rw [List.append_assoc]; exact eapp, by rw [List.length_append, List.length_singleton]; omega⟩
      · have : c ≠ p := fun q => by subst q; rw [hp] at eb; cases eb
        rw [upd_ne this]; exact k6 c u (kk c u eb nfc) nfc
      · have : c ≠ p := fun q => nf (q ▸ f)
        rw [upd_ne this]; exact eb
  · refine .inl ⟨(y i H' sb1).2 (by omega), ?_⟩
    have e1 : ds.drop i = [] := List.drop_eq_nil_of_le (by omega)
    rw [e1] at el
    unfold lcL at el
    cases el
    rw [List.append_nil] at eapp
    subst eapp
    exact h1 H' (k1.trans kp) t2 p acc hp0 hpl racc
end
section
variable {im : Addr → Bool} {P : Program} {w : World} {K : PySem.W.Frag} {mg : Str → Option Value} {base : Heap}
def startT (N : Nat) (cs : List Cell) : Tau := cs.map some ++ List.replicate (N - cs.length) none
/-- what a body gives -/
def runS {Ω : Type} (F : S Ω) (τ : Tau) (ω : Ω) : R Ω D := match F τ ω with
  | some (.rt d, ω') => .ok d ω'
  | some (.nx _, ω') => .ok .non ω'
  | some (.rs x _, ω') => .ex x ω'
  | _ => .no
theorem stt_start {Ω : Type} {G : Gam im Ω} {H : Hp} : ∀ {vs : List V} {cs : List Cell}, vs.length = cs.length → (∀ (i : Nat) v c, vs[i]? = some v → cs[i]? = some c → SlotOk G K H H (some v) (some c)) → (∀ c ∈ cs, ∀ k xs, c ≠ .ow k xs) → ∀ (n : Nat), STT G K H H (vs.map some ++ List.replicate (n - vs.length) none) (startT n cs) := by
  intro vs cs hl h ho n
  have no : ∀ (i : Nat) (k : OKd) (xs : List D), (startT n cs)[i]? ≠ some (some (.ow k xs)) := fun i k xs e => by
    unfold startT at e
    by_cases hi : i < cs.length
    · rw [List.getElem?_append_left (by simpa using hi), List.getElem?_map] at e
      cases q : cs[i]? with
      | none => rw [q] at e; cases e
      | some c =>
        rw [q] at e
        simp at e
        exact ho c (List.mem_of_getElem? q) k xs e
    · rw [List.getElem?_append_right (by simpa using hi)] at e
      rw [List.getElem?_replicate] at e
      split at e <;> cases e
  refine ⟨by unfold startT; simp [hl], fun i v c e1 e2 => ?_, fun i j l _ _ xs ys _ _ e2 _ _ => absurd e2 (no i _ xs), .refl⟩
  unfold startT at e2
  by_cases hi : i < cs.length
  · rw [List.getElem?_append_left (by simpa using hi), List.getElem?_map] at e2
    rw [List.getElem?_append_left (by simpa [hl] using hi), List.getElem?_map] at e1
    cases q2 : cs[i]? with
    | none => rw [q2] at e2; cases e2
    | some c' =>
      cases q1 : vs[i]? with
      | none => rw [q1] at e1; cases e1
      | some v' =>
        rw [q1] at e1; rw [q2] at e2
        simp at e1 e2
        subst e1 e2
        exact h i v' c' q1 q2
  · rw [List.getElem?_append_right (by simpa using hi)] at e2
    rw [List.getElem?_replicate] at e2
    split at e2
    · cases e2; exact .un
    · cases e2
/-- a def that changes nothing and raises nothing -/
theorem fn_D {x qual : Str} {st : Stmt} {f : Addr} {fd : FuncData} {N ps : List Str} {k : Nat} {F : S Unit} (Fn : Fun K x qual st f fd) (Sc : FnScope N ps (defScope st))
    (hb : ∀ (cdv : Value) (A : Around) (outer : List Env) (s : Shared) (H : Hp) (Ex : XK), Room k (A.deeper (envOfC qual (defScope st) s.heap.objs.size f cdv)) →
      ∃ t, PSs (cxOf CX0 P w K mg base N qual (defScope st) f cdv A outer s H Ex).nox (defBody st) t ∧ DS (gam0 im) K (fun _ _ _ _ => False) t F) :
    FnOk P w K mg base CX0 (k + 1) f fd ps (spD K im ps.length fun ds => nox (runS F (startT N.length (ds.map .d)) ())) := by
  refine Fn.ok Sc (fun vs H Q Ex h => h.1) fun cdv A outer s H vs Q Ex hr h => ?_
  obtain ⟨hl, ds, r, h⟩ := h
  obtain ⟨t, ht, hd⟩ := hb cdv A outer s H Ex hr
  refine ⟨t, ht, ?_⟩
  have st : STT (gam0 im) K H H (start N vs) (startT N.length (ds.map .d)) := stt_start (by rw [List.length_map, r.length]) (fun i v c e1 e2 => by
    rw [List.getElem?_map] at e2
    cases q : ds[i]? with
    | none => rw [q] at e2; cases e2
    | some d =>
      rw [q] at e2; cases e2
      obtain ⟨v', e3, r'⟩ := r.get q
      rw [e1] at e3; cases e3
      exact .d r') (fun c hc _ xs e => by
    obtain ⟨d, _, rfl⟩ := List.mem_map.mp hc
    cases e) _
  refine hd H (start N vs) H () _ st trivial _ ?_
  unfold runS at h
  dsimp only at h
  cases q : F (startT N.length (ds.map .d)) () with
  | none => rw [q] at h; exact h.elim
  | some p =>
    obtain ⟨fl, ω'⟩ := p
    rw [q] at h
    cases fl with
    | nx τ => exact fun σ' H' _ s t => h .non H' (fun b o e => s.fr b o e id) .non
    | rt d => exact fun v H' _ k t r => h v H' (fun b o e => k b o e id) r
    | bk τ => exact h.elim
    | ct τ => exact h.elim
    | rs x τ => exact h.elim
    | rl d => exact h.elim
/-- a def that is handed the one thing first -/
theorem fn_W {Ω Pp : Type} {Γ : Pp → Gam im Ω} {x qual : Str} {st : Stmt} {f : Addr} {fd : FuncData} {N ps : List Str} {k : Nat} {F : S Ω} (Fn : Fun K x qual st f fd) (Sc : FnScope N ps (defScope st))
    (hb : ∀ (p : Pp) (cdv : Value) (A : Around) (outer : List Env) (s : Shared) (H : Hp) (Ex : XK), Room k (A.deeper (envOfC qual (defScope st) s.heap.objs.size f cdv)) →
      ∃ t, PSs (cxOf CX0 P w K mg base N qual (defScope st) f cdv A outer s H Ex).nox (defBody st) t ∧ DS (Γ p) K (fun _ _ _ _ => False) t F) :
    FnOk P w K mg base CX0 (k + 1) f fd ps (spW K Γ ps.length 0 fun ds ω => nox (runS F (startT N.length (.src :: ds.map .d)) ω)) := by
  refine Fn.ok Sc (fun vs H Q Ex h => h.1) fun cdv A outer s H vs Q Ex hr h => ?_
  obtain ⟨hl, p, ω, ws, ds, rfl, at0, r, h⟩ := h
  obtain ⟨t, ht, hd⟩ := hb p cdv A outer s H Ex hr
  refine ⟨t, ht, ?_⟩
  have st : STT (Γ p) K H H (start N ((Γ p).obj :: ws)) (startT N.length (.src :: ds.map .d)) := stt_start (by simp [r.length]) (fun i v c e1 e2 => by
    cases i with
    | zero => simp at e1 e2; subst e1 e2; exact .src
    | succ i =>
      simp only [List.getElem?_cons_succ] at e1 e2
      rw [List.getElem?_map] at e2
      cases q : ds[i]? with
      | none => rw [q] at e2; cases e2
      | some d =>
        rw [q] at e2; cases e2
        obtain ⟨v', e3, r'⟩ := r.get q
        rw [e1] at e3; cases e3
        exact .d r') (fun c hc _ xs e => by
    rcases List.mem_cons.mp hc with q | q
    · rw [q] at e; cases e
    · obtain ⟨d, _, rfl⟩ := List.mem_map.mp q
      cases e) _
  refine hd H (start N ((Γ p).obj :: ws)) H ω _ st at0 _ ?_
  unfold runS at h
  dsimp only at h
  cases q : F (startT N.length (.src :: ds.map .d)) ω with
  | none => rw [q] at h; exact h.elim
  | some p' =>
    obtain ⟨fl, ω'⟩ := p'
    rw [q] at h
    cases fl with
    | nx τ => exact fun σ' H' _ s t => h H' s.fr t .non .non
    | rt d => exact fun v H' _ k t r => h H' k t v r
    | bk τ => exact h.elim
    | ct τ => exact h.elim
    | rs x τ => exact h.elim
    | rl d => exact h.elim
theorem FnOk.no {f : Addr} {fd : FuncData} {ps : List Str} {k : Nat} {CX : CXT} {sp : Sp} (h : ∀ vs H Q Ex, ¬ sp vs H Q Ex) : FnOk P w K mg base CX k f fd ps sp :=
  ⟨fun vs H Q Ex q => (h vs H Q Ex q).elim, fun _ _ _ H _ _ vs Q Ex _ _ _ _ q => (h vs H Q Ex q).elim⟩
theorem spD_no {n : Nat} {vs : List V} {H : Hp} {Q : VK} {Ex : XK} : ¬ spD K im n (fun _ => .no) vs H Q Ex := fun ⟨_, _, _, h⟩ => h
theorem spW_no {Ω Pp : Type} {Γ : Pp → Gam im Ω} {n j : Nat} {vs : List V} {H : Hp} {Q : VK} {Ex : XK} : ¬ spW K Γ n j (fun _ _ => .no) vs H Q Ex := fun ⟨_, _, _, _, _, _, _, _, h⟩ => h
end
end DL
namespace DL
open PySem PySem.Spec PyProof.Rows L2
section
variable {X : Cx} {tg : Expr}
def iSeq (K : PySem.W.Frag) (tl : TE) : TI := fun σ H R => tl σ H fun x H1 => ∃ a, x = .ref a ∧ (((∃ xs, SqL K H1 a xs) ∧ R (Itl K a) H1) ∨ ((∃ xs, SqT K H1 a xs) ∧ R (Itt K a) H1))
theorem pi_seq {l : Expr} {tl : TE} (hl : PE X l tl) : PI X tg l (iSeq X.K tl) := by
  constructor
  intro pn st slots hp Rr inv h
  apply thn (hl.run pn st slots hp _ inv h)
  rintro val st1 ⟨w, hp1, inv1, rel, adr, ew, q⟩
  cases ew
  cases rel
  -- the iterator is the one new object, and the heap has grown by it alone
  have grown := fun {ob : Obj} => inv1.kept (t' := st1.toks) (h' := st1.heap.push ob) fun _ _ e => Heap.get?_push_of_some _ e
  have mine : ∀ b ∈ [st1.heap.objs.size], FpOk X pn hp1 b := by
    intro b hb
    rw [List.mem_singleton.mp hb]
    exact inv1.fpOk (Nat.le_refl _) (inv1.hok.fresh (Nat.le_refl _))
  rcases q with ⟨⟨xs, hq⟩, q⟩ | ⟨⟨xs, hq⟩, q⟩
  · obtain ⟨its, _, pl, _⟩ := inv1.list hq
    apply wpAny_pyIter_list pl.isList
    exact ⟨st1.heap.objs.size, [st1.heap.objs.size], _, _, hp1, rfl, grown, turn_list adr _, ⟨_, Heap.get?_push_size _ rfl, rfl, rfl⟩, mine, q⟩
  · obtain ⟨its, _, pl, _⟩ := inv1.tuple hq
    apply wpAny_pyIter_tuple (show st1.heap.IsTuple adr its.toArray from pl)
    exact ⟨st1.heap.objs.size, [st1.heap.objs.size], _, _, hp1, rfl, grown, turn_tuple adr _, ⟨_, Heap.get?_push_size _ rfl, rfl, rfl⟩, mine, q⟩
/-- a name's list is finished behind a statement -/
def tFz (i : Nat) (t : TS) : TS := fun D σ H => t { D with nx := fun σ' H' => ∃ a xs, σ'[i]? = some (some (.ref a)) ∧ H' a = some (.lst xs) ∧ ∀ o, D.nx σ' (upd H' a (.frz o (.lst xs))) } σ H
theorem ps_fz {st : Stmt} {t : TS} (i : Nat) (h : PS X st t) : PS X st (tFz i t) := by
  refine ⟨fun pins s σ H D I q => ?_⟩
  refine thn (h.run pins s σ H _ I q) fun f s' hs => ?_
  cases f with
  | next =>
    obtain ⟨σ', H', J, a, xs, e, ha, q⟩ := hs
    obtain ⟨o, J'⟩ := Inv.freeze J ha
    exact ⟨σ', _, J', q o⟩
  | brk => exact hs
  | cont => exact hs
  | ret u => exact hs
end
section
variable {im : Addr → Bool} {Ω : Type} {G : Gam im Ω} {K : PySem.W.Frag} {W : WX} {ta tb te : TE} {Fe Fa Fb : E Ω D} {Fl' Fm' : E Ω (List D)} {t u : TS} {Ft Fu : S Ω} {c : TT} {Fc : E Ω Bool}
def D.itemsS : D → Option (List D)
  | .lst ds => some ds
  | .tup ds => some ds
  | _ => none
def iSq (a : E Ω D) : E Ω (List D) := fun τ ω => (a τ ω).bind fun x ω1 => .ofO x.itemsS ω1
theorem di_seq (he : DE G K W te Fe) : DI G K W (iSeq K te) (iSq Fe) := by
  intro H0 σ H ω τ s t' R h
  refine he H0 σ H ω τ s t' _ (Res.imp (Res.bind h) (fun x ω1 H1 k1 t1 h1 v r => ?_) fun _ _ _ _ _ q => q)
  cases r with
  | @lst a vs ds a1 a2 => exact ⟨a, rfl, .inl ⟨⟨vs, a1.l⟩, h1 H1 k1 t1 _ (yields_list a1 a2)⟩⟩
  | @tup a vs ds a1 a2 => exact ⟨a, rfl, .inr ⟨⟨vs, a1⟩, h1 H1 k1 t1 _ (yields_tup a1 a2)⟩⟩
  | _ => exact h1.elim
def fzT (i : Nat) (τ : Tau) : Option Tau := match τ[i]? with
  | some (some (.ow .L xs)) => some (τ.set i (some (.d (.lst xs))))
  | _ => none
def sFz (i : Nat) (F : S Ω) : S Ω := fun τ ω => match F τ ω with
  | some (.nx τ1, ω1) => (fzT i τ1).map fun τ2 => (.nx τ2, ω1)
  | r => r
theorem STT.fz {H0 H : Hp} {ω : Ω} {σ : L2.St} {τ : Tau} (s : STT G K H0 H σ τ) (t : G.At ω H) {i : Nat} {l : Addr} {vs : List V} {xs : List D} (h : τ[i]? = some (some (.ow .L xs))) (e : σ[i]? = some (some (.ref l))) (hl : H l = some (.lst vs)) (o : Obj) :
    STT G K H0 (upd H l (.frz o (.lst vs))) σ (τ.set i (some (.d (.lst xs)))) ∧ G.At ω (upd H l (.frz o (.lst vs))) ∧ Sb im H (upd H l (.frz o (.lst vs))) := by
  obtain ⟨l', ws', e', h1, h2, h3, h4⟩ := s.getO h
  have el : l' = l := by rw [e] at e'; cases e'; rfl
  subst el
  rw [hl] at h1; cases h1
  have sb : Sb im H (upd H l' (.frz o (.lst vs))) := fun b u eb st => by
    have : b ≠ l' := fun q => by subst q; rw [hl] at eb; cases eb; exact st
    rw [upd_ne this]; exact eb
  have at' : G.At ω (upd H l' (.frz o (.lst vs))) := G.keep t (fun b o f eb => by
    have : b ≠ l' := fun q => h4 (q ▸ f)
    rw [upd_ne this]; exact eb) sb
  refine ⟨⟨by simp [s.len], fun j w c e1 e2 => ?_, fun j k a _ _ xs' zs hjk e1 e2 e3 e4 => ?_, fun b u eb nf => ?_⟩, at', sb⟩
  · by_cases hj : i = j
    · subst hj
      have hi : i < τ.length := (List.getElem?_eq_some_iff.mp h).1
      rw [List.getElem?_set_self hi] at e2
      cases e2
      rw [e] at e1; cases e1
      exact .d (.lst ⟨o, upd_same⟩ (h2.up sb))
    · rw [List.getElem?_set_ne hj] at e2
      have q := s.ok j w c e1 e2
      cases q with
      | un => exact .un
      | d r => exact .d (r.up sb)
      | @ow l2 k2 vs2 xs2 a1 a2 a3 a4 a5 =>
        have ne : l2 ≠ l' := fun q => by
          subst q
          exact s.dj i j l2 _ _ hj e h e1 e2
        exact .ow (by rw [upd_ne ne]; exact a1) (a2.up sb) a3 a4 a5
      | src => exact .src
  · have a : i ≠ j := fun q => by
      subst q
      have hi : i < τ.length := (List.getElem?_eq_some_iff.mp h).1
      rw [List.getElem?_set_self hi] at e2; cases e2
    have b : i ≠ k := fun q => by
      subst q
      have hi : i < τ.length := (List.getElem?_eq_some_iff.mp h).1
      rw [List.getElem?_set_self hi] at e4; cases e4
    rw [List.getElem?_set_ne a] at e2
    rw [List.getElem?_set_ne b] at e4
    exact s.dj j k _ _ _ hjk e1 e2 e3 e4
  · have k := s.fr b u eb nf
    have : b ≠ l' := fun q => by subst q; rw [h3] at eb; cases eb
    rw [upd_ne this]; exact k
theorem ds_fz {i : Nat} (h : DS G K W t Ft) : DS G K W (tFz i t) (sFz i Ft) := by
  intro H0 σ H ω τ s t' D ks
  refine h H0 σ H ω τ s t' _ ?_
  unfold sFz at ks
  cases e : Ft τ ω with
  | none => rw [e] at ks; exact ks
  | some p =>
    obtain ⟨fl, ω1⟩ := p
    rw [e] at ks
    cases fl with
    | nx τ1 =>
      intro σ' H' sb s' t1
      simp only at ks
      unfold fzT at ks
      split at ks
      · rename_i xs hx
        obtain ⟨l, vs, e1, h1, _⟩ := s'.getO hx
        refine ⟨l, vs, e1, h1, fun o => ?_⟩
        obtain ⟨s2, t2, sb2⟩ := s'.fz t1 hx e1 h1 o
        exact ks _ _ (sb.trans sb2) s2 t2
      · exact ks.elim
    | bk τ1 => exact ks
    | ct τ1 => exact ks
    | rt d => exact ks
    | rs x τ1 => exact ks
    | rl d => exact ks
def sPar (i j : Nat) (a b : E Ω D) : S Ω := withE a fun x => withE b fun y τ ω => some (.nx ((τ.set i (some (.d x))).set j (some (.d y))), ω)
theorem ds_par {i j : Nat} (ha : DE G K W ta Fa) (hb : DE G K W tb Fb) : DS G K W (tPar i j (tCons ta (tCons tb tNil))) (sPar i j Fa Fb) := by
  intro H0 σ H ω τ s t' D h
  refine ha H0 σ H ω τ s t' _ (Res.imp (withE_kx s t' h) (fun x ω1 H1 k1 t1 h1 v r => ?_) fun _ _ _ _ _ q => q)
  refine hb H0 σ H1 ω1 τ (s.step t' k1) t1 _ (Res.imp (withE_kx (s.step t' k1) t1 h1) (fun y ω2 H2 k2 t2 h2 v2 r2 => ?_) fun _ _ _ _ _ q => q)
  refine ⟨v, v2, rfl, h2 _ H2 .refl ?_ t2⟩
  exact (((s.step t' k1).step t1 k2).setD (r.up (k2.sb t1)) i).setD r2 j
/-- the first is a new list that is to change -/
def sParO1 (i j : Nat) (a : E Ω (List D)) (b : E Ω D) : S Ω := withE a fun x => withE b fun y τ ω => some (.nx ((τ.set i (some (.ow .L x))).set j (some (.d y))), ω)
theorem ds_parO1 {i j : Nat} (ha : DL G K W ta Fl') (hb : DE G K W tb Fb) : DS G K W (tPar i j (tCons ta (tCons tb tNil))) (sParO1 i j Fl' Fb) := by
  intro H0 σ H ω τ s t' D h
  refine ha H0 σ H ω τ s t' _ (Res.imp (withE_kx s t' h) (fun x ω1 H1 k1 t1 h1 p vs hp hl r => ?_) fun _ _ _ _ _ q => q)
  refine hb H0 σ H1 ω1 τ (s.step t' k1) t1 _ (Res.imp (withE_kx (s.step t' k1) t1 h1) (fun y ω2 H2 k2 t2 h2 v2 r2 => ?_) fun _ _ _ _ _ q => q)
  have nf : ¬ G.FP p := fun f => G.trk t' p f hp
  refine ⟨_, v2, rfl, h2 _ H2 .refl ?_ t2⟩
  exact (s.setO t' hp (k1.trans k2) (k2 p _ hl nf) (r.up (k2.sb t1)) i).setD r2 j
/-- the second is a new list that is to change -/
def sParO2 (i j : Nat) (a : E Ω D) (b : E Ω (List D)) : S Ω := withE a fun x => withE b fun y τ ω => some (.nx ((τ.set i (some (.d x))).set j (some (.ow .L y))), ω)
theorem ds_parO2 {i j : Nat} (ha : DE G K W ta Fa) (hb : DL G K W tb Fl') : DS G K W (tPar i j (tCons ta (tCons tb tNil))) (sParO2 i j Fa Fl') := by
  intro H0 σ H ω τ s t' D h
  refine ha H0 σ H ω τ s t' _ (Res.imp (withE_kx s t' h) (fun x ω1 H1 k1 t1 h1 v r => ?_) fun _ _ _ _ _ q => q)
  refine hb H0 σ H1 ω1 τ (s.step t' k1) t1 _ (Res.imp (withE_kx (s.step t' k1) t1 h1) (fun y ω2 H2 k2 t2 h2 p vs hp hl r2 => ?_) fun _ _ _ _ _ q => q)
  refine ⟨v, _, rfl, h2 _ H2 .refl ?_ t2⟩
  exact ((s.step t' k1).setD r i).setO t1 hp k2 hl r2 j
def D.tru : D → Option Bool
  | .non => some false
  | .bl b => some b
  | .int i => some (i != 0)
  | .str x => if x.length ≤ sizeLine then some ((x.length : Int) != 0) else none
  | .tup ds => some (!ds.isEmpty)
  | .lst ds => some (!ds.isEmpty)
  | _ => none
def eTru (a : E Ω D) : E Ω Bool := fun τ ω => (a τ ω).bind fun x ω1 => .ofO x.tru ω1
def rg3 : List D → Option (List D)
  | [.int i, .int j, .int c] => if 0 < c ∧ c < 1000000000 ∧ -(2 ^ 61) ≤ i ∧ i < 2 ^ 61 ∧ -(2 ^ 61) ≤ j ∧ j < 2 ^ 61 then some (rangeL i c ((j - i + c - 1) / c).toNat) else if c = -1 ∧ -(2 ^ 61) ≤ i ∧ i < 2 ^ 61 ∧ -(2 ^ 61) ≤ j ∧ j < 2 ^ 61 then some (rangeL i c (i - j).toNat) else none
  | _ => none
end
end DL
namespace DL
open PySem PySem.Spec PyProof.Rows L2
section
variable {im : Addr → Bool} {Ω : Type} {G : Gam im Ω} {K : PySem.W.Frag} {W : WX}
theorem ediv_cap {a c : Int} (hc : 0 < c) (ha : 0 < a) : (a - 1) / c + 1 = (a + c - 1) / c := by
  have : a + c - 1 = (a - 1) + c * 1 := by omega
  rw [this, Int.add_mul_ediv_left _ _ (by omega)]
theorem rgc_up {i j c : Int} (hc : 0 < c) (h9 : c < 1000000000) (h1 : -(2 ^ 61) ≤ i) (h2 : i < 2 ^ 61) (h3 : -(2 ^ 61) ≤ j) (h4 : j < 2 ^ 61) : RgC i j c ((j - i + c - 1) / c).toNat := by
  have hn : Builtin.Range.rangeSize i j c = (((j - i + c - 1) / c).toNat : Int) := by
    unfold Builtin.Range.rangeSize
    rw [if_pos hc]
    by_cases hl : i < j
    · rw [if_pos hl]
      rw [show j - i + c - 1 = (j - i) + c - 1 by omega, ← ediv_cap hc (by omega)]
      have : 0 ≤ (j - i - 1) / c := Int.ediv_nonneg (by omega) (by omega)
      omega
    · rw [if_neg hl]
      have : (j - i + c - 1) / c ≤ 0 := by
        have h : (j - i + c - 1) / c < 1 := Int.ediv_lt_of_lt_mul hc (by omega)
        omega
      omega
  refine ⟨by omega, by omega, ?_, hn⟩
  have hsz : (((j - i + c - 1) / c).toNat : Int) ≤ 2 ^ 62 := by
    have : (j - i + c - 1) / c ≤ 2 ^ 62 := by
      have h0 : (j - i + c - 1) / c ≤ max (j - i) 0 := by
        by_cases hl : i < j
        · have : (j - i + c - 1) / c ≤ j - i := by
            have e : (j - i + c - 1) / c < (j - i) + 1 := Int.ediv_lt_of_lt_mul hc (by
              have e1 : ((j - i) + 1) * c = (j - i) * c + c := by rw [Int.add_mul]; omega
              have e2 : (j - i) ≤ (j - i) * c := by
                have := Int.mul_le_mul_of_nonneg_left (show (1 : Int) ≤ c by omega) (show 0 ≤ j - i by omega)
                omega
              omega)
            omega
          omega
        · have h : (j - i + c - 1) / c < 1 := Int.ediv_lt_of_lt_mul hc (by omega)
          omega
      omega
    omega
  unfold Builtin.Range.small
  rw [hn]
  have hc' : (c > 0) = True := eq_true hc
  simp only [Builtin.Range.rangeFitsLong, Bool.and_eq_true, Bool.or_eq_true, decide_eq_true_eq, beq_iff_eq, hc', if_true]
  omega
theorem rgc_dn {i j : Int} (h1 : -(2 ^ 61) ≤ i) (h2 : i < 2 ^ 61) (h3 : -(2 ^ 61) ≤ j) (h4 : j < 2 ^ 61) : RgC i j (-1) (i - j).toNat := by
  have hn : Builtin.Range.rangeSize i j (-1) = ((i - j).toNat : Int) := by
    unfold Builtin.Range.rangeSize
    rw [if_neg (by decide)]
    simp
    split <;> omega
  refine ⟨by omega, by omega, ?_, hn⟩
  unfold Builtin.Range.small
  rw [hn]
  simp only [Builtin.Range.rangeFitsLong, Bool.and_eq_true, Bool.or_eq_true, decide_eq_true_eq, beq_iff_eq]
  simp
  omega
theorem yields_rangeC {H : Hp} {lo c : Int} {n : Nat} : Yields im K (Itc lo c n) H (rangeL lo c n) := by
  intro i H' sb
  refine ⟨fun d hd => ?_, fun hi => by rw [rangeL_len] at hi; exact hi⟩
  obtain ⟨rfl, hi⟩ := rangeL_get c n lo i d hd
  refine ⟨hi, fun x H3 y => ?_⟩
  obtain ⟨rfl, rfl⟩ := y
  exact ⟨Same.refl _, .int _⟩
theorem di_rg3 {ta : TA} {Fr : E Ω (List D)} (ha : DA G K W ta Fr) : DI G K W (iRng3 ta) (iRg rg3 Fr) := by
  intro H0 σ H ω τ s t' R h
  refine ha H0 σ H ω τ s t' _ (Res.imp (Res.bind h) (fun xs ω1 H1 k1 t1 h1 vs r => ?_) fun _ _ _ _ _ q => q)
  cases e : rg3 xs with
  | none => rw [e] at h1; exact h1.elim
  | some ds =>
    rw [e] at h1
    unfold rg3 at e
    split at e
    · cases r with
      | cons ra rb =>
        cases ra
        cases rb with
        | cons rb rc =>
          cases rb
          cases rc with
          | cons rc rd =>
            cases rc
            cases rd
            split at e
            · rename_i q
              obtain ⟨e1, e2, e3, e4, e5, e6⟩ := q
              cases e
              exact ⟨_, _, _, _, rfl, rgc_up e1 e2 e3 e4 e5 e6, h1 H1 k1 t1 _ yields_rangeC⟩
            · simp only [Option.ite_none_right_eq_some] at e
              obtain ⟨⟨e1, e2, e3, e4, e5⟩, e7⟩ := e
              cases e7
              subst e1
              exact ⟨_, _, _, _, rfl, rgc_dn e2 e3 e4 e5, h1 H1 k1 t1 _ yields_rangeC⟩
    · cases e
end
end DL
namespace DL
open PySem PySem.Spec PyProof.Rows L2
theorem room_hu {k : Nat} {A : Around} (hr : Room k A) : A.units + 200 < cLine := by have := hr.un; omega
theorem hu1 {A : Around} (h : A.units + 200 < cLine) : A.units + 1 < cLine := by omega
/-- a def of the text, where it stands -/
structure DefOk (K : PySem.W.Frag) (mg : Str → Option Value) (name : Str) (st : Stmt) (ps : List Str) where
  f : Addr
  fd : FuncData
  F : Fun K name name st f fd
  g : mg name = some (.ref f)
  b : Binds K fd ps []
/-- what is left of the script's numbers (the next one first), of the present one, a mixed number, how many were mixed -/
structure Src where
  cells : List Int
  left : Int
  mixed : Int
  turn : Int
def srcKvs (c : Addr) (ω : Src) : List (Key × V) := [(.inr "cells", .ref c), (.inr "left", .int ω.left), (.inr "mixed", .int ω.mixed), (.inr "turn", .int ω.turn)]
def srcG (im : Addr → Bool) (p : Addr × Addr) : Gam im Src where
  At := fun ω H => H p.1 = some (.dK (srcKvs p.2 ω)) ∧ H p.2 = some (.lst (ω.cells.reverse.map V.int))
  FP := fun b => b = p.1 ∨ b = p.2
  obj := .ref p.1
  keep := fun ⟨h1, h2⟩ k _ => ⟨k _ _ (.inl rfl) h1, k _ _ (.inr rfl) h2⟩
  nost := fun ⟨h1, h2⟩ b o f e s => by
    rcases f with rfl | rfl
    · rw [h1] at e; cases e; exact s
    · rw [h2] at e; cases e; exact s
  trk := fun ⟨h1, h2⟩ b f e => by
    rcases f with rfl | rfl
    · rw [h1] at e; cases e
    · rw [h2] at e; cases e
section
variable {im : Addr → Bool} {K : PySem.W.Frag} {W : WX} {p : Addr × Addr} {te : TE} {Fe : E Src D}
/-- source['left'] and the like -/
def eSrc (i : Nat) (f : Src → Int) : E Src D := fun τ ω => match τ[i]? with
  | some (some .src) => .ok (.int (f ω)) ω
  | _ => .no
def eSrcN (i : Nat) : E Src D := fun τ ω => match τ[i]? with
  | some (some .src) => .ok (.int ω.cells.length) ω
  | _ => .no
def eSrcP (i : Nat) : E Src D := fun τ ω => match τ[i]?, ω.cells with
  | some (some .src), z :: r => .ok (.int z) { ω with cells := r }
  | _, _ => .no
def sSrc (i : Nat) (f : Src → Int → Src) (e : E Src D) : S Src := withE e fun d τ ω => match τ[i]?, d with
  | some (some .src), .int z => some (.nx τ, f ω z)
  | _, _ => none
theorem valS1 (c : Addr) (ω : Src) : valV (srcKvs c ω) (.inr "cells") = some (.ref c) := by simp [srcKvs, valV, List.find?_cons]
theorem valS2 (c : Addr) (ω : Src) : valV (srcKvs c ω) (.inr "left") = some (.int ω.left) := by
  have h : ¬ (("cells" : Str) = "left") := by decide +kernel
  simp [srcKvs, valV, List.find?_cons, h]
theorem valS3 (c : Addr) (ω : Src) : valV (srcKvs c ω) (.inr "mixed") = some (.int ω.mixed) := by
  have h : ¬ (("cells" : Str) = "mixed") := by decide +kernel
  have h2 : ¬ (("left" : Str) = "mixed") := by decide +kernel
  simp [srcKvs, valV, List.find?_cons, h, h2]
theorem valS4 (c : Addr) (ω : Src) : valV (srcKvs c ω) (.inr "turn") = some (.int ω.turn) := by
  have h : ¬ (("cells" : Str) = "turn") := by decide +kernel
  have h2 : ¬ (("left" : Str) = "turn") := by decide +kernel
  have h3 : ¬ (("mixed" : Str) = "turn") := by decide +kernel
  simp [srcKvs, valV, List.find?_cons, h, h2, h3]
theorem putS2 (c : Addr) (ω : Src) (z : Int) : putK (srcKvs c ω) (.inr "left") (.int z) = srcKvs c { ω with left := z } := by
  have h : ¬ (("cells" : Str) = "left") := by decide +kernel
  have h3 : ¬ (("mixed" : Str) = "left") := by decide +kernel
  have h4 : ¬ (("turn" : Str) = "left") := by decide +kernel
  simp [srcKvs, putK, h, h3, h4]
theorem putS3 (c : Addr) (ω : Src) (z : Int) : putK (srcKvs c ω) (.inr "mixed") (.int z) = srcKvs c { ω with mixed := z } := by
  have h : ¬ (("cells" : Str) = "mixed") := by decide +kernel
  have h2 : ¬ (("left" : Str) = "mixed") := by decide +kernel
  have h4 : ¬ (("turn" : Str) = "mixed") := by decide +kernel
  simp [srcKvs, putK, h, h2, h4]
theorem putS4 (c : Addr) (ω : Src) (z : Int) : putK (srcKvs c ω) (.inr "turn") (.int z) = srcKvs c { ω with turn := z } := by
  have h : ¬ (("cells" : Str) = "turn") := by decide +kernel
  have h2 : ¬ (("left" : Str) = "turn") := by decide +kernel
  have h3 : ¬ (("mixed" : Str) = "turn") := by decide +kernel
  simp [srcKvs, putK, h, h2, h3]
theorem de_src {i : Nat} {x : Str} {f : Src → Int} (hv : ∀ c ω, valV (srcKvs c ω) (.inr x) = some (.int (f ω))) : DE (srcG im p) K W (tDGet (tVar i) (tC (.str x))) (eSrc i f) := by
  intro H0 σ H ω τ s t Q h
  unfold eSrc at h
  split at h
  · rename_i hx
    refine ⟨_, s.getS hx, p.1, .int (f ω), rfl, ?_, h H .refl t _ (.int _)⟩
    have := DGet.k (k := .inr x) t.1
    rw [hv] at this
    exact this
  · exact h.elim
theorem de_srcL {i : Nat} : DE (srcG im p) K W (tDGet (tVar i) (tC (.str "left"))) (eSrc i Src.left) := de_src valS2
theorem de_srcM {i : Nat} : DE (srcG im p) K W (tDGet (tVar i) (tC (.str "mixed"))) (eSrc i Src.mixed) := de_src valS3
theorem de_srcT {i : Nat} : DE (srcG im p) K W (tDGet (tVar i) (tC (.str "turn"))) (eSrc i Src.turn) := de_src valS4
theorem de_srcN {i : Nat} : DE (srcG im p) K W (tCB (fun xs H Q => ∃ p ys, xs = [.ref p] ∧ (SqL K H p ys ∨ SqT K H p ys) ∧ Q (.int ys.length) H) (tCons (tDGet (tVar i) (tC (.str "cells"))) tNil)) (eSrcN i) := by
  intro H0 σ H ω τ s t Q h
  unfold eSrcN at h
  split at h
  · rename_i hx
    have g := DGet.k (k := .inr "cells") t.1
    rw [valS1] at g
    refine ⟨_, s.getS hx, p.1, .ref p.2, rfl, g, p.2, _, rfl, .inl (SqL.of t.2), ?_⟩
    have hl : (ω.cells.reverse.map V.int).length = ω.cells.length := by simp
    rw [hl]
    exact h H .refl t _ (.int _)
  · exact h.elim
theorem de_srcP {i : Nat} : DE (srcG im p) K W (tBM0 K "list" rPop (tDGet (tVar i) (tC (.str "cells")))) (eSrcP i) := by
  intro H0 σ H ω τ s t Q h
  unfold eSrcP at h
  split at h
  · rename_i z r hx hc
    have g := DGet.k (k := .inr "cells") t.1
    rw [valS1] at g
    refine ⟨_, s.getS hx, p.1, .ref p.2, rfl, g, .inl ⟨rfl, _, SqL.of t.2⟩, p.2, _, .int z, rfl, rfl, t.2, ?_, ?_⟩
    · rw [hc]; simp
    · have hd : (ω.cells.reverse.map V.int).dropLast = r.reverse.map V.int := by
        rw [hc, List.reverse_cons, List.map_append, List.map_singleton, List.dropLast_concat]
      rw [hd]
      have ne : p.1 ≠ p.2 := ne_of t.1 t.2 (by intro z; cases z)
      refine h _ (fun b o e nf => ?_) ⟨?_, upd_same⟩ _ (.int z)
      · have : b ≠ p.2 := fun q => nf (.inr q)
        rw [upd_ne this]; exact e
      · rw [upd_ne ne]; exact t.1
  · exact h.elim
theorem ds_src {i : Nat} {x : Str} {f : Src → Int → Src} (hp : ∀ c ω z, putK (srcKvs c ω) (.inr x) (.int z) = srcKvs c (f ω z)) (hf : ∀ ω z, (f ω z).cells = ω.cells) (he : DE (srcG im p) K W te Fe) : DS (srcG im p) K W (sDPut (tVar i) (tC (.str x)) te) (sSrc i f Fe) := by
  intro H0 σ H ω τ s t D h
  refine he H0 σ H ω τ s t _ (Res.imp (withE_kx s t h) (fun d ω1 H1 k1 t1 h1 v r => ?_) fun _ _ _ _ _ q => q)
  have s1 := s.step t k1
  split at h1
  · rename_i z hx
    cases r
    have ne : p.1 ≠ p.2 := ne_of t1.1 t1.2 (by intro z; cases z)
    have g := DPut.k (k := .inr x) (v := .int z) t1.1 (by show 4 < sizeLine; rw [sizeLine_eq]; decide)
    rw [hp] at g
    have sb : Sb im H1 (upd H1 p.1 (.dK (srcKvs p.2 (f ω1 z)))) := fun b o e st => by
      have : b ≠ p.1 := fun q => by subst q; rw [t1.1] at e; cases e; exact st
      rw [upd_ne this]; exact e
    have t2 : (srcG im p).At (f ω1 z) (upd H1 p.1 (.dK (srcKvs p.2 (f ω1 z)))) := ⟨upd_same, by rw [upd_ne ne.symm, hf]; exact t1.2⟩
    refine ⟨_, s1.getS hx, p.1, _, rfl, g, h1 σ _ sb ?_ t2⟩
    exact s1.step t1 fun b o e nf => by
      have : b ≠ p.1 := fun q => nf (.inl q)
      rw [upd_ne this]; exact e
  · exact h1.elim
theorem ds_srcL {i : Nat} (he : DE (srcG im p) K W te Fe) : DS (srcG im p) K W (sDPut (tVar i) (tC (.str "left")) te) (sSrc i (fun ω z => { ω with left := z }) Fe) := ds_src putS2 (fun _ _ => rfl) he
theorem ds_srcM {i : Nat} (he : DE (srcG im p) K W te Fe) : DS (srcG im p) K W (sDPut (tVar i) (tC (.str "mixed")) te) (sSrc i (fun ω z => { ω with mixed := z }) Fe) := ds_src putS3 (fun _ _ => rfl) he
theorem ds_srcT {i : Nat} (he : DE (srcG im p) K W te Fe) : DS (srcG im p) K W (sDPut (tVar i) (tC (.str "turn")) te) (sSrc i (fun ω z => { ω with turn := z }) Fe) := ds_src putS4 (fun _ _ => rfl) he
end
section
variable {im : Addr → Bool} {P : Program} {w : World} {K : PySem.W.Frag} {mg : Str → Option Value} {base : Heap}
theorem fn_Dx {x qual : Str} {st : Stmt} {f : Addr} {fd : FuncData} {N ps : List Str} {k k' j : Nat} {F : S Unit} {F' : List D → R Unit D} (Fn : Fun K x qual st f fd) (Sc : FnScope N ps (defScope st))
    (ek : k' = k + 1) (ej : j = ps.length) (eF : F' = fun ds => nox (runS F (startT N.length (ds.map .d)) ()))
    (hb : ∀ (cdv : Value) (A : Around) (outer : List Env) (s : Shared) (H : Hp) (Ex : XK), Room k (A.deeper (envOfC qual (defScope st) s.heap.objs.size f cdv)) →
      ∃ t, PSs (cxOf CX0 P w K mg base N qual (defScope st) f cdv A outer s H Ex).nox (defBody st) t ∧ DS (gam0 im) K (fun _ _ _ _ => False) t F) :
    FnOk P w K mg base CX0 k' f fd ps (spD K im j F') := by
  subst ek ej eF; exact fn_D Fn Sc hb
theorem fn_Wx {Ω Pp : Type} {Γ : Pp → Gam im Ω} {x qual : Str} {st : Stmt} {f : Addr} {fd : FuncData} {N ps : List Str} {k k' j : Nat} {F : S Ω} {F' : List D → Ω → R Ω D} (Fn : Fun K x qual st f fd) (Sc : FnScope N ps (defScope st))
    (ek : k' = k + 1) (ej : j = ps.length) (eF : F' = fun ds ω => nox (runS F (startT N.length (.src :: ds.map .d)) ω))
    (hb : ∀ (p : Pp) (cdv : Value) (A : Around) (outer : List Env) (s : Shared) (H : Hp) (Ex : XK), Room k (A.deeper (envOfC qual (defScope st) s.heap.objs.size f cdv)) →
      ∃ t, PSs (cxOf CX0 P w K mg base N qual (defScope st) f cdv A outer s H Ex).nox (defBody st) t ∧ DS (Γ p) K (fun _ _ _ _ => False) t F) :
    FnOk P w K mg base CX0 k' f fd ps (spW K Γ j 0 F') := by
  subst ek ej eF; exact fn_W Fn Sc hb
end
end DL
namespace DL
open PySem PySem.Spec PyProof.Rows L2
/-- as FnOk, for calls while nothing is being shown -/
structure GOk (P : Program) (w : World) (K : PySem.W.Frag) (mg : Str → Option Value) (base : Heap) (k : Nat) (f : Addr) (fd : FuncData) (ps : List Str) (sp : Sp) : Prop where
  arity : ∀ vs H Q Ex, sp vs H Q Ex → vs.length = ps.length
  enter : ∀ (A : Around) (outer : List Env) (s : Shared) (H : Hp) (args : Args) (us : List Value) (vs : List V) (Q : VK) (Ex : XK), A.guards = some [] → Room k A → Env0 P w K mg base A outer s H →
    BindsTo s fd args (ps.zip us) → Vals vs us → sp vs H Q Ex → codeAny (model P w) A (.call (.ref f) args) (CR CX0 outer P w H s Q Ex) s
section
variable {P : Program} {w : World} {K : PySem.W.Frag} {mg : Str → Option Value} {base : Heap} {k j : Nat} {f : Addr} {fd : FuncData} {N ps : List Str} {sp : Sp} {x qual : Str} {st : Stmt}
theorem GOk.of (F : FnOk P w K mg base CX0 k f fd ps sp) : GOk P w K mg base k f fd ps sp := ⟨F.len, fun A o s H a us vs Q Ex _ r => F.run A o s H a us vs Q Ex r⟩
theorem GOk.mono (F : GOk P w K mg base j f fd ps sp) (h : j ≤ k) : GOk P w K mg base k f fd ps sp := ⟨F.arity, fun A o s H a us vs Q Ex g r => F.enter A o s H a us vs Q Ex g (r.mono h)⟩
end
def reprD : D → Option D
  | .int i => if i.natAbs.log2 < 1920 then some (.str (toString i)) else none
  | .bl b => some (.str (if b then "True" else "False"))
  | .non => some (.str "None")
  | .str x => if (reprText x).length ≤ sizeLine then some (.str (reprText x)) else none
  | .tup ds => match (D.tup ds).py with
    | some p => if p.showable = true ∧ p.hasDict = false ∧ p.depth ≤ 150 ∧ p.shown.length ≤ sizeLine then some (.str p.shown) else none
    | none => none
  | .lst ds => match (D.lst ds).py with
    | some p => if p.showable = true ∧ p.hasDict = false ∧ p.depth ≤ 150 ∧ p.shown.length ≤ sizeLine then some (.str p.shown) else none
    | none => none
  | .dic ks _ => if ks.isEmpty = true then some (.str "{}") else none
  | _ => none
section
variable {X : Cx} {im : Addr → Bool}
theorem repr_empty {pins : List (Addr × Obj)} {s : Shared} {σ : L2.St} {H : Hp} {Q : VK} {a : Addr} {o : Obj} (hu : X.A.units + 200 < cLine) (gu : X.A.guards = some []) (I : Inv X pins σ H s) (h : H a = some (.frz o (.dK []))) (q : Q (.str "{}") H) : wpAny (model X.prog X.w) X.A (call (.builtin "repr") [.ref a]) (EP X pins σ Q) X.xe s := by
  obtain ⟨h1, h2, h3, es, ep, vs, h4, h5, _, _⟩ := I.frzK h
  have he : es = #[] := Array.eq_empty_of_size_eq_zero h5
  subst he
  have r : Reads s.heap (.ref a) (.dict []) (a :: [] ++ []) := .dict h2 h3.1 h4 .nil .nil
  refine repr_of_reads' r rfl (fun _ hm => ?_) gu (by simp [PyData.depth, PyData.depthKv]; omega) (fun _ _ e => e) (fun h' u tk more => ⟨.str _, H, I.kept more, ⟨u, rfl⟩, q⟩) (by decide +kernel)
  have : sysModules = a := by simpa using hm
  rw [this] at h1
  simp at h1
theorem repr_run {pins : List (Addr × Obj)} {s : Shared} {σ : L2.St} {H : Hp} {Q : VK} {v : V} {d : D} {p : PyData} {a : Addr} (hu : X.A.units + 200 < cLine) (gu : X.A.guards = some []) (I : Inv X pins σ H s) (rx : RelV v (.ref a)) (hd : Rep X.K im H v d) (e : d.py = some p)
    (h : p.showable = true ∧ p.hasDict = false ∧ p.depth ≤ 150 ∧ p.shown.length ≤ sizeLine) (q : Q (.str p.shown) H) : wpAny (model X.prog X.w) X.A (call (.builtin "repr") [.ref a]) (EP X pins σ Q) X.xe s := by
  obtain ⟨as, r⟩ := Dp.reads I p v (.ref a) (Rep.dp _ _ _ hd e) rx
  exact repr_of_reads' r h.1 (PyData.noDict_hsm h.2.1) gu (by omega) (fun _ _ e => e) (fun h' u tk more => ⟨.str _, H, I.kept more, ⟨u, rfl⟩, q⟩) h.2.2.2
theorem call_reprDD (hu : X.A.units + 200 < cLine) (gu : X.A.guards = some []) : CallR X (.builtin "repr") (rDN X.K im (un1 reprD)) := by
  intro pins s σ H xs us Q I r h
  obtain ⟨ds, z, hd, hz, q⟩ := h
  obtain ⟨v, d, rfl, hd, hz⟩ := un1_ok hd hz
  cases hd with
  | int i =>
    unfold reprD at hz
    dsimp only at hz
    split at hz
    · rename_i c
      cases hz
      exact SkE.call_repr_int pins s σ H _ us Q I r ⟨i, rfl, c, q _ _ (Same.refl _) (.str _)⟩
    · cases hz
  | bl b =>
    obtain ⟨u, rfl, rx⟩ := vals1 r
    cases rx
    cases hz
    exact PySem.P.repr_of_bool ⟨.str _, H, I.tok _, ⟨_, rfl⟩, q _ _ (Same.refl _) (.str _)⟩
  | non =>
    obtain ⟨u, rfl, rx⟩ := vals1 r
    cases rx
    cases hz
    exact PySem.P.repr_of_none ⟨.str _, H, I.tok _, ⟨_, rfl⟩, q _ _ (Same.refl _) (.str _)⟩
  | str x =>
    obtain ⟨u, rfl, t, rfl⟩ := vals1 r
    unfold reprD at hz
    dsimp only at hz
    split at hz
    · rename_i c
      cases hz
      exact PySem.P.repr_of_str ⟨.str _, H, I.tok _, ⟨_, rfl⟩, q _ _ (Same.refl _) (.str _)⟩ c
    · cases hz
  | @tup a vs ds h1 h2 =>
    obtain ⟨u, rfl, rx⟩ := vals1 r
    cases rx
    unfold reprD at hz
    dsimp only at hz
    cases e : (D.tup ds).py with
    | none => rw [e] at hz; cases hz
    | some p =>
      rw [e] at hz
      dsimp only at hz
      split at hz
      · rename_i c
        cases hz
        exact repr_run (v := V.ref a) hu gu I (show RelV (V.ref a) (.ref a) from rfl) (.tup h1 h2) e c (q _ _ (Same.refl _) (.str _))
      · cases hz
  | @lst a vs ds h1 h2 =>
    obtain ⟨u, rfl, rx⟩ := vals1 r
    cases rx
    unfold reprD at hz
    dsimp only at hz
    cases e : (D.lst ds).py with
    | none => rw [e] at hz; cases hz
    | some p =>
      rw [e] at hz
      dsimp only at hz
      split at hz
      · rename_i c
        cases hz
        exact repr_run (v := V.ref a) hu gu I (show RelV (V.ref a) (.ref a) from rfl) (.lst h1 h2) e c (q _ _ (Same.refl _) (.str _))
      · cases hz
  | @dic a o ks vs ds h1 h2 h3 =>
    obtain ⟨u, rfl, rx⟩ := vals1 r
    cases rx
    unfold reprD at hz
    dsimp only at hz
    split at hz
    · rename_i c
      cases hz
      obtain rfl : ks = [] := List.isEmpty_iff.mp c
      rw [List.zip_nil_left] at h1
      exact repr_empty hu gu I h1 (q _ _ (Same.refl _) (.str _))
    · cases hz
  | _ => cases hz
end
section
variable {im : Addr → Bool} {P : Program} {w : World} {K : PySem.W.Frag} {mg : Str → Option Value} {base : Heap}
theorem GOk.no {f : Addr} {fd : FuncData} {ps : List Str} {k : Nat} {sp : Sp} (h : ∀ vs H Q Ex, ¬ sp vs H Q Ex) : GOk P w K mg base k f fd ps sp :=
  ⟨fun vs H Q Ex q => (h vs H Q Ex q).elim, fun _ _ _ H _ _ vs Q Ex _ _ _ _ _ q => (h vs H Q Ex q).elim⟩
end
end DL
namespace DL
open PySem PySem.Spec PyProof.Rows L2
def D.ty : D → Option String
  | .non => some "NoneType"
  | .bl _ => some "bool"
  | .int _ => some "int"
  | .str _ => some "str"
  | .tup _ => some "tuple"
  | .lst _ => some "list"
  | .dic _ _ => some "dict"
  | _ => none
def isiD (c : String) (d : D) : Option D := match d.ty with
  | some t => (kitB t c).map .bl
  | none => none
section
variable {im : Addr → Bool} {Ω : Type} {G : Gam im Ω} {K : PySem.W.Frag} {W : WX} {te : TE} {Fe : E Ω D} {H : Hp}
theorem Rep.ty {v : V} {d : D} {t : String} (h : Rep K im H v d) (e : d.ty = some t) : TyX K H v (.type t) := by
  cases h with
  | non => cases e; exact .base .non
  | bl b => cases e; exact .base (.bl b)
  | int i => cases e; exact .base (.int i)
  | str x => cases e; exact .base (.str x)
  | tup h1 h2 =>
    cases e
    exact .base (.tup h1)
  | lst h1 h2 =>
    cases e
    obtain ⟨o, h⟩ := h1
    exact .base (.frz h)
  | dic h1 h2 h3 =>
    cases e
    exact .fDict h1
  | _ => cases e
/-- one class -/
theorem de_isi {c : String} (he : DE G K W te Fe) : DE G K W (tCB (rIsi K) (tCons te (tCons (tC (.ty c)) tNil))) (eUn (isiD c) Fe) := by
  intro H0 σ H ω τ s t Q h
  refine he H0 σ H ω τ s t _ (Res.imp (Res.bind h) (fun d ω1 H1 k1 t1 h1 v r => ?_) fun _ _ _ _ _ q => q)
  cases e : isiD c d with
  | none => rw [e] at h1; exact h1.elim
  | some z =>
    rw [e] at h1
    unfold isiD at e
    cases q : d.ty with
    | none => rw [q] at e; cases e
    | some n =>
      rw [q] at e
      obtain ⟨b, hb, rfl⟩ := Option.map_eq_some_iff.mp e
      exact ⟨v, .ty c, _, _, b, rfl, .ty c, Rep.ty r q, kit_ty hb, h1 H1 k1 t1 _ (.bl b)⟩
end
def D.flat : D → Bool
  | .non => true
  | .bl _ => true
  | .int _ => true
  | .str _ => true
  | _ => false
def D.v : D → V
  | .bl b => .bl b
  | .int i => .int i
  | .str x => .str x
  | _ => .non
def inF (x : D) (ys : List D) : Option Bool := if x.flat = true ∧ ys.all D.flat = true then some (inV x.v (ys.map D.v)) else none
def inB (x : D) : D → Option Bool
  | .tup ys => inF x ys
  | .lst ys => match inF x ys with
    | some b => some b
    | none => match x.py, D.pyL ys with
      | some d, some ds => if SeqAt.shaped d = true ∧ SeqAt.shaped (.list ds) = true then some (ds.any fun z => PyData.eqv z d) else none
      | _, _ => none
  | _ => none
def inD (x y : D) : Option D := (inB x y).map .bl
def ninD (x y : D) : Option D := (inB x y).map fun b => .bl (!b)
section
variable {im : Addr → Bool} {K : PySem.W.Frag} {H : Hp}
theorem Rep.flat {v : V} {d : D} (h : Rep K im H v d) (f : d.flat = true) : v = d.v ∧ flatV v = true := by
  cases h <;> first | exact ⟨rfl, rfl⟩ | cases f
theorem RepL.flat : ∀ {vs : List V} {ds : List D}, RepL K im H vs ds → ds.all D.flat = true → vs = ds.map D.v ∧ vs.all flatV = true
  | _, _, .nil, _ => ⟨rfl, rfl⟩
  | _, _, .cons h t, f => by
    rw [List.all_cons, Bool.and_eq_true] at f
    obtain ⟨e1, f1⟩ := h.flat f.1
    obtain ⟨e2, f2⟩ := RepL.flat t f.2
    exact ⟨by rw [List.map_cons, ← e1, ← e2], by rw [List.all_cons, f1, f2]; rfl⟩
end
section
variable {X : Cx} {im : Addr → Bool} {pins : List (Addr × Obj)} {s : Shared} {σ : L2.St} {H : Hp} {x y : V} {u w : Value} {d e : D} {b : Bool}
/-- what the library's rules for in ask -/
theorem in_ways (hd : Rep X.K im H x d) (he : Rep X.K im H y e) (hb : inB d e = some b) :
    (∃ p xs, y = .ref p ∧ (SqL X.K H p xs ∨ SqT X.K H p xs) ∧ flatV x = true ∧ xs.all flatV = true ∧ b = inV x xs) ∨
    (∃ q qs, Dp X.K H x q ∧ Dp X.K H y (.list qs) ∧ SeqAt.shaped q = true ∧ SeqAt.shaped (.list qs) = true ∧ b = qs.any fun z => PyData.eqv z q) := by
  have flatly : ∀ {vs : List V} {ys : List D}, RepL X.K im H vs ys → inF d ys = some b → flatV x = true ∧ vs.all flatV = true ∧ b = inV x vs := by
    intro vs ys r z
    unfold inF at z
    split at z
    · rename_i c
      cases z
      obtain ⟨e1, f1⟩ := hd.flat c.1
      obtain ⟨e2, f2⟩ := r.flat c.2
      exact ⟨f1, f2, by rw [← e1, ← e2]⟩
    · cases z
  cases he with
  | tup h1 h2 =>
    obtain ⟨f1, f2, f3⟩ := flatly h2 hb
    exact .inl ⟨_, _, rfl, .inr h1, f1, f2, f3⟩
  | @lst a vs ys h1 h2 =>
    unfold inB at hb
    dsimp only at hb
    cases z : inF d ys with
    | some b' =>
      rw [z] at hb
      cases hb
      obtain ⟨f1, f2, f3⟩ := flatly h2 z
      exact .inl ⟨_, _, rfl, .inl h1.l, f1, f2, f3⟩
    | none =>
      rw [z] at hb
      dsimp only at hb
      split at hb
      · rename_i q qs e1 e2
        split at hb
        · rename_i c
          cases hb
          have e3 : (D.lst ys).py = some (.list qs) := by rw [D.py, e2]; rfl
          exact .inr ⟨q, qs, Rep.dp _ _ _ hd e1, Rep.dp _ _ _ (.lst h1 h2) e3, c.1, c.2, rfl⟩
        · cases hb
      · cases hb
  | _ => cases hb
theorem op_inDD (hu : X.A.units + 200 < cLine) : OpR X (compareOp .In) (rD2 X.K im inD) := by
  intro pins s σ H x y v u Q I rx ry h
  obtain ⟨d, e, z, hd, he, hz, q⟩ := h
  obtain ⟨b, hb, rfl⟩ := Option.map_eq_some_iff.mp hz
  rcases in_ways hd he hb with ⟨p, xs, c1, c2, c3, c4, c5⟩ | ⟨d1, ds, c1, c2, c3, c4, c5⟩
  · exact op_in_seq pins s σ H x y v u Q I rx ry ⟨p, xs, c1, c2, c3, c4, by rw [← c5]; exact q _ _ (Same.refl _) (.bl _)⟩
  · exact op_inD (by omega) pins s σ H x y v u Q I rx ry ⟨d1, ds, c1, c2, c3, c4, by rw [← c5]; exact q _ _ (Same.refl _) (.bl _)⟩
theorem op_ninDD (hu : X.A.units + 200 < cLine) : OpR X (compareOp .NotIn) (rD2 X.K im ninD) := by
  intro pins s σ H x y v u Q I rx ry h
  obtain ⟨d, e, z, hd, he, hz, q⟩ := h
  obtain ⟨b, hb, rfl⟩ := Option.map_eq_some_iff.mp hz
  rcases in_ways hd he hb with ⟨p, xs, c1, c2, c3, c4, c5⟩ | ⟨d1, ds, c1, c2, c3, c4, c5⟩
  · exact op_notIn_seq pins s σ H x y v u Q I rx ry ⟨p, xs, c1, c2, c3, c4, by rw [← c5]; exact q _ _ (Same.refl _) (.bl _)⟩
  · exact op_notInD (by omega) pins s σ H x y v u Q I rx ry ⟨d1, ds, c1, c2, c3, c4, by rw [← c5]; exact q _ _ (Same.refl _) (.bl _)⟩
end
end DL
namespace DL
open PySem PySem.Spec PyProof.Rows L2
section
variable {Ω α β : Type}
/-- a run ends well with P, or with an exception in X -/
@[irreducible] def R.wp (r : R Ω α) (P : α → Ω → Prop) (X : Exn → Ω → Prop) : Prop := match r with
  | .ok a ω => P a ω
  | .ex x ω => X x ω
  | .no => False
@[irreducible] def sw (o : Option (Fl × Ω)) (P : Fl → Ω → Prop) : Prop := match o with
  | some (f, ω) => P f ω
  | none => False
abbrev X0 : Exn → Ω → Prop := fun _ _ => False
theorem wp_ok {a : α} {ω : Ω} {P X} : (R.ok a ω).wp P X = P a ω := by with_unfolding_all rfl
theorem wp_bind {r : R Ω α} {f : α → Ω → R Ω β} {P X} : (r.bind f).wp P X = r.wp (fun a ω => (f a ω).wp P X) X := by cases r <;> with_unfolding_all rfl
theorem wp_nox {r : R Ω α} {P X} : (nox r).wp P X = r.wp P X0 := by cases r <;> with_unfolding_all rfl
theorem wp_lift {r : R Unit α} {ω : Ω} {P X} : (lift r ω).wp P X = r.wp (fun a _ => P a ω) (fun x _ => X x ω) := by cases r <;> with_unfolding_all rfl
theorem wp_some {a : α} {ω : Ω} {P X} : (R.ofO (some a) ω).wp P X = P a ω := by with_unfolding_all rfl
theorem R.wp.mono {r : R Ω α} {P P' : α → Ω → Prop} {X X' : Exn → Ω → Prop} (h : r.wp P X) (k : ∀ a ω, P a ω → P' a ω) (kx : ∀ x ω, X x ω → X' x ω := by exact fun _ _ h => h) : r.wp P' X' := by
  cases r with
  | ok a ω => with_unfolding_all exact k _ _ h
  | ex x ω => with_unfolding_all exact kx _ _ h
  | no => with_unfolding_all exact h
theorem R.wp.eq {r : R Ω α} {a : α} {ω : Ω} (h : r.wp (fun b ω' => b = a ∧ ω' = ω) X0) : r = .ok a ω := by
  unfold R.wp at h
  cases r with
  | ok b ω' => obtain ⟨rfl, rfl⟩ := h; with_unfolding_all rfl
  | ex x ω => exact h.elim
  | no => exact h.elim
theorem R.wp.equ {r : R Unit α} {a : α} (h : r.wp (fun b _ => b = a) X0) : r = .ok a () := by
  unfold R.wp at h
  cases r with
  | ok b ω' => cases h; with_unfolding_all rfl
  | ex x ω => exact h.elim
  | no => exact h.elim
theorem R.wp.ex {r : R Ω α} {P : α → Ω → Prop} (h : r.wp P X0) : ∃ a ω, r = .ok a ω ∧ P a ω := by
  cases r with
  | ok b ω' => with_unfolding_all exact ⟨_, _, rfl, h⟩
  | ex x ω => with_unfolding_all exact h.elim
  | no => with_unfolding_all exact h.elim
theorem sw_some {f : Fl} {ω : Ω} {P} : sw (some (f, ω)) P = P f ω := by with_unfolding_all rfl
theorem sw.mono {o : Option (Fl × Ω)} {P P' : Fl → Ω → Prop} (h : sw o P) (k : ∀ f ω, P f ω → P' f ω) : sw o P' := by
  cases o with
  | none => with_unfolding_all exact h
  | some p => with_unfolding_all exact k _ _ h
theorem sw_withE {e : E Ω α} {k : α → S Ω} {τ : Tau} {ω : Ω} {P} : sw (withE e k τ ω) P = (e τ ω).wp (fun a ω1 => sw (k a τ ω1) P) (fun x ω1 => P (.rs x τ) ω1) := by
  unfold withE; cases e τ ω <;> with_unfolding_all rfl
theorem sw_seq {a b : S Ω} {τ : Tau} {ω : Ω} {P} : sw (sSeq a b τ ω) P = sw (a τ ω) (fun f ω1 => match f with | .nx τ1 => sw (b τ1 ω1) P | f => P f ω1) := by
  unfold sSeq
  rcases a τ ω with _ | ⟨fl, ω1⟩
  · with_unfolding_all rfl
  · cases fl <;> with_unfolding_all rfl
theorem sw_if {c : E Ω Bool} {a b : S Ω} {τ : Tau} {ω : Ω} {P} : sw (sIf c a b τ ω) P = (c τ ω).wp (fun x ω1 => if x then sw (a τ ω1) P else sw (b τ ω1) P) (fun x ω1 => P (.rs x τ) ω1) := by
  unfold sIf; rw [sw_withE]; congr; funext x ω1; cases x <;> with_unfolding_all rfl
theorem sw_ret {e : E Ω D} {τ : Tau} {ω : Ω} {P} : sw (sRet e τ ω) P = (e τ ω).wp (fun d ω1 => P (.rt d) ω1) (fun x ω1 => P (.rs x τ) ω1) := by
  unfold sRet; rw [sw_withE]; with_unfolding_all rfl
theorem sw_asg {e : E Ω D} {B : D → Tau → Option Tau} {τ : Tau} {ω : Ω} {P} : sw (sAsg e B τ ω) P = (e τ ω).wp (fun d ω1 => ∃ τ1, B d τ = some τ1 ∧ P (.nx τ1) ω1) (fun x ω1 => P (.rs x τ) ω1) := by
  unfold sAsg; rw [sw_withE]; congr; funext d ω1; cases B d τ <;> simp [sw]
theorem sw_asgN {e : E Ω D} {i : Nat} {τ : Tau} {ω : Ω} {P} : sw (sAsg e (bName i) τ ω) P = (e τ ω).wp (fun d ω1 => P (.nx (τ.set i (some (.d d)))) ω1) (fun x ω1 => P (.rs x τ) ω1) := by
  rw [sw_asg]; simp [bName]
theorem sw_setO {e : E Ω (List D)} {i : Nat} {τ : Tau} {ω : Ω} {P} : sw (sSetO e i τ ω) P = (e τ ω).wp (fun ds ω1 => P (.nx (τ.set i (some (.ow .L ds)))) ω1) (fun x ω1 => P (.rs x τ) ω1) := by
  unfold sSetO; rw [sw_withE]; with_unfolding_all rfl
theorem sw_nx {τ : Tau} {ω : Ω} {P} : sw (sNx τ ω) P = P (.nx τ) ω := by with_unfolding_all rfl
theorem sw_par {i j : Nat} {a b : E Ω D} {τ : Tau} {ω : Ω} {P} : sw (sPar i j a b τ ω) P = (a τ ω).wp (fun x ω1 => (b τ ω1).wp (fun y ω2 => P (.nx ((τ.set i (some (.d x))).set j (some (.d y)))) ω2) (fun x ω1 => P (.rs x τ) ω1)) (fun x ω1 => P (.rs x τ) ω1) := by
  unfold sPar; simp only [sw_withE]; with_unfolding_all rfl
theorem sw_parO1 {i j : Nat} {a : E Ω (List D)} {b : E Ω D} {τ : Tau} {ω : Ω} {P} : sw (sParO1 i j a b τ ω) P = (a τ ω).wp (fun x ω1 => (b τ ω1).wp (fun y ω2 => P (.nx ((τ.set i (some (.ow .L x))).set j (some (.d y)))) ω2) (fun x ω1 => P (.rs x τ) ω1)) (fun x ω1 => P (.rs x τ) ω1) := by
  unfold sParO1; simp only [sw_withE]; with_unfolding_all rfl
theorem sw_parO2 {i j : Nat} {a : E Ω D} {b : E Ω (List D)} {τ : Tau} {ω : Ω} {P} : sw (sParO2 i j a b τ ω) P = (a τ ω).wp (fun x ω1 => (b τ ω1).wp (fun y ω2 => P (.nx ((τ.set i (some (.d x))).set j (some (.ow .L y)))) ω2) (fun x ω1 => P (.rs x τ) ω1)) (fun x ω1 => P (.rs x τ) ω1) := by
  unfold sParO2; simp only [sw_withE]; with_unfolding_all rfl
theorem sw_app {i : Nat} {e : E Ω D} {τ : Tau} {ω : Ω} {P} {xs : List D} (h : τ[i]? = some (some (.ow .L xs))) (hl : xs.length ≤ 100000) : sw (sApp i e τ ω) P = (e τ ω).wp (fun d ω1 => P (.nx (τ.set i (some (.ow .L (xs ++ [d]))))) ω1) (fun x ω1 => P (.rs x τ) ω1) := by
  unfold sApp; rw [h]; simp only [sw_withE]; congr; funext d ω1; rw [if_pos hl]; with_unfolding_all rfl
theorem sw_retO {i : Nat} {τ : Tau} {ω : Ω} {P} {xs : List D} (h : τ[i]? = some (some (.ow .L xs))) : sw (sRetO i τ ω) P = P (.rt (.lst xs)) ω := by
  unfold sRetO; rw [h]; with_unfolding_all rfl
theorem sw_fz {i : Nat} {F : S Ω} {τ : Tau} {ω : Ω} {P} : sw (sFz i F τ ω) P = sw (F τ ω) (fun f ω1 => match f with | .nx τ1 => ∃ τ2, fzT i τ1 = some τ2 ∧ P (.nx τ2) ω1 | f => P f ω1) := by
  unfold sFz
  rcases F τ ω with _ | ⟨fl, ω1⟩
  · with_unfolding_all rfl
  · cases fl with
    | nx τ1 => cases e : fzT i τ1 <;> simp [sw, e]
    | _ => with_unfolding_all rfl
theorem wp_runS {F : S Ω} {τ : Tau} {ω : Ω} {P X} : (runS F τ ω).wp P X = sw (F τ ω) (fun f ω' => match f with | .rt d => P d ω' | .nx _ => P .non ω' | .rs x _ => X x ω' | _ => False) := by
  unfold runS
  rcases F τ ω with _ | ⟨fl, ω1⟩
  · with_unfolding_all rfl
  · cases fl <;> with_unfolding_all rfl
theorem sw_for {i : E Ω (List D)} {B : D → Tau → Option Tau} {F : S Ω} {τ : Tau} {ω : Ω} {P} : sw (sFor i B F τ ω) P = (i τ ω).wp (fun ds ω1 => sw (loop B F ds τ ω1) P) (fun x ω1 => P (.rs x τ) ω1) := by
  unfold sFor; rw [sw_withE]
theorem loop_aux {B : D → Tau → Option Tau} {F : S Ω} {P : Fl → Ω → Prop} (I : Nat → Tau → Ω → Prop) (ds : List D)
    (step : ∀ i d τ ω, ds[i]? = some d → I i τ ω → ∃ τ1, B d τ = some τ1 ∧ sw (F τ1 ω) (fun f ω' => match f with | .nx τ' => I (i + 1) τ' ω' | .ct τ' => I (i + 1) τ' ω' | .bk τ' => P (.nx τ') ω' | f => P f ω'))
    (fin : ∀ τ ω, I ds.length τ ω → P (.nx τ) ω) : ∀ (k : Nat) (τ : Tau) (ω : Ω), k ≤ ds.length → I k τ ω → sw (loop B F (ds.drop k) τ ω) P := by
  intro k
  generalize hn : ds.length - k = n
  induction n generalizing k with
  | zero =>
    intro τ ω hk h
    have : k = ds.length := by omega
    subst this
    rw [List.drop_length]
    with_unfolding_all exact fin _ _ h
  | succ n ih =>
    intro τ ω hk h
    have hlt : k < ds.length := by omega
    rw [List.drop_eq_getElem_cons hlt]
    obtain ⟨τ1, e1, h1⟩ := step k ds[k] τ ω (List.getElem?_eq_getElem hlt) h
    unfold loop
    rw [e1]
    dsimp only
    revert h1
    rcases F τ1 ω with _ | ⟨fl, ω2⟩
    · with_unfolding_all exact id
    · cases fl with
      | nx τ2 => with_unfolding_all exact fun h1 => ih (k + 1) (by omega) τ2 ω2 (by omega) h1
      | ct τ2 => with_unfolding_all exact fun h1 => ih (k + 1) (by omega) τ2 ω2 (by omega) h1
      | _ => with_unfolding_all exact fun h1 => h1
theorem loop_inv {B : D → Tau → Option Tau} {F : S Ω} {P : Fl → Ω → Prop} {ds : List D} {τ : Tau} {ω : Ω} (I : Nat → Tau → Ω → Prop) (h0 : I 0 τ ω)
    (step : ∀ i d τ ω, ds[i]? = some d → I i τ ω → ∃ τ1, B d τ = some τ1 ∧ sw (F τ1 ω) (fun f ω' => match f with | .nx τ' => I (i + 1) τ' ω' | .ct τ' => I (i + 1) τ' ω' | .bk τ' => P (.nx τ') ω' | f => P f ω'))
    (fin : ∀ τ ω, I ds.length τ ω → P (.nx τ) ω) : sw (loop B F ds τ ω) P := loop_aux I ds step fin 0 τ ω (Nat.zero_le _) h0
theorem wp_lc {vs : List Nat} {i : E Ω (List D)} {B : D → Tau → Option Tau} {Ft : E Ω Bool} {Fe : E Ω D} {τ : Tau} {ω : Ω} {P X} :
    (eLc vs i B Ft Fe τ ω).wp P X = (i τ ω).wp (fun ds ω1 => ds.length ≤ sizeLine ∧ (lcL B Ft Fe (wipeT τ vs) ds ω1).wp P X0) X := by
  unfold eLc
  rw [wp_bind]
  congr
  funext ds ω1
  by_cases h : ds.length ≤ sizeLine
  · rw [if_pos h, wp_nox]; simp [h]
  · rw [if_neg h]; simp [h, R.wp]
theorem lc_aux {B : D → Tau → Option Tau} {Ft : E Ω Bool} {Fe : E Ω D} {τ : Tau} (I : Nat → List D → Ω → Prop) (ds : List D)
    (step : ∀ i d acc ω, ds[i]? = some d → I i acc ω → ∃ τ1, B d τ = some τ1 ∧ (Ft τ1 ω).wp (fun b ω1 => if b then (Fe τ1 ω1).wp (fun x ω2 => I (i + 1) (acc ++ [x]) ω2) X0 else I (i + 1) acc ω1) X0)
    : ∀ (k : Nat) (acc : List D) (ω : Ω), k ≤ ds.length → I k acc ω → (lcL B Ft Fe τ (ds.drop k) ω).wp (fun xs ω' => I ds.length (acc ++ xs) ω') X0 := by
  intro k
  generalize hn : ds.length - k = n
  induction n generalizing k with
  | zero =>
    intro acc ω hk h
    have : k = ds.length := by omega
    subst this
    rw [List.drop_length]
    simpa [lcL, R.wp] using h
  | succ n ih =>
    intro acc ω hk h
    have hlt : k < ds.length := by omega
    rw [List.drop_eq_getElem_cons hlt]
    obtain ⟨τ1, e1, h1⟩ := step k ds[k] acc ω (List.getElem?_eq_getElem hlt) h
    unfold lcL
    rw [e1]
    dsimp only
    rw [wp_bind, wp_nox]
    refine h1.mono fun b ω1 h2 => ?_
    cases b with
    | false => simpa using ih (k + 1) (by omega) acc ω1 (by omega) (by simpa using h2)
    | true =>
      simp only [if_true] at h2 ⊢
      rw [wp_bind, wp_nox]
      refine h2.mono fun x ω2 h3 => ?_
      rw [wp_bind]
      refine (ih (k + 1) (by omega) (acc ++ [x]) ω2 (by omega) h3).mono fun xs ω3 h4 => ?_
      simpa [R.wp] using h4
theorem lc_inv {B : D → Tau → Option Tau} {Ft : E Ω Bool} {Fe : E Ω D} {τ : Tau} {ds : List D} {ω : Ω} {P : List D → Ω → Prop} (I : Nat → List D → Ω → Prop) (h0 : I 0 [] ω)
    (step : ∀ i d acc ω, ds[i]? = some d → I i acc ω → ∃ τ1, B d τ = some τ1 ∧ (Ft τ1 ω).wp (fun b ω1 => if b then (Fe τ1 ω1).wp (fun x ω2 => I (i + 1) (acc ++ [x]) ω2) X0 else I (i + 1) acc ω1) X0)
    (fin : ∀ acc ω, I ds.length acc ω → P acc ω) : (lcL B Ft Fe τ ds ω).wp P X0 :=
  (lc_aux I ds step 0 [] ω (Nat.zero_le _) h0).mono fun xs ω' h => fin _ _ (by simpa using h)
theorem lc_map {B : D → Tau → Option Tau} {Fe : E Ω D} {τ : Tau} {ds : List D} {ω : Ω} {P : List D → Ω → Prop} (g : Nat → D)
    (step : ∀ i d, ds[i]? = some d → ∃ τ1, B d τ = some τ1 ∧ (Fe τ1 ω).wp (fun x ω2 => x = g i ∧ ω2 = ω) X0)
    (fin : P ((List.range ds.length).map g) ω) : (lcL B bYes Fe τ ds ω).wp P X0 :=
  lc_inv (fun i acc ω' => acc = (List.range i).map g ∧ ω' = ω) ⟨rfl, rfl⟩ (fun i d acc ω' hd ⟨h1, h2⟩ => by
    subst h1 h2
    obtain ⟨τ1, e, h⟩ := step i d hd
    refine ⟨τ1, e, ?_⟩
    show R.wp (R.ok true ω') _ _
    simp only [R.wp, if_true]
    refine R.wp.mono h fun x ω2 hx => ?_
    obtain ⟨rfl, rfl⟩ := hx
    exact ⟨by rw [List.range_succ, List.map_append]; rfl, rfl⟩) (fun acc ω' ⟨h1, h2⟩ => by subst h1 h2; exact fin)
theorem while_inv {n : Tau → Ω → Nat} {c : E Ω Bool} {F : S Ω} {P : Fl → Ω → Prop} {τ : Tau} {ω : Ω} (I : Nat → Tau → Ω → Prop) (h0 : I (n τ ω) τ ω)
    (step : ∀ m τ ω, I m τ ω → 0 < m ∧ (c τ ω).wp (fun b ω1 => if b then sw (F τ ω1) (fun f ω' => match f with | .nx τ' => I (m - 1) τ' ω' | .ct τ' => I (m - 1) τ' ω' | .bk τ' => P (.nx τ') ω' | f => P f ω') else P (.nx τ) ω1) (fun x ω1 => P (.rs x τ) ω1)) : sw (sWhile n c F τ ω) P := by
  unfold sWhile
  generalize n τ ω = m at *
  induction m generalizing τ ω with
  | zero => with_unfolding_all exact absurd (step 0 τ ω h0).1 (by omega)
  | succ m ih =>
    have h1 := (step (m + 1) τ ω h0).2
    unfold wloop
    rw [sw_withE]
    refine h1.mono (fun b ω1 h2 => ?_) (fun _ _ h => h)
    cases b with
    | false => simpa [sw_some] using h2
    | true =>
      simp only [if_true] at h2 ⊢
      revert h2
      rcases F τ ω1 with _ | ⟨fl, ω2⟩
      · with_unfolding_all exact id
      · cases fl with
        | nx τ2 => with_unfolding_all exact fun h2 => ih h2
        | ct τ2 => with_unfolding_all exact fun h2 => ih h2
        | _ => with_unfolding_all exact fun h2 => h2
variable {τ : Tau} {ω : Ω}
theorem wp_var {i : Nat} {P : D → Ω → Prop} {X} {d : D} (h : τ[i]? = some (some (.d d))) : (eVar i τ ω).wp P X = P d ω := by unfold eVar; rw [h]; with_unfolding_all rfl
theorem wp_c {d : D} {P X} : ((eC d : E Ω D) τ ω).wp P X = P d ω := by with_unfolding_all rfl
theorem wp_op {f : D → D → Option D} {a b : E Ω D} {P X} : (eOp f a b τ ω).wp P X = (a τ ω).wp (fun x ω1 => (b τ ω1).wp (fun y ω2 => (R.ofO (f x y) ω2).wp P X) X) X := by
  unfold eOp; simp only [wp_bind]
theorem wp_un {f : D → Option D} {a : E Ω D} {P X} : (eUn f a τ ω).wp P X = (a τ ω).wp (fun x ω1 => (R.ofO (f x) ω1).wp P X) X := by
  unfold eUn; simp only [wp_bind]
theorem wp_call {f : List D → Option D} {a : E Ω (List D)} {P X} : (eCall f a τ ω).wp P X = (a τ ω).wp (fun x ω1 => (R.ofO (f x) ω1).wp P X) X := by
  unfold eCall; simp only [wp_bind]
theorem wp_nil {P X} : ((aNil : E Ω (List D)) τ ω).wp P X = P [] ω := by with_unfolding_all rfl
theorem wp_cons {a : E Ω D} {r : E Ω (List D)} {P X} : (aCons a r τ ω).wp P X = (a τ ω).wp (fun x ω1 => (r τ ω1).wp (fun xs ω2 => P (x :: xs) ω2) X) X := by
  unfold aCons; simp only [wp_bind, wp_ok]
theorem wp_tup {a : E Ω (List D)} {P X} : (eTup a τ ω).wp P X = (a τ ω).wp (fun xs ω1 => xs.length ≤ 1000 ∧ P (.tup xs) ω1) X := by
  unfold eTup; rw [wp_bind]; congr; funext xs ω1; by_cases h : xs.length ≤ 1000 <;> simp [h, R.wp]
theorem wp_lst {a : E Ω (List D)} {P X} : (eLst a τ ω).wp P X = (a τ ω).wp (fun xs ω1 => xs.length ≤ 1000 ∧ P xs ω1) X := by
  unfold eLst; rw [wp_bind]; congr; funext xs ω1; by_cases h : xs.length ≤ 1000 <;> simp [h, R.wp]
theorem wp_frz {a : E Ω (List D)} {P X} : (eFrz a τ ω).wp P X = (a τ ω).wp (fun xs ω1 => P (.lst xs) ω1) X := by
  unfold eFrz; rw [wp_bind]; with_unfolding_all rfl
theorem wp_b {a : E Ω D} {P X} : (eB a τ ω).wp P X = (a τ ω).wp (fun x ω1 => (R.ofO x.bool ω1).wp P X) X := by unfold eB; rw [wp_bind]
theorem wp_tru {a : E Ω D} {P X} : (eTru a τ ω).wp P X = (a τ ω).wp (fun x ω1 => (R.ofO x.tru ω1).wp P X) X := by unfold eTru; rw [wp_bind]
theorem wp_and {a b : E Ω Bool} {P X} : (bAnd a b τ ω).wp P X = (a τ ω).wp (fun x ω1 => if x then (b τ ω1).wp P X else P false ω1) X := by
  unfold bAnd; rw [wp_bind]; congr; funext x ω1; cases x <;> with_unfolding_all rfl
theorem wp_or {a b : E Ω Bool} {P X} : (bOr a b τ ω).wp P X = (a τ ω).wp (fun x ω1 => if x then P true ω1 else (b τ ω1).wp P X) X := by
  unfold bOr; rw [wp_bind]; congr; funext x ω1; cases x <;> with_unfolding_all rfl
theorem wp_not {a : E Ω Bool} {P X} : (bNot a τ ω).wp P X = (a τ ω).wp (fun x ω1 => P (!x) ω1) X := by unfold bNot; rw [wp_bind]; with_unfolding_all rfl
theorem wp_yes {P X} : ((bYes : E Ω Bool) τ ω).wp P X = P true ω := by with_unfolding_all rfl
theorem wp_eif {c : E Ω Bool} {a b : E Ω D} {P X} : (eIf c a b τ ω).wp P X = (c τ ω).wp (fun x ω1 => if x then (a τ ω1).wp P X else (b τ ω1).wp P X) X := by
  unfold eIf; rw [wp_bind]; congr; funext x ω1; cases x <;> with_unfolding_all rfl
theorem wp_oNone {P X} : ((oNone : E Ω (Option Int)) τ ω).wp P X = P none ω := by with_unfolding_all rfl
theorem wp_oSome {a : E Ω D} {P X} : (oSome a τ ω).wp P X = (a τ ω).wp (fun x ω1 => (R.ofO x.toI ω1).wp P X) X := by unfold oSome; rw [wp_bind]
theorem wp_sl {a : E Ω D} {l h : E Ω (Option Int)} {P X} : (eSl a l h τ ω).wp P X = (a τ ω).wp (fun x ω1 => (l τ ω1).wp (fun lo ω2 => (h τ ω2).wp (fun hi ω3 => (R.ofO (sliceD x lo hi) ω3).wp P X) X) X) X := by
  unfold eSl; simp only [wp_bind]
theorem wp_sq {a : E Ω D} {P X} : (iSq a τ ω).wp P X = (a τ ω).wp (fun x ω1 => (R.ofO x.itemsS ω1).wp P X) X := by unfold iSq; rw [wp_bind]
theorem wp_rg {f : List D → Option (List D)} {a : E Ω (List D)} {P X} : (iRg f a τ ω).wp P X = (a τ ω).wp (fun x ω1 => (R.ofO (f x) ω1).wp P X) X := by unfold iRg; rw [wp_bind]
theorem wp_cD {F : List D → R Unit D} {a : E Ω (List D)} {P X} : (cD F a τ ω).wp P X = (a τ ω).wp (fun xs ω1 => (F xs).wp (fun d _ => P d ω1) X0) X := by
  unfold cD; simp only [wp_bind, wp_nox, wp_lift]
theorem wp_cW {F : List D → Ω → R Ω D} {i : Nat} {a : E Ω (List D)} {P X} (h : τ[i]? = some (some .src)) : (cW F i a τ ω).wp P X = (a τ ω).wp (fun xs ω1 => (F xs ω1).wp P X0) X := by
  unfold cW; rw [h]; simp only [wp_bind, wp_nox]
theorem wp_oLen {i : Nat} {P : D → Ω → Prop} {X} {xs : List D} (h : τ[i]? = some (some (.ow .L xs))) : (oLen i τ ω).wp P X = P (.int xs.length) ω := by unfold oLen; rw [h]; with_unfolding_all rfl
theorem wp_oTuple {i : Nat} {P : D → Ω → Prop} {X} {xs : List D} (h : τ[i]? = some (some (.ow .L xs))) : (oTuple i τ ω).wp P X = P (.tup xs) ω := by unfold oTuple; rw [h]; with_unfolding_all rfl
theorem wp_oIx {i : Nat} {b : E Ω D} {P : D → Ω → Prop} {X} {xs : List D} (h : τ[i]? = some (some (.ow .L xs))) : (oIx i b τ ω).wp P X = (b τ ω).wp (fun y ω1 => (R.ofO (ixD (.lst xs) y) ω1).wp P X) X := by unfold oIx; rw [h]; simp only [wp_bind]
end
section
variable {τ : Tau} {ω : Src}
theorem wp_src {i : Nat} {f : Src → Int} {P : D → Src → Prop} {X} (h : τ[i]? = some (some .src)) : (eSrc i f τ ω).wp P X = P (.int (f ω)) ω := by unfold eSrc; rw [h]; with_unfolding_all rfl
theorem wp_srcN {i : Nat} {P : D → Src → Prop} {X} (h : τ[i]? = some (some .src)) : (eSrcN i τ ω).wp P X = P (.int ω.cells.length) ω := by unfold eSrcN; rw [h]; with_unfolding_all rfl
theorem wp_srcP {i : Nat} {P : D → Src → Prop} {X} {z : Int} {r : List Int} (h : τ[i]? = some (some .src)) (e : ω.cells = z :: r) : (eSrcP i τ ω).wp P X = P (.int z) { ω with cells := r } := by unfold eSrcP; rw [h, e]; with_unfolding_all rfl
theorem sw_src {i : Nat} {f : Src → Int → Src} {e : E Src D} {P : Fl → Src → Prop} (h : τ[i]? = some (some .src)) : sw (sSrc i f e τ ω) P = (e τ ω).wp (fun d ω1 => ∃ z, d = .int z ∧ P (.nx τ) (f ω1 z)) (fun x ω1 => P (.rs x τ) ω1) := by
  unfold sSrc; rw [sw_withE]; congr; funext d ω1; rw [h]; cases d <;> simp [sw]
end
section
variable {Ω α : Type} {τ : Tau} {ω : Ω}
theorem wp_eqn {r : R Ω α} {a : α} {P X} (h : r = .ok a ω) : r.wp P X = P a ω := by rw [h]; with_unfolding_all rfl
theorem wp_ofOs {o : Option α} {a : α} {P X} (h : o = some a) : (R.ofO o ω).wp P X = P a ω := by rw [h]; with_unfolding_all rfl
theorem wp_varI {i : Nat} {P : D → Ω → Prop} {X} {d : D} (h : τ[i]? = some (some (.d d))) (k : P d ω) : (eVar i τ ω).wp P X := (wp_var h).mpr k
theorem wp_ofOI {o : Option α} {a : α} {P X} (h : o = some a) (k : P a ω) : (R.ofO o ω).wp P X := (wp_ofOs h).mpr k
theorem sw_asgI {e : E Ω D} {B : D → Tau → Option Tau} {P} (k : (e τ ω).wp (fun d ω1 => ∃ τ1, B d τ = some τ1 ∧ P (.nx τ1) ω1) (fun x ω1 => P (.rs x τ) ω1)) : sw (sAsg e B τ ω) P := sw_asg.mpr k
theorem exI {o : Option Tau} {τ1 : Tau} {P : Tau → Prop} (h : o = some τ1) (k : P τ1) : ∃ τ1, o = some τ1 ∧ P τ1 := ⟨_, h, k⟩
theorem sw_appI {i : Nat} {e : E Ω D} {P} {xs : List D} (h : τ[i]? = some (some (.ow .L xs))) (k : (e τ ω).wp (fun d ω1 => P (.nx (τ.set i (some (.ow .L (xs ++ [d]))))) ω1) (fun x ω1 => P (.rs x τ) ω1)) (hl : xs.length ≤ 100000) : sw (sApp i e τ ω) P := (sw_app h hl).mpr k
theorem sw_retOI {i : Nat} {P} {xs : List D} (h : τ[i]? = some (some (.ow .L xs))) (k : P (.rt (.lst xs)) ω) : sw (sRetO i τ ω) P := (sw_retO h).mpr k
theorem wp_oLenI {i : Nat} {P : D → Ω → Prop} {X} {xs : List D} (h : τ[i]? = some (some (.ow .L xs))) (k : P (.int xs.length) ω) : (oLen i τ ω).wp P X := (wp_oLen h).mpr k
theorem wp_oTupleI {i : Nat} {P : D → Ω → Prop} {X} {xs : List D} (h : τ[i]? = some (some (.ow .L xs))) (k : P (.tup xs) ω) : (oTuple i τ ω).wp P X := (wp_oTuple h).mpr k
theorem wp_oIxI {i : Nat} {b : E Ω D} {P : D → Ω → Prop} {X} {xs : List D} (h : τ[i]? = some (some (.ow .L xs))) (k : (b τ ω).wp (fun y ω1 => (R.ofO (ixD (.lst xs) y) ω1).wp P X) X) : (oIx i b τ ω).wp P X := (wp_oIx h).mpr k
theorem sw_srcI {τ : Tau} {ω : Src} {i : Nat} {f : Src → Int → Src} {e : E Src D} {P : Fl → Src → Prop} (h : τ[i]? = some (some .src)) (k : (e τ ω).wp (fun d ω1 => ∃ z, d = .int z ∧ P (.nx τ) (f ω1 z)) (fun x ω1 => P (.rs x τ) ω1)) : sw (sSrc i f e τ ω) P := (sw_src h).mpr k
theorem exD {i : Int} {P : Int → Prop} (k : P i) : ∃ z, D.int i = .int z ∧ P z := ⟨_, rfl, k⟩
theorem iteT {p : Prop} [Decidable p] {a b : Prop} (h : p) : (if p then a else b) = a := if_pos h
theorem iteF {p : Prop} [Decidable p] {a b : Prop} (h : ¬ p) : (if p then a else b) = b := if_neg h
end
end DL
local macro_rules
  | `(tactic| walk_at "ev1") => `(tactic| first
    | (with_reducible refine Eq.mpr DL.sw_seq ?_)
    | ((with_reducible apply DL.wp_varI); (· exact rfl))
    | (with_reducible refine Eq.mpr DL.wp_c ?_)
    | (with_reducible refine Eq.mpr DL.wp_op ?_)
    | ((with_reducible apply DL.wp_ofOI); (· first | exact rfl | assumption))
    | (with_reducible refine Eq.mpr DL.wp_cons ?_)
    | (with_reducible refine Eq.mpr DL.wp_nil ?_)
    | (with_reducible refine Eq.mpr DL.wp_cD ?_)
    | ((with_reducible refine Eq.mpr (DL.wp_cW ?evh) ?_); (case evh => exact rfl))
    | (with_reducible refine Eq.mpr DL.sw_asgN ?_)
    | (with_reducible refine Eq.mpr DL.sw_if ?_)
    | (with_reducible refine Eq.mpr DL.wp_b ?_)
    | (with_reducible refine Eq.mpr DL.sw_ret ?_)
    | (with_reducible refine Eq.mpr DL.sw_nx ?_)
    | (with_reducible refine Eq.mpr DL.wp_call ?_)
    | (with_reducible refine Eq.mpr DL.wp_tup ?_)
    | (with_reducible refine Eq.mpr DL.wp_lst ?_)
    | ((with_reducible apply And.intro); (· exact Nat.le_of_ble_eq_true rfl))
    | (with_reducible refine Eq.mpr DL.wp_frz ?_)
    | (with_reducible refine DL.sw_asgI ?_)
    | ((with_reducible apply DL.exI); (· exact rfl))
    | (with_reducible apply DL.exD)
    | (with_reducible refine Eq.mpr DL.sw_setO ?_)
    | (with_reducible refine Eq.mpr DL.sw_par ?_)
    | (with_reducible refine Eq.mpr DL.sw_parO1 ?_)
    | (with_reducible refine Eq.mpr DL.sw_parO2 ?_)
    | (with_reducible refine Eq.mpr DL.sw_for ?_)
    | (with_reducible refine Eq.mpr DL.wp_rg ?_)
    | (with_reducible refine Eq.mpr DL.wp_sq ?_)
    | (with_reducible refine Eq.mpr DL.wp_lc ?_)
    | (with_reducible refine Eq.mpr DL.wp_un ?_)
    | (with_reducible refine Eq.mpr DL.wp_and ?_)
    | (with_reducible refine Eq.mpr DL.wp_or ?_)
    | (with_reducible refine Eq.mpr DL.wp_not ?_)
    | (with_reducible refine Eq.mpr DL.wp_yes ?_)
    | (with_reducible refine Eq.mpr DL.wp_tru ?_)
    | (with_reducible refine Eq.mpr DL.wp_eif ?_)
    | (with_reducible refine Eq.mpr DL.wp_sl ?_)
    | (with_reducible refine Eq.mpr DL.wp_oNone ?_)
    | (with_reducible refine Eq.mpr DL.wp_oSome ?_)
    | ((with_reducible apply DL.sw_appI); (· exact rfl))
    | ((with_reducible apply DL.sw_retOI); (· exact rfl))
    | ((with_reducible apply DL.wp_oLenI); (· exact rfl))
    | ((with_reducible apply DL.wp_oTupleI); (· exact rfl))
    | ((with_reducible apply DL.wp_oIxI); (· exact rfl))
    | ((with_reducible refine Eq.mpr (DL.wp_src ?evh) ?_); (case evh => exact rfl))
    | ((with_reducible refine Eq.mpr (DL.wp_srcN ?evh) ?_); (case evh => exact rfl))
    | ((with_reducible apply DL.sw_srcI); (· exact rfl))
    | (with_reducible refine Eq.mpr DL.sw_fz ?_)
    | (with_reducible refine Eq.mpr DL.wp_nox ?_)
    | (with_reducible refine Eq.mpr DL.wp_runS ?_)
    | ((with_reducible refine Eq.mpr (DL.iteT ?evh) ?_); (case evh => exact rfl))
    | ((with_reducible refine Eq.mpr (DL.iteF ?evh) ?_); (case evh => exact Bool.false_ne_true)))
namespace DL
open PySem
inductive Sh where
  | o
  | n (l r : Sh)
  deriving DecidableEq
namespace Sh
def size : Sh → Nat
  | .o => 1
  | .n l r => l.size + r.size
theorem size_pos : ∀ s : Sh, 1 ≤ s.size
  | .o => Nat.le_refl _
  | .n l r => by have := size_pos l; simp only [size]; omega
def py : Sh → PyData
  | .o => .tuple []
  | .n l r => .tuple [l.py, r.py]
def enc : Sh → D
  | .o => .tup []
  | .n l r => .tup [l.enc, r.enc]
theorem enc_py : ∀ s : Sh, s.enc.py = some s.py
  | .o => rfl
  | .n l r => by simp [enc, D.py, D.pyL, enc_py l, enc_py r, py]
theorem eqv : ∀ a b : Sh, PyData.eqv a.py b.py = decide (a = b)
  | .o, .o => by simp [py, PyData.eqv, PyData.eqvAll]
  | .o, .n l r => by simp [py, PyData.eqv, PyData.eqvAll]
  | .n l r, .o => by simp [py, PyData.eqv, PyData.eqvAll]
  | .n l r, .n l' r' => by
    simp only [py, PyData.eqv, PyData.eqvAll, eqv l l', eqv r r', Bool.and_true]
    by_cases h1 : l = l' <;> by_cases h2 : r = r' <;> simp [h1, h2]
theorem lay : ∀ s : Sh, s.py.canLay0 = true
  | .o => by simp [py, PyData.canLay0, PyData.canLayAll0]
  | .n l r => by simp [py, PyData.canLay0, PyData.canLayAll0, lay l, lay r]
theorem dep : ∀ s : Sh, s.py.depth ≤ s.size
  | .o => by simp [py, PyData.depth, PyData.depthAll, size]
  | .n l r => by
    have h1 := dep l; have h2 := dep r; have h3 := size_pos l; have h4 := size_pos r
    simp only [py, PyData.depth, PyData.depthAll, size]
    omega
end Sh
class Enc (α : Type) [DecidableEq α] where
  enc : α → D
  py : α → PyData
  dep : α → Nat
  e1 : ∀ a, (enc a).py = some (py a)
  e2 : ∀ a b, PyData.eqv (py a) (py b) = decide (a = b)
  e3 : ∀ a, (py a).canLay0 = true
  e4 : ∀ a, (py a).depth ≤ dep a
section
variable {α : Type} [DecidableEq α] [Enc α]
theorem pyL_map (xs : List α) : D.pyL (xs.map Enc.enc) = some (xs.map Enc.py) := by
  induction xs with
  | nil => rfl
  | cons x xs ih => simp [D.pyL, Enc.e1, ih]
theorem eqvAll_map : ∀ xs ys : List α, PyData.eqvAll (xs.map Enc.py) (ys.map Enc.py) = decide (xs = ys)
  | [], [] => by simp [PyData.eqvAll]
  | [], _ :: _ => by simp [PyData.eqvAll]
  | _ :: _, [] => by simp [PyData.eqvAll]
  | x :: xs, y :: ys => by
    simp only [List.map_cons, PyData.eqvAll, Enc.e2, eqvAll_map xs ys]
    by_cases h1 : x = y <;> by_cases h2 : xs = ys <;> simp [h1, h2]
theorem lay_map (xs : List α) : PyData.canLayAll0 (xs.map Enc.py) = true := by
  induction xs with
  | nil => simp [PyData.canLayAll0]
  | cons x xs ih => simp [PyData.canLayAll0, Enc.e3, ih]
def depL (xs : List α) : Nat := xs.foldr (fun x m => max (Enc.dep x) m) 0
theorem dep_map (xs : List α) : PyData.depthAll (xs.map Enc.py) ≤ depL xs := by
  induction xs with
  | nil => simp [PyData.depthAll, depL]
  | cons x xs ih =>
    have := Enc.e4 x
    simp only [List.map_cons, PyData.depthAll, depL, List.foldr_cons] at *
    omega
theorem depL_le {xs : List α} {k : Nat} (h : ∀ x ∈ xs, Enc.dep x ≤ k) : depL xs ≤ k := by
  induction xs with
  | nil => exact Nat.zero_le _
  | cons x xs ih =>
    have h1 := h x (by simp)
    have h2 := ih fun y hy => h y (by simp [hy])
    simp only [depL, List.foldr_cons] at *
    omega
theorem eqB_enc (a b : α) (h : Enc.dep a ≤ 150 ∨ Enc.dep b ≤ 150) : eqB (Enc.enc a) (Enc.enc b) = some (decide (a = b)) := by
  unfold eqB
  rw [Enc.e1, Enc.e1]
  have h1 := Enc.e4 a; have h2 := Enc.e4 b
  dsimp only
  rw [if_pos ⟨Enc.e3 a, Enc.e3 b, by omega⟩, Enc.e2]
end
instance : Enc Sh := ⟨Sh.enc, Sh.py, Sh.size, Sh.enc_py, Sh.eqv, Sh.lay, Sh.dep⟩
instance : Enc Int := ⟨.int, .int, fun _ => 0, fun _ => rfl, fun a b => by simp only [PyData.eqv]; rfl, fun a => by simp only [PyData.canLay0], fun a => by simp only [PyData.depth]; exact Nat.le_refl _⟩
instance : Enc Bool := ⟨.bl, .bool, fun _ => 0, fun _ => rfl, fun a b => by simp only [PyData.eqv]; cases a <;> cases b <;> rfl, fun a => by simp only [PyData.canLay0], fun a => by simp only [PyData.depth]; exact Nat.le_refl _⟩
/-- a tuple of equal kinds -/
instance {α : Type} [DecidableEq α] [Enc α] : Enc (List α) where
  enc xs := .tup (xs.map Enc.enc)
  py xs := .tuple (xs.map Enc.py)
  dep xs := depL xs + 1
  e1 xs := by simp [D.py, pyL_map]
  e2 xs ys := by simp only [PyData.eqv]; exact eqvAll_map xs ys
  e3 xs := by simp only [PyData.canLay0]; exact lay_map xs
  e4 xs := by have := dep_map xs; simp only [PyData.depth]; omega
/-- a list of equal kinds -/
structure Lst (α : Type) where
  l : List α
  deriving DecidableEq
instance {α : Type} [DecidableEq α] [Enc α] : Enc (Lst α) where
  enc xs := .lst (xs.l.map Enc.enc)
  py xs := .list (xs.l.map Enc.py)
  dep xs := depL xs.l + 1
  e1 xs := by simp [D.py, pyL_map]
  e2 xs ys := by
    simp only [PyData.eqv]; rw [eqvAll_map xs.l ys.l]
    cases xs; cases ys; simp
  e3 xs := by simp only [PyData.canLay0]; exact lay_map xs.l
  e4 xs := by have := dep_map xs.l; simp only [PyData.depth]; omega
theorem eqD_enc {α : Type} [DecidableEq α] [Enc α] (a b : α) (h : Enc.dep a ≤ 150 ∨ Enc.dep b ≤ 150) : eqD (Enc.enc a) (Enc.enc b) = some (.bl (decide (a = b))) := by unfold eqD; rw [eqB_enc a b h]; rfl
theorem neD_enc {α : Type} [DecidableEq α] [Enc α] (a b : α) (h : Enc.dep a ≤ 150 ∨ Enc.dep b ≤ 150) : neD (Enc.enc a) (Enc.enc b) = some (.bl (!decide (a = b))) := by unfold neD; rw [eqB_enc a b h]; rfl
theorem eqD_int (a b : Int) : eqD (.int a) (.int b) = some (.bl (decide (a = b))) := eqD_enc a b (.inl (Nat.zero_le _))
theorem neD_int (a b : Int) : neD (.int a) (.int b) = some (.bl (!decide (a = b))) := neD_enc a b (.inl (Nat.zero_le _))
theorem eqD_sh (a b : Sh) (h : a.size ≤ 150 ∨ b.size ≤ 150) : eqD a.enc b.enc = some (.bl (decide (a = b))) := eqD_enc a b h
theorem neD_sh (a b : Sh) (h : a.size ≤ 150 ∨ b.size ≤ 150) : neD a.enc b.enc = some (.bl (!decide (a = b))) := neD_enc a b h
theorem atI_nat {α : Type} {xs : List α} {i : Nat} : L2.atI xs (i : Int) = xs[i]? := by
  unfold L2.atI L2.ixN
  rw [if_pos (by omega)]
  by_cases h : i < xs.length
  · rw [if_pos (by omega)]; simp
  · rw [if_neg (by omega)]; simp; omega
theorem atI_of {α : Type} {xs : List α} {i : Int} {k : Nat} {d : α} (e : i = k) (h : xs[k]? = some d) : L2.atI xs i = some d := by
  subst e; rw [atI_nat]; exact h
theorem ix_tup {xs : List D} {i : Int} {k : Nat} {d : D} (e : i = k) (h : xs[k]? = some d) : ixD (.tup xs) (.int i) = some d := atI_of e h
theorem ix_lst {xs : List D} {i : Int} {k : Nat} {d : D} (e : i = k) (h : xs[k]? = some d) : ixD (.lst xs) (.int i) = some d := atI_of e h
theorem cut_to {α : Type} (xs : List α) (j : Nat) : cutL xs none (some (j : Int)) = xs.take j := by
  unfold cutL
  rw [HT.sIx_nat]
  show (xs.drop 0).take (min j xs.length - 0) = _
  rw [List.drop_zero, Nat.sub_zero]
  by_cases h2 : j ≤ xs.length
  · rw [Nat.min_eq_left h2]
  · rw [Nat.min_eq_right (by omega), List.take_of_length_le (by omega), List.take_of_length_le (by omega)]
theorem cut_from {α : Type} (xs : List α) (i : Nat) : cutL xs (some (i : Int)) none = xs.drop i := by
  unfold cutL
  rw [HT.sIx_nat]
  show (xs.drop (min i xs.length)).take (xs.length - min i xs.length) = _
  rw [List.take_of_length_le (by simp)]
  by_cases h : i ≤ xs.length
  · rw [Nat.min_eq_left h]
  · rw [Nat.min_eq_right (by omega), List.drop_length, List.drop_eq_nil_of_le (by omega)]
theorem addN (a b : Nat) : addD (.int (a : Int)) (.int (b : Int)) = some (.int ((a + b : Nat) : Int)) := by unfold addD; rw [Int.natCast_add]
theorem subN (a b : Nat) (h : b ≤ a) : subD (.int (a : Int)) (.int (b : Int)) = some (.int ((a - b : Nat) : Int)) := by unfold subD; rw [Int.natCast_sub h]
theorem mulN (a b : Nat) (h : a < 2 ^ 60) : mulD (.int (a : Int)) (.int (b : Int)) = some (.int ((a * b : Nat) : Int)) := by
  unfold mulD
  dsimp only
  rw [if_pos (.inl (.inl ⟨by omega, by omega⟩)), Int.natCast_mul]
theorem fdivN (a b : Nat) (h1 : 0 < b) (h2 : b < 2 ^ 60) : fdivD (.int (a : Int)) (.int (b : Int)) = some (.int ((a / b : Nat) : Int)) := by
  unfold fdivD
  dsimp only
  rw [if_pos ⟨by omega, by rw [Int.natAbs_natCast]; exact Nat.lt_of_lt_of_le ((Nat.log2_lt (by omega)).mpr h2) (by omega)⟩, Int.natCast_ediv]
theorem modN (a b : Nat) (h1 : 0 < b) : modD (.int (a : Int)) (.int (b : Int)) = some (.int ((a % b : Nat) : Int)) := by
  unfold modD
  dsimp only
  rw [if_pos (by omega), Int.natCast_emod]
theorem min2N (a b : Nat) : bi2 min2D [.int (a : Int), .int (b : Int)] = some (.int ((min a b : Nat) : Int)) := by
  unfold bi2 min2D
  dsimp only
  by_cases e : (b : Int) < (a : Int)
  · rw [if_pos e, Nat.min_eq_right (by omega)]
  · rw [if_neg e, Nat.min_eq_left (by omega)]
theorem addL (xs ys : List D) (h : xs.length + ys.length ≤ 100000) : addD (.lst xs) (.lst ys) = some (.lst (xs ++ ys)) := by
  unfold addD
  dsimp only
  rw [if_pos (by rw [sizeLine_eq]; omega)]
theorem ne_same {α : Type} [DecidableEq α] [Enc α] (a : α) (h : Enc.dep a ≤ 150) : neD (Enc.enc a) (Enc.enc a) = some (.bl false) := by
  rw [neD_enc a a (.inl h)]; simp
end DL
namespace DL
open Sh
abbrev Tab := List Sh
def bsz (t : Tab) : Nat := t.length + 1
def ent (t : Tab) (m : Nat) : Sh := if m ≤ 1 then .o else t.getD (m - 2) .o
def WT (t : Tab) : Prop := 1 ≤ t.length ∧ ∀ i s, t[i]? = some s → s.size = i + 2
theorem WT.ent {t : Tab} (h : WT t) {m : Nat} (h1 : 1 ≤ m) (h2 : m ≤ bsz t) : (ent t m).size = m := by
  unfold DL.ent
  by_cases e : m ≤ 1
  · rw [if_pos e]; simp [size]; omega
  · rw [if_neg e]
    unfold bsz at h2
    have hlt : m - 2 < t.length := by omega
    rw [List.getD_eq_getElem?_getD, List.getElem?_eq_getElem hlt]
    have := h.2 (m - 2) _ (List.getElem?_eq_getElem hlt)
    simp only [Option.getD_some]
    omega
def fill : Sh → List Sh → Sh
  | .o, ps => ps.headD .o
  | .n l r, ps => .n (fill l ps) (fill r (ps.drop l.size))
def sumS (ps : List Sh) : Nat := (ps.map Sh.size).sum
theorem fill_take : ∀ (e : Sh) (c : List Sh) (k : Nat), e.size ≤ k → fill e (c.take k) = fill e c
  | .o, c, k, h => by
    simp only [size] at h
    cases c with
    | nil => simp
    | cons x xs => cases k with
      | zero => omega
      | succ k => simp [fill]
  | .n l r, c, k, h => by
    simp only [size] at h
    simp only [fill]
    rw [fill_take l c k (by omega), List.drop_take, fill_take r _ _ (by omega)]
theorem fill_size : ∀ (e : Sh) (ps : List Sh), e.size ≤ ps.length → (fill e ps).size = sumS (ps.take e.size)
  | .o, ps, h => by
    cases ps with
    | nil => simp [size] at h
    | cons x xs => simp [fill, size, sumS]
  | .n l r, ps, h => by
    simp only [size] at h
    simp only [fill, size]
    rw [fill_size l ps (by omega), fill_size r _ (by simp; omega)]
    simp only [sumS]
    rw [← List.sum_append, ← List.map_append, ← List.take_add]
/-- a row pressed with a table -/
def prs (t : Tab) (row : List Sh) : List Sh :=
  if h : row = [] then [] else fill (ent t (min (bsz t) row.length)) row :: prs t (row.drop (bsz t))
termination_by row.length
decreasing_by
  have : 0 < row.length := List.length_pos_iff.mpr h
  simp [bsz]; omega
theorem prs_nil (t : Tab) : prs t [] = [] := by rw [prs]; simp
theorem prs_ne (t : Tab) {row : List Sh} (h : row ≠ []) : prs t row = fill (ent t (min (bsz t) row.length)) row :: prs t (row.drop (bsz t)) := by rw [prs, dif_neg h]
theorem prs_small (t : Tab) {row : List Sh} (h : row ≠ []) (hl : row.length ≤ bsz t) : prs t row = [fill (ent t row.length) row] := by
  rw [prs_ne t h, Nat.min_eq_right hl, List.drop_eq_nil_of_le hl, prs_nil]
theorem prs_le (t : Tab) (k : Nat) : ∀ (x : List Sh), x.length ≤ k * bsz t → (prs t x).length ≤ k := by
  induction k with
  | zero =>
    intro x hx
    have : x = [] := List.length_eq_zero_iff.mp (by simpa using hx)
    subst this; simp [prs_nil]
  | succ k ih =>
    intro x hx
    by_cases hx0 : x = []
    · subst hx0; simp [prs_nil]
    · rw [prs_ne t hx0, List.length_cons]
      have := ih (x.drop (bsz t)) (by rw [List.length_drop]; rw [Nat.succ_mul] at hx; omega)
      omega
theorem prs_ne_nil (t : Tab) {x : List Sh} (h : x ≠ []) : prs t x ≠ [] := by rw [prs_ne t h]; simp
def osh (m : Nat) : List Sh := List.replicate m .o
theorem fill_os : ∀ (e : Sh) (k : Nat), e.size ≤ k → fill e (osh k) = e
  | .o, k, h => by cases k <;> simp [fill, osh, List.replicate]
  | .n l r, k, h => by
    simp only [size] at h
    simp only [fill]
    have : (osh k).drop l.size = osh (k - l.size) := by simp [osh]
    rw [fill_os l k (by omega), this, fill_os r _ (by omega)]
/-- the glued table -/
def glu (s t : Tab) : Tab := (List.range (bsz s * bsz t - 1)).map fun i => (prs t (prs s (osh (i + 2)))).headD .o
theorem glu_len (s t : Tab) : bsz (glu s t) = bsz s * bsz t := by
  have : 0 < bsz s * bsz t := Nat.mul_pos (by simp [bsz]) (by simp [bsz])
  have e : (glu s t).length = bsz s * bsz t - 1 := by simp [glu]
  show (glu s t).length + 1 = _
  omega
theorem glu_ent (s t : Tab) (hs : WT s) {m : Nat} (h1 : 1 ≤ m) (h2 : m ≤ bsz s * bsz t) : ent (glu s t) m = (prs t (prs s (osh m))).headD .o := by
  unfold ent
  by_cases e : m ≤ 1
  · have : m = 1 := by omega
    subst this
    rw [if_pos (Nat.le_refl _)]
    have e1 : prs s (osh 1) = [.o] := by
      rw [prs_small s (by simp [osh]) (by simp [osh, bsz])]
      simp [osh, ent, fill, List.replicate]
    rw [e1, prs_small t (by simp) (by simp [bsz])]
    simp [ent, fill]
  · rw [if_neg e]
    unfold glu
    rw [List.getD_eq_getElem?_getD, List.getElem?_map, List.getElem?_range (by omega)]
    simp only [Option.map_some, Option.getD_some]
    rw [show m - 2 + 2 = m from by omega]
theorem osh_ne {m : Nat} (h : 1 ≤ m) : osh m ≠ [] := fun e => by have := congrArg List.length e; simp [osh] at this; omega
theorem prs_size (t : Tab) (hw : WT t) : ∀ (n : Nat) (c : List Sh), c.length = n → sumS (prs t c) = sumS c := by
  intro n
  induction n using Nat.strongRecOn with
  | _ n ih =>
    intro c hc
    have hb : 0 < bsz t := by simp [bsz]
    by_cases h0 : c = []
    · subst h0; simp [prs_nil]
    · have hp : 0 < c.length := List.length_pos_iff.mpr h0
      rw [prs_ne t h0]
      have hs := hw.ent (m := min (bsz t) c.length) (by omega) (by omega)
      have e := ih (c.length - bsz t) (by omega) (c.drop (bsz t)) (by simp)
      have : sumS (fill (ent t (min (bsz t) c.length)) c :: prs t (c.drop (bsz t))) = (fill (ent t (min (bsz t) c.length)) c).size + sumS (prs t (c.drop (bsz t))) := by simp [sumS]
      rw [this, e, fill_size _ _ (by omega), hs]
      have e2 : sumS c = sumS (c.take (bsz t)) + sumS (c.drop (bsz t)) := by
        unfold sumS; rw [← List.sum_append, ← List.map_append, List.take_append_drop]
      rw [e2]
      congr 2
      by_cases hle : bsz t ≤ c.length
      · rw [Nat.min_eq_left hle]
      · rw [Nat.min_eq_right (by omega), List.take_of_length_le (Nat.le_refl _), List.take_of_length_le (by omega)]
theorem sumS_os (m : Nat) : sumS (osh m) = m := by simp [sumS, osh, size]
theorem prs2_one (s t : Tab) (hs : WT s) (ht : WT t) {c : List Sh} (h0 : c ≠ []) (h : c.length ≤ bsz s * bsz t) : prs t (prs s c) = [fill (ent t (prs s c).length) (prs s c)] := by
  refine prs_small t (prs_ne_nil s h0) ?_
  exact prs_le s (bsz t) c (by rw [Nat.mul_comm]; exact h)
theorem glu_ent_size (s t : Tab) (hs : WT s) (ht : WT t) {m : Nat} (h1 : 1 ≤ m) (h2 : m ≤ bsz s * bsz t) : (ent (glu s t) m).size = m := by
  rw [glu_ent s t hs h1 h2, prs2_one s t hs ht (osh_ne h1) (by simpa [osh] using h2)]
  have e1 := prs_size s hs m (osh m) (by simp [osh])
  have e2 := prs_size t ht _ (prs s (osh m)) rfl
  rw [prs2_one s t hs ht (osh_ne h1) (by simpa [osh] using h2), e1, sumS_os] at e2
  simpa [sumS] using e2
theorem glu_wt (s t : Tab) (hs : WT s) (ht : WT t) : WT (glu s t) := by
  have hl := glu_len s t
  have h1 : 2 ≤ bsz s := by have := hs.1; simp [bsz]; omega
  have h2 : 2 ≤ bsz t := by have := ht.1; simp [bsz]; omega
  have h3 : 4 ≤ bsz s * bsz t := Nat.mul_le_mul h1 h2
  refine ⟨by unfold bsz at hl; unfold bsz at h3; omega, fun i x hx => ?_⟩
  have hi : i < (glu s t).length := (List.getElem?_eq_some_iff.mp hx).1
  have := glu_ent_size s t hs ht (m := i + 2) (by omega) (by unfold bsz at hl ⊢; omega)
  unfold ent at this
  rw [if_neg (by omega), List.getD_eq_getElem?_getD, show i + 2 - 2 = i from by omega, hx] at this
  simpa using this
end DL
namespace DL
open Sh
theorem glu_ent_low (s t : Tab) (hs : WT s) {m : Nat} (h1 : 1 ≤ m) (h2 : m ≤ bsz s) : ent (glu s t) m = ent s m := by
  have hb : 1 ≤ bsz t := by simp [bsz]
  rw [glu_ent s t hs h1 (Nat.le_trans h2 (Nat.le_mul_of_pos_right _ hb))]
  rw [prs_small s (osh_ne h1) (by simpa [osh] using h2), prs_small t (by simp) (by simpa using hb)]
  have := hs.ent h1 h2
  have e : (osh m).length = m := by simp [osh]
  rw [e, fill_os _ _ (by omega)]
  simp [ent, fill]
theorem tab_ext {s t : Tab} (h : s.length = t.length) (k : ∀ m, 2 ≤ m → m ≤ bsz s → ent s m = ent t m) : s = t := by
  refine List.ext_getElem h fun i h1 h2 => ?_
  have := k (i + 2) (by omega) (by unfold bsz; omega)
  unfold ent at this
  rw [if_neg (by omega), if_neg (by omega), List.getD_eq_getElem?_getD, List.getD_eq_getElem?_getD, show i + 2 - 2 = i from by omega, List.getElem?_eq_getElem h1, List.getElem?_eq_getElem h2] at this
  simpa using this
/-- a row pressed, stretch by stretch -/
theorem prs_range (t : Tab) : ∀ (n : Nat) (row : List Sh), row.length = n → prs t row = (List.range ((n + bsz t - 1) / bsz t)).map fun i => fill (ent t (min (bsz t) (n - i * bsz t))) (row.drop (i * bsz t)) := by
  intro n
  induction n using Nat.strongRecOn with
  | _ n ih =>
    intro row hr
    have hb : 0 < bsz t := by simp [bsz]
    by_cases h0 : row = []
    · subst h0
      simp at hr
      subst hr
      have : (0 + bsz t - 1) / bsz t = 0 := Nat.div_eq_of_lt (by omega)
      rw [this, prs_nil]; rfl
    · have hp : 0 < row.length := List.length_pos_iff.mpr h0
      rw [prs_ne t h0, ih (n - bsz t) (by omega) _ (by rw [List.length_drop, hr])]
      have e : (n + bsz t - 1) / bsz t = (n - bsz t + bsz t - 1) / bsz t + 1 := by
        by_cases hle : bsz t ≤ n
        · rw [show n + bsz t - 1 = (n - bsz t + bsz t - 1) + bsz t from by omega, Nat.add_div_right _ hb]
        · rw [show n - bsz t = 0 from by omega, Nat.div_eq_of_lt (by omega : 0 + bsz t - 1 < bsz t)]
          rw [show n + bsz t - 1 = (n - 1) + bsz t from by omega, Nat.add_div_right _ hb, Nat.div_eq_of_lt (by omega)]
      rw [e, List.range_succ_eq_map, List.map_cons, List.map_map]
      congr 1
      · simp [hr]
      · refine List.map_congr_left fun i _ => ?_
        simp only [Function.comp, List.drop_drop, Nat.succ_mul]
        rw [show n - bsz t - i * bsz t = n - (i * bsz t + bsz t) from by omega, show bsz t + i * bsz t = i * bsz t + bsz t from by omega]
end DL
namespace DL
open PySem PySem.Spec PyProof.Rows L2
theorem meets_enum1 {v : Value} {o : Obj} {H : Heap → Prop} (B : Begins v o H) :
    Meets (Builtin.«enumerate.__new__» ⟨[.type "enumerate", v], []⟩) (fun _ R s => H s.heap ∧
      R (.ok (.ret (.ref (s.heap.push o).objs.size))) { s with heap := (s.heap.push o).push { cls := .type "enumerate", data := .fields #[.none, .bool false, .ref s.heap.objs.size, rawInt 0, .none, .none] } }) :=
  .of_wp fun prog w A R s h => by
    obtain ⟨hp, g, d, tk, os⟩ := s; obtain ⟨h1, h⟩ := h
    have hsub := sub_enumerate
    have q1 : ∀ {A' : Around} {E : Value → Shared → Prop} {Q : Value → Shared → Prop}, Q (.ref hp.objs.size) ⟨hp.push o, g, d, tk, os⟩ → wpAny (model prog w) A' (pyIter v) Q E ⟨hp, g, d, tk, os⟩ :=
      fun q => B.iter prog w _ _ ⟨hp, g, d, tk, os⟩ _ h1 q
    wp_walk using q1
    refine wpAny_stack_any fun st => wpAny_pure ?_
    split
    · rename_i c _ _ _ _ _
      cases (c == Value.type "enumerate")
      · wp_walk using q1
        exact ⟨_, rfl, h⟩
      · wp_walk using q1
        exact ⟨_, rfl, h⟩
    · wp_walk using q1
      exact ⟨_, rfl, h⟩
section
variable {prog : Program} {w : World} {A : Around} {E : Value → Shared → Prop} {s : Shared}
theorem call_enum1 {v : Value} {o : Obj} {H : Heap → Prop} {Q : Value → Shared → Prop} (B : Begins v o H) (h1 : H s.heap)
    (h : ∀ h', IsEnum h' (s.heap.objs.size + 1) s.heap.objs.size 0 .none → h'.get? s.heap.objs.size = some o → h'.objs.size = s.heap.objs.size + 2 →
      (∀ b o, s.heap.get? b = some o → h'.get? b = some o) → Q (.ref (s.heap.objs.size + 1)) { s with heap := h' }) :
    wpAny (model prog w) A (call (.type "enumerate") [v]) Q E s := by
  refine callType_new F.called_enumerate (by decide) (F.typeCall_enumerate_1 _) (F.newCall_enumerate_1 _) (fun obj => F.args_object_init_2 obj _) F.entry_enumerate_new
    (meets_enum1 B) ⟨h1, ?_⟩
  have hz : (s.heap.push o).objs.size = s.heap.objs.size + 1 := Heap.size_push ..
  show _ ∧ _
  rw [hz]
  have he : IsEnum ((s.heap.push o).push { cls := .type "enumerate", data := .fields #[.none, .bool false, .ref s.heap.objs.size, rawInt 0, .none, .none] }) (s.heap.objs.size + 1) s.heap.objs.size 0 .none := by
    have := Heap.get?_push_size (s.heap.push o) (o := { cls := .type "enumerate", data := .fields #[.none, .bool false, .ref s.heap.objs.size, rawInt 0, .none, .none] }) rfl
    rw [hz] at this; exact this
  refine ⟨⟨_, he, rfl⟩, h _ he (Heap.get?_push_of_some _ (Heap.get?_push_size _ B.free)) (by rw [Heap.size_push, hz]) fun b o x => Heap.get?_push_of_some _ (Heap.get?_push_of_some _ x)⟩
end
/-- the tuple at a, each item in a new pair -/
def IteT (K : PySem.W.Frag) (a : Addr) : It :=
  ⟨fun i H => ∃ (xs : List V) (x : V), SqT K H a xs ∧ xs[i]? = some x, fun i H v H' => ∃ T x, v = .ref T ∧ H T = none ∧ H' = upd H T (.tup [.int (i : Nat), x]) ∧ ∀ xs, SqT K H a xs → xs[i]? = some x, fun i H => ∃ xs : List V, SqT K H a xs ∧ xs.length ≤ i⟩
theorem turn_enumT {P : Program} {w : World} {K : PySem.W.Frag} {elts : List Expr} {kk : Nat} {tpos : Pos} (a e it : Addr) :
    Turn P w K (.Tuple elts kk tpos) (IteT K a) [e, it] e (fun i h => (∃ old, IsEnum h e it ((i : Nat) : Int) old) ∧ h.IsTupleIter it a i ∧ e ≠ it) where
  mem := by simp
  obj := fun i h st b hb => by
    obtain ⟨⟨old, he⟩, ⟨o, ho, hc, hd⟩, _⟩ := st
    have e' : b = e ∨ b = it := by simpa using hb
    rcases e' with z | z
    · rw [z]; exact ⟨_, he, fun v q => nomatch q⟩
    · rw [z]; exact ⟨o, ho, fun v q => by rw [hd] at q; cases q⟩
  keep := fun i h h' st k => let ⟨⟨old, he⟩, hi, hne⟩ := st; ⟨⟨old, k e (by simp) _ he⟩, hi.at fun o q => k it (by simp) o q, hne⟩
  item := by
    intro X hP hw hK hc i pins s σ H E I hf st hg
    subst hP hw hK
    obtain ⟨⟨old, he⟩, hit, hne⟩ := st
    obtain ⟨xs, x, hq, hx⟩ := hg
    obtain ⟨its, rv, p, hz⟩ := I.tuple hq
    obtain ⟨u, hu, ru⟩ := rv.get hx
    have hel : e < s.heap.objs.size := Heap.lt_size he
    have hil : it < s.heap.objs.size := by obtain ⟨_, q, _⟩ := hit; exact Heap.lt_size q
    have hta : a ≠ it := by
      intro q
      subst q
      obtain ⟨o1, h1, c1, _⟩ := hit
      obtain ⟨o2, h2, c2, _⟩ := p
      rw [h1] at h2; cases h2
      exact absurd (Value.type.inj (c1.symm.trans c2)) (by decide +kernel)
    refine wpAny_pyNext_enum_itemC (Draws.tuple (A := X.A.in1) (I.ok.hd hc) it a hta its.toArray) he ⟨hit, p⟩ (by simpa using (List.getElem?_eq_some_iff.mp hu).1) hne (by
      have : e ≠ a := by
        intro q
        subst q
        obtain ⟨o2, h2, c2, _⟩ := p
        have h3 := he.symm.trans h2
        cases h3
        exact absurd (Value.type.inj c2) (by decide +kernel)
      simp [hne, this]) fun y h' tk hP ho hit' hT hsz hk => ?_
    have ey : y = u := by
      have h1 : its.toArray[i]? = some y := hP
      have h2 : its.toArray[i]? = some u := by simpa using hu
      rw [h2] at h1; exact (Option.some.inj h1).symm
    subst ey
    refine ⟨_, rfl, wpAny_letOwnedTupleGo_enum (s := { s with heap := h', toks := tk + 1 }) ho fun h'' he' sb => ?_⟩
    have hT2 : h''.get? s.heap.objs.size = some { cls := .type "tuple", data := .seq #[.int i tk, y] } := (sb.2 _ (Nat.ne_of_gt hel)).trans hT
    have new : ObjOk X.prog X.w (upd H s.heap.objs.size (.tup [.int (i : Nat), x])) h'' s.heap.objs.size (.tup [.int (i : Nat), x]) :=
      ⟨by show 2 ≤ sizeLine; decide, [.int i tk, y], .cons ⟨_, rfl⟩ (.cons ru .nil), ⟨_, hT2, rfl, _, rfl⟩⟩
    have I1 : Inv X pins σ (upd H s.heap.objs.size (.tup [.int (i : Nat), x])) { s with heap := h'', toks := tk + 1 } :=
      I.turnedNew (ch := [e, it]) (fun b ob hb q => (sb.2 b (fun z => hb (by simp [z]))).trans (hk b ob (fun z => hb (by simp [z])) (fun z => hb (by simp [z])) q)) hf (Nat.le_refl _) new
    refine ⟨.ref s.heap.objs.size, _, I1, rfl, ⟨_, x, rfl, I.hok.fresh (Nat.le_refl _), rfl, fun ys hy => by rw [I.tuple_inj hy hq]; exact hx⟩, ⟨⟨y, ?_⟩, hit'.1.at fun o q => (sb.2 it (Ne.symm hne)).trans q, hne⟩, fun b hb => ?_⟩
    · have e1 : ((i + 1 : Nat) : Int) = (i : Int) + 1 := by omega
      rw [e1]; exact he'
    · have hb' : b < s.heap.objs.size := by
        have e' : b = e ∨ b = it := by simpa using hb
        rcases e' with z | z
        · rw [z]; exact hel
        · rw [z]; exact hil
      rw [upd_ne (Nat.ne_of_lt hb')]
      exact (hf b hb).1
  done := by
    intro X hP hw hK hc i pins s σ H E I hf st hg
    subst hP hw hK
    obtain ⟨⟨old, he⟩, hit, hne⟩ := st
    obtain ⟨xs, hq, hx⟩ := hg
    obtain ⟨its, rv, p, hz⟩ := I.tuple hq
    obtain ⟨f0, f1, f2, f3, f4, f5⟩ := hf it (by simp)
    have hl := rv.length
    have hta : a ≠ it := by
      intro q
      subst q
      obtain ⟨o1, h1, c1, _⟩ := hit
      obtain ⟨o2, h2, c2, _⟩ := p
      rw [h1] at h2; cases h2
      exact absurd (Value.type.inj (c1.symm.trans c2)) (by decide +kernel)
    have D : Draws X.prog X.w X.A.in1 it [it, a] i (fun _ _ => True) (fun j h => j = i ∧ h.IsTupleIter it a i ∧ h.IsTuple a its.toArray) :=
      { live := fun _ _ st => let ⟨o, ho, _⟩ := st.2.1; ⟨o, ho⟩
        frame := fun _ _ _ st hk => ⟨st.1, st.2.1.at fun o e => hk it (by simp) o e, st.2.2.at fun o e => hk a (by simp) o e⟩
        item := fun j s Q E hi st hQ => absurd st.1 (by omega)
        done := fun s Q E st hE => wpAny_nextOf_tuple_end (I.ok.hd hc) st.2.1 st.2.2 (by simp; omega) hE }
    exact wpAny_pyNext_enum_endD D he ⟨rfl, hit, p⟩ fun h' eb => ⟨rfl, I.turned (t' := s.toks) (fun b o hb q => eb b o hb q) f0 f1 f3 f4 f5⟩
  self := fun A i s Q E st h => let ⟨⟨_, he⟩, _⟩ := st; wpAny_pyIter_enum he h
def iEnumS (K : PySem.W.Frag) (ta : TA) : TI := fun σ H R => ta σ H fun vs H1 => ∃ a, vs = [.ref a] ∧ (((∃ xs, SqL K H1 a xs) ∧ R (Ite K a) H1) ∨ ((∃ xs, SqT K H1 a xs) ∧ R (IteT K a) H1))
theorem pi_enumS {X : Cx} {e : Expr} {ta : TA} {p pos tpos : Pos} {elts : List Expr} {kk : Nat} (hg : Gl X "enumerate") (hm : X.mg "enumerate" = none) (ha : PA X [e] ta) (hs : starEach [e] X.env = [(false, eval e X.env)] := by rfl) :
    PI X (.Tuple elts kk tpos) (.Call (.Name "enumerate" p) [e] [] pos) (iEnumS X.K ta) := by
  refine ⟨fun pins s σ H R I h => ?_⟩
  refine Call_ (ld_blt I hg hm boot_enumerate (PyProof.Rows.callWith_type1 (thn (ha.run pos pins s σ H _ I h) fun us s1 ⟨vs, H1, I1, r1, q1⟩ => ?_) hs rfl))
  obtain ⟨a, ex, q1⟩ := q1
  subst ex
  cases r1 with
  | cons r rr =>
    cases rr
    cases r
    have fin : ∀ (h' : Heap), (∀ b o, s1.heap.get? b = some o → h'.get? b = some o) → Inv X pins σ H1 { s1 with heap := h' } := fun h' hk => I1.kept (t' := s1.toks) hk
    have fp : ∀ b ∈ [s1.heap.objs.size + 1, s1.heap.objs.size], FpOk X pins H1 b := fun b hb => by
      have e' : b = s1.heap.objs.size + 1 ∨ b = s1.heap.objs.size := by simpa using hb
      have hle : s1.heap.objs.size ≤ b := by
        rcases e' with z | z
        · rw [z]; exact Nat.le_add_right _ _
        · rw [z]; exact Nat.le_refl _
      exact I1.fpOk hle (I1.hok.fresh hle)
    rcases q1 with ⟨⟨xs, hq⟩, q⟩ | ⟨⟨xs, hq⟩, q⟩
    · obtain ⟨its, rv, p', hz⟩ := I1.list hq
      refine call_enumerate_list p'.isList fun h' he hit hsz hk => wpAny_pyIter_enum he ?_
      exact ⟨s1.heap.objs.size + 1, [s1.heap.objs.size + 1, s1.heap.objs.size], _, _, H1, rfl, fin h' hk, turn_enum a (s1.heap.objs.size + 1) s1.heap.objs.size, ⟨⟨.none, he⟩, hit, Nat.succ_ne_self _⟩, fp, q⟩
    · obtain ⟨its, rv, p', hz⟩ := I1.tuple hq
      refine call_enum1 (begins_tuple a its.toArray) p' fun h' he hit hsz hk => wpAny_pyIter_enum he ?_
      exact ⟨s1.heap.objs.size + 1, [s1.heap.objs.size + 1, s1.heap.objs.size], _, _, H1, rfl, fin h' hk, turn_enumT a (s1.heap.objs.size + 1) s1.heap.objs.size, ⟨⟨.none, he⟩, ⟨_, hit, rfl, rfl⟩, Nat.succ_ne_self _⟩, fp, q⟩
/-- (0, x0), (1, x1), .. -/
def enumL (k : Nat) : List D → List D
  | [] => []
  | d :: ds => .tup [.int k, d] :: enumL (k + 1) ds
theorem enumL_len : ∀ (ds : List D) (k : Nat), (enumL k ds).length = ds.length
  | [], _ => rfl
  | _ :: ds, k => by rw [enumL, List.length_cons, List.length_cons, enumL_len ds]
theorem enumL_get : ∀ (ds : List D) (k i : Nat) (e : D), (enumL k ds)[i]? = some e → ∃ d, ds[i]? = some d ∧ e = .tup [.int ((k + i : Nat) : Int), d]
  | [], _, i, e, h => by simp [enumL] at h
  | d :: ds, k, 0, e, h => by
    simp [enumL] at h
    subst h
    exact ⟨d, rfl, by simp⟩
  | d :: ds, k, i + 1, e, h => by
    simp only [enumL, List.getElem?_cons_succ] at h
    obtain ⟨d', h1, h2⟩ := enumL_get ds (k + 1) i e h
    refine ⟨d', by simpa using h1, ?_⟩
    rw [h2]
    have : k + 1 + i = k + (i + 1) := by omega
    rw [this]
section
variable {im : Addr → Bool} {Ω : Type} {G : Gam im Ω} {K : PySem.W.Frag} {W : WX} {te : TE} {Fe : E Ω D}
theorem Rep.pair {H : Hp} {T : Addr} {k : Int} {v : V} {d : D} (hT : H T = none) (r : Rep K im H v d) : Rep K im (upd H T (.tup [.int k, v])) (.ref T) (.tup [.int k, d]) :=
  .tup upd_same (.cons (.int k) (.cons (r.up (.of (Same.new hT))) .nil))
theorem yields_enumL {a : Addr} {H : Hp} {vs : List V} {ds : List D} (h1 : SqZ H a vs) (h2 : RepL K im H vs ds) : Yields im K (Ite K a) H (enumL 0 ds) := by
  intro i H' sb
  have q := sb.sqZ h1
  have r := h2.up sb
  refine ⟨fun e he => ?_, fun hi => ⟨vs, q.l, by rw [r.length]; rw [enumL_len] at hi; exact hi⟩⟩
  obtain ⟨d, hd, rfl⟩ := enumL_get ds 0 i e he
  obtain ⟨v, hv, rv⟩ := r.get hd
  refine ⟨⟨vs, v, q.l, hv⟩, fun x H3 y => ?_⟩
  obtain ⟨T, z, rfl, hT, rfl, y⟩ := y
  have := y vs q.l
  rw [hv] at this; cases this
  rw [Nat.zero_add]
  exact ⟨Same.new hT, Rep.pair hT rv⟩
theorem yields_enumT {a : Addr} {H : Hp} {vs : List V} {ds : List D} (h1 : SqT K H a vs) (h2 : RepL K im H vs ds) : Yields im K (IteT K a) H (enumL 0 ds) := by
  intro i H' sb
  have q := sb.sqT h1
  have r := h2.up sb
  refine ⟨fun e he => ?_, fun hi => ⟨vs, q, by rw [r.length]; rw [enumL_len] at hi; exact hi⟩⟩
  obtain ⟨d, hd, rfl⟩ := enumL_get ds 0 i e he
  obtain ⟨v, hv, rv⟩ := r.get hd
  refine ⟨⟨vs, v, q, hv⟩, fun x H3 y => ?_⟩
  obtain ⟨T, z, rfl, hT, rfl, y⟩ := y
  have := y vs q
  rw [hv] at this; cases this
  rw [Nat.zero_add]
  exact ⟨Same.new hT, Rep.pair hT rv⟩
def iEn (a : E Ω D) : E Ω (List D) := fun τ ω => (a τ ω).bind fun x ω1 => .ofO (x.itemsS.map (enumL 0)) ω1
theorem di_enum (he : DE G K W te Fe) : DI G K W (iEnumS K (tCons te tNil)) (iEn Fe) := by
  intro H0 σ H ω τ s t' R h
  refine he H0 σ H ω τ s t' _ (Res.imp (Res.bind h) (fun x ω1 H1 k1 t1 h1 v r => ?_) fun _ _ _ _ _ q => q)
  cases r with
  | @lst a vs ds a1 a2 => exact ⟨a, rfl, .inl ⟨⟨vs, a1.l⟩, h1 H1 k1 t1 _ (yields_enumL a1 a2)⟩⟩
  | @tup a vs ds a1 a2 => exact ⟨a, rfl, .inr ⟨⟨vs, a1⟩, h1 H1 k1 t1 _ (yields_enumT a1 a2)⟩⟩
  | _ => exact h1.elim
def tNever : TS := fun _ _ _ => False
def sNo : S Ω := fun _ _ => none
theorem ps_never {X : Cx} {st : Stmt} : PS X st tNever := ⟨fun _ _ _ _ _ _ h => h.elim⟩
theorem ds_never : DS G K W tNever sNo := fun _ _ _ _ _ _ _ _ h => h.elim
end
def D.toBools : List D → Option (List Bool)
  | [] => some []
  | .bl b :: r => (D.toBools r).map (b :: ·)
  | _ => none
theorem toBools_map : ∀ {ds : List D} {ns : List Bool}, D.toBools ds = some ns → ds = ns.map D.bl
  | [], ns, h => by cases h; rfl
  | .bl i :: r, ns, h => by
    obtain ⟨ms, e, rfl⟩ := Option.map_eq_some_iff.mp h
    rw [List.map_cons, ← toBools_map e]
  | .non :: _, _, h => by cases h
  | .int _ :: _, _, h => by cases h
  | .str _ :: _, _, h => by cases h
  | .tup _ :: _, _, h => by cases h
  | .lst _ :: _, _, h => by cases h
  | .dic _ _ :: _, _, h => by cases h
  | .dit _ _ :: _, _, h => by cases h
  | .ins _ _ :: _, _, h => by cases h
theorem toBools_of (ns : List Bool) : D.toBools (ns.map D.bl) = some ns := by
  induction ns with
  | nil => rfl
  | cons n ns ih => simp [D.toBools, ih]
def allD : D → Option D
  | .lst ds => (D.toBools ds).map fun bs => .bl (bs.all id)
  | _ => none
def anyD : D → Option D
  | .lst ds => (D.toBools ds).map fun bs => .bl (bs.any id)
  | _ => none
instance {i j : Int} : Decidable (CDivP i j) := by unfold CDivP; infer_instance
section
variable {X : Cx} {im : Addr → Bool} {pins : List (Addr × Obj)} {σ : L2.St} {H : Hp} {s : Shared}
theorem RepL.bools : ∀ {ns : List Bool} {vs : List V}, RepL X.K im H vs (ns.map D.bl) → vs = ns.map V.bl
  | [], _, h => by cases h; rfl
  | _ :: _, _, h => by
    cases h with
    | cons a b => cases a; rw [List.map_cons, ← RepL.bools b]
theorem call_allDD (hc : X.calm = true) : CallR X (.builtin "all") (rDN X.K im (un1 allD)) := by
  intro pins s σ H xs us Q I r h
  obtain ⟨ds, z, hd, hz, q⟩ := h
  obtain ⟨v, d, rfl, hd, hz⟩ := un1_ok hd hz
  cases hd with
  | @lst a vs ds h1 h2 =>
    obtain ⟨ns, e, rfl⟩ := Option.map_eq_some_iff.mp hz
    obtain rfl := toBools_map e
    obtain rfl := h2.bools
    exact cr_all hc pins s σ H _ us Q I r ⟨a, ns, rfl, h1.l, q _ _ (Same.refl _) (.bl _)⟩
  | _ => simp [allD] at hz
theorem call_anyDD (hc : X.calm = true) : CallR X (.builtin "any") (rDN X.K im (un1 anyD)) := by
  intro pins s σ H xs us Q I r h
  obtain ⟨ds, z, hd, hz, q⟩ := h
  obtain ⟨v, d, rfl, hd, hz⟩ := un1_ok hd hz
  cases hd with
  | @lst a vs ds h1 h2 =>
    obtain ⟨ns, e, rfl⟩ := Option.map_eq_some_iff.mp hz
    obtain rfl := toBools_map e
    obtain rfl := h2.bools
    exact cr_any hc pins s σ H _ us Q I r ⟨a, ns, rfl, h1.l, q _ _ (Same.refl _) (.bl _)⟩
  | _ => simp [anyD] at hz
end
end DL
namespace DL
open PySem PySem.Spec PyProof.Rows L2
section
variable {im : Addr → Bool} {Ω : Type} {G : Gam im Ω} {K : PySem.W.Frag} {W : WX} {ta tb tc : TE} {Fa Fb Fc : E Ω D} {Fl' : E Ω (List D)}
def rgI (lo : Int) : Nat → List Int
  | 0 => []
  | n + 1 => lo :: rgI (lo + 1) n
theorem rangeL_rgI : ∀ (n : Nat) (lo : Int), rangeL lo 1 n = (rgI lo n).map D.int
  | 0, _ => rfl
  | n + 1, lo => by rw [rangeL, rgI, List.map_cons, rangeL_rgI n]
theorem rgI_get : ∀ (n : Nat) (lo : Int) (i : Nat), (rgI lo n)[i]? = if i < n then some (lo + (i : Nat)) else none
  | 0, lo, i => by simp [rgI]
  | n + 1, lo, 0 => by simp [rgI]
  | n + 1, lo, i + 1 => by
    simp only [rgI, List.getElem?_cons_succ, rgI_get n (lo + 1) i]
    by_cases h : i < n
    · rw [if_pos h, if_pos (by omega)]; congr 1; omega
    · rw [if_neg h, if_neg (by omega)]
theorem rgV_rgI (a b : Int) : rgV a b = (rgI a (b - a).toNat).map V.int := by
  apply List.ext_getElem?
  intro i
  unfold rgV
  rw [List.getElem?_map, List.getElem?_map, rgI_get]
  by_cases h : i < (b - a).toNat
  · rw [if_pos h, List.getElem?_range h]; rfl
  · rw [if_neg h, List.getElem?_eq_none (by simpa using h)]; rfl
theorem rgV_rep {H : Hp} (a b : Int) : RepL K im H (rgV a b) (rangeL a 1 (b - a).toNat) := by
  rw [rgV_rgI, rangeL_rgI]
  generalize rgI a (b - a).toNat = xs
  induction xs with
  | nil => exact .nil
  | cons x xs ih => exact .cons (.int x) ih
def DRg (G : Gam im Ω) (K : PySem.W.Frag) (W : WX) (tr : L2.St → Hp → (Int → Int → Hp → Prop) → Prop) (F : E Ω (Int × Int)) : Prop := ∀ H0 σ H ω τ, STT G K H0 H σ τ → G.At ω H → ∀ Q : Int → Int → Hp → Prop,
  Res G (F τ ω) H (fun p _ H' => Q p.1 p.2 H') (kX G K W σ) → tr σ H Q
def rRg2 (a b : E Ω D) : E Ω (Int × Int) := fun τ ω => (a τ ω).bind fun x ω1 => (b τ ω1).bind fun y ω2 => match x, y with
  | .int i, .int j => .ok (i, j) ω2
  | _, _ => .no
theorem drg_2 (ha : DE G K W ta Fa) (hb : DE G K W tb Fb) : DRg G K W (tRg2 ta tb) (rRg2 Fa Fb) := by
  intro H0 σ H ω τ s t Q h
  refine ha H0 σ H ω τ s t _ (Res.imp (Res.bind h) (fun x ω1 H1 k1 t1 h1 v r => ?_) fun _ _ _ _ _ q => q)
  refine hb H0 σ H1 ω1 τ (s.step t k1) t1 _ (Res.imp (Res.bind (h1.mono k1)) (fun y ω2 H2 k2 t2 h2 w r2 => ?_) fun _ _ _ _ _ q => q)
  have h3 := h2.mono k2
  cases r with
  | int i =>
    cases r2 with
    | int j => exact ⟨i, j, rfl, rfl, h3 H2 .refl t2⟩
    | _ => exact h3.elim
  | _ => cases r2 <;> exact h3.elim
def eLRg (r : E Ω (Int × Int)) : E Ω (List D) := fun τ ω => (r τ ω).bind fun p ω1 => if -(2 ^ 62) ≤ p.1 ∧ p.1 < 2 ^ 62 ∧ -(2 ^ 62) ≤ p.2 ∧ p.2 < 2 ^ 62 ∧ (p.2 - p.1).toNat ≤ 2 ^ 24 then .ok (rangeL p.1 1 (p.2 - p.1).toNat) ω1 else .no
theorem dl_lrg {tr : L2.St → Hp → (Int → Int → Hp → Prop) → Prop} {Fr : E Ω (Int × Int)} (hr : DRg G K W tr Fr) : DL G K W (tLstRg tr) (eLRg Fr) := by
  intro H0 σ H ω τ s t Q h
  refine hr H0 σ H ω τ s t _ (Res.imp (Res.bind h) (fun p ω1 H1 k1 t1 h1 => ?_) fun _ _ _ _ _ q => q)
  have h2 := h1.mono k1
  split at h2
  · rename_i hc
    refine ⟨hc, fun q hq => ?_⟩
    have sm : Same H1 (upd H1 q (.lst (rgV p.1 p.2))) := Same.new hq
    have hp0 : H q = none := by
      cases e : H q with
      | none => rfl
      | some o =>
        by_cases f : G.FP q
        · exact absurd hq (G.trk t1 q f)
        · have := k1 q o e f; rw [hq] at this; cases this
    exact h2 _ (.of sm) (At.same t1 sm) _ _ hp0 upd_same (rgV_rep _ _)
  · exact h2.elim
end
end DL
namespace DL
open PySem PySem.Spec PyProof.Rows L2
end DL
namespace DL
open PySem PySem.Spec PyProof.Rows L2
section
variable {κ : Type} [DecidableEq κ]
def lkp : List κ → List D → κ → Option D
  | k' :: ks, d :: ds, k => if k' = k then some d else lkp ks ds k
  | _, _, _ => none
def repD : List κ → List D → κ → D → List D
  | k' :: ks, d' :: ds, k, d => (if k' = k then d else d') :: repD ks ds k d
  | _, _, _, _ => []
def putKs (ks : List κ) (k : κ) : List κ := if ks.any (fun k' => decide (k' = k)) = true then ks else ks ++ [k]
def putDs (ks : List κ) (ds : List D) (k : κ) (d : D) : List D := if ks.any (fun k' => decide (k' = k)) = true then repD ks ds k d else ds ++ [d]
section
variable {K : PySem.W.Frag} {im : Addr → Bool} {H : Hp}
theorem lkp_val : ∀ {ks : List κ} {vs : List V} {ds : List D} (k : κ), ks.length = vs.length → RepL K im H vs ds → (∀ d, lkp ks ds k = some d → ∃ v, valV (ks.zip vs) k = some v ∧ Rep K im H v d) ∧ (lkp ks ds k = none → valV (ks.zip vs) k = none)
  | [], _, _, k, hl, r => ⟨fun d e => by simp [lkp] at e, fun _ => by simp [valV_nil]⟩
  | k' :: ks, [], _, k, hl, r => by simp at hl
  | k' :: ks, v :: vs, _, k, hl, .cons (d := d0) (ds := ds) r1 r2 => by
    rw [List.zip_cons_cons]
    by_cases e : k' = k
    · rw [valV_pos e]
      simp only [lkp, if_pos e]
      exact ⟨fun d h => ⟨v, rfl, by cases h; exact r1⟩, fun h => by cases h⟩
    · rw [valV_neg (p := (k', v)) e]
      simp only [lkp, if_neg e]
      exact lkp_val k (by simpa using hl) r2
def repV : List κ → List V → κ → V → List V
  | k' :: ks, d' :: ds, k, d => (if k' = k then d else d') :: repV ks ds k d
  | _, _, _, _ => []
theorem zip_any (k : κ) : ∀ {ks : List κ} {vs : List V}, ks.length = vs.length → ((ks.zip vs).any fun kv => decide (kv.1 = k)) = ks.any (fun k' => decide (k' = k))
  | [], _, _ => rfl
  | k' :: ks, [], hl => by simp at hl
  | k' :: ks, v :: vs, hl => by rw [List.zip_cons_cons, List.any_cons, List.any_cons, zip_any k (ks := ks) (vs := vs) (by simpa using hl)]
theorem zip_rep (k : κ) (v : V) : ∀ {ks : List κ} {vs : List V}, ks.length = vs.length → (ks.zip vs).map (fun kv => if kv.1 = k then (kv.1, v) else kv) = ks.zip (repV ks vs k v)
  | [], _, _ => rfl
  | k' :: ks, [], hl => by simp at hl
  | k' :: ks, v' :: vs, hl => by
    rw [List.zip_cons_cons, List.map_cons, zip_rep k v (ks := ks) (vs := vs) (by simpa using hl), repV, List.zip_cons_cons]
    congr 1
    by_cases e : k' = k <;> simp [e]
theorem repV_len (k : κ) (v : V) : ∀ {ks : List κ} {vs : List V}, ks.length = vs.length → ks.length = (repV ks vs k v).length
  | [], _, _ => by simp [repV]
  | k' :: ks, [], hl => by simp at hl
  | k' :: ks, v' :: vs, hl => by rw [repV, List.length_cons, List.length_cons, ← repV_len k v (ks := ks) (vs := vs) (by simpa using hl)]
theorem repV_rep {v : V} {d : D} (k : κ) (r : Rep K im H v d) : ∀ {ks : List κ} {vs : List V} {ds : List D}, ks.length = vs.length → RepL K im H vs ds → RepL K im H (repV ks vs k v) (repD ks ds k d)
  | [], _, _, _, _ => by simp [repV, repD]; exact .nil
  | k' :: ks, [], _, hl, _ => by simp at hl
  | k' :: ks, v' :: vs, _, hl, .cons r1 r2 => by
    rw [repV, repD]
    refine .cons ?_ (repV_rep k r (by simpa using hl) r2)
    split
    · exact r
    · exact r1
theorem put_ok {v : V} {d : D} {ks : List κ} {vs : List V} {ds : List D} (k : κ) (hl : ks.length = vs.length) (r : RepL K im H vs ds) (rv : Rep K im H v d) :
    ∃ ws, putK (ks.zip vs) k v = (putKs ks k).zip ws ∧ (putKs ks k).length = ws.length ∧ RepL K im H ws (putDs ks ds k d) := by
  unfold putK putKs putDs
  rw [zip_any k hl]
  split
  · exact ⟨repV ks vs k v, zip_rep k v hl, repV_len k v hl, repV_rep k rv hl r⟩
  · refine ⟨vs ++ [v], ?_, by simp [hl], r.append (.one rv)⟩
    rw [List.zip_append hl]; rfl
theorem repD_len (k : κ) (d : D) : ∀ {ks : List κ} {ds : List D}, ks.length = ds.length → (repD ks ds k d).length = ds.length
  | [], ds, h => by simp [repD]; simp at h; omega
  | k' :: ks, [], hl => by simp at hl
  | k' :: ks, v' :: vs, hl => by rw [repD, List.length_cons, List.length_cons, repD_len k d (ks := ks) (ds := vs) (by simpa using hl)]
theorem put_len {ks : List κ} {ds : List D} (k : κ) (d : D) (hl : ks.length = ds.length) : (putKs ks k).length = (putDs ks ds k d).length := by
  unfold putKs putDs
  split
  · rw [repD_len k d hl]; exact hl
  · simp [hl]
end
end
def D.key : D → Option Key
  | .int i => some (.inl i)
  | .str x => some (.inr x)
  | _ => none
def D.keyL : List D → Option (List Key)
  | [] => some []
  | d :: ds => match d.key, D.keyL ds with
    | some k, some r => some (k :: r)
    | _, _ => none
theorem Rep.key {K : PySem.W.Frag} {im : Addr → Bool} {H : Hp} {v : V} {d : D} {k : Key} (r : Rep K im H v d) (e : d.key = some k) : v = kV k := by
  cases r <;> simp [D.key] at e <;> subst e <;> rfl
theorem RepL.key {K : PySem.W.Frag} {im : Addr → Bool} {H : Hp} : ∀ {vs : List V} {ds : List D} {k : List Key}, RepL K im H vs ds → D.keyL ds = some k → vs = k.map kV
  | _, _, _, .nil, e => by cases e; rfl
  | _, _, _, .cons (d := d) (ds := ds) r1 r2, e => by
    unfold D.keyL at e
    cases h1 : d.key with
    | none => rw [h1] at e; cases e
    | some k1 =>
      cases h2 : D.keyL ds with
      | none => rw [h1, h2] at e; cases e
      | some k2 =>
        rw [h1, h2] at e
        cases e
        rw [List.map_cons, ← r1.key h1, ← RepL.key r2 h2]
section
variable {im : Addr → Bool} {Ω : Type} {G : Gam im Ω} {K : PySem.W.Frag} {W : WX} {ta tk te : TE} {Fa Fk Fe : E Ω D} {tr : TA} {Fr : E Ω (List D)}
/-- a name that holds a dict by tuples: what it has -/
def PlT (G : Gam im Ω) (K : PySem.W.Frag) (i : Nat) (P : Tau → Ω → Option (List (List Key) × List D)) : Prop := ∀ H0 σ H ω τ, STT G K H0 H σ τ → G.At ω H → ∀ ks ds, P τ ω = some (ks, ds) →
  ∃ a vs, σ[i]? = some (some (.ref a)) ∧ Rd H a (.dT (ks.zip vs)) ∧ ks.length = vs.length ∧ RepL K im H vs ds
def pT (i : Nat) : Tau → Ω → Option (List (List Key) × List D) := fun τ _ => match τ[i]? with
  | some (some (.d (.dit ks ds))) => some (ks, ds)
  | some (some (.ow (.T ks) ds)) => some (ks, ds)
  | _ => none
theorem plT (i : Nat) : PlT G K i (pT i) := by
  intro H0 σ H ω τ s t ks ds e
  unfold pT at e
  split at e
  · rename_i ks' ds' h
    cases e
    obtain ⟨v, e1, r⟩ := s.get h
    cases r with
    | dit h1 h2 h3 => exact ⟨_, _, e1, .inr ⟨_, h1⟩, h2, h3⟩
  · rename_i ks' ds' h
    cases e
    obtain ⟨l, vs, e1, h1, h2, _, _, h3⟩ := s.getW h
    exact ⟨_, vs, e1, .inl h1, by rw [h2.length]; exact h3, h2⟩
  · cases e
def eDgT (P : Tau → Ω → Option (List (List Key) × List D)) (r : E Ω (List D)) : E Ω D := fun τ ω => match P τ ω with
  | none => .no
  | some _ => (r τ ω).bind fun xs ω1 => match D.keyL xs, P τ ω1 with
    | some k, some (ks, ds) => if k.length ≤ 1000 then .ofO (lkp ks ds k) ω1 else .no
    | _, _ => .no
def eDiT (b : Bool → Bool) (P : Tau → Ω → Option (List (List Key) × List D)) (r : E Ω (List D)) : E Ω D := fun τ ω => (r τ ω).bind fun xs ω1 => match D.keyL xs, P τ ω1 with
  | some k, some (ks, ds) => if k.length ≤ 1000 then .ok (.bl (b (lkp ks ds k).isSome)) ω1 else .no
  | _, _ => .no
theorem keyL_len : ∀ {xs : List D} {k : List Key}, D.keyL xs = some k → k.length = xs.length
  | [], _, e => by cases e; rfl
  | d :: ds, _, e => by
    unfold D.keyL at e
    cases h1 : d.key with
    | none => rw [h1] at e; cases e
    | some k1 =>
      cases h2 : D.keyL ds with
      | none => rw [h1, h2] at e; cases e
      | some k2 => rw [h1, h2] at e; cases e; simp [keyL_len h2]
theorem rd_keep {H : Hp} {a p : Addr} {u v : HO} (r : Rd H a u) (hp : H p = none) : Rd (upd H p v) a u := by
  rcases r with r | ⟨o, r⟩
  · exact .inl (by rw [upd_ne (ne_of_none r hp)]; exact r)
  · exact .inr ⟨o, by rw [upd_ne (ne_of_none r hp)]; exact r⟩
theorem getT_core {i : Nat} {P : Tau → Ω → Option (List (List Key) × List D)} (hP : PlT G K i P) {H0 : Hp} {σ : L2.St} {H : Hp} {ω : Ω} {τ : Tau} (s : STT G K H0 H σ τ) (t : G.At ω H) {xs : List D} {vs : List V} {k : List Key} {ks : List (List Key)} {ds : List D}
    (r : RepL K im H vs xs) (ek : D.keyL xs = some k) (eP : P τ ω = some (ks, ds)) {p : Addr} (hp : H p = none) :
    ∃ a ws, σ[i]? = some (some (.ref a)) ∧ DGet (upd H p (.tup vs)) a (.ref p) (valV (ks.zip ws) k) ∧ IsD H a ∧ ks.length = ws.length ∧ RepL K im (upd H p (.tup vs)) ws ds := by
  obtain ⟨a, ws, e1, rd, hl, rr⟩ := hP H0 σ H ω τ s t ks ds eP
  refine ⟨a, ws, e1, .inr ⟨ks.zip ws, k, p, rd_keep rd hp, rfl, ?_, rfl⟩, .inr ⟨_, rd⟩, hl, rr.up (.of (Same.new hp))⟩
  rw [upd_same, r.key ek]
theorem de_dgT {i : Nat} {P : Tau → Ω → Option (List (List Key) × List D)} (hP : PlT G K i P) (hr : DA G K W tr Fr) : DE G K W (tDGet (tVar i) (tTup tr)) (eDgT P Fr) := by
  intro H0 σ H ω τ s t Q h
  unfold eDgT at h
  cases eP0 : P τ ω with
  | none => rw [eP0] at h; exact h.elim
  | some q0 =>
  rw [eP0] at h
  obtain ⟨a0, _, ea, _⟩ := hP H0 σ H ω τ s t _ _ eP0
  refine ⟨_, ea, ?_⟩
  refine hr H0 σ H ω τ s t _ (Res.imp (Res.bind h) (fun xs ω1 H1 k1 t1 h1 vs r => ?_) fun _ _ _ _ _ q => q)
  have h2 := h1.mono k1
  cases ek : D.keyL xs with
  | none => rw [ek] at h2; exact h2.elim
  | some k =>
  cases eP : P τ ω1 with
  | none => rw [ek, eP] at h2; exact h2.elim
  | some q =>
  obtain ⟨ks, ds⟩ := q
  rw [ek, eP] at h2
  dsimp only at h2
  split at h2
  case isFalse => exact h2.elim
  rename_i hk
  refine ⟨by rw [r.length, ← keyL_len ek]; exact line1000 hk, fun p hp => ?_⟩
  obtain ⟨a, ws, e1, g, _, hl, rr⟩ := getT_core hP (s.step t k1) t1 r ek eP hp
  rw [ea] at e1; cases e1
  have sm : Same H1 (upd H1 p (.tup vs)) := Same.new hp
  cases el : lkp ks ds k with
  | none => rw [el] at h2; exact h2.elim
  | some z =>
    rw [el] at h2
    obtain ⟨v, hv, rv⟩ := (lkp_val k hl rr).1 z el
    rw [hv] at g
    exact ⟨a0, v, rfl, g, h2 _ (.of sm) (At.same t1 sm) v rv⟩
theorem inT_core {i : Nat} {b : Bool → Bool} {P : Tau → Ω → Option (List (List Key) × List D)} (hP : PlT G K i P) (hr : DA G K W tr Fr) :
    DE G K W (fun σ H Q => tTup tr σ H fun y H1 => tVar i σ H1 fun x H2 => ∃ a o, x = .ref a ∧ DGet H2 a y o ∧ Q (.bl (b o.isSome)) H2) (eDiT b P Fr) := by
  intro H0 σ H ω τ s t Q h
  unfold eDiT at h
  refine hr H0 σ H ω τ s t _ (Res.imp (Res.bind h) (fun xs ω1 H1 k1 t1 h1 vs r => ?_) fun _ _ _ _ _ q => q)
  have h2 := h1.mono k1
  cases ek : D.keyL xs with
  | none => rw [ek] at h2; exact h2.elim
  | some k =>
  cases eP : P τ ω1 with
  | none => rw [ek, eP] at h2; exact h2.elim
  | some q =>
  obtain ⟨ks, ds⟩ := q
  rw [ek, eP] at h2
  dsimp only at h2
  split at h2
  case isFalse => exact h2.elim
  rename_i hk
  refine ⟨by rw [r.length, ← keyL_len ek]; exact line1000 hk, fun p hp => ?_⟩
  obtain ⟨a, ws, e1, g, _, hl, rr⟩ := getT_core hP (s.step t k1) t1 r ek eP hp
  have sm : Same H1 (upd H1 p (.tup vs)) := Same.new hp
  refine ⟨_, e1, a, _, rfl, g, ?_⟩
  have e : (valV (ks.zip ws) k).isSome = (lkp ks ds k).isSome := by
    cases el : lkp ks ds k with
    | none => rw [(lkp_val k hl rr).2 el]; rfl
    | some z => obtain ⟨v, hv, _⟩ := (lkp_val k hl rr).1 z el; rw [hv]; rfl
  rw [e]
  exact h2 _ (.of sm) (At.same t1 sm) _ (.bl _)
theorem de_dnT {i : Nat} {P : Tau → Ω → Option (List (List Key) × List D)} (hP : PlT G K i P) (hr : DA G K W tr Fr) : DE G K W (tDNotIn (tTup tr) (tVar i)) (eDiT (fun b => !b) P Fr) := inT_core hP hr
def sNewT (i : Nat) : S Ω := fun τ ω => some (.nx (τ.set i (some (.ow (.T []) []))), ω)
theorem ds_newT {i : Nat} : DS G K W (tAsg tDNewT (gName i)) (sNewT i) := by
  intro H0 σ H ω τ s t D h p hp
  exact h _ _ (.of (Same.new hp)) (s.setW (kd := .T []) t hp (.of (Same.new hp)) upd_same .nil rfl i) (At.same t (Same.new hp))
/-- what e gives, finished -/
def tFrzW (te : TE) : TE := fun σ H Q => te σ H fun v H1 => ∃ a u, v = .ref a ∧ H1 a = some u ∧ Mut (some u) ∧ ∀ o, Q (.ref a) (upd H1 a (.frz o u))
theorem pe_frzW {X : Cx} {e : Expr} {te : TE} (h : PE X e te) : PE X e (tFrzW te) :=
  ⟨fun pins s σ H Q I q => thn (h.run pins s σ H _ I q) fun _ _ ⟨v, H1, J, r, a, u, ev, ha, mu, q⟩ => by
    subst ev
    obtain ⟨o, J'⟩ := J.lock ha mu
    exact ⟨_, _, J', r, q o⟩⟩
def OKd.fin : OKd → List D → D
  | .L, xs => .lst xs
  | .K ks, xs => .dic ks xs
  | .T ks, xs => .dit ks xs
def sRetW (i : Nat) : S Ω := fun τ ω => match τ[i]? with
  | some (some (.ow k xs)) => some (.rt (k.fin xs), ω)
  | _ => none
theorem OKd.mut (k : OKd) (vs : List V) : Mut (some (k.ho vs)) := by cases k <;> trivial
theorem OKd.rep {H : Hp} {l : Addr} {k : OKd} {vs : List V} {xs : List D} {o : Obj} (h : H l = some (.frz o (k.ho vs))) (r : RepL K im H vs xs) (hl : k.len xs.length) : Rep K im H (.ref l) (k.fin xs) := by
  cases k with
  | L => exact .lst ⟨o, h⟩ r
  | K ks => exact .dic h (by rw [r.length]; exact hl) r
  | T ks => exact .dit h (by rw [r.length]; exact hl) r
theorem ds_retW {i : Nat} : DS G K W (tRet (tFrzW (tVar i))) (sRetW i) := by
  intro H0 σ H ω τ s t D h
  unfold sRetW at h
  split at h
  · rename_i k xs hx
    obtain ⟨l, vs, e, h1, h2, h3, h4, h5⟩ := s.getW hx
    refine ⟨_, e, l, _, rfl, h1, k.mut vs, fun o => ?_⟩
    have sb : Sb im H (upd H l (.frz o (k.ho vs))) := fun b u eb st => by
      have : b ≠ l := fun q => by subst q; rw [h1] at eb; cases eb; exact OKd.nst st
      rw [upd_ne this]; exact eb
    refine h _ _ sb (fun b u eb nf => ?_) (G.keep t (fun b u f eb => ?_) sb) (OKd.rep upd_same (h2.up sb) h5)
    · have k := s.fr b u eb nf
      have : b ≠ l := fun q => by subst q; rw [h3] at eb; cases eb
      rw [upd_ne this]; exact k
    · have : b ≠ l := fun q => h4 (q ▸ f)
      rw [upd_ne this]; exact eb
  · exact h.elim
end
end DL
namespace DL
open PySem PySem.Spec PyProof.Rows L2
abbrev OW := OKd × List D
def owG (im : Addr → Bool) (K : PySem.W.Frag) (p : Addr) : Gam im OW where
  At := fun ω H => ∃ vs, H p = some (ω.1.ho vs) ∧ RepL K im H vs ω.2 ∧ ω.1.len ω.2.length
  FP := fun b => b = p
  obj := .ref p
  keep := fun ⟨vs, h1, h2, h3⟩ k sb => ⟨vs, k _ _ rfl h1, h2.up sb, h3⟩
  nost := fun ⟨vs, h1, _⟩ b o f e s => by subst f; rw [h1] at e; cases e; exact OKd.nst s
  trk := fun ⟨vs, h1, _⟩ b f e => by subst f; rw [h1] at e; cases e
section
variable {im : Addr → Bool} {K : PySem.W.Frag} {W : WX} {p : Addr} {tv tk : TE} {Fv Fk : E OW D} {tr : TA} {Fr : E OW (List D)}
def sPutTs (i : Nat) (r : E OW (List D)) (v : E OW D) : S OW := fun τ ω => match τ[i]? with
  | some (some .src) => withE v (fun d => withE r fun xs τ ω => match D.keyL xs, ω with
    | some key, (.T ks, ds) => if ks.length ≤ 100000 ∧ key.length ≤ 1000 then some (.nx τ, (.T (putKs ks key), putDs ks ds key d)) else none
    | _, _ => none) τ ω
  | _ => none
theorem ow_chg {H0 H : Hp} {σ : L2.St} {τ : Tau} {ω ω' : OW} {vs : List V} (s : STT (owG im K p) K H0 H σ τ) (t : (owG im K p).At ω H) (r : RepL K im H vs ω'.2) (hl : ω'.1.len ω'.2.length) :
    STT (owG im K p) K H0 (upd H p (ω'.1.ho vs)) σ τ ∧ (owG im K p).At ω' (upd H p (ω'.1.ho vs)) ∧ Sb im H (upd H p (ω'.1.ho vs)) := by
  obtain ⟨us, h1, h2, h3⟩ := id t
  have sb : Sb im H (upd H p (ω'.1.ho vs)) := fun b o e st => by
    have : b ≠ p := fun q => by subst q; rw [h1] at e; cases e; exact OKd.nst st
    rw [upd_ne this]; exact e
  refine ⟨s.step t fun b o e nf => ?_, ⟨vs, upd_same, r.up sb, hl⟩, sb⟩
  have : b ≠ p := nf
  rw [upd_ne this]; exact e
theorem ds_putTs {i : Nat} (hr : DA (owG im K p) K W tr Fr) (hv : DE (owG im K p) K W tv Fv) : DS (owG im K p) K W (sDPut (tVar i) (tTup tr) tv) (sPutTs i Fr Fv) := by
  intro H0 σ H ω τ s t D' h
  unfold sPutTs at h
  split at h
  case h_2 => exact h.elim
  rename_i hτ
  refine hv H0 σ H ω τ s t _ (Res.imp (withE_kx s t h) (fun d ω1 H1 k1 t1 h1 v r => ?_) fun _ _ _ _ _ q => q)
  have s1 := s.step t k1
  refine ⟨_, s1.getS hτ, ?_⟩
  refine hr H0 σ H1 ω1 τ s1 t1 _ (Res.imp (withE_kx s1 t1 h1) (fun xs ω2 H2 k2 t2 h2 vs rx => ?_) fun _ _ _ _ _ q => q)
  have s2 := s1.step t1 k2
  obtain ⟨kd, ds⟩ := ω2
  cases ek : D.keyL xs with
  | none => rw [ek] at h2; exact h2.elim
  | some key =>
  rw [ek] at h2
  cases kd with
  | T ks =>
    dsimp only at h2
    split at h2
    case isFalse => exact h2.elim
    rename_i hsz
    refine ⟨by rw [rx.length, ← keyL_len ek]; exact line1000 hsz.2, fun q hq => ?_⟩
    have sm : Same H2 (upd H2 q (.tup vs)) := Same.new hq
    have s3 := s2.step t2 (.of sm)
    have t3 := At.same t2 sm
    obtain ⟨ws, hp3, rws, hlen⟩ := id t3
    have hkw : ks.length = ws.length := by rw [rws.length]; exact hlen
    have sb12 : Sb im H1 (upd H2 q (.tup vs)) := (k2.sb t1).trans (.of sm)
    obtain ⟨ws', ep, elen, rr⟩ := put_ok key hkw rws (r.up sb12)
    obtain ⟨s4, t4, sb⟩ := ow_chg (ω' := (.T (putKs ks key), putDs ks ds key d)) s3 t3 rr (put_len key d hlen)
    refine ⟨p, _, rfl, .inr ⟨ks.zip ws, key, q, hp3, rfl, by rw [upd_same, rx.key ek], by rw [List.length_zip, sizeLine_eq]; omega, rfl⟩, ?_⟩
    rw [ep]
    exact h2 σ _ ((Sb.of sm).trans sb) s4 t4
  | _ => exact h2.elim
end
section
variable {im : Addr → Bool} {Ω : Type} {G : Gam im Ω} {K : PySem.W.Frag} {W : WX} {ta : TE} {Fa : E Ω D} {tr : TA} {Fr : E Ω (List D)}
/-- arguments, that of place j being what slot i holds -/
def DAJ (G : Gam im Ω) (K : PySem.W.Frag) (W : WX) (ta : TA) (i j : Nat) (F : E Ω (List D)) : Prop := ∀ H0 σ H ω τ v0, STT G K H0 H σ τ → G.At ω H → σ[i]? = some (some v0) → ∀ Q : List V → Hp → Prop,
  Res G (F τ ω) H (fun ds _ H' => ∀ ws, RepL K im H' ws ds → Q (ws.take j ++ v0 :: ws.drop j) H') (kX G K W σ) → ta σ H Q
theorem daj_here {i : Nat} (hr : DA G K W tr Fr) : DAJ G K W (tCons (tVar i) tr) i 0 Fr := by
  intro H0 σ H ω τ v0 s t hv Q h
  exact ⟨v0, hv, hr H0 σ H ω τ s t _ (Res.imp h (fun ds ω1 H1 k1 t1 h1 vs r => by simpa using h1 vs r) fun _ _ _ _ _ q => q)⟩
theorem daj_next {i j : Nat} (ha : DE G K W ta Fa) (hr : DAJ G K W tr i j Fr) : DAJ G K W (tCons ta tr) i (j + 1) (aCons Fa Fr) := by
  intro H0 σ H ω τ v0 s t hv Q h
  refine ha H0 σ H ω τ s t _ (Res.imp (Res.bind h) (fun x ω1 H1 k1 t1 h1 v r => ?_) fun _ _ _ _ _ q => q)
  refine hr H0 σ H1 ω1 τ v0 (s.step t k1) t1 hv _ (Res.imp (Res.bind (h1.mono k1)) (fun xs ω2 H2 k2 t2 h2 ws r2 => ?_) fun _ _ _ _ _ q => q)
  have := (h2.mono k2) H2 .refl t2 (v :: ws) (.cons (r.up (k2.sb t1)) r2)
  simpa using this
/-- the thing itself, which stands in slot i, is handed on as argument j -/
theorem dc_WJ {P : Type} {Γ : P → Gam im Ω} {p : P} {n m i j : Nat} {F : List D → Ω → R Ω D} {tr : TA} {Fr : E Ω (List D)} (hr : DAJ (Γ p) K W tr i j Fr) (hn : AN Fr m) (hm : m + 1 = n := by rfl) (hj : j ≤ m := by decide) :
    DE (Γ p) K W (tCall (spW K Γ n j F) [] E0 tr) (cW F i Fr) := by
  intro H0 σ H ω τ s t Q h
  unfold cW at h
  split at h
  · rename_i hx
    have hr' := hr H0 σ H ω τ _ s t (s.getS hx)
    cases e0 : Fr τ ω with
    | ok xs ω1 =>
      have hl := hn τ ω xs ω1 e0
      rw [e0] at h hr'
      refine hr' _ fun H1 k1 t1 vs r => ?_
      have h1 : Res (Γ p) (nox (F xs ω1)) H (kD (Γ p) K Q) (kX (Γ p) K W σ) := h
      refine ⟨?_, p, ω1, vs, xs, by rw [List.append_nil], t1, r, ?_⟩
      · rw [List.append_nil, List.length_append, List.length_cons, List.length_take, List.length_drop, r.length, hl]
        omega
      have h2 := h1.mono k1
      cases e : F xs ω1 with
      | ok d u => rw [e] at h2; exact h2
      | ex x u => rw [e] at h2; exact h2.elim
      | no => rw [e] at h2; exact h2.elim
    | ex x ω1 =>
      rw [e0] at h hr'
      exact hr' _ h
    | no => rw [e0] at h; exact h.elim
  · exact h.elim
/-- all but the thing at l stands -/
theorem STT.chg {H0 H H' : Hp} {σ : L2.St} {τ : Tau} {ω : Ω} (s : STT G K H0 H σ τ) (t : G.At ω H) {i : Nat} {l : Addr} {kd kd' : OKd} {vs : List V} {xs ys : List D} (h : τ[i]? = some (some (.ow kd xs))) (e : σ[i]? = some (some (.ref l)))
    (fr : ∀ b o, H b = some o → b ≠ l → H' b = some o) (new : H' l = some (kd'.ho vs)) (r : RepL K im H' vs ys) (hlen : kd'.len ys.length) : STT G K H0 H' σ (τ.set i (some (.ow kd' ys))) ∧ G.At ω H' ∧ Sb im H H' := by
  obtain ⟨l', ws', e', h1, h2, h3, h4, h5⟩ := s.getW h
  have el : l' = l := by rw [e] at e'; cases e'; rfl
  subst el
  have sb : Sb im H H' := fun b o eb st => by
    have : b ≠ l' := fun q => by subst q; rw [h1] at eb; cases eb; exact OKd.nst st
    exact fr b o eb this
  have at' : G.At ω H' := G.keep t (fun b o f eb => by
    have : b ≠ l' := fun q => h4 (q ▸ f)
    exact fr b o eb this) sb
  refine ⟨⟨by simp [s.len], fun j w c e1 e2 => ?_, fun j k a _ _ xs' zs hjk e1 e2 e3 e4 => ?_, fun b o eb nf => ?_⟩, at', sb⟩
  · by_cases hj : i = j
    · subst hj
      have hi : i < τ.length := (List.getElem?_eq_some_iff.mp h).1
      rw [List.getElem?_set_self hi] at e2
      cases e2
      rw [e] at e1; cases e1
      exact .ow new r h3 h4 hlen
    · rw [List.getElem?_set_ne hj] at e2
      have q := s.ok j w c e1 e2
      cases q with
      | un => exact .un
      | d r => exact .d (r.up sb)
      | @ow l2 k2 vs2 xs2 a1 a2 a3 a4 a5 =>
        have ne : l2 ≠ l' := fun q => by
          subst q
          exact s.dj i j l2 _ _ hj e h e1 e2
        exact .ow (fr _ _ a1 ne) (a2.up sb) a3 a4 a5
      | src => exact .src
  · have a1 : ∃ k2 xs2, τ[j]? = some (some (.ow k2 xs2)) := by
      by_cases hj : i = j
      · subst hj; exact ⟨_, _, h⟩
      · rw [List.getElem?_set_ne hj] at e2; exact ⟨_, _, e2⟩
    have a2 : ∃ k2 xs2, τ[k]? = some (some (.ow k2 xs2)) := by
      by_cases hj : i = k
      · subst hj; exact ⟨_, _, h⟩
      · rw [List.getElem?_set_ne hj] at e4; exact ⟨_, _, e4⟩
    obtain ⟨_, _, a1⟩ := a1
    obtain ⟨_, _, a2⟩ := a2
    exact s.dj j k a _ _ hjk e1 a1 e3 a2
  · have k := s.fr b o eb nf
    have : b ≠ l' := fun q => by subst q; rw [h3] at eb; cases eb
    exact fr b o k this
/-- f(.., d, ..), d an own dict or list that f may change; its value is stored in slot z -/
def sCallW (F : List D → OW → R OW D) (i : Nat) (a : E Ω (List D)) (B : D → Tau → Option Tau) : S Ω := fun τ ω => match τ[i]? with
  | some (some (.ow kd xs)) => withE a (fun ds τ ω1 => match nox (F ds (kd, xs)) with
    | .ok d (kd', ys) => (B d (τ.set i (some (.ow kd' ys)))).map fun τ' => (.nx τ', ω1)
    | _ => none) τ ω
  | _ => none
theorem callW_core {n m i j : Nat} {F : List D → OW → R OW D} {tr : TA} {Fr : E Ω (List D)} {B : D → Tau → Option Tau} (hr : DAJ G K W tr i j Fr) (hn : AN Fr m) (hm : m + 1 = n) (hj : j ≤ m)
    {H0 : Hp} {σ : L2.St} {H : Hp} {ω : Ω} {τ : Tau} (s : STT G K H0 H σ τ) (t : G.At ω H) {D' : Ends} (h : KS G K H0 H D' W (sCallW F i Fr B τ ω)) :
    ∀ Q : VK, (∀ v H1 d τ1 τ2 ω1, Sb im H H1 → Rep K im H1 v d → STT G K H0 H1 σ τ1 → G.At ω1 H1 → B d τ1 = some τ2 → KS G K H0 H1 D' W (some (.nx τ2, ω1)) → Q v H1) → tCall (spW K (owG im K) n j F) [] E0 tr σ H Q := by
  intro Q fin
  unfold sCallW at h
  split at h
  case h_2 => exact h.elim
  rename_i kd xs hτ
  obtain ⟨l, ws, el, hl, rws, h0, nf, hlen⟩ := s.getW hτ
  have hr' := hr H0 σ H ω τ _ s t el
  have h' := withE_kx s t h
  cases e0 : Fr τ ω with
  | ok ds ω1 =>
    have hl' := hn τ ω ds ω1 e0
    rw [e0] at h' hr'
    refine hr' _ fun H1 k1 t1 vs r => ?_
    have h1 := h' H1 k1 t1
    dsimp only at h1
    have s1 := s.step t k1
    have hl1 : H1 l = some (kd.ho ws) := k1 l _ hl nf
    have rws1 := rws.up (k1.sb t)
    refine ⟨?_, l, (kd, xs), vs, ds, by rw [List.append_nil]; rfl, ⟨ws, hl1, rws1, hlen⟩, r, ?_⟩
    · rw [List.append_nil, List.length_append, List.length_cons, List.length_take, List.length_drop, r.length, hl']
      omega
    cases eF : F ds (kd, xs) with
    | no => rw [eF] at h1; exact h1.elim
    | ex x u => rw [eF] at h1; exact h1.elim
    | ok d o2 =>
      obtain ⟨kd', ys⟩ := o2
      rw [eF] at h1
      intro H2 k2 t2 v rv
      obtain ⟨us, hn2, rn2, ln2⟩ := t2
      obtain ⟨s3, t3, sb3⟩ := s1.chg (H' := H2) t1 hτ el (fun b o e ne => k2 b o e ne) hn2 rn2 ln2
      have h2 : KS G K H0 H1 D' W ((B d (τ.set i (some (.ow kd' ys)))).map fun τ' => (.nx τ', ω1)) := h1
      cases eB : B d (τ.set i (some (.ow kd' ys))) with
      | none => rw [eB] at h2; exact h2.elim
      | some τ2 =>
        rw [eB] at h2
        exact fin v H2 d _ τ2 ω1 ((k1.sb t).trans sb3) rv s3 t3 eB (h2.mono sb3)
  | ex x ω1 => rw [e0] at h' hr'; exact hr' _ h'
  | no => rw [e0] at h'; exact h'.elim
theorem ds_callW {n m i j : Nat} {F : List D → OW → R OW D} {tr : TA} {Fr : E Ω (List D)} (hr : DAJ G K W tr i j Fr) (hn : AN Fr m) (hm : m + 1 = n := by rfl) (hj : j ≤ m := by decide) :
    DS G K W (tDrop (tCall (spW K (owG im K) n j F) [] E0 tr)) (sCallW F i Fr fun _ τ => some τ) := by
  intro H0 σ H ω τ s t D' h
  refine callW_core hr hn hm hj s t h _ fun v H1 d τ1 τ2 ω1 sb rv s1 t1 eB ks => ?_
  cases eB
  exact ks σ H1 .refl s1 t1
end
section
variable {im : Addr → Bool} {P : Program} {w : World} {K : PySem.W.Frag} {mg : Str → Option Value} {base : Heap}
def cellsJ (j : Nat) (ds : List D) : List Cell := (ds.take j).map .d ++ .src :: (ds.drop j).map .d
theorem cellsJ_get {j i : Nat} {ds : List D} {c : Cell} (h : (cellsJ j ds)[i]? = some c) (hj : j ≤ ds.length) : (i < j ∧ ∃ d, ds[i]? = some d ∧ c = .d d) ∨ (i = j ∧ c = .src) ∨ (j < i ∧ ∃ d, ds[i - 1]? = some d ∧ c = .d d) := by
  unfold cellsJ at h
  by_cases h1 : i < j
  · rw [List.getElem?_append_left (by simp; omega), List.getElem?_map, List.getElem?_take_of_lt h1] at h
    obtain ⟨d, e, rfl⟩ := Option.map_eq_some_iff.mp h
    exact .inl ⟨h1, d, e, rfl⟩
  · rw [List.getElem?_append_right (by simp; omega)] at h
    have hl : ((ds.take j).map Cell.d).length = j := by simp; omega
    rw [hl] at h
    by_cases h2 : i = j
    · subst h2
      simp at h
      exact .inr (.inl ⟨rfl, h.symm⟩)
    · have e : i - j = (i - j - 1) + 1 := by omega
      rw [e, List.getElem?_cons_succ, List.getElem?_map, List.getElem?_drop] at h
      obtain ⟨d, e2, rfl⟩ := Option.map_eq_some_iff.mp h
      exact .inr (.inr ⟨by omega, d, by rw [← e2]; congr 1; omega, rfl⟩)
theorem vsJ_get {j i : Nat} {ws : List V} {u v : V} (h : (ws.take j ++ u :: ws.drop j)[i]? = some v) (hj : j ≤ ws.length) : (i < j → ws[i]? = some v) ∧ (i = j → v = u) ∧ (j < i → ws[i - 1]? = some v) := by
  refine ⟨fun h1 => ?_, fun h1 => ?_, fun h1 => ?_⟩
  · rw [List.getElem?_append_left (by simp; omega), List.getElem?_take_of_lt h1] at h
    exact h
  · subst h1
    rw [List.getElem?_append_right (by simp; omega)] at h
    have hl : (ws.take i).length = i := by simp; omega
    rw [hl] at h
    simp at h
    exact h.symm
  · rw [List.getElem?_append_right (by simp; omega)] at h
    have hl : (ws.take j).length = j := by simp; omega
    rw [hl] at h
    have e : i - j = (i - j - 1) + 1 := by omega
    rw [e, List.getElem?_cons_succ, List.getElem?_drop] at h
    rw [← h]; congr 1; omega
theorem close_WJ {Ω Pp : Type} {Γ : Pp → Gam im Ω} {N ps : List Str} {j : Nat} {F : S Ω} {t : TS} {vs : List V} {H : Hp} {Q : VK} {Ex : XK} (hd : ∀ p, DS (Γ p) K (fun _ _ _ _ => False) t F) (hj : j < ps.length)
    (h : spW K Γ ps.length j (fun ds ω => nox (runS F (startT N.length (cellsJ j ds)) ω)) vs H Q Ex) : t { nx := fun _ H' => Q .non H', rt := Q } (start N vs) H := by
  obtain ⟨hl, p, ω, ws, ds, rfl, at0, r, h⟩ := h
  replace hd := hd p
  have lw : ws.length + 1 = ps.length := by
    rw [List.length_append, List.length_cons, List.length_take, List.length_drop] at hl; omega
  have jw : j ≤ ws.length := by omega
  have jd : j ≤ ds.length := by rw [← r.length]; exact jw
  have st : STT (Γ p) K H H (start N (ws.take j ++ (Γ p).obj :: ws.drop j)) (startT N.length (cellsJ j ds)) := stt_start (by unfold cellsJ; simp [r.length]) (fun i v c e1 e2 => by
    obtain ⟨g1, g2, g3⟩ := vsJ_get e1 jw
    rcases cellsJ_get e2 jd with ⟨h1, d, ed, rfl⟩ | ⟨h1, rfl⟩ | ⟨h1, d, ed, rfl⟩
    · obtain ⟨v', e3, r'⟩ := r.get ed
      rw [g1 h1] at e3; cases e3
      exact .d r'
    · obtain rfl := g2 h1
      exact .src
    · obtain ⟨v', e3, r'⟩ := r.get ed
      rw [g3 h1] at e3; cases e3
      exact .d r') (fun c hc _ xs e => by
    obtain ⟨i, hi⟩ := List.getElem?_of_mem hc
    rcases cellsJ_get hi jd with ⟨h1, d, ed, rfl⟩ | ⟨h1, rfl⟩ | ⟨h1, d, ed, rfl⟩ <;> cases e) _
  refine hd H (start N (ws.take j ++ (Γ p).obj :: ws.drop j)) H ω _ st at0 _ ?_
  unfold runS at h
  dsimp only at h
  cases q : F (startT N.length (cellsJ j ds)) ω with
  | none => rw [q] at h; exact h.elim
  | some p' =>
    obtain ⟨fl, ω'⟩ := p'
    rw [q] at h
    cases fl with
    | nx τ => exact fun σ' H' _ s t => h H' s.fr t .non .non
    | rt d => exact fun v H' _ k t r => h H' k t v r
    | bk τ => exact h.elim
    | ct τ => exact h.elim
    | rs x τ => exact h.elim
    | rl d => exact h.elim
theorem fn_WxJ {Ω Pp : Type} {Γ : Pp → Gam im Ω} {x qual : Str} {st : Stmt} {f : Addr} {fd : FuncData} {N ps : List Str} {k k' n j : Nat} {F : S Ω} {F' : List D → Ω → R Ω D} (Fn : Fun K x qual st f fd) (Sc : FnScope N ps (defScope st))
    (hj : j < ps.length) (ek : k' = k + 1) (ej : n = ps.length) (eF : F' = fun ds ω => nox (runS F (startT N.length (cellsJ j ds)) ω))
    (hb : ∀ (cdv : Value) (A : Around) (outer : List Env) (s : Shared) (H : Hp) (Ex : XK), Room k (A.deeper (envOfC qual (defScope st) s.heap.objs.size f cdv)) →
      ∃ t, PSs (cxOf CX0 P w K mg base N qual (defScope st) f cdv A outer s H Ex).nox (defBody st) t ∧ ∀ p, DS (Γ p) K (fun _ _ _ _ => False) t F) :
    FnOk P w K mg base CX0 k' f fd ps (spW K Γ n j F') := by
  subst ek ej eF
  refine Fn.ok Sc (fun vs H Q Ex h => h.1) fun cdv A outer s H vs Q Ex hr h => ?_
  obtain ⟨t, ht, hd⟩ := hb cdv A outer s H Ex hr
  exact ⟨t, ht, close_WJ hd hj h⟩
theorem spWJ_no {Ω Pp : Type} {Γ : Pp → Gam im Ω} {n j : Nat} {vs : List V} {H : Hp} {Q : VK} {Ex : XK} : ¬ spW K Γ n j (fun _ _ => .no) vs H Q Ex := fun ⟨_, _, _, _, _, _, _, _, h⟩ => h
end
end DL
namespace DL
open PySem
theorem str_ne_same (s : Str) (h : PyData.strOk s = true) : neD (.str s) (.str s) = some (.bl false) := by
  unfold neD eqB
  simp only [D.py]
  rw [if_pos ⟨by simp only [PyData.canLay0]; exact h, by simp only [PyData.canLay0]; exact h, by simp only [PyData.depth]; omega⟩]
  simp only [PyData.eqv, Option.map_some]
  simp
end DL
namespace DL
open PySem PySem.Spec PyProof.Rows L2
def tPre (i : Nat) (t : TS) : TS := fun D σ H => t D σ H ∨ ∃ a u, σ[i]? = some (some (.ref a)) ∧ H a = some u ∧ Mut (some u) ∧ ∀ o, t D σ (upd H a (.frz o u))
theorem ps_pre {X : Cx} {st : Stmt} {t : TS} (i : Nat) (h : PS X st t) : PS X st (tPre i t) := by
  refine ⟨fun pins s σ H D I q => ?_⟩
  rcases q with q | ⟨a, u, e, ha, mu, q⟩
  · exact h.run pins s σ H D I q
  · obtain ⟨o, J⟩ := I.lock ha mu
    exact h.run pins s σ _ D J (q o)
section
variable {im : Addr → Bool} {Ω : Type} {G : Gam im Ω} {K : PySem.W.Frag} {W : WX} {t : TS} {Ft : S Ω}
theorem STT.fzW {H0 H : Hp} {ω : Ω} {σ : L2.St} {τ : Tau} (s : STT G K H0 H σ τ) (t : G.At ω H) {i : Nat} {l : Addr} {kd : OKd} {vs : List V} {xs : List D} (h : τ[i]? = some (some (.ow kd xs))) (e : σ[i]? = some (some (.ref l))) (hl : H l = some (kd.ho vs)) (r : RepL K im H vs xs) (len : kd.len xs.length) (o : Obj) :
    STT G K H0 (upd H l (.frz o (kd.ho vs))) σ (τ.set i (some (.d (kd.fin xs)))) ∧ G.At ω (upd H l (.frz o (kd.ho vs))) ∧ Sb im H (upd H l (.frz o (kd.ho vs))) := by
  obtain ⟨l', ws', e', h1, h2, h3, h4, h5⟩ := s.getW h
  have el : l' = l := by rw [e] at e'; cases e'; rfl
  subst el
  have sb : Sb im H (upd H l' (.frz o (kd.ho vs))) := fun b u eb st => by
    have : b ≠ l' := fun q => by subst q; rw [hl] at eb; cases eb; exact OKd.nst st
    rw [upd_ne this]; exact eb
  have at' : G.At ω (upd H l' (.frz o (kd.ho vs))) := G.keep t (fun b o f eb => by
    have : b ≠ l' := fun q => h4 (q ▸ f)
    rw [upd_ne this]; exact eb) sb
  refine ⟨⟨by simp [s.len], fun j w c e1 e2 => ?_, fun j k a _ _ xs' zs hjk e1 e2 e3 e4 => ?_, fun b u eb nf => ?_⟩, at', sb⟩
  · by_cases hj : i = j
    · subst hj
      have hi : i < τ.length := (List.getElem?_eq_some_iff.mp h).1
      rw [List.getElem?_set_self hi] at e2
      cases e2
      rw [e] at e1; cases e1
      exact .d (OKd.rep upd_same (r.up sb) len)
    · rw [List.getElem?_set_ne hj] at e2
      have q := s.ok j w c e1 e2
      cases q with
      | un => exact .un
      | d r => exact .d (r.up sb)
      | @ow l2 k2 vs2 xs2 a1 a2 a3 a4 a5 =>
        have ne : l2 ≠ l' := fun q => by
          subst q
          exact s.dj i j l2 _ _ hj e h e1 e2
        exact .ow (by rw [upd_ne ne]; exact a1) (a2.up sb) a3 a4 a5
      | src => exact .src
  · have a : i ≠ j := fun q => by
      subst q
      have hi : i < τ.length := (List.getElem?_eq_some_iff.mp h).1
      rw [List.getElem?_set_self hi] at e2; cases e2
    have b : i ≠ k := fun q => by
      subst q
      have hi : i < τ.length := (List.getElem?_eq_some_iff.mp h).1
      rw [List.getElem?_set_self hi] at e4; cases e4
    rw [List.getElem?_set_ne a] at e2
    rw [List.getElem?_set_ne b] at e4
    exact s.dj j k _ _ _ hjk e1 e2 e3 e4
  · have k := s.fr b u eb nf
    have : b ≠ l' := fun q => by subst q; rw [h3] at eb; cases eb
    rw [upd_ne this]; exact k
def sPre (i : Nat) (F : S Ω) : S Ω := fun τ ω => match τ[i]? with
  | some (some (.ow k xs)) => F (τ.set i (some (.d (k.fin xs)))) ω
  | _ => F τ ω
theorem ds_pre (i : Nat) (h : DS G K W t Ft) : DS G K W (tPre i t) (sPre i Ft) := by
  intro H0 σ H ω τ s t' D ks
  unfold sPre at ks
  split at ks
  · rename_i k xs hx
    obtain ⟨l, vs, e, h1, r, _, _, hlen⟩ := s.getW hx
    refine .inr ⟨l, _, e, h1, k.mut vs, fun o => ?_⟩
    obtain ⟨s2, t2, sb⟩ := s.fzW t' hx e h1 r hlen o
    exact h H0 σ _ ω _ s2 t2 D (ks.mono sb)
  · exact .inl (h H0 σ H ω τ s t' D ks)
end
end DL
namespace DL
open Sh
def abv : Sh → Nat → Nat → Sh
  | .o, _, _ => .o
  | .n l r, b, p => if p / b = (p + (l.size + r.size) - 1) / b then .o else .n (abv l b p) (abv r b (p + l.size))
def sub : Sh → Nat → Nat → Option Sh
  | .o, i, j => if i = 0 ∧ j = 1 then some .o else none
  | .n l r, i, j => if i = 0 ∧ j = l.size + r.size then some (.n l r) else if j ≤ l.size then sub l i j else if l.size ≤ i then sub r (i - l.size) (j - l.size) else none
def sts (f : Nat → Sh) (b m : Nat) : List Sh := (List.range ((m + b - 1) / b)).map fun k => f (min b (m - k * b))
theorem sub_all : ∀ e : Sh, sub e 0 e.size = some e
  | .o => by simp [sub, size]
  | .n l r => by simp [sub, size]
theorem up1 {b m : Nat} (hb : 0 < b) (h0 : 0 < m) (h : m ≤ b) : (m + b - 1) / b = 1 := by
  rw [Nat.div_eq_iff hb]; omega
theorem upq {b q m : Nat} (hb : 0 < b) : (q * b + m + b - 1) / b = q + (m + b - 1) / b := by
  rw [show q * b + m + b - 1 = (m + b - 1) + q * b from by omega, Nat.add_mul_div_right _ _ hb, Nat.add_comm]
theorem sts_one (f : Nat → Sh) {b m : Nat} (hb : 0 < b) (h0 : 0 < m) (h : m ≤ b) : sts f b m = [f m] := by
  unfold sts; rw [up1 hb h0 h]; simp [Nat.min_eq_right h]
theorem sts_len (f : Nat → Sh) (b m : Nat) : (sts f b m).length = (m + b - 1) / b := by simp [sts]
theorem sts_app (f : Nat → Sh) {b q m : Nat} (hb : 0 < b) : sts f b (q * b + m) = sts f b (q * b) ++ sts f b m := by
  unfold sts
  rw [upq hb, show (q * b + b - 1) / b = q from by have := upq (q := q) (m := 0) hb; simp only [Nat.add_zero, Nat.zero_add] at this; rw [this, Nat.div_eq_of_lt (by omega)]; rfl, List.range_add, List.map_append, List.map_map]
  congr 1
  · apply List.map_congr_left
    intro k hk
    have hk := List.mem_range.mp hk
    have : (k + 1) * b ≤ q * b := Nat.mul_le_mul_right b hk
    have e : (k + 1) * b = k * b + b := by rw [Nat.add_mul]; omega
    congr 1; omega
  · apply List.map_congr_left
    intro k _
    simp only [Function.comp]
    rw [show (q + k) * b = q * b + k * b from Nat.add_mul ..]
    congr 1; omega
theorem abv_in : ∀ (x : Sh) (b p : Nat), 0 < b → p % b = 0 → x.size ≤ b → abv x b p = .o
  | .o, _, _, _, _, _ => rfl
  | .n l r, b, p, hb, hp, h => by
    simp only [size] at h
    have h1 := size_pos l
    have hd := Nat.div_add_mod p b
    unfold abv
    rw [if_pos]
    rw [show p + (l.size + r.size) - 1 = (l.size + r.size - 1) + b * (p / b) from by omega, Nat.add_mul_div_left _ _ hb, Nat.div_eq_of_lt (show l.size + r.size - 1 < b by omega)]
    omega
theorem abv_out {b p m : Nat} (hb : 0 < b) (hp : p % b = 0) (h : b < m) : ¬ p / b = (p + m - 1) / b := by
  have hd := Nat.div_add_mod p b
  rw [show p + m - 1 = (m - 1) + b * (p / b) from by omega, Nat.add_mul_div_left _ _ hb]
  have : 1 ≤ (m - 1) / b := (Nat.one_le_div_iff hb).mpr (by omega)
  omega
theorem abv_split (f : Nat → Sh) (b : Nat) (hb : 0 < b) : ∀ (e : Sh) (p : Nat), p % b = 0 →
    (∀ k, k * b < e.size → sub e (k * b) (min (k * b + b) e.size) = some (f (min b (e.size - k * b)))) →
    fill (abv e b p) (sts f b e.size) = e ∧ (abv e b p).size = (e.size + b - 1) / b
  | .o, p, hp, H => by
    have h0 := H 0 (by simp [size])
    simp only [Nat.zero_mul, Nat.zero_add, size, Nat.sub_zero, Nat.min_eq_right hb] at h0
    have : f 1 = .o := by
      have := h0; simp [sub] at this; exact this.symm
    simp only [size]
    rw [sts_one f hb (by omega) hb, up1 hb (by omega) hb]
    simp [abv, fill, this, size]
  | .n l r, p, hp, H => by
    have hl := size_pos l
    have hr := size_pos r
    by_cases hm : l.size + r.size ≤ b
    · have h0 := H 0 (by simp only [size]; omega)
      simp only [Nat.zero_mul, Nat.zero_add, Nat.sub_zero] at h0
      rw [Nat.min_eq_right (by simpa only [size] using hm), sub_all] at h0
      rw [abv_in _ b p hb hp (by simpa only [size] using hm), sts_one f hb (by simp only [size]; omega) (by simpa only [size] using hm), up1 hb (by simp only [size]; omega) (by simpa only [size] using hm)]
      injection h0 with h0
      exact ⟨h0.symm, rfl⟩
    · have hm : b < l.size + r.size := by omega
      simp only [size] at H
      have hlq : l.size / b * b = l.size := by
        rcases Nat.lt_or_ge (l.size / b * b) l.size with hlt | hge
        · exfalso
          have h1 : l.size < l.size / b * b + b := by
            have := Nat.div_add_mod l.size b
            have := Nat.mod_lt l.size hb
            rw [Nat.mul_comm]; omega
          have hh := H (l.size / b) (by omega)
          simp only [sub] at hh
          rw [if_neg, if_neg (by omega), if_neg (by omega)] at hh
          · cases hh
          · rintro ⟨e1, e2⟩
            omega
        · have := Nat.div_mul_le_self l.size b
          omega
      generalize hq : l.size / b = q at hlq
      have Hl : ∀ k, k * b < l.size → sub l (k * b) (min (k * b + b) l.size) = some (f (min b (l.size - k * b))) := by
        intro k hk
        have hkq : k < q := by
          rcases Nat.lt_or_ge k q with h | h
          · exact h
          · have := Nat.mul_le_mul_right b h; omega
        have hk1 : (k + 1) * b ≤ q * b := Nat.mul_le_mul_right b hkq
        have e : (k + 1) * b = k * b + b := by rw [Nat.add_mul]; omega
        have hh := H k (by omega)
        simp only [sub] at hh
        rw [if_neg (by rintro ⟨e1, e2⟩; omega), if_pos (by omega)] at hh
        rw [show min (k * b + b) l.size = min (k * b + b) (l.size + r.size) from by omega, hh]
        congr 2; omega
      have Hr : ∀ k, k * b < r.size → sub r (k * b) (min (k * b + b) r.size) = some (f (min b (r.size - k * b))) := by
        intro k hk
        have e : (q + k) * b = l.size + k * b := by rw [Nat.add_mul, hlq]
        have hh := H (q + k) (by omega)
        simp only [sub] at hh
        rw [if_neg (by rintro ⟨e1, e2⟩; omega), if_neg (by omega), if_pos (by omega), e] at hh
        rw [show k * b = l.size + k * b - l.size from by omega, show min (l.size + k * b - l.size + b) r.size = min (l.size + k * b + b) (l.size + r.size) - l.size from by omega, hh]
        congr 2; omega
      obtain ⟨a1, a2⟩ := abv_split f b hb l p hp Hl
      obtain ⟨b1, b2⟩ := abv_split f b hb r (p + l.size) (by rw [← hlq]; simp [hp]) Hr
      have hA : (abv l b p).size = q := by
        rw [a2, ← hlq]
        have := upq (q := q) (m := 0) hb
        simp only [Nat.add_zero, Nat.zero_add] at this
        rw [this, Nat.div_eq_of_lt (by omega)]; omega
      rw [abv, if_neg (abv_out hb hp hm)]
      simp only [size, fill]
      refine ⟨?_, ?_⟩
      · have es : sts f b (l.size + r.size) = sts f b l.size ++ sts f b r.size := by
          rw [← hlq]; exact sts_app f hb
        have el : (sts f b l.size).length = q := by rw [sts_len, ← a2, hA]
        rw [es]
        congr 1
        · rw [← fill_take (abv l b p) _ q (by omega), List.take_left' el, a1]
        · rw [List.drop_left' (by omega), b1]
      · rw [hA, b2, ← hlq, upq hb]
theorem head_getD (ps : List Sh) : ps.headD .o = ps.getD 0 .o := by cases ps <;> rfl
theorem fill_sz (b : Nat) : ∀ (e : Sh) (ps : List Sh), (∀ i, i < e.size → (ps.getD i .o).size = b) → (fill e ps).size = e.size * b
  | .o, ps, h => by
    simp only [fill, size, Nat.one_mul]
    rw [head_getD]; exact h 0 (by simp [size])
  | .n l r, ps, h => by
    simp only [size] at h
    simp only [fill, size]
    rw [fill_sz b l ps fun i hi => h i (by omega), fill_sz b r (ps.drop l.size) fun i hi => by
      have := h (l.size + i) (by omega)
      rw [List.getD_eq_getElem?_getD] at this ⊢
      rw [List.getElem?_drop]; exact this, Nat.add_mul]
theorem getD_drop' (ps : List Sh) (k i : Nat) : (ps.drop k).getD i .o = ps.getD (k + i) .o := by
  rw [List.getD_eq_getElem?_getD, List.getD_eq_getElem?_getD, List.getElem?_drop]
theorem abv_fill (b : Nat) (hb : 0 < b) : ∀ (e : Sh) (ps : List Sh) (p : Nat), p % b = 0 → (∀ i, i + 1 < e.size → (ps.getD i .o).size = b) → (ps.getD (e.size - 1) .o).size ≤ b → abv (fill e ps) b p = e
  | .o, ps, p, hp, h1, h2 => by
    simp only [size] at h2
    simp only [fill]
    rw [head_getD]
    exact abv_in _ b p hb hp h2
  | .n l r, ps, p, hp, h1, h2 => by
    have hl := size_pos l
    have hr := size_pos r
    simp only [size] at h1 h2
    have hL := fill_sz b l ps fun i hi => h1 i (by omega)
    have hR := size_pos (fill r (ps.drop l.size))
    have hbl : b ≤ l.size * b := Nat.le_mul_of_pos_left b hl
    simp only [fill, abv]
    rw [if_neg (abv_out hb hp (by omega)), abv_fill b hb l ps p hp (fun i hi => h1 i (by omega)) (by rw [h1 (l.size - 1) (by omega)]; exact Nat.le_refl b),
      abv_fill b hb r (ps.drop l.size) _ (by rw [hL]; simp [hp]) (fun i hi => by rw [getD_drop']; exact h1 _ (by omega)) (by rw [getD_drop', show l.size + (r.size - 1) = l.size + r.size - 1 from by omega]; exact h2)]
theorem sub_fill (b : Nat) (hb : 0 < b) : ∀ (e : Sh) (ps : List Sh) (k : Nat), (∀ i, i + 1 < e.size → (ps.getD i .o).size = b) → (ps.getD (e.size - 1) .o).size ≤ b → k < e.size →
    sub (fill e ps) (k * b) (min (k * b + b) (fill e ps).size) = some (ps.getD k .o)
  | .o, ps, k, h1, h2, hk => by
    simp only [size] at h2 hk
    have : k = 0 := by omega
    subst this
    simp only [fill]
    rw [head_getD, Nat.zero_mul, Nat.zero_add, Nat.min_eq_right h2, sub_all]
  | .n l r, ps, k, h1, h2, hk => by
    have hl := size_pos l
    have hr := size_pos r
    simp only [size] at h1 h2 hk
    have hL := fill_sz b l ps fun i hi => h1 i (by omega)
    have hR := size_pos (fill r (ps.drop l.size))
    have hbl : b ≤ l.size * b := Nat.le_mul_of_pos_left b hl
    simp only [fill, sub, size]
    rw [if_neg (by rintro ⟨e1, e2⟩; omega)]
    by_cases hkl : k < l.size
    · have hk1 : (k + 1) * b ≤ l.size * b := Nat.mul_le_mul_right b hkl
      have e : (k + 1) * b = k * b + b := by rw [Nat.add_mul]; omega
      have ih := sub_fill b hb l ps k (fun i hi => h1 i (by omega)) (by rw [h1 (l.size - 1) (by omega)]; exact Nat.le_refl b) hkl
      rw [if_pos (by omega), ← ih]
      congr 1; omega
    · have ih := sub_fill b hb r (ps.drop l.size) (k - l.size) (fun i hi => by rw [getD_drop']; exact h1 _ (by omega)) (by rw [getD_drop', show l.size + (r.size - 1) = l.size + r.size - 1 from by omega]; exact h2) (by omega)
      have e : (k - l.size) * b = k * b - l.size * b := Nat.sub_mul ..
      have hge : l.size * b ≤ k * b := Nat.mul_le_mul_right b (by omega)
      rw [if_neg (by omega), if_pos (by omega)]
      rw [getD_drop', show l.size + (k - l.size) = k from by omega] at ih
      rw [← ih, e, hL]
      congr 1; omega
theorem prs_sts (s : Tab) (hs : WT s) (m : Nat) : prs s (osh m) = sts (ent s) (bsz s) m := by
  rw [prs_range s m (osh m) (by simp [osh])]
  unfold sts
  apply List.map_congr_left
  intro k hk
  have hk := List.mem_range.mp hk
  have hb : 0 < bsz s := by simp [bsz]
  have h1 : k * bsz s < m := by
    have h2 : (k + 1) * bsz s ≤ m + bsz s - 1 := Nat.le_trans (Nat.mul_le_mul_right _ hk) (Nat.div_mul_le_self _ _)
    rw [Nat.add_mul] at h2; omega
  rw [show (osh m).drop (k * bsz s) = osh (m - k * bsz s) from by simp [osh]]
  apply fill_os
  rw [hs.ent (by omega) (Nat.min_le_left _ _)]
  exact Nat.min_le_right _ _
structure CutAt (t : Tab) (b : Nat) : Prop where
  dvd : bsz t % b = 0
  str : ∀ m, 2 ≤ m → m ≤ bsz t → ∀ k, k * b < m → sub (ent t m) (k * b) (min (k * b + b) m) = some (ent t (min b (m - k * b)))
  abo : ∀ n, b + 1 ≤ n → n ≤ bsz t → abv (ent t ((n - 1) / b * b + 1)) b 0 = abv (ent t n) b 0
def early (t : Tab) (b : Nat) : Tab := t.take (b - 1)
def late (t : Tab) (b : Nat) : Tab := (List.range (bsz t / b - 1)).map fun i => abv (ent t (b * (i + 2))) b 0
theorem early_bsz {t : Tab} {b : Nat} (h1 : 2 ≤ b) (h2 : b < bsz t) : bsz (early t b) = b := by
  unfold bsz early at *; rw [List.length_take]; omega
theorem early_ent {t : Tab} {b m : Nat} (h : m ≤ b) : ent (early t b) m = ent t m := by
  unfold ent early
  by_cases e : m ≤ 1
  · rw [if_pos e, if_pos e]
  · rw [if_neg e, if_neg e, List.getD_eq_getElem?_getD, List.getD_eq_getElem?_getD, List.getElem?_take_of_lt (by omega)]
theorem early_wt {t : Tab} {b : Nat} (ht : WT t) (h1 : 2 ≤ b) (h2 : b < bsz t) : WT (early t b) := by
  refine ⟨by have := early_bsz h1 h2; unfold bsz at this; omega, fun i s h => ?_⟩
  unfold early at h
  rw [List.getElem?_take] at h
  split at h
  · exact ht.2 i s h
  · cases h
theorem CutAt.split {t : Tab} {b : Nat} (ht : WT t) (h1 : 2 ≤ b) (h : CutAt t b) {m : Nat} (h2 : 1 ≤ m) (h3 : m ≤ bsz t) :
    fill (abv (ent t m) b 0) (sts (ent t) b m) = ent t m ∧ (abv (ent t m) b 0).size = (m + b - 1) / b := by
  have hs := ht.ent h2 h3
  have := abv_split (ent t) b (by omega) (ent t m) 0 (by simp) fun k hk => by
    rw [hs] at hk ⊢
    rcases Nat.lt_or_ge m 2 with hm | hm
    · have : m = 1 := by omega
      subst this
      have : k = 0 := by
        rcases Nat.eq_zero_or_pos k with h | h
        · exact h
        · have := Nat.mul_le_mul h h1; omega
      subst this
      simp [ent, sub, show min b 1 = 1 from by omega]
    · exact h.str m hm h3 k hk
  rwa [hs] at this
theorem late_bsz {t : Tab} {b : Nat} (h1 : 2 ≤ b) (h2 : b < bsz t) (h : bsz t % b = 0) : bsz (late t b) = bsz t / b := by
  have : 1 ≤ bsz t / b := (Nat.one_le_div_iff (by omega)).mpr (by omega)
  show (late t b).length + 1 = _
  simp [late]; omega
theorem late_ent {t : Tab} {b j : Nat} (ht : WT t) (h1 : 2 ≤ b) (h2 : b < bsz t) (hj : 1 ≤ j) (hj2 : j ≤ bsz t / b) : ent (late t b) j = abv (ent t (b * j)) b 0 := by
  unfold ent
  by_cases e : j ≤ 1
  · have : j = 1 := by omega
    subst this
    rw [if_pos (Nat.le_refl _), Nat.mul_one]
    exact (abv_in _ b 0 (by omega) (by simp) (by have := ht.ent (m := b) (by omega) (by omega); unfold ent at this; omega)).symm
  · rw [if_neg e]
    unfold late
    rw [List.getD_eq_getElem?_getD, List.getElem?_map, List.getElem?_range (by omega)]
    simp only [Option.map_some, Option.getD_some]
    rw [show j - 2 + 2 = j from by omega]; rfl
theorem CutAt.late_wt {t : Tab} {b : Nat} (ht : WT t) (h1 : 2 ≤ b) (h2 : b < bsz t) (h : CutAt t b) : WT (late t b) := by
  have hd := Nat.div_add_mod (bsz t) b
  rw [h.dvd, Nat.add_zero] at hd
  have hq : 2 ≤ bsz t / b := by
    rcases Nat.lt_or_ge (bsz t / b) 2 with h' | h'
    · have := Nat.mul_le_mul_left b (show bsz t / b ≤ 1 by omega); omega
    · exact h'
  refine ⟨by simp [late]; omega, fun i s hs => ?_⟩
  unfold late at hs
  rw [List.getElem?_map, Option.map_eq_some_iff] at hs
  obtain ⟨j, hj, rfl⟩ := hs
  have hi : i < bsz t / b - 1 := by
    have := List.getElem?_eq_some_iff.mp hj
    obtain ⟨h', _⟩ := this; simpa using h'
  rw [List.getElem?_range hi] at hj
  injection hj with hj
  subst hj
  have hle : b * (i + 2) ≤ bsz t := by rw [← hd]; exact Nat.mul_le_mul_left b (by omega)
  have hge : 1 ≤ b * (i + 2) := Nat.mul_pos (by omega) (by omega)
  rw [(h.split ht h1 hge hle).2, Nat.mul_comm]
  have := upq (q := i + 2) (m := 0) (b := b) (by omega)
  simp only [Nat.add_zero, Nat.zero_add] at this
  rw [this, Nat.div_eq_of_lt (by omega)]
theorem CutAt.glu {t : Tab} {b : Nat} (ht : WT t) (h1 : 2 ≤ b) (h2 : b < bsz t) (h : CutAt t b) : glu (early t b) (late t b) = t := by
  have hd := Nat.div_add_mod (bsz t) b
  rw [h.dvd, Nat.add_zero] at hd
  have hb := early_bsz h1 h2
  have hl := late_bsz h1 h2 h.dvd
  have hw := early_wt ht h1 h2
  have hu := h.late_wt ht h1 h2
  have hlen : bsz (DL.glu (early t b) (late t b)) = bsz t := by rw [glu_len, hb, hl, hd]
  refine tab_ext (by unfold bsz at hlen; omega) fun m hm1 hm2 => ?_
  rw [hlen] at hm2
  have hm3 : m ≤ bsz (early t b) * bsz (late t b) := by rw [hb, hl, hd]; exact hm2
  rw [glu_ent _ _ hw (by omega) hm3, prs2_one _ _ hw hu (osh_ne (by omega)) (by simpa [osh] using hm3), prs_sts _ hw, hb, sts_len]
  have es : sts (ent (early t b)) b m = sts (ent t) b m := by
    unfold sts
    exact List.map_congr_left fun k _ => early_ent (Nat.min_le_left _ _)
  rw [es]
  show fill (ent (late t b) ((m + b - 1) / b)) (sts (ent t) b m) = ent t m
  have hj : (m + b - 1) / b = (m - 1) / b + 1 := by
    rw [show m + b - 1 = m - 1 + b from by omega, Nat.add_div_right _ (by omega)]
  have hjq : (m - 1) / b + 1 ≤ bsz t / b := by
    have : (m - 1) / b < bsz t / b := (Nat.div_lt_iff_lt_mul (by omega)).mpr (by rw [Nat.mul_comm, hd]; omega)
    omega
  rw [hj, late_ent ht h1 h2 (Nat.le_add_left 1 _) hjq]
  have key : abv (ent t (b * ((m - 1) / b + 1))) b 0 = abv (ent t m) b 0 := by
    have hbj : b * ((m - 1) / b + 1) ≤ bsz t := by rw [← hd]; exact Nat.mul_le_mul_left b hjq
    rcases Nat.lt_or_ge b m with hbm | hbm
    · rw [← h.abo m hbm hm2]
      have hge : 1 ≤ (m - 1) / b := (Nat.one_le_div_iff (by omega)).mpr (by omega)
      have h2b : b * 2 ≤ b * ((m - 1) / b + 1) := Nat.mul_le_mul_left b (by omega)
      rw [← h.abo _ (by omega) hbj]
      congr 4
      rw [Nat.mul_add, Nat.mul_one, show b * ((m - 1) / b) + b - 1 = (b - 1) + b * ((m - 1) / b) from by omega, Nat.add_mul_div_left _ _ (by omega), Nat.div_eq_of_lt (show b - 1 < b by omega)]
      omega
    · rw [Nat.div_eq_of_lt (show m - 1 < b by omega)]
      rw [abv_in _ b 0 (by omega) (by simp) (by rw [ht.ent (by omega) (by omega)]; omega), abv_in _ b 0 (by omega) (by simp) (by rw [ht.ent (by omega) (by omega)]; omega)]
  rw [key]
  exact (h.split ht h1 (by omega) hm2).1
theorem sub_bd : ∀ (e : Sh) (i j : Nat) (x : Sh), sub e i j = some x → i < j ∧ j ≤ e.size
  | .o, i, j, x, h => by
    unfold sub at h
    split at h
    · simp only [size]; omega
    · cases h
  | .n l r, i, j, x, h => by
    have := size_pos l
    have := size_pos r
    unfold sub at h
    simp only [size]
    split at h
    · omega
    · split at h
      · have := sub_bd l i j x h; omega
      · split at h
        · have := sub_bd r _ _ x h; omega
        · cases h
/-- parts are inside one another or apart -/
theorem lam : ∀ (e : Sh) (i i' j j' : Nat) (x y : Sh), sub e i j = some x → sub e i' j' = some y → i < i' → i' < j → j < j' → False
  | .o, i, i', j, j', x, y, h, h', h1, h2, h3 => by
    unfold sub at h h'
    split at h <;> split at h' <;> first | omega | cases h | cases h'
  | .n l r, i, i', j, j', x, y, h, h', h1, h2, h3 => by
    unfold sub at h h'
    split at h
    · rename_i c
      split at h'
      · omega
      · split at h'
        · omega
        · split at h'
          · have := sub_bd r _ _ y h'; omega
          · cases h'
    · split at h'
      · omega
      · split at h
        · split at h'
          · exact lam l i i' j j' x y h h' h1 h2 h3
          · split at h'
            · omega
            · cases h'
        · split at h
          · split at h'
            · omega
            · split at h'
              · exact lam r _ _ _ _ x y h h' (by omega) (by omega) (by omega)
              · cases h'
          · cases h
theorem sts_getD (f : Nat → Sh) {b m k : Nat} (hb : 0 < b) (h : k * b < m) : (sts f b m).getD k .o = f (min b (m - k * b)) := by
  have : k < (m + b - 1) / b := by
    rw [Nat.lt_iff_add_one_le, Nat.le_div_iff_mul_le hb, Nat.add_mul]; omega
  unfold sts
  rw [List.getD_eq_getElem?_getD, List.getElem?_map, List.getElem?_range this]; rfl
theorem up_lt {b m k : Nat} (hb : 0 < b) (h : k < (m + b - 1) / b) : k * b < m := by
  rw [Nat.lt_iff_add_one_le, Nat.le_div_iff_mul_le hb, Nat.add_mul] at h; omega
theorem glu_form (s u : Tab) (hs : WT s) (hu : WT u) {m : Nat} (h1 : 1 ≤ m) (h2 : m ≤ bsz s * bsz u) :
    ent (glu s u) m = fill (ent u ((m + bsz s - 1) / bsz s)) (sts (ent s) (bsz s) m) ∧ (ent u ((m + bsz s - 1) / bsz s)).size = (m + bsz s - 1) / bsz s := by
  have hb : 0 < bsz s := by simp [bsz]
  refine ⟨?_, hu.ent ((Nat.le_div_iff_mul_le hb).mpr (by omega)) ?_⟩
  · rw [glu_ent s u hs h1 h2, prs2_one s u hs hu (osh_ne h1) (by simpa [osh] using h2), prs_sts s hs, sts_len]; rfl
  · have : (m + bsz s - 1) / bsz s < bsz u + 1 := (Nat.div_lt_iff_lt_mul hb).mpr (by rw [Nat.add_mul, Nat.mul_comm (bsz u)]; omega)
    omega
theorem glu_abv (s u : Tab) (hs : WT s) (hu : WT u) {m : Nat} (h1 : 1 ≤ m) (h2 : m ≤ bsz s * bsz u) :
    abv (ent (glu s u) m) (bsz s) 0 = ent u ((m + bsz s - 1) / bsz s) := by
  have hb : 0 < bsz s := by simp [bsz]
  obtain ⟨e1, e2⟩ := glu_form s u hs hu h1 h2
  rw [e1]
  apply abv_fill _ hb _ _ _ (by simp)
  · intro i hi
    rw [e2] at hi
    have h3 := up_lt hb hi
    rw [Nat.add_mul] at h3
    rw [sts_getD _ hb (by omega), hs.ent (by omega) (Nat.min_le_left _ _)]
    omega
  · rw [e2]
    have hj : 1 ≤ (m + bsz s - 1) / bsz s := (Nat.le_div_iff_mul_le hb).mpr (by omega)
    have h3 := up_lt hb (show (m + bsz s - 1) / bsz s - 1 < (m + bsz s - 1) / bsz s by omega)
    rw [sts_getD _ hb h3, hs.ent (by omega) (Nat.min_le_left _ _)]
    exact Nat.min_le_left _ _
theorem glu_cut (s u : Tab) (hs : WT s) (hu : WT u) : CutAt (glu s u) (bsz s) := by
  have hb : 0 < bsz s := by simp [bsz]
  refine ⟨by rw [glu_len]; simp, fun m h1 h2 k hk => ?_, fun n h1 h2 => ?_⟩
  · rw [glu_len] at h2
    obtain ⟨e1, e2⟩ := glu_form s u hs hu (by omega) h2
    have e3 := glu_ent_size s u hs hu (by omega) h2
    have hkj : k < (m + bsz s - 1) / bsz s := by
      rw [Nat.lt_iff_add_one_le, Nat.le_div_iff_mul_le hb, Nat.add_mul]; omega
    have := sub_fill (bsz s) hb (ent u ((m + bsz s - 1) / bsz s)) (sts (ent s) (bsz s) m) k (fun i hi => by
      rw [e2] at hi
      have h3 := up_lt hb hi
      rw [Nat.add_mul] at h3
      rw [sts_getD _ hb (by omega), hs.ent (by omega) (Nat.min_le_left _ _)]
      omega) (by
      rw [e2]
      have hj : 1 ≤ (m + bsz s - 1) / bsz s := by omega
      have h3 := up_lt hb (show (m + bsz s - 1) / bsz s - 1 < (m + bsz s - 1) / bsz s by omega)
      rw [sts_getD _ hb h3, hs.ent (by omega) (Nat.min_le_left _ _)]
      exact Nat.min_le_left _ _) (by rw [e2]; exact hkj)
    rw [← e1, e3, sts_getD _ hb hk] at this
    rw [this, glu_ent_low s u hs (by omega) (Nat.min_le_left _ _)]
  · rw [glu_len] at h2
    have hge : 1 ≤ (n - 1) / bsz s := (Nat.one_le_div_iff hb).mpr (by omega)
    have hle := Nat.div_mul_le_self (n - 1) (bsz s)
    rw [glu_abv s u hs hu (by omega) (by omega), glu_abv s u hs hu (by omega) h2]
    congr 1
    have := upq (q := (n - 1) / bsz s) (m := 1) hb
    rw [this, up1 hb (by omega) hb, show n + bsz s - 1 = n - 1 + bsz s from by omega, Nat.add_div_right _ hb]
end DL
namespace DL
open PySem PySem.Spec PyProof.Rows L2
section
variable {κ : Type} [DecidableEq κ]
theorem any_key : ∀ (ks : List κ) (k : κ), ks.any (fun k' => decide (k' = k)) = true ↔ k ∈ ks
  | [], k => by simp
  | k' :: ks, k => by
    rw [List.any_cons, Bool.or_eq_true, any_key ks k, List.mem_cons, decide_eq_true_eq]
    exact or_congr_left eq_comm
theorem lkp_rep (k : κ) (d : D) : ∀ (ks : List κ) (ds : List D) (k' : κ), ks.length = ds.length → lkp ks (repD ks ds k d) k' = if k = k' ∧ k ∈ ks then some d else lkp ks ds k'
  | [], ds, k', _ => by simp [lkp]
  | a :: ks, [], k', h => by simp at h
  | a :: ks, b :: ds, k', h => by
    simp only [repD, lkp]
    rw [lkp_rep k d ks ds k' (by simpa using h)]
    by_cases e : a = k'
    · subst e
      by_cases e2 : a = k
      · subst e2; simp
      · simp [e2, Ne.symm e2]
    · rw [if_neg e, if_neg e]
      by_cases e2 : k = k'
      · subst e2
        simp [e, Ne.symm e]
      · simp [e2]
theorem lkp_app (k : κ) (d : D) : ∀ (ks : List κ) (ds : List D) (k' : κ), ks.length = ds.length → k ∉ ks → lkp (ks ++ [k]) (ds ++ [d]) k' = if k = k' then some d else lkp ks ds k'
  | [], [], k', _, _ => by simp [lkp]
  | [], _ :: _, k', h, _ => by simp at h
  | a :: ks, [], k', h, _ => by simp at h
  | a :: ks, b :: ds, k', h, hk => by
    rw [List.mem_cons, not_or] at hk
    simp only [List.cons_append, lkp]
    rw [lkp_app k d ks ds k' (by simpa using h) hk.2]
    by_cases e : a = k'
    · subst e; simp [hk.1]
    · simp [e]
theorem lkp_put (k : κ) (d : D) (ks : List κ) (ds : List D) (k' : κ) (h : ks.length = ds.length) : lkp (putKs ks k) (putDs ks ds k d) k' = if k = k' then some d else lkp ks ds k' := by
  unfold putKs putDs
  by_cases e : k ∈ ks
  · rw [if_pos ((any_key ks k).mpr e), if_pos ((any_key ks k).mpr e), lkp_rep k d ks ds k' h]
    simp [e]
  · rw [if_neg (fun q => e ((any_key ks k).mp q)), if_neg (fun q => e ((any_key ks k).mp q)), lkp_app k d ks ds k' h e]
theorem putKs_le (ks : List κ) (k : κ) : (putKs ks k).length ≤ ks.length + 1 := by
  unfold putKs; split <;> simp
end
section
variable {Ω : Type} {τ : Tau} {ω : Ω}
theorem sw_newT {i : Nat} {P} : sw ((sNewT i : S Ω) τ ω) P = P (.nx (τ.set i (some (.ow (.T []) [])))) ω := by with_unfolding_all rfl
theorem sw_retW {i : Nat} {P} {k : OKd} {xs : List D} (h : τ[i]? = some (some (.ow k xs))) : sw ((sRetW i : S Ω) τ ω) P = P (.rt (k.fin xs)) ω := by
  unfold sRetW; rw [h]; with_unfolding_all rfl
theorem sw_pre {i : Nat} {F : S Ω} {P} {k : OKd} {xs : List D} (h : τ[i]? = some (some (.ow k xs))) : sw (sPre i F τ ω) P = sw (F (τ.set i (some (.d (k.fin xs)))) ω) P := by
  unfold sPre; rw [h]
theorem wp_enu {a : E Ω D} {P X} : (iEn a τ ω).wp P X = (a τ ω).wp (fun x ω1 => (R.ofO (x.itemsS.map (enumL 0)) ω1).wp P X) X := by unfold iEn; rw [wp_bind]
theorem sw_callW {F : List D → OW → R OW D} {i : Nat} {a : E Ω (List D)} {B : D → Tau → Option Tau} {P} {kd : OKd} {xs : List D} (h : τ[i]? = some (some (.ow kd xs)))
    (k : (a τ ω).wp (fun ds ω1 => (F ds (kd, xs)).wp (fun d o2 => ∃ τ', B d (τ.set i (some (.ow o2.1 o2.2))) = some τ' ∧ P (.nx τ') ω1) X0) (fun x ω1 => P (.rs x τ) ω1)) : sw (sCallW F i a B τ ω) P := by
  unfold sCallW
  rw [h]
  rw [sw_withE]
  refine k.mono (fun ds ω1 h1 => ?_) fun _ _ h => h
  cases e : F ds (kd, xs) with
  | ok d o2 =>
    obtain ⟨kd', ys⟩ := o2
    rw [e, wp_ok] at h1
    obtain ⟨τ', e1, h2⟩ := h1
    dsimp only [nox] at e1 ⊢
    rw [e1]
    with_unfolding_all exact h2
  | ex x u => rw [e] at h1; with_unfolding_all exact h1.elim
  | no => rw [e] at h1; with_unfolding_all exact h1.elim
theorem pT_d {i : Nat} {ks : List (List Key)} {ds : List D} (h : τ[i]? = some (some (.d (.dit ks ds)))) : pT i τ ω = some (ks, ds) := by unfold pT; rw [h]
theorem wp_diT {b : Bool → Bool} {p : Tau → Ω → Option (List (List Key) × List D)} {r : E Ω (List D)} {P X} {ks : List (List Key)} {ds : List D} (h : ∀ ω, p τ ω = some (ks, ds))
    (k : (r τ ω).wp (fun xs ω1 => ∃ k, D.keyL xs = some k ∧ k.length ≤ 1000 ∧ P (.bl (b (lkp ks ds k).isSome)) ω1) X) : (eDiT b p r τ ω).wp P X := by
  unfold eDiT
  rw [wp_bind]
  refine k.mono (fun xs ω1 h1 => ?_) fun _ _ h => h
  obtain ⟨k, e1, e2, h1⟩ := h1
  rw [e1, h ω1]
  dsimp only
  rw [if_pos e2, wp_ok]
  exact h1
theorem wp_dgT {p : Tau → Ω → Option (List (List Key) × List D)} {r : E Ω (List D)} {P X} {ks : List (List Key)} {ds : List D} (h : ∀ ω, p τ ω = some (ks, ds))
    (k : (r τ ω).wp (fun xs ω1 => ∃ k z, D.keyL xs = some k ∧ k.length ≤ 1000 ∧ lkp ks ds k = some z ∧ P z ω1) X) : (eDgT p r τ ω).wp P X := by
  unfold eDgT
  rw [h ω]
  dsimp only
  rw [wp_bind]
  refine k.mono (fun xs ω1 h1 => ?_) fun _ _ h => h
  obtain ⟨k, z, e1, e2, e3, h1⟩ := h1
  rw [e1, h ω1]
  dsimp only
  rw [if_pos e2, e3, wp_some]
  exact h1
end
section
variable {τ : Tau} {ω : OW}
theorem sw_putTs {i : Nat} {r : E OW (List D)} {v : E OW D} {P} (h : τ[i]? = some (some .src))
    (k : (v τ ω).wp (fun d ω1 => (r τ ω1).wp (fun xs ω2 => ∃ key ks ds, D.keyL xs = some key ∧ ω2 = (OKd.T ks, ds) ∧ ks.length ≤ 100000 ∧ key.length ≤ 1000 ∧ P (.nx τ) (OKd.T (putKs ks key), putDs ks ds key d)) (fun x ω1 => P (.rs x τ) ω1)) (fun x ω1 => P (.rs x τ) ω1)) : sw (sPutTs i r v τ ω) P := by
  unfold sPutTs
  rw [h]
  simp only [sw_withE]
  refine k.mono (fun d ω1 h1 => R.wp.mono h1 (fun xs ω2 h2 => ?_) fun _ _ h => h) fun _ _ h => h
  obtain ⟨key, ks, ds, e1, rfl, e2, e3, h2⟩ := h2
  rw [e1]
  dsimp only
  rw [if_pos ⟨e2, e3⟩, sw_some]
  exact h2
end
end DL
namespace DL
open Sh
/-- all lumps, with their parts -/
def lm : Sh → Nat → List (Nat × Nat × Sh)
  | .o, p => [(p, p + 1, .o)]
  | .n l r, p => (p, p + (l.size + r.size), .n l r) :: (lm l p ++ lm r (p + l.size))
theorem lm_cons : ∀ (s : Sh) (p : Nat), ∃ r, lm s p = (p, p + s.size, s) :: r
  | .o, p => ⟨_, rfl⟩
  | .n l r, p => ⟨_, rfl⟩
theorem lm_len : ∀ (s : Sh) (p : Nat), (lm s p).length + 1 = 2 * s.size
  | .o, p => rfl
  | .n l r, p => by
    have h1 := lm_len l p
    have h2 := lm_len r (p + l.size)
    simp only [lm, List.length_cons, List.length_append, size]
    omega
theorem mem_lm : ∀ (s : Sh) (p i j : Nat) (x : Sh), (i, j, x) ∈ lm s p ↔ p ≤ i ∧ sub s (i - p) (j - p) = some x
  | .o, p, i, j, x => by
    simp only [lm, List.mem_singleton, Prod.mk.injEq, sub]
    constructor
    · rintro ⟨rfl, rfl, rfl⟩; exact ⟨Nat.le_refl _, by rw [if_pos (by omega)]⟩
    · rintro ⟨h1, h2⟩
      split at h2
      · cases h2; exact ⟨by omega, by omega, rfl⟩
      · cases h2
  | .n l r, p, i, j, x => by
    have hl := size_pos l
    have hr := size_pos r
    simp only [lm, List.mem_cons, List.mem_append, Prod.mk.injEq, mem_lm l, mem_lm r]
    constructor
    · rintro (⟨rfl, rfl, rfl⟩ | ⟨h1, h2⟩ | ⟨h1, h2⟩)
      · refine ⟨Nat.le_refl _, ?_⟩
        unfold sub; rw [if_pos (by omega)]
      · have := sub_bd _ _ _ _ h2
        refine ⟨h1, ?_⟩
        unfold sub; rw [if_neg (by omega), if_pos (by omega)]; exact h2
      · have := sub_bd _ _ _ _ h2
        refine ⟨by omega, ?_⟩
        unfold sub
        rw [if_neg (by omega), if_neg (by omega), if_pos (by omega), show i - p - l.size = i - (p + l.size) from by omega, show j - p - l.size = j - (p + l.size) from by omega]
        exact h2
    · rintro ⟨h1, h2⟩
      have hb := sub_bd _ _ _ _ h2
      unfold sub at h2
      split at h2
      · cases h2; exact .inl ⟨by omega, by omega, rfl⟩
      · split at h2
        · exact .inr (.inl ⟨h1, h2⟩)
        · split at h2
          · refine .inr (.inr ⟨by omega, ?_⟩)
            rw [show i - (p + l.size) = i - p - l.size from by omega, show j - (p + l.size) = j - p - l.size from by omega]
            exact h2
          · cases h2
def lmP (s : Sh) (p : Nat) : List (Nat × Nat) := (lm s p).map fun x => (x.1, x.2.1)
theorem mem_lmP (s : Sh) (i j : Nat) : (i, j) ∈ lmP s 0 ↔ ∃ x, sub s i j = some x := by
  unfold lmP
  simp only [List.mem_map, Prod.mk.injEq]
  constructor
  · rintro ⟨⟨i', j', x⟩, h, rfl, rfl⟩
    exact ⟨x, by simpa using ((mem_lm s 0 i' j' x).mp h).2⟩
  · rintro ⟨x, h⟩
    exact ⟨(i, j, x), (mem_lm s 0 i j x).mpr ⟨Nat.zero_le _, by simpa using h⟩, rfl, rfl⟩
/-- stretches -/
def stP (m b : Nat) : List (Nat × Nat) := (List.range ((m + b - 1) / b)).map fun k => (k * b, min (k * b + b) m)
theorem mem_stP {m b i j : Nat} (hb : 0 < b) : (i, j) ∈ stP m b ↔ i % b = 0 ∧ i < m ∧ j = min (i + b) m := by
  unfold stP
  simp only [List.mem_map, List.mem_range, Prod.mk.injEq]
  constructor
  · rintro ⟨k, hk, rfl, rfl⟩
    exact ⟨Nat.mul_mod_left k b, up_lt hb hk, rfl⟩
  · rintro ⟨h1, h2, rfl⟩
    have hd := Nat.div_add_mod i b
    rw [h1, Nat.add_zero, Nat.mul_comm] at hd
    refine ⟨i / b, ?_, hd, by rw [hd]⟩
    rw [Nat.lt_iff_add_one_le, Nat.le_div_iff_mul_le hb, Nat.add_mul, hd]; omega
/-- the shape above some lumps -/
def lab (ps : List (Nat × Nat)) : Sh → Nat → Sh
  | .o, _ => .o
  | .n l r, p => if (p, p + (l.size + r.size)) ∈ ps then .o else .n (lab ps l p) (lab ps r (p + l.size))
def lmps (e : Sh) (b : Nat) : Prop := ∀ k, k * b < e.size → ∃ x, sub e (k * b) (k * b + b) = some x
theorem lmps_split {l r : Sh} {b : Nat} (hb : 0 < b) (hm : (l.size + r.size) % b = 0) (h : lmps (.n l r) b) (hlt : b < l.size + r.size) : l.size % b = 0 ∧ r.size % b = 0 ∧ lmps l b ∧ lmps r b := by
  have hl := size_pos l
  have hr := size_pos r
  have hd := Nat.div_add_mod (l.size - 1) b
  have hmd := Nat.mod_lt (l.size - 1) hb
  have hc : (l.size - 1) / b * b = b * ((l.size - 1) / b) := Nat.mul_comm _ _
  have key : l.size = (l.size - 1) / b * b + b := by
    obtain ⟨x, hx⟩ := h ((l.size - 1) / b) (by simp only [size]; omega)
    unfold sub at hx
    rw [if_neg (by omega)] at hx
    split at hx
    · omega
    · split at hx
      · omega
      · cases hx
  have hlm : l.size % b = 0 := by
    rw [key, ← Nat.succ_mul]; exact Nat.mul_mod_left _ _
  have hrm : r.size % b = 0 := by
    have e : l.size + r.size = r.size + l.size := Nat.add_comm _ _
    rw [e, Nat.add_mod, hlm, Nat.add_zero, Nat.mod_mod] at hm
    exact hm
  have hld := Nat.div_add_mod l.size b
  rw [hlm, Nat.add_zero] at hld
  refine ⟨hlm, hrm, fun k hk => ?_, fun k hk => ?_⟩
  · have hkq : k < l.size / b := by
      rcases Nat.lt_or_ge k (l.size / b) with h' | h'
      · exact h'
      · have := Nat.mul_le_mul_right b h'; rw [Nat.mul_comm] at this; omega
    have hk2 : (k + 1) * b ≤ l.size / b * b := Nat.mul_le_mul_right b hkq
    rw [Nat.add_mul, Nat.one_mul, Nat.mul_comm (l.size / b)] at hk2
    obtain ⟨x, hx⟩ := h k (by simp only [size]; omega)
    unfold sub at hx
    rw [if_neg (by omega), if_pos (by omega)] at hx
    exact ⟨x, hx⟩
  · have e : (l.size / b + k) * b = l.size + k * b := by rw [Nat.add_mul, Nat.mul_comm (l.size / b)]; omega
    obtain ⟨x, hx⟩ := h (l.size / b + k) (by simp only [size]; omega)
    rw [e] at hx
    unfold sub at hx
    rw [if_neg (by omega), if_neg (by omega), if_pos (by omega), show l.size + k * b - l.size = k * b from by omega, show l.size + k * b + b - l.size = k * b + b from by omega] at hx
    exact ⟨x, hx⟩
theorem le_of_mod {b m : Nat} (hm : m % b = 0) (h0 : 0 < m) : b ≤ m := Nat.le_of_dvd h0 (Nat.dvd_of_mod_eq_zero hm)
theorem lab_abv {b M : Nat} (hb : 0 < b) (hM : M % b = 0) : ∀ (e : Sh) (p : Nat), p % b = 0 → e.size % b = 0 → p + e.size ≤ M → lmps e b → lab (stP M b) e p = abv e b p ∧ (abv e b p).size * b = e.size
  | .o, p, h1, h2, h3, h4 => by
    simp only [size] at h2
    have := le_of_mod h2 (by omega)
    exact ⟨rfl, by simp only [abv, size]; omega⟩
  | .n l r, p, h1, h2, h3, h4 => by
    have hl := size_pos l
    have hr := size_pos r
    simp only [size] at h2 h3
    have hge := le_of_mod h2 (by omega)
    have hpM : p + b ≤ M := by omega
    rcases Nat.eq_or_lt_of_le hge with e | hlt
    · have hin : abv (.n l r) b p = .o := abv_in _ b p hb h1 (by simp only [size]; omega)
      rw [hin]
      refine ⟨?_, by simp only [size]; omega⟩
      unfold lab
      rw [if_pos ((mem_stP hb).mpr ⟨h1, by omega, by omega⟩)]
    · obtain ⟨a1, a2, a3, a4⟩ := lmps_split hb h2 h4 hlt
      have hp2 : (p + l.size) % b = 0 := by rw [Nat.add_mod, h1, a1]; simp
      obtain ⟨e1, s1⟩ := lab_abv hb hM l p h1 a1 (by omega) a3
      obtain ⟨e2, s2⟩ := lab_abv hb hM r (p + l.size) hp2 a2 (by omega) a4
      have hout := abv_out hb h1 hlt
      have ea : abv (.n l r) b p = .n (abv l b p) (abv r b (p + l.size)) := by
        conv => lhs; unfold abv
        rw [if_neg hout]
      rw [ea]
      refine ⟨?_, by simp only [size, Nat.add_mul]; omega⟩
      unfold lab
      rw [if_neg, e1, e2]
      intro hmem
      have := ((mem_stP hb).mp hmem).2.2
      omega
theorem lmps_at {t : Tab} {b m : Nat} (h : lmps (ent t (m * b)) b) (hw : WT t) (h1 : 1 ≤ m * b) (h2 : m * b ≤ bsz t) (hb : 0 < b) : (abv (ent t (m * b)) b 0).size = m ∧ lab (stP (m * b) b) (ent t (m * b)) 0 = abv (ent t (m * b)) b 0 := by
  have hs := hw.ent h1 h2
  obtain ⟨e1, e2⟩ := lab_abv (M := m * b) hb (Nat.mul_mod_left m b) (ent t (m * b)) 0 (by simp) (by rw [hs]; exact Nat.mul_mod_left m b) (by omega) h
  rw [hs] at e2
  exact ⟨Nat.eq_of_mul_eq_mul_right hb e2, e1⟩
theorem CutAt.lmps {t : Tab} {b m : Nat} (h : CutAt t b) (hw : WT t) (hm : 2 ≤ m) (hb : 2 ≤ b) (h2 : m * b ≤ bsz t) : DL.lmps (ent t (m * b)) b := by
  have h4 : 2 * b ≤ m * b := Nat.mul_le_mul_right b hm
  have hs := hw.ent (m := m * b) (by omega) h2
  intro k hk
  rw [hs] at hk
  have hkm : k < m := Nat.lt_of_mul_lt_mul_right hk
  have : (k + 1) * b ≤ m * b := Nat.mul_le_mul_right b hkm
  rw [Nat.add_mul, Nat.one_mul] at this
  have := h.str (m * b) (by omega) h2 k hk
  rw [Nat.min_eq_left (by omega)] at this
  exact ⟨_, this⟩
/-- the entries behind are shapes of their sizes where all stretches are lumps -/
theorem late_wt' {t : Tab} {b : Nat} (hw : WT t) (hb : 2 ≤ b) (h2 : b < bsz t) (hd : bsz t % b = 0) (h : ∀ m, 2 ≤ m → m ≤ bsz t / b → lmps (ent t (m * b)) b) : WT (late t b) := by
  have hdm := Nat.div_add_mod (bsz t) b
  rw [hd, Nat.add_zero] at hdm
  have hq : 2 ≤ bsz t / b := by
    rcases Nat.lt_or_ge (bsz t / b) 2 with h' | h'
    · have := Nat.mul_le_mul_left b (show bsz t / b ≤ 1 by omega); omega
    · exact h'
  refine ⟨by simp [late]; omega, fun i s hs => ?_⟩
  unfold late at hs
  rw [List.getElem?_map, Option.map_eq_some_iff] at hs
  obtain ⟨j, hj, rfl⟩ := hs
  have hi : i < bsz t / b - 1 := by
    have := List.getElem?_eq_some_iff.mp hj
    obtain ⟨h', _⟩ := this; simpa using h'
  rw [List.getElem?_range hi] at hj
  injection hj with hj
  subst hj
  have hle : (i + 2) * b ≤ bsz t := by rw [← hdm, Nat.mul_comm]; exact Nat.mul_le_mul_left b (by omega)
  have := (lmps_at (h (i + 2) (by omega) (by omega)) hw (Nat.mul_pos (by omega) (by omega)) hle (by omega)).1
  rw [Nat.mul_comm]
  exact this
end DL
namespace DL
open PySem PySem.Spec PyProof.Rows L2
section
variable {α : Type} [DecidableEq α] [Enc α]
theorem shaped_enc (x : α) (h : Enc.dep x ≤ 64) : SeqAt.shaped (Enc.py x) = true := by
  unfold SeqAt.shaped
  rw [Enc.e3, Bool.true_and]
  exact decide_eq_true (Nat.le_trans (Enc.e4 x) h)
theorem in_enc (x : α) (ys : List α) (hf : (Enc.enc x).flat = false) (h1 : Enc.dep x ≤ 60) (h2 : ∀ y ∈ ys, Enc.dep y ≤ 60) : inD (Enc.enc x) (.lst (ys.map Enc.enc)) = some (.bl (decide (x ∈ ys))) := by
  have e0 : inF (Enc.enc x) (ys.map Enc.enc) = none := by
    unfold inF; rw [if_neg]; rw [hf]; simp
  have hs : SeqAt.shaped (.list (ys.map Enc.py)) = true := by
    have hd : depL ys ≤ 60 := depL_le h2
    exact shaped_enc (⟨ys⟩ : Lst α) (show depL ys + 1 ≤ 64 by omega)
  unfold inD inB
  simp only [e0, Enc.e1, pyL_map]
  rw [if_pos ⟨shaped_enc x (by omega), hs⟩]
  have : ((ys.map Enc.py).any fun z => PyData.eqv z (Enc.py x)) = decide (x ∈ ys) := by
    rw [List.any_map, Bool.eq_iff_iff, List.any_eq_true, decide_eq_true_eq]
    constructor
    · rintro ⟨y, hy, e⟩
      have e' : PyData.eqv (Enc.py y) (Enc.py x) = true := e
      rw [Enc.e2, decide_eq_true_eq] at e'
      exact e' ▸ hy
    · intro hx
      exact ⟨x, hx, by show PyData.eqv (Enc.py x) (Enc.py x) = true; rw [Enc.e2]; simp⟩
  rw [this]; rfl
end
/-- a pair of numbers -/
abbrev pD (p : Nat × Nat) : D := .tup [.int (p.1 : Nat), .int (p.2 : Nat)]
abbrev pE (p : Nat × Nat) : List Int := [(p.1 : Int), (p.2 : Int)]
theorem in_pairs (p : Nat × Nat) (l : List (Nat × Nat)) : inD (pD p) (.lst (l.map pD)) = some (.bl (decide (p ∈ l))) := by
  have h := in_enc (pE p) (l.map pE) rfl (by show max 0 (max 0 0) + 1 ≤ 60; decide) (fun y hy => by
    rw [List.mem_map] at hy
    obtain ⟨q, _, rfl⟩ := hy
    show max 0 (max 0 0) + 1 ≤ 60; decide)
  rw [List.map_map] at h
  refine (Eq.trans (show inD (pD p) (.lst (l.map pD)) = inD (Enc.enc (pE p)) (.lst (l.map (Enc.enc ∘ pE))) from rfl) h).trans ?_
  refine congrArg (fun b => some (D.bl b)) (decide_eq_decide.mpr ?_)
  rw [List.mem_map]
  constructor
  · rintro ⟨q, hq, e⟩
    injection e with e1 e2
    injection e2 with e2 _
    have : q = p := Prod.ext (by omega) (by omega)
    exact this ▸ hq
  · intro h; exact ⟨p, h, rfl⟩
theorem stP_len (m b : Nat) : (stP m b).length = (m + b - 1) / b := by simp [stP]
theorem stP_get {m b i : Nat} (hb : 0 < b) (h : i * b < m) : (stP m b)[i]? = some (i * b, min (i * b + b) m) := by
  have hi : i < (m + b - 1) / b := by
    rw [Nat.lt_iff_add_one_le, Nat.le_div_iff_mul_le hb, Nat.add_mul]; omega
  unfold stP
  rw [List.getElem?_map, List.getElem?_range hi]; rfl
theorem stP_end {m b i : Nat} (hb : 0 < b) (h : m ≤ i * b) : (stP m b).length ≤ i := by
  rw [stP_len]
  have : (m + b - 1) / b < i + 1 := (Nat.div_lt_iff_lt_mul hb).mpr (by rw [Nat.add_mul]; omega)
  omega
theorem stP_le (m b : Nat) (hb : 0 < b) : (stP m b).length ≤ m := stP_end hb (Nat.le_mul_of_pos_right _ hb)
theorem take_succ' {α : Type} (l : List α) (i : Nat) : l.take (i + 1) = l.take i ++ l[i]?.toList := by
  by_cases h : i < l.length
  · rw [List.take_succ_eq_append_getElem h, List.getElem?_eq_getElem h]; rfl
  · rw [List.getElem?_eq_none (by omega), List.take_of_length_le (by omega), List.take_of_length_le (by omega)]; simp
/-- a lump with its part -/
abbrev lD (x : Nat × Nat × Sh) : D := .tup [.int (x.1 : Nat), .int (x.2.1 : Nat), x.2.2.enc]
theorem tab_range (t : Tab) : (List.range t.length).map (fun i => ent t (i + 2)) = t := by
  refine List.ext_getElem (by simp) fun i h1 h2 => ?_
  rw [List.getElem_map, List.getElem_range]
  unfold ent
  rw [if_neg (by omega), show i + 2 - 2 = i from by omega, List.getD_eq_getElem?_getD, List.getElem?_eq_getElem h2]
  rfl
theorem addL2 (xs ys : List D) (h : xs.length + ys.length ≤ 100000) : addD (.lst xs) (.lst ys) = some (.lst (xs ++ ys)) := addL xs ys h
end DL
namespace DL
open PySem PySem.Spec PyProof.Rows L2
section
variable {im : Addr → Bool} {Ω : Type} (G : Gam im Ω) (K : PySem.W.Frag)
def KSL (H0 H : Hp) (D' : Ends) : Option (List D × Ω) → Prop
  | none => False
  | some (ds, ω) => ∀ p vs H', Sb im H H' → Kp G H0 H' → G.At ω H' → H0 p = none → ¬ G.FP p → H' p = some (.lst vs) → RepL K im H' vs ds → D'.rt (.ref p) H'
variable {G} {K}
theorem KSL.mono {H0 H H1 : Hp} {D' : Ends} {r : Option (List D × Ω)} (h : KSL G K H0 H D' r) (s : Sb im H H1) : KSL G K H0 H1 D' r := by
  rcases r with _ | ⟨ds, ω⟩
  · exact h
  · exact fun p vs H' sb => h p vs H' (s.trans sb)
end
end DL
namespace DL
open PySem PySem.Spec PyProof.Rows L2
end DL
namespace DL
open PySem PySem.Spec PyProof.Rows L2
end DL
namespace DL
open PySem PySem.Spec PyProof.Rows L2
end DL
namespace DL
open PySem PySem.Spec PyProof.Rows L2
theorem strOk_append (x y : Str) : PyData.strOk (x ++ y) = (PyData.strOk x && PyData.strOk y) := by
  unfold PyData.strOk
  show (x.cps ++ y.cps).all _ = _
  rw [Array.all_append]
theorem strOk_app {x y : Str} (h1 : PyData.strOk x = true) (h2 : PyData.strOk y = true) : PyData.strOk (x ++ y) = true := by rw [strOk_append, h1, h2]; rfl
theorem join_ok : ∀ (ts : List Str), (∀ t ∈ ts, PyData.strOk t = true) → PyData.strOk (Str.join ", " ts) = true ∧ (Str.join ", " ts).length ≤ piled ts
  | [], _ => ⟨by decide +kernel, by show (0 : Nat) ≤ _; exact Nat.zero_le _⟩
  | [x], h => ⟨h x (List.mem_singleton.mpr rfl), by show x.length ≤ _; rw [piled_cons]; omega⟩
  | x :: y :: r, h => by
    obtain ⟨h1, h2⟩ := join_ok (y :: r) fun t ht => h t (List.mem_cons_of_mem _ ht)
    have e : Str.join ", " (x :: y :: r) = x ++ ", " ++ Str.join ", " (y :: r) := rfl
    refine ⟨by rw [e]; exact strOk_app (strOk_app (h x (List.mem_cons_self ..)) (by decide +kernel)) h1, ?_⟩
    rw [e, strLen_append, strLen_append, piled_cons]
    have : (", " : Str).length = 2 := rfl
    omega
theorem tupleText_ok {ts : List Str} (h : ∀ t ∈ ts, PyData.strOk t = true) : PyData.strOk (tupleText ts) = true ∧ (tupleText ts).length ≤ piled ts + 3 := by
  obtain ⟨h1, h2⟩ := join_ok ts h
  unfold tupleText
  refine ⟨strOk_app (strOk_app (by decide +kernel) h1) (by split <;> decide +kernel), ?_⟩
  rw [strLen_append, strLen_append]
  have a : ("(" : Str).length = 1 := rfl
  have b : ((if (ts.length == 1) = true then ",)" else ")" : String) : Str).length ≤ 2 := by split <;> decide
  omega
theorem textFrom_ok : ∀ (ts : List Str) (k : Nat) (acc : Str), (∀ t ∈ ts, PyData.strOk t = true) → PyData.strOk acc = true → PyData.strOk (textFrom k acc ts) = true ∧ (textFrom k acc ts).length ≤ acc.length + piled ts
  | [], k, acc, _, ha => ⟨ha, by show acc.length ≤ _; omega⟩
  | t :: ts, k, acc, h, ha => by
    have hs : PyData.strOk ((if k > 0 then ", " else "" : String) : Str) = true := by split <;> decide +kernel
    obtain ⟨h1, h2⟩ := textFrom_ok ts (k + 1) (acc ++ (if k > 0 then ", " else "" : String) ++ t) (fun x hx => h x (List.mem_cons_of_mem _ hx)) (strOk_app (strOk_app ha hs) (h t (List.mem_cons_self ..)))
    refine ⟨h1, ?_⟩
    unfold textFrom
    refine Nat.le_trans h2 ?_
    rw [strLen_append, strLen_append, piled_cons]
    have : ((if k > 0 then ", " else "" : String) : Str).length ≤ 2 := by split <;> decide
    omega
theorem listText_ok {ts : List Str} (h : ∀ t ∈ ts, PyData.strOk t = true) : PyData.strOk (listText ts) = true ∧ (listText ts).length ≤ piled ts + 3 := by
  obtain ⟨h1, h2⟩ := textFrom_ok ts 0 "[" h (by decide +kernel)
  unfold listText
  refine ⟨strOk_app h1 (by decide +kernel), ?_⟩
  rw [strLen_append]
  have a : ("[" : Str).length = 1 := rfl
  have b : ("]" : Str).length = 1 := rfl
  omega
theorem sh_shown : ∀ s : Sh, PyData.strOk (PyData.shown s.py) = true ∧ (PyData.shown s.py).length + 7 ≤ 14 * s.size
  | .o => by
    have := tupleText_ok (ts := []) (fun _ h => absurd h (by simp))
    show PyData.strOk (tupleText []) = true ∧ (tupleText []).length + 7 ≤ _
    refine ⟨this.1, ?_⟩
    have h2 := this.2
    rw [piled_nil] at h2
    simp only [Sh.size]
    omega
  | .n l r => by
    obtain ⟨a1, a2⟩ := sh_shown l
    obtain ⟨b1, b2⟩ := sh_shown r
    have := tupleText_ok (ts := [PyData.shown l.py, PyData.shown r.py]) (fun t h => by
      rcases List.mem_cons.mp h with rfl | h
      · exact a1
      · rw [List.mem_singleton.mp h]; exact b1)
    have e : PyData.shown (Sh.n l r).py = tupleText [PyData.shown l.py, PyData.shown r.py] := by
      simp [Sh.py, PyData.shown, PyData.shownAll]
    rw [e]
    refine ⟨this.1, ?_⟩
    have h2 := this.2
    rw [piled_cons, piled_cons, piled_nil] at h2
    simp only [Sh.size]
    omega
theorem sh_showable : ∀ s : Sh, PyData.showable s.py = true
  | .o => by simp [Sh.py, PyData.showable, PyData.showableAll]
  | .n l r => by simp [Sh.py, PyData.showable, PyData.showableAll, sh_showable l, sh_showable r]
/-- data that can be shown, in so many signs -/
structure Gd (p : PyData) (b d : Nat) : Prop where
  sh : p.showable = true
  ly : p.canLay0 = true
  dp : p.depth ≤ d
  ok : PyData.strOk p.shown = true
  ln : p.shown.length ≤ b
theorem Gd.shp (s : Sh) : Gd s.py (14 * s.size) s.size := ⟨sh_showable s, s.lay, s.dep, (sh_shown s).1, by have := (sh_shown s).2; omega⟩
theorem gd_all {α : Type} (f : α → PyData) (b d : Nat) : ∀ xs : List α, (∀ x ∈ xs, Gd (f x) b d) → PyData.showableAll (xs.map f) = true ∧ PyData.canLayAll0 (xs.map f) = true ∧ PyData.depthAll (xs.map f) ≤ d ∧ (∀ t ∈ PyData.shownAll (xs.map f), PyData.strOk t = true) ∧ piled (PyData.shownAll (xs.map f)) ≤ xs.length * (b + 2)
  | [], _ => ⟨by simp [PyData.showableAll], by simp [PyData.canLayAll0], by simp [PyData.depthAll], by simp [PyData.shownAll], by simp [PyData.shownAll, piled_nil]⟩
  | x :: xs, h => by
    obtain ⟨h1, h2, h3, h4, h5⟩ := gd_all f b d xs fun y hy => h y (List.mem_cons_of_mem _ hy)
    have g := h x (List.mem_cons_self ..)
    have gd := g.dp; have gl := g.ln
    refine ⟨by simp [PyData.showableAll, g.sh, h1], by simp [PyData.canLayAll0, g.ly, h2], by simp only [List.map_cons, PyData.depthAll]; omega, fun t ht => ?_, ?_⟩
    · simp only [List.map_cons, PyData.shownAll, List.mem_cons] at ht
      rcases ht with rfl | ht
      · exact g.ok
      · exact h4 t ht
    · simp only [List.map_cons, PyData.shownAll, piled_cons, List.length_cons]
      rw [Nat.succ_mul]
      omega
theorem Gd.tup {α : Type} {f : α → PyData} {b d : Nat} {xs : List α} (h : ∀ x ∈ xs, Gd (f x) b d) : Gd (.tuple (xs.map f)) (xs.length * (b + 2) + 3) (d + 1) := by
  obtain ⟨h1, h2, h3, h4, h5⟩ := gd_all f b d xs h
  obtain ⟨k1, k2⟩ := tupleText_ok h4
  exact ⟨by simp only [PyData.showable]; exact h1, by simp only [PyData.canLay0]; exact h2, by simp only [PyData.depth]; omega, by simp only [PyData.shown]; exact k1, by simp only [PyData.shown]; omega⟩
theorem Gd.lst {α : Type} {f : α → PyData} {b d : Nat} {xs : List α} (h : ∀ x ∈ xs, Gd (f x) b d) : Gd (.list (xs.map f)) (xs.length * (b + 2) + 3) (d + 1) := by
  obtain ⟨h1, h2, h3, h4, h5⟩ := gd_all f b d xs h
  obtain ⟨k1, k2⟩ := listText_ok h4
  exact ⟨by simp only [PyData.showable]; exact h1, by simp only [PyData.canLay0]; exact h2, by simp only [PyData.depth]; omega, by simp only [PyData.shown]; exact k1, by simp only [PyData.shown]; omega⟩
theorem Gd.reprD {x : D} {p : PyData} {b d : Nat} (hx : (∃ ds, x = .tup ds) ∨ ∃ ds, x = .lst ds) (e : x.py = some p) (g : Gd p b d) (hb : b ≤ 1000000) (hd : d ≤ 150) : un1 reprD [x] = some (.str p.shown) := by
  have h1 : p.showable = true ∧ p.hasDict = false ∧ p.depth ≤ 150 ∧ p.shown.length ≤ sizeLine := ⟨g.sh, PyData.hasDict_of_canLay _ g.ly, by have := g.dp; omega, by have := g.ln; rw [sizeLine_eq]; omega⟩
  show DL.reprD x = _
  rcases hx with ⟨ds, rfl⟩ | ⟨ds, rfl⟩
  · unfold DL.reprD
    dsimp only
    rw [e]
    dsimp only
    rw [if_pos h1]
  · unfold DL.reprD
    dsimp only
    rw [e]
    dsimp only
    rw [if_pos h1]
theorem strOk_ofString (s : String) : PyData.strOk (Str.ofString s) = true := by
  unfold PyData.strOk
  rw [Str.ofString_eq_toList]
  show (List.toArray (s.toList.map Char.toNat)).all _ = true
  rw [List.all_toArray, List.all_map, List.all_eq_true]
  intro c _
  have := c.valid
  show decide (c.toNat < 0x110000) = true
  rw [decide_eq_true_eq]
  have h : c.toNat = c.val.toNat := rfl
  rcases this with h1 | ⟨_, h1⟩
  · rw [h]; exact Nat.lt_trans h1 (by decide)
  · rw [h]; exact h1
theorem Gd.int {i : Int} {k : Nat} (h : i.natAbs < 2 ^ k) (hk : 0 < k) (hk2 : k ≤ 1000) : Gd (.int i) (k + 1) 0 := by
  have hl : i.natAbs.log2 < k := by
    rcases Nat.eq_zero_or_pos i.natAbs with e | e
    · rw [e]; exact hk
    · exact (Nat.log2_lt (by omega)).mpr h
  refine ⟨by simp only [PyData.showable]; exact decide_eq_true (by omega), by simp only [PyData.canLay0], by simp only [PyData.depth]; omega, ?_, ?_⟩
  · simp only [PyData.shown]; exact strOk_ofString _
  · simp only [PyData.shown]
    rw [show ((toString i : String) : Str).length = (toString i).length from PySem.ofString_length _]
    exact int_text_length_le hk hl
theorem Gd.bool (b : Bool) : Gd (.bool b) 5 0 := by
  refine ⟨by simp only [PyData.showable], by simp only [PyData.canLay0], by simp only [PyData.depth]; omega, ?_, ?_⟩
  · simp only [PyData.shown]; cases b <;> exact strOk_ofString _
  · simp only [PyData.shown]; cases b <;> decide
theorem Gd.non : Gd .none 4 0 := by
  refine ⟨by simp only [PyData.showable], by simp only [PyData.canLay0], by simp only [PyData.depth]; omega, ?_, ?_⟩
  · simp only [PyData.shown]; exact strOk_ofString _
  · simp only [PyData.shown]; decide
theorem Gd.le {p : PyData} {b d b' d' : Nat} (g : Gd p b d) (h1 : b ≤ b') (h2 : d ≤ d') : Gd p b' d' := ⟨g.sh, g.ly, Nat.le_trans g.dp h2, g.ok, Nat.le_trans g.ln h1⟩
/-- a thing that can be compared and shown -/
theorem repr_ne_same {α : Type} [DecidableEq α] [Enc α] (x : α) {b d : Nat} (hx : (∃ ds, Enc.enc x = .tup ds) ∨ ∃ ds, Enc.enc x = .lst ds) (g : Gd (Enc.py x) b d) (hb : b ≤ 1000000) (hd : d ≤ 150) :
    un1 reprD [Enc.enc x] = some (.str (PyData.shown (Enc.py x))) ∧ neD (.str (PyData.shown (Enc.py x))) (.str (PyData.shown (Enc.py x))) = some (.bl false) :=
  ⟨g.reprD hx (Enc.e1 x) hb hd, str_ne_same _ g.ok⟩
end DL
namespace DL
open PySem PySem.Spec PyProof.Rows L2
def optE : Option Sh → D
  | none => .non
  | some s => s.enc
def optP : Option Sh → PyData
  | none => .none
  | some s => s.py
instance : Enc (Option Sh) where
  enc := optE
  py := optP
  dep := fun o => match o with | none => 0 | some s => s.size
  e1 o := by cases o with
    | none => rfl
    | some s => exact Sh.enc_py s
  e2 a b := by
    cases a with
    | none => cases b with
      | none => simp [optP, PyData.eqv]
      | some s => cases s <;> simp [optP, Sh.py, PyData.eqv]
    | some a => cases b with
      | none => cases a <;> simp [optP, Sh.py, PyData.eqv]
      | some b =>
        show PyData.eqv a.py b.py = _
        rw [Sh.eqv]
        exact decide_eq_decide.mpr (by simp)
  e3 o := by cases o with
    | none => simp [optP, PyData.canLay0]
    | some s => exact Sh.lay s
  e4 o := by cases o with
    | none => simp [optP, PyData.depth]
    | some s => exact Sh.dep s
open Sh
def ends (m b : Nat) : List Nat := (List.range ((m + b - 1) / b)).map fun k => min (k * b + b) m
end DL
namespace DL
open PySem PySem.Spec PyProof.Rows L2
def oIt {Ω : Type} (i : Nat) : E Ω (List D) := fun τ ω => match τ[i]? with
  | some (some (.ow .L xs)) => .ok xs ω
  | _ => .no
section
variable {im : Addr → Bool} {Ω : Type} {G : Gam im Ω} {K : PySem.W.Frag} {W W' : WX} {tt : TT} {te : TE} {Ft : E Ω Bool} {Fe : E Ω D}
def YieldsK (G : Gam im Ω) (K : PySem.W.Frag) (J : It) (H : Hp) (ds : List D) : Prop := ∀ (i : Nat) (H' : Hp), Sb im H H' → Kp G H H' →
  (∀ d, ds[i]? = some d → J.go i H' ∧ ∀ x H3, J.yld i H' x H3 → Same H' H3 ∧ Rep K im H3 x d) ∧ (ds.length ≤ i → J.stop i H')
def DIK (G : Gam im Ω) (K : PySem.W.Frag) (W : WX) (wi : TI) (F : E Ω (List D)) : Prop := ∀ H0 σ H ω τ, STT G K H0 H σ τ → G.At ω H → ∀ R : It → Hp → Prop,
  Res G (F τ ω) H (fun ds _ H' => ∀ J, YieldsK G K J H' ds → R J H') (kX G K W σ) → wi σ H R
theorem di_own {i : Nat} : DIK G K W (iSeq K (tVar i)) (oIt i) := by
  intro H0 σ H ω τ s t R h
  unfold oIt at h
  split at h
  · rename_i xs hx
    obtain ⟨l, vs, e, h1, h2, h3, h4⟩ := s.getO hx
    refine ⟨_, e, l, rfl, .inl ⟨⟨vs, SqL.of h1⟩, h H .refl t _ ?_⟩⟩
    intro j H' sb kp
    have q := SqL.of (K := K) (kp _ _ h1 h4)
    have r := h2.up sb
    refine ⟨fun d hd => ?_, fun hi => ⟨vs, q, by rw [r.length]; exact hi⟩⟩
    obtain ⟨v, hv, rv⟩ := r.get hd
    refine ⟨⟨vs, v, q, hv⟩, fun x H3 y => ?_⟩
    obtain ⟨rfl, y⟩ := y
    have := y vs q
    rw [hv] at this; cases this
    exact ⟨Same.refl _, rv⟩
  · exact h.elim
theorem dl_lcO {wi : TI} {Fi : E Ω (List D)} {g : TG} {sl vs : List Nat} {B : D → Tau → Option Tau} (hi : DIK G K W wi Fi) (hg : DG G K g sl B) (ht : DT G K W' tt Ft) (he : DE G K W' te Fe) (hsl : ∀ j, j ∉ vs → j ∉ sl) : DL G K W (tLc wi g tt te vs) (eLc vs Fi B Ft Fe) := by
  intro H0 σ H ω τ s t' Q h
  refine hi H0 σ H ω τ s t' _ (Res.imp (Res.bind h) (fun ds ω1 H1 k1 t1 h1 J y => ?_) fun _ _ _ _ _ q => q)
  have hlen : ds.length ≤ sizeLine := by
    by_cases hq : ds.length ≤ sizeLine
    · exact hq
    · rw [if_neg hq] at h1; exact h1.elim
  rw [if_pos hlen] at h1
  cases e0 : lcL B Ft Fe (wipeT τ vs) ds ω1 with
  | no => rw [e0] at h1; exact h1.elim
  | ex x u => rw [e0] at h1; exact h1.elim
  | ok total ωe =>
  rw [e0] at h1
  intro p hp
  have nf : ¬ G.FP p := fun f => G.trk t1 p f hp
  have hp0 : H p = none := by
    cases e : H p with
    | none => rfl
    | some o => have := k1 p o e nf; rw [hp] at this; cases this
  refine ⟨fun i m H' => m = ds.length - i ∧ i ≤ ds.length ∧ ∃ ω' acc accd rest, Kp G H1 H' ∧ H' p = some (.lst acc) ∧ RepL K im H' acc accd ∧ G.At ω' H' ∧ lcL B Ft Fe (wipeT τ vs) (ds.drop i) ω' = .ok rest ωe ∧ accd ++ rest = total ∧ acc.length ≤ i,
    ⟨ds.length, by simp, Nat.zero_le _, ω1, [], [], total, .of (Same.new hp), upd_same, .nil, At.same t1 (Same.new hp), by simpa using e0, rfl, Nat.le_refl _⟩, ?_⟩
  rintro i m H' ⟨rfl, hle, ω', acc, accd, rest, kp, hpl, racc, t2, el, eapp, hacc⟩
  have sb1 : Sb im H1 H' := kp.sb t1
  by_cases hlt : i < ds.length
  · refine .inr ?_
    have hd : ds[i]? = some ds[i] := List.getElem?_eq_getElem hlt
    obtain ⟨go, yl⟩ := (y i H' sb1 kp).1 _ hd
    have hdrop : ds.drop i = ds[i] :: ds.drop (i + 1) := List.drop_eq_getElem_cons hlt
    rw [hdrop] at el
    unfold lcL at el
    cases eB : B ds[i] (wipeT τ vs) with
    | none => rw [eB] at el; cases el
    | some τ1 =>
    rw [eB] at el
    obtain ⟨b, ω5, ef, el⟩ := bind_eq el
    have ef := nox_eq ef
    refine ⟨go, fun H'' => ∃ m', m' = ds.length - (i + 1) ∧ i + 1 ≤ ds.length ∧ ∃ ω' acc accd rest, Kp G H1 H'' ∧ H'' p = some (.lst acc) ∧ RepL K im H'' acc accd ∧ G.At ω' H'' ∧ lcL B Ft Fe (wipeT τ vs) (ds.drop (i + 1)) ω' = .ok rest ωe ∧ accd ++ rest = total ∧ acc.length ≤ i + 1,
      fun H'' ⟨m', e, a⟩ => ⟨m', by omega, e, a⟩, fun x H3 yx => ?_⟩
    obtain ⟨sm, rx⟩ := yl x H3 yx
    have s3 : STT G K H0 H3 (L2.wipe σ vs) (wipeT τ vs) := ((((s.step t' k1).step t1 kp).step t2 (.of sm))).wipe vs
    have t3 := At.same t2 sm
    refine hg H0 (L2.wipe σ vs) H3 (wipeT τ vs) x _ τ1 s3 rx eB _ fun σ4 s4 f4 l4 => ⟨wipe_ext (fun j hj => f4 j (hsl j hj)) l4, ?_⟩
    refine ht H0 σ4 H3 ω' τ1 s4 t3 _ ?_
    rw [ef]
    intro H5 k5 t5
    have kk : Kp G H1 H5 := (kp.trans (.of sm)).trans k5
    have hp5 : H5 p = some (.lst acc) := k5 p _ (sm p _ hpl) nf
    have sb5 : Sb im H' H5 := (Sb.of sm).trans (k5.sb t3)
    cases b with
    | false =>
      simp only [Bool.false_eq_true, if_false] at el ⊢
      exact ⟨_, rfl, hlt, ω5, acc, accd, rest, kk, hp5, racc.up sb5, t5, el, eapp, by omega⟩
    | true =>
      simp only [if_true] at el ⊢
      obtain ⟨z, ω6, ee, el⟩ := bind_eq el
      have ee := nox_eq ee
      obtain ⟨rest', ω7, el2, er⟩ := bind_eq el
      cases er
      refine he H0 σ4 H5 ω5 τ1 (s4.step t3 k5) t5 _ ?_
      rw [ee]
      intro H6 k6 t6 v rv
      have hp6 : H6 p = some (.lst acc) := k6 p _ hp5 nf
      have sb6 : Sb im H' H6 := sb5.trans (k6.sb t5)
      have sbu : Sb im H6 (upd H6 p (.lst (acc ++ [v]))) := fun c u eb st => by
        have : c ≠ p := fun q => by subst q; rw [hp6] at eb; cases eb; exact st
        rw [upd_ne this]; exact eb
      refine ⟨acc, hp6, Nat.lt_of_lt_of_le (Nat.lt_of_le_of_lt hacc hlt) hlen, _, rfl, hlt, ω6, acc ++ [v], accd ++ [z], rest', fun c u eb nfc => ?_, upd_same, ((racc.up sb6).append (.one rv)).up sbu, G.keep t6 (fun c u f eb => ?_) sbu, el2, by rw [List.append_assoc]; exact eapp, by rw [List.length_append, List.length_singleton]; omega⟩
      · have : c ≠ p := fun q => by subst q; rw [hp] at eb; cases eb
        rw [upd_ne this]; exact k6 c u (kk c u eb nfc) nfc
      · have : c ≠ p := fun q => nf (q ▸ f)
        rw [upd_ne this]; exact eb
  · refine .inl ⟨(y i H' sb1 kp).2 (by omega), ?_⟩
    have e1 : ds.drop i = [] := List.drop_eq_nil_of_le (by omega)
    rw [e1] at el
    unfold lcL at el
    cases el
    rw [List.append_nil] at eapp
    subst eapp
    exact h1 H' (k1.trans kp) t2 p acc hp0 hpl racc
end
section
variable {Ω : Type} {τ : Tau} {ω : Ω}
theorem wp_oIt {i : Nat} {xs : List D} {P : List D → Ω → Prop} {X} (e : τ[i]? = some (some (.ow .L xs))) : (oIt i τ ω).wp P X = P xs ω := by
  unfold oIt; rw [e]; with_unfolding_all rfl
end
end DL
namespace DL
open PySem PySem.Spec PyProof.Rows L2
def rAddN (K : PySem.W.Frag) (im : Addr → Bool) : R2 := fun x y H Q => ∃ a b vs ws ds es, x = .ref a ∧ y = .ref b ∧ SqZ H a vs ∧ SqZ H b ws ∧ RepL K im H vs ds ∧ RepL K im H ws es ∧ ds.length + es.length ≤ sizeLine ∧ ∀ p, H p = none → Q (.ref p) (upd H p (.lst (vs ++ ws)))
def eAddL {Ω : Type} (a b : E Ω D) : E Ω (List D) := fun τ ω => (a τ ω).bind fun x ω1 => (b τ ω1).bind fun y ω2 => match x, y with
  | .lst xs, .lst ys => if xs.length + ys.length ≤ sizeLine then .ok (xs ++ ys) ω2 else .no
  | _, _ => .no
section
variable {X : Cx} {im : Addr → Bool}
theorem op_addLL : OpR X (binaryOp .Add) (rAddN X.K im) := by
  intro pins s σ H x y v u Q I rx ry h
  obtain ⟨a, b, vs, ws, ds, es, rfl, rfl, h1, h3, h2, h4, hl, q⟩ := h
  have l1 := h2.length
  have l2 := h4.length
  cases rx
  cases ry
  obtain ⟨z, its, n, r, hl1, e⟩ := Inv.zlst I h1
  obtain ⟨z2, its2, n2, r2, hl2, e2⟩ := Inv.zlst I h3
  have room : its.toArray.size + its2.toArray.size ≤ sizeLine := by simp only [List.size_toArray]; omega
  have joined : its.toArray ++ its2.toArray = List.toArray (its ++ its2) := List.append_toArray its its2
  refine PySem.P.add_list e e2 (?_ : _) room
  rw [joined]
  exact ⟨.ref _, _, Inv.lnew (t' := s.toks) I (r.append r2) (by rw [List.length_append]; omega), rfl, q _ (Inv.fresh I)⟩
end
section
variable {im : Addr → Bool} {Ω : Type} {G : Gam im Ω} {K : PySem.W.Frag} {W : WX} {ta tb : TE} {Fa Fb : E Ω D}
theorem dl_add (ha : DE G K W ta Fa) (hb : DE G K W tb Fb) : DL G K W (tOp (rAddN K im) ta tb) (eAddL Fa Fb) := by
  intro H0 σ H ω τ s t Q h
  refine ha H0 σ H ω τ s t _ (Res.imp (Res.bind h) (fun x ω1 H1 k1 t1 h1 v r => ?_) fun _ _ _ _ _ q => q)
  refine hb H0 σ H1 ω1 τ (s.step t k1) t1 _ (Res.imp (Res.bind (h1.mono k1)) (fun y ω2 H2 k2 t2 h2 w r2 => ?_) fun _ _ _ _ _ q => q)
  have h3 := h2.mono k2
  cases r with
  | @lst a vs ds g1 g2 =>
    cases r2 with
    | @lst b ws es g3 g4 =>
      dsimp only at h3
      by_cases hl : ds.length + es.length ≤ sizeLine
      · rw [if_pos hl] at h3
        refine ⟨a, b, vs, ws, ds, es, rfl, rfl, (k2.sb t1).sqZ g1, g3, g2.up (k2.sb t1), g4, hl, fun p hp => ?_⟩
        have sm : Same H2 (upd H2 p (.lst (vs ++ ws))) := Same.new hp
        refine h3 _ (.of sm) (At.same t2 sm) p _ ?_ upd_same (((g2.up (k2.sb t1)).append g4).up (.of sm))
        cases e2 : H p with
        | none => rfl
        | some o =>
          by_cases f : G.FP p
          · exact absurd hp (G.trk t2 p f)
          · have := k2 p o (k1 p o e2 f) f; rw [hp] at this; cases this
      · rw [if_neg hl] at h3; exact h3.elim
    | _ => exact h3.elim
  | _ => exact h3.elim
end
section
variable {Ω : Type} {τ : Tau} {ω : Ω}
theorem wp_eAddL {a b : E Ω D} {P : List D → Ω → Prop} {X} : (eAddL a b τ ω).wp P X = (a τ ω).wp (fun x ω1 => (b τ ω1).wp (fun y ω2 => ∃ xs ys, x = .lst xs ∧ y = .lst ys ∧ xs.length + ys.length ≤ sizeLine ∧ P (xs ++ ys) ω2) X) X := by
  unfold eAddL; rw [wp_bind]; congr; funext x ω1; rw [wp_bind]; congr; funext y ω2
  have no : ∀ {x y : D}, (∀ xs ys, x = .lst xs → y = .lst ys → False) → (R.no : R Ω (List D)).wp P X = ∃ xs ys, x = .lst xs ∧ y = .lst ys ∧ xs.length + ys.length ≤ sizeLine ∧ P (xs ++ ys) ω2 := fun hn =>
    propext ⟨fun h => by with_unfolding_all exact h.elim, fun ⟨xs, ys, h1, h2, _⟩ => (hn xs ys h1 h2).elim⟩
  cases x with
  | lst xs =>
    cases y with
    | lst ys =>
      dsimp only
      by_cases h : xs.length + ys.length ≤ sizeLine
      · rw [if_pos h, wp_ok]
        exact propext ⟨fun p => ⟨xs, ys, rfl, rfl, h, p⟩, fun ⟨_, _, h1, h2, _, p⟩ => by cases h1; cases h2; exact p⟩
      · rw [if_neg h]
        exact propext ⟨fun h => by with_unfolding_all exact h.elim, fun ⟨_, _, h1, h2, h3, _⟩ => by cases h1; cases h2; exact (h h3).elim⟩
    | _ => exact no fun _ _ _ h => by cases h
  | _ => exact no fun _ _ h _ => by cases h
end
end DL
namespace DL
open PySem PySem.Spec PyProof.Rows L2
end DL
namespace DL
open PySem PySem.Spec PyProof.Rows L2
end DL
namespace DL
open PySem PySem.Spec PyProof.Rows L2
end DL
namespace DL
open PySem PySem.Spec PyProof.Rows L2
end DL
namespace DL
open PySem PySem.Spec PyProof.Rows L2
end DL
namespace DL
open PySem PySem.Spec PyProof.Rows L2
end DL
namespace DL
open PySem PySem.Spec PyProof.Rows L2
end DL
namespace DL
open PySem PySem.Spec PyProof.Rows L2
end DL
namespace DL
open PySem PySem.Spec PyProof.Rows L2
end DL
namespace DL
open PySem PySem.Spec PyProof.Rows L2
end DL
namespace DL
open PySem PySem.Spec PyProof.Rows L2
end DL
namespace DL
open PySem PySem.Spec PyProof.Rows L2
end DL
namespace DL
open PySem PySem.Spec PyProof.Rows L2
def keyPz : Key → PyData
  | .inl i => .int i
  | .inr x => .str x
mutual
def D.pz : D → Option PyData
  | .non => some .none
  | .bl b => some (.bool b)
  | .int i => some (.int i)
  | .str x => some (.str x)
  | .tup ds => (D.pzL ds).map .tuple
  | .lst _ => none
  | .dic ks ds => (D.pzL ds).map fun ps => .dict ((ks.map keyPz).zip ps)
  | .dit _ _ => none
  | .ins _ _ => none
def D.pzL : List D → Option (List PyData)
  | [] => some []
  | d :: r => match D.pz d, D.pzL r with
    | some x, some y => some (x :: y)
    | _, _ => none
end
theorem key_reads {prog : Program} {w : World} (h : Heap) (k : Key) (u : Value) (e : (mixKind prog w).is k u = true) : Reads h u (keyPz k) [] := by
  rcases keyIs_shape e with ⟨i, t, rfl, rfl⟩ | ⟨x, t, rfl, rfl⟩
  · exact .int i t
  · exact .str x t
theorem keys_read {prog : Program} {w : World} (h : Heap) : ∀ {es : List DictEntry} {kvs : List (Key × Value)}, Pairs (mixKind prog w) es kvs → ReadsAll h (es.map (·.key)) ((kvs.map (·.1)).map keyPz) []
  | _, _, .nil => .nil
  | _, _, .cons (e := e) (kv := kv) h1 _ t => by
    have := ReadsAll.cons (key_reads (prog := prog) (w := w) h kv.1 e.key h1) (keys_read h t)
    exact this
theorem vals_eq {prog : Program} {w : World} : ∀ {es : List DictEntry} {kvs : List (Key × Value)}, Pairs (mixKind prog w) es kvs → es.map (·.val) = kvs.map (·.2)
  | _, _, .nil => rfl
  | _, _, .cons _ h2 t => by rw [List.map_cons, List.map_cons, h2, vals_eq t]
theorem kv_keys : ∀ {kvs : List (Key × V)} {ps : List (Key × Value)}, KV kvs ps → kvs.map (·.1) = ps.map (·.1)
  | _, _, .nil => rfl
  | _, _, .cons h t => by rw [List.map_cons, List.map_cons, h.1, kv_keys t]
theorem kv_vals : ∀ {kvs : List (Key × V)} {ps : List (Key × Value)}, KV kvs ps → Vals (kvs.map (·.2)) (ps.map (·.2))
  | _, _, .nil => .nil
  | _, _, .cons h t => .cons h.2 (kv_vals t)
theorem pzL_len : ∀ {ds : List D} {ps : List PyData}, D.pzL ds = some ps → ps.length = ds.length
  | [], ps, e => by simp [D.pzL] at e; subst e; rfl
  | d :: ds, ps, e => by
    cases q1 : D.pz d with
    | none => simp [D.pzL, q1] at e
    | some p =>
      cases q2 : D.pzL ds with
      | none => simp [D.pzL, q1, q2] at e
      | some ps' =>
        simp [D.pzL, q1, q2] at e
        subst e
        rw [List.length_cons, List.length_cons, pzL_len q2]
section
variable {X : Cx} {im : Addr → Bool} {pins : List (Addr × Obj)} {s : Shared} {σ : L2.St} {H : Hp}
mutual
theorem Rep.readsZ (I : Inv X pins σ H s) : ∀ (d : D) (v : V) (u : Value) (p : PyData), Rep X.K im H v d → RelV v u → d.pz = some p → ∃ as, Reads s.heap u p as ∧ sysModules ∉ as
  | .non, _, _, _, h, r, e => by cases h; cases r; simp [D.pz] at e; subst e; exact ⟨_, .none, by simp⟩
  | .bl b, _, _, _, h, r, e => by cases h; cases r; simp [D.pz] at e; subst e; exact ⟨_, .bool b, by simp⟩
  | .int b, _, _, _, h, r, e => by cases h; obtain ⟨t, rfl⟩ := r; simp [D.pz] at e; subst e; exact ⟨_, .int b t, by simp⟩
  | .str b, _, _, _, h, r, e => by cases h; obtain ⟨t, rfl⟩ := r; simp [D.pz] at e; subst e; exact ⟨_, .str b t, by simp⟩
  | .tup ds, _, _, _, h, r, e => by
    cases h with
    | @tup a vs ds h1 h2 =>
      cases r
      cases q : D.pzL ds with
      | none => simp [D.pz, q] at e
      | some ps =>
        simp [D.pz, q] at e
        subst e
        obtain ⟨its, rv, ⟨o, ho, hc, n, hd⟩, _⟩ := I.tuple h1.q
        obtain ⟨as, ra, na⟩ := RepL.readsZ I ds vs its ps h2 rv q
        exact ⟨as, .tuple ho hc hd ra, na⟩
  | .lst ds, _, _, _, _, _, e => by simp [D.pz] at e
  | .dic ks ds, _, _, _, h, r, e => by
    cases h with
    | @dic a o ks vs ds h1 h2 h3 =>
      cases r
      cases q : D.pzL ds with
      | none => simp [D.pz, q] at e
      | some ps =>
        simp [D.pz, q] at e
        subst e
        obtain ⟨g1, g2, g3, es, ep, ws, g4, g5, kv, o2, es2, a1, a2, a3, a4, a5, a6⟩ := I.frzK h1
        rw [g2] at a1
        cases a1
        rw [g4] at a3
        cases a3
        have k1 := kv_keys kv
        have k2 := kv_vals kv
        rw [List.map_fst_zip (by omega)] at k1
        rw [List.map_snd_zip (by omega)] at k2
        have r1 := keys_read (prog := X.prog) (w := X.w) s.heap a5
        rw [← k1] at r1
        have ev := vals_eq a5
        obtain ⟨bs, r2, nb⟩ := RepL.readsZ I ds vs _ ps h3 k2 q
        have hl := h3.length
        have hl2 := pzL_len q
        refine ⟨a :: [] ++ bs, .dict (kvs := (ks.map keyPz).zip ps) g2 g3.1 g4 ?_ ?_, ?_⟩
        · rw [List.map_fst_zip (by rw [List.length_map]; omega)]; exact r1
        · rw [List.map_snd_zip (by rw [List.length_map]; omega), ev]; exact r2
        · intro hm
          rcases List.mem_cons.mp hm with z | z
          · rw [z] at g1; simp at g1
          · exact nb z
  | .dit _ _, _, _, _, _, _, e => by simp [D.pz] at e
  | .ins _ _, _, _, _, _, _, e => by simp [D.pz] at e
theorem RepL.readsZ (I : Inv X pins σ H s) : ∀ (ds : List D) (vs : List V) (us : List Value) (ps : List PyData), RepL X.K im H vs ds → Vals vs us → D.pzL ds = some ps → ∃ as, ReadsAll s.heap us ps as ∧ sysModules ∉ as
  | [], _, _, _, h, r, e => by cases h; cases r; simp [D.pzL] at e; subst e; exact ⟨_, .nil, by simp⟩
  | d :: ds, _, _, _, h, r, e => by
    cases h with
    | cons h1 h2 =>
      cases r with
      | cons r1 r2 =>
        cases q1 : D.pz d with
        | none => simp [D.pzL, q1] at e
        | some p =>
          cases q2 : D.pzL ds with
          | none => simp [D.pzL, q1, q2] at e
          | some ps =>
            simp [D.pzL, q1, q2] at e
            subst e
            obtain ⟨as, x1, x2⟩ := Rep.readsZ I d _ _ p h1 r1 q1
            obtain ⟨bs, y1, y2⟩ := RepL.readsZ I ds _ _ ps h2 r2 q2
            exact ⟨as ++ bs, .cons x1 y1, fun hm => (List.mem_append.mp hm).elim x2 y2⟩
end
/-- repr, also of things with dicts in them -/
def reprZ (d : D) : Option D := match reprD d with
  | some z => some z
  | none => match d with
    | .tup ds => match (D.tup ds).pz with
      | some p => if p.showable = true ∧ p.depth ≤ 150 ∧ p.shown.length ≤ sizeLine then some (.str p.shown) else none
      | none => none
    | .dic ks ds => match (D.dic ks ds).pz with
      | some p => if p.showable = true ∧ p.depth ≤ 150 ∧ p.shown.length ≤ sizeLine then some (.str p.shown) else none
      | none => none
    | _ => none
theorem reprZ_of {d z : D} (h : reprD d = some z) : reprZ d = some z := by unfold reprZ; rw [h]
theorem reprZ_run {Q : VK} {v : V} {d : D} {p : PyData} {a : Addr} (hu : X.A.units + 200 < cLine) (gu : X.A.guards = some []) (I : Inv X pins σ H s) (rx : RelV v (.ref a)) (hd : Rep X.K im H v d) (e : d.pz = some p)
    (h : p.showable = true ∧ p.depth ≤ 150 ∧ p.shown.length ≤ sizeLine) (q : Q (.str p.shown) H) : wpAny (model X.prog X.w) X.A (call (.builtin "repr") [.ref a]) (EP X pins σ Q) X.xe s := by
  obtain ⟨as, r, na⟩ := Rep.readsZ I d v (.ref a) p hd rx e
  exact repr_of_reads' r h.1 (fun _ => na) gu (by omega) (fun _ _ e => e) (fun h' u tk more => ⟨.str _, H, I.kept more, ⟨u, rfl⟩, q⟩) h.2.2
end
section
variable {X : Cx} {im : Addr → Bool}
theorem call_reprZZ (hu : X.A.units + 200 < cLine) (gu : X.A.guards = some []) : CallR X (.builtin "repr") (rDN X.K im (un1 reprZ)) := by
  intro pins s σ H xs us Q I r h
  obtain ⟨ds, z, hd, hz, q⟩ := h
  obtain ⟨v, d, rfl, hd1, hz1⟩ := un1_ok hd hz
  cases e0 : reprD d with
  | some z' =>
    have : z' = z := by
      have := reprZ_of e0
      rw [this] at hz1
      exact Option.some.inj hz1
    subst this
    exact call_reprDD (im := im) hu gu pins s σ H _ us Q I r ⟨[d], z', .cons hd1 .nil, e0, q⟩
  | none =>
    unfold reprZ at hz1
    rw [e0] at hz1
    dsimp only at hz1
    obtain ⟨u, rfl, rx⟩ := vals1 r
    cases hd1 with
    | @tup a vs ds h1 h2 =>
      cases rx
      dsimp only at hz1
      cases e : (D.tup ds).pz with
      | none => rw [e] at hz1; cases hz1
      | some p =>
        rw [e] at hz1
        dsimp only at hz1
        split at hz1
        · rename_i c
          cases hz1
          exact reprZ_run (v := V.ref a) hu gu I (show RelV (V.ref a) (.ref a) from rfl) (.tup h1 h2) e c (q _ _ (Same.refl _) (.str _))
        · cases hz1
    | @dic a o ks vs ds h1 h2 h3 =>
      cases rx
      dsimp only at hz1
      cases e : (D.dic ks ds).pz with
      | none => rw [e] at hz1; cases hz1
      | some p =>
        rw [e] at hz1
        dsimp only at hz1
        split at hz1
        · rename_i c
          cases hz1
          exact reprZ_run (v := V.ref a) hu gu I (show RelV (V.ref a) (.ref a) from rfl) (.dic h1 h2 h3) e c (q _ _ (Same.refl _) (.str _))
        · cases hz1
    | _ => cases hz1
end
end DL
namespace DL
open PySem PySem.Spec PyProof.Rows L2
end DL
namespace DL
open PySem PySem.Spec PyProof.Rows L2
end DL
namespace DL
open PySem PySem.Spec PyProof.Rows L2
end DL
namespace DL
open PySem PySem.Spec PyProof.Rows L2
end DL
namespace DL
open PySem PySem.Spec PyProof.Rows L2
end DL
namespace DL
open PySem PySem.Spec PyProof.Rows L2
section
open PySem.SeqAt
open AutoSeq1 (wpAny_loadPart')
open MeetsSeq MeetsSeq2 MeetsSeq3
theorem sub_tuple_dict : isSubtype (.type "tuple") (.type "dict") = pure false := by rw [isSubtype_type]; kernel_rfl
theorem sub_dict_tuple : isSubtype (.type "dict") (.type "tuple") = pure false := by rw [isSubtype_type]; kernel_rfl
end
end DL
namespace DL
open PySem PySem.Spec PyProof.Rows L2
section
variable {im : Addr → Bool} {Ω : Type} (G : Gam im Ω) (K : PySem.W.Frag)
def KSP (H0 H : Hp) (D' : Ends) : Option ((List D × D) × Ω) → Prop
  | none => False
  | some ((ds, d), ω) => ∀ q a vs w H', Sb im H H' → Kp G H0 H' → G.At ω H' → H0 a = none → ¬ G.FP a → H' a = some (.lst vs) → RepL K im H' vs ds → Rep K im H' w d → SqT K H' q [.ref a, w] → D'.rt (.ref q) H'
variable {G} {K}
theorem KSP.mono {H0 H H1 : Hp} {D' : Ends} {r : Option ((List D × D) × Ω)} (h : KSP G K H0 H D' r) (s : Sb im H H1) : KSP G K H0 H1 D' r := by
  rcases r with _ | ⟨⟨ds, d⟩, ω⟩
  · exact h
  · exact fun q a vs w H' sb => h q a vs w H' (s.trans sb)
end
end DL
namespace DL
open PySem PySem.Spec PyProof.Rows L2
end DL
namespace DL
open PySem PySem.Spec PyProof.Rows L2
end DL
namespace DL
open PySem PySem.Spec PyProof.Rows L2
inductive OwnAll (F : List D → R Unit D) : List D → List D → Prop
  | nil : OwnAll F [] []
  | cons {fs gs fs' gs' ds es u} : F [.ins fs gs, .ins fs' gs'] = .ok (.bl true) u → OwnAll F ds es → OwnAll F (.ins fs gs :: ds) (.ins fs' gs' :: es)
def ownAll (F : List D → R Unit D) : List D → List D → Bool
  | [], [] => true
  | .ins fs gs :: ds, .ins fs' gs' :: es => (match F [.ins fs gs, .ins fs' gs'] with | .ok (.bl true) _ => true | _ => false) && ownAll F ds es
  | _, _ => false
theorem OwnAll.of {F : List D → R Unit D} : ∀ {ds es : List D}, ownAll F ds es = true → OwnAll F ds es
  | [], [], _ => .nil
  | d :: ds, e :: es, h => by
    unfold ownAll at h
    split at h
    · rename_i h1 h2; cases h1
    · rename_i fs gs ds' fs' gs' es' h1 h2
      injection h1 with h1 h3
      injection h2 with h2 h4
      subst h1 h2 h3 h4
      rw [Bool.and_eq_true] at h
      obtain ⟨h5, h6⟩ := h
      split at h5
      · rename_i u q
        exact .cons q (OwnAll.of h6)
      · cases h5
    · cases h
  | [], e :: es, h => by unfold ownAll at h; cases h
  | d :: ds, [], h => by unfold ownAll at h; cases d <;> cases h
theorem OwnAll.at {F : List D → R Unit D} : ∀ {ds es : List D}, OwnAll F ds es → ∀ {j : Nat} {d e : D}, ds[j]? = some d → es[j]? = some e → ∃ fs gs fs' gs' u, d = .ins fs gs ∧ e = .ins fs' gs' ∧ F [d, e] = .ok (.bl true) u
  | _, _, .nil, j, d, e, h, _ => by simp at h
  | _, _, .cons h1 h2, 0, d, e, h, h' => by
    simp at h h'
    subst h h'
    exact ⟨_, _, _, _, _, rfl, rfl, h1⟩
  | _, _, .cons h1 h2, j + 1, d, e, h, h' => by
    simp at h h'
    exact h2.at h h'
theorem OwnAll.len {F : List D → R Unit D} : ∀ {ds es : List D}, OwnAll F ds es → ds.length = es.length
  | _, _, .nil => rfl
  | _, _, .cons _ h => by simp [h.len]
theorem exm_own {K : PySem.W.Frag} {C : Addr} (b : PySem.W.subIn K (.ref C) (.type "BaseException") = some true) (i : PySem.W.isClsIn K C = true) (t : PySem.W.typeIn K (.ref C) = some (.type "type")) (s : PySem.W.subIn K (.ref C) (.ref C) = some true) : PySem.W.exmOne K (.ref C) (.ref C) = some true := by
  unfold PySem.W.exmOne
  rw [b, if_pos (by kernel_rfl)]
  unfold PySem.W.kitCls
  have h3 : (PySem.W.clsIn K C).isSome = true := i
  dsimp only
  rw [t, h3, if_pos (by rw [Bool.true_and]; exact beq_self_eq_true _)]
  exact s
end DL
namespace DL
open PySem PySem.Spec PyProof.Rows L2
end DL
namespace DL
open PySem PySem.Spec PyProof.Rows L2 LamX
/-- all but one address stays -/
def ExP (P : Addr) (H H' : Hp) : Prop := ∀ b o, H b = some o → b ≠ P → H' b = some o
section
variable {X : Cx} {pins : List (Addr × Obj)} {σ : L2.St} {H : Hp} {s : Shared}
/-- what is known of a lambda just made -/
structure Made (X : Cx) (H1 : Hp) (s' : Shared) (nm : Str) (params : Arguments) (body : Expr) (scope : Scope) (f c' : Addr) (pm ctv : Value) : Prop where
  obj : s'.heap.get? f = some (PySem.W.kla_obj "<lambda>" nm params body scope (cloFrom X.env.cells scope.names []) pm c' ctv)
  un : H1 f = none
  off : f ∉ frs X.stack
  co : H1 c' = some (CodeO c' nm)
theorem lam_mk {c P : Addr} {nm : Str} {params : Arguments} {body : Expr} {scope : Scope} {pos : Pos} {E : Value → Shared → Prop} {Q : Value → Shared → Prop}
    (I : Inv X pins σ H s) (TB : TabB X.base X.mg c P) (hcode : X.env.code = .ref c) (en : X.env.qual ++ "<lambda>" = nm) (tab : TabS H P nm)
    (hdef : defaultsOf params X.env = ([], [])) (hfree : ∀ y ∈ scope.names, y.2 = .free → ∃ c, X.env.cells.lookup y.1 = some c)
    (k : ∀ (f c' : Addr) (pm ctv : Value) (H1 : Hp) (s' : Shared), Inv X pins σ H1 s' → ExP P H H1 → TabS H1 P nm → Made X H1 s' nm params body scope f c' pm ctv → Q (.ref f) s') :
    wpAny (model X.prog X.w) X.A (eval (.Lambda params body scope pos) X.env) Q E s := by
  subst en
  obtain ⟨row, inT, trip, named⟩ := tab
  have real : s.heap.get? P = some { cls := .none, data := .fields row } := I.hok P _ inT
  have blt : s.heap.BuiltinsAt X.mg P := TB.bm.keeps I.bk
  have high : ∀ f, s.heap.objs.size ≤ f → f ∉ frs X.stack := by
    intro f hf z
    rcases List.mem_cons.mp (I.stkSub _ z) with e | e
    · exact absurd (e ▸ I.lt) (Nat.not_lt.mpr hf)
    · exact I.nofs hf e
  apply PySem.W.kla_eval hdef
  cases found : codeAmong pos row.toList with
  | some cv =>
    obtain ⟨c', rfl, known⟩ := named pos cv found
    apply PySem.W.kla_makeFunctionHit (mg := X.mg) (c := c) (P := P) (ps := row) (closure_ok hfree) I.ok.glob (I.mod.glob.keeps I.bk) hcode (TB.code.keeps I.bk) real trip found blt
    intro ctv h' tk grown size
    refine k h'.objs.size c' ((X.mg "__name__").getD .none) ctv H _ (I.kept fun b o e => Heap.get?_push_of_some _ (grown b o e)) (fun b o e _ => e) ⟨row, inT, trip, named⟩ ⟨Heap.get?_push_size _ rfl, ?_, high _ size, known⟩
    exact I.hok.fresh size
  | none =>
    apply PySem.W.kla_makeFunction (mg := X.mg) (c := c) (P := P) (ps := row) (closure_ok hfree) I.ok.glob (I.mod.glob.keeps I.bk) hcode (TB.code.keeps I.bk) real trip found TB.gP blt
    intro c' ctv h' tk grown ge lt rec there
    obtain ⟨_, oc, flds, tq, z, isC, dat, nam⟩ := rec
    cases z
    have size : s.heap.objs.size ≤ h'.objs.size := Nat.le_trans ge (Nat.le_of_lt lt)
    have free : H c' = none := I.hok.fresh ge
    have PC : P ≠ c' := ne_of_none inT free
    let fo := PySem.W.kla_obj "<lambda>" (X.env.qual ++ "<lambda>") params body scope (cloFrom X.env.cells scope.names []) ((X.mg "__name__").getD .none) c' ctv
    have J := inv_table (t' := tk) (more := #[rawInt pos.line, rawInt pos.col, .ref c']) (h' := h'.push fo) I inT
      (fun b o ne e => Heap.get?_push_of_some _ (grown b o ne e)) (Heap.get?_push_of_some _ there) ge ⟨oc, flds, tq, Heap.get?_push_of_some _ isC, dat, nam⟩
    generalize hNew : row ++ #[rawInt pos.line, rawInt pos.col, .ref c'] = row2 at J
    have list2 : row2.toList = row.toList ++ [rawInt pos.line, rawInt pos.col, .ref c'] := by rw [← hNew]; simp
    have ext : ExP P H (upd (upd H P (.tbl row2)) c' (CodeO c' (X.env.qual ++ "<lambda>"))) := by
      intro b o e ne
      have ne2 : b ≠ c' := fun z => by rw [z, free] at e; cases e
      rw [upd_ne ne2, upd_ne ne]
      exact e
    have hid : upd (upd H P (.tbl row2)) c' (CodeO c' (X.env.qual ++ "<lambda>")) h'.objs.size = none := by
      have n1 : h'.objs.size ≠ c' := Nat.ne_of_gt lt
      have n2 : h'.objs.size ≠ P := Nat.ne_of_gt (Nat.lt_of_lt_of_le (Heap.lt_size real) size)
      rw [upd_ne n1, upd_ne n2]
      exact I.hok.fresh size
    refine k h'.objs.size c' ((X.mg "__name__").getD .none) ctv _ _ J ext ⟨row2, ?_, ?_, ?_⟩ ⟨Heap.get?_push_size _ rfl, hid, high _ size, upd_same⟩
    · rw [upd_ne PC, upd_same]
    · rw [list2]
      exact PySem.TriplesOk_snoc _ _ _ _ trip
    · intro p' cv hcv
      rw [list2] at hcv
      rcases among_app _ trip hcv with z | z
      · obtain ⟨c0, z1, z2⟩ := named p' cv z
        have n0 : c0 ≠ P := fun w => by
          rw [w, inT] at z2
          unfold CodeO at z2
          cases z2
        exact ⟨c0, z1, ext _ _ z2 n0⟩
      · exact ⟨c', z, upd_same⟩
end
section
variable {X : Cx} {pins : List (Addr × Obj)} {σ : L2.St} {H : Hp} {s : Shared}
/-- what a call of the lambda asks: where it lies, its code, what its body asks -/
def tAct (i : Nat) (f c' : Addr) (nm : Str) (W : WX) (tl : XK → Hp → VK → Prop) : TE := fun σZ HZ Q => σZ[i]? = some (some (.ref f)) ∧ HZ c' = some (CodeO c' nm) ∧ tl (WE W σZ) HZ Q
theorem pe_do {Eg : XK} {Ng : List Str} {qg nm : Str} {sg scope : Scope} {g f c' : Addr} {cdg pm ctv : Value} {params : Arguments} {body : Expr} {k i : Nat} {a : Str} {pn : List (Addr × Obj)} {xe : Value → Shared → Prop} {W : WX} {tb : XK → TE} {p1 p2 : Pos}
    (I : Inv X pins σ H s) (L : LamS X.env.scope scope) (en : X.env.qual ++ "<lambda>" = nm) (M : Made X H s nm params body scope f c' pm ctv)
    (hbind : bindArgs (PySem.W.kla_fn "<lambda>" nm params body scope (cloFrom X.env.cells scope.names []) pm (.ref c') ctv) ⟨[], []⟩ = pure [])
    (tk : Takes ((cxOf CX0 X.prog X.w X.K X.mg X.base Ng qg sg g cdg X.A X.stack s H Eg).tr pn xe) W) (hr : Room (k + 1) (X.A.deeper (envOfC qg sg s.heap.objs.size g cdg)))
    (hbody : ∀ (A : Around) (outer : List Env) (s : Shared) (H : Hp) (E : XK), Room k (A.deeper (lamEnv X scope s.heap.objs.size f c')) → PE (lamCx X A outer s H E scope f c') body (tb E))
    (hN : Ng[i]? = some a) (hv : Vis sg a) (hd : (a == ("__debug__" : Str)) = false := by decide) (hcd : (a == ("__classdict__" : Str)) = false := by decide) :
    PE ((cxOf CX0 X.prog X.w X.K X.mg X.base Ng qg sg g cdg X.A X.stack s H Eg).tr pn xe) (.Call (.Name a p1) [] [] p2) (tAct i f c' nm W fun E H' Q' => tb E σ H' Q') := by
  subst en
  constructor
  rintro pinsZ sZ σZ HZ Q IZ ⟨slot, hco, told⟩
  apply wpAny_Call_Name_kw
  have rv := (pe_var (X := (cxOf CX0 X.prog X.w X.K X.mg X.base Ng qg sg g cdg X.A X.stack s H Eg).tr pn xe) (pos := p1) (i := i) hN hv hd hcd).run pinsZ sZ σZ HZ (fun v H1 => v = .ref f ∧ H1 = HZ) IZ ⟨.ref f, slot, rfl, rfl⟩
  refine thn rv ?_
  rintro u s1 ⟨_, HY, J1, rel, rfl, eH⟩
  rw [eH] at J1
  cases rel
  have lam : s1.heap.get? f = some (PySem.W.kla_obj "<lambda>" (X.env.qual ++ "<lambda>") params body scope (cloFrom X.env.cells scope.names []) pm c' ctv) :=
    J1.base.keep f _ M.obj M.un M.off (fun z => nomatch (show f ∈ ([] : List Addr) from z))
  apply PySem.W.callWith_F0 ⟨_, _, _, _, lam⟩
  have grown : Un (frs X.stack) [] H _ s.heap s1.heap := J1.base
  have hOut := L2.passAt tk σZ
  obtain ⟨⟨oc, flds, tq, at1, at2, at3⟩, _⟩ := J1.hok c' _ hco
  refine wpAny_call (codeAny_mono (R := CR (L2.CX X.prog X.w) (envOfC qg sg s.heap.objs.size g cdg :: X.stack) X.prog X.w HZ s1 Q (WE W σZ)) ?_ ?_)
  · apply PySem.W.kla_callFunE hr.depth lam rfl L.co L.gen rfl ⟨c', oc, flds, tq, rfl, at1, at2, at3⟩
    have hb2 : bindArgs (PySem.W.kla_fn "<lambda>" (X.env.qual ++ "<lambda>") params body scope (cloFrom X.env.cells scope.names []) pm (.ref c') ctv) ⟨[] ++ [], []⟩ = pure [] := hbind
    rw [hb2]
    apply wpAny_pure
    apply wpAny_newFunctionEnv (fun y hy => (L.own y hy).2) (fun y hy => absurd hy (by simp)) _ L.kind
    intro h₁ space fresh
    refine ⟨J1.nolimit.fresh _ fresh, ?_⟩
    show codeAny _ _ (.expr body (lamEnv X scope s1.heap.objs.size f c')) _ _
    have keep1 : ∀ b o, s1.heap.get? b = some o → h₁.get? b = some o := fun b o e => fresh.extBut b o (Nat.ne_of_lt (Heap.lt_size e)) (Heap.get?_push_of_some _ e)
    have JL := lam_start2 (E := WE W σZ) (f := f) (c' := c') (h₁ := h₁) (tk := s1.toks + ([] : List (Str × Value)).length) I L J1.env0 hr.hd grown space keep1
    apply PySem.W.kla_codeExpr
    refine wpAny_mono ((hbody _ _ s1 HZ (WE W σZ) (hr.deeper _)).run [] _ _ _ Q JL told) ?_ fun _ _ z => z
    rintro v s' ⟨w', H', J', rv', q⟩
    exact ⟨w', H', J'.os, J'.bare, J'.base, J'.hok, rv', q⟩
  · intro r s' out
    match r, out with
    | .error e, out => exact hOut pinsZ _ s1 e s' J1 out
    | .ok (.ret u), out => exact J1.after out
    | .ok .next, out => exact out.elim
    | .ok .brk, out => exact out.elim
    | .ok .cont, out => exact out.elim
end
section
variable {im : Addr → Bool} {Ω : Type} {K : PySem.W.Frag}
/-- G as a part of G' -/
structure SubG (G G' : Gam im Ω) : Prop where
  obj : G'.obj = G.obj
  down : ∀ {ω H}, G'.At ω H → G.At ω H
  up : ∀ {ω ω' H H'}, G'.At ω H → Kp G H H' → G.At ω' H' → G'.At ω' H'
  fp : ∀ {b}, G.FP b → G'.FP b
theorem SubG.kp {G G' : Gam im Ω} (S : SubG G G') {H H' : Hp} (k : Kp G H H') : Kp G' H H' := fun b o e n => k b o e fun f => n (S.fp f)
/-- a call of a def that is handed a part of what may be changed here -/
theorem dc_WS {Pp : Type} {Γ : Pp → Gam im Ω} {p : Pp} {G : Gam im Ω} {W : WX} {n m i : Nat} {F : List D → Ω → R Ω D} {tr : TA} {Fr : E Ω (List D)} (S : SubG (Γ p) G) (hr : DA G K W tr Fr) (hn : AN Fr m) (hm : m + 1 = n := by rfl) :
    DE G K W (tCall (spW K Γ n 0 F) [] E0 (tCons (tVar i) tr)) (cW F i Fr) := by
  intro H0 σ H ω τ s t Q h
  unfold cW at h
  split at h
  · rename_i hx
    refine ⟨_, s.getS hx, ?_⟩
    have hr' := hr H0 σ H ω τ s t
    cases e0 : Fr τ ω with
    | no => rw [e0] at h; exact h.elim
    | ex x ω1 => rw [e0] at h hr'; exact hr' _ h
    | ok xs ω1 =>
      have hl := hn τ ω xs ω1 e0
      rw [e0] at h hr'
      refine hr' _ fun H1 k1 t1 vs r => ?_
      have h1 : Res G (nox (F xs ω1)) H (kD G K Q) (kX G K W σ) := h
      refine ⟨by rw [List.append_nil, List.length_cons, r.length, hl, hm], p, ω1, vs, xs, by rw [List.append_nil, S.obj] <;> rfl, S.down t1, r, ?_⟩
      cases e : F xs ω1 with
      | no => rw [e] at h1; exact h1.elim
      | ex x ω2 => rw [e] at h1; exact h1.elim
      | ok d ω2 =>
        rw [e] at h1
        exact fun H' k t' v rv => h1 H' (k1.trans (S.kp k)) (S.up t1 k t') v rv
  · exact h.elim
/-- the table as a part of the state -/
theorem tabS_keep {H H' : Hp} {P : Addr} {nm : Str} (t : TabS H P nm) (hP : ∀ o, H P = some o → H' P = some o) (sb : Sb im H H') : TabS H' P nm := by
  obtain ⟨ps, h1, h2, h3⟩ := t
  refine ⟨ps, hP _ h1, h2, fun pos cv hc => ?_⟩
  obtain ⟨c, e1, e2⟩ := h3 pos cv hc
  exact ⟨c, e1, sb _ _ e2 (by unfold CodeO; trivial)⟩
/-- the drawn numbers' source, and the table of the law's own code objects -/
def srcT (im : Addr → Bool) (P : Addr) (nm : Str) (p : Addr × Addr) : Gam im Src where
  At := fun ω H => (srcG im p).At ω H ∧ TabS H P nm
  FP := fun b => (srcG im p).FP b ∨ b = P
  obj := .ref p.1
  keep := fun ⟨h1, h2⟩ k sb => ⟨(srcG im p).keep h1 (fun b o f e => k b o (.inl f) e) sb, tabS_keep h2 (fun o e => k _ o (.inr rfl) e) sb⟩
  nost := fun ⟨h1, h2⟩ b o f e s => by
    rcases f with f | rfl
    · exact (srcG im p).nost h1 b o f e s
    · obtain ⟨ps, q, _⟩ := h2
      rw [q] at e
      cases e
      exact s
  trk := fun ⟨h1, h2⟩ b f e => by
    rcases f with f | rfl
    · exact (srcG im p).trk h1 b f e
    · obtain ⟨ps, q, _⟩ := h2
      rw [q] at e
      cases e
theorem sub_srcT {P : Addr} {nm : Str} {p : Addr × Addr} : SubG (srcG im p) (srcT im P nm p) where
  obj := rfl
  down := fun h => h.1
  up := fun {ω ω' H H'} h k t => by
    refine ⟨t, tabS_keep h.2 (fun o e => k _ o e fun f => ?_) (k.sb h.1)⟩
    obtain ⟨ps, q, _⟩ := h.2
    obtain ⟨a, b⟩ := h.1
    rcases f with f | f
    · rw [f, a] at q; cases q
    · rw [f, b] at q; cases q
  fp := .inl
/-- the state in a def that was handed the lambda at f, entered at H1 -/
def lamG (G : Gam im Ω) (f c' : Addr) (nm : Str) (H1 : Hp) : Gam im Ω where
  At := fun ω H => G.At ω H ∧ H c' = some (CodeO c' nm) ∧ Kp G H1 H
  FP := fun b => G.FP b ∨ ∃ o, H1 b = some o ∧ ¬ stb im o
  obj := .ref f
  keep := fun {ω H H'} ⟨h1, h2, h3⟩ k sb => by
    refine ⟨G.keep h1 (fun b o f e => k b o (.inl f) e) sb, sb _ _ h2 (by unfold CodeO; trivial), fun b o e n => ?_⟩
    have e2 := h3 b o e n
    by_cases st : stb im o
    · exact sb b o e2 st
    · exact k b o (.inr ⟨o, e, st⟩) e2
  nost := fun {ω H} ⟨h1, _, h3⟩ b o f e s => by
    by_cases g : G.FP b
    · exact G.nost h1 b o g e s
    · rcases f with f | ⟨o', e', ns⟩
      · exact g f
      · have e2 := h3 b o' e' g
        rw [e] at e2
        cases e2
        exact ns s
  trk := fun {ω H} ⟨h1, _, h3⟩ b f e => by
    by_cases g : G.FP b
    · exact G.trk h1 b g e
    · rcases f with f | ⟨o', e', ns⟩
      · exact g f
      · rw [h3 b o' e' g] at e
        cases e
/-- a() -/
def eAct (r : Ω → R Ω D) : E Ω D := fun (τ : Tau) ω => match τ[0]? with
  | some (some Cell.src) => r ω
  | _ => .no
/-- all that a run over data asks for -/
def tSem {Pp : Type} (Γ : Pp → Gam im Ω) (K : PySem.W.Frag) (W : WX) (F : E Ω D) : TE := fun σ H Q => ∃ p H0 ω τ, STT (Γ p) K H0 H σ τ ∧ (Γ p).At ω H ∧ Res (Γ p) (F τ ω) H (kD (Γ p) K Q) (kX (Γ p) K W σ)
variable {Pp : Type} {Γ : Pp → Gam im Ω} {G : Gam im Ω} {W : WX} {cA P : Addr} {nm : Str} {t : TE} {Fb : E Ω D}
theorem de_sem {F : E Ω D} {p : Pp} : DE (Γ p) K W (tSem Γ K W F) F := fun H0 σ H ω τ s a Q h => ⟨p, H0, ω, τ, s, a, h⟩
theorem pe_sem {X : Cx} {e : Expr} {F : E Ω D} (p : PE X e t) (d : ∀ p, DE (Γ p) K W t F) : PE X e (tSem Γ K W F) := ⟨fun pins s σ H Q I h => by
  obtain ⟨q, H0, ω, τ, st, a, r⟩ := h
  exact p.run pins s σ H Q I (d q H0 σ H ω τ st a Q r)⟩
/-- x(lambda: body) -/
def cLam (n : Nat) (Fd : (Ω → R Ω D) → S Ω) (Fb : E Ω D) : E Ω D := fun τ ω => nox (runS (Fd (Fb τ)) (startT n [.src]) ω)
/-- how a Gam holds the table of the maker's code objects -/
structure HasT (G : Gam im Ω) (P : Addr) (nm : Str) : Prop where
  tab : ∀ {ω H}, G.At ω H → TabS H P nm
  ext : ∀ {ω H H1}, G.At ω H → ExP P H H1 → TabS H1 P nm → G.At ω H1
  fp : G.FP P
theorem srcT_ext {p : Addr × Addr} {ω : Src} {H H1 : Hp} (a : (srcT im P nm p).At ω H) (ext : ExP P H H1) (t : TabS H1 P nm) : (srcT im P nm p).At ω H1 := by
  obtain ⟨⟨h1, h2⟩, ps, q, _⟩ := a
  refine ⟨⟨ext _ _ h1 fun z => ?_, ext _ _ h2 fun z => ?_⟩, t⟩
  · rw [z, q] at h1; cases h1
  · rw [z, q] at h2; cases h2
theorem srcT_has {p : Addr × Addr} : HasT (srcT im P nm p) P nm := ⟨fun a => a.2, fun a ext t => srcT_ext a ext t, .inr rfl⟩
end
end DL
namespace DL
open PySem PySem.Spec PyProof.Rows L2 LamX
section
variable {P : Program} {w : World} {K : PySem.W.Frag} {mg : Str → Option Value} {base : Heap} {k : Nat} {f : Addr} {fd : FuncData} {N ps : List Str} {sp : Sp} {x qual : Str} {st : Stmt}
/-- a def from its body, its code object known -/
theorem GOk.ofBodyC (Fn : Fun K x qual st f fd) (Sc : FnScope N ps (defScope st)) (ar : ∀ vs H Q Ex, sp vs H Q Ex → vs.length = ps.length)
    (body : ∀ (cdv : Value) (A : Around) (outer : List Env) (s : Shared) (H : Hp) (vs : List V) (Q : VK) (Ex : XK), fd.code = cdv → A.guards = some [] → Room k (A.deeper (envOfC qual (defScope st) s.heap.objs.size f cdv)) → sp vs H Q Ex →
      ∃ t, PSs (cxOf CX0 P w K mg base N qual (defScope st) f cdv A outer s H Ex).nox (defBody st) t ∧ t { nx := fun _ H' => Q .non H', rt := Q } (start N vs) H) :
    GOk P w K mg base (k + 1) f fd ps sp := by
  obtain ⟨oc, od, kV, doc, pm, an, cdv, ct, osl, rfl, found, code⟩ := Fn.ex
  constructor
  · exact ar
  · intro A outer s H args us vs Q Ex gu room env bound vals want
    have up : ∀ b o, base.get? b = some o → s.heap.get? b = some o := fun b o e => (env.bs b o e).1
    have inK : K.In s.heap := env.mod.kin.keeps up
    have slots : ∀ y ∈ ps.zip us, (defScope st).names.lookup y.1 = some .local ∨ ((defScope st).names.lookup y.1 = some .cell ∧ ((cellsFrom (s.heap.objs.size + 1) (defScope st).names []).lookup y.1).isSome = true) := by
      rintro ⟨n, u⟩ hy
      cases Sc.par n (List.of_mem_zip hy).1 with
      | inl c => exact .inl c
      | inr c => exact .inr ⟨c, PySem.W.cellsFrom_some _ _ _ (.inl c)⟩
    obtain ⟨t, tells, holds⟩ := body cdv A outer s H vs Q Ex rfl gu (room.deeper _) want
    have done : ∀ {σ1 : L2.St} {H1 : Hp} {v : V} {u : Value} {s1 : Shared}, Inv (cxOf CX0 P w K mg base N qual (defScope st) f cdv A outer s H Ex) [] σ1 H1 s1 → RelV v u → Q v H1 → CE outer P w H s Q u s1 := by
      intro σ1 H1 v u s1 J rv q
      exact ⟨v, H1, J.os, J.bare, J.base, J.hok, rv, q⟩
    apply codeAny_call_function room.depth (inK _ _ found) rfl Sc.co Sc.gen rfl (PySem.W.codeRec_of inK code)
    apply bound
    apply wpAny_newFunctionEnv_cells Sc.kind slots
    rintro e rfl s1 laid
    refine ⟨(env.mod.nolimit.keeps up).keeps laid.toInCall.keep, codeAny_func ?_⟩
    have first := inv_start (CX := CX0) (qual := qual) (f := f) (cd := cdv) (E := Ex) Sc room.hd env (ar _ _ _ _ want) vals laid
    apply wpAny_mono (tells.nox.run [] s1 (start N vs) H _ first holds)
    · intro fl s' ends
      match fl, ends with
      | .ret u, ⟨v, _, _, J, rv, q⟩ => exact done J rv q
      | .next, ⟨_, _, J, q⟩ => exact done (v := .non) J rfl q
      | .brk, ⟨_, _, _, q⟩ => exact q.elim
      | .cont, ⟨_, _, _, q⟩ => exact q.elim
    · exact fun _ _ z => z
end
section
variable {P : Program} {w : World} {K : PySem.W.Frag} {mg mb : Str → Option Value} {k : Nat} {fa a c Pt : Addr} {fd : FuncData} {x : Str} {sp : Sp} {st : Shared} {vs : List Value} {ns : List Int}
/-- from an abstract heap T that tracks the table, the script or not -/
theorem enter_atT {T : Hp} (inK : K.In st.heap) (gl : st.heap.Ns mainGlobals mg) (bi : st.heap.Ns builtinsNs mb) (bib : ∀ y : Str, y ≠ "__name__" → mb y = bootBuiltins y) (lim : st.heap.NoLimit) (calm : st.gens = #[])
    (emptyT : st.heap.get? Pt = some { cls := .none, data := .fields #[] }) (offK : K.lookup Pt = none) (hd : PySem.W.CodeHd st.heap c Pt)
    (bmain : ∃ (bm : Addr) (ob : Obj), mg "__builtins__" = some (.ref bm) ∧ bm ≠ builtinsNs ∧ st.heap.get? bm = some ob ∧ ob.cls = .type "module" ∧ ob.dict = some builtinsNs ∧ ob.data = .plain)
    (scr : st.heap.get? a = some { cls := .type "list", data := .seq vs.toArray }) (room : Room k callerA) (F : ∀ base : Heap, K.In base → base.Ns mainGlobals mg → TabB base mg c Pt → GOk P w K mg base k fa fd [x] sp)
    (bind : ∀ (s : Shared) (u : Value), BindsTo s fd ⟨[u], []⟩ [(x, u)]) (isT : T Pt = some (.tbl #[])) (only : ∀ b, T b = none ∨ b = Pt ∨ ∃ o xs, T b = some (.frz o (.lst xs))) (tracked : HOk P w T st.heap) (alone : ∀ b, T b ≠ none → b = a ∨ b = Pt) (apart : T a ≠ none → K.lookup a = none)
    (want : sp [.ref a] T (fun v _ => v = .bl true) fun _ _ _ => False) :
    codeAny (model P w) callerA (.call (.ref fa) ⟨[.ref a], []⟩) (fun r s' => r = .ok (.ret (.bool true)) ∧ OldK st.heap s'.heap ∧ s'.os = st.os ∧ AllBare s'.gens) st := by
  -- what is no list and no empty table is not tracked
  have plain : ∀ {b : Addr} {o : Obj}, st.heap.get? b = some o → (∀ vs n, o.data ≠ .seq vs n) → o.data ≠ .fields #[] → T b = none := by
    intro b o there h1 h2
    apply Classical.byContradiction
    intro some'
    rcases alone b some' with rfl | rfl
    · rw [scr] at there
      cases there
      exact h1 _ _ rfl
    · rw [emptyT] at there
      cases there
      exact h2 rfl
  have plainD : ∀ {b : Addr} {o : Obj} {es : Array DictEntry} {n : Nat}, st.heap.get? b = some o → o.data = .dict es n → T b = none := by
    intro b o es n there dict
    refine plain there (fun vs n z => ?_) (fun z => ?_)
    · rw [dict] at z; cases z
    · rw [dict] at z; cases z
  have names : ∀ {b : Addr} {m : Str → Option Value}, st.heap.Ns b m → (hidT st.heap T).Ns b m := by
    rintro b m ⟨o, es, n, there, dict, rest⟩
    exact ⟨o, es, n, hidT_get there (plainD there dict), dict, rest⟩
  have ground : K.In (hidT st.heap T) := by
    intro b o found
    apply hidT_get (inK b o found)
    apply Classical.byContradiction
    intro some'
    rcases alone b some' with rfl | rfl
    · rw [apart some'] at found
      cases found
    · rw [offK] at found
      cases found
  obtain ⟨mc, lim1, lim2⟩ := lim
  have env : Env0 P w K mg (hidT st.heap T) callerA [] st T :=
    ⟨rfl, ⟨ground, names gl, ⟨mb, names bi, bib⟩, ⟨mc, names lim1, lim2⟩⟩, fun _ _ e => of_hidT e, Nat.le_of_eq (hidT_size _ _), trivial, fun b hb => (nomatch hb), tracked, .of_eq calm⟩
  have TB : TabB (hidT st.heap T) mg c Pt := by
    constructor
    · obtain ⟨o, us, file, tf, flags, tg, inF, text, tt, there, rest⟩ := hd
      refine ⟨o, us, file, tf, flags, tg, inF, text, tt, hidT_get there (plain there (fun vs n z => ?_) fun z => ?_), rest⟩
      · rw [rest.2.1] at z; cases z
      · have g := rest.2.2.1
        rw [rest.2.1] at z
        cases z
        simp at g
    · obtain ⟨bm, ob, g1, g2, g3, g4, g5, g6⟩ := bmain
      have nG : bm ≠ mainGlobals := by
        intro q
        obtain ⟨o, es, ep, e, dd, _⟩ := gl
        rw [q, e] at g3
        cases g3
        rw [dd] at g6
        cases g6
      have nP : bm ≠ Pt := by
        intro q
        rw [q, emptyT] at g3
        cases g3
        cases g6
      refine ⟨bm, ob, g1, g2, nG, nP, hidT_get g3 (plain g3 (fun vs n z => ?_) fun z => ?_), g4, g5, g6⟩
      · rw [g6] at z; cases z
      · rw [g6] at z; cases z
    · intro q
      obtain ⟨o, es, ep, e, dd, _⟩ := gl
      rw [q, emptyT] at e
      cases e
      cases dd
  refine codeAny_mono ((F _ ground (names gl) TB).enter callerA [] st T ⟨[.ref a], []⟩ [.ref a] [V.ref a] _ _ rfl room env (bind st _) (.cons rfl .nil) want) ?_
  intro r s' out
  match r, out with
  | .error _, out => exact out.elim
  | .ok .next, out => exact out.elim
  | .ok .brk, out => exact out.elim
  | .ok .cont, out => exact out.elim
  | .ok (.ret u), ⟨v, T', sameOs, bare, un, after, rel, yes⟩ =>
    cases yes
    cases rel
    have stay : ∀ b o, b ≠ Pt → st.heap.get? b = some o → s'.heap.get? b = some o := by
      intro b o nb there
      cases tb : T b with
      | none => exact un.keep b o there tb (fun z => by cases z) (fun z => by cases z)
      | some h =>
        rcases only b with z | z | ⟨ob, xs, z⟩
        · rw [tb] at z; cases z
        · exact absurd z nb
        · have was := (tracked b _ z).1
          have is := (after b _ (un.frzs b ob _ z)).1
          rw [there] at was
          cases was
          exact is
    obtain ⟨more, grown⟩ : ∃ more : Array Value, s'.heap.get? Pt = some { cls := .none, data := .fields more } := by
      obtain ⟨more, z⟩ := un.tbls Pt #[] isT
      exact ⟨_, after Pt _ z⟩
    refine ⟨rfl, ⟨fun b o e => ?_, fun b o e => ?_⟩, sameOs, bare⟩
    · by_cases hb : b = Pt
      · subst hb
        rw [emptyT] at e
        cases e
        exact .inr (.inl ⟨(hd.tab emptyT).isCodeTable, rfl, #[], more, rfl, by rw [Array.empty_append]; exact grown⟩)
      · exact .inl (stay b o hb e)
    · by_cases hb : b = Pt
      · subst hb
        exact ⟨_, grown⟩
      · exact ⟨o, stay b o hb e⟩
theorem law_enterT (inK : K.In st.heap) (gl : st.heap.Ns mainGlobals mg) (bi : st.heap.Ns builtinsNs mb) (bib : ∀ y : Str, y ≠ "__name__" → mb y = bootBuiltins y) (lim : st.heap.NoLimit) (calm : st.gens = #[])
    (emptyT : st.heap.get? Pt = some { cls := .none, data := .fields #[] }) (offK : K.lookup Pt = none) (hd : PySem.W.CodeHd st.heap c Pt)
    (bmain : ∃ (bm : Addr) (ob : Obj), mg "__builtins__" = some (.ref bm) ∧ bm ≠ builtinsNs ∧ st.heap.get? bm = some ob ∧ ob.cls = .type "module" ∧ ob.dict = some builtinsNs ∧ ob.data = .plain)
    (scr : st.heap.get? a = some { cls := .type "list", data := .seq vs.toArray }) (nums : IntsAre vs ns) (short : ns.length ≤ sizeLine) (room : Room k callerA) (F : ∀ base : Heap, K.In base → base.Ns mainGlobals mg → TabB base mg c Pt → GOk P w K mg base k fa fd [x] sp)
    (bind : ∀ (s : Shared) (u : Value), BindsTo s fd ⟨[u], []⟩ [(x, u)]) (want : ∀ H : Hp, H Pt = some (.tbl #[]) → SqL K H a (ns.map V.int) → sp [.ref a] H (fun v _ => v = .bl true) fun _ _ _ => False) :
    codeAny (model P w) callerA (.call (.ref fa) ⟨[.ref a], []⟩) (fun r s' => r = .ok (.ret (.bool true)) ∧ OldK st.heap s'.heap ∧ s'.os = st.os ∧ AllBare s'.gens) st := by
  have rels := vals_ints nums
  have many := nums.length
  have aP : a ≠ Pt := by
    intro q
    rw [q, emptyT] at scr
    have z : Data.fields #[] = Data.seq vs.toArray _ := congrArg Obj.data (Option.some.inj scr)
    cases z
  cases own : K.lookup a with
  | some o =>
    have there := inK a o own
    rw [scr] at there
    cases there
    let T : Hp := fun b => if b = Pt then some (.tbl #[]) else none
    have at_P : T Pt = some (.tbl #[]) := if_pos rfl
    have off : ∀ b, b ≠ Pt → T b = none := fun b h => if_neg h
    refine enter_atT (T := T) inK gl bi bib lim calm emptyT offK hd bmain scr room F bind at_P (fun b => ?_) (fun b u z => ?_) (fun b z => ?_) (fun z => absurd (off a aP) z) (want T at_P (.inr ⟨_, vs.toArray, _, own, rfl, rfl, rfl, by rw [List.size_toArray, many]; exact short, by simpa using rels⟩))
    · by_cases h : b = Pt
      · exact .inr (.inl h)
      · exact .inl (off b h)
    · by_cases h : b = Pt
      · subst h
        rw [at_P] at z
        cases z
        exact emptyT
      · rw [off b h] at z; cases z
    · by_cases h : b = Pt
      · exact .inr h
      · exact absurd (off b h) z
  | none =>
    let T : Hp := fun b => if b = a then some (.frz { cls := .type "list", data := .seq vs.toArray } (.lst (ns.map V.int))) else if b = Pt then some (.tbl #[]) else none
    have at_a : T a = some (.frz { cls := .type "list", data := .seq vs.toArray } (.lst (ns.map V.int))) := if_pos rfl
    have at_P : T Pt = some (.tbl #[]) := (if_neg (Ne.symm aP)).trans (if_pos rfl)
    have off : ∀ b, b ≠ a → b ≠ Pt → T b = none := fun b h h2 => (if_neg h).trans (if_neg h2)
    refine enter_atT (T := T) inK gl bi bib lim calm emptyT offK hd bmain scr room F bind at_P (fun b => ?_) (fun b u z => ?_) (fun b z => ?_) (fun _ => own) (want T at_P (.inl (.inr ⟨_, at_a⟩)))
    · by_cases h : b = a
      · subst h
        exact .inr (.inr ⟨_, _, at_a⟩)
      · by_cases h2 : b = Pt
        · exact .inr (.inl h2)
        · exact .inl (off b h h2)
    · by_cases h : b = a
      · subst h
        rw [at_a] at z
        cases z
        exact ⟨scr, by rw [List.length_map]; exact short, vs, _, rels, scr⟩
      · by_cases h2 : b = Pt
        · subst h2
          rw [at_P] at z
          cases z
          exact emptyT
        · rw [off b h h2] at z; cases z
    · by_cases h : b = a
      · exact .inl h
      · by_cases h2 : b = Pt
        · exact .inr h2
        · exact absurd (off b h h2) z
end
theorem walk_gT {l : PySem.W.OpenLaw} {n k : Nat} {q : Program} {loose : List Str} {XP : (Str → Option Value) → Heap → Prop} {YP : World → Heap → Prop} {d : DefRec} {K : Params → PySem.W.Frag} {sp : World → Addr → Sp} {x : Str}
    (most : l.most = some n) (fits : n ≤ sizeLine) (bare : d.params.defaults = []) (room : Room k callerA) (inK : ∀ (w : World) (h : Heap), YP w h → (K w.params).In h) (rec : (recsOf q).find? (fun e => e.name == d.name) = some d)
    (F : ∀ (w : World) (mg : Str → Option Value) (fa : Addr) (h : Heap), (K w.params).In h → h.Ns mainGlobals mg → mg d.name = some (.ref fa) →
      ∃ (fd : FuncData) (c P : Addr), PySem.W.tabIn (K w.params) d.name = some (c, P) ∧ (K w.params).lookup P = none ∧ (∀ (s : Shared) (u : Value), BindsTo s fd ⟨[u], []⟩ [(x, u)]) ∧ ∀ base : Heap, (K w.params).In base → base.Ns mainGlobals mg → TabB base mg c P → GOk l.prog w (K w.params) mg base k fa fd [x] (sp w P))
    (want : ∀ (w : World) (H : Hp) (a P : Addr) (ns : List Int), ns.length ≤ n → H P = some (.tbl #[]) → SqL (K w.params) H a (ns.map V.int) → sp w P [.ref a] H (fun v _ => v = .bl true) fun _ _ _ => False) :
    PySem.W.WalkO q loose XP YP l.row.toRowW d [] (fun f vs => PySem.call f vs) := by
  refine Att.attach_call most bare fun w s0 s1 mg mb fa o pm cd doc a vs ns G Y ho hd hcd hmg hobj hints hlen hg => ?_
  have KX := inK w _ Y
  obtain ⟨fd, c, P, tab, off, hb, hF⟩ := F w mg fa _ KX G.T.g hmg
  obtain ⟨code, empty⟩ := PySem.W.tab_of G.T KX rec tab
  exact law_enterT KX G.T.g G.T.b G.T.builtins G.T.nolimit hg empty off code G.T.bmain hobj hints (Nat.le_trans hlen fits) room hF hb fun H hO hS => want w H a P ns hlen hO hS
/-- the table of a def's code object, from what is written of the def -/
theorem tab_mk {K : PySem.W.Frag} {x : Str} {f c P : Addr} {oc oc' : Value} {od od' : Option Addr} {sl sl' : Array (Option Value)} {fd : FuncData} {us : Array Value} (a : PySem.W.nsIn K mainGlobals x = some (some (.ref f)))
    (l : K.lookup f = some ⟨oc, od, .func fd, sl⟩) (e : fd.code = .ref c) (lc : K.lookup c = some ⟨oc', od', .fields us, sl'⟩) (h : us[11]? = some (.ref P)) : PySem.W.tabIn K x = some (c, P) := by
  unfold PySem.W.tabIn
  rw [a]
  dsimp only
  rw [l]
  dsimp only
  rw [e]
  dsimp only
  rw [lc]
  dsimp only
  rw [h]
/-- a run that gives True ends as the law's end wants it -/
theorem ks_law {im : Addr → Bool} {Ω : Type} {G : Gam im Ω} {K : PySem.W.Frag} {H0 H : Hp} {D : Ends} {W : WX} {B : S Ω} {τ : Tau} {ω ω' : Ω} (hF : runS B τ ω = .ok (.bl true) ω') (k : ∀ v H', v = V.bl true → D.rt v H') : KS G K H0 H D W (B τ ω) := by
  unfold runS at hF
  generalize B τ ω = r at hF ⊢
  match r, hF with
  | some (.rt d, ω1), hF =>
    simp only [R.ok.injEq] at hF
    obtain ⟨rfl, rfl⟩ := hF
    intro v H2 _ _ _ r
    cases r
    exact k _ _ rfl
  | some (.nx τ, ω1), hF => simp only [R.ok.injEq] at hF; exact absurd hF.1 (by intro z; cases z)
  | some (.bk τ, ω1), hF => cases hF
  | some (.ct τ, ω1), hF => cases hF
  | some (.rs x τ, ω1), hF => cases hF
  | some (.rl d, ω1), hF => cases hF
  | none, hF => cases hF
end DL
namespace DL
open PySem PySem.Spec PyProof.Rows L2
end DL
namespace DL
open PySem PySem.Spec PyProof.Rows L2
section
variable {P : Program} {w : World} {B : Around} {u : Shared}
/-- nothing but x differs -/
def But (x : Addr) (g h : Heap) : Prop := ∀ q o, q ≠ x → g.get? q = some o → h.get? q = some o
theorem But.trans {x : Addr} {f g h : Heap} (k1 : But x f g) (k2 : But x g h) : But x f h := fun q o n e => k2 q o n (k1 q o n e)
theorem But.push {x : Addr} {h : Heap} (ob : Obj) : But x h (h.push ob) := fun q o _ e => Heap.get?_push_of_some _ e
end
end DL
namespace DL
open PySem PySem.Spec PyProof.Rows L2
section
variable {im : Addr → Bool} {Ω : Type} {K : PySem.W.Frag} {W : WX}
/-- the state does not speak of finished lists -/
class Thaws (G : Gam im Ω) : Prop where
  at' : ∀ {ω : Ω} {H : Hp} {l : Addr} {o : Obj} {vs ws : List V}, G.At ω H → H l = some (.frz o (.lst vs)) → ¬ G.FP l → G.At ω (upd H l (.lst ws))
instance : Thaws (gam0 im) := ⟨fun _ _ _ => trivial⟩
instance {p : Addr × Addr} : Thaws (srcG im p) where
  at' := fun ⟨h1, h2⟩ e nf => by
    refine ⟨?_, ?_⟩
    · rw [upd_ne (fun z => nf (.inl z.symm))]
      exact h1
    · rw [upd_ne (fun z => nf (.inr z.symm))]
      exact h2
variable {H H' : Hp} {l : Addr} {o : Obj} {u u' : HO}
end
end DL
namespace DL
open PySem PySem.Spec PyProof.Rows L2
end DL
namespace DL
open PySem PySem.Spec PyProof.Rows L2
end DL
namespace DL
open PySem PySem.Spec PyProof.Rows L2
section
variable {κ : Type} [DecidableEq κ]
theorem storedAll_new : ∀ (ps acc : List (κ × Addr × Value)), ((acc ++ ps).map (·.1)).Nodup → storedAllH acc ps = acc ++ ps
  | [], acc, _ => by rw [List.append_nil]; rfl
  | (k, a, v) :: ps, acc, h => by
    have e2 : acc ++ (k, a, v) :: ps = (acc ++ [(k, a, v)]) ++ ps := by simp
    have hn : atKey acc k = none := by
      refine atKey_none_of_get fun j p e => ?_
      have hm := List.mem_of_getElem? e
      rw [List.map_append, List.nodup_append] at h
      exact h.2.2 k (List.mem_map.mpr ⟨_, hm, rfl⟩) k (by simp) rfl
    show storedAllH (storedH acc k a v) ps = _
    rw [storedH_new hn, e2]
    rw [e2] at h
    exact storedAll_new ps (acc ++ [(k, a, v)]) h
end
section
variable {X : Cx} {im : Addr → Bool}
theorem tpairs_of {pins : List (Addr × Obj)} {σ : L2.St} {H : Hp} {s : Shared} (I : Inv X pins σ H s) : ∀ {ps : List Addr} {kvs : List (List Key × Addr × V)}, Paired (fun p kv => SqT X.K H p [.ref kv.2.1, kv.2.2] ∧ H kv.2.1 = some (.tup (kv.1.map kV))) ps kvs →
    ∃ prs : List (List Key × Addr × Value), Paired (fun (p : List Key × V) (q : List Key × Addr × Value) => p.1 = q.1 ∧ H q.2.1 = some (.tup (p.1.map kV)) ∧ RelV p.2 q.2.2) (kvs.map fun q => (q.1, q.2.2)) prs ∧ prs.length = ps.length ∧
      prs.map (·.1) = kvs.map (·.1) ∧ ∀ (j : Nat) (q : List Key × Addr × Value), prs[j]? = some q → ∃ b : Addr, ps[j]? = some b ∧ IsTup s.heap b #[.ref q.2.1, q.2.2]
  | _, _, .nil => ⟨[], .nil, rfl, rfl, fun j q e => by simp at e⟩
  | _, _, .cons (a := p) (b := kv) h t => by
    obtain ⟨prs, r, hl, hk, hp⟩ := tpairs_of I t
    obtain ⟨its, rv, ht, _⟩ := I.tuple h.1
    obtain ⟨u, y, ei, ru, ry⟩ := vals2 rv
    subst ei
    cases ru
    refine ⟨(kv.1, kv.2.1, y) :: prs, .cons ⟨rfl, h.2, ry⟩ r, by rw [List.length_cons, List.length_cons, hl], by rw [List.map_cons, List.map_cons, hk], fun j q e => ?_⟩
    cases j with
    | zero =>
      have e' : (kv.1, kv.2.1, y) = q := Option.some.inj e
      subst e'
      exact ⟨p, rfl, ht⟩
    | succ j =>
      obtain ⟨b, e1, e2⟩ := hp j q (by simpa using e)
      exact ⟨b, by simpa using e1, e2⟩
theorem call_dictTP (hu : X.A.units + 200 < cLine) (hcalm : X.calm = true) : CallR X (.type "dict") (fun xs H Q => ∃ (a : Addr) (ps : List Addr) (kvs : List (List Key × Addr × V)), xs = [.ref a] ∧ SqL X.K H a (ps.map V.ref) ∧
    Paired (fun p kv => SqT X.K H p [.ref kv.2.1, kv.2.2] ∧ H kv.2.1 = some (.tup (kv.1.map kV))) ps kvs ∧ (kvs.map (·.1)).Nodup ∧ ∀ p, H p = none → Q (.ref p) (upd H p (.dT (kvs.map fun q => (q.1, q.2.2))))) := by
  intro pins s σ H xs us Q I r q
  obtain ⟨a, ps, kvs, ex, hq, hp, hnd, q⟩ := q
  subst ex
  obtain ⟨u, eu, rx⟩ := vals1 r
  subst eu
  cases rx
  obtain ⟨its, rv, pl, hz⟩ := I.list hq
  have ei := refs_at rv
  subst ei
  rw [List.length_map] at hz
  obtain ⟨prs, rel, hl, hk, hpr⟩ := tpairs_of I hp
  obtain ⟨o, n, ho, hc, hd, hdat⟩ := pl
  have hks : ∀ x ∈ prs, ∃ kv : List Key × V, x.1 = kv.1 ∧ H x.2.1 = some (.tup (kv.1.map kV)) := by
    intro x hx
    clear hpr hk hl
    generalize kvs.map (fun q => (q.1, q.2.2)) = L at rel
    induction rel with
    | nil => exact absurd hx (by simp)
    | @cons p q l1 l2 hr t ih =>
      rcases List.mem_cons.mp hx with e | hx
      · subst e; exact ⟨p, hr.1.symm, hr.2.1⟩
      · exact ih hx
  have P := PairArg.list (prog := X.prog) (w := X.w) a (ps.map Value.ref).toArray (fun j => (ps[j]?).getD 0) (prs.map fun x => (Value.ref x.2.1, x.2.2))
  refine call_dict_pairsH (knd := tupleKind (mixKind X.prog X.w)) (ps := prs) P (I.ok.hd hcalm) ?_ ⟨⟨o, n, ho, hc, hd, hdat⟩, ?_, ?_⟩ ⟨?_, ?_⟩ ?_ ?_ fun h' tk hd' hkp => ?_
  · show X.A.in1.in1.units < cLine
    have : X.A.in1.in1.units = X.A.units + 2 := rfl
    omega
  · simp [hl]
  · intro j k v hj
    rw [List.getElem?_map] at hj
    obtain ⟨x, hx, e⟩ := Option.map_eq_some_iff.mp hj
    cases e
    obtain ⟨b, e1, e2⟩ := hpr j x hx
    refine ⟨by simp [e1], .inl ?_⟩
    show s.heap.IsTuple ((ps[j]?).getD 0) _
    rw [e1]
    exact e2
  · rw [List.length_map]
  · intro i key v hj
    have hj' : (prs.map fun x => (Value.ref x.2.1, x.2.2))[i]? = some (key, v) := hj
    rw [List.getElem?_map] at hj'
    obtain ⟨x, hx, e⟩ := Option.map_eq_some_iff.mp hj'
    cases e
    exact ⟨x.1, x.2.1, hx, rfl⟩
  · intro h' kp x hx
    obtain ⟨kv, e1, e2⟩ := hks x hx
    obtain ⟨ox, its, m, h1, h2, h3, h4⟩ := key_of I.hok e2
    rw [e1]
    exact ⟨ox, its, m, kp _ _ (Nat.ne_of_lt (Heap.lt_size h1)) (by simp) h1, h2, h3, h4⟩
  · rw [List.length_map, hl]; exact hz
  · have hnp : (prs.map (·.1)).Nodup := by rw [hk]; exact hnd
    rw [storedAll_new prs [] (by rw [List.nil_append]; exact hnp), List.nil_append] at hd'
    obtain ⟨o', es, ep, h1, h2, h3, h4, _, h5⟩ := hd'
    have hm : (s.heap.objs.size == sysModules) = false := beq_eq_false_iff_ne.mpr (Nat.ne_of_gt I.big)
    have fr : H s.heap.objs.size = none := I.hok.fresh (Nat.le_refl _)
    have rel2 : Paired (fun (p : List Key × V) (q : List Key × Addr × Value) => p.1 = q.1 ∧ upd H s.heap.objs.size (.dT (kvs.map fun q => (q.1, q.2.2))) q.2.1 = some (.tup (p.1.map kV)) ∧ RelV p.2 q.2.2) (kvs.map fun q => (q.1, q.2.2)) prs := by
      refine Paired.mono (fun p q z => ⟨z.1, ?_, z.2.2⟩) rel
      rw [upd_ne (ne_of_none z.2.1 fr)]
      exact z.2.1
    have hlen : (kvs.map fun q => (q.1, q.2.2)).length ≤ sizeLine := by
      have := congrArg List.length hk
      rw [List.length_map, List.length_map] at this
      rw [List.length_map]; omega
    exact ⟨.ref s.heap.objs.size, upd H s.heap.objs.size (.dT (kvs.map fun q => (q.1, q.2.2))), I.laid (t' := tk) (fun b u e => hkp b u (by simp) e) (Nat.le_refl _) ⟨hlen, hm, prs, rel2, o', es, ep, h1, h2, h3, h4, h5⟩, rfl, q _ fr⟩
/-- the keys and values of a list of pairs -/
def pairsT : List D → Option (List (List Key) × List D)
  | [] => some ([], [])
  | .tup [.tup k, d] :: r => match D.keyL k, pairsT r with
    | some ks, some (kss, ds) => some (ks :: kss, d :: ds)
    | _, _ => none
  | _ => none
def dictTD : D → Option D
  | .lst xs => match pairsT xs with
    | some (ks, ds) => if ks.Nodup then some (.dit ks ds) else none
    | none => none
  | _ => none
theorem pairsT_cons {d : D} {r : List D} {ks : List (List Key)} {zs : List D} (h : pairsT (d :: r) = some (ks, zs)) : ∃ k x kk ks' zs', d = .tup [.tup k, x] ∧ D.keyL k = some kk ∧ pairsT r = some (ks', zs') ∧ ks = kk :: ks' ∧ zs = x :: zs' := by
  unfold pairsT at h
  split at h
  · rename_i e; cases e
  · rename_i k x r' e
    cases e
    split at h
    · rename_i kk ks' zs' e1 e2
      cases h
      exact ⟨k, x, kk, ks', zs', rfl, e1, e2, rfl, rfl⟩
    · cases h
  · cases h
theorem reps_pairs {H : Hp} {K : PySem.W.Frag} : ∀ (ds : List D) {vs : List V} {ks : List (List Key)} {zs : List D}, RepL K im H vs ds → pairsT ds = some (ks, zs) →
    ∃ (ps : List Addr) (kvs : List (List Key × Addr × V)), vs = ps.map V.ref ∧ Paired (fun p kv => SqT K H p [.ref kv.2.1, kv.2.2] ∧ H kv.2.1 = some (.tup (kv.1.map kV))) ps kvs ∧ kvs.map (·.1) = ks ∧ RepL K im H (kvs.map (·.2.2)) zs
  | [], _, _, _, r, h => by
    cases r
    cases h
    exact ⟨[], [], rfl, .nil, rfl, .nil⟩
  | d :: ds, _, ks, zs, r, h => by
    obtain ⟨k, x, kk, ks', zs', rfl, e1, e2, rfl, rfl⟩ := pairsT_cons h
    cases r with
    | @cons v vs _ _ r1 r2 =>
      obtain ⟨ps, kvs, rfl, hp, hk, hz⟩ := reps_pairs ds r2 e2
      cases r1 with
      | @tup a us _ h1 h2 =>
        cases h2 with
        | cons h3 h4 =>
          cases h4 with
          | cons h5 h6 =>
            cases h6
            cases h3 with
            | @tup a2 us2 _ g1 g2 =>
              have ek := g2.key e1
              refine ⟨a :: ps, (kk, a2, _) :: kvs, rfl, .cons ⟨.inl (.inl h1), ?_⟩ hp, by rw [List.map_cons, hk], .cons h5 hz⟩
              show H a2 = _
              rw [← ek]
              exact g1
theorem EP.newT {pins : List (Addr × Obj)} {σ : L2.St} {H : Hp} {p : Addr} {ks : List (List Key)} {vs : List V} {ds : List D} {Q : VK} {s' : Shared} (hp : H p = none) (I : Inv X pins σ (upd H p (.dT (ks.zip vs))) s') (hl : ks.length = vs.length) (r : RepL X.K im H vs ds)
    (q : ∀ v H', Same H H' → Rep X.K im H' v (.dit ks ds) → Q v H') : EP X pins σ Q (.ref p) s' := by
  obtain ⟨o, J⟩ := Inv.lock I upd_same trivial
  rw [upd_upd] at J
  have sm : Same H (upd H p (.frz o (.dT (ks.zip vs)))) := Same.new hp
  exact ⟨.ref p, _, J, rfl, q _ _ sm (.dit upd_same hl (r.up (.of sm)))⟩
theorem call_dictTD (hu : X.A.units + 200 < cLine) (hcalm : X.calm = true) : CallR X (.type "dict") (rDN X.K im (un1 dictTD)) := by
  intro pins s σ H xs us Q I r h
  obtain ⟨ds, z, hd, hz, q⟩ := h
  obtain ⟨v, d, rfl, hd, hz⟩ := un1_ok hd hz
  cases hd with
  | @lst a vs ds h1 h2 =>
    unfold dictTD at hz
    dsimp only at hz
    split at hz
    · rename_i ks zs e
      split at hz
      · rename_i hnd
        cases hz
        obtain ⟨ps, kvs, rfl, hp, hk, hr⟩ := reps_pairs _ h2 e
        refine thn (call_dictTP hu hcalm pins s σ H _ us (fun v H1 => ∃ p, v = .ref p ∧ H1 = upd H p (.dT (kvs.map fun q => (q.1, q.2.2))) ∧ H p = none) I r ⟨a, ps, kvs, rfl, h1.l, hp, by rw [hk]; exact hnd, fun p hn => ⟨p, rfl, rfl, hn⟩⟩) fun u s' hh => ?_
        obtain ⟨w, H1, J, r', p, rfl, rfl, hp⟩ := hh
        cases r'
        have ez : (kvs.map fun q => (q.1, q.2.2)) = ks.zip (kvs.map (·.2.2)) := by
          rw [← hk, List.zip_map']
        rw [ez] at J
        exact EP.newT hp J (by rw [← hk, List.length_map, List.length_map]) hr q
      · cases hz
    · cases hz
  | _ => simp [dictTD] at hz
end
end DL
namespace DL
open PySem PySem.Spec PyProof.Rows L2 LamX
end DL
namespace DL
open PySem PySem.Spec PyProof.Rows L2 LamX
end DL
namespace DL
open PySem PySem.Spec PyProof.Rows L2
section
variable {im : Addr → Bool} {Ω : Type} {G : Gam im Ω} {K : PySem.W.Frag} {W : WX} {ta tb tc tk : TE} {Fa Fb Fc Fk : E Ω D} {Fl' Fl2 : E Ω (List D)}
def D.keyT : D → Option (List Key)
  | .tup xs => D.keyL xs
  | _ => none
theorem rep_keyT {H : Hp} {v : V} {x : D} {k : List Key} (r : Rep K im H v x) (e : x.keyT = some k) : ∃ p vs xs, v = .ref p ∧ H p = some (.tup vs) ∧ RepL K im H vs xs ∧ D.keyL xs = some k := by
  cases r with
  | tup h1 h2 => exact ⟨_, _, _, rfl, h1, h2, e⟩
  | _ => cases e
def eDgTE (P : Tau → Ω → Option (List (List Key) × List D)) (e : E Ω D) : E Ω D := fun τ ω => match P τ ω with
  | none => .no
  | some _ => (e τ ω).bind fun x ω1 => match x.keyT, P τ ω1 with
    | some k, some (ks, ds) => .ofO (lkp ks ds k) ω1
    | _, _ => .no
def eDiTE (b : Bool → Bool) (P : Tau → Ω → Option (List (List Key) × List D)) (e : E Ω D) : E Ω D := fun τ ω => (e τ ω).bind fun x ω1 => match x.keyT, P τ ω1 with
  | some k, some (ks, ds) => .ok (.bl (b (lkp ks ds k).isSome)) ω1
  | _, _ => .no
theorem getT_coreE {i : Nat} {P : Tau → Ω → Option (List (List Key) × List D)} (hP : PlT G K i P) {H0 : Hp} {σ : L2.St} {H : Hp} {ω : Ω} {τ : Tau} (s : STT G K H0 H σ τ) (t : G.At ω H) {xs : List D} {vs : List V} {k : List Key} {ks : List (List Key)} {ds : List D}
    (r : RepL K im H vs xs) (ek : D.keyL xs = some k) (eP : P τ ω = some (ks, ds)) {p : Addr} (hp : H p = some (.tup vs)) :
    ∃ a ws, σ[i]? = some (some (.ref a)) ∧ DGet H a (.ref p) (valV (ks.zip ws) k) ∧ ks.length = ws.length ∧ RepL K im H ws ds := by
  obtain ⟨a, ws, e1, rd, hl, rr⟩ := hP H0 σ H ω τ s t ks ds eP
  refine ⟨a, ws, e1, .inr ⟨ks.zip ws, k, p, rd, rfl, ?_, rfl⟩, hl, rr⟩
  rw [hp, r.key ek]
theorem de_dgTE {i : Nat} {P : Tau → Ω → Option (List (List Key) × List D)} (hP : PlT G K i P) (hk : DE G K W tk Fk) : DE G K W (tDGet (tVar i) tk) (eDgTE P Fk) := by
  intro H0 σ H ω τ s t Q h
  unfold eDgTE at h
  cases eP0 : P τ ω with
  | none => rw [eP0] at h; exact h.elim
  | some q0 =>
  rw [eP0] at h
  obtain ⟨a0, _, ea, _⟩ := hP H0 σ H ω τ s t _ _ eP0
  refine ⟨_, ea, ?_⟩
  refine hk H0 σ H ω τ s t _ (Res.imp (Res.bind h) (fun x ω1 H1 k1 t1 h1 v r => ?_) fun _ _ _ _ _ q => q)
  have h2 := h1.mono k1
  cases ek : x.keyT with
  | none => rw [ek] at h2; exact h2.elim
  | some k =>
  cases eP : P τ ω1 with
  | none => rw [ek, eP] at h2; exact h2.elim
  | some q =>
  obtain ⟨ks, ds⟩ := q
  rw [ek, eP] at h2
  dsimp only at h2
  obtain ⟨p, vs, xs, rfl, hp, rx, ek'⟩ := rep_keyT r ek
  obtain ⟨a, ws, e1, g, hl, rr⟩ := getT_coreE hP (s.step t k1) t1 rx ek' eP hp
  rw [ea] at e1; cases e1
  cases el : lkp ks ds k with
  | none => rw [el] at h2; exact h2.elim
  | some z =>
    rw [el] at h2
    obtain ⟨v, hv, rv⟩ := (lkp_val k hl rr).1 z el
    rw [hv] at g
    exact ⟨a0, v, rfl, g, h2 _ .refl t1 v rv⟩
theorem inT_coreE {i : Nat} {b : Bool → Bool} {P : Tau → Ω → Option (List (List Key) × List D)} (hP : PlT G K i P) (hk : DE G K W tk Fk) :
    DE G K W (fun σ H Q => tk σ H fun y H1 => tVar i σ H1 fun x H2 => ∃ a o, x = .ref a ∧ DGet H2 a y o ∧ Q (.bl (b o.isSome)) H2) (eDiTE b P Fk) := by
  intro H0 σ H ω τ s t Q h
  unfold eDiTE at h
  refine hk H0 σ H ω τ s t _ (Res.imp (Res.bind h) (fun x ω1 H1 k1 t1 h1 v r => ?_) fun _ _ _ _ _ q => q)
  have h2 := h1.mono k1
  cases ek : x.keyT with
  | none => rw [ek] at h2; exact h2.elim
  | some k =>
  cases eP : P τ ω1 with
  | none => rw [ek, eP] at h2; exact h2.elim
  | some q =>
  obtain ⟨ks, ds⟩ := q
  rw [ek, eP] at h2
  dsimp only at h2
  obtain ⟨p, vs, xs, rfl, hp, rx, ek'⟩ := rep_keyT r ek
  obtain ⟨a, ws, e1, g, hl, rr⟩ := getT_coreE hP (s.step t k1) t1 rx ek' eP hp
  refine ⟨_, e1, a, _, rfl, g, ?_⟩
  have e : (valV (ks.zip ws) k).isSome = (lkp ks ds k).isSome := by
    cases el : lkp ks ds k with
    | none => rw [(lkp_val k hl rr).2 el]; rfl
    | some z => obtain ⟨v, hv, _⟩ := (lkp_val k hl rr).1 z el; rw [hv]; rfl
  rw [e]
  exact h2 _ .refl t1 _ (.bl _)
theorem de_dnTE {i : Nat} {P : Tau → Ω → Option (List (List Key) × List D)} (hP : PlT G K i P) (hk : DE G K W tk Fk) : DE G K W (tDNotIn tk (tVar i)) (eDiTE (fun b => !b) P Fk) := inT_coreE hP hk
def sPar3O23 (i j l : Nat) (a : E Ω D) (b c : E Ω (List D)) : S Ω := withE a fun x => withE b fun y => withE c fun z τ ω => some (.nx (((τ.set i (some (.d x))).set j (some (.ow .L y))).set l (some (.ow .L z))), ω)
theorem ds_par3O23 {i j l : Nat} (ha : DE G K W ta Fa) (hb : DL G K W tb Fl') (hc : DL G K W tc Fl2) : DS G K W (tPar3 i j l (tCons ta (tCons tb (tCons tc tNil)))) (sPar3O23 i j l Fa Fl' Fl2) := by
  intro H0 σ H ω τ s t' D h
  refine ha H0 σ H ω τ s t' _ (Res.imp (withE_kx s t' h) (fun x ω1 H1 k1 t1 h1 v r => ?_) fun _ _ _ _ _ q => q)
  have s1 := s.step t' k1
  refine hb H0 σ H1 ω1 τ s1 t1 _ (Res.imp (withE_kx s1 t1 h1) (fun y ω2 H2 k2 t2 h2 p vs hp hl r2 => ?_) fun _ _ _ _ _ q => q)
  have s2 := s1.step t1 k2
  refine hc H0 σ H2 ω2 τ s2 t2 _ (Res.imp (withE_kx s2 t2 h2) (fun z ω3 H3 k3 t3 h3 p3 vs3 hp3 hl3 r3 => ?_) fun _ _ _ _ _ q => q)
  refine ⟨v, _, _, rfl, h3 _ H3 .refl ?_ t3⟩
  exact ((s1.setD r i).setO t1 hp k2 hl r2 j).setO t2 hp3 k3 hl3 r3 l
end
section
variable {Ω : Type} {τ : Tau} {ω : Ω}
theorem wp_diTE {b : Bool → Bool} {p : Tau → Ω → Option (List (List Key) × List D)} {r : E Ω D} {P X} {ks : List (List Key)} {ds : List D} (h : ∀ ω, p τ ω = some (ks, ds))
    (k : (r τ ω).wp (fun x ω1 => ∃ k, x.keyT = some k ∧ P (.bl (b (lkp ks ds k).isSome)) ω1) X) : (eDiTE b p r τ ω).wp P X := by
  unfold eDiTE
  rw [wp_bind]
  refine k.mono (fun x ω1 h1 => ?_) fun _ _ h => h
  obtain ⟨k, e1, h1⟩ := h1
  rw [e1, h ω1]
  dsimp only
  rw [wp_ok]
  exact h1
theorem wp_dgTE {p : Tau → Ω → Option (List (List Key) × List D)} {r : E Ω D} {P X} {ks : List (List Key)} {ds : List D} (h : ∀ ω, p τ ω = some (ks, ds))
    (k : (r τ ω).wp (fun x ω1 => ∃ k z, x.keyT = some k ∧ lkp ks ds k = some z ∧ P z ω1) X) : (eDgTE p r τ ω).wp P X := by
  unfold eDgTE
  rw [h ω]
  dsimp only
  rw [wp_bind]
  refine k.mono (fun x ω1 h1 => ?_) fun _ _ h => h
  obtain ⟨k, z, e1, e3, h1⟩ := h1
  rw [e1, h ω1]
  dsimp only
  rw [e3]
  with_unfolding_all exact h1
theorem sw_par3O23 {i j l : Nat} {a : E Ω D} {b c : E Ω (List D)} {P} : sw (sPar3O23 i j l a b c τ ω) P = (a τ ω).wp (fun x ω1 => (b τ ω1).wp (fun y ω2 => (c τ ω2).wp (fun z ω3 => P (.nx (((τ.set i (some (.d x))).set j (some (.ow .L y))).set l (some (.ow .L z)))) ω3) (fun x ω1 => P (.rs x τ) ω1)) (fun x ω1 => P (.rs x τ) ω1)) (fun x ω1 => P (.rs x τ) ω1) := by
  unfold sPar3O23; simp only [sw_withE]; with_unfolding_all rfl
end
end DL
namespace DL
open PySem PySem.Spec PyProof.Rows L2
section
open PySem.SeqAt
open AutoSeq1 (wpAny_loadPart')
open MeetsSeq MeetsSeq2 MeetsSeq3
theorem dict_eq_declines_tuple (l b : Addr) (es : Array DictEntry) (ep : Nat) (items2 : Array Value) (n2 : Nat) (dd dd2 : Option Addr) (sl sl2 : Array (Option Value)) :
    Meets (Builtin.«dict.__eq__» ⟨[.ref l, .ref b], []⟩) (fun _ R s => s.heap.get? l = some { cls := .type "dict", dict := dd, data := .dict es ep, slots := sl } ∧ s.heap.get? b = some { cls := .type "tuple", dict := dd2, data := .seq items2 n2, slots := sl2 } ∧ R (.ok (.ret .notImplemented)) s) :=
  .of_wp fun prog w A R s h => by obtain ⟨hp, g, d, tk, os⟩ := s; obtain ⟨hl, hb, h⟩ := h; have f1 := sub_tuple_dict; wp_walk using wpAny_loadPart' hl, wpAny_loadPart' hb; exact ⟨_, rfl, h⟩
theorem tuple_eq_declines_dict (l b : Addr) (es : Array DictEntry) (ep : Nat) (items2 : Array Value) (n2 : Nat) (dd dd2 : Option Addr) (sl sl2 : Array (Option Value)) :
    Meets (Builtin.«tuple.__eq__» ⟨[.ref b, .ref l], []⟩) (fun _ R s => s.heap.get? b = some { cls := .type "tuple", dict := dd2, data := .seq items2 n2, slots := sl2 } ∧ s.heap.get? l = some { cls := .type "dict", dict := dd, data := .dict es ep, slots := sl } ∧ R (.ok (.ret .notImplemented)) s) :=
  .of_wp fun prog w A R s h => by obtain ⟨hp, g, d, tk, os⟩ := s; obtain ⟨hl, hb, h⟩ := h; have f1 := sub_dict_tuple; wp_walk using wpAny_loadPart' hl, wpAny_loadPart' hb; exact ⟨_, rfl, h⟩
theorem eq_dict_tuple {A : Around} {s : Shared} {l b : Addr} {ol : Obj} {es : Array DictEntry} {ep : Nat} {items : Array Value} (hl : s.heap.get? l = some ol) (hc : ol.cls = .type "dict") (hd : ol.data = .dict es ep) (hb : s.heap.IsTuple b items) (hu : A.units < cLine) : RcAt A s (.ref l) (.ref b) false := fun prog w E Q h => by
  obtain ⟨cls, dd, data, sl⟩ := ol
  obtain ⟨⟨cls2, dd2, data2, sl2⟩, ho2, hc2, n2, hd2⟩ := id hb
  simp only at hc hd hc2 hd2
  subst hc hd hc2 hd2
  have hne : l ≠ b := fun e => by
    subst e
    have z := congrArg Obj.cls (Option.some.inj (hl.symm.trans ho2))
    exact absurd (show Value.type "dict" = Value.type "tuple" from z) (by decide)
  exact (rc_eq_decline_or (k := false) ⟨_, hl, rfl⟩ ⟨_, ho2, rfl⟩ (by decide) sub_tuple_dict F.slot_dict_eq F.slot_tuple_eq_refl
    (fun _ hq => call_meets F.slot_dict_eq ⟨_, hl, rfl⟩ F.entry_dict_eq (F.args_dict_eq_2 _ _) (dict_eq_declines_tuple l b es ep items n2 dd dd2 sl sl2) ⟨hl, ho2, hq⟩)
    (fun _ hq => call_meets F.slot_tuple_eq_refl ⟨_, ho2, rfl⟩ F.entry_tuple_eq (F.args_tuple_eq_2 _ _) (tuple_eq_declines_dict l b es ep items n2 dd dd2 sl sl2) ⟨ho2, hl, hq⟩)
    (fun _ hq => wpAny_isSame_ref_other hne hl ho2 (by simp) hq) (.inr hu) h)
end
def eqT (d e : D) : Option D := match d with
  | .dic _ _ => (match e with | .tup _ => some (.bl false) | _ => none)
  | d => eqD d e
theorem op_eqT {X : Cx} {im : Addr → Bool} (hu : X.A.units + 200 < cLine) : OpR X (compareOp .Eq) (rD2 X.K im eqT) := by
  intro pins s σ H x y v u Q I rx ry h
  obtain ⟨d, e, z, hd, he, hz, q⟩ := h
  have oth : eqT d e = eqD d e → wpAny (model X.prog X.w) X.A (compareOp .Eq v u) (EP X pins σ Q) X.xe s := fun q1 => by
    rw [q1] at hz
    exact op_eqDD hu pins s σ H x y v u Q I rx ry ⟨d, e, z, hd, he, hz, q⟩
  cases d with
  | dic ks ds =>
    cases e with
    | tup es =>
      cases hz
      cases hd with
      | @dic a o ks vs ds h1 h2 h3 =>
        cases he with
        | @tup b vs2 ds2 g1 g2 =>
          cases rx
          cases ry
          obtain ⟨k1, k2, k3, es', ep, ws, k4, _⟩ := I.frzK h1
          obtain ⟨its, rv, ht, _⟩ := I.tuple g1.q
          have := eq_dict_tuple (A := X.A) k2 k3.1 k4 ht (by omega)
          exact this X.prog X.w X.xe _ ⟨.bl false, H, I, rfl, q _ _ (Same.refl _) (.bl _)⟩
    | _ => cases hz
  | _ => exact oth rfl
end DL
namespace DL
open PySem PySem.Spec PyProof.Rows L2
section
variable {P : Program} {w : World} {K : PySem.W.Frag} {mg : Str → Option Value} {base : Heap} {im : Addr → Bool} {cA : Addr}
/-- what its __init__ promises -/
def spXI (K : PySem.W.Frag) (C : Addr) (nm : Str) : Sp := fun vs H Q _ => vs.length = 2 ∧ ∃ (a : Addr) (v : V), vs = [.ref a, v] ∧ H a = some (exo a C none) ∧ ∀ dx, H dx = none → dx ≠ a → Q .non (upd (upd H dx (exd dx [(nm, v)])) a (exo a C (some dx)))
theorem fn_XI {qual : Str} {st : Stmt} {f C : Addr} {fd : FuncData} {p1 p2 nm : Str} {k : Nat} (Fn : Fun K "__init__" qual st f fd) (Sc : FnScope [p1, p2] [p1, p2] (defScope st)) (T : OexC K C) (no : PySem.W.findIn K (.ref C) nm = some none)
    (hb : ∀ (cdv : Value) (A : Around) (outer : List Env) (s : Shared) (H : Hp) (Ex : XK), Room k (A.deeper (envOfC qual (defScope st) s.heap.objs.size f cdv)) →
      PSs (cxOf CX0 P w K mg base [p1, p2] qual (defScope st) f cdv A outer s H Ex).nox (defBody st) (tOst K nm (tVar 0) (tVar 1))) :
    FnOk P w K mg base CX0 (k + 1) f fd [p1, p2] (spXI K C nm) := by
  refine Fn.ok Sc (fun vs H Q Ex h => h.1) fun cdv A outer s H vs Q Ex hr h => ?_
  obtain ⟨_, a, v, rfl, ha, k⟩ := h
  exact ⟨_, hb cdv A outer s H Ex hr, v, rfl, .ref a, rfl, a, C, rfl, T, no, .inl ⟨ha, fun dx h1 h2 => k dx h1 h2⟩⟩
/-- what a def promises that may raise it -/
def spXF (K : PySem.W.Frag) (im : Addr → Bool) (n : Nat) (cA : Addr) (F : List D → R Unit D) : Sp := fun vs H Q Ex => vs.length = n ∧ ∃ ds, RepL K im H vs ds ∧ (match F ds with
  | .ok d _ => ∀ v H', Same H H' → Rep K im H' v d → Q v H'
  | .ex x _ => ∀ H' cls dd, Same H H' → ExRep K im H' cls dd x → Ex (.ref cA) dd H'
  | .no => False)
theorem fn_DXF {x qual : Str} {st : Stmt} {f : Addr} {fd : FuncData} {N ps : List Str} {k k' j : Nat} {F : S Unit} {F' : List D → R Unit D} (Fn : Fun K x qual st f fd) (Sc : FnScope N ps (defScope st))
    (ek : k' = k + 1) (ej : j = ps.length) (eF : F' = fun ds => runS F (startT N.length (ds.map .d)) ())
    (hb : ∀ (cdv : Value) (A : Around) (outer : List Env) (s : Shared) (H : Hp) (Ex : XK), Room k (A.deeper (envOfC qual (defScope st) s.heap.objs.size f cdv)) →
      ∃ t, PSs (cxOf (L2.CX P w) P w K mg base N qual (defScope st) f cdv A outer s H Ex) (defBody st) t ∧ DS (gam0 im) K (fun _ dd _ H' => Ex (.ref cA) dd H') t F) :
    FnOk P w K mg base (L2.CX P w) k' f fd ps (spXF K im j cA F') := by
  subst ek ej eF
  refine Fn.okX Sc (fun vs H Q Ex h => h.1) fun cdv A outer s H vs Q Ex hr h => ?_
  obtain ⟨hl, ds, r, h⟩ := h
  obtain ⟨t, ht, hd⟩ := hb cdv A outer s H Ex hr
  refine ⟨t, ht, ?_⟩
  have st : STT (gam0 im) K H H (start N vs) (startT N.length (ds.map .d)) := stt_start (by rw [List.length_map, r.length]) (fun i v c e1 e2 => by
    rw [List.getElem?_map] at e2
    cases q : ds[i]? with
    | none => rw [q] at e2; cases e2
    | some d =>
      rw [q] at e2; cases e2
      obtain ⟨v', e3, r'⟩ := r.get q
      rw [e1] at e3; cases e3
      exact .d r') (fun c hc _ xs e => by
    obtain ⟨d, _, rfl⟩ := List.mem_map.mp hc
    cases e) _
  refine hd H (start N vs) H () _ st trivial _ ?_
  unfold runS at h
  dsimp only at h
  cases q : F (startT N.length (ds.map .d)) () with
  | none => rw [q] at h; exact h.elim
  | some p =>
    obtain ⟨fl, ω'⟩ := p
    rw [q] at h
    cases fl with
    | nx τ => exact fun σ' H' _ s t => h .non H' (fun b o e => s.fr b o e id) .non
    | rt d => exact fun v H' _ k t r => h v H' (fun b o e => k b o e id) r
    | bk τ => exact h.elim
    | ct τ => exact h.elim
    | rs x τ => exact fun σ' H' _ s t cls dd er => h H' cls dd (fun b o e => s.fr b o e id) er
    | rl d => exact h.elim
end
section
variable {im : Addr → Bool} {Ω : Type} {G : Gam im Ω} {K : PySem.W.Frag} {cA : Addr} {nm : Str}
/-- raise X(e) -/
def sRsF (nm : Str) (Fr : E Ω (List D)) : S Ω := fun τ ω => match Fr τ ω with
  | .ok [d] ω1 => some (.rs ⟨0, [nm], [d]⟩ τ, ω1)
  | .ok _ _ => none
  | .ex x ω1 => some (.rs x τ, ω1)
  | .no => none
theorem ds_raiseF {Ex : XK} {ta : TA} {Fr : E Ω (List D)} (hr : DA G K (fun _ dd _ H' => Ex (.ref cA) dd H') ta Fr) :
    DS G K (fun _ dd _ H' => Ex (.ref cA) dd H') (fun _ σ H => tMkO cA (spXI K cA nm) [] ta σ H fun cls d H' => Ex cls d H') (sRsF nm Fr) := by
  intro H0 σ H ω τ s t D h
  unfold sRsF at h
  have hr' := hr H0 σ H ω τ s t
  cases e0 : Fr τ ω with
  | no => rw [e0] at h; exact h.elim
  | ex x ω1 =>
    rw [e0] at h hr'
    exact hr' _ (fun H' k a cls dd r => h σ H' (k.sb t) (s.step t k) a cls dd r)
  | ok ds ω1 =>
    rw [e0] at h hr'
    match ds, h, hr' with
    | [], h, _ => exact h.elim
    | _ :: _ :: _, h, _ => exact h.elim
    | [d], h, hr' =>
    refine hr' _ fun H1 k1 t1 vs r => ?_
    cases r with
    | @cons v vs' _ _ rv rn =>
    cases rn
    refine ⟨by simp, fun a ha => ⟨rfl, a, v, rfl, upd_same, fun dx h1 h2 => ?_⟩⟩
    have h1' : H1 dx = none := by rw [upd_ne h2] at h1; exact h1
    refine ⟨rfl, dx, [(nm, v)], upd_same, by rw [upd_ne h2, upd_same], h1', ?_⟩
    have same : Same H1 (upd (del (upd (upd (upd H1 a (exo a cA none)) dx (exd dx [(nm, v)])) a (exo a cA (some dx))) a) dx (.xd [(nm, v)])) := by
      intro b o e
      have n1 : b ≠ dx := fun z => by rw [z, h1'] at e; cases e
      have n2 : b ≠ a := fun z => by rw [z, ha] at e; cases e
      rw [upd_ne n1, del_ne n2, upd_ne n2, upd_ne n1, upd_ne n2]
      exact e
    exact h σ _ ((k1.sb t).trans (.of same)) (s.step t (k1.trans (.of same))) (At.same t1 same) (.ref 0) (some dx) ⟨rfl, .inr ⟨dx, [v], rfl, upd_same, rfl, .cons (rv.up (.of same)) .nil⟩⟩
/-- a call of a def that may raise it -/
def cDXF (F : List D → R Unit D) (a : E Ω (List D)) : E Ω D := fun τ ω => (a τ ω).bind fun xs ω1 => match F xs with
  | .ok d _ => .ok d ω1
  | .ex x _ => .ex x ω1
  | .no => .no
theorem dc_DXF {W : WX} {n : Nat} {F : List D → R Unit D} {tr : TA} {Fr : E Ω (List D)} (hr : DA G K (fun _ dd σ H => W (.ref cA) dd σ H) tr Fr) (hn : AN Fr n) :
    DE G K (fun _ dd σ H => W (.ref cA) dd σ H) (tCallS (spXF K im n cA F) (WE W) tr) (cDXF F Fr) := by
  intro H0 σ H ω τ s t Q h
  have hr' := hr H0 σ H ω τ s t
  cases e0 : Fr τ ω with
  | ok xs ω1 =>
    have hl := hn τ ω xs ω1 e0
    unfold cDXF at h
    rw [e0] at h hr'
    refine hr' _ fun H1 k1 t1 vs r => ?_
    have h1 : Res G (match F xs with | .ok d _ => .ok d ω1 | .ex x _ => .ex x ω1 | .no => (.no : R Ω D)) H (kD G K Q) (kX G K (fun _ dd σ H => W (.ref cA) dd σ H) σ) := h
    refine ⟨by rw [r.length, hl], xs, r, ?_⟩
    cases e : F xs with
    | ok d u =>
      rw [e] at h1
      exact fun v H' sm rv => h1 H' (k1.trans (.of sm)) (At.same t1 sm) v rv
    | ex x u =>
      rw [e] at h1
      exact fun H' cls dd sm er => h1 H' (k1.trans (.of sm)) (At.same t1 sm) cls dd er
    | no => rw [e] at h1; exact h1.elim
  | ex x ω1 =>
    unfold cDXF at h
    rw [e0] at h hr'
    exact hr' _ h
  | no => unfold cDXF at h; rw [e0] at h; exact h.elim
/-- the state in the suite: where the caught exception lies, what its field holds -/
def exG (G : Gam im Ω) (K : PySem.W.Frag) (a dd : Addr) (nm : Str) (v : V) (d0 : D) : Gam im Ω where
  At := fun ω H => G.At ω H ∧ H dd = some (.xd [(nm, v)]) ∧ Rep K im H v d0
  FP := fun b => G.FP b ∨ b = dd
  obj := .ref a
  keep := fun {ω H H'} ⟨h1, h2, h3⟩ k sb => ⟨G.keep h1 (fun b o f e => k b o (.inl f) e) sb, k _ _ (.inr rfl) h2, h3.up sb⟩
  nost := fun {ω H} ⟨h1, h2, _⟩ b o f e s => by
    rcases f with f | rfl
    · exact G.nost h1 b o f e s
    · rw [h2] at e
      cases e
      exact s
  trk := fun {ω H} ⟨h1, h2, _⟩ b f e => by
    rcases f with f | rfl
    · exact G.trk h1 b f e
    · rw [h2] at e
      cases e
/-- only plain data stays known -/
def offC (τ : Tau) : Tau := τ.map fun c => match c with
  | some (.d x) => some (.d x)
  | _ => none
def sTryAs (i : Nat) (nm : Str) (a : S Ω) (b : D → S Ω) : S Ω := fun τ ω => match a τ ω with
  | some (.rs x τ1, ω1) => (match x.ds with
    | [d] => if x.fs = [nm] then (match b d ((offC τ1).set i (some .src)) ω1 with
      | some (.rt r, ω2) => some (.rt r, ω2)
      | _ => none) else none
    | _ => none)
  | r => r
theorem stt_ex {a dd : Addr} {v : V} {d0 : D} {H0 H : Hp} {σ : L2.St} {τ : Tau} {i : Nat} (s : STT G K H0 H σ τ) :
    STT (exG G K a dd nm v d0) K H0 H (σ.set i (some (.ref a))) ((offC τ).set i (some .src)) := by
  refine ⟨by simp [offC, s.len], fun j u c e1 e2 => ?_, fun j l p k k' xs ys hne e1 e2 e3 e4 => ?_, fun b o e n => s.fr b o e fun f => n (.inl f)⟩
  · by_cases hj : j = i
    · subst hj
      have l1 : j < σ.length := by
        have := (List.getElem?_eq_some_iff.mp e1).1
        simpa using this
      have l2 : j < (offC τ).length := by
        have := (List.getElem?_eq_some_iff.mp e2).1
        simpa using this
      rw [List.getElem?_set_self l1] at e1
      rw [List.getElem?_set_self l2] at e2
      cases e1
      cases e2
      exact .src
    · rw [List.getElem?_set_ne (Ne.symm hj)] at e1 e2
      unfold offC at e2
      rw [List.getElem?_map] at e2
      cases q : τ[j]? with
      | none => rw [q] at e2; cases e2
      | some c' =>
        rw [q] at e2
        have s' := s.ok j u c' e1 q
        cases e2
        cases s' with
        | un => exact .un
        | d r => exact .d r
        | ow _ _ _ _ _ => exact .un
        | src => exact .un
  · by_cases hj : j = i
    · subst hj
      have l2 : j < (offC τ).length := by
        have := (List.getElem?_eq_some_iff.mp e2).1
        simpa using this
      rw [List.getElem?_set_self l2] at e2
      cases e2
    · rw [List.getElem?_set_ne (Ne.symm hj)] at e2
      unfold offC at e2
      rw [List.getElem?_map] at e2
      cases q : τ[j]? with
      | none => rw [q] at e2; cases e2
      | some c' =>
        rw [q] at e2
        rcases c' with _ | (_ | _ | _) <;> cases e2
theorem ds_tryAs {W Wout : WX} {tb : WX → TS} {ts : Addr → Value → Option Addr → TS} {Fb : S Ω} {Fh : D → S Ω} {i : Nat} (hb : ∀ W : WX, DS G K (fun _ dd σ H => W (.ref cA) dd σ H) (tb W) Fb)
    (hh : ∀ (a dd : Addr) (v : V) (d0 : D), DS (exG G K a dd nm v d0) K (fun _ _ _ _ => False) (ts a (.ref cA) (some dd)) (Fh d0)) (hm : PySem.W.exmOne K (.ref cA) (.ref cA) = some true) :
    DS G K W (fun D σ H => tb (wAs K (.ref cA) i ts Wout D) D σ H) (sTryAs i nm Fb Fh) := by
  intro H0 σ H ω τ s t D h
  refine hb (wAs K (.ref cA) i ts Wout D) H0 σ H ω τ s t D ?_
  unfold sTryAs at h
  cases q : Fb τ ω with
  | none => rw [q] at h; exact h.elim
  | some p =>
    obtain ⟨fl, ω'⟩ := p
    rw [q] at h
    cases fl with
    | nx τ => exact h
    | rt d => exact h
    | bk τ => exact h
    | ct τ => exact h
    | rl d => exact h
    | rs x τ1 =>
      intro σ' H' sb s' t' cls dd er
      refine ⟨true, hm, fun _ a _ => ?_, fun z => by cases z⟩
      obtain ⟨c, fs, ds⟩ := x
      dsimp only at h
      match ds, h with
      | [], h => exact h.elim
      | _ :: _ :: _, h => exact h.elim
      | [d0], h =>
      dsimp only at h
      by_cases hf : fs = [nm]
      case neg => rw [if_neg hf] at h; exact h.elim
      subst hf
      rw [if_pos rfl] at h
      rcases er with ⟨_, ⟨z, _⟩ | ⟨d', vs, rfl, hd, hl, rl⟩⟩
      · cases z
      match vs, hl, rl, hd with
      | [v], _, rl, hd =>
      have rv : Rep K im H' v d0 := by cases rl with | cons r _ => exact r
      have hd' : H' d' = some (.xd [(nm, v)]) := hd
      refine hh a d' v d0 H0 _ H' ω' _ (stt_ex s') ⟨t', hd', rv⟩ _ ?_
      cases q2 : Fh d0 ((offC τ1).set i (some .src)) ω' with
      | none => rw [q2] at h; exact h.elim
      | some p2 =>
        obtain ⟨fl2, ω2⟩ := p2
        rw [q2] at h
        cases fl2 with
        | rt r =>
          intro v' H'' sb2 kp at2 rv2
          refine h v' H'' (sb.trans sb2) (fun b o e n => ?_) at2.1 rv2
          by_cases hb2 : b = d'
          · subst hb2
            have e1 := s'.fr b o e n
            rw [hd'] at e1
            rw [at2.2.1]
            exact e1
          · exact kp b o e fun f => f.elim n hb2
        | nx τ => exact h.elim
        | bk τ => exact h.elim
        | ct τ => exact h.elim
        | rl d => exact h.elim
        | rs x τ => exact h.elim
/-- e.f -/
def eXf (i : Nat) (d0 : D) : E Ω D := fun τ ω => match τ[i]? with
  | some (some .src) => .ok d0 ω
  | _ => .no
theorem de_xf {W : WX} {a dd : Addr} {v : V} {d0 : D} {i : Nat} : DE (exG G K a dd nm v d0) K W (tXf a (.ref cA) (some dd) cA nm (tVar i)) (eXf i d0) := by
  intro H0 σ H ω τ s t Q h
  unfold eXf at h
  split at h
  · rename_i hx
    exact ⟨.ref a, s.getS hx, rfl, rfl, dd, [(nm, v)], v, rfl, t.2.1, by simp [List.lookup], h H .refl t v t.2.2⟩
  · exact h.elim
/-- isinstance(e, c) -/
def rIsD (K : PySem.W.Frag) (C a : Addr) (cls : Value) (d : Option Addr) : List V → Hp → VK → Prop := fun xs H Q => ∃ (c : V) (cv : Value) (b : Bool) (dd : Addr) (fs : List (Str × V)),
  xs = [.ref a, c] ∧ (∀ u, RelV c u → u = cv) ∧ cls = .ref C ∧ d = some dd ∧ H dd = some (.xd fs) ∧ PySem.W.kitOne K (.ref C) cv = some b ∧ Q (.bl b) H
def eIsE (i : Nat) (b : Bool) : E Ω D := fun τ ω => match τ[i]? with
  | some (some .src) => .ok (.bl b) ω
  | _ => .no
theorem de_isE {W : WX} {a dd : Addr} {v : V} {d0 : D} {i : Nat} {b : Bool} {c : V} {cv : Value} (hc : ∀ u, RelV c u → u = cv) (hk : PySem.W.kitOne K (.ref cA) cv = some b) :
    DE (exG G K a dd nm v d0) K W (tCB (rIsD K cA a (.ref cA) (some dd)) (tCons (tVar i) (tCons (tC c) tNil))) (eIsE i b) := by
  intro H0 σ H ω τ s t Q h
  unfold eIsE at h
  split at h
  · rename_i hx
    exact ⟨.ref a, s.getS hx, c, cv, b, dd, [(nm, v)], rfl, hc, rfl, rfl, t.2.1, hk, h H .refl t (.bl b) (.bl b)⟩
  · exact h.elim
end
/-- isinstance of a caught exception that has fields -/
theorem call_isED {X : Cx} {a C : Addr} {oe : Obj} {cls : Value} {d : Option Addr} {pn : List (Addr × Obj)} (T : ExcC X.K C) (hz : Zc cls d oe) (hf : ∃ vs, oe.data = .fields vs) :
    CallR (X.suite a ((a, oe) :: pn)) (.builtin "isinstance") (rIsD X.K C a cls d) := by
  rintro pins s σ H xs us Q I r ⟨c, cv, b, dd, fs, rfl, hcv, rfl, rfl, hd, e, q⟩
  cases r with
  | cons rx rr =>
  cases rr with
  | cons rt rr =>
  cases rr
  cases rx
  obtain rfl := hcv _ rt
  have pin := (I.pin (a, oe) (List.mem_append_left _ List.mem_cons_self)).1
  obtain ⟨mA, hns, _⟩ := (show ObjOk X.prog X.w H s.heap dd (.xd fs) from I.hok dd _ hd)
  obtain ⟨od, ho, _⟩ := lookIn_ns hns
  obtain ⟨vs, hv⟩ := hf
  have J : PySem.W.InstAt s.heap a oe C (some od) := by
    refine ⟨pin, hz.1, ?_, by rw [hz.2]; exact ho⟩
    unfold PySem.W.notCls
    rw [hv] <;> rfl
  have cl : (PySem.W.clsIn X.K C).isSome = true := by
    have h := T.hd
    unfold PySem.W.hasDictIn at h
    obtain ⟨x, hx, _⟩ := PySem.W.any_some h
    rw [hx]; rfl
  exact PySem.W.kia_one (PySem.W.kitx_exc cl T.hg T.hk T.hs T.ha T.hn T.ht T.hm) I.kIn J e (fun z => nomatch z) fun n => ⟨.bl b, H, I.kept (t' := n) fun _ _ y => y, rfl, q⟩
end DL
namespace DL
open PySem PySem.Spec PyProof.Rows L2 LamX
section
variable {im : Addr → Bool} {Ω : Type} {K : PySem.W.Frag}
variable {Pp : Type} {Γ : Pp → Gam im Ω} {G : Gam im Ω} {W : WX} {cA P : Addr} {nm : Str} {t : TE} {Fb : E Ω D}
theorem de_actF {p : Pp} {H0 H1 : Hp} {σ : L2.St} {τ : Tau} {ω1 : Ω} {f c' : Addr} (s : STT (Γ p) K H0 H1 σ τ) (t1 : (Γ p).At ω1 H1) (W : WX) :
    DE (lamG (Γ p) f c' nm H1) K (fun _ dd σ H => W (.ref cA) dd σ H) (tAct 0 f c' nm W fun E H' Q' => tSem Γ K (fun _ dd _ H => E (.ref cA) dd H) Fb σ H' Q') (eAct (Fb τ)) := by
  intro H0' σZ HZ ωZ τZ sZ tZ Q h
  unfold eAct at h
  split at h
  · rename_i hx
    refine ⟨sZ.getS hx, tZ.2.1, p, H0, ωZ, τ, s.step t1 tZ.2.2, tZ.1, ?_⟩
    have upAt : ∀ {ω' H'}, Kp (Γ p) HZ H' → (Γ p).At ω' H' → (lamG (Γ p) f c' nm H1).At ω' H' := fun k a => ⟨a, (k.sb tZ.1) _ _ tZ.2.1 (by unfold CodeO; trivial), tZ.2.2.trans k⟩
    have upK : ∀ {H'}, Kp (Γ p) HZ H' → Kp (lamG (Γ p) f c' nm H1) HZ H' := fun k b o e n => k b o e fun z => n (.inl z)
    cases e : Fb τ ωZ with
    | no => rw [e] at h; exact h.elim
    | ok d ω2 =>
      rw [e] at h
      exact fun H' k a v r => h H' (upK k) (upAt k a) v r
    | ex x ω2 =>
      rw [e] at h
      exact fun H' k a cls dd r => h H' (upK k) (upAt k a) cls dd r
  · exact h.elim
theorem pe_lamF {X : Cx} {c g : Addr} {x a : Str} {fd : FuncData} {st : Stmt} {Ng : List Str} {k n : Nat} {params : Arguments} {body : Expr} {scope : Scope} {Fd : (Ω → R Ω D) → S Ω} {p lpos pos : Pos} (HT : ∀ p, HasT (Γ p) P nm) (hn : n = Ng.length)
    (hg : Gl X x) (hm : X.mg x = some (.ref g)) (Fn : Fun X.K x x st g fd) (hb : L2.Binds X.K fd [a] []) (Sg : FnScope Ng [a] (defScope st)) (hNg : Ng[0]? = some a) (hva : Vis (defScope st) a)
    (TB : TabB X.base X.mg c P) (hcode : X.env.code = .ref c) (en : X.env.qual ++ "<lambda>" = nm) (hr : Room (k + 2) X.A) (L : LamS X.env.scope scope) (hdef : defaultsOf params X.env = ([], []))
    (hbind : ∀ (cl : List (Str × Addr)) (pm cv ctv : Value), bindArgs (PySem.W.kla_fn "<lambda>" nm params body scope cl pm cv ctv) ⟨[], []⟩ = pure [])
    (hbody : ∀ (A : Around) (outer : List Env) (s : Shared) (H : Hp) (E : XK) (f c' : Addr), Room k (A.deeper (lamEnv X scope s.heap.objs.size f c')) →
      ∃ t, PE (lamCx X A outer s H E scope f c') body t ∧ ∀ p, DE (Γ p) X.K (fun _ dd _ H => E (.ref cA) dd H) t Fb)
    (hdefn : ∀ (cdv : Value) (s : Shared) (H : Hp) (tact : WX → TE), (∀ (pn : List (Addr × Obj)) (xe : Value → Shared → Prop) (W : WX) (p1 p2 : Pos), Takes ((cxOf CX0 X.prog X.w X.K X.mg X.base Ng x (defScope st) g cdv X.A X.stack s H E0).tr pn xe) W →
        PE ((cxOf CX0 X.prog X.w X.K X.mg X.base Ng x (defScope st) g cdv X.A X.stack s H E0).tr pn xe) (.Call (.Name a p1) [] [] p2) (tact W)) →
      ∃ t, PSs (cxOf CX0 X.prog X.w X.K X.mg X.base Ng x (defScope st) g cdv X.A X.stack s H E0).nox (defBody st) t ∧
        ∀ (G' : Gam im Ω) (r : Ω → R Ω D), (∀ W : WX, DE G' X.K (fun _ dd σ H => W (.ref cA) dd σ H) (tact W) (eAct r)) → DS G' X.K (fun _ _ _ _ => False) t (Fd r))
    (hdb : (x == ("__debug__" : Str)) = false := by decide) (hd : (a == ("__debug__" : Str)) = false := by decide) (hcd : (a == ("__classdict__" : Str)) = false := by decide) :
    PE X (.Call (.Name x p) [.Lambda params body scope lpos] [] pos) (tSem Γ X.K W (cLam n Fd Fb)) := by
  subst hn
  constructor
  rintro pins s σ H Q I ⟨q0, H0, ω, τ, stt, at0, h⟩
  obtain ⟨oc, od, kV, doc, pm, an, cdv, ct, osl, rfl, found, code⟩ := Fn.ex
  apply wpAny_Call_Name_kw
  refine ld_glob I hg hm ?_ hdb
  refine PySem.W.callWith_K I.ok.mod.kin Fn.kp ?_ (by rfl) (by rfl)
  show wpAny _ _ (spliced ((false, eval (.Lambda params body scope lpos) X.env) :: backTo pos (starEach [] X.env))) _ _ s
  apply Calls.spliced_cons
  refine lam_mk I TB hcode en ((HT q0).tab at0) hdef (L.has I.ok) ?_
  intro f c' pm' ctv H1 s' I1 ext tab1 M
  apply Calls.spliced_nil
  refine ⟨I1.kIn, ?_⟩
  apply wpAny_call
  refine codeAny_mono (run_ofS (CX := CX0) (Q := Q) (E := E0) (N := Ng) (ps := [a]) (us := [.ref f]) (vs := [.ref f]) found code Sg hr I1.env0 (hb s' [.ref f] I1.kIn rfl) (.cons rfl .nil) rfl ?_) ?_
  · intro room
    have act := fun pn xe W p1 p2 tk => pe_do (W := W) (pn := pn) (xe := xe) (p1 := p1) (p2 := p2) (Eg := E0) (i := 0) (tb := fun E => tSem Γ X.K (fun _ dd _ H => E (.ref cA) dd H) Fb) I1 L en M (hbind _ _ _ _) tk room
      (fun A outer s H E hr2 => by
        obtain ⟨t, h1, h2⟩ := hbody A outer s H E f c' hr2
        exact pe_sem h1 h2) hNg hva hd hcd
    obtain ⟨t, ps, ds⟩ := hdefn cdv s' H1 _ act
    refine ⟨t, ps.nox, ?_⟩
    have a1 : (Γ q0).At ω H1 := (HT q0).ext at0 ext tab1
    have kp : Kp (Γ q0) H H1 := fun b o e n => ext b o e fun z => n (z ▸ (HT q0).fp)
    have D := ds (lamG (Γ q0) f c' nm H1) (Fb τ) fun W => de_actF (stt.step at0 kp) a1 W
    have st : STT (lamG (Γ q0) f c' nm H1) X.K H1 H1 (start Ng [.ref f]) (startT Ng.length [.src]) := stt_start (by simp) (fun i v c e1 e2 => by
      cases i with
      | zero => simp at e1 e2; subst e1 e2; exact .src
      | succ i => simp at e1) (fun c hc _ xs e => by
      rw [List.mem_singleton.mp hc] at e
      cases e) _
    refine D H1 (start Ng [.ref f]) H1 ω _ st ⟨a1, M.co, .refl⟩ _ ?_
    unfold cLam runS at h
    cases q : Fd (Fb τ) (startT Ng.length [.src]) ω with
    | none => rw [q] at h; exact h.elim
    | some p' =>
      obtain ⟨fl, ω'⟩ := p'
      rw [q] at h
      cases fl with
      | nx τ => exact fun σ' H' _ s t => h H' (kp.trans t.2.2) t.1 .non .non
      | rt d => exact fun v H' _ k t r => h H' (kp.trans t.2.2) t.1 v r
      | bk τ => exact h.elim
      | ct τ => exact h.elim
      | rs x τ => exact h.elim
      | rl d => exact h.elim
  · intro r s2 out
    match r, out with
    | .error e, out => exact out.elim
    | .ok (.ret u), out => exact I1.after out
    | .ok .next, out => exact out.elim
    | .ok .brk, out => exact out.elim
    | .ok .cont, out => exact out.elim
end
theorem kit_sub {K : PySem.W.Frag} {t : Value} {C : Addr} (h1 : PySem.W.isClsIn K C = true) (h2 : PySem.W.typeIn K (.ref C) = some (.type "type")) (h3 : PySem.W.subIn K t (.ref C) = some true) : PySem.W.kitOne K t (.ref C) = some true := by
  unfold PySem.W.kitOne
  split
  · rfl
  · unfold PySem.W.kitCls
    have z : (PySem.W.clsIn K C).isSome = true := h1
    dsimp only
    rw [h2, z, if_pos (by rw [Bool.true_and]; exact beq_self_eq_true _)]
    exact h3
theorem kit_ty {K : PySem.W.Frag} {t : Value} {T : String} (h1 : PySem.W.kitMeta T = true) (h3 : PySem.W.subIn K t (.type T) = some true) : PySem.W.kitOne K t (.type T) = some true := by
  unfold PySem.W.kitOne
  split
  · rfl
  · unfold PySem.W.kitCls
    dsimp only
    rw [if_pos h1]
    exact h3
end DL
namespace Lk
open PySem L2 DL
def topS (i : Nat) : Stmt := PySem.Challenge.pw_lumpplans_k18_behind_cuts.main.body.getD i (.Pass ⟨0, 0, 0, 0⟩)
abbrev s_is_integer : Stmt := topS 4
abbrev s_is_number : Stmt := topS 5
abbrev s_table_size : Stmt := topS 7
abbrev s_entry : Stmt := topS 8
abbrev s_stretches : Stmt := topS 10
abbrev s_note_parts : Stmt := topS 11
abbrev s_lump_parts : Stmt := topS 12
abbrev s_stretch_faults : Stmt := topS 14
abbrev s_above_from : Stmt := topS 15
abbrev s_above : Stmt := topS 16
abbrev s_first_stretch_counter : Stmt := topS 17
abbrev s_first_above_counter : Stmt := topS 18
abbrev s_entries_counter : Stmt := topS 19
abbrev s_counter : Stmt := topS 20
abbrev s_table_above : Stmt := topS 21
abbrev s_behind : Stmt := topS 22
abbrev s_is_stretch_counter : Stmt := topS 23
abbrev s_is_above_counter : Stmt := topS 24
abbrev s_judge_entries_counter : Stmt := topS 25
abbrev s_judge_counter : Stmt := topS 26
abbrev s_law_source : Stmt := topS 28
abbrev s_law_pick : Stmt := topS 29
abbrev s_law_of : Stmt := topS 30
abbrev s_law_size : Stmt := topS 31
abbrev s_law_shape : Stmt := topS 32
abbrev s_law_table : Stmt := topS 33
abbrev s_law_entry : Stmt := topS 34
abbrev s_law_stretches : Stmt := topS 35
abbrev s_law_filled : Stmt := topS 36
abbrev s_law_glued : Stmt := topS 37
abbrev s_law_lumps : Stmt := topS 38
abbrev s_law_wrong : Stmt := topS 39
abbrev s_law_above : Stmt := topS 40
abbrev s_law_counters : Stmt := topS 41
abbrev s_law_behind : Stmt := topS 42
abbrev s_law_stirred : Stmt := topS 43
abbrev s_law_bent : Stmt := topS 44
abbrev s_law_retopped : Stmt := topS 45
abbrev s_law_some_table : Stmt := topS 46
abbrev s_law_told : Stmt := topS 47
abbrev s_law : Stmt := topS 48
abbrev s_XI : Stmt := inClass (topS 2) 0
/-- the source's first state -/
def mixedOf (ns : List Int) : Int := ns.foldl (fun m c => (m * 69069 + c * 31 + 5) % 2147483629) 11
def srcOf (ns : List Int) : Src := { cells := ns.map fun i => if i < 0 then -i else i, left := 1, mixed := mixedOf ns, turn := 0 }
def spSource (K : PySem.W.Frag) (im : Addr → Bool) : Sp := fun vs H Q _ => ∃ (a : Addr) (ns : List Int), vs = [.ref a] ∧ SqL K H a (ns.map V.int) ∧ ns.length ≤ 100000 ∧
  ∀ p H', Same H H' → H p.1 = none → H p.2 = none → (srcG im p).At (srcOf ns) H' → Q (.ref p.1) H'
def B_is_integer : S Unit :=
  (sRet (eAnd (eUn (isiD "int") (eVar 0)) (eNot (eUn (isiD "bool") (eVar 0)))))
def F_is_integer : List D → R Unit D := fun ds => nox (runS B_is_integer (startT 1 (ds.map .d)) ())
def B_is_number : S Unit :=
  (sRet (eAnd (cD F_is_integer (aCons (eVar 0) aNil)) (eOp geD (eVar 0) (eC (.int 0)))))
def F_is_number : List D → R Unit D := fun ds => nox (runS B_is_number (startT 1 (ds.map .d)) ())
def B_table_size : S Unit :=
  (sRet (eOp addD (eCall (un1 lenD) (aCons (eVar 0) aNil)) (eC (.int 1))))
def F_table_size : List D → R Unit D := fun ds => nox (runS B_table_size (startT 1 (ds.map .d)) ())
def B_entry : S Unit :=
  (sSeq (sIf (eB (eOp eqD (eVar 1) (eC (.int 1)))) (sRet (eTup aNil)) sNx)
    (sRet (eOp ixD (eVar 0) (eOp subD (eVar 1) (eC (.int 2))))))
def F_entry : List D → R Unit D := fun ds => nox (runS B_entry (startT 2 (ds.map .d)) ())
def B_stretches : S Unit :=
  (sRet (eFrz (eLc [2] (iRg rg3 (aCons (eC (.int 0)) (aCons (eVar 0) (aCons (eVar 1) aNil)))) (bName 2) bYes (eTup (aCons (eVar 2) (aCons (eCall (bi2 min2D) (aCons (eOp addD (eVar 2) (eVar 1)) (aCons (eVar 0) aNil))) aNil))))))
def F_stretches : List D → R Unit D := fun ds => nox (runS B_stretches (startT 3 (ds.map .d)) ())
def B_note_parts (rec : List D → OW → R OW D) : S OW :=
  (sSeq (sAsg (eOp addD (eVar 1) (eC (.int 1))) (bName 3))
    (sSeq (sIf (eB (eOp neD (eVar 0) (eTup aNil))) (sSeq (sAsg (cW rec 2 (aCons (eOp ixD (eVar 0) (eC (.int 0))) (aCons (eVar 1) aNil))) (bName 4))
    (sAsg (cW rec 2 (aCons (eOp ixD (eVar 0) (eC (.int 1))) (aCons (eVar 4) aNil))) (bName 3))) sNx)
    (sSeq (sPutTs 2 (aCons (eVar 1) (aCons (eVar 3) aNil)) (eVar 0))
    (sRet (eVar 3)))))
def F_note_parts : Nat → List D → OW → R OW D
  | 0 => fun _ _ => .no
  | n + 1 => fun ds ω => nox (runS (B_note_parts (F_note_parts n)) (startT 5 (cellsJ 2 ds)) ω)
def B_lump_parts : S Unit :=
  (sSeq (sNewT 1)
    (sSeq (sCallW (F_note_parts 70) 1 (aCons (eVar 0) (aCons (eC (.int 0)) aNil)) fun _ τ => some τ)
    (sRetW 1)))
def F_lump_parts : List D → R Unit D := fun ds => nox (runS B_lump_parts (startT 2 (ds.map .d)) ())
def B_stretch_faults : S Unit :=
  (sSeq (sAsg (cD F_lump_parts (aCons (cD F_entry (aCons (eVar 0) (aCons (eVar 2) aNil))) aNil)) (bName 3))
    (sSeq (sSetO (eLst aNil) 4)
    (sSeq (sFor (iSq (cD F_stretches (aCons (eVar 2) (aCons (eVar 1) aNil)))) (bTup 2 (bCons (bName 5) (bCons (bName 6) bNil))) (sIf (eB (eDiT (fun b => !b) (pT 3) (aCons (eVar 5) (aCons (eVar 6) aNil)))) (sApp 4 (eC (.str "lump"))) (sIf (eB (eOp neD (eDgT (pT 3) (aCons (eVar 5) (aCons (eVar 6) aNil))) (cD F_entry (aCons (eVar 0) (aCons (eOp subD (eVar 6) (eVar 5)) aNil))))) (sApp 4 (eC (.str "shape"))) (sApp 4 (eC .non)))))
    (sRetO 4))))
def F_stretch_faults : List D → R Unit D := fun ds => nox (runS B_stretch_faults (startT 7 (ds.map .d)) ())
def B_above_from (rec : List D → R Unit D) : S Unit :=
  (sSeq (sIf (eB (eOp eqD (eVar 0) (eTup aNil))) (sRet (eTup (aCons (eTup aNil) (aCons (eOp addD (eVar 2) (eC (.int 1))) aNil)))) sNx)
    (sSeq (sAsg (cD rec (aCons (eOp ixD (eVar 0) (eC (.int 0))) (aCons (eVar 1) (aCons (eVar 2) aNil)))) (bTup 2 (bCons (bName 3) (bCons (bName 4) bNil))))
    (sSeq (sAsg (cD rec (aCons (eOp ixD (eVar 0) (eC (.int 1))) (aCons (eVar 1) (aCons (eVar 4) aNil)))) (bTup 2 (bCons (bName 5) (bCons (bName 6) bNil))))
    (sSeq (sIf (eB (eOp eqD (eOp fdivD (eVar 2) (eVar 1)) (eOp fdivD (eOp subD (eVar 6) (eC (.int 1))) (eVar 1)))) (sRet (eTup (aCons (eTup aNil) (aCons (eVar 6) aNil)))) sNx)
    (sRet (eTup (aCons (eTup (aCons (eVar 3) (aCons (eVar 5) aNil))) (aCons (eVar 6) aNil))))))))
def F_above_from : Nat → List D → R Unit D
  | 0 => fun _ => .no
  | n + 1 => fun ds => nox (runS (B_above_from (F_above_from n)) (startT 7 (ds.map .d)) ())
def B_above : S Unit :=
  (sSeq (sAsg (cD (F_above_from 70) (aCons (eVar 0) (aCons (eVar 1) (aCons (eC (.int 0)) aNil)))) (bTup 2 (bCons (bName 2) (bCons (bName 3) bNil))))
    (sRet (eVar 2)))
def F_above : List D → R Unit D := fun ds => nox (runS B_above (startT 4 (ds.map .d)) ())
def B_first_stretch_counter : S Unit :=
  (sSeq (sFor (iRg rg2 (aCons (eC (.int 2)) (aCons (eOp addD (cD F_table_size (aCons (eVar 0) aNil)) (eC (.int 1))) aNil))) (bName 2) (sFor (iEn (cD F_stretch_faults (aCons (eVar 0) (aCons (eVar 1) (aCons (eVar 2) aNil))))) (bTup 2 (bCons (bName 3) (bCons (bName 4) bNil))) (sIf (eB (eOp notND (eVar 4) (eC .non))) (sRet (eTup (aCons (eVar 4) (aCons (eVar 2) (aCons (eVar 3) aNil))))) sNx)))
    (sRet (eC .non)))
def F_first_stretch_counter : List D → R Unit D := fun ds => nox (runS B_first_stretch_counter (startT 5 (ds.map .d)) ())
def B_first_above_counter : S Unit :=
  (sSeq (sFor (iRg rg2 (aCons (eOp addD (eVar 1) (eC (.int 1))) (aCons (eOp addD (cD F_table_size (aCons (eVar 0) aNil)) (eC (.int 1))) aNil))) (bName 2) (sSeq (sAsg (eOp addD (eOp mulD (eOp fdivD (eOp subD (eVar 2) (eC (.int 1))) (eVar 1)) (eVar 1)) (eC (.int 1))) (bName 3))
    (sIf (eB (eOp neD (cD F_above (aCons (cD F_entry (aCons (eVar 0) (aCons (eVar 3) aNil))) (aCons (eVar 1) aNil))) (cD F_above (aCons (cD F_entry (aCons (eVar 0) (aCons (eVar 2) aNil))) (aCons (eVar 1) aNil))))) (sRet (eTup (aCons (eC (.str "above")) (aCons (eVar 3) (aCons (eVar 2) aNil))))) sNx)))
    (sRet (eC .non)))
def F_first_above_counter : List D → R Unit D := fun ds => nox (runS B_first_above_counter (startT 4 (ds.map .d)) ())
def B_entries_counter : S Unit :=
  (sSeq (sAsg (cD F_first_stretch_counter (aCons (eVar 0) (aCons (eVar 1) aNil))) (bName 2))
    (sSeq (sIf (eB (eOp isND (eVar 2) (eC .non))) (sAsg (cD F_first_above_counter (aCons (eVar 0) (aCons (eVar 1) aNil))) (bName 2)) sNx)
    (sRet (eVar 2))))
def F_entries_counter : List D → R Unit D := fun ds => nox (runS B_entries_counter (startT 3 (ds.map .d)) ())
def B_counter : S Unit :=
  (sSeq (sIf (eB (eOp neD (eOp modD (cD F_table_size (aCons (eVar 0) aNil)) (eVar 1)) (eC (.int 0)))) (sRet (eTup (aCons (eC (.str "size")) aNil))) sNx)
    (sRet (cD F_entries_counter (aCons (eVar 0) (aCons (eVar 1) aNil)))))
def F_counter : List D → R Unit D := fun ds => nox (runS B_counter (startT 2 (ds.map .d)) ())
def B_table_above : S Unit :=
  (sRet (eCall (un1 tupleD) (aCons (eFrz (eLc [3] (iRg rg2 (aCons (eC (.int 2)) (aCons (eOp addD (eVar 2) (eC (.int 1))) aNil))) (bName 3) bYes (cD F_above (aCons (cD F_entry (aCons (eVar 0) (aCons (eOp mulD (eVar 1) (eVar 3)) aNil))) (aCons (eVar 1) aNil))))) aNil)))
def F_table_above : List D → R Unit D := fun ds => nox (runS B_table_above (startT 4 (ds.map .d)) ())
def B_behind : S Unit :=
  (sSeq (sAsg (cD F_counter (aCons (eVar 0) (aCons (eVar 1) aNil))) (bName 2))
    (sSeq (sIf (eB (eOp notND (eVar 2) (eC .non))) sNo sNx)
    (sRet (cD F_table_above (aCons (eVar 0) (aCons (eVar 1) (aCons (eOp fdivD (cD F_table_size (aCons (eVar 0) aNil)) (eVar 1)) aNil)))))))
def F_behind : List D → R Unit D := fun ds => nox (runS B_behind (startT 3 (ds.map .d)) ())
def BX_behind : S Unit :=
  (sSeq (sAsg (cD F_counter (aCons (eVar 0) (aCons (eVar 1) aNil))) (bName 2))
    (sSeq (sIf (eB (eOp notND (eVar 2) (eC .non))) (sRsF "counter" (aCons (eVar 2) aNil)) sNx)
    (sRet (cD F_table_above (aCons (eVar 0) (aCons (eVar 1) (aCons (eOp fdivD (cD F_table_size (aCons (eVar 0) aNil)) (eVar 1)) aNil)))))))
def FX_behind : List D → R Unit D := fun ds => runS BX_behind (startT 3 (ds.map .d)) ()
def B_is_stretch_counter : S Unit :=
  (sSeq (sAsg (cD F_stretch_faults (aCons (eVar 0) (aCons (eVar 1) (aCons (eVar 3) aNil)))) (bName 5))
    (sRet (eAnd (eOp ltD (eVar 4) (eCall (un1 lenD) (aCons (eVar 5) aNil))) (eOp eqD (eOp ixD (eVar 5) (eVar 4)) (eVar 2)))))
def F_is_stretch_counter : List D → R Unit D := fun ds => nox (runS B_is_stretch_counter (startT 6 (ds.map .d)) ())
def B_is_above_counter : S Unit :=
  (sSeq (sIf (bOr (eB (eOp geD (eVar 2) (eVar 3))) (eB (eOp neD (eCall (un1 lenD) (aCons (cD F_stretches (aCons (eVar 2) (aCons (eVar 1) aNil))) aNil)) (eCall (un1 lenD) (aCons (cD F_stretches (aCons (eVar 3) (aCons (eVar 1) aNil))) aNil))))) (sRet (eC (.bl false))) sNx)
    (sSeq (sFor (iSq (eTup (aCons (eVar 2) (aCons (eVar 3) aNil)))) (bName 4) (sIf (eB (eCall (un1 anyD) (aCons (eFrz (eLc [5] (iSq (cD F_stretch_faults (aCons (eVar 0) (aCons (eVar 1) (aCons (eVar 4) aNil))))) (bName 5) bYes (eOp notND (eVar 5) (eC .non)))) aNil))) (sRet (eC (.bl false))) sNx))
    (sRet (eOp neD (cD F_above (aCons (cD F_entry (aCons (eVar 0) (aCons (eVar 2) aNil))) (aCons (eVar 1) aNil))) (cD F_above (aCons (cD F_entry (aCons (eVar 0) (aCons (eVar 3) aNil))) (aCons (eVar 1) aNil)))))))
def F_is_above_counter : List D → R Unit D := fun ds => nox (runS B_is_above_counter (startT 6 (ds.map .d)) ())
def B_judge_entries_counter : S Unit :=
  (sSeq (sIf (bOr (bNot (eB (eUn (isiD "tuple") (eVar 2)))) (eB (eOp neD (eCall (un1 lenD) (aCons (eVar 2) aNil)) (eC (.int 3))))) (sRet (eC (.bl false))) sNx)
    (sSeq (sAsg (eVar 2) (bTup 3 (bCons (bName 3) (bCons (bName 4) (bCons (bName 5) bNil)))))
    (sSeq (sIf (bOr (bNot (eB (cD F_is_number (aCons (eVar 4) aNil)))) (bOr (bNot (eB (eChain leD leD (eC (.int 2)) (eVar 4) (cD F_table_size (aCons (eVar 0) aNil))))) (bNot (eB (cD F_is_number (aCons (eVar 5) aNil)))))) (sRet (eC (.bl false))) sNx)
    (sSeq (sIf (bOr (eB (eOp eqD (eVar 3) (eC (.str "lump")))) (eB (eOp eqD (eVar 3) (eC (.str "shape"))))) (sRet (cD F_is_stretch_counter (aCons (eVar 0) (aCons (eVar 1) (aCons (eVar 3) (aCons (eVar 4) (aCons (eVar 5) aNil))))))) sNx)
    (sSeq (sIf (bAnd (eB (eOp eqD (eVar 3) (eC (.str "above")))) (eB (eOp leD (eVar 5) (cD F_table_size (aCons (eVar 0) aNil))))) (sRet (cD F_is_above_counter (aCons (eVar 0) (aCons (eVar 1) (aCons (eVar 4) (aCons (eVar 5) aNil)))))) sNx)
    (sRet (eC (.bl false))))))))
def F_judge_entries_counter : List D → R Unit D := fun ds => nox (runS B_judge_entries_counter (startT 6 (ds.map .d)) ())
def B_judge_counter : S Unit :=
  (sSeq (sIf (eB (eOp eqT (eVar 2) (eTup (aCons (eC (.str "size")) aNil)))) (sRet (eOp neD (eOp modD (cD F_table_size (aCons (eVar 0) aNil)) (eVar 1)) (eC (.int 0)))) sNx)
    (sRet (cD F_judge_entries_counter (aCons (eVar 0) (aCons (eVar 1) (aCons (eVar 2) aNil))))))
def F_judge_counter : List D → R Unit D := fun ds => nox (runS B_judge_counter (startT 3 (ds.map .d)) ())
def B_law_pick : S Src :=
  (sSeq (sWhile (fun _ ω => ω.cells.length + 2) (bAnd (eB (eOp gtD (eVar 1) (eC (.int 1)))) (bAnd (eB (eOp ltD (eSrc 0 Src.left) (eC (.int 2)))) (eB (eOp gtD (eSrcN 0) (eC (.int 0)))))) (sSrc 0 (fun ω z => { ω with left := z }) (eSrcP 0)))
    (sSeq (sAsg (eSrc 0 Src.left) (bName 2))
    (sSeq (sIf (bOr (eB (eOp ltD (eVar 1) (eC (.int 2)))) (eB (eOp gtD (eVar 2) (eC (.int 1))))) (sSeq (sSrc 0 (fun ω z => { ω with left := z }) (eOp fdivD (eVar 2) (eCall (bi2 max2D) (aCons (eC (.int 1)) (aCons (eVar 1) aNil)))))
    (sRet (eOp modD (eCall (un1 intD) (aCons (eVar 2) aNil)) (eCall (bi2 max2D) (aCons (eC (.int 1)) (aCons (eVar 1) aNil)))))) sNx)
    (sSeq (sSrc 0 (fun ω z => { ω with turn := z }) (eOp addD (eSrc 0 Src.turn) (eC (.int 1))))
    (sSeq (sAsg (eOp modD (eCall (un1 intD) (aCons (eOp addD (eSrc 0 Src.mixed) (eOp mulD (eSrc 0 Src.turn) (eC (.int 104729)))) aNil)) (eC (.int 998244353))) (bName 3))
    (sSeq (sAsg (eOp modD (eCall (un1 intD) (aCons (eOp addD (eOp mulD (eVar 3) (eVar 3)) (eOp mulD (eSrc 0 Src.turn) (eC (.int 17)))) aNil)) (eC (.int 2147483647))) (bName 3))
    (sSeq (sSrc 0 (fun ω z => { ω with mixed := z }) (eVar 3))
    (sRet (eOp modD (eCall (un1 intD) (aCons (eOp fdivD (eVar 3) (eC (.int 16))) aNil)) (eVar 1))))))))))
def F_law_pick : List D → Src → R Src D := fun ds ω => nox (runS B_law_pick (startT 4 (.src :: ds.map .d)) ω)
def B_law_of : S Src :=
  (sRet (eOp ixD (eVar 1) (cW F_law_pick 0 (aCons (eCall (un1 lenD) (aCons (eVar 1) aNil)) aNil))))
def F_law_of : List D → Src → R Src D := fun ds ω => nox (runS B_law_of (startT 2 (.src :: ds.map .d)) ω)
def B_law_size (rec : List D → R Unit D) : S Unit :=
  (sRet (eIf (eB (eOp eqD (eVar 0) (eTup aNil))) (eC (.int 1)) (eOp addD (cD rec (aCons (eOp ixD (eVar 0) (eC (.int 0))) aNil)) (cD rec (aCons (eOp ixD (eVar 0) (eC (.int 1))) aNil)))))
def F_law_size : Nat → List D → R Unit D
  | 0 => fun _ => .no
  | n + 1 => fun ds => nox (runS (B_law_size (F_law_size n)) (startT 1 (ds.map .d)) ())
def B_law_shape (rec : List D → Src → R Src D) : S Src :=
  (sSeq (sIf (eB (eOp eqD (eVar 1) (eC (.int 1)))) (sRet (eTup aNil)) sNx)
    (sSeq (sAsg (cW F_law_of 0 (aCons (eFrz (eLst (aCons (eOp addD (eC (.int 1)) (cW F_law_pick 0 (aCons (eOp subD (eVar 1) (eC (.int 1))) aNil))) (aCons (eOp addD (eC (.int 1)) (cW F_law_pick 0 (aCons (eOp subD (eVar 1) (eC (.int 1))) aNil))) (aCons (eOp fdivD (eVar 1) (eC (.int 2))) (aCons (eC (.int 1)) (aCons (eOp subD (eVar 1) (eC (.int 1))) aNil))))))) aNil)) (bName 2))
    (sRet (eTup (aCons (cW rec 0 (aCons (eVar 2) aNil)) (aCons (cW rec 0 (aCons (eOp subD (eVar 1) (eVar 2)) aNil)) aNil))))))
def F_law_shape : Nat → List D → Src → R Src D
  | 0 => fun _ _ => .no
  | n + 1 => fun ds ω => nox (runS (B_law_shape (F_law_shape n)) (startT 3 (.src :: ds.map .d)) ω)
def B_law_table : S Src :=
  (sRet (eCall (un1 tupleD) (aCons (eFrz (eLc [2] (iRg rg2 (aCons (eC (.int 2)) (aCons (eOp addD (eVar 1) (eC (.int 1))) aNil))) (bName 2) bYes (cW (F_law_shape 70) 0 (aCons (eVar 2) aNil)))) aNil)))
def F_law_table : List D → Src → R Src D := fun ds ω => nox (runS B_law_table (startT 3 (.src :: ds.map .d)) ω)
def B_law_entry : S Unit :=
  (sRet (eIf (eB (eOp eqD (eVar 1) (eC (.int 1)))) (eTup aNil) (eOp ixD (eVar 0) (eOp subD (eVar 1) (eC (.int 2))))))
def F_law_entry : List D → R Unit D := fun ds => nox (runS B_law_entry (startT 2 (ds.map .d)) ())
def B_law_stretches : S Unit :=
  (sSeq (sParO1 2 3 (eLst aNil) (eC (.int 0)))
    (sSeq (sFor (iRg rg1 (aCons (eVar 0) aNil)) (bName 4) (sSeq (sIf (eB (eOp ltD (eVar 3) (eVar 0))) (sApp 2 (eTup (aCons (eVar 3) (aCons (eCall (bi2 min2D) (aCons (eOp addD (eVar 3) (eVar 1)) (aCons (eVar 0) aNil))) aNil)))) sNx)
    (sAsg (eOp addD (eVar 3) (eVar 1)) (bName 3))))
    (sRetO 2)))
def F_law_stretches : List D → R Unit D := fun ds => nox (runS B_law_stretches (startT 5 (ds.map .d)) ())
def B_law_filled (rec : List D → R Unit D) : S Unit :=
  (sSeq (sIf (eB (eOp eqD (eVar 0) (eTup aNil))) (sRet (eOp ixD (eVar 1) (eC (.int 0)))) sNx)
    (sSeq (sAsg (cD (F_law_size 70) (aCons (eOp ixD (eVar 0) (eC (.int 0))) aNil)) (bName 2))
    (sRet (eTup (aCons (cD rec (aCons (eOp ixD (eVar 0) (eC (.int 0))) (aCons (eSl (eVar 1) oNone (oSome (eVar 2))) aNil))) (aCons (cD rec (aCons (eOp ixD (eVar 0) (eC (.int 1))) (aCons (eSl (eVar 1) (oSome (eVar 2)) oNone) aNil))) aNil))))))
def F_law_filled : Nat → List D → R Unit D
  | 0 => fun _ => .no
  | n + 1 => fun ds => nox (runS (B_law_filled (F_law_filled n)) (startT 3 (ds.map .d)) ())
def B_law_glued : S Unit :=
  (sSeq (sSetO (eLst aNil) 2)
    (sSeq (sFor (iRg rg2 (aCons (eC (.int 2)) (aCons (eOp addD (eOp mulD (eOp addD (eCall (un1 lenD) (aCons (eVar 0) aNil)) (eC (.int 1))) (eOp addD (eCall (un1 lenD) (aCons (eVar 1) aNil)) (eC (.int 1)))) (eC (.int 1))) aNil))) (bName 3) (sSeq (sFz 4 (sSetO (eLc [5, 6] (iSq (cD F_law_stretches (aCons (eVar 3) (aCons (eOp addD (eCall (un1 lenD) (aCons (eVar 0) aNil)) (eC (.int 1))) aNil)))) (bTup 2 (bCons (bName 5) (bCons (bName 6) bNil))) bYes (cD F_law_entry (aCons (eVar 0) (aCons (eOp subD (eVar 6) (eVar 5)) aNil)))) 4))
    (sApp 2 (cD (F_law_filled 70) (aCons (cD F_law_entry (aCons (eVar 1) (aCons (eCall (un1 lenD) (aCons (eVar 4) aNil)) aNil))) (aCons (eVar 4) aNil))))))
    (sRet (oTuple 2))))
def F_law_glued : List D → R Unit D := fun ds => nox (runS B_law_glued (startT 7 (ds.map .d)) ())
def B_law_lumps (rec : List D → R Unit D) : S Unit :=
  (sSeq (sIf (eB (eOp eqD (eVar 0) (eTup aNil))) (sRet (eFrz (eLst (aCons (eTup (aCons (eVar 1) (aCons (eOp addD (eVar 1) (eC (.int 1))) (aCons (eTup aNil) aNil)))) aNil)))) sNx)
    (sSeq (sAsg (cD rec (aCons (eOp ixD (eVar 0) (eC (.int 0))) (aCons (eVar 1) aNil))) (bName 2))
    (sSeq (sAsg (cD rec (aCons (eOp ixD (eVar 0) (eC (.int 1))) (aCons (eOp ixD (eOp ixD (eVar 2) (eC (.int 0))) (eC (.int 1))) aNil))) (bName 3))
    (sRet (eOp addD (eOp addD (eFrz (eLst (aCons (eTup (aCons (eVar 1) (aCons (eOp ixD (eOp ixD (eVar 3) (eC (.int 0))) (eC (.int 1))) (aCons (eVar 0) aNil)))) aNil))) (eVar 2)) (eVar 3))))))
def F_law_lumps : Nat → List D → R Unit D
  | 0 => fun _ => .no
  | n + 1 => fun ds => nox (runS (B_law_lumps (F_law_lumps n)) (startT 4 (ds.map .d)) ())
def B_law_wrong : S Unit :=
  (sSeq (sParO1 3 4 (eLst aNil) (eCall (un1 dictTD) (aCons (eFrz (eLc [7, 8, 9] (iSq (cD (F_law_lumps 70) (aCons (cD F_law_entry (aCons (eVar 0) (aCons (eVar 2) aNil))) (aCons (eC (.int 0)) aNil)))) (bTup 3 (bCons (bName 7) (bCons (bName 8) (bCons (bName 9) bNil)))) bYes (eTup (aCons (eTup (aCons (eVar 7) (aCons (eVar 8) aNil))) (aCons (eVar 9) aNil))))) aNil)))
    (sSeq (sFor (iEn (cD F_law_stretches (aCons (eVar 2) (aCons (eVar 1) aNil)))) (bTup 2 (bCons (bName 5) (bCons (bName 6) bNil))) (sIf (eB (eDiTE (fun b => !b) (pT 4) (eVar 6))) (sApp 3 (eTup (aCons (eC (.str "lump")) (aCons (eVar 2) (aCons (eVar 5) aNil))))) (sIf (eB (eOp neD (eDgTE (pT 4) (eVar 6)) (cD F_law_entry (aCons (eVar 0) (aCons (eOp subD (eOp ixD (eVar 6) (eC (.int 1))) (eOp ixD (eVar 6) (eC (.int 0)))) aNil))))) (sApp 3 (eTup (aCons (eC (.str "shape")) (aCons (eVar 2) (aCons (eVar 5) aNil))))) sNx)))
    (sRetO 3)))
def F_law_wrong : List D → R Unit D := fun ds => nox (runS B_law_wrong (startT 10 (ds.map .d)) ())
def B_law_above (rec : List D → R Unit D) : S Unit :=
  (sSeq (sAsg (eOp addD (eVar 1) (cD (F_law_size 70) (aCons (eVar 0) aNil))) (bName 3))
    (sSeq (sIf (bOr (eB (eOp eqD (eVar 0) (eTup aNil))) (eB (eOp inD (eTup (aCons (eVar 1) (aCons (eVar 3) aNil))) (eVar 2)))) (sRet (eTup aNil)) sNx)
    (sSeq (sAsg (eOp addD (eVar 1) (cD (F_law_size 70) (aCons (eOp ixD (eVar 0) (eC (.int 0))) aNil))) (bName 4))
    (sRet (eTup (aCons (cD rec (aCons (eOp ixD (eVar 0) (eC (.int 0))) (aCons (eVar 1) (aCons (eVar 2) aNil)))) (aCons (cD rec (aCons (eOp ixD (eVar 0) (eC (.int 1))) (aCons (eVar 4) (aCons (eVar 2) aNil)))) aNil)))))))
def F_law_above : Nat → List D → R Unit D
  | 0 => fun _ => .no
  | n + 1 => fun ds => nox (runS (B_law_above (F_law_above n)) (startT 5 (ds.map .d)) ())
def B_law_counters : S Unit :=
  (sSeq (sPar3O23 2 3 4 (eOp addD (eCall (un1 lenD) (aCons (eVar 0) aNil)) (eC (.int 1))) (eLst aNil) (eLst aNil))
    (sSeq (sIf (eB (eOp neD (eOp modD (eVar 2) (eVar 1)) (eC (.int 0)))) (sApp 3 (eTup (aCons (eC (.str "size")) aNil))) sNx)
    (sSeq (sFor (iRg rg2 (aCons (eC (.int 2)) (aCons (eOp addD (eVar 2) (eC (.int 1))) aNil))) (bName 5) (sSeq (sAsg (eTup (aCons (cD F_law_wrong (aCons (eVar 0) (aCons (eVar 1) (aCons (eVar 5) aNil)))) (aCons (cD F_law_stretches (aCons (eVar 5) (aCons (eVar 1) aNil))) aNil))) (bTup 2 (bCons (bName 6) (bCons (bName 7) bNil))))
    (sSeq (sPre 3 (sSetO (eAddL (eVar 3) (eVar 6)) 3))
    (sIf (eB (eOp eqD (eVar 6) (eFrz (eLst aNil)))) (sSeq (sAsg (cD (F_law_above 70) (aCons (cD F_law_entry (aCons (eVar 0) (aCons (eVar 5) aNil))) (aCons (eC (.int 0)) (aCons (eVar 7) aNil)))) (bName 8))
    (sSeq (sPre 3 (sSetO (eAddL (eVar 3) (eFrz (eLc [9, 10, 11] (oIt 4) (bTup 3 (bCons (bName 9) (bCons (bName 10) (bCons (bName 11) bNil)))) (bAnd (eB (eOp eqD (eVar 10) (eCall (un1 lenD) (aCons (eVar 7) aNil)))) (eB (eOp neD (eVar 11) (eVar 8)))) (eTup (aCons (eC (.str "above")) (aCons (eVar 9) (aCons (eVar 5) aNil))))))) 3))
    (sApp 4 (eTup (aCons (eVar 5) (aCons (eCall (un1 lenD) (aCons (eVar 7) aNil)) (aCons (eVar 8) aNil))))))) sNx))))
    (sRetO 3))))
def F_law_counters : List D → R Unit D := fun ds => nox (runS B_law_counters (startT 12 (ds.map .d)) ())
def B_law_behind : S Unit :=
  (sSeq (sParO2 2 3 (eOp addD (eCall (un1 lenD) (aCons (eVar 0) aNil)) (eC (.int 1))) (eLst aNil))
    (sSeq (sIf (eB (eOp neD (eOp modD (eVar 2) (eVar 1)) (eC (.int 0)))) (sRet (eC .non)) sNx)
    (sSeq (sFor (iRg rg2 (aCons (eC (.int 2)) (aCons (eOp addD (eOp fdivD (eVar 2) (eVar 1)) (eC (.int 1))) aNil))) (bName 4) (sSeq (sAsg (eFrz (eLc [7, 8, 9] (iSq (cD (F_law_lumps 70) (aCons (eOp ixD (eVar 0) (eOp subD (eOp mulD (eVar 4) (eVar 1)) (eC (.int 2)))) (aCons (eC (.int 0)) aNil)))) (bTup 3 (bCons (bName 7) (bCons (bName 8) (bCons (bName 9) bNil)))) bYes (eTup (aCons (eVar 7) (aCons (eVar 8) aNil))))) (bName 5))
    (sSeq (sAsg (cD F_law_stretches (aCons (eOp mulD (eVar 4) (eVar 1)) (aCons (eVar 1) aNil))) (bName 6))
    (sSeq (sIf (bNot (eB (eCall (un1 allD) (aCons (eFrz (eLc [10] (iSq (eVar 6)) (bName 10) bYes (eOp inD (eVar 10) (eVar 5)))) aNil)))) (sRet (eC .non)) sNx)
    (sApp 3 (cD (F_law_above 70) (aCons (eOp ixD (eVar 0) (eOp subD (eOp mulD (eVar 4) (eVar 1)) (eC (.int 2)))) (aCons (eC (.int 0)) (aCons (eVar 6) aNil)))))))))
    (sRet (eIf (eB (eOp eqD (cD F_law_glued (aCons (eSl (eVar 0) oNone (oSome (eOp subD (eVar 1) (eC (.int 1))))) (aCons (oTuple 3) aNil))) (eVar 0))) (oTuple 3) (eC .non))))))
def F_law_behind : List D → R Unit D := fun ds => nox (runS B_law_behind (startT 11 (ds.map .d)) ())
def B_law_stirred (rec : List D → Src → R Src D) : S Src :=
  (sSeq (sIf (bOr (eB (eOp ltD (cD (F_law_size 70) (aCons (eVar 1) aNil)) (eC (.int 3)))) (eB (eOp eqD (cW F_law_pick 0 (aCons (eC (.int 3)) aNil)) (eC (.int 0))))) (sRet (cW (F_law_shape 70) 0 (aCons (cD (F_law_size 70) (aCons (eVar 1) aNil)) aNil))) sNx)
    (sSeq (sIf (eB (eOp eqD (cW F_law_pick 0 (aCons (eC (.int 2)) aNil)) (eC (.int 0)))) (sRet (eTup (aCons (cW rec 0 (aCons (eOp ixD (eVar 1) (eC (.int 0))) aNil)) (aCons (eOp ixD (eVar 1) (eC (.int 1))) aNil)))) sNx)
    (sRet (eTup (aCons (eOp ixD (eVar 1) (eC (.int 0))) (aCons (cW rec 0 (aCons (eOp ixD (eVar 1) (eC (.int 1))) aNil)) aNil))))))
def F_law_stirred : Nat → List D → Src → R Src D
  | 0 => fun _ _ => .no
  | n + 1 => fun ds ω => nox (runS (B_law_stirred (F_law_stirred n)) (startT 2 (.src :: ds.map .d)) ω)
def B_law_bent : S Src :=
  (sSeq (sAsg (eOp addD (eC (.int 2)) (cW F_law_pick 0 (aCons (eCall (un1 lenD) (aCons (eVar 1) aNil)) aNil))) (bName 2))
    (sRet (eOp addD (eOp addD (eSl (eVar 1) oNone (oSome (eOp subD (eVar 2) (eC (.int 2))))) (eTup (aCons (cW (F_law_stirred 70) 0 (aCons (eOp ixD (eVar 1) (eOp subD (eVar 2) (eC (.int 2)))) aNil)) aNil))) (eSl (eVar 1) (oSome (eOp subD (eVar 2) (eC (.int 1)))) oNone))))
def F_law_bent : List D → Src → R Src D := fun ds ω => nox (runS B_law_bent (startT 3 (.src :: ds.map .d)) ω)
def B_law_retopped : S Src :=
  (sSeq (sAsg (eIf (eB (eOp ltD (eOp mulD (eC (.int 2)) (eVar 2)) (eOp addD (eCall (un1 lenD) (aCons (eVar 1) aNil)) (eC (.int 1))))) (eOp addD (eOp mulD (eC (.int 2)) (eVar 2)) (eC (.int 1))) (eOp addD (eVar 2) (eC (.int 1)))) (bName 3))
    (sSeq (sAsg (eOp addD (eVar 3) (cW F_law_pick 0 (aCons (eOp subD (eOp addD (eCall (un1 lenD) (aCons (eVar 1) aNil)) (eC (.int 2))) (eVar 3)) aNil))) (bName 4))
    (sSeq (sFz 5 (sSetO (eLc [6, 7] (iSq (cD F_law_stretches (aCons (eVar 4) (aCons (eVar 2) aNil)))) (bTup 2 (bCons (bName 6) (bCons (bName 7) bNil))) bYes (cD F_law_entry (aCons (eVar 1) (aCons (eOp subD (eVar 7) (eVar 6)) aNil)))) 5))
    (sRet (eOp addD (eOp addD (eSl (eVar 1) oNone (oSome (eOp subD (eVar 4) (eC (.int 2))))) (eTup (aCons (cD (F_law_filled 70) (aCons (cW (F_law_shape 70) 0 (aCons (eCall (un1 lenD) (aCons (eVar 5) aNil)) aNil)) (aCons (eVar 5) aNil))) aNil))) (eSl (eVar 1) (oSome (eOp subD (eVar 4) (eC (.int 1)))) oNone))))))
def F_law_retopped : List D → Src → R Src D := fun ds ω => nox (runS B_law_retopped (startT 8 (.src :: ds.map .d)) ω)
def B_law_some_table : S Src :=
  (sSeq (sPar 2 3 (cW F_law_pick 0 (aCons (eC (.int 8)) aNil)) (eFrz (eLst (aCons (eOp addD (eC (.int 2)) (cW F_law_pick 0 (aCons (eC (.int 6)) aNil))) aNil))))
    (sSeq (sAsg (eOp ixD (eVar 3) (eC (.int 0))) (bName 4))
    (sSeq (sFor (iSq (eFrz (eLst (aCons (eOp addD (eC (.int 2)) (cW F_law_pick 0 (aCons (eC (.int 5)) aNil))) (aCons (eOp addD (eC (.int 2)) (cW F_law_pick 0 (aCons (eC (.int 3)) aNil))) aNil))))) (bName 5) (sIf (eB (eOp leD (eOp mulD (eVar 4) (eVar 5)) (eVar 1))) (sPar 3 4 (eOp addD (eVar 3) (eFrz (eLst (aCons (eVar 5) aNil)))) (eOp mulD (eVar 4) (eVar 5))) sNx))
    (sSeq (sIf (eB (eOp eqD (eVar 2) (eC (.int 0)))) (sRet (cW F_law_table 0 (aCons (eOp addD (eC (.int 2)) (cW F_law_pick 0 (aCons (eOp subD (eCall (bi2 min2D) (aCons (eC (.int 12)) (aCons (eVar 1) aNil))) (eC (.int 1))) aNil))) aNil))) sNx)
    (sSeq (sPar 6 7 (cW F_law_table 0 (aCons (eOp ixD (eVar 3) (eC (.int 0))) aNil)) (eOp ixD (eVar 3) (eC (.int 0))))
    (sSeq (sFor (iSq (eSl (eVar 3) (oSome (eC (.int 1))) oNone)) (bName 4) (sSeq (sAsg (eOp addD (eCall (un1 lenD) (aCons (eVar 6) aNil)) (eC (.int 1))) (bName 7))
    (sAsg (cD F_law_glued (aCons (eVar 6) (aCons (cW F_law_table 0 (aCons (eVar 4) aNil)) aNil))) (bName 6))))
    (sSeq (sIf (eB (eOp inD (eVar 2) (eTup (aCons (eC (.int 1)) (aCons (eC (.int 2)) aNil))))) (sRet (cW F_law_bent 0 (aCons (eVar 6) aNil))) sNx)
    (sRet (eIf (bAnd (eB (eOp inD (eVar 2) (eTup (aCons (eC (.int 3)) (aCons (eC (.int 4)) (aCons (eC (.int 5)) aNil)))))) (eB (eOp ltD (eVar 7) (eOp addD (eCall (un1 lenD) (aCons (eVar 6) aNil)) (eC (.int 1)))))) (cW F_law_retopped 0 (aCons (eVar 6) (aCons (eVar 7) aNil))) (eVar 6))))))))))
def F_law_some_table : List D → Src → R Src D := fun ds ω => nox (runS B_law_some_table (startT 8 (.src :: ds.map .d)) ω)
def LB_law_told (r : Src → R Src D) : S Src :=
  (sTryAs 1 "counter" (sRet (eTup (aCons (eC (.str "told")) (aCons (eAct r) aNil)))) (fun x0 => (sRet (eIf (bAnd (eB (eIsE 1 true)) (eB (eIsE 1 true))) (eTup (aCons (eC (.str "refused")) (aCons (eXf 1 x0) aNil))) (eC (.str "odd"))))))
def B_law : S Src :=
  (sSeq (sFor (iSq (eSl (eFrz (eLst (aCons (eC (.int 12)) (aCons (eC (.int 20)) (aCons (eC (.int 30)) (aCons (eC (.int 60)) aNil)))))) oNone (oSome (eOp addD (eC (.int 3)) (eCall (un1 intD) (aCons (eOp eqD (cW F_law_pick 1 (aCons (eC (.int 4)) aNil)) (eC (.int 0))) aNil)))))) (bName 2) (sSeq (sAsg (cW F_law_some_table 1 (aCons (eVar 2) aNil)) (bName 3))
    (sSeq (sPar 4 5 (eCall (un1 reprZ) (aCons (eVar 3) aNil)) (eFrz (eLRg (rRg2 (eC (.int 2)) (eOp addD (eCall (un1 lenD) (aCons (eVar 3) aNil)) (eC (.int 1)))))))
    (sSeq (sFor (iSq (eIf (eB (eOp ltD (eVar 2) (eC (.int 60)))) (eVar 5) (eFrz (eLc [6] (iSq (eVar 5)) (bName 6) (eB (eOp eqD (eOp modD (eCall (un1 intD) (aCons (eOp addD (eCall (un1 lenD) (aCons (eVar 3) aNil)) (eC (.int 1))) aNil)) (eVar 6)) (eC (.int 0)))) (eVar 6))))) (bName 6) (sSeq (sPar 7 8 (cD F_law_behind (aCons (eVar 3) (aCons (eVar 6) aNil))) (cLam 2 LB_law_told (cDXF FX_behind (aCons (eVar 3) (aCons (eVar 6) aNil)))))
    (sSeq (sIf (bOr (eB (eOp neD (eOp ixD (eVar 8) (eC (.int 0))) (eIf (eB (eOp notND (eVar 7) (eC .non))) (eC (.str "told")) (eC (.str "refused"))))) (bAnd (eB (eOp notND (eVar 7) (eC .non))) (eB (eOp neD (eCall (un1 reprZ) (aCons (eOp ixD (eVar 8) (eC (.int 1))) aNil)) (eCall (un1 reprZ) (aCons (eVar 7) aNil)))))) (sRet (eC (.bl false))) sNx)
    (sSeq (sIf (bAnd (eB (eOp isND (eVar 7) (eC .non))) (eB (eOp ninD (eCall (un1 reprZ) (aCons (eOp ixD (eVar 8) (eC (.int 1))) aNil)) (eFrz (eLc [9] (iSq (cD F_law_counters (aCons (eVar 3) (aCons (eVar 6) aNil)))) (bName 9) bYes (eCall (un1 reprZ) (aCons (eVar 9) aNil))))))) (sRet (eC (.bl false))) sNx)
    (sIf (bAnd (eB (eOp isND (eVar 7) (eC .non))) (eB (eOp notND (cD F_judge_counter (aCons (eVar 3) (aCons (eVar 6) (aCons (eOp ixD (eVar 8) (eC (.int 1))) aNil)))) (eC (.bl true))))) (sRet (eC (.bl false))) sNx)))))
    (sIf (eB (eOp neD (eCall (un1 reprZ) (aCons (eVar 3) aNil)) (eVar 4))) (sRet (eC (.bl false))) sNx)))))
    (sRet (eC (.bl true))))
def tau0 : Tau := (List.replicate 10 none).set 1 (some .src)
structure Defs (K : PySem.W.Frag) (mg : Str → Option Value) where
  cX : Addr
  cL : Addr
  gX : mg "NoCut" = some (.ref cX)
  gL : mg "LumpError" = some (.ref cL)
  xO : OexC K cX
  xE : ExcC K cX
  xF : XfC K cX
  xN : PySem.W.findIn K (.ref cX) "counter" = some none
  mX : PySem.W.exmOne K (.ref cX) (.ref cX) = some true
  kL : PySem.W.kitOne K (.ref cX) (.ref cL) = some true
  kV : PySem.W.kitOne K (.ref cX) (.type "ValueError") = some true
  xf : Addr
  xfd : FuncData
  xFn : Fun K "__init__" "NoCut.__init__" s_XI xf xfd
  xB : Binds K xfd ["self", "counter"] []
  xI : PySem.W.findIn K (.ref cX) "__init__" = some (some (.ref xf))
  xJ : PySem.W.typeIn K (.ref xf) = some (.type "function")
  cT : Addr
  pT : Addr
  d_is_integer : DefOk K mg "is_integer" s_is_integer ["value"]
  d_is_number : DefOk K mg "is_number" s_is_number ["value"]
  d_table_size : DefOk K mg "table_size" s_table_size ["table"]
  d_entry : DefOk K mg "entry" s_entry ["table", "m"]
  d_stretches : DefOk K mg "stretches" s_stretches ["m", "b"]
  d_note_parts : DefOk K mg "_note_parts" s_note_parts ["shape", "place", "parts"]
  d_lump_parts : DefOk K mg "lump_parts" s_lump_parts ["shape"]
  d_stretch_faults : DefOk K mg "_stretch_faults" s_stretch_faults ["table", "b", "m"]
  d_above_from : DefOk K mg "_above_from" s_above_from ["shape", "b", "place"]
  d_above : DefOk K mg "above" s_above ["shape", "b"]
  d_first_stretch_counter : DefOk K mg "_first_stretch_counter" s_first_stretch_counter ["table", "b"]
  d_first_above_counter : DefOk K mg "_first_above_counter" s_first_above_counter ["table", "b"]
  d_entries_counter : DefOk K mg "entries_counter" s_entries_counter ["table", "b"]
  d_counter : DefOk K mg "counter" s_counter ["table", "b"]
  d_table_above : DefOk K mg "table_above" s_table_above ["table", "b", "size"]
  d_behind : DefOk K mg "behind" s_behind ["table", "b"]
  d_is_stretch_counter : DefOk K mg "_is_stretch_counter" s_is_stretch_counter ["table", "b", "kind", "m", "k"]
  d_is_above_counter : DefOk K mg "_is_above_counter" s_is_above_counter ["table", "b", "m", "n"]
  d_judge_entries_counter : DefOk K mg "judge_entries_counter" s_judge_entries_counter ["table", "b", "value"]
  d_judge_counter : DefOk K mg "judge_counter" s_judge_counter ["table", "b", "value"]
  d_law_source : DefOk K mg "_law_source" s_law_source ["_law_script"]
  d_law_pick : DefOk K mg "_law_pick" s_law_pick ["_law_source_here", "_law_many"]
  d_law_of : DefOk K mg "_law_of" s_law_of ["_law_source_here", "_law_some"]
  d_law_size : DefOk K mg "_law_size" s_law_size ["_law_shape_here"]
  d_law_shape : DefOk K mg "_law_shape" s_law_shape ["_law_source_here", "_law_size_here"]
  d_law_table : DefOk K mg "_law_table" s_law_table ["_law_source_here", "_law_size_here"]
  d_law_entry : DefOk K mg "_law_entry" s_law_entry ["_law_table_here", "_law_m"]
  d_law_stretches : DefOk K mg "_law_stretches" s_law_stretches ["_law_m", "_law_b"]
  d_law_filled : DefOk K mg "_law_filled" s_law_filled ["_law_shape_here", "_law_parts"]
  d_law_glued : DefOk K mg "_law_glued" s_law_glued ["_law_s", "_law_t"]
  d_law_lumps : DefOk K mg "_law_lumps" s_law_lumps ["_law_shape_here", "_law_begin"]
  d_law_wrong : DefOk K mg "_law_wrong" s_law_wrong ["_law_table_here", "_law_b", "_law_m"]
  d_law_above : DefOk K mg "_law_above" s_law_above ["_law_shape_here", "_law_begin", "_law_pairs"]
  d_law_counters : DefOk K mg "_law_counters" s_law_counters ["_law_table_here", "_law_b"]
  d_law_behind : DefOk K mg "_law_behind" s_law_behind ["_law_table_here", "_law_b"]
  d_law_stirred : DefOk K mg "_law_stirred" s_law_stirred ["_law_source_here", "_law_shape_here"]
  d_law_bent : DefOk K mg "_law_bent" s_law_bent ["_law_source_here", "_law_table_here"]
  d_law_retopped : DefOk K mg "_law_retopped" s_law_retopped ["_law_source_here", "_law_table_here", "_law_b"]
  d_law_some_table : DefOk K mg "_law_some_table" s_law_some_table ["_law_source_here", "_law_most"]
  d_law_told : DefOk K mg "_law_told" s_law_told ["_law_call"]
  d_law : DefOk K mg "law" s_law ["_law_script"]
  n_int : mg "int" = none
  n_isinstance : mg "isinstance" = none
  n_bool : mg "bool" = none
  n_len : mg "len" = none
  n_range : mg "range" = none
  n_min : mg "min" = none
  n_enumerate : mg "enumerate" = none
  n_tuple : mg "tuple" = none
  n_any : mg "any" = none
  n_abs : mg "abs" = none
  n_max : mg "max" = none
  n_dict : mg "dict" = none
  n_all : mg "all" = none
  n_repr : mg "repr" = none
  n_list : mg "list" = none
  n_ValueError : mg "ValueError" = none
  hcT : d_law.fd.code = .ref cT
section
variable {P : Program} {w : World} {K : PySem.W.Frag} {mg : Str → Option Value} {base : Heap} {im : Addr → Bool}
theorem ok_law_source (T : Defs K mg) : FnOk P w K mg base CX0 1 T.d_law_source.f T.d_law_source.fd ["_law_script"] (spSource K im) := by
  have Sc : FnScope ["_law_script", "_law_mixed", "_law_cell"] ["_law_script"] (defScope s_law_source) := ⟨rfl, rfl, rfl, by decide +kernel, rfl, by decide +kernel, by decide +kernel⟩
  refine T.d_law_source.F.ok Sc (fun vs H Q E h => ?_) (fun cdv A outer s H vs Q E hr h => ?_)
  · obtain ⟨a, ns, rfl, _⟩ := h
    rfl
  obtain ⟨a, ns, rfl, hS, hlen, k⟩ := h
  refine ⟨_, pss_cons (ps_set (i := 1) Sc.nd rfl (Or.inl rfl) pe_int)
    (pss_cons (ps_for PassesOwn.never rfl (pi_list (pv 0)) (pg_name (i := 2) Sc.nd rfl (Or.inl rfl))
      (pss_one (ps_set (i := 1) Sc.nd rfl (Or.inl rfl) (pe_op op_mod (pe_callTy call_int1 (by rfl) T.n_int (by decide +kernel) (pa_cons (pe_op op_add (pe_op op_add (pe_op op_mul (pv 1) pe_int) (pe_op op_mul (pv 2) pe_int)) pe_int) pa_nil)) pe_int))))
    (pss_one (ps_ret (pe_disp (pps_cons pe_str (pe_revL (pe_lc (own := [("_law_cell", 2)]) rfl Sc.nd (pi_list (pv 0)) (blkOk_by (own := [("_law_cell", 2)]) (N := ["_law_script", "_law_mixed", "_law_cell"]) (sc := defScope s_law_source) (by decide +kernel)) (fun _ _ _ _ _ => (pg_name (i := 2) Sc.nd rfl (Or.inl rfl))) (fun _ _ _ _ _ => pts_nil) (fun _ _ _ _ _ => (pe_callB call_abs (by rfl) T.n_abs (by decide +kernel) (pa_cons (pv 2) pa_nil)))))
      (pps_cons pe_str pe_int (pps_cons pe_str (pv 1) (pps_cons pe_str pe_int pps_nil)))) (by rfl) (by rfl) (fun z => by cases z) (by decide))))), ?_⟩
  refine ⟨_, rfl, a, rfl, ⟨_, hS⟩, for_list (K := K) (a := a) (xs := ns.map V.int) (fun i σ H' => H' = H ∧ ∃ v, σ = [some (.ref a), some (.int (mixedOf (ns.take i))), v]) ⟨rfl, none, rfl⟩ (fun i σ H' _ q => by rw [q.1]; exact hS) ?_ ?_⟩
  · rintro i y σ H' hi ⟨rfl, v, rfl⟩
    obtain ⟨u, hu, rfl⟩ : ∃ u, ns[i]? = some u ∧ y = V.int u := by
      rw [List.getElem?_map] at hi
      cases e : ns[i]? with
      | none => rw [e] at hi; cases hi
      | some u => rw [e] at hi; exact ⟨u, rfl, (Option.some.inj hi).symm⟩
    refine ⟨_, rfl, _, _, rfl, rfl, .inr ⟨by decide, by decide⟩, _, rfl, _, _, rfl, rfl, .inr ⟨by decide, by decide⟩, _, _, rfl, rfl, _, _, rfl, rfl, .inl ⟨_, rfl, _, _, rfl, rfl, (by show (0 : Int) < 2147483629; decide), ?_⟩⟩
    refine ⟨rfl, some (.int u), ?_⟩
    have e : mixedOf (ns.take (i + 1)) = (mixedOf (ns.take i) * 69069 + u * 31 + 5) % 2147483629 := by
      unfold mixedOf
      have hlt : i < ns.length := (List.getElem?_eq_some_iff.mp hu).1
      rw [List.take_succ_eq_append_getElem hlt, List.foldl_append, List.foldl_cons, List.foldl_nil, (List.getElem?_eq_some_iff.mp hu).2]
    rw [e]
    rfl
  · rintro σ H' ⟨rfl, v, rfl⟩
    rw [List.length_map, List.take_length]
    intro p hp
    have sm1 : Same H' (upd H' p (.dK [])) := Same.new hp
    refine ⟨_, rfl, a, rfl, ⟨_, Same.seq sm1 hS⟩, fun D hD => lc_list (K := K) (a := a) (xs := ns.map V.int) (fun i H'' => Same (upd H' p (.dK [])) H'' ∧ H'' D = some (.lst ((ns.take i).map fun z => V.int (if z < 0 then -z else z)))) ⟨Same.new hD, upd_same⟩ (fun i H'' _ q => Same.seq q.1 (Same.seq sm1 hS)) ?_ ?_⟩
    · rintro i y H'' hi ⟨q1, q2⟩
      obtain ⟨u, hu, rfl⟩ : ∃ u, ns[i]? = some u ∧ y = V.int u := by
        rw [List.getElem?_map] at hi
        cases e : ns[i]? with
        | none => rw [e] at hi; cases hi
        | some u => rw [e] at hi; exact ⟨u, rfl, (Option.some.inj hi).symm⟩
      have hlt : i < ns.length := (List.getElem?_eq_some_iff.mp hu).1
      refine ⟨rfl, ?_⟩
      refine ⟨_, rfl, u, rfl, _, q2, ?_, ?_, ?_⟩
      · rw [List.length_map, List.length_take, sizeLine_eq]; omega
      · intro b o e
        have ne : b ≠ D := fun q => by subst q; rw [e] at hD; cases hD
        rw [upd_ne ne]; exact q1 b o e
      · rw [upd_same, List.take_succ_eq_append_getElem hlt, List.map_append, List.map_singleton, (List.getElem?_eq_some_iff.mp hu).2]
    · rintro H'' ⟨q1, q2⟩
      rw [List.length_map, List.take_length] at q2
      refine ⟨D, _, rfl, SqL.of q2, fun c hc => ?_⟩
      refine ⟨_, rfl, ?_⟩
      have hp2 : H'' p = some (.dK []) := q1 p _ upd_same
      have npc : p ≠ c := ne_of_none hp2 hc
      have hcH : H' c = none := by
        cases e : H' c with
        | none => rfl
        | some o => have := q1 c o (sm1 c o e); rw [hc] at this; cases this
      refine ⟨by rw [upd_ne npc]; exact hp2, [(.inr "cells", .ref c), (.inr "left", .int 1), (.inr "mixed", .int (mixedOf ns)), (.inr "turn", .int 0)], rfl, (by show 4 ≤ 15; decide), ?_⟩
      have em : mergeK [] [((.inr "cells" : Key), V.ref c), (.inr "left", .int 1), (.inr "mixed", .int (mixedOf ns)), (.inr "turn", .int 0)] = srcKvs c (srcOf ns) := by
        have h1 : ¬ (("cells" : Str) = "left") := by decide +kernel
        have h2 : ¬ (("cells" : Str) = "mixed") := by decide +kernel
        have h3 : ¬ (("left" : Str) = "mixed") := by decide +kernel
        have h4 : ¬ (("cells" : Str) = "turn") := by decide +kernel
        have h5 : ¬ (("left" : Str) = "turn") := by decide +kernel
        have h6 : ¬ (("mixed" : Str) = "turn") := by decide +kernel
        simp [mergeK, putK, srcKvs, srcOf, h1, h2, h3, h4, h5, h6]
      rw [em]
      refine k (p, c) _ (fun b o e => ?_) hp hcH ⟨upd_same, ?_⟩
      · have n1 : b ≠ p := fun q => by subst q; rw [hp] at e; cases e
        have n2 : b ≠ c := fun q => by subst q; rw [hcH] at e; cases e
        rw [upd_ne n1, upd_ne n2]
        exact q1 b o (sm1 b o e)
      · rw [upd_ne npc.symm, upd_same]
        simp [srcOf, List.map_reverse, List.map_map, Function.comp_def]
theorem ok_XI (T : Defs K mg) : FnOk P w K mg base CX0 1 T.xf T.xfd ["self", "counter"] (spXI K T.cX "counter") := by
  have Sc : FnScope ["self", "counter"] ["self", "counter"] (defScope s_XI) := ⟨rfl, rfl, rfl, by decide +kernel, rfl, by decide +kernel, by decide +kernel⟩
  exact fn_XI T.xFn Sc T.xO T.xN fun cdv A outer s H Ex hr => pss_one (ps_ost (pv 0) (pv 1))
theorem ok_is_integer (T : Defs K mg) : FnOk P w K mg base CX0 1 T.d_is_integer.f T.d_is_integer.fd ["value"] (spD K im 1 F_is_integer) := by
  have Sc : FnScope ["value"] ["value"] (defScope s_is_integer) := ⟨rfl, rfl, rfl, by decide +kernel, rfl, by decide +kernel, by decide +kernel⟩
  refine fn_Dx (N := ["value"]) (ps := ["value"]) (F := B_is_integer) T.d_is_integer.F Sc rfl rfl rfl fun cdv A outer s H Ex hr => ?_
  have hu := room_hu hr
  exact ⟨_, (pss_one (ps_ret (pe_and (pe_callB call_isi (by rfl) T.n_isinstance (by decide +kernel) (pa_cons (pv 0) (pa_cons (pe_bltn rfl T.n_int (by rfl) (show RelV (.ty "int") (.type "int") from rfl)) pa_nil))) (pe_one (pe_not (pe_callB call_isi (by rfl) T.n_isinstance (by decide +kernel) (pa_cons (pv 0) (pa_cons (pe_bltn rfl T.n_bool (by rfl) (show RelV (.ty "bool") (.type "bool") from rfl)) pa_nil)))))))),
      (ds_ret (de_and (de_isi (de_var 0)) (de_not (de_isi (de_var 0)))))⟩
theorem ok_is_number (T : Defs K mg) : FnOk P w K mg base CX0 2 T.d_is_number.f T.d_is_number.fd ["value"] (spD K im 1 F_is_number) := by
  have G_is_integer := ok_is_integer (P := P) (w := w) (base := base) (im := im) T
  have Sc : FnScope ["value"] ["value"] (defScope s_is_number) := ⟨rfl, rfl, rfl, by decide +kernel, rfl, by decide +kernel, by decide +kernel⟩
  refine fn_Dx (N := ["value"]) (ps := ["value"]) (F := B_is_number) T.d_is_number.F Sc rfl rfl rfl fun cdv A outer s H Ex hr => ?_
  have hu := room_hu hr
  exact ⟨_, (pss_one (ps_ret (pe_and (pe_call G_is_integer (hr.mono (by first | decide | omega)) rfl T.d_is_integer.g T.d_is_integer.F.kp T.d_is_integer.b .nil pass0 (pa_cons (pv 0) pa_nil)) (pe_one (pe_cmpR op_geD (pv 0) pe_int (nomark _)))))),
      (ds_ret (de_and (dc_D (da_cons (de_var 0) da_nil) (an_cons an_nil)) (de_op (de_var 0) de_int)))⟩
theorem ok_table_size (T : Defs K mg) : FnOk P w K mg base CX0 1 T.d_table_size.f T.d_table_size.fd ["table"] (spD K im 1 F_table_size) := by
  have Sc : FnScope ["table"] ["table"] (defScope s_table_size) := ⟨rfl, rfl, rfl, by decide +kernel, rfl, by decide +kernel, by decide +kernel⟩
  refine fn_Dx (N := ["table"]) (ps := ["table"]) (F := B_table_size) T.d_table_size.F Sc rfl rfl rfl fun cdv A outer s H Ex hr => ?_
  have hu := room_hu hr
  exact ⟨_, (pss_one (ps_ret (pe_op op_addD (pe_callB call_lenDD (by rfl) T.n_len (by decide +kernel) (pa_cons (pv 0) pa_nil)) pe_int))),
      (ds_ret (de_op (de_callN (da_cons (de_var 0) da_nil)) de_int))⟩
theorem ok_entry (T : Defs K mg) : FnOk P w K mg base CX0 1 T.d_entry.f T.d_entry.fd ["table", "m"] (spD K im 2 F_entry) := by
  have Sc : FnScope ["table", "m"] ["table", "m"] (defScope s_entry) := ⟨rfl, rfl, rfl, by decide +kernel, rfl, by decide +kernel, by decide +kernel⟩
  refine fn_Dx (N := ["table", "m"]) (ps := ["table", "m"]) (F := B_entry) T.d_entry.F Sc rfl rfl rfl fun cdv A outer s H Ex hr => ?_
  have hu := room_hu hr
  exact ⟨_, (pss_cons (ps_if (pt_cmpR (op_eqDD hu) (pv 1) pe_int (nomark _)) (pss_one (ps_ret (pe_tup pa_nil))) pss_nil)
      (pss_one (ps_ret (pe_ix ix_D (pv 0) (pe_op op_subD (pv 1) pe_int) (fun _ _ => rfl))))),
      (ds_seq (ds_if (dt_test (de_op (de_var 1) de_int)) (ds_ret (de_tup da_nil)) ds_nx)
      (ds_ret (de_op (de_var 0) (de_op (de_var 1) de_int))))⟩
theorem ok_stretches (T : Defs K mg) : FnOk P w K mg base CX0 1 T.d_stretches.f T.d_stretches.fd ["m", "b"] (spD K im 2 F_stretches) := by
  have Sc : FnScope ["m", "b", "i"] ["m", "b"] (defScope s_stretches) := ⟨rfl, rfl, rfl, by decide +kernel, rfl, by decide +kernel, by decide +kernel⟩
  refine fn_Dx (N := ["m", "b", "i"]) (ps := ["m", "b"]) (F := B_stretches) T.d_stretches.F Sc rfl rfl rfl fun cdv A outer s H Ex hr => ?_
  have hu := room_hu hr
  exact ⟨_, (pss_one (ps_ret (pe_frz (pe_lc (own := [("i", 2)]) rfl Sc.nd (pi_range3 rfl T.n_range (pa_cons pe_int (pa_cons (pv 0) (pa_cons (pv 1) pa_nil)))) (blkOk_by (own := [("i", 2)]) (N := ["m", "b", "i"]) (sc := defScope s_stretches) (by decide +kernel)) (fun _ _ _ _ _ => (pg_name (i := 2) Sc.nd rfl (by first | exact Or.inl rfl | exact Or.inr rfl))) (fun _ _ _ _ _ => pts_nil) (fun _ _ _ _ _ => (pe_tup (pa_cons (pv 2) (pa_cons (pe_callB (call_min2DD rfl) (by rfl) T.n_min (by decide +kernel) (pa_cons (pe_op op_addD (pv 2) (pv 1)) (pa_cons (pv 0) pa_nil))) pa_nil)))))))),
      (ds_ret (de_frz (dl_lc (W' := fun _ _ _ _ => False) (vs := [2]) (di_rg3 (da_cons de_int (da_cons (de_var 0) (da_cons (de_var 1) da_nil)))) (dg_name (i := 2)) dt_yes (de_tup (da_cons (de_var 2) (da_cons (de_callN (da_cons (de_op (de_var 2) (de_var 1)) (da_cons (de_var 0) da_nil))) da_nil))) (fun _ h => h))))⟩
theorem ok_note_parts (T : Defs K mg) : ∀ n, FnOk P w K mg base CX0 (0 + n) T.d_note_parts.f T.d_note_parts.fd ["shape", "place", "parts"] (spW K (owG im K) 3 2 (F_note_parts n))
  | 0 => FnOk.no fun _ _ _ _ => spWJ_no
  | n + 1 => by
    have ih := ok_note_parts T n
    have Sc : FnScope ["shape", "place", "parts", "end", "middle"] ["shape", "place", "parts"] (defScope s_note_parts) := ⟨rfl, rfl, rfl, by decide +kernel, rfl, by decide +kernel, by decide +kernel⟩
    refine fn_WxJ (Γ := owG im K) (hj := by decide) (k := 0 + n) (N := ["shape", "place", "parts", "end", "middle"]) (ps := ["shape", "place", "parts"]) (F := B_note_parts (F_note_parts n)) T.d_note_parts.F Sc rfl rfl rfl fun cdv A outer s H Ex hr => ?_
    have hu := room_hu hr
    exact ⟨_, (pss_cons (ps_set (i := 3) Sc.nd rfl (by first | exact Or.inl rfl | exact Or.inr rfl) (pe_op op_addD (pv 1) pe_int))
      (pss_cons (ps_if (pt_cmpR (op_neDD hu) (pv 0) (pe_tup pa_nil) (nomark _)) (pss_cons (ps_set (i := 4) Sc.nd rfl (by first | exact Or.inl rfl | exact Or.inr rfl) (pe_call ih hr rfl T.d_note_parts.g T.d_note_parts.F.kp T.d_note_parts.b .nil pass0 (pa_cons (pe_ix ix_D (pv 0) pe_int (fun _ _ => rfl)) (pa_cons (pv 1) (pa_cons (pv 2) pa_nil)))))
      (pss_one (ps_set (i := 3) Sc.nd rfl (by first | exact Or.inl rfl | exact Or.inr rfl) (pe_call ih hr rfl T.d_note_parts.g T.d_note_parts.F.kp T.d_note_parts.b .nil pass0 (pa_cons (pe_ix ix_D (pv 0) pe_int (fun _ _ => rfl)) (pa_cons (pv 4) (pa_cons (pv 2) pa_nil))))))) pss_nil)
      (pss_cons (ps_dput (hu1 hu) (pv 2) (pe_tup (pa_cons (pv 1) (pa_cons (pv 3) pa_nil))) (pv 0) (by rfl))
      (pss_one (ps_ret (pv 3)))))),
      fun p => (ds_seq (ds_asg (de_op (de_var 1) de_int) dg_name)
      (ds_seq (ds_if (dt_test (de_op (de_var 0) (de_tup da_nil))) (ds_seq (ds_asg (dc_WJ (daj_next (de_op (de_var 0) de_int) (daj_next (de_var 1) (daj_here da_nil))) (an_cons (an_cons an_nil))) dg_name)
      (ds_asg (dc_WJ (daj_next (de_op (de_var 0) de_int) (daj_next (de_var 4) (daj_here da_nil))) (an_cons (an_cons an_nil))) dg_name)) ds_nx)
      (ds_seq (ds_putTs (da_cons (de_var 1) (da_cons (de_var 3) da_nil)) (de_var 0))
      (ds_ret (de_var 3)))))⟩
theorem ok_lump_parts (T : Defs K mg) : FnOk P w K mg base CX0 71 T.d_lump_parts.f T.d_lump_parts.fd ["shape"] (spD K im 1 F_lump_parts) := by
  have G_note_parts := ok_note_parts (P := P) (w := w) (base := base) (im := im) T
  have Sc : FnScope ["shape", "parts"] ["shape"] (defScope s_lump_parts) := ⟨rfl, rfl, rfl, by decide +kernel, rfl, by decide +kernel, by decide +kernel⟩
  refine fn_Dx (N := ["shape", "parts"]) (ps := ["shape"]) (F := B_lump_parts) T.d_lump_parts.F Sc rfl rfl rfl fun cdv A outer s H Ex hr => ?_
  have hu := room_hu hr
  exact ⟨_, (pss_cons (ps_set (i := 1) Sc.nd rfl (by first | exact Or.inl rfl | exact Or.inr rfl) pe_dnewT)
      (pss_cons (ps_expr (pe_call (G_note_parts 70) (hr.mono (by first | decide | omega)) rfl T.d_note_parts.g T.d_note_parts.F.kp T.d_note_parts.b .nil pass0 (pa_cons (pv 0) (pa_cons pe_int (pa_cons (pv 1) pa_nil)))))
      (pss_one (ps_ret (pe_frzW (pv 1)))))),
      (ds_seq ds_newT
      (ds_seq (ds_callW (daj_next (de_var 0) (daj_next de_int (daj_here da_nil))) (an_cons (an_cons an_nil)))
      ds_retW))⟩
theorem ok_stretch_faults (T : Defs K mg) : FnOk P w K mg base CX0 72 T.d_stretch_faults.f T.d_stretch_faults.fd ["table", "b", "m"] (spD K im 3 F_stretch_faults) := by
  have G_lump_parts := ok_lump_parts (P := P) (w := w) (base := base) (im := im) T
  have G_stretches := ok_stretches (P := P) (w := w) (base := base) (im := im) T
  have G_entry := ok_entry (P := P) (w := w) (base := base) (im := im) T
  have Sc : FnScope ["table", "b", "m", "parts", "faults", "i", "j"] ["table", "b", "m"] (defScope s_stretch_faults) := ⟨rfl, rfl, rfl, by decide +kernel, rfl, by decide +kernel, by decide +kernel⟩
  refine fn_Dx (N := ["table", "b", "m", "parts", "faults", "i", "j"]) (ps := ["table", "b", "m"]) (F := B_stretch_faults) T.d_stretch_faults.F Sc rfl rfl rfl fun cdv A outer s H Ex hr => ?_
  have hu := room_hu hr
  exact ⟨_, (pss_cons (ps_set (i := 3) Sc.nd rfl (by first | exact Or.inl rfl | exact Or.inr rfl) (pe_call G_lump_parts (hr.mono (by first | decide | omega)) rfl T.d_lump_parts.g T.d_lump_parts.F.kp T.d_lump_parts.b .nil pass0 (pa_cons (pe_call G_entry (hr.mono (by first | decide | omega)) rfl T.d_entry.g T.d_entry.F.kp T.d_entry.b .nil pass0 (pa_cons (pv 0) (pa_cons (pv 2) pa_nil))) pa_nil)))
      (pss_cons (ps_set (i := 4) Sc.nd rfl (by first | exact Or.inl rfl | exact Or.inr rfl) (pe_lst pa_nil))
      (pss_cons (ps_for PassesOwn.never rfl (pi_seq (pe_call G_stretches (hr.mono (by first | decide | omega)) rfl T.d_stretches.g T.d_stretches.F.kp T.d_stretches.b .nil pass0 (pa_cons (pv 2) (pa_cons (pv 1) pa_nil)))) (pg_sq rfl (pgs_cons (pg_name (i := 5) Sc.nd rfl (by first | exact Or.inl rfl | exact Or.inr rfl)) (pgs_cons (pg_name (i := 6) Sc.nd rfl (by first | exact Or.inl rfl | exact Or.inr rfl)) pgs_nil))) (pss_one (ps_if (pt_cmp (pc_dnotin (hu1 hu) (pe_tup (pa_cons (pv 5) (pa_cons (pv 6) pa_nil))) (pv 3))) (pss_one (ps_expr (pe_bm PySem.F.plainAttrs_list PySem.F.slot_list_append PySem.F.type_list_append mt_append (pv 4) (pa_cons pe_str pa_nil)))) (pss_one (ps_if (pt_cmpR (op_neDD hu) (pe_dget (hu1 hu) (pv 3) (pe_tup (pa_cons (pv 5) (pa_cons (pv 6) pa_nil))) (fun _ _ => rfl)) (pe_call G_entry (hr.mono (by first | decide | omega)) rfl T.d_entry.g T.d_entry.F.kp T.d_entry.b .nil pass0 (pa_cons (pv 0) (pa_cons (pe_op op_subD (pv 6) (pv 5)) pa_nil))) (nomark _)) (pss_one (ps_expr (pe_bm PySem.F.plainAttrs_list PySem.F.slot_list_append PySem.F.type_list_append mt_append (pv 4) (pa_cons pe_str pa_nil)))) (pss_one (ps_expr (pe_bm PySem.F.plainAttrs_list PySem.F.slot_list_append PySem.F.type_list_append mt_append (pv 4) (pa_cons pe_non pa_nil)))))))))
      (pss_one (ps_ret (pe_frz (pv 4))))))),
      (ds_seq (ds_asg (dc_D (da_cons (dc_D (da_cons (de_var 0) (da_cons (de_var 2) da_nil)) (an_cons (an_cons an_nil))) da_nil) (an_cons an_nil)) dg_name)
      (ds_seq (ds_setO (dl_lst da_nil))
      (ds_seq (ds_for (di_seq (dc_D (da_cons (de_var 2) (da_cons (de_var 1) da_nil)) (an_cons (an_cons an_nil)))) (dg_tup (dgs_cons (dg_name (i := 5)) (dgs_cons (dg_name (i := 6)) dgs_nil))) (ds_if (dt_test (de_dnT (plT 3) (da_cons (de_var 5) (da_cons (de_var 6) da_nil)))) (ds_app de_str) (ds_if (dt_test (de_op (de_dgT (plT 3) (da_cons (de_var 5) (da_cons (de_var 6) da_nil))) (dc_D (da_cons (de_var 0) (da_cons (de_op (de_var 6) (de_var 5)) da_nil)) (an_cons (an_cons an_nil))))) (ds_app de_str) (ds_app de_non))))
      ds_retO)))⟩
theorem ok_above_from (T : Defs K mg) : ∀ n, FnOk P w K mg base CX0 (0 + n) T.d_above_from.f T.d_above_from.fd ["shape", "b", "place"] (spD K im 3 (F_above_from n))
  | 0 => FnOk.no fun _ _ _ _ => spD_no
  | n + 1 => by
    have ih := ok_above_from T n
    have Sc : FnScope ["shape", "b", "place", "left", "middle", "right", "end"] ["shape", "b", "place"] (defScope s_above_from) := ⟨rfl, rfl, rfl, by decide +kernel, rfl, by decide +kernel, by decide +kernel⟩
    refine fn_Dx (k := 0 + n) (N := ["shape", "b", "place", "left", "middle", "right", "end"]) (ps := ["shape", "b", "place"]) (F := B_above_from (F_above_from n)) T.d_above_from.F Sc rfl rfl rfl fun cdv A outer s H Ex hr => ?_
    have hu := room_hu hr
    exact ⟨_, (pss_cons (ps_if (pt_cmpR (op_eqDD hu) (pv 0) (pe_tup pa_nil) (nomark _)) (pss_one (ps_ret (pe_tup (pa_cons (pe_tup pa_nil) (pa_cons (pe_op op_addD (pv 2) pe_int) pa_nil))))) pss_nil)
      (pss_cons (ps_asg (pe_call ih hr rfl T.d_above_from.g T.d_above_from.F.kp T.d_above_from.b .nil pass0 (pa_cons (pe_ix ix_D (pv 0) pe_int (fun _ _ => rfl)) (pa_cons (pv 1) (pa_cons (pv 2) pa_nil)))) (pg_sq rfl (pgs_cons (pg_name (i := 3) Sc.nd rfl (by first | exact Or.inl rfl | exact Or.inr rfl)) (pgs_cons (pg_name (i := 4) Sc.nd rfl (by first | exact Or.inl rfl | exact Or.inr rfl)) pgs_nil))))
      (pss_cons (ps_asg (pe_call ih hr rfl T.d_above_from.g T.d_above_from.F.kp T.d_above_from.b .nil pass0 (pa_cons (pe_ix ix_D (pv 0) pe_int (fun _ _ => rfl)) (pa_cons (pv 1) (pa_cons (pv 4) pa_nil)))) (pg_sq rfl (pgs_cons (pg_name (i := 5) Sc.nd rfl (by first | exact Or.inl rfl | exact Or.inr rfl)) (pgs_cons (pg_name (i := 6) Sc.nd rfl (by first | exact Or.inl rfl | exact Or.inr rfl)) pgs_nil))))
      (pss_cons (ps_if (pt_cmpR (op_eqDD hu) (pe_op op_fdivD (pv 2) (pv 1)) (pe_op op_fdivD (pe_op op_subD (pv 6) pe_int) (pv 1)) (nomark _)) (pss_one (ps_ret (pe_tup (pa_cons (pe_tup pa_nil) (pa_cons (pv 6) pa_nil))))) pss_nil)
      (pss_one (ps_ret (pe_tup (pa_cons (pe_tup (pa_cons (pv 3) (pa_cons (pv 5) pa_nil))) (pa_cons (pv 6) pa_nil))))))))),
      (ds_seq (ds_if (dt_test (de_op (de_var 0) (de_tup da_nil))) (ds_ret (de_tup (da_cons (de_tup da_nil) (da_cons (de_op (de_var 2) de_int) da_nil)))) ds_nx)
      (ds_seq (ds_asg (dc_D (da_cons (de_op (de_var 0) de_int) (da_cons (de_var 1) (da_cons (de_var 2) da_nil))) (an_cons (an_cons (an_cons an_nil)))) (dg_tup (dgs_cons (dg_name (i := 3)) (dgs_cons (dg_name (i := 4)) dgs_nil))))
      (ds_seq (ds_asg (dc_D (da_cons (de_op (de_var 0) de_int) (da_cons (de_var 1) (da_cons (de_var 4) da_nil))) (an_cons (an_cons (an_cons an_nil)))) (dg_tup (dgs_cons (dg_name (i := 5)) (dgs_cons (dg_name (i := 6)) dgs_nil))))
      (ds_seq (ds_if (dt_test (de_op (de_op (de_var 2) (de_var 1)) (de_op (de_op (de_var 6) de_int) (de_var 1)))) (ds_ret (de_tup (da_cons (de_tup da_nil) (da_cons (de_var 6) da_nil)))) ds_nx)
      (ds_ret (de_tup (da_cons (de_tup (da_cons (de_var 3) (da_cons (de_var 5) da_nil))) (da_cons (de_var 6) da_nil))))))))⟩
theorem ok_above (T : Defs K mg) : FnOk P w K mg base CX0 71 T.d_above.f T.d_above.fd ["shape", "b"] (spD K im 2 F_above) := by
  have G_above_from := ok_above_from (P := P) (w := w) (base := base) (im := im) T
  have Sc : FnScope ["shape", "b", "made", "_"] ["shape", "b"] (defScope s_above) := ⟨rfl, rfl, rfl, by decide +kernel, rfl, by decide +kernel, by decide +kernel⟩
  refine fn_Dx (N := ["shape", "b", "made", "_"]) (ps := ["shape", "b"]) (F := B_above) T.d_above.F Sc rfl rfl rfl fun cdv A outer s H Ex hr => ?_
  have hu := room_hu hr
  exact ⟨_, (pss_cons (ps_asg (pe_call (G_above_from 70) (hr.mono (by first | decide | omega)) rfl T.d_above_from.g T.d_above_from.F.kp T.d_above_from.b .nil pass0 (pa_cons (pv 0) (pa_cons (pv 1) (pa_cons pe_int pa_nil)))) (pg_sq rfl (pgs_cons (pg_name (i := 2) Sc.nd rfl (by first | exact Or.inl rfl | exact Or.inr rfl)) (pgs_cons (pg_name (i := 3) Sc.nd rfl (by first | exact Or.inl rfl | exact Or.inr rfl)) pgs_nil))))
      (pss_one (ps_ret (pv 2)))),
      (ds_seq (ds_asg (dc_D (da_cons (de_var 0) (da_cons (de_var 1) (da_cons de_int da_nil))) (an_cons (an_cons (an_cons an_nil)))) (dg_tup (dgs_cons (dg_name (i := 2)) (dgs_cons (dg_name (i := 3)) dgs_nil))))
      (ds_ret (de_var 2)))⟩
theorem ok_first_stretch_counter (T : Defs K mg) : FnOk P w K mg base CX0 73 T.d_first_stretch_counter.f T.d_first_stretch_counter.fd ["table", "b"] (spD K im 2 F_first_stretch_counter) := by
  have G_table_size := ok_table_size (P := P) (w := w) (base := base) (im := im) T
  have G_stretch_faults := ok_stretch_faults (P := P) (w := w) (base := base) (im := im) T
  have Sc : FnScope ["table", "b", "m", "k", "fault"] ["table", "b"] (defScope s_first_stretch_counter) := ⟨rfl, rfl, rfl, by decide +kernel, rfl, by decide +kernel, by decide +kernel⟩
  refine fn_Dx (N := ["table", "b", "m", "k", "fault"]) (ps := ["table", "b"]) (F := B_first_stretch_counter) T.d_first_stretch_counter.F Sc rfl rfl rfl fun cdv A outer s H Ex hr => ?_
  have hu := room_hu hr
  exact ⟨_, (pss_cons (ps_for PassesOwn.never rfl (pi_range2 rfl T.n_range (pa_cons pe_int (pa_cons (pe_op op_addD (pe_call G_table_size (hr.mono (by first | decide | omega)) rfl T.d_table_size.g T.d_table_size.F.kp T.d_table_size.b .nil pass0 (pa_cons (pv 0) pa_nil)) pe_int) pa_nil))) (pg_name (i := 2) Sc.nd rfl (by first | exact Or.inl rfl | exact Or.inr rfl)) (pss_one (ps_for PassesOwn.never rfl (pi_enumS rfl T.n_enumerate (pa_cons (pe_call G_stretch_faults (hr.mono (by first | decide | omega)) rfl T.d_stretch_faults.g T.d_stretch_faults.F.kp T.d_stretch_faults.b .nil pass0 (pa_cons (pv 0) (pa_cons (pv 1) (pa_cons (pv 2) pa_nil)))) pa_nil)) (pg_sq rfl (pgs_cons (pg_name (i := 3) Sc.nd rfl (by first | exact Or.inl rfl | exact Or.inr rfl)) (pgs_cons (pg_name (i := 4) Sc.nd rfl (by first | exact Or.inl rfl | exact Or.inr rfl)) pgs_nil))) (pss_one (ps_if (pt_cmpR op_notND (pv 4) pe_non (nomark _)) (pss_one (ps_ret (pe_tup (pa_cons (pv 4) (pa_cons (pv 2) (pa_cons (pv 3) pa_nil)))))) pss_nil)))))
      (pss_one (ps_ret pe_non))),
      (ds_seq (ds_for (di_rg2 (da_cons de_int (da_cons (de_op (dc_D (da_cons (de_var 0) da_nil) (an_cons an_nil)) de_int) da_nil))) (dg_name (i := 2)) (ds_for (di_enum (dc_D (da_cons (de_var 0) (da_cons (de_var 1) (da_cons (de_var 2) da_nil))) (an_cons (an_cons (an_cons an_nil))))) (dg_tup (dgs_cons (dg_name (i := 3)) (dgs_cons (dg_name (i := 4)) dgs_nil))) (ds_if (dt_test (de_op (de_var 4) de_non)) (ds_ret (de_tup (da_cons (de_var 4) (da_cons (de_var 2) (da_cons (de_var 3) da_nil))))) ds_nx)))
      (ds_ret de_non))⟩
theorem ok_first_above_counter (T : Defs K mg) : FnOk P w K mg base CX0 72 T.d_first_above_counter.f T.d_first_above_counter.fd ["table", "b"] (spD K im 2 F_first_above_counter) := by
  have G_table_size := ok_table_size (P := P) (w := w) (base := base) (im := im) T
  have G_above := ok_above (P := P) (w := w) (base := base) (im := im) T
  have G_entry := ok_entry (P := P) (w := w) (base := base) (im := im) T
  have Sc : FnScope ["table", "b", "n", "m"] ["table", "b"] (defScope s_first_above_counter) := ⟨rfl, rfl, rfl, by decide +kernel, rfl, by decide +kernel, by decide +kernel⟩
  refine fn_Dx (N := ["table", "b", "n", "m"]) (ps := ["table", "b"]) (F := B_first_above_counter) T.d_first_above_counter.F Sc rfl rfl rfl fun cdv A outer s H Ex hr => ?_
  have hu := room_hu hr
  exact ⟨_, (pss_cons (ps_for PassesOwn.never rfl (pi_range2 rfl T.n_range (pa_cons (pe_op op_addD (pv 1) pe_int) (pa_cons (pe_op op_addD (pe_call G_table_size (hr.mono (by first | decide | omega)) rfl T.d_table_size.g T.d_table_size.F.kp T.d_table_size.b .nil pass0 (pa_cons (pv 0) pa_nil)) pe_int) pa_nil))) (pg_name (i := 2) Sc.nd rfl (by first | exact Or.inl rfl | exact Or.inr rfl)) (pss_cons (ps_set (i := 3) Sc.nd rfl (by first | exact Or.inl rfl | exact Or.inr rfl) (pe_op op_addD (pe_op op_mulD (pe_op op_fdivD (pe_op op_subD (pv 2) pe_int) (pv 1)) (pv 1)) pe_int))
      (pss_one (ps_if (pt_cmpR (op_neDD hu) (pe_call G_above (hr.mono (by first | decide | omega)) rfl T.d_above.g T.d_above.F.kp T.d_above.b .nil pass0 (pa_cons (pe_call G_entry (hr.mono (by first | decide | omega)) rfl T.d_entry.g T.d_entry.F.kp T.d_entry.b .nil pass0 (pa_cons (pv 0) (pa_cons (pv 3) pa_nil))) (pa_cons (pv 1) pa_nil))) (pe_call G_above (hr.mono (by first | decide | omega)) rfl T.d_above.g T.d_above.F.kp T.d_above.b .nil pass0 (pa_cons (pe_call G_entry (hr.mono (by first | decide | omega)) rfl T.d_entry.g T.d_entry.F.kp T.d_entry.b .nil pass0 (pa_cons (pv 0) (pa_cons (pv 2) pa_nil))) (pa_cons (pv 1) pa_nil))) (nomark _)) (pss_one (ps_ret (pe_tup (pa_cons pe_str (pa_cons (pv 3) (pa_cons (pv 2) pa_nil)))))) pss_nil))))
      (pss_one (ps_ret pe_non))),
      (ds_seq (ds_for (di_rg2 (da_cons (de_op (de_var 1) de_int) (da_cons (de_op (dc_D (da_cons (de_var 0) da_nil) (an_cons an_nil)) de_int) da_nil))) (dg_name (i := 2)) (ds_seq (ds_asg (de_op (de_op (de_op (de_op (de_var 2) de_int) (de_var 1)) (de_var 1)) de_int) dg_name)
      (ds_if (dt_test (de_op (dc_D (da_cons (dc_D (da_cons (de_var 0) (da_cons (de_var 3) da_nil)) (an_cons (an_cons an_nil))) (da_cons (de_var 1) da_nil)) (an_cons (an_cons an_nil))) (dc_D (da_cons (dc_D (da_cons (de_var 0) (da_cons (de_var 2) da_nil)) (an_cons (an_cons an_nil))) (da_cons (de_var 1) da_nil)) (an_cons (an_cons an_nil))))) (ds_ret (de_tup (da_cons de_str (da_cons (de_var 3) (da_cons (de_var 2) da_nil))))) ds_nx)))
      (ds_ret de_non))⟩
theorem ok_entries_counter (T : Defs K mg) : FnOk P w K mg base CX0 74 T.d_entries_counter.f T.d_entries_counter.fd ["table", "b"] (spD K im 2 F_entries_counter) := by
  have G_first_stretch_counter := ok_first_stretch_counter (P := P) (w := w) (base := base) (im := im) T
  have G_first_above_counter := ok_first_above_counter (P := P) (w := w) (base := base) (im := im) T
  have Sc : FnScope ["table", "b", "found"] ["table", "b"] (defScope s_entries_counter) := ⟨rfl, rfl, rfl, by decide +kernel, rfl, by decide +kernel, by decide +kernel⟩
  refine fn_Dx (N := ["table", "b", "found"]) (ps := ["table", "b"]) (F := B_entries_counter) T.d_entries_counter.F Sc rfl rfl rfl fun cdv A outer s H Ex hr => ?_
  have hu := room_hu hr
  exact ⟨_, (pss_cons (ps_set (i := 2) Sc.nd rfl (by first | exact Or.inl rfl | exact Or.inr rfl) (pe_call G_first_stretch_counter (hr.mono (by first | decide | omega)) rfl T.d_first_stretch_counter.g T.d_first_stretch_counter.F.kp T.d_first_stretch_counter.b .nil pass0 (pa_cons (pv 0) (pa_cons (pv 1) pa_nil))))
      (pss_cons (ps_if (pt_cmpR op_isND (pv 2) pe_non (nomark _)) (pss_one (ps_set (i := 2) Sc.nd rfl (by first | exact Or.inl rfl | exact Or.inr rfl) (pe_call G_first_above_counter (hr.mono (by first | decide | omega)) rfl T.d_first_above_counter.g T.d_first_above_counter.F.kp T.d_first_above_counter.b .nil pass0 (pa_cons (pv 0) (pa_cons (pv 1) pa_nil))))) pss_nil)
      (pss_one (ps_ret (pv 2))))),
      (ds_seq (ds_asg (dc_D (da_cons (de_var 0) (da_cons (de_var 1) da_nil)) (an_cons (an_cons an_nil))) dg_name)
      (ds_seq (ds_if (dt_test (de_op (de_var 2) de_non)) (ds_asg (dc_D (da_cons (de_var 0) (da_cons (de_var 1) da_nil)) (an_cons (an_cons an_nil))) dg_name) ds_nx)
      (ds_ret (de_var 2))))⟩
theorem ok_counter (T : Defs K mg) : FnOk P w K mg base CX0 75 T.d_counter.f T.d_counter.fd ["table", "b"] (spD K im 2 F_counter) := by
  have G_entries_counter := ok_entries_counter (P := P) (w := w) (base := base) (im := im) T
  have G_table_size := ok_table_size (P := P) (w := w) (base := base) (im := im) T
  have Sc : FnScope ["table", "b"] ["table", "b"] (defScope s_counter) := ⟨rfl, rfl, rfl, by decide +kernel, rfl, by decide +kernel, by decide +kernel⟩
  refine fn_Dx (N := ["table", "b"]) (ps := ["table", "b"]) (F := B_counter) T.d_counter.F Sc rfl rfl rfl fun cdv A outer s H Ex hr => ?_
  have hu := room_hu hr
  exact ⟨_, (pss_cons (ps_if (pt_cmpR (op_neDD hu) (pe_op op_modD (pe_call G_table_size (hr.mono (by first | decide | omega)) rfl T.d_table_size.g T.d_table_size.F.kp T.d_table_size.b .nil pass0 (pa_cons (pv 0) pa_nil)) (pv 1)) pe_int (nomark _)) (pss_one (ps_ret (pe_tup (pa_cons pe_str pa_nil)))) pss_nil)
      (pss_one (ps_ret (pe_call G_entries_counter (hr.mono (by first | decide | omega)) rfl T.d_entries_counter.g T.d_entries_counter.F.kp T.d_entries_counter.b .nil pass0 (pa_cons (pv 0) (pa_cons (pv 1) pa_nil)))))),
      (ds_seq (ds_if (dt_test (de_op (de_op (dc_D (da_cons (de_var 0) da_nil) (an_cons an_nil)) (de_var 1)) de_int)) (ds_ret (de_tup (da_cons de_str da_nil))) ds_nx)
      (ds_ret (dc_D (da_cons (de_var 0) (da_cons (de_var 1) da_nil)) (an_cons (an_cons an_nil)))))⟩
theorem ok_table_above (T : Defs K mg) : FnOk P w K mg base CX0 72 T.d_table_above.f T.d_table_above.fd ["table", "b", "size"] (spD K im 3 F_table_above) := by
  have G_above := ok_above (P := P) (w := w) (base := base) (im := im) T
  have G_entry := ok_entry (P := P) (w := w) (base := base) (im := im) T
  have Sc : FnScope ["table", "b", "size", "m"] ["table", "b", "size"] (defScope s_table_above) := ⟨rfl, rfl, rfl, by decide +kernel, rfl, by decide +kernel, by decide +kernel⟩
  refine fn_Dx (N := ["table", "b", "size", "m"]) (ps := ["table", "b", "size"]) (F := B_table_above) T.d_table_above.F Sc rfl rfl rfl fun cdv A outer s H Ex hr => ?_
  have hu := room_hu hr
  exact ⟨_, (pss_one (ps_ret (pe_callTy call_tupleDD (by rfl) T.n_tuple (by decide +kernel) (pa_cons (pe_frz (pe_lc (own := [("m", 3)]) rfl Sc.nd (pi_range2 rfl T.n_range (pa_cons pe_int (pa_cons (pe_op op_addD (pv 2) pe_int) pa_nil))) (blkOk_by (own := [("m", 3)]) (N := ["table", "b", "size", "m"]) (sc := defScope s_table_above) (by decide +kernel)) (fun _ _ _ _ _ => (pg_name (i := 3) Sc.nd rfl (by first | exact Or.inl rfl | exact Or.inr rfl))) (fun _ _ _ _ _ => pts_nil) (fun _ _ _ _ _ => (pe_call G_above (hr.mono (by first | decide | omega)) rfl T.d_above.g T.d_above.F.kp T.d_above.b .nil pass0 (pa_cons (pe_call G_entry (hr.mono (by first | decide | omega)) rfl T.d_entry.g T.d_entry.F.kp T.d_entry.b .nil pass0 (pa_cons (pv 0) (pa_cons (pe_op op_mulD (pv 1) (pv 3)) pa_nil))) (pa_cons (pv 1) pa_nil)))))) pa_nil)))),
      (ds_ret (de_callN (da_cons (de_frz (dl_lc (W' := fun _ _ _ _ => False) (vs := [3]) (di_rg2 (da_cons de_int (da_cons (de_op (de_var 2) de_int) da_nil))) (dg_name (i := 3)) dt_yes (dc_D (da_cons (dc_D (da_cons (de_var 0) (da_cons (de_op (de_var 1) (de_var 3)) da_nil)) (an_cons (an_cons an_nil))) (da_cons (de_var 1) da_nil)) (an_cons (an_cons an_nil))) (fun _ h => h))) da_nil)))⟩
theorem ok_behind (T : Defs K mg) : FnOk P w K mg base CX0 76 T.d_behind.f T.d_behind.fd ["table", "b"] (spD K im 2 F_behind) := by
  have G_counter := ok_counter (P := P) (w := w) (base := base) (im := im) T
  have G_table_above := ok_table_above (P := P) (w := w) (base := base) (im := im) T
  have G_table_size := ok_table_size (P := P) (w := w) (base := base) (im := im) T
  have Sc : FnScope ["table", "b", "found"] ["table", "b"] (defScope s_behind) := ⟨rfl, rfl, rfl, by decide +kernel, rfl, by decide +kernel, by decide +kernel⟩
  refine fn_Dx (N := ["table", "b", "found"]) (ps := ["table", "b"]) (F := B_behind) T.d_behind.F Sc rfl rfl rfl fun cdv A outer s H Ex hr => ?_
  have hu := room_hu hr
  exact ⟨_, (pss_cons (ps_set (i := 2) Sc.nd rfl (by first | exact Or.inl rfl | exact Or.inr rfl) (pe_call G_counter (hr.mono (by first | decide | omega)) rfl T.d_counter.g T.d_counter.F.kp T.d_counter.b .nil pass0 (pa_cons (pv 0) (pa_cons (pv 1) pa_nil))))
      (pss_cons (ps_if (pt_cmpR op_notND (pv 2) pe_non (nomark _)) (pss_one DL.ps_never) pss_nil)
      (pss_one (ps_ret (pe_call G_table_above (hr.mono (by first | decide | omega)) rfl T.d_table_above.g T.d_table_above.F.kp T.d_table_above.b .nil pass0 (pa_cons (pv 0) (pa_cons (pv 1) (pa_cons (pe_op op_fdivD (pe_call G_table_size (hr.mono (by first | decide | omega)) rfl T.d_table_size.g T.d_table_size.F.kp T.d_table_size.b .nil pass0 (pa_cons (pv 0) pa_nil)) (pv 1)) pa_nil)))))))),
      (ds_seq (ds_asg (dc_D (da_cons (de_var 0) (da_cons (de_var 1) da_nil)) (an_cons (an_cons an_nil))) dg_name)
      (ds_seq (ds_if (dt_test (de_op (de_var 2) de_non)) DL.ds_never ds_nx)
      (ds_ret (dc_D (da_cons (de_var 0) (da_cons (de_var 1) (da_cons (de_op (dc_D (da_cons (de_var 0) da_nil) (an_cons an_nil)) (de_var 1)) da_nil))) (an_cons (an_cons (an_cons an_nil)))))))⟩
theorem okX_behind (T : Defs K mg) : FnOk P w K mg base (L2.CX P w) 76 T.d_behind.f T.d_behind.fd ["table", "b"] (spXF K im 2 T.cX FX_behind) := by
  have G_counter := ok_counter (P := P) (w := w) (base := base) (im := im) T
  have G_table_above := ok_table_above (P := P) (w := w) (base := base) (im := im) T
  have G_table_size := ok_table_size (P := P) (w := w) (base := base) (im := im) T
  have Sc : FnScope ["table", "b", "found"] ["table", "b"] (defScope s_behind) := ⟨rfl, rfl, rfl, by decide +kernel, rfl, by decide +kernel, by decide +kernel⟩
  refine fn_DXF (N := ["table", "b", "found"]) (ps := ["table", "b"]) (F := BX_behind) T.d_behind.F Sc rfl rfl rfl fun cdv A outer s H Ex hr => ?_
  have hu := room_hu hr
  exact ⟨_, (pss_cons (ps_set (i := 2) Sc.nd rfl (by first | exact Or.inl rfl | exact Or.inr rfl) (pe_call G_counter (hr.mono (by first | decide | omega)) rfl T.d_counter.g T.d_counter.F.kp T.d_counter.b .nil pass0 (pa_cons (pv 0) (pa_cons (pv 1) pa_nil))))
      (pss_cons (ps_if (pt_cmpR op_notND (pv 2) pe_non (nomark _)) (pss_one (ps_raise rfl (takes_of rfl rfl rfl rfl) (pmk_oex T.xO T.xI T.xJ (ok_XI (P := P) (w := w) (base := base) T) (hr.mono (by first | decide | omega)) T.xB .nil pass0 rfl T.gX (pa_cons (pv 2) pa_nil)))) pss_nil)
      (pss_one (ps_ret (pe_call G_table_above (hr.mono (by first | decide | omega)) rfl T.d_table_above.g T.d_table_above.F.kp T.d_table_above.b .nil pass0 (pa_cons (pv 0) (pa_cons (pv 1) (pa_cons (pe_op op_fdivD (pe_call G_table_size (hr.mono (by first | decide | omega)) rfl T.d_table_size.g T.d_table_size.F.kp T.d_table_size.b .nil pass0 (pa_cons (pv 0) pa_nil)) (pv 1)) pa_nil)))))))),
      (ds_seq (ds_asg (dc_D (da_cons (de_var 0) (da_cons (de_var 1) da_nil)) (an_cons (an_cons an_nil))) dg_name)
      (ds_seq (ds_if (dt_test (de_op (de_var 2) de_non)) (ds_raiseF (da_cons (de_var 2) da_nil)) ds_nx)
      (ds_ret (dc_D (da_cons (de_var 0) (da_cons (de_var 1) (da_cons (de_op (dc_D (da_cons (de_var 0) da_nil) (an_cons an_nil)) (de_var 1)) da_nil))) (an_cons (an_cons (an_cons an_nil)))))))⟩
theorem ok_is_stretch_counter (T : Defs K mg) : FnOk P w K mg base CX0 73 T.d_is_stretch_counter.f T.d_is_stretch_counter.fd ["table", "b", "kind", "m", "k"] (spD K im 5 F_is_stretch_counter) := by
  have G_stretch_faults := ok_stretch_faults (P := P) (w := w) (base := base) (im := im) T
  have Sc : FnScope ["table", "b", "kind", "m", "k", "faults"] ["table", "b", "kind", "m", "k"] (defScope s_is_stretch_counter) := ⟨rfl, rfl, rfl, by decide +kernel, rfl, by decide +kernel, by decide +kernel⟩
  refine fn_Dx (N := ["table", "b", "kind", "m", "k", "faults"]) (ps := ["table", "b", "kind", "m", "k"]) (F := B_is_stretch_counter) T.d_is_stretch_counter.F Sc rfl rfl rfl fun cdv A outer s H Ex hr => ?_
  have hu := room_hu hr
  exact ⟨_, (pss_cons (ps_set (i := 5) Sc.nd rfl (by first | exact Or.inl rfl | exact Or.inr rfl) (pe_call G_stretch_faults (hr.mono (by first | decide | omega)) rfl T.d_stretch_faults.g T.d_stretch_faults.F.kp T.d_stretch_faults.b .nil pass0 (pa_cons (pv 0) (pa_cons (pv 1) (pa_cons (pv 3) pa_nil)))))
      (pss_one (ps_ret (pe_and (pe_cmpR op_ltD (pv 4) (pe_callB call_lenDD (by rfl) T.n_len (by decide +kernel) (pa_cons (pv 5) pa_nil)) (nomark _)) (pe_one (pe_cmpR (op_eqDD hu) (pe_ix ix_D (pv 5) (pv 4) (fun _ _ => rfl)) (pv 2) (nomark _))))))),
      (ds_seq (ds_asg (dc_D (da_cons (de_var 0) (da_cons (de_var 1) (da_cons (de_var 3) da_nil))) (an_cons (an_cons (an_cons an_nil)))) dg_name)
      (ds_ret (de_and (de_op (de_var 4) (de_callN (da_cons (de_var 5) da_nil))) (de_op (de_op (de_var 5) (de_var 4)) (de_var 2)))))⟩
theorem ok_is_above_counter (T : Defs K mg) : FnOk P w K mg base CX0 73 T.d_is_above_counter.f T.d_is_above_counter.fd ["table", "b", "m", "n"] (spD K im 4 F_is_above_counter) := by
  have G_above := ok_above (P := P) (w := w) (base := base) (im := im) T
  have G_entry := ok_entry (P := P) (w := w) (base := base) (im := im) T
  have G_stretches := ok_stretches (P := P) (w := w) (base := base) (im := im) T
  have G_stretch_faults := ok_stretch_faults (P := P) (w := w) (base := base) (im := im) T
  have Sc : FnScope ["table", "b", "m", "n", "size", "fault"] ["table", "b", "m", "n"] (defScope s_is_above_counter) := ⟨rfl, rfl, rfl, by decide +kernel, rfl, by decide +kernel, by decide +kernel⟩
  refine fn_Dx (N := ["table", "b", "m", "n", "size", "fault"]) (ps := ["table", "b", "m", "n"]) (F := B_is_above_counter) T.d_is_above_counter.F Sc rfl rfl rfl fun cdv A outer s H Ex hr => ?_
  have hu := room_hu hr
  exact ⟨_, (pss_cons (ps_if (PW.pt (pw_or (pt_cmpR op_geD (pv 2) (pv 3) (nomark _)) (pw_or1 (pt_cmpR (op_neDD hu) (pe_callB call_lenDD (by rfl) T.n_len (by decide +kernel) (pa_cons (pe_call G_stretches (hr.mono (by first | decide | omega)) rfl T.d_stretches.g T.d_stretches.F.kp T.d_stretches.b .nil pass0 (pa_cons (pv 2) (pa_cons (pv 1) pa_nil))) pa_nil)) (pe_callB call_lenDD (by rfl) T.n_len (by decide +kernel) (pa_cons (pe_call G_stretches (hr.mono (by first | decide | omega)) rfl T.d_stretches.g T.d_stretches.F.kp T.d_stretches.b .nil pass0 (pa_cons (pv 3) (pa_cons (pv 1) pa_nil))) pa_nil)) (nomark _))))) (pss_one (ps_ret pe_bl)) pss_nil)
      (pss_cons (ps_for PassesOwn.never rfl (pi_seq (pe_tup (pa_cons (pv 2) (pa_cons (pv 3) pa_nil)))) (pg_name (i := 4) Sc.nd rfl (by first | exact Or.inl rfl | exact Or.inr rfl)) (pss_one (ps_if (pt_val (pe_callB (call_anyDD rfl) (by rfl) T.n_any (by decide +kernel) (pa_cons (pe_frz (pe_lc (own := [("fault", 5)]) rfl Sc.nd (pi_seq (pe_call G_stretch_faults (hr.mono (by first | decide | omega)) rfl T.d_stretch_faults.g T.d_stretch_faults.F.kp T.d_stretch_faults.b .nil pass0 (pa_cons (pv 0) (pa_cons (pv 1) (pa_cons (pv 4) pa_nil))))) (blkOk_by (own := [("fault", 5)]) (N := ["table", "b", "m", "n", "size", "fault"]) (sc := defScope s_is_above_counter) (by decide +kernel)) (fun _ _ _ _ _ => (pg_name (i := 5) Sc.nd rfl (by first | exact Or.inl rfl | exact Or.inr rfl))) (fun _ _ _ _ _ => pts_nil) (fun _ _ _ _ _ => (pe_cmpR op_notND (pv 5) pe_non (nomark _))))) pa_nil))) (pss_one (ps_ret pe_bl)) pss_nil)))
      (pss_one (ps_ret (pe_cmpR (op_neDD hu) (pe_call G_above (hr.mono (by first | decide | omega)) rfl T.d_above.g T.d_above.F.kp T.d_above.b .nil pass0 (pa_cons (pe_call G_entry (hr.mono (by first | decide | omega)) rfl T.d_entry.g T.d_entry.F.kp T.d_entry.b .nil pass0 (pa_cons (pv 0) (pa_cons (pv 2) pa_nil))) (pa_cons (pv 1) pa_nil))) (pe_call G_above (hr.mono (by first | decide | omega)) rfl T.d_above.g T.d_above.F.kp T.d_above.b .nil pass0 (pa_cons (pe_call G_entry (hr.mono (by first | decide | omega)) rfl T.d_entry.g T.d_entry.F.kp T.d_entry.b .nil pass0 (pa_cons (pv 0) (pa_cons (pv 3) pa_nil))) (pa_cons (pv 1) pa_nil))) (nomark _)))))),
      (ds_seq (ds_if (dt_or (dt_test (de_op (de_var 2) (de_var 3))) (dt_test (de_op (de_callN (da_cons (dc_D (da_cons (de_var 2) (da_cons (de_var 1) da_nil)) (an_cons (an_cons an_nil))) da_nil)) (de_callN (da_cons (dc_D (da_cons (de_var 3) (da_cons (de_var 1) da_nil)) (an_cons (an_cons an_nil))) da_nil))))) (ds_ret de_bl) ds_nx)
      (ds_seq (ds_for (di_seq (de_tup (da_cons (de_var 2) (da_cons (de_var 3) da_nil)))) (dg_name (i := 4)) (ds_if (dt_B (de_callN (da_cons (de_frz (dl_lc (W' := fun _ _ _ _ => False) (vs := [5]) (di_seq (dc_D (da_cons (de_var 0) (da_cons (de_var 1) (da_cons (de_var 4) da_nil))) (an_cons (an_cons (an_cons an_nil))))) (dg_name (i := 5)) dt_yes (de_op (de_var 5) de_non) (fun _ h => h))) da_nil))) (ds_ret de_bl) ds_nx))
      (ds_ret (de_op (dc_D (da_cons (dc_D (da_cons (de_var 0) (da_cons (de_var 2) da_nil)) (an_cons (an_cons an_nil))) (da_cons (de_var 1) da_nil)) (an_cons (an_cons an_nil))) (dc_D (da_cons (dc_D (da_cons (de_var 0) (da_cons (de_var 3) da_nil)) (an_cons (an_cons an_nil))) (da_cons (de_var 1) da_nil)) (an_cons (an_cons an_nil)))))))⟩
theorem ok_judge_entries_counter (T : Defs K mg) : FnOk P w K mg base CX0 74 T.d_judge_entries_counter.f T.d_judge_entries_counter.fd ["table", "b", "value"] (spD K im 3 F_judge_entries_counter) := by
  have G_is_stretch_counter := ok_is_stretch_counter (P := P) (w := w) (base := base) (im := im) T
  have G_is_above_counter := ok_is_above_counter (P := P) (w := w) (base := base) (im := im) T
  have G_is_number := ok_is_number (P := P) (w := w) (base := base) (im := im) T
  have G_table_size := ok_table_size (P := P) (w := w) (base := base) (im := im) T
  have Sc : FnScope ["table", "b", "value", "kind", "m", "last"] ["table", "b", "value"] (defScope s_judge_entries_counter) := ⟨rfl, rfl, rfl, by decide +kernel, rfl, by decide +kernel, by decide +kernel⟩
  refine fn_Dx (N := ["table", "b", "value", "kind", "m", "last"]) (ps := ["table", "b", "value"]) (F := B_judge_entries_counter) T.d_judge_entries_counter.F Sc rfl rfl rfl fun cdv A outer s H Ex hr => ?_
  have hu := room_hu hr
  exact ⟨_, (pss_cons (ps_if (PW.pt (pw_or (pt_not (pt_val (pe_callB call_isi (by rfl) T.n_isinstance (by decide +kernel) (pa_cons (pv 2) (pa_cons (pe_bltn rfl T.n_tuple (by rfl) (show RelV (.ty "tuple") (.type "tuple") from rfl)) pa_nil))))) (pw_or1 (pt_cmpR (op_neDD hu) (pe_callB call_lenDD (by rfl) T.n_len (by decide +kernel) (pa_cons (pv 2) pa_nil)) pe_int (nomark _))))) (pss_one (ps_ret pe_bl)) pss_nil)
      (pss_cons (ps_asg (pv 2) (pg_sq rfl (pgs_cons (pg_name (i := 3) Sc.nd rfl (by first | exact Or.inl rfl | exact Or.inr rfl)) (pgs_cons (pg_name (i := 4) Sc.nd rfl (by first | exact Or.inl rfl | exact Or.inr rfl)) (pgs_cons (pg_name (i := 5) Sc.nd rfl (by first | exact Or.inl rfl | exact Or.inr rfl)) pgs_nil)))))
      (pss_cons (ps_if (PW.pt (pw_or (pt_not (pt_val (pe_call G_is_number (hr.mono (by first | decide | omega)) rfl T.d_is_number.g T.d_is_number.F.kp T.d_is_number.b .nil pass0 (pa_cons (pv 4) pa_nil)))) (pw_or (pt_not (pt_chain op_leD op_leD pe_int (pv 4) (pe_call G_table_size (hr.mono (by first | decide | omega)) rfl T.d_table_size.g T.d_table_size.F.kp T.d_table_size.b .nil pass0 (pa_cons (pv 0) pa_nil)))) (pw_or1 (pt_not (pt_val (pe_call G_is_number (hr.mono (by first | decide | omega)) rfl T.d_is_number.g T.d_is_number.F.kp T.d_is_number.b .nil pass0 (pa_cons (pv 5) pa_nil)))))))) (pss_one (ps_ret pe_bl)) pss_nil)
      (pss_cons (ps_if (PW.pt (pw_or (pt_cmpR (op_eqDD hu) (pv 3) pe_str (nomark _)) (pw_or1 (pt_cmpR (op_eqDD hu) (pv 3) pe_str (nomark _))))) (pss_one (ps_ret (pe_call G_is_stretch_counter (hr.mono (by first | decide | omega)) rfl T.d_is_stretch_counter.g T.d_is_stretch_counter.F.kp T.d_is_stretch_counter.b .nil pass0 (pa_cons (pv 0) (pa_cons (pv 1) (pa_cons (pv 3) (pa_cons (pv 4) (pa_cons (pv 5) pa_nil)))))))) pss_nil)
      (pss_cons (ps_if (PW.pt (pw_and (pt_cmpR (op_eqDD hu) (pv 3) pe_str (nomark _)) (pw_and1 (pt_cmpR op_leD (pv 5) (pe_call G_table_size (hr.mono (by first | decide | omega)) rfl T.d_table_size.g T.d_table_size.F.kp T.d_table_size.b .nil pass0 (pa_cons (pv 0) pa_nil)) (nomark _))))) (pss_one (ps_ret (pe_call G_is_above_counter (hr.mono (by first | decide | omega)) rfl T.d_is_above_counter.g T.d_is_above_counter.F.kp T.d_is_above_counter.b .nil pass0 (pa_cons (pv 0) (pa_cons (pv 1) (pa_cons (pv 4) (pa_cons (pv 5) pa_nil))))))) pss_nil)
      (pss_one (ps_ret pe_bl))))))),
      (ds_seq (ds_if (dt_or (dt_not (dt_B (de_isi (de_var 2)))) (dt_test (de_op (de_callN (da_cons (de_var 2) da_nil)) de_int))) (ds_ret de_bl) ds_nx)
      (ds_seq (ds_asg (de_var 2) (dg_tup (dgs_cons (dg_name (i := 3)) (dgs_cons (dg_name (i := 4)) (dgs_cons (dg_name (i := 5)) dgs_nil)))))
      (ds_seq (ds_if (dt_or (dt_not (dt_B (dc_D (da_cons (de_var 4) da_nil) (an_cons an_nil)))) (dt_or (dt_not (dt_test (de_chain de_int (de_var 4) (dc_D (da_cons (de_var 0) da_nil) (an_cons an_nil))))) (dt_not (dt_B (dc_D (da_cons (de_var 5) da_nil) (an_cons an_nil)))))) (ds_ret de_bl) ds_nx)
      (ds_seq (ds_if (dt_or (dt_test (de_op (de_var 3) de_str)) (dt_test (de_op (de_var 3) de_str))) (ds_ret (dc_D (da_cons (de_var 0) (da_cons (de_var 1) (da_cons (de_var 3) (da_cons (de_var 4) (da_cons (de_var 5) da_nil))))) (an_cons (an_cons (an_cons (an_cons (an_cons an_nil))))))) ds_nx)
      (ds_seq (ds_if (dt_and (dt_test (de_op (de_var 3) de_str)) (dt_test (de_op (de_var 5) (dc_D (da_cons (de_var 0) da_nil) (an_cons an_nil))))) (ds_ret (dc_D (da_cons (de_var 0) (da_cons (de_var 1) (da_cons (de_var 4) (da_cons (de_var 5) da_nil)))) (an_cons (an_cons (an_cons (an_cons an_nil)))))) ds_nx)
      (ds_ret de_bl))))))⟩
theorem ok_judge_counter (T : Defs K mg) : FnOk P w K mg base CX0 75 T.d_judge_counter.f T.d_judge_counter.fd ["table", "b", "value"] (spD K im 3 F_judge_counter) := by
  have G_judge_entries_counter := ok_judge_entries_counter (P := P) (w := w) (base := base) (im := im) T
  have G_table_size := ok_table_size (P := P) (w := w) (base := base) (im := im) T
  have Sc : FnScope ["table", "b", "value"] ["table", "b", "value"] (defScope s_judge_counter) := ⟨rfl, rfl, rfl, by decide +kernel, rfl, by decide +kernel, by decide +kernel⟩
  refine fn_Dx (N := ["table", "b", "value"]) (ps := ["table", "b", "value"]) (F := B_judge_counter) T.d_judge_counter.F Sc rfl rfl rfl fun cdv A outer s H Ex hr => ?_
  have hu := room_hu hr
  exact ⟨_, (pss_cons (ps_if (pt_cmpR (op_eqT hu) (pv 2) (pe_tup (pa_cons pe_str pa_nil)) (nomark _)) (pss_one (ps_ret (pe_cmpR (op_neDD hu) (pe_op op_modD (pe_call G_table_size (hr.mono (by first | decide | omega)) rfl T.d_table_size.g T.d_table_size.F.kp T.d_table_size.b .nil pass0 (pa_cons (pv 0) pa_nil)) (pv 1)) pe_int (nomark _)))) pss_nil)
      (pss_one (ps_ret (pe_call G_judge_entries_counter (hr.mono (by first | decide | omega)) rfl T.d_judge_entries_counter.g T.d_judge_entries_counter.F.kp T.d_judge_entries_counter.b .nil pass0 (pa_cons (pv 0) (pa_cons (pv 1) (pa_cons (pv 2) pa_nil))))))),
      (ds_seq (ds_if (dt_test (de_op (de_var 2) (de_tup (da_cons de_str da_nil)))) (ds_ret (de_op (de_op (dc_D (da_cons (de_var 0) da_nil) (an_cons an_nil)) (de_var 1)) de_int)) ds_nx)
      (ds_ret (dc_D (da_cons (de_var 0) (da_cons (de_var 1) (da_cons (de_var 2) da_nil))) (an_cons (an_cons (an_cons an_nil))))))⟩
theorem ok_law_pick (T : Defs K mg) : FnOk P w K mg base CX0 1 T.d_law_pick.f T.d_law_pick.fd ["_law_source_here", "_law_many"] (spW K (srcG im) 2 0 F_law_pick) := by
  have Sc : FnScope ["_law_source_here", "_law_many", "_law_left", "_law_mixed"] ["_law_source_here", "_law_many"] (defScope s_law_pick) := ⟨rfl, rfl, rfl, by decide +kernel, rfl, by decide +kernel, by decide +kernel⟩
  refine fn_Wx (Γ := srcG im) (N := ["_law_source_here", "_law_many", "_law_left", "_law_mixed"]) (ps := ["_law_source_here", "_law_many"]) (F := B_law_pick) T.d_law_pick.F Sc rfl rfl rfl fun p cdv A outer s H Ex hr => ?_
  have hu := room_hu hr
  exact ⟨_, (pss_cons (ps_while PassesOwn.never (PW.pt (pw_and (pt_cmpR op_gtD (pv 1) pe_int (nomark _)) (pw_and (pt_cmpR op_ltD (pe_dget (hu1 hu) (pv 0) pe_str (fun _ _ => rfl)) pe_int (nomark _)) (pw_and1 (pt_cmpR op_gtD (pe_callB call_len_seq (by rfl) T.n_len (by decide +kernel) (pa_cons (pe_dget (hu1 hu) (pv 0) pe_str (fun _ _ => rfl)) pa_nil)) pe_int (nomark _)))))) (pss_one (ps_dput (hu1 hu) (pv 0) pe_str (pe_bm0 PySem.F.plainAttrs_list PySem.F.slot_list_pop PySem.F.type_list_pop mt_pop (pe_dget (hu1 hu) (pv 0) pe_str (fun _ _ => rfl))) (by rfl))))
      (pss_cons (ps_set (i := 2) Sc.nd rfl (by first | exact Or.inl rfl | exact Or.inr rfl) (pe_dget (hu1 hu) (pv 0) pe_str (fun _ _ => rfl)))
      (pss_cons (ps_if (PW.pt (pw_or (pt_cmpR op_ltD (pv 1) pe_int (nomark _)) (pw_or1 (pt_cmpR op_gtD (pv 2) pe_int (nomark _))))) (pss_cons (ps_dput (hu1 hu) (pv 0) pe_str (pe_op op_fdivD (pv 2) (pe_callB (call_max2DD rfl) (by rfl) T.n_max (by decide +kernel) (pa_cons pe_int (pa_cons (pv 1) pa_nil)))) (by rfl))
      (pss_one (ps_ret (pe_op op_modD (pe_callTy call_intDD (by rfl) T.n_int (by decide +kernel) (pa_cons (pv 2) pa_nil)) (pe_callB (call_max2DD rfl) (by rfl) T.n_max (by decide +kernel) (pa_cons pe_int (pa_cons (pv 1) pa_nil))))))) pss_nil)
      (pss_cons (ps_dput (hu1 hu) (pv 0) pe_str (pe_op op_addD (pe_dget (hu1 hu) (pv 0) pe_str (fun _ _ => rfl)) pe_int) (by rfl))
      (pss_cons (ps_set (i := 3) Sc.nd rfl (by first | exact Or.inl rfl | exact Or.inr rfl) (pe_op op_modD (pe_callTy call_intDD (by rfl) T.n_int (by decide +kernel) (pa_cons (pe_op op_addD (pe_dget (hu1 hu) (pv 0) pe_str (fun _ _ => rfl)) (pe_op op_mulD (pe_dget (hu1 hu) (pv 0) pe_str (fun _ _ => rfl)) pe_int)) pa_nil)) pe_int))
      (pss_cons (ps_set (i := 3) Sc.nd rfl (by first | exact Or.inl rfl | exact Or.inr rfl) (pe_op op_modD (pe_callTy call_intDD (by rfl) T.n_int (by decide +kernel) (pa_cons (pe_op op_addD (pe_op op_mulD (pv 3) (pv 3)) (pe_op op_mulD (pe_dget (hu1 hu) (pv 0) pe_str (fun _ _ => rfl)) pe_int)) pa_nil)) pe_int))
      (pss_cons (ps_dput (hu1 hu) (pv 0) pe_str (pv 3) (by rfl))
      (pss_one (ps_ret (pe_op op_modD (pe_callTy call_intDD (by rfl) T.n_int (by decide +kernel) (pa_cons (pe_op op_fdivD (pv 3) pe_int) pa_nil)) (pv 1))))))))))),
      (ds_seq (ds_while (n := (fun _ ω => ω.cells.length + 2)) (dt_and (dt_test (de_op (de_var 1) de_int)) (dt_and (dt_test (de_op de_srcL de_int)) (dt_test (de_op de_srcN de_int)))) (ds_srcL de_srcP))
      (ds_seq (ds_asg de_srcL dg_name)
      (ds_seq (ds_if (dt_or (dt_test (de_op (de_var 1) de_int)) (dt_test (de_op (de_var 2) de_int))) (ds_seq (ds_srcL (de_op (de_var 2) (de_callN (da_cons de_int (da_cons (de_var 1) da_nil)))))
      (ds_ret (de_op (de_callN (da_cons (de_var 2) da_nil)) (de_callN (da_cons de_int (da_cons (de_var 1) da_nil)))))) ds_nx)
      (ds_seq (ds_srcT (de_op de_srcT de_int))
      (ds_seq (ds_asg (de_op (de_callN (da_cons (de_op de_srcM (de_op de_srcT de_int)) da_nil)) de_int) dg_name)
      (ds_seq (ds_asg (de_op (de_callN (da_cons (de_op (de_op (de_var 3) (de_var 3)) (de_op de_srcT de_int)) da_nil)) de_int) dg_name)
      (ds_seq (ds_srcM (de_var 3))
      (ds_ret (de_op (de_callN (da_cons (de_op (de_var 3) de_int) da_nil)) (de_var 1))))))))))⟩
theorem ok_law_of (T : Defs K mg) : FnOk P w K mg base CX0 2 T.d_law_of.f T.d_law_of.fd ["_law_source_here", "_law_some"] (spW K (srcG im) 2 0 F_law_of) := by
  have G_law_pick := ok_law_pick (P := P) (w := w) (base := base) (im := im) T
  have Sc : FnScope ["_law_source_here", "_law_some"] ["_law_source_here", "_law_some"] (defScope s_law_of) := ⟨rfl, rfl, rfl, by decide +kernel, rfl, by decide +kernel, by decide +kernel⟩
  refine fn_Wx (Γ := srcG im) (N := ["_law_source_here", "_law_some"]) (ps := ["_law_source_here", "_law_some"]) (F := B_law_of) T.d_law_of.F Sc rfl rfl rfl fun p cdv A outer s H Ex hr => ?_
  have hu := room_hu hr
  exact ⟨_, (pss_one (ps_ret (pe_ix ix_D (pv 1) (pe_call G_law_pick (hr.mono (by first | decide | omega)) rfl T.d_law_pick.g T.d_law_pick.F.kp T.d_law_pick.b .nil pass0 (pa_cons (pv 0) (pa_cons (pe_callB call_lenDD (by rfl) T.n_len (by decide +kernel) (pa_cons (pv 1) pa_nil)) pa_nil))) (fun _ _ => rfl)))),
      (ds_ret (de_op (de_var 1) (dc_W (da_cons (de_callN (da_cons (de_var 1) da_nil)) da_nil) (an_cons an_nil))))⟩
theorem ok_law_size (T : Defs K mg) : ∀ n, FnOk P w K mg base CX0 (0 + n) T.d_law_size.f T.d_law_size.fd ["_law_shape_here"] (spD K im 1 (F_law_size n))
  | 0 => FnOk.no fun _ _ _ _ => spD_no
  | n + 1 => by
    have ih := ok_law_size T n
    have Sc : FnScope ["_law_shape_here"] ["_law_shape_here"] (defScope s_law_size) := ⟨rfl, rfl, rfl, by decide +kernel, rfl, by decide +kernel, by decide +kernel⟩
    refine fn_Dx (k := 0 + n) (N := ["_law_shape_here"]) (ps := ["_law_shape_here"]) (F := B_law_size (F_law_size n)) T.d_law_size.F Sc rfl rfl rfl fun cdv A outer s H Ex hr => ?_
    have hu := room_hu hr
    exact ⟨_, (pss_one (ps_ret (pe_ifExp (pt_cmpR (op_eqDD hu) (pv 0) (pe_tup pa_nil) (nomark _)) pe_int (pe_op op_addD (pe_call ih hr rfl T.d_law_size.g T.d_law_size.F.kp T.d_law_size.b .nil pass0 (pa_cons (pe_ix ix_D (pv 0) pe_int (fun _ _ => rfl)) pa_nil)) (pe_call ih hr rfl T.d_law_size.g T.d_law_size.F.kp T.d_law_size.b .nil pass0 (pa_cons (pe_ix ix_D (pv 0) pe_int (fun _ _ => rfl)) pa_nil)))))),
      (ds_ret (de_if (dt_test (de_op (de_var 0) (de_tup da_nil))) de_int (de_op (dc_D (da_cons (de_op (de_var 0) de_int) da_nil) (an_cons an_nil)) (dc_D (da_cons (de_op (de_var 0) de_int) da_nil) (an_cons an_nil)))))⟩
theorem ok_law_shape (T : Defs K mg) : ∀ n, FnOk P w K mg base CX0 (2 + n) T.d_law_shape.f T.d_law_shape.fd ["_law_source_here", "_law_size_here"] (spW K (srcG im) 2 0 (F_law_shape n))
  | 0 => FnOk.no fun _ _ _ _ => spW_no
  | n + 1 => by
    have ih := ok_law_shape T n
    have G_law_of := ok_law_of (P := P) (w := w) (base := base) (im := im) T
    have G_law_pick := ok_law_pick (P := P) (w := w) (base := base) (im := im) T
    have Sc : FnScope ["_law_source_here", "_law_size_here", "_law_at"] ["_law_source_here", "_law_size_here"] (defScope s_law_shape) := ⟨rfl, rfl, rfl, by decide +kernel, rfl, by decide +kernel, by decide +kernel⟩
    refine fn_Wx (Γ := srcG im) (k := 2 + n) (N := ["_law_source_here", "_law_size_here", "_law_at"]) (ps := ["_law_source_here", "_law_size_here"]) (F := B_law_shape (F_law_shape n)) T.d_law_shape.F Sc rfl rfl rfl fun p cdv A outer s H Ex hr => ?_
    have hu := room_hu hr
    exact ⟨_, (pss_cons (ps_if (pt_cmpR (op_eqDD hu) (pv 1) pe_int (nomark _)) (pss_one (ps_ret (pe_tup pa_nil))) pss_nil)
      (pss_cons (ps_set (i := 2) Sc.nd rfl (by first | exact Or.inl rfl | exact Or.inr rfl) (pe_call G_law_of (hr.mono (by first | decide | omega)) rfl T.d_law_of.g T.d_law_of.F.kp T.d_law_of.b .nil pass0 (pa_cons (pv 0) (pa_cons (pe_frz (pe_lst (pa_cons (pe_op op_addD pe_int (pe_call G_law_pick (hr.mono (by first | decide | omega)) rfl T.d_law_pick.g T.d_law_pick.F.kp T.d_law_pick.b .nil pass0 (pa_cons (pv 0) (pa_cons (pe_op op_subD (pv 1) pe_int) pa_nil)))) (pa_cons (pe_op op_addD pe_int (pe_call G_law_pick (hr.mono (by first | decide | omega)) rfl T.d_law_pick.g T.d_law_pick.F.kp T.d_law_pick.b .nil pass0 (pa_cons (pv 0) (pa_cons (pe_op op_subD (pv 1) pe_int) pa_nil)))) (pa_cons (pe_op op_fdivD (pv 1) pe_int) (pa_cons pe_int (pa_cons (pe_op op_subD (pv 1) pe_int) pa_nil))))))) pa_nil))))
      (pss_one (ps_ret (pe_tup (pa_cons (pe_call ih hr rfl T.d_law_shape.g T.d_law_shape.F.kp T.d_law_shape.b .nil pass0 (pa_cons (pv 0) (pa_cons (pv 2) pa_nil))) (pa_cons (pe_call ih hr rfl T.d_law_shape.g T.d_law_shape.F.kp T.d_law_shape.b .nil pass0 (pa_cons (pv 0) (pa_cons (pe_op op_subD (pv 1) (pv 2)) pa_nil))) pa_nil))))))),
      (ds_seq (ds_if (dt_test (de_op (de_var 1) de_int)) (ds_ret (de_tup da_nil)) ds_nx)
      (ds_seq (ds_asg (dc_W (da_cons (de_frz (dl_lst (da_cons (de_op de_int (dc_W (da_cons (de_op (de_var 1) de_int) da_nil) (an_cons an_nil))) (da_cons (de_op de_int (dc_W (da_cons (de_op (de_var 1) de_int) da_nil) (an_cons an_nil))) (da_cons (de_op (de_var 1) de_int) (da_cons de_int (da_cons (de_op (de_var 1) de_int) da_nil))))))) da_nil) (an_cons an_nil)) dg_name)
      (ds_ret (de_tup (da_cons (dc_W (da_cons (de_var 2) da_nil) (an_cons an_nil)) (da_cons (dc_W (da_cons (de_op (de_var 1) (de_var 2)) da_nil) (an_cons an_nil)) da_nil))))))⟩
theorem ok_law_table (T : Defs K mg) : FnOk P w K mg base CX0 73 T.d_law_table.f T.d_law_table.fd ["_law_source_here", "_law_size_here"] (spW K (srcG im) 2 0 F_law_table) := by
  have G_law_shape := ok_law_shape (P := P) (w := w) (base := base) (im := im) T
  have Sc : FnScope ["_law_source_here", "_law_size_here", "_law_m"] ["_law_source_here", "_law_size_here"] (defScope s_law_table) := ⟨rfl, rfl, rfl, by decide +kernel, rfl, by decide +kernel, by decide +kernel⟩
  refine fn_Wx (Γ := srcG im) (N := ["_law_source_here", "_law_size_here", "_law_m"]) (ps := ["_law_source_here", "_law_size_here"]) (F := B_law_table) T.d_law_table.F Sc rfl rfl rfl fun p cdv A outer s H Ex hr => ?_
  have hu := room_hu hr
  exact ⟨_, (pss_one (ps_ret (pe_callTy call_tupleDD (by rfl) T.n_tuple (by decide +kernel) (pa_cons (pe_frz (pe_lc (own := [("_law_m", 2)]) rfl Sc.nd (pi_range2 rfl T.n_range (pa_cons pe_int (pa_cons (pe_op op_addD (pv 1) pe_int) pa_nil))) (blkOk_by (own := [("_law_m", 2)]) (N := ["_law_source_here", "_law_size_here", "_law_m"]) (sc := defScope s_law_table) (by decide +kernel)) (fun _ _ _ _ _ => (pg_name (i := 2) Sc.nd rfl (by first | exact Or.inl rfl | exact Or.inr rfl))) (fun _ _ _ _ _ => pts_nil) (fun _ _ _ _ _ => (pe_call (G_law_shape 70) (hr.mono (by first | decide | omega)) rfl T.d_law_shape.g T.d_law_shape.F.kp T.d_law_shape.b .nil pass0 (pa_cons (pv 0) (pa_cons (pv 2) pa_nil)))))) pa_nil)))),
      (ds_ret (de_callN (da_cons (de_frz (dl_lc (W' := fun _ _ _ _ => False) (vs := [2]) (di_rg2 (da_cons de_int (da_cons (de_op (de_var 1) de_int) da_nil))) (dg_name (i := 2)) dt_yes (dc_W (da_cons (de_var 2) da_nil) (an_cons an_nil)) (fun _ h => h))) da_nil)))⟩
theorem ok_law_entry (T : Defs K mg) : FnOk P w K mg base CX0 1 T.d_law_entry.f T.d_law_entry.fd ["_law_table_here", "_law_m"] (spD K im 2 F_law_entry) := by
  have Sc : FnScope ["_law_table_here", "_law_m"] ["_law_table_here", "_law_m"] (defScope s_law_entry) := ⟨rfl, rfl, rfl, by decide +kernel, rfl, by decide +kernel, by decide +kernel⟩
  refine fn_Dx (N := ["_law_table_here", "_law_m"]) (ps := ["_law_table_here", "_law_m"]) (F := B_law_entry) T.d_law_entry.F Sc rfl rfl rfl fun cdv A outer s H Ex hr => ?_
  have hu := room_hu hr
  exact ⟨_, (pss_one (ps_ret (pe_ifExp (pt_cmpR (op_eqDD hu) (pv 1) pe_int (nomark _)) (pe_tup pa_nil) (pe_ix ix_D (pv 0) (pe_op op_subD (pv 1) pe_int) (fun _ _ => rfl))))),
      (ds_ret (de_if (dt_test (de_op (de_var 1) de_int)) (de_tup da_nil) (de_op (de_var 0) (de_op (de_var 1) de_int))))⟩
theorem ok_law_stretches (T : Defs K mg) : FnOk P w K mg base CX0 1 T.d_law_stretches.f T.d_law_stretches.fd ["_law_m", "_law_b"] (spD K im 2 F_law_stretches) := by
  have Sc : FnScope ["_law_m", "_law_b", "_law_found", "_law_begin", "_law_lap"] ["_law_m", "_law_b"] (defScope s_law_stretches) := ⟨rfl, rfl, rfl, by decide +kernel, rfl, by decide +kernel, by decide +kernel⟩
  refine fn_Dx (N := ["_law_m", "_law_b", "_law_found", "_law_begin", "_law_lap"]) (ps := ["_law_m", "_law_b"]) (F := B_law_stretches) T.d_law_stretches.F Sc rfl rfl rfl fun cdv A outer s H Ex hr => ?_
  have hu := room_hu hr
  exact ⟨_, (pss_cons (ps_par (i := 2) (j := 3) rfl Sc.nd rfl rfl (by decide) rfl rfl (pa_cons (pe_lst pa_nil) (pa_cons pe_int pa_nil)) (by rfl))
      (pss_cons (ps_for PassesOwn.never rfl (pi_range1 rfl T.n_range (pa_cons (pv 0) pa_nil)) (pg_name (i := 4) Sc.nd rfl (by first | exact Or.inl rfl | exact Or.inr rfl)) (pss_cons (ps_if (pt_cmpR op_ltD (pv 3) (pv 0) (nomark _)) (pss_one (ps_expr (pe_bm PySem.F.plainAttrs_list PySem.F.slot_list_append PySem.F.type_list_append mt_append (pv 2) (pa_cons (pe_tup (pa_cons (pv 3) (pa_cons (pe_callB (call_min2DD rfl) (by rfl) T.n_min (by decide +kernel) (pa_cons (pe_op op_addD (pv 3) (pv 1)) (pa_cons (pv 0) pa_nil))) pa_nil))) pa_nil)))) pss_nil)
      (pss_one (ps_set (i := 3) Sc.nd rfl (by first | exact Or.inl rfl | exact Or.inr rfl) (pe_op op_addD (pv 3) (pv 1))))))
      (pss_one (ps_ret (pe_frz (pv 2)))))),
      (ds_seq (ds_parO1 (dl_lst da_nil) de_int)
      (ds_seq (ds_for (di_rg1 (da_cons (de_var 0) da_nil)) (dg_name (i := 4)) (ds_seq (ds_if (dt_test (de_op (de_var 3) (de_var 0))) (ds_app (de_tup (da_cons (de_var 3) (da_cons (de_callN (da_cons (de_op (de_var 3) (de_var 1)) (da_cons (de_var 0) da_nil))) da_nil)))) ds_nx)
      (ds_asg (de_op (de_var 3) (de_var 1)) dg_name)))
      ds_retO))⟩
theorem ok_law_filled (T : Defs K mg) : ∀ n, FnOk P w K mg base CX0 (70 + n) T.d_law_filled.f T.d_law_filled.fd ["_law_shape_here", "_law_parts"] (spD K im 2 (F_law_filled n))
  | 0 => FnOk.no fun _ _ _ _ => spD_no
  | n + 1 => by
    have ih := ok_law_filled T n
    have G_law_size := ok_law_size (P := P) (w := w) (base := base) (im := im) T
    have Sc : FnScope ["_law_shape_here", "_law_parts", "_law_at"] ["_law_shape_here", "_law_parts"] (defScope s_law_filled) := ⟨rfl, rfl, rfl, by decide +kernel, rfl, by decide +kernel, by decide +kernel⟩
    refine fn_Dx (k := 70 + n) (N := ["_law_shape_here", "_law_parts", "_law_at"]) (ps := ["_law_shape_here", "_law_parts"]) (F := B_law_filled (F_law_filled n)) T.d_law_filled.F Sc rfl rfl rfl fun cdv A outer s H Ex hr => ?_
    have hu := room_hu hr
    exact ⟨_, (pss_cons (ps_if (pt_cmpR (op_eqDD hu) (pv 0) (pe_tup pa_nil) (nomark _)) (pss_one (ps_ret (pe_ix ix_D (pv 1) pe_int (fun _ _ => rfl)))) pss_nil)
      (pss_cons (ps_set (i := 2) Sc.nd rfl (by first | exact Or.inl rfl | exact Or.inr rfl) (pe_call (G_law_size 70) (hr.mono (by first | decide | omega)) rfl T.d_law_size.g T.d_law_size.F.kp T.d_law_size.b .nil pass0 (pa_cons (pe_ix ix_D (pv 0) pe_int (fun _ _ => rfl)) pa_nil)))
      (pss_one (ps_ret (pe_tup (pa_cons (pe_call ih hr rfl T.d_law_filled.g T.d_law_filled.F.kp T.d_law_filled.b .nil pass0 (pa_cons (pe_ix ix_D (pv 0) pe_int (fun _ _ => rfl)) (pa_cons (pe_slice sl_D (pv 1) po_none (po_some (pv 2))) pa_nil))) (pa_cons (pe_call ih hr rfl T.d_law_filled.g T.d_law_filled.F.kp T.d_law_filled.b .nil pass0 (pa_cons (pe_ix ix_D (pv 0) pe_int (fun _ _ => rfl)) (pa_cons (pe_slice sl_D (pv 1) (po_some (pv 2)) po_none) pa_nil))) pa_nil))))))),
      (ds_seq (ds_if (dt_test (de_op (de_var 0) (de_tup da_nil))) (ds_ret (de_op (de_var 1) de_int)) ds_nx)
      (ds_seq (ds_asg (dc_D (da_cons (de_op (de_var 0) de_int) da_nil) (an_cons an_nil)) dg_name)
      (ds_ret (de_tup (da_cons (dc_D (da_cons (de_op (de_var 0) de_int) (da_cons (de_sl (de_var 1) do_none (do_some (de_var 2))) da_nil)) (an_cons (an_cons an_nil))) (da_cons (dc_D (da_cons (de_op (de_var 0) de_int) (da_cons (de_sl (de_var 1) (do_some (de_var 2)) do_none) da_nil)) (an_cons (an_cons an_nil))) da_nil))))))⟩
theorem ok_law_glued (T : Defs K mg) : FnOk P w K mg base CX0 141 T.d_law_glued.f T.d_law_glued.fd ["_law_s", "_law_t"] (spD K im 2 F_law_glued) := by
  have G_law_entry := ok_law_entry (P := P) (w := w) (base := base) (im := im) T
  have G_law_filled := ok_law_filled (P := P) (w := w) (base := base) (im := im) T
  have G_law_stretches := ok_law_stretches (P := P) (w := w) (base := base) (im := im) T
  have Sc : FnScope ["_law_s", "_law_t", "_law_found", "_law_m", "_law_parts", "_law_begin", "_law_end"] ["_law_s", "_law_t"] (defScope s_law_glued) := ⟨rfl, rfl, rfl, by decide +kernel, rfl, by decide +kernel, by decide +kernel⟩
  refine fn_Dx (N := ["_law_s", "_law_t", "_law_found", "_law_m", "_law_parts", "_law_begin", "_law_end"]) (ps := ["_law_s", "_law_t"]) (F := B_law_glued) T.d_law_glued.F Sc rfl rfl rfl fun cdv A outer s H Ex hr => ?_
  have hu := room_hu hr
  exact ⟨_, (pss_cons (ps_set (i := 2) Sc.nd rfl (by first | exact Or.inl rfl | exact Or.inr rfl) (pe_lst pa_nil))
      (pss_cons (ps_for PassesOwn.never rfl (pi_range2 rfl T.n_range (pa_cons pe_int (pa_cons (pe_op op_addD (pe_op op_mulD (pe_op op_addD (pe_callB call_lenDD (by rfl) T.n_len (by decide +kernel) (pa_cons (pv 0) pa_nil)) pe_int) (pe_op op_addD (pe_callB call_lenDD (by rfl) T.n_len (by decide +kernel) (pa_cons (pv 1) pa_nil)) pe_int)) pe_int) pa_nil))) (pg_name (i := 3) Sc.nd rfl (by first | exact Or.inl rfl | exact Or.inr rfl)) (pss_cons (ps_fz 4 (ps_setLc (i := 4) (own := [("_law_begin", 5), ("_law_end", 6)]) rfl Sc.nd rfl rfl (sw_true rfl rfl rfl (by decide +kernel)) (pi_seq (pe_call G_law_stretches (hr.mono (by first | decide | omega)) rfl T.d_law_stretches.g T.d_law_stretches.F.kp T.d_law_stretches.b .nil pass0 (pa_cons (pv 3) (pa_cons (pe_op op_addD (pe_callB call_lenDD (by rfl) T.n_len (by decide +kernel) (pa_cons (pv 0) pa_nil)) pe_int) pa_nil)))) (blkOk_by (own := [("_law_begin", 5), ("_law_end", 6)]) (N := ["_law_s", "_law_t", "_law_found", "_law_m", "_law_parts", "_law_begin", "_law_end"]) (sc := defScope s_law_glued) (by decide +kernel)) (fun _ _ _ _ _ => (pg_sq rfl (pgs_cons (pg_name (i := 5) Sc.nd rfl (by first | exact Or.inl rfl | exact Or.inr rfl)) (pgs_cons (pg_name (i := 6) Sc.nd rfl (by first | exact Or.inl rfl | exact Or.inr rfl)) pgs_nil)))) (fun _ _ _ _ _ => pts_nil) (fun _ _ _ _ _ => (pe_call G_law_entry (hr.mono (by first | decide | omega)) rfl T.d_law_entry.g T.d_law_entry.F.kp T.d_law_entry.b .nil pass0 (pa_cons (pv 0) (pa_cons (pe_op op_subD (pv 6) (pv 5)) pa_nil))))))
      (pss_one (ps_expr (pe_bm PySem.F.plainAttrs_list PySem.F.slot_list_append PySem.F.type_list_append mt_append (pv 2) (pa_cons (pe_call (G_law_filled 70) (hr.mono (by first | decide | omega)) rfl T.d_law_filled.g T.d_law_filled.F.kp T.d_law_filled.b .nil pass0 (pa_cons (pe_call G_law_entry (hr.mono (by first | decide | omega)) rfl T.d_law_entry.g T.d_law_entry.F.kp T.d_law_entry.b .nil pass0 (pa_cons (pv 1) (pa_cons (pe_callB call_lenDD (by rfl) T.n_len (by decide +kernel) (pa_cons (pv 4) pa_nil)) pa_nil))) (pa_cons (pv 4) pa_nil))) pa_nil))))))
      (pss_one (ps_ret (pe_callTy call_tuple_of (by rfl) T.n_tuple (by decide +kernel) (pa_cons (pv 2) pa_nil)))))),
      (ds_seq (ds_setO (dl_lst da_nil))
      (ds_seq (ds_for (di_rg2 (da_cons de_int (da_cons (de_op (de_op (de_op (de_callN (da_cons (de_var 0) da_nil)) de_int) (de_op (de_callN (da_cons (de_var 1) da_nil)) de_int)) de_int) da_nil))) (dg_name (i := 3)) (ds_seq (ds_fz (ds_setO (dl_lc (W' := fun _ _ _ _ => False) (vs := [5, 6]) (di_seq (dc_D (da_cons (de_var 3) (da_cons (de_op (de_callN (da_cons (de_var 0) da_nil)) de_int) da_nil)) (an_cons (an_cons an_nil)))) (dg_tup (dgs_cons (dg_name (i := 5)) (dgs_cons (dg_name (i := 6)) dgs_nil))) dt_yes (dc_D (da_cons (de_var 0) (da_cons (de_op (de_var 6) (de_var 5)) da_nil)) (an_cons (an_cons an_nil))) (fun _ h => h))))
      (ds_app (dc_D (da_cons (dc_D (da_cons (de_var 1) (da_cons (de_callN (da_cons (de_var 4) da_nil)) da_nil)) (an_cons (an_cons an_nil))) (da_cons (de_var 4) da_nil)) (an_cons (an_cons an_nil))))))
      (ds_ret de_oTuple)))⟩
theorem ok_law_lumps (T : Defs K mg) : ∀ n, FnOk P w K mg base CX0 (0 + n) T.d_law_lumps.f T.d_law_lumps.fd ["_law_shape_here", "_law_begin"] (spD K im 2 (F_law_lumps n))
  | 0 => FnOk.no fun _ _ _ _ => spD_no
  | n + 1 => by
    have ih := ok_law_lumps T n
    have Sc : FnScope ["_law_shape_here", "_law_begin", "_law_left", "_law_right"] ["_law_shape_here", "_law_begin"] (defScope s_law_lumps) := ⟨rfl, rfl, rfl, by decide +kernel, rfl, by decide +kernel, by decide +kernel⟩
    refine fn_Dx (k := 0 + n) (N := ["_law_shape_here", "_law_begin", "_law_left", "_law_right"]) (ps := ["_law_shape_here", "_law_begin"]) (F := B_law_lumps (F_law_lumps n)) T.d_law_lumps.F Sc rfl rfl rfl fun cdv A outer s H Ex hr => ?_
    have hu := room_hu hr
    exact ⟨_, (pss_cons (ps_if (pt_cmpR (op_eqDD hu) (pv 0) (pe_tup pa_nil) (nomark _)) (pss_one (ps_ret (pe_frz (pe_lst (pa_cons (pe_tup (pa_cons (pv 1) (pa_cons (pe_op op_addD (pv 1) pe_int) (pa_cons (pe_tup pa_nil) pa_nil)))) pa_nil))))) pss_nil)
      (pss_cons (ps_set (i := 2) Sc.nd rfl (by first | exact Or.inl rfl | exact Or.inr rfl) (pe_call ih hr rfl T.d_law_lumps.g T.d_law_lumps.F.kp T.d_law_lumps.b .nil pass0 (pa_cons (pe_ix ix_D (pv 0) pe_int (fun _ _ => rfl)) (pa_cons (pv 1) pa_nil))))
      (pss_cons (ps_set (i := 3) Sc.nd rfl (by first | exact Or.inl rfl | exact Or.inr rfl) (pe_call ih hr rfl T.d_law_lumps.g T.d_law_lumps.F.kp T.d_law_lumps.b .nil pass0 (pa_cons (pe_ix ix_D (pv 0) pe_int (fun _ _ => rfl)) (pa_cons (pe_ix ix_D (pe_ix ix_D (pv 2) pe_int (fun _ _ => rfl)) pe_int (fun _ _ => rfl)) pa_nil))))
      (pss_one (ps_ret (pe_op op_addD (pe_op op_addD (pe_frz (pe_lst (pa_cons (pe_tup (pa_cons (pv 1) (pa_cons (pe_ix ix_D (pe_ix ix_D (pv 3) pe_int (fun _ _ => rfl)) pe_int (fun _ _ => rfl)) (pa_cons (pv 0) pa_nil)))) pa_nil))) (pv 2)) (pv 3))))))),
      (ds_seq (ds_if (dt_test (de_op (de_var 0) (de_tup da_nil))) (ds_ret (de_frz (dl_lst (da_cons (de_tup (da_cons (de_var 1) (da_cons (de_op (de_var 1) de_int) (da_cons (de_tup da_nil) da_nil)))) da_nil)))) ds_nx)
      (ds_seq (ds_asg (dc_D (da_cons (de_op (de_var 0) de_int) (da_cons (de_var 1) da_nil)) (an_cons (an_cons an_nil))) dg_name)
      (ds_seq (ds_asg (dc_D (da_cons (de_op (de_var 0) de_int) (da_cons (de_op (de_op (de_var 2) de_int) de_int) da_nil)) (an_cons (an_cons an_nil))) dg_name)
      (ds_ret (de_op (de_op (de_frz (dl_lst (da_cons (de_tup (da_cons (de_var 1) (da_cons (de_op (de_op (de_var 3) de_int) de_int) (da_cons (de_var 0) da_nil)))) da_nil))) (de_var 2)) (de_var 3))))))⟩
theorem ok_law_wrong (T : Defs K mg) : FnOk P w K mg base CX0 71 T.d_law_wrong.f T.d_law_wrong.fd ["_law_table_here", "_law_b", "_law_m"] (spD K im 3 F_law_wrong) := by
  have G_law_stretches := ok_law_stretches (P := P) (w := w) (base := base) (im := im) T
  have G_law_entry := ok_law_entry (P := P) (w := w) (base := base) (im := im) T
  have G_law_lumps := ok_law_lumps (P := P) (w := w) (base := base) (im := im) T
  have Sc : FnScope ["_law_table_here", "_law_b", "_law_m", "_law_found", "_law_parts", "_law_k", "_law_pair", "_law_i", "_law_j", "_law_part"] ["_law_table_here", "_law_b", "_law_m"] (defScope s_law_wrong) := ⟨rfl, rfl, rfl, by decide +kernel, rfl, by decide +kernel, by decide +kernel⟩
  refine fn_Dx (N := ["_law_table_here", "_law_b", "_law_m", "_law_found", "_law_parts", "_law_k", "_law_pair", "_law_i", "_law_j", "_law_part"]) (ps := ["_law_table_here", "_law_b", "_law_m"]) (F := B_law_wrong) T.d_law_wrong.F Sc rfl rfl rfl fun cdv A outer s H Ex hr => ?_
  have hu := room_hu hr
  exact ⟨_, (pss_cons (ps_par (i := 3) (j := 4) rfl Sc.nd rfl rfl (by decide) rfl rfl (pa_cons (pe_lst pa_nil) (pa_cons (pe_callTy (call_dictTD hu rfl) (by rfl) T.n_dict (by decide +kernel) (pa_cons (pe_frz (pe_lc (own := [("_law_i", 7), ("_law_j", 8), ("_law_part", 9)]) rfl Sc.nd (pi_seq (pe_call (G_law_lumps 70) (hr.mono (by first | decide | omega)) rfl T.d_law_lumps.g T.d_law_lumps.F.kp T.d_law_lumps.b .nil pass0 (pa_cons (pe_call G_law_entry (hr.mono (by first | decide | omega)) rfl T.d_law_entry.g T.d_law_entry.F.kp T.d_law_entry.b .nil pass0 (pa_cons (pv 0) (pa_cons (pv 2) pa_nil))) (pa_cons pe_int pa_nil)))) (blkOk_by (own := [("_law_i", 7), ("_law_j", 8), ("_law_part", 9)]) (N := ["_law_table_here", "_law_b", "_law_m", "_law_found", "_law_parts", "_law_k", "_law_pair", "_law_i", "_law_j", "_law_part"]) (sc := defScope s_law_wrong) (by decide +kernel)) (fun _ _ _ _ _ => (pg_sq rfl (pgs_cons (pg_name (i := 7) Sc.nd rfl (by first | exact Or.inl rfl | exact Or.inr rfl)) (pgs_cons (pg_name (i := 8) Sc.nd rfl (by first | exact Or.inl rfl | exact Or.inr rfl)) (pgs_cons (pg_name (i := 9) Sc.nd rfl (by first | exact Or.inl rfl | exact Or.inr rfl)) pgs_nil))))) (fun _ _ _ _ _ => pts_nil) (fun _ _ _ _ _ => (pe_tup (pa_cons (pe_tup (pa_cons (pv 7) (pa_cons (pv 8) pa_nil))) (pa_cons (pv 9) pa_nil)))))) pa_nil)) pa_nil)) (by rfl))
      (pss_cons (ps_for PassesOwn.never rfl (pi_enumS rfl T.n_enumerate (pa_cons (pe_call G_law_stretches (hr.mono (by first | decide | omega)) rfl T.d_law_stretches.g T.d_law_stretches.F.kp T.d_law_stretches.b .nil pass0 (pa_cons (pv 2) (pa_cons (pv 1) pa_nil))) pa_nil)) (pg_sq rfl (pgs_cons (pg_name (i := 5) Sc.nd rfl (by first | exact Or.inl rfl | exact Or.inr rfl)) (pgs_cons (pg_name (i := 6) Sc.nd rfl (by first | exact Or.inl rfl | exact Or.inr rfl)) pgs_nil))) (pss_one (ps_if (pt_cmp (pc_dnotin (hu1 hu) (pv 6) (pv 4))) (pss_one (ps_expr (pe_bm PySem.F.plainAttrs_list PySem.F.slot_list_append PySem.F.type_list_append mt_append (pv 3) (pa_cons (pe_tup (pa_cons pe_str (pa_cons (pv 2) (pa_cons (pv 5) pa_nil)))) pa_nil)))) (pss_one (ps_if (pt_cmpR (op_neDD hu) (pe_dget (hu1 hu) (pv 4) (pv 6) (fun _ _ => rfl)) (pe_call G_law_entry (hr.mono (by first | decide | omega)) rfl T.d_law_entry.g T.d_law_entry.F.kp T.d_law_entry.b .nil pass0 (pa_cons (pv 0) (pa_cons (pe_op op_subD (pe_ix ix_D (pv 6) pe_int (fun _ _ => rfl)) (pe_ix ix_D (pv 6) pe_int (fun _ _ => rfl))) pa_nil))) (nomark _)) (pss_one (ps_expr (pe_bm PySem.F.plainAttrs_list PySem.F.slot_list_append PySem.F.type_list_append mt_append (pv 3) (pa_cons (pe_tup (pa_cons pe_str (pa_cons (pv 2) (pa_cons (pv 5) pa_nil)))) pa_nil)))) pss_nil)))))
      (pss_one (ps_ret (pe_frz (pv 3)))))),
      (ds_seq (ds_parO1 (dl_lst da_nil) (de_callN (da_cons (de_frz (dl_lc (W' := fun _ _ _ _ => False) (vs := [7, 8, 9]) (di_seq (dc_D (da_cons (dc_D (da_cons (de_var 0) (da_cons (de_var 2) da_nil)) (an_cons (an_cons an_nil))) (da_cons de_int da_nil)) (an_cons (an_cons an_nil)))) (dg_tup (dgs_cons (dg_name (i := 7)) (dgs_cons (dg_name (i := 8)) (dgs_cons (dg_name (i := 9)) dgs_nil)))) dt_yes (de_tup (da_cons (de_tup (da_cons (de_var 7) (da_cons (de_var 8) da_nil))) (da_cons (de_var 9) da_nil))) (fun _ h => h))) da_nil)))
      (ds_seq (ds_for (di_enum (dc_D (da_cons (de_var 2) (da_cons (de_var 1) da_nil)) (an_cons (an_cons an_nil)))) (dg_tup (dgs_cons (dg_name (i := 5)) (dgs_cons (dg_name (i := 6)) dgs_nil))) (ds_if (dt_test (de_dnTE (plT 4) (de_var 6))) (ds_app (de_tup (da_cons de_str (da_cons (de_var 2) (da_cons (de_var 5) da_nil))))) (ds_if (dt_test (de_op (de_dgTE (plT 4) (de_var 6)) (dc_D (da_cons (de_var 0) (da_cons (de_op (de_op (de_var 6) de_int) (de_op (de_var 6) de_int)) da_nil)) (an_cons (an_cons an_nil))))) (ds_app (de_tup (da_cons de_str (da_cons (de_var 2) (da_cons (de_var 5) da_nil))))) ds_nx)))
      ds_retO))⟩
theorem ok_law_above (T : Defs K mg) : ∀ n, FnOk P w K mg base CX0 (70 + n) T.d_law_above.f T.d_law_above.fd ["_law_shape_here", "_law_begin", "_law_pairs"] (spD K im 3 (F_law_above n))
  | 0 => FnOk.no fun _ _ _ _ => spD_no
  | n + 1 => by
    have ih := ok_law_above T n
    have G_law_size := ok_law_size (P := P) (w := w) (base := base) (im := im) T
    have Sc : FnScope ["_law_shape_here", "_law_begin", "_law_pairs", "_law_end", "_law_at"] ["_law_shape_here", "_law_begin", "_law_pairs"] (defScope s_law_above) := ⟨rfl, rfl, rfl, by decide +kernel, rfl, by decide +kernel, by decide +kernel⟩
    refine fn_Dx (k := 70 + n) (N := ["_law_shape_here", "_law_begin", "_law_pairs", "_law_end", "_law_at"]) (ps := ["_law_shape_here", "_law_begin", "_law_pairs"]) (F := B_law_above (F_law_above n)) T.d_law_above.F Sc rfl rfl rfl fun cdv A outer s H Ex hr => ?_
    have hu := room_hu hr
    exact ⟨_, (pss_cons (ps_set (i := 3) Sc.nd rfl (by first | exact Or.inl rfl | exact Or.inr rfl) (pe_op op_addD (pv 1) (pe_call (G_law_size 70) (hr.mono (by first | decide | omega)) rfl T.d_law_size.g T.d_law_size.F.kp T.d_law_size.b .nil pass0 (pa_cons (pv 0) pa_nil))))
      (pss_cons (ps_if (PW.pt (pw_or (pt_cmpR (op_eqDD hu) (pv 0) (pe_tup pa_nil) (nomark _)) (pw_or1 (pt_cmpR (op_inDD hu) (pe_tup (pa_cons (pv 1) (pa_cons (pv 3) pa_nil))) (pv 2) (by rfl))))) (pss_one (ps_ret (pe_tup pa_nil))) pss_nil)
      (pss_cons (ps_set (i := 4) Sc.nd rfl (by first | exact Or.inl rfl | exact Or.inr rfl) (pe_op op_addD (pv 1) (pe_call (G_law_size 70) (hr.mono (by first | decide | omega)) rfl T.d_law_size.g T.d_law_size.F.kp T.d_law_size.b .nil pass0 (pa_cons (pe_ix ix_D (pv 0) pe_int (fun _ _ => rfl)) pa_nil))))
      (pss_one (ps_ret (pe_tup (pa_cons (pe_call ih hr rfl T.d_law_above.g T.d_law_above.F.kp T.d_law_above.b .nil pass0 (pa_cons (pe_ix ix_D (pv 0) pe_int (fun _ _ => rfl)) (pa_cons (pv 1) (pa_cons (pv 2) pa_nil)))) (pa_cons (pe_call ih hr rfl T.d_law_above.g T.d_law_above.F.kp T.d_law_above.b .nil pass0 (pa_cons (pe_ix ix_D (pv 0) pe_int (fun _ _ => rfl)) (pa_cons (pv 4) (pa_cons (pv 2) pa_nil)))) pa_nil)))))))),
      (ds_seq (ds_asg (de_op (de_var 1) (dc_D (da_cons (de_var 0) da_nil) (an_cons an_nil))) dg_name)
      (ds_seq (ds_if (dt_or (dt_test (de_op (de_var 0) (de_tup da_nil))) (dt_test (de_op (de_tup (da_cons (de_var 1) (da_cons (de_var 3) da_nil))) (de_var 2)))) (ds_ret (de_tup da_nil)) ds_nx)
      (ds_seq (ds_asg (de_op (de_var 1) (dc_D (da_cons (de_op (de_var 0) de_int) da_nil) (an_cons an_nil))) dg_name)
      (ds_ret (de_tup (da_cons (dc_D (da_cons (de_op (de_var 0) de_int) (da_cons (de_var 1) (da_cons (de_var 2) da_nil))) (an_cons (an_cons (an_cons an_nil)))) (da_cons (dc_D (da_cons (de_op (de_var 0) de_int) (da_cons (de_var 4) (da_cons (de_var 2) da_nil))) (an_cons (an_cons (an_cons an_nil)))) da_nil)))))))⟩
theorem ok_law_counters (T : Defs K mg) : FnOk P w K mg base CX0 141 T.d_law_counters.f T.d_law_counters.fd ["_law_table_here", "_law_b"] (spD K im 2 F_law_counters) := by
  have G_law_wrong := ok_law_wrong (P := P) (w := w) (base := base) (im := im) T
  have G_law_stretches := ok_law_stretches (P := P) (w := w) (base := base) (im := im) T
  have G_law_above := ok_law_above (P := P) (w := w) (base := base) (im := im) T
  have G_law_entry := ok_law_entry (P := P) (w := w) (base := base) (im := im) T
  have Sc : FnScope ["_law_table_here", "_law_b", "_law_size_here", "_law_found", "_law_whole", "_law_m", "_law_wrong_here", "_law_pairs", "_law_top", "_law_one", "_law_many", "_law_other"] ["_law_table_here", "_law_b"] (defScope s_law_counters) := ⟨rfl, rfl, rfl, by decide +kernel, rfl, by decide +kernel, by decide +kernel⟩
  refine fn_Dx (N := ["_law_table_here", "_law_b", "_law_size_here", "_law_found", "_law_whole", "_law_m", "_law_wrong_here", "_law_pairs", "_law_top", "_law_one", "_law_many", "_law_other"]) (ps := ["_law_table_here", "_law_b"]) (F := B_law_counters) T.d_law_counters.F Sc rfl rfl rfl fun cdv A outer s H Ex hr => ?_
  have hu := room_hu hr
  exact ⟨_, (pss_cons (ps_par3 (i := 2) (j := 3) (l := 4) rfl Sc.nd rfl rfl rfl (by decide) (by decide) (by decide) rfl rfl rfl (pa_cons (pe_op op_addD (pe_callB call_lenDD (by rfl) T.n_len (by decide +kernel) (pa_cons (pv 0) pa_nil)) pe_int) (pa_cons (pe_lst pa_nil) (pa_cons (pe_lst pa_nil) pa_nil))) (by rfl))
      (pss_cons (ps_if (pt_cmpR (op_neDD hu) (pe_op op_modD (pv 2) (pv 1)) pe_int (nomark _)) (pss_one (ps_expr (pe_bm PySem.F.plainAttrs_list PySem.F.slot_list_append PySem.F.type_list_append mt_append (pv 3) (pa_cons (pe_tup (pa_cons pe_str pa_nil)) pa_nil)))) pss_nil)
      (pss_cons (ps_for PassesOwn.never rfl (pi_range2 rfl T.n_range (pa_cons pe_int (pa_cons (pe_op op_addD (pv 2) pe_int) pa_nil))) (pg_name (i := 5) Sc.nd rfl (by first | exact Or.inl rfl | exact Or.inr rfl)) (pss_cons (ps_asg (pe_tup (pa_cons (pe_call G_law_wrong (hr.mono (by first | decide | omega)) rfl T.d_law_wrong.g T.d_law_wrong.F.kp T.d_law_wrong.b .nil pass0 (pa_cons (pv 0) (pa_cons (pv 1) (pa_cons (pv 5) pa_nil)))) (pa_cons (pe_call G_law_stretches (hr.mono (by first | decide | omega)) rfl T.d_law_stretches.g T.d_law_stretches.F.kp T.d_law_stretches.b .nil pass0 (pa_cons (pv 5) (pa_cons (pv 1) pa_nil))) pa_nil))) (pg_sq rfl (pgs_cons (pg_name (i := 6) Sc.nd rfl (by first | exact Or.inl rfl | exact Or.inr rfl)) (pgs_cons (pg_name (i := 7) Sc.nd rfl (by first | exact Or.inl rfl | exact Or.inr rfl)) pgs_nil))))
      (pss_cons (ps_pre 3 (ps_set (i := 3) Sc.nd rfl (by first | exact Or.inl rfl | exact Or.inr rfl) (pe_op op_addLL (pv 3) (pv 6))))
      (pss_one (ps_if (pt_cmpR (op_eqDD hu) (pv 6) (pe_frz (pe_lst pa_nil)) (nomark _)) (pss_cons (ps_set (i := 8) Sc.nd rfl (by first | exact Or.inl rfl | exact Or.inr rfl) (pe_call (G_law_above 70) (hr.mono (by first | decide | omega)) rfl T.d_law_above.g T.d_law_above.F.kp T.d_law_above.b .nil pass0 (pa_cons (pe_call G_law_entry (hr.mono (by first | decide | omega)) rfl T.d_law_entry.g T.d_law_entry.F.kp T.d_law_entry.b .nil pass0 (pa_cons (pv 0) (pa_cons (pv 5) pa_nil))) (pa_cons pe_int (pa_cons (pv 7) pa_nil)))))
      (pss_cons (ps_pre 3 (ps_set (i := 3) Sc.nd rfl (by first | exact Or.inl rfl | exact Or.inr rfl) (pe_op op_addLL (pv 3) (pe_frz (pe_lc (own := [("_law_one", 9), ("_law_many", 10), ("_law_other", 11)]) rfl Sc.nd (pi_seq (pv 4)) (blkOk_by (own := [("_law_one", 9), ("_law_many", 10), ("_law_other", 11)]) (N := ["_law_table_here", "_law_b", "_law_size_here", "_law_found", "_law_whole", "_law_m", "_law_wrong_here", "_law_pairs", "_law_top", "_law_one", "_law_many", "_law_other"]) (sc := defScope s_law_counters) (by decide +kernel)) (fun _ _ _ _ _ => (pg_sq rfl (pgs_cons (pg_name (i := 9) Sc.nd rfl (by first | exact Or.inl rfl | exact Or.inr rfl)) (pgs_cons (pg_name (i := 10) Sc.nd rfl (by first | exact Or.inl rfl | exact Or.inr rfl)) (pgs_cons (pg_name (i := 11) Sc.nd rfl (by first | exact Or.inl rfl | exact Or.inr rfl)) pgs_nil))))) (fun _ _ _ _ _ => (pts_one (PW.pt (pw_and (pt_cmpR (op_eqDD hu) (pv 10) (pe_callB call_lenDD (by rfl) T.n_len (by decide +kernel) (pa_cons (pv 7) pa_nil)) (nomark _)) (pw_and1 (pt_cmpR (op_neDD hu) (pv 11) (pv 8) (nomark _))))))) (fun _ _ _ _ _ => (pe_tup (pa_cons pe_str (pa_cons (pv 9) (pa_cons (pv 5) pa_nil))))))))))
      (pss_one (ps_expr (pe_bm PySem.F.plainAttrs_list PySem.F.slot_list_append PySem.F.type_list_append mt_append (pv 4) (pa_cons (pe_tup (pa_cons (pv 5) (pa_cons (pe_callB call_lenDD (by rfl) T.n_len (by decide +kernel) (pa_cons (pv 7) pa_nil)) (pa_cons (pv 8) pa_nil)))) pa_nil)))))) pss_nil)))))
      (pss_one (ps_ret (pe_frz (pv 3))))))),
      (ds_seq (ds_par3O23 (de_op (de_callN (da_cons (de_var 0) da_nil)) de_int) (dl_lst da_nil) (dl_lst da_nil))
      (ds_seq (ds_if (dt_test (de_op (de_op (de_var 2) (de_var 1)) de_int)) (ds_app (de_tup (da_cons de_str da_nil))) ds_nx)
      (ds_seq (ds_for (di_rg2 (da_cons de_int (da_cons (de_op (de_var 2) de_int) da_nil))) (dg_name (i := 5)) (ds_seq (ds_asg (de_tup (da_cons (dc_D (da_cons (de_var 0) (da_cons (de_var 1) (da_cons (de_var 5) da_nil))) (an_cons (an_cons (an_cons an_nil)))) (da_cons (dc_D (da_cons (de_var 5) (da_cons (de_var 1) da_nil)) (an_cons (an_cons an_nil))) da_nil))) (dg_tup (dgs_cons (dg_name (i := 6)) (dgs_cons (dg_name (i := 7)) dgs_nil))))
      (ds_seq (ds_pre 3 (ds_setO (dl_add (de_var 3) (de_var 6))))
      (ds_if (dt_test (de_op (de_var 6) (de_frz (dl_lst da_nil)))) (ds_seq (ds_asg (dc_D (da_cons (dc_D (da_cons (de_var 0) (da_cons (de_var 5) da_nil)) (an_cons (an_cons an_nil))) (da_cons de_int (da_cons (de_var 7) da_nil))) (an_cons (an_cons (an_cons an_nil)))) dg_name)
      (ds_seq (ds_pre 3 (ds_setO (dl_add (de_var 3) (de_frz (dl_lcO (W' := fun _ _ _ _ => False) (vs := [9, 10, 11]) (di_own (i := 4)) (dg_tup (dgs_cons (dg_name (i := 9)) (dgs_cons (dg_name (i := 10)) (dgs_cons (dg_name (i := 11)) dgs_nil)))) (dt_and (dt_test (de_op (de_var 10) (de_callN (da_cons (de_var 7) da_nil)))) (dt_test (de_op (de_var 11) (de_var 8)))) (de_tup (da_cons de_str (da_cons (de_var 9) (da_cons (de_var 5) da_nil)))) (fun _ h => h))))))
      (ds_app (de_tup (da_cons (de_var 5) (da_cons (de_callN (da_cons (de_var 7) da_nil)) (da_cons (de_var 8) da_nil))))))) ds_nx))))
      ds_retO)))⟩
theorem ok_law_behind (T : Defs K mg) : FnOk P w K mg base CX0 142 T.d_law_behind.f T.d_law_behind.fd ["_law_table_here", "_law_b"] (spD K im 2 F_law_behind) := by
  have G_law_stretches := ok_law_stretches (P := P) (w := w) (base := base) (im := im) T
  have G_law_above := ok_law_above (P := P) (w := w) (base := base) (im := im) T
  have G_law_glued := ok_law_glued (P := P) (w := w) (base := base) (im := im) T
  have G_law_lumps := ok_law_lumps (P := P) (w := w) (base := base) (im := im) T
  have Sc : FnScope ["_law_table_here", "_law_b", "_law_size_here", "_law_found", "_law_m", "_law_lumps_here", "_law_pairs", "_law_i", "_law_j", "_law_part", "_law_pair"] ["_law_table_here", "_law_b"] (defScope s_law_behind) := ⟨rfl, rfl, rfl, by decide +kernel, rfl, by decide +kernel, by decide +kernel⟩
  refine fn_Dx (N := ["_law_table_here", "_law_b", "_law_size_here", "_law_found", "_law_m", "_law_lumps_here", "_law_pairs", "_law_i", "_law_j", "_law_part", "_law_pair"]) (ps := ["_law_table_here", "_law_b"]) (F := B_law_behind) T.d_law_behind.F Sc rfl rfl rfl fun cdv A outer s H Ex hr => ?_
  have hu := room_hu hr
  exact ⟨_, (pss_cons (ps_par (i := 2) (j := 3) rfl Sc.nd rfl rfl (by decide) rfl rfl (pa_cons (pe_op op_addD (pe_callB call_lenDD (by rfl) T.n_len (by decide +kernel) (pa_cons (pv 0) pa_nil)) pe_int) (pa_cons (pe_lst pa_nil) pa_nil)) (by rfl))
      (pss_cons (ps_if (pt_cmpR (op_neDD hu) (pe_op op_modD (pv 2) (pv 1)) pe_int (nomark _)) (pss_one (ps_ret pe_non)) pss_nil)
      (pss_cons (ps_for PassesOwn.never rfl (pi_range2 rfl T.n_range (pa_cons pe_int (pa_cons (pe_op op_addD (pe_op op_fdivD (pv 2) (pv 1)) pe_int) pa_nil))) (pg_name (i := 4) Sc.nd rfl (by first | exact Or.inl rfl | exact Or.inr rfl)) (pss_cons (ps_set (i := 5) Sc.nd rfl (by first | exact Or.inl rfl | exact Or.inr rfl) (pe_frz (pe_lc (own := [("_law_i", 7), ("_law_j", 8), ("_law_part", 9)]) rfl Sc.nd (pi_seq (pe_call (G_law_lumps 70) (hr.mono (by first | decide | omega)) rfl T.d_law_lumps.g T.d_law_lumps.F.kp T.d_law_lumps.b .nil pass0 (pa_cons (pe_ix ix_D (pv 0) (pe_op op_subD (pe_op op_mulD (pv 4) (pv 1)) pe_int) (fun _ _ => rfl)) (pa_cons pe_int pa_nil)))) (blkOk_by (own := [("_law_i", 7), ("_law_j", 8), ("_law_part", 9)]) (N := ["_law_table_here", "_law_b", "_law_size_here", "_law_found", "_law_m", "_law_lumps_here", "_law_pairs", "_law_i", "_law_j", "_law_part", "_law_pair"]) (sc := defScope s_law_behind) (by decide +kernel)) (fun _ _ _ _ _ => (pg_sq rfl (pgs_cons (pg_name (i := 7) Sc.nd rfl (by first | exact Or.inl rfl | exact Or.inr rfl)) (pgs_cons (pg_name (i := 8) Sc.nd rfl (by first | exact Or.inl rfl | exact Or.inr rfl)) (pgs_cons (pg_name (i := 9) Sc.nd rfl (by first | exact Or.inl rfl | exact Or.inr rfl)) pgs_nil))))) (fun _ _ _ _ _ => pts_nil) (fun _ _ _ _ _ => (pe_tup (pa_cons (pv 7) (pa_cons (pv 8) pa_nil)))))))
      (pss_cons (ps_set (i := 6) Sc.nd rfl (by first | exact Or.inl rfl | exact Or.inr rfl) (pe_call G_law_stretches (hr.mono (by first | decide | omega)) rfl T.d_law_stretches.g T.d_law_stretches.F.kp T.d_law_stretches.b .nil pass0 (pa_cons (pe_op op_mulD (pv 4) (pv 1)) (pa_cons (pv 1) pa_nil))))
      (pss_cons (ps_if (pt_not (pt_val (pe_callB (call_allDD rfl) (by rfl) T.n_all (by decide +kernel) (pa_cons (pe_frz (pe_lc (own := [("_law_pair", 10)]) rfl Sc.nd (pi_seq (pv 6)) (blkOk_by (own := [("_law_pair", 10)]) (N := ["_law_table_here", "_law_b", "_law_size_here", "_law_found", "_law_m", "_law_lumps_here", "_law_pairs", "_law_i", "_law_j", "_law_part", "_law_pair"]) (sc := defScope s_law_behind) (by decide +kernel)) (fun _ _ _ _ _ => (pg_name (i := 10) Sc.nd rfl (by first | exact Or.inl rfl | exact Or.inr rfl))) (fun _ _ _ _ _ => pts_nil) (fun _ _ _ _ _ => (pe_cmpR (op_inDD hu) (pv 10) (pv 5) (by rfl))))) pa_nil)))) (pss_one (ps_ret pe_non)) pss_nil)
      (pss_one (ps_expr (pe_bm PySem.F.plainAttrs_list PySem.F.slot_list_append PySem.F.type_list_append mt_append (pv 3) (pa_cons (pe_call (G_law_above 70) (hr.mono (by first | decide | omega)) rfl T.d_law_above.g T.d_law_above.F.kp T.d_law_above.b .nil pass0 (pa_cons (pe_ix ix_D (pv 0) (pe_op op_subD (pe_op op_mulD (pv 4) (pv 1)) pe_int) (fun _ _ => rfl)) (pa_cons pe_int (pa_cons (pv 6) pa_nil)))) pa_nil))))))))
      (pss_one (ps_ret (pe_ifExp (pt_cmpR (op_eqDD hu) (pe_call G_law_glued (hr.mono (by first | decide | omega)) rfl T.d_law_glued.g T.d_law_glued.F.kp T.d_law_glued.b .nil pass0 (pa_cons (pe_slice sl_D (pv 0) po_none (po_some (pe_op op_subD (pv 1) pe_int))) (pa_cons (pe_callTy call_tuple_of (by rfl) T.n_tuple (by decide +kernel) (pa_cons (pv 3) pa_nil)) pa_nil))) (pv 0) (nomark _)) (pe_callTy call_tuple_of (by rfl) T.n_tuple (by decide +kernel) (pa_cons (pv 3) pa_nil)) pe_non)))))),
      (ds_seq (ds_parO2 (de_op (de_callN (da_cons (de_var 0) da_nil)) de_int) (dl_lst da_nil))
      (ds_seq (ds_if (dt_test (de_op (de_op (de_var 2) (de_var 1)) de_int)) (ds_ret de_non) ds_nx)
      (ds_seq (ds_for (di_rg2 (da_cons de_int (da_cons (de_op (de_op (de_var 2) (de_var 1)) de_int) da_nil))) (dg_name (i := 4)) (ds_seq (ds_asg (de_frz (dl_lc (W' := fun _ _ _ _ => False) (vs := [7, 8, 9]) (di_seq (dc_D (da_cons (de_op (de_var 0) (de_op (de_op (de_var 4) (de_var 1)) de_int)) (da_cons de_int da_nil)) (an_cons (an_cons an_nil)))) (dg_tup (dgs_cons (dg_name (i := 7)) (dgs_cons (dg_name (i := 8)) (dgs_cons (dg_name (i := 9)) dgs_nil)))) dt_yes (de_tup (da_cons (de_var 7) (da_cons (de_var 8) da_nil))) (fun _ h => h))) dg_name)
      (ds_seq (ds_asg (dc_D (da_cons (de_op (de_var 4) (de_var 1)) (da_cons (de_var 1) da_nil)) (an_cons (an_cons an_nil))) dg_name)
      (ds_seq (ds_if (dt_not (dt_B (de_callN (da_cons (de_frz (dl_lc (W' := fun _ _ _ _ => False) (vs := [10]) (di_seq (de_var 6)) (dg_name (i := 10)) dt_yes (de_op (de_var 10) (de_var 5)) (fun _ h => h))) da_nil)))) (ds_ret de_non) ds_nx)
      (ds_app (dc_D (da_cons (de_op (de_var 0) (de_op (de_op (de_var 4) (de_var 1)) de_int)) (da_cons de_int (da_cons (de_var 6) da_nil))) (an_cons (an_cons (an_cons an_nil)))))))))
      (ds_ret (de_if (dt_test (de_op (dc_D (da_cons (de_sl (de_var 0) do_none (do_some (de_op (de_var 1) de_int))) (da_cons de_oTuple da_nil)) (an_cons (an_cons an_nil))) (de_var 0))) de_oTuple de_non)))))⟩
theorem ok_law_stirred (T : Defs K mg) : ∀ n, FnOk P w K mg base CX0 (72 + n) T.d_law_stirred.f T.d_law_stirred.fd ["_law_source_here", "_law_shape_here"] (spW K (srcG im) 2 0 (F_law_stirred n))
  | 0 => FnOk.no fun _ _ _ _ => spW_no
  | n + 1 => by
    have ih := ok_law_stirred T n
    have G_law_shape := ok_law_shape (P := P) (w := w) (base := base) (im := im) T
    have G_law_pick := ok_law_pick (P := P) (w := w) (base := base) (im := im) T
    have G_law_size := ok_law_size (P := P) (w := w) (base := base) (im := im) T
    have Sc : FnScope ["_law_source_here", "_law_shape_here"] ["_law_source_here", "_law_shape_here"] (defScope s_law_stirred) := ⟨rfl, rfl, rfl, by decide +kernel, rfl, by decide +kernel, by decide +kernel⟩
    refine fn_Wx (Γ := srcG im) (k := 72 + n) (N := ["_law_source_here", "_law_shape_here"]) (ps := ["_law_source_here", "_law_shape_here"]) (F := B_law_stirred (F_law_stirred n)) T.d_law_stirred.F Sc rfl rfl rfl fun p cdv A outer s H Ex hr => ?_
    have hu := room_hu hr
    exact ⟨_, (pss_cons (ps_if (PW.pt (pw_or (pt_cmpR op_ltD (pe_call (G_law_size 70) (hr.mono (by first | decide | omega)) rfl T.d_law_size.g T.d_law_size.F.kp T.d_law_size.b .nil pass0 (pa_cons (pv 1) pa_nil)) pe_int (nomark _)) (pw_or1 (pt_cmpR (op_eqDD hu) (pe_call G_law_pick (hr.mono (by first | decide | omega)) rfl T.d_law_pick.g T.d_law_pick.F.kp T.d_law_pick.b .nil pass0 (pa_cons (pv 0) (pa_cons pe_int pa_nil))) pe_int (nomark _))))) (pss_one (ps_ret (pe_call (G_law_shape 70) (hr.mono (by first | decide | omega)) rfl T.d_law_shape.g T.d_law_shape.F.kp T.d_law_shape.b .nil pass0 (pa_cons (pv 0) (pa_cons (pe_call (G_law_size 70) (hr.mono (by first | decide | omega)) rfl T.d_law_size.g T.d_law_size.F.kp T.d_law_size.b .nil pass0 (pa_cons (pv 1) pa_nil)) pa_nil))))) pss_nil)
      (pss_cons (ps_if (pt_cmpR (op_eqDD hu) (pe_call G_law_pick (hr.mono (by first | decide | omega)) rfl T.d_law_pick.g T.d_law_pick.F.kp T.d_law_pick.b .nil pass0 (pa_cons (pv 0) (pa_cons pe_int pa_nil))) pe_int (nomark _)) (pss_one (ps_ret (pe_tup (pa_cons (pe_call ih hr rfl T.d_law_stirred.g T.d_law_stirred.F.kp T.d_law_stirred.b .nil pass0 (pa_cons (pv 0) (pa_cons (pe_ix ix_D (pv 1) pe_int (fun _ _ => rfl)) pa_nil))) (pa_cons (pe_ix ix_D (pv 1) pe_int (fun _ _ => rfl)) pa_nil))))) pss_nil)
      (pss_one (ps_ret (pe_tup (pa_cons (pe_ix ix_D (pv 1) pe_int (fun _ _ => rfl)) (pa_cons (pe_call ih hr rfl T.d_law_stirred.g T.d_law_stirred.F.kp T.d_law_stirred.b .nil pass0 (pa_cons (pv 0) (pa_cons (pe_ix ix_D (pv 1) pe_int (fun _ _ => rfl)) pa_nil))) pa_nil))))))),
      (ds_seq (ds_if (dt_or (dt_test (de_op (dc_D (da_cons (de_var 1) da_nil) (an_cons an_nil)) de_int)) (dt_test (de_op (dc_W (da_cons de_int da_nil) (an_cons an_nil)) de_int))) (ds_ret (dc_W (da_cons (dc_D (da_cons (de_var 1) da_nil) (an_cons an_nil)) da_nil) (an_cons an_nil))) ds_nx)
      (ds_seq (ds_if (dt_test (de_op (dc_W (da_cons de_int da_nil) (an_cons an_nil)) de_int)) (ds_ret (de_tup (da_cons (dc_W (da_cons (de_op (de_var 1) de_int) da_nil) (an_cons an_nil)) (da_cons (de_op (de_var 1) de_int) da_nil)))) ds_nx)
      (ds_ret (de_tup (da_cons (de_op (de_var 1) de_int) (da_cons (dc_W (da_cons (de_op (de_var 1) de_int) da_nil) (an_cons an_nil)) da_nil))))))⟩
theorem ok_law_bent (T : Defs K mg) : FnOk P w K mg base CX0 143 T.d_law_bent.f T.d_law_bent.fd ["_law_source_here", "_law_table_here"] (spW K (srcG im) 2 0 F_law_bent) := by
  have G_law_pick := ok_law_pick (P := P) (w := w) (base := base) (im := im) T
  have G_law_stirred := ok_law_stirred (P := P) (w := w) (base := base) (im := im) T
  have Sc : FnScope ["_law_source_here", "_law_table_here", "_law_m"] ["_law_source_here", "_law_table_here"] (defScope s_law_bent) := ⟨rfl, rfl, rfl, by decide +kernel, rfl, by decide +kernel, by decide +kernel⟩
  refine fn_Wx (Γ := srcG im) (N := ["_law_source_here", "_law_table_here", "_law_m"]) (ps := ["_law_source_here", "_law_table_here"]) (F := B_law_bent) T.d_law_bent.F Sc rfl rfl rfl fun p cdv A outer s H Ex hr => ?_
  have hu := room_hu hr
  exact ⟨_, (pss_cons (ps_set (i := 2) Sc.nd rfl (by first | exact Or.inl rfl | exact Or.inr rfl) (pe_op op_addD pe_int (pe_call G_law_pick (hr.mono (by first | decide | omega)) rfl T.d_law_pick.g T.d_law_pick.F.kp T.d_law_pick.b .nil pass0 (pa_cons (pv 0) (pa_cons (pe_callB call_lenDD (by rfl) T.n_len (by decide +kernel) (pa_cons (pv 1) pa_nil)) pa_nil)))))
      (pss_one (ps_ret (pe_op op_addD (pe_op op_addD (pe_slice sl_D (pv 1) po_none (po_some (pe_op op_subD (pv 2) pe_int))) (pe_tup (pa_cons (pe_call (G_law_stirred 70) (hr.mono (by first | decide | omega)) rfl T.d_law_stirred.g T.d_law_stirred.F.kp T.d_law_stirred.b .nil pass0 (pa_cons (pv 0) (pa_cons (pe_ix ix_D (pv 1) (pe_op op_subD (pv 2) pe_int) (fun _ _ => rfl)) pa_nil))) pa_nil))) (pe_slice sl_D (pv 1) (po_some (pe_op op_subD (pv 2) pe_int)) po_none))))),
      (ds_seq (ds_asg (de_op de_int (dc_W (da_cons (de_callN (da_cons (de_var 1) da_nil)) da_nil) (an_cons an_nil))) dg_name)
      (ds_ret (de_op (de_op (de_sl (de_var 1) do_none (do_some (de_op (de_var 2) de_int))) (de_tup (da_cons (dc_W (da_cons (de_op (de_var 1) (de_op (de_var 2) de_int)) da_nil) (an_cons an_nil)) da_nil))) (de_sl (de_var 1) (do_some (de_op (de_var 2) de_int)) do_none))))⟩
theorem ok_law_retopped (T : Defs K mg) : FnOk P w K mg base CX0 141 T.d_law_retopped.f T.d_law_retopped.fd ["_law_source_here", "_law_table_here", "_law_b"] (spW K (srcG im) 3 0 F_law_retopped) := by
  have G_law_pick := ok_law_pick (P := P) (w := w) (base := base) (im := im) T
  have G_law_entry := ok_law_entry (P := P) (w := w) (base := base) (im := im) T
  have G_law_stretches := ok_law_stretches (P := P) (w := w) (base := base) (im := im) T
  have G_law_filled := ok_law_filled (P := P) (w := w) (base := base) (im := im) T
  have G_law_shape := ok_law_shape (P := P) (w := w) (base := base) (im := im) T
  have Sc : FnScope ["_law_source_here", "_law_table_here", "_law_b", "_law_low", "_law_m", "_law_parts", "_law_begin", "_law_end"] ["_law_source_here", "_law_table_here", "_law_b"] (defScope s_law_retopped) := ⟨rfl, rfl, rfl, by decide +kernel, rfl, by decide +kernel, by decide +kernel⟩
  refine fn_Wx (Γ := srcG im) (N := ["_law_source_here", "_law_table_here", "_law_b", "_law_low", "_law_m", "_law_parts", "_law_begin", "_law_end"]) (ps := ["_law_source_here", "_law_table_here", "_law_b"]) (F := B_law_retopped) T.d_law_retopped.F Sc rfl rfl rfl fun p cdv A outer s H Ex hr => ?_
  have hu := room_hu hr
  exact ⟨_, (pss_cons (ps_set (i := 3) Sc.nd rfl (by first | exact Or.inl rfl | exact Or.inr rfl) (pe_ifExp (pt_cmpR op_ltD (pe_op op_mulD pe_int (pv 2)) (pe_op op_addD (pe_callB call_lenDD (by rfl) T.n_len (by decide +kernel) (pa_cons (pv 1) pa_nil)) pe_int) (nomark _)) (pe_op op_addD (pe_op op_mulD pe_int (pv 2)) pe_int) (pe_op op_addD (pv 2) pe_int)))
      (pss_cons (ps_set (i := 4) Sc.nd rfl (by first | exact Or.inl rfl | exact Or.inr rfl) (pe_op op_addD (pv 3) (pe_call G_law_pick (hr.mono (by first | decide | omega)) rfl T.d_law_pick.g T.d_law_pick.F.kp T.d_law_pick.b .nil pass0 (pa_cons (pv 0) (pa_cons (pe_op op_subD (pe_op op_addD (pe_callB call_lenDD (by rfl) T.n_len (by decide +kernel) (pa_cons (pv 1) pa_nil)) pe_int) (pv 3)) pa_nil)))))
      (pss_cons (ps_fz 5 (ps_setLc (i := 5) (own := [("_law_begin", 6), ("_law_end", 7)]) rfl Sc.nd rfl rfl (sw_true rfl rfl rfl (by decide +kernel)) (pi_seq (pe_call G_law_stretches (hr.mono (by first | decide | omega)) rfl T.d_law_stretches.g T.d_law_stretches.F.kp T.d_law_stretches.b .nil pass0 (pa_cons (pv 4) (pa_cons (pv 2) pa_nil)))) (blkOk_by (own := [("_law_begin", 6), ("_law_end", 7)]) (N := ["_law_source_here", "_law_table_here", "_law_b", "_law_low", "_law_m", "_law_parts", "_law_begin", "_law_end"]) (sc := defScope s_law_retopped) (by decide +kernel)) (fun _ _ _ _ _ => (pg_sq rfl (pgs_cons (pg_name (i := 6) Sc.nd rfl (by first | exact Or.inl rfl | exact Or.inr rfl)) (pgs_cons (pg_name (i := 7) Sc.nd rfl (by first | exact Or.inl rfl | exact Or.inr rfl)) pgs_nil)))) (fun _ _ _ _ _ => pts_nil) (fun _ _ _ _ _ => (pe_call G_law_entry (hr.mono (by first | decide | omega)) rfl T.d_law_entry.g T.d_law_entry.F.kp T.d_law_entry.b .nil pass0 (pa_cons (pv 1) (pa_cons (pe_op op_subD (pv 7) (pv 6)) pa_nil))))))
      (pss_one (ps_ret (pe_op op_addD (pe_op op_addD (pe_slice sl_D (pv 1) po_none (po_some (pe_op op_subD (pv 4) pe_int))) (pe_tup (pa_cons (pe_call (G_law_filled 70) (hr.mono (by first | decide | omega)) rfl T.d_law_filled.g T.d_law_filled.F.kp T.d_law_filled.b .nil pass0 (pa_cons (pe_call (G_law_shape 70) (hr.mono (by first | decide | omega)) rfl T.d_law_shape.g T.d_law_shape.F.kp T.d_law_shape.b .nil pass0 (pa_cons (pv 0) (pa_cons (pe_callB call_lenDD (by rfl) T.n_len (by decide +kernel) (pa_cons (pv 5) pa_nil)) pa_nil))) (pa_cons (pv 5) pa_nil))) pa_nil))) (pe_slice sl_D (pv 1) (po_some (pe_op op_subD (pv 4) pe_int)) po_none))))))),
      (ds_seq (ds_asg (de_if (dt_test (de_op (de_op de_int (de_var 2)) (de_op (de_callN (da_cons (de_var 1) da_nil)) de_int))) (de_op (de_op de_int (de_var 2)) de_int) (de_op (de_var 2) de_int)) dg_name)
      (ds_seq (ds_asg (de_op (de_var 3) (dc_W (da_cons (de_op (de_op (de_callN (da_cons (de_var 1) da_nil)) de_int) (de_var 3)) da_nil) (an_cons an_nil))) dg_name)
      (ds_seq (ds_fz (ds_setO (dl_lc (W' := fun _ _ _ _ => False) (vs := [6, 7]) (di_seq (dc_D (da_cons (de_var 4) (da_cons (de_var 2) da_nil)) (an_cons (an_cons an_nil)))) (dg_tup (dgs_cons (dg_name (i := 6)) (dgs_cons (dg_name (i := 7)) dgs_nil))) dt_yes (dc_D (da_cons (de_var 1) (da_cons (de_op (de_var 7) (de_var 6)) da_nil)) (an_cons (an_cons an_nil))) (fun _ h => h))))
      (ds_ret (de_op (de_op (de_sl (de_var 1) do_none (do_some (de_op (de_var 4) de_int))) (de_tup (da_cons (dc_D (da_cons (dc_W (da_cons (de_callN (da_cons (de_var 5) da_nil)) da_nil) (an_cons an_nil)) (da_cons (de_var 5) da_nil)) (an_cons (an_cons an_nil))) da_nil))) (de_sl (de_var 1) (do_some (de_op (de_var 4) de_int)) do_none))))))⟩
theorem ok_law_some_table (T : Defs K mg) : FnOk P w K mg base CX0 144 T.d_law_some_table.f T.d_law_some_table.fd ["_law_source_here", "_law_most"] (spW K (srcG im) 2 0 F_law_some_table) := by
  have G_law_pick := ok_law_pick (P := P) (w := w) (base := base) (im := im) T
  have G_law_table := ok_law_table (P := P) (w := w) (base := base) (im := im) T
  have G_law_glued := ok_law_glued (P := P) (w := w) (base := base) (im := im) T
  have G_law_bent := ok_law_bent (P := P) (w := w) (base := base) (im := im) T
  have G_law_retopped := ok_law_retopped (P := P) (w := w) (base := base) (im := im) T
  have Sc : FnScope ["_law_source_here", "_law_most", "_law_way", "_law_sizes", "_law_size_here", "_law_more", "_law_found", "_law_b"] ["_law_source_here", "_law_most"] (defScope s_law_some_table) := ⟨rfl, rfl, rfl, by decide +kernel, rfl, by decide +kernel, by decide +kernel⟩
  refine fn_Wx (Γ := srcG im) (N := ["_law_source_here", "_law_most", "_law_way", "_law_sizes", "_law_size_here", "_law_more", "_law_found", "_law_b"]) (ps := ["_law_source_here", "_law_most"]) (F := B_law_some_table) T.d_law_some_table.F Sc rfl rfl rfl fun p cdv A outer s H Ex hr => ?_
  have hu := room_hu hr
  exact ⟨_, (pss_cons (ps_par (i := 2) (j := 3) rfl Sc.nd rfl rfl (by decide) rfl rfl (pa_cons (pe_call G_law_pick (hr.mono (by first | decide | omega)) rfl T.d_law_pick.g T.d_law_pick.F.kp T.d_law_pick.b .nil pass0 (pa_cons (pv 0) (pa_cons pe_int pa_nil))) (pa_cons (pe_frz (pe_lst (pa_cons (pe_op op_addD pe_int (pe_call G_law_pick (hr.mono (by first | decide | omega)) rfl T.d_law_pick.g T.d_law_pick.F.kp T.d_law_pick.b .nil pass0 (pa_cons (pv 0) (pa_cons pe_int pa_nil)))) pa_nil))) pa_nil)) (by rfl))
      (pss_cons (ps_set (i := 4) Sc.nd rfl (by first | exact Or.inl rfl | exact Or.inr rfl) (pe_ix ix_D (pv 3) pe_int (fun _ _ => rfl)))
      (pss_cons (ps_for PassesOwn.never rfl (pi_seq (pe_frz (pe_lst (pa_cons (pe_op op_addD pe_int (pe_call G_law_pick (hr.mono (by first | decide | omega)) rfl T.d_law_pick.g T.d_law_pick.F.kp T.d_law_pick.b .nil pass0 (pa_cons (pv 0) (pa_cons pe_int pa_nil)))) (pa_cons (pe_op op_addD pe_int (pe_call G_law_pick (hr.mono (by first | decide | omega)) rfl T.d_law_pick.g T.d_law_pick.F.kp T.d_law_pick.b .nil pass0 (pa_cons (pv 0) (pa_cons pe_int pa_nil)))) pa_nil))))) (pg_name (i := 5) Sc.nd rfl (by first | exact Or.inl rfl | exact Or.inr rfl)) (pss_one (ps_if (pt_cmpR op_leD (pe_op op_mulD (pv 4) (pv 5)) (pv 1) (nomark _)) (pss_one (ps_par (i := 3) (j := 4) rfl Sc.nd rfl rfl (by decide) rfl rfl (pa_cons (pe_op op_addD (pv 3) (pe_frz (pe_lst (pa_cons (pv 5) pa_nil)))) (pa_cons (pe_op op_mulD (pv 4) (pv 5)) pa_nil)) (by rfl))) pss_nil)))
      (pss_cons (ps_if (pt_cmpR (op_eqDD hu) (pv 2) pe_int (nomark _)) (pss_one (ps_ret (pe_call G_law_table (hr.mono (by first | decide | omega)) rfl T.d_law_table.g T.d_law_table.F.kp T.d_law_table.b .nil pass0 (pa_cons (pv 0) (pa_cons (pe_op op_addD pe_int (pe_call G_law_pick (hr.mono (by first | decide | omega)) rfl T.d_law_pick.g T.d_law_pick.F.kp T.d_law_pick.b .nil pass0 (pa_cons (pv 0) (pa_cons (pe_op op_subD (pe_callB (call_min2DD rfl) (by rfl) T.n_min (by decide +kernel) (pa_cons pe_int (pa_cons (pv 1) pa_nil))) pe_int) pa_nil)))) pa_nil))))) pss_nil)
      (pss_cons (ps_par (i := 6) (j := 7) rfl Sc.nd rfl rfl (by decide) rfl rfl (pa_cons (pe_call G_law_table (hr.mono (by first | decide | omega)) rfl T.d_law_table.g T.d_law_table.F.kp T.d_law_table.b .nil pass0 (pa_cons (pv 0) (pa_cons (pe_ix ix_D (pv 3) pe_int (fun _ _ => rfl)) pa_nil))) (pa_cons (pe_ix ix_D (pv 3) pe_int (fun _ _ => rfl)) pa_nil)) (by rfl))
      (pss_cons (ps_for PassesOwn.never rfl (pi_seq (pe_slice sl_D (pv 3) (po_some pe_int) po_none)) (pg_name (i := 4) Sc.nd rfl (by first | exact Or.inl rfl | exact Or.inr rfl)) (pss_cons (ps_set (i := 7) Sc.nd rfl (by first | exact Or.inl rfl | exact Or.inr rfl) (pe_op op_addD (pe_callB call_lenDD (by rfl) T.n_len (by decide +kernel) (pa_cons (pv 6) pa_nil)) pe_int))
      (pss_one (ps_set (i := 6) Sc.nd rfl (by first | exact Or.inl rfl | exact Or.inr rfl) (pe_call G_law_glued (hr.mono (by first | decide | omega)) rfl T.d_law_glued.g T.d_law_glued.F.kp T.d_law_glued.b .nil pass0 (pa_cons (pv 6) (pa_cons (pe_call G_law_table (hr.mono (by first | decide | omega)) rfl T.d_law_table.g T.d_law_table.F.kp T.d_law_table.b .nil pass0 (pa_cons (pv 0) (pa_cons (pv 4) pa_nil))) pa_nil)))))))
      (pss_cons (ps_if (pt_cmpR (op_inDD hu) (pv 2) (pe_tup (pa_cons pe_int (pa_cons pe_int pa_nil))) (by rfl)) (pss_one (ps_ret (pe_call G_law_bent (hr.mono (by first | decide | omega)) rfl T.d_law_bent.g T.d_law_bent.F.kp T.d_law_bent.b .nil pass0 (pa_cons (pv 0) (pa_cons (pv 6) pa_nil))))) pss_nil)
      (pss_one (ps_ret (pe_ifExp (PW.pt (pw_and (pt_cmpR (op_inDD hu) (pv 2) (pe_tup (pa_cons pe_int (pa_cons pe_int (pa_cons pe_int pa_nil)))) (by rfl)) (pw_and1 (pt_cmpR op_ltD (pv 7) (pe_op op_addD (pe_callB call_lenDD (by rfl) T.n_len (by decide +kernel) (pa_cons (pv 6) pa_nil)) pe_int) (nomark _))))) (pe_call G_law_retopped (hr.mono (by first | decide | omega)) rfl T.d_law_retopped.g T.d_law_retopped.F.kp T.d_law_retopped.b .nil pass0 (pa_cons (pv 0) (pa_cons (pv 6) (pa_cons (pv 7) pa_nil)))) (pv 6))))))))))),
      (ds_seq (ds_par (dc_W (da_cons de_int da_nil) (an_cons an_nil)) (de_frz (dl_lst (da_cons (de_op de_int (dc_W (da_cons de_int da_nil) (an_cons an_nil))) da_nil))))
      (ds_seq (ds_asg (de_op (de_var 3) de_int) dg_name)
      (ds_seq (ds_for (di_seq (de_frz (dl_lst (da_cons (de_op de_int (dc_W (da_cons de_int da_nil) (an_cons an_nil))) (da_cons (de_op de_int (dc_W (da_cons de_int da_nil) (an_cons an_nil))) da_nil))))) (dg_name (i := 5)) (ds_if (dt_test (de_op (de_op (de_var 4) (de_var 5)) (de_var 1))) (ds_par (de_op (de_var 3) (de_frz (dl_lst (da_cons (de_var 5) da_nil)))) (de_op (de_var 4) (de_var 5))) ds_nx))
      (ds_seq (ds_if (dt_test (de_op (de_var 2) de_int)) (ds_ret (dc_W (da_cons (de_op de_int (dc_W (da_cons (de_op (de_callN (da_cons de_int (da_cons (de_var 1) da_nil))) de_int) da_nil) (an_cons an_nil))) da_nil) (an_cons an_nil))) ds_nx)
      (ds_seq (ds_par (dc_W (da_cons (de_op (de_var 3) de_int) da_nil) (an_cons an_nil)) (de_op (de_var 3) de_int))
      (ds_seq (ds_for (di_seq (de_sl (de_var 3) (do_some de_int) do_none)) (dg_name (i := 4)) (ds_seq (ds_asg (de_op (de_callN (da_cons (de_var 6) da_nil)) de_int) dg_name)
      (ds_asg (dc_D (da_cons (de_var 6) (da_cons (dc_W (da_cons (de_var 4) da_nil) (an_cons an_nil)) da_nil)) (an_cons (an_cons an_nil))) dg_name)))
      (ds_seq (ds_if (dt_test (de_op (de_var 2) (de_tup (da_cons de_int (da_cons de_int da_nil))))) (ds_ret (dc_W (da_cons (de_var 6) da_nil) (an_cons an_nil))) ds_nx)
      (ds_ret (de_if (dt_and (dt_test (de_op (de_var 2) (de_tup (da_cons de_int (da_cons de_int (da_cons de_int da_nil)))))) (dt_test (de_op (de_var 7) (de_op (de_callN (da_cons (de_var 6) da_nil)) de_int)))) (dc_W (da_cons (de_var 6) (da_cons (de_var 7) da_nil)) (an_cons (an_cons an_nil))) (de_var 6))))))))))⟩
def spLawT (K : PySem.W.Frag) (Pt : Addr) : Sp := fun vs H Q _ => ∃ (a : Addr) (ns : List Int), vs = [.ref a] ∧ H Pt = some (.tbl #[]) ∧ SqL K H a (ns.map V.int) ∧ ns.length ≤ 63 ∧ ∀ v H', v = .bl true → Q v H'
theorem ok_law (LT : ∀ ns : List Int, ns.length ≤ 63 → ∃ ω', runS B_law tau0 (srcOf ns) = .ok (.bl true) ω') (T : Defs K mg) (TB : LamX.TabB base mg T.cT T.pT) : GOk P w K mg base 147 T.d_law.f T.d_law.fd ["_law_script"] (spLawT K T.pT) := by
  have G_law_source := ok_law_source (P := P) (w := w) (base := base) (im := (fun _ => false)) T
  have G_law_some_table := ok_law_some_table (P := P) (w := w) (base := base) (im := (fun _ => false)) T
  have G_law_behind := ok_law_behind (P := P) (w := w) (base := base) (im := (fun _ => false)) T
  have G_judge_counter := ok_judge_counter (P := P) (w := w) (base := base) (im := (fun _ => false)) T
  have G_law_pick := ok_law_pick (P := P) (w := w) (base := base) (im := (fun _ => false)) T
  have G_behind := ok_behind (P := P) (w := w) (base := base) (im := (fun _ => false)) T
  have G_law_counters := ok_law_counters (P := P) (w := w) (base := base) (im := (fun _ => false)) T
  have GX_behind := okX_behind (P := P) (w := w) (base := base) (im := (fun _ => false)) T
  have ScL_law_told : FnScope ["_law_call", "e"] ["_law_call"] (defScope s_law_told) := ⟨rfl, rfl, rfl, by decide +kernel, rfl, by decide +kernel, by decide +kernel⟩
  have Sc : FnScope ["_law_script", "_law_source_here", "_law_most", "_law_table_here", "_law_kept", "_law_some", "_law_b", "_law_due", "_law_told_here", "_law_one"] ["_law_script"] (defScope s_law) := ⟨rfl, rfl, rfl, by decide +kernel, rfl, by decide +kernel, by decide +kernel⟩
  refine GOk.ofBodyC T.d_law.F Sc (fun vs H Q E h => ?_) (fun cdv A outer s H vs Q E ec gu hr h => ?_)
  · obtain ⟨a, ns, rfl, _⟩ := h
    rfl
  obtain ⟨a, ns, rfl, hT, hS, hlen, k⟩ := h
  have ec2 : cdv = .ref T.cT := ec.symm.trans T.hcT
  subst ec2
  have hu := room_hu hr
  obtain ⟨tB, pB, dB⟩ : ∃ t, PSs (cxOf CX0 P w K mg base ["_law_script", "_law_source_here", "_law_most", "_law_table_here", "_law_kept", "_law_some", "_law_b", "_law_due", "_law_told_here", "_law_one"] "law" (defScope s_law) T.d_law.f (.ref T.cT) A outer s H E).nox (defBody s_law).tail t ∧ ∀ p : Addr × Addr, DS (srcT (fun _ => false) T.pT "law.<locals>.<lambda>" p) K (fun _ _ _ _ => False) t B_law := ⟨_, (pss_cons (ps_for PassesOwn.never rfl (pi_seq (pe_slice sl_D (pe_frz (pe_lst (pa_cons pe_int (pa_cons pe_int (pa_cons pe_int (pa_cons pe_int pa_nil)))))) po_none (po_some (pe_op op_addD pe_int (pe_callTy call_intDD (by rfl) T.n_int (by decide +kernel) (pa_cons (pe_cmpR (op_eqDD hu) (pe_call G_law_pick (hr.mono (by first | decide | omega)) rfl T.d_law_pick.g T.d_law_pick.F.kp T.d_law_pick.b .nil pass0 (pa_cons (pv 1) (pa_cons pe_int pa_nil))) pe_int (nomark _)) pa_nil)))))) (pg_name (i := 2) Sc.nd rfl (by first | exact Or.inl rfl | exact Or.inr rfl)) (pss_cons (ps_set (i := 3) Sc.nd rfl (by first | exact Or.inl rfl | exact Or.inr rfl) (pe_call G_law_some_table (hr.mono (by first | decide | omega)) rfl T.d_law_some_table.g T.d_law_some_table.F.kp T.d_law_some_table.b .nil pass0 (pa_cons (pv 1) (pa_cons (pv 2) pa_nil))))
      (pss_cons (ps_par (i := 4) (j := 5) rfl Sc.nd rfl rfl (by decide) rfl rfl (pa_cons (pe_callB (call_reprZZ hu gu) (by rfl) T.n_repr (by decide +kernel) (pa_cons (pv 3) pa_nil)) (pa_cons (pe_frz (pe_listRg rfl rfl T.n_list (prg_2 rfl T.n_range pe_int (pe_op op_addD (pe_callB call_lenDD (by rfl) T.n_len (by decide +kernel) (pa_cons (pv 3) pa_nil)) pe_int)))) pa_nil)) (by rfl))
      (pss_cons (ps_for PassesOwn.never rfl (pi_seq (pe_ifExp (pt_cmpR op_ltD (pv 2) pe_int (nomark _)) (pv 5) (pe_frz (pe_lc (own := [("_law_b", 6)]) rfl Sc.nd (pi_seq (pv 5)) (blkOk_by (own := [("_law_b", 6)]) (N := ["_law_script", "_law_source_here", "_law_most", "_law_table_here", "_law_kept", "_law_some", "_law_b", "_law_due", "_law_told_here", "_law_one"]) (sc := defScope s_law) (by decide +kernel)) (fun _ _ _ _ _ => (pg_name (i := 6) Sc.nd rfl (by first | exact Or.inl rfl | exact Or.inr rfl))) (fun _ _ _ _ _ => (pts_one (pt_cmpR (op_eqDD hu) (pe_op op_modD (pe_callTy call_intDD (by rfl) T.n_int (by decide +kernel) (pa_cons (pe_op op_addD (pe_callB call_lenDD (by rfl) T.n_len (by decide +kernel) (pa_cons (pv 3) pa_nil)) pe_int) pa_nil)) (pv 6)) pe_int (nomark _)))) (fun _ _ _ _ _ => (pv 6)))))) (pg_name (i := 6) Sc.nd rfl (by first | exact Or.inl rfl | exact Or.inr rfl)) (pss_cons (ps_par (i := 7) (j := 8) rfl Sc.nd rfl rfl (by decide) rfl rfl (pa_cons (pe_call G_law_behind (hr.mono (by first | decide | omega)) rfl T.d_law_behind.g T.d_law_behind.F.kp T.d_law_behind.b .nil pass0 (pa_cons (pv 3) (pa_cons (pv 6) pa_nil))) (pa_cons (pe_lamF (k := 144) (Γ := srcT (fun _ => false) T.pT "law.<locals>.<lambda>") (W := fun _ _ _ _ => False) (cA := T.cX) (fun _ => srcT_has) rfl rfl T.d_law_told.g T.d_law_told.F T.d_law_told.b ScL_law_told rfl (.inl rfl) TB rfl (show (("law" : Str) ++ ".<locals>." ++ "<lambda>" = ("law.<locals>.<lambda>" : Str)) from by decide +kernel) (hr.mono (by first | decide | omega)) (LamX.lamS_by (show LamX.lamSB (defScope s_law) _ = true from by decide +kernel)) rfl (fun _ _ _ _ => rfl) (fun A outer s H E f c' hr => have hu := room_hu hr; ⟨_, (L2.pe_callS GX_behind (hr.mono (by first | decide | omega)) rfl T.d_behind.g T.d_behind.F.kp T.d_behind.b (fun σ => L2.passAt (takes_of rfl rfl rfl rfl) σ) (pa_cons (pv 3) (pa_cons (pv 6) pa_nil))), fun p => (dc_DXF (W := fun c d _ H => E c d H) (da_cons (de_var 3) (da_cons (de_var 6) da_nil)) (an_cons (an_cons an_nil)))⟩) (fun cdv s H tact hact => ⟨_, (pss_one (ps_try_as (i := 1) rfl rfl ScL_law_told.nd rfl rfl ⟨rfl, by decide, .inl T.gX⟩ L2.takes0 (fun W pn xe tk _ => (pss_one (ps_ret (pe_tup (pa_cons pe_str (pa_cons (hact _ _ _ _ _ tk) pa_nil)))))) (fun a oe cls d pn hz hf => (pss_one (ps_ret (pe_ifExp (PW.pt (pw_and (pt_val (pe_callB (call_isED T.xE hz hf) (by rfl) T.n_isinstance (by decide +kernel) (pa_cons (pv 1) (pa_cons (pe_glob rfl T.gL (show RelV (.ref T.cL) (.ref T.cL) from rfl)) pa_nil)))) (pw_and1 (pt_val (pe_callB (call_isED T.xE hz hf) (by rfl) T.n_isinstance (by decide +kernel) (pa_cons (pv 1) (pa_cons (pe_bltn rfl T.n_ValueError (by rfl) (show RelV (.ty "ValueError") (.type "ValueError") from rfl)) pa_nil))))))) (pe_tup (pa_cons pe_str (pa_cons (pe_xf T.xF T.xN hz hf (pv 1)) pa_nil))) pe_str)))))), fun G' r hd => (ds_tryAs (nm := "counter") (fun W => (ds_ret (de_tup (da_cons de_str (da_cons (hd W) da_nil))))) (fun xa xd xv x0 => (ds_ret (de_if (dt_and (dt_B (de_isE (fun _ h => h) T.kL)) (dt_B (de_isE (fun _ h => h) T.kV))) (de_tup (da_cons de_str (da_cons de_xf da_nil))) de_str))) T.mX)⟩)) pa_nil)) (by rfl))
      (pss_cons (ps_if (PW.pt (pw_or (pt_cmpR (op_neDD hu) (pe_ix ix_D (pv 8) pe_int (fun _ _ => rfl)) (pe_ifExp (pt_cmpR op_notND (pv 7) pe_non (nomark _)) pe_str pe_str) (nomark _)) (pw_or1 (PW.pt (pw_and (pt_cmpR op_notND (pv 7) pe_non (nomark _)) (pw_and1 (pt_cmpR (op_neDD hu) (pe_callB (call_reprZZ hu gu) (by rfl) T.n_repr (by decide +kernel) (pa_cons (pe_ix ix_D (pv 8) pe_int (fun _ _ => rfl)) pa_nil)) (pe_callB (call_reprZZ hu gu) (by rfl) T.n_repr (by decide +kernel) (pa_cons (pv 7) pa_nil)) (nomark _)))))))) (pss_one (ps_ret pe_bl)) pss_nil)
      (pss_cons (ps_if (PW.pt (pw_and (pt_cmpR op_isND (pv 7) pe_non (nomark _)) (pw_and1 (pt_cmpR (op_ninDD hu) (pe_callB (call_reprZZ hu gu) (by rfl) T.n_repr (by decide +kernel) (pa_cons (pe_ix ix_D (pv 8) pe_int (fun _ _ => rfl)) pa_nil)) (pe_frz (pe_lc (own := [("_law_one", 9)]) rfl Sc.nd (pi_seq (pe_call G_law_counters (hr.mono (by first | decide | omega)) rfl T.d_law_counters.g T.d_law_counters.F.kp T.d_law_counters.b .nil pass0 (pa_cons (pv 3) (pa_cons (pv 6) pa_nil)))) (blkOk_by (own := [("_law_one", 9)]) (N := ["_law_script", "_law_source_here", "_law_most", "_law_table_here", "_law_kept", "_law_some", "_law_b", "_law_due", "_law_told_here", "_law_one"]) (sc := defScope s_law) (by decide +kernel)) (fun _ _ _ _ _ => (pg_name (i := 9) Sc.nd rfl (by first | exact Or.inl rfl | exact Or.inr rfl))) (fun _ _ _ _ _ => pts_nil) (fun _ _ _ _ _ => (pe_callB (call_reprZZ hu gu) (by rfl) T.n_repr (by decide +kernel) (pa_cons (pv 9) pa_nil))))) (by rfl))))) (pss_one (ps_ret pe_bl)) pss_nil)
      (pss_one (ps_if (PW.pt (pw_and (pt_cmpR op_isND (pv 7) pe_non (nomark _)) (pw_and1 (pt_cmpR op_notND (pe_call G_judge_counter (hr.mono (by first | decide | omega)) rfl T.d_judge_counter.g T.d_judge_counter.F.kp T.d_judge_counter.b .nil pass0 (pa_cons (pv 3) (pa_cons (pv 6) (pa_cons (pe_ix ix_D (pv 8) pe_int (fun _ _ => rfl)) pa_nil)))) pe_bl (nomark _))))) (pss_one (ps_ret pe_bl)) pss_nil))))))
      (pss_one (ps_if (pt_cmpR (op_neDD hu) (pe_callB (call_reprZZ hu gu) (by rfl) T.n_repr (by decide +kernel) (pa_cons (pv 3) pa_nil)) (pv 4) (nomark _)) (pss_one (ps_ret pe_bl)) pss_nil))))))
      (pss_one (ps_ret pe_bl))), fun p => (ds_seq (ds_for (di_seq (de_sl (de_frz (dl_lst (da_cons de_int (da_cons de_int (da_cons de_int (da_cons de_int da_nil)))))) do_none (do_some (de_op de_int (de_callN (da_cons (de_op (dc_WS (Γ := srcG (fun _ => false)) (p := p) sub_srcT (da_cons de_int da_nil) (an_cons an_nil)) de_int) da_nil)))))) (dg_name (i := 2)) (ds_seq (ds_asg (dc_WS (Γ := srcG (fun _ => false)) (p := p) sub_srcT (da_cons (de_var 2) da_nil) (an_cons an_nil)) dg_name)
      (ds_seq (ds_par (de_callN (da_cons (de_var 3) da_nil)) (de_frz (dl_lrg (drg_2 de_int (de_op (de_callN (da_cons (de_var 3) da_nil)) de_int)))))
      (ds_seq (ds_for (di_seq (de_if (dt_test (de_op (de_var 2) de_int)) (de_var 5) (de_frz (dl_lc (W' := fun _ _ _ _ => False) (vs := [6]) (di_seq (de_var 5)) (dg_name (i := 6)) (dt_test (de_op (de_op (de_callN (da_cons (de_op (de_callN (da_cons (de_var 3) da_nil)) de_int) da_nil)) (de_var 6)) de_int)) (de_var 6) (fun _ h => h))))) (dg_name (i := 6)) (ds_seq (ds_par (dc_D (da_cons (de_var 3) (da_cons (de_var 6) da_nil)) (an_cons (an_cons an_nil))) (de_sem (Γ := srcT (fun _ => false) T.pT "law.<locals>.<lambda>") (p := p)))
      (ds_seq (ds_if (dt_or (dt_test (de_op (de_op (de_var 8) de_int) (de_if (dt_test (de_op (de_var 7) de_non)) de_str de_str))) (dt_and (dt_test (de_op (de_var 7) de_non)) (dt_test (de_op (de_callN (da_cons (de_op (de_var 8) de_int) da_nil)) (de_callN (da_cons (de_var 7) da_nil)))))) (ds_ret de_bl) ds_nx)
      (ds_seq (ds_if (dt_and (dt_test (de_op (de_var 7) de_non)) (dt_test (de_op (de_callN (da_cons (de_op (de_var 8) de_int) da_nil)) (de_frz (dl_lc (W' := fun _ _ _ _ => False) (vs := [9]) (di_seq (dc_D (da_cons (de_var 3) (da_cons (de_var 6) da_nil)) (an_cons (an_cons an_nil)))) (dg_name (i := 9)) dt_yes (de_callN (da_cons (de_var 9) da_nil)) (fun _ h => h)))))) (ds_ret de_bl) ds_nx)
      (ds_if (dt_and (dt_test (de_op (de_var 7) de_non)) (dt_test (de_op (dc_D (da_cons (de_var 3) (da_cons (de_var 6) (da_cons (de_op (de_var 8) de_int) da_nil))) (an_cons (an_cons (an_cons an_nil)))) de_bl))) (ds_ret de_bl) ds_nx)))))
      (ds_if (dt_test (de_op (de_callN (da_cons (de_var 3) da_nil)) (de_var 4))) (ds_ret de_bl) ds_nx)))))
      (ds_ret de_bl))⟩
  refine ⟨_, pss_cons (ps_set (i := 1) Sc.nd rfl (by first | exact Or.inl rfl | exact Or.inr rfl) (pe_call G_law_source (hr.mono (by first | decide | omega)) rfl T.d_law_source.g T.d_law_source.F.kp T.d_law_source.b .nil pass0 (pa_cons (pv 0) pa_nil))) pB, ?_⟩
  refine ⟨_, rfl, a, ns, rfl, hS, by omega, fun p H' sm h1 h2 at' => ?_⟩
  obtain ⟨ω', hF⟩ := LT ns hlen
  clear LT
  generalize B_law = Bl at dB hF
  have tab2 : LamX.TabS H' T.pT "law.<locals>.<lambda>" := LamX.TabS.nil (sm _ _ hT)
  have at2 : (srcT (fun _ => false) T.pT "law.<locals>.<lambda>" p).At (srcOf ns) H' := And.intro at' tab2
  have D0 := dB p
  refine D0 H' _ H' (srcOf ns) tau0 ⟨rfl, fun i v c e1 e2 => ?_, fun i j l _ _ xs ys _ _ e2 _ _ => ?_, .refl⟩ at2 _ ?_
  · by_cases hi : i = 1
    · subst hi
      cases e1; cases e2
      exact .src
    · have e3 : c = none := by
        unfold tau0 at e2
        rw [List.getElem?_set_ne (Ne.symm hi), List.getElem?_replicate] at e2
        split at e2 <;> cases e2
        rfl
      subst e3
      exact .un
  · by_cases hi : i = 1
    · subst hi
      cases e2
    · unfold tau0 at e2
      rw [List.getElem?_set_ne (Ne.symm hi), List.getElem?_replicate] at e2
      split at e2 <;> cases e2
  · exact ks_law hF (fun v H2 e => k _ _ e)
end
theorem all_mk {l : PySem.W.OpenLaw} {w : World} {K : PySem.W.Frag} {h : Heap} {mg : Str → Option Value} {fa : Addr} (LT : ∀ ns : List Int, ns.length ≤ 63 → ∃ ω', runS B_law tau0 (srcOf ns) = .ok (.bl true) ω') (X : K.In h) (G : h.Ns mainGlobals mg) (hfa : mg "law" = some (.ref fa))
    {Cq CLq : Addr} (yyA : PySem.W.nsIn K mainGlobals "LumpError" = some (some (.ref CLq))) (xxA : PySem.W.nsIn K mainGlobals "NoCut" = some (some (.ref Cq)))
    {nmx qx : Str} {Nx : Addr} {bsx : List Value} {snx : List Str} {subx : List Value} {abx : Bool} {colx : Option Bool} {ddx : Option Addr} {m0 m1 m2 m3 m5 : Option Value}
    (xxL : K.lookup Cq = some (excClassObj nmx qx Cq Nx bsx [.ref CLq, .type "ValueError", .type "Exception", .type "BaseException", .type "object"] true snx subx abx colx ddx m0 m1 m2 m3 m5 "ValueError.__new__"))
    (xxa : PySem.W.findIn K (.ref Cq) "__setattr__" = some (some (.builtin "object.__setattr__"))) (xxB : PySem.W.subIn K (.ref Cq) (.type "BaseException") = some true) (xxT : PySem.W.typeIn K (.ref Cq) = some (.type "type")) (xxK : PySem.W.keepIn K (.ref Cq) = true) (xxI : PySem.W.isClsIn K Cq = true) (xxS : PySem.W.subIn K (.ref Cq) (.ref Cq) = some true)
    (xxg : PySem.W.findIn K (.ref Cq) "__getattribute__" = some (some (.builtin "BaseException.__getattribute__"))) (xxh : PySem.W.findIn K (.ref Cq) "__getattr__" = some none) (xxd : PySem.W.hasDictIn K Cq = true) (xxc : PySem.W.findIn K (.ref Cq) "__class__" = some (some (.builtin "object.__class__"))) (xxn : PySem.W.specialIn K (.builtin "object.__class__") "__get__" = some (some (.builtin "getset_descriptor.__get__"))) (xxt : PySem.W.takesIn K (.builtin "object.__class__") = some true) (xxm : PySem.W.mroIn K Cq (.type "object") = some true)
    (xxf : PySem.W.findIn K (.ref Cq) "counter" = some none) (yyI : PySem.W.isClsIn K CLq = true) (yyT : PySem.W.typeIn K (.ref CLq) = some (.type "type")) (yyS : PySem.W.subIn K (.ref Cq) (.ref CLq) = some true) (yyV : PySem.W.subIn K (.ref Cq) (.type "ValueError") = some true)
    {fx : Addr} {odx anx : Option Addr} {slx : Array (Option Value)} {ocx kVx dcx pmx cdx ctx : Value} (zzA : PySem.W.findIn K (.ref Cq) "__init__" = some (some (.ref fx))) (zzT : PySem.W.typeIn K (.ref fx) = some (.type "function")) (zzL : K.lookup fx = some ⟨ocx, odx, .func (PySem.W.fnOf "__init__" "NoCut.__init__" (defArgs s_XI) (defBody s_XI) (defScope s_XI) .none kVx dcx pmx anx cdx ctx), slx⟩) (zzC : PySem.W.codeIn K cdx "NoCut.__init__" = true) (zzK : PySem.W.keepIn K (.ref fx) = true)
    {f0 : Addr} {od0 an0 : Option Addr} {sl0 : Array (Option Value)} {oc0 kV0 dc0 pm0 cd0 ct0 : Value}
    (a0 : PySem.W.nsIn K mainGlobals "is_integer" = some (some (.ref f0))) (l0 : K.lookup f0 = some ⟨oc0, od0, .func (PySem.W.fnOf "is_integer" "is_integer" (defArgs s_is_integer) (defBody s_is_integer) (defScope s_is_integer) .none kV0 dc0 pm0 an0 cd0 ct0), sl0⟩) (c0 : PySem.W.codeIn K cd0 "is_integer" = true) (k0 : PySem.W.keepIn K (.ref f0) = true)
    {f1 : Addr} {od1 an1 : Option Addr} {sl1 : Array (Option Value)} {oc1 kV1 dc1 pm1 cd1 ct1 : Value}
    (a1 : PySem.W.nsIn K mainGlobals "is_number" = some (some (.ref f1))) (l1 : K.lookup f1 = some ⟨oc1, od1, .func (PySem.W.fnOf "is_number" "is_number" (defArgs s_is_number) (defBody s_is_number) (defScope s_is_number) .none kV1 dc1 pm1 an1 cd1 ct1), sl1⟩) (c1 : PySem.W.codeIn K cd1 "is_number" = true) (k1 : PySem.W.keepIn K (.ref f1) = true)
    {f2 : Addr} {od2 an2 : Option Addr} {sl2 : Array (Option Value)} {oc2 kV2 dc2 pm2 cd2 ct2 : Value}
    (a2 : PySem.W.nsIn K mainGlobals "table_size" = some (some (.ref f2))) (l2 : K.lookup f2 = some ⟨oc2, od2, .func (PySem.W.fnOf "table_size" "table_size" (defArgs s_table_size) (defBody s_table_size) (defScope s_table_size) .none kV2 dc2 pm2 an2 cd2 ct2), sl2⟩) (c2 : PySem.W.codeIn K cd2 "table_size" = true) (k2 : PySem.W.keepIn K (.ref f2) = true)
    {f3 : Addr} {od3 an3 : Option Addr} {sl3 : Array (Option Value)} {oc3 kV3 dc3 pm3 cd3 ct3 : Value}
    (a3 : PySem.W.nsIn K mainGlobals "entry" = some (some (.ref f3))) (l3 : K.lookup f3 = some ⟨oc3, od3, .func (PySem.W.fnOf "entry" "entry" (defArgs s_entry) (defBody s_entry) (defScope s_entry) .none kV3 dc3 pm3 an3 cd3 ct3), sl3⟩) (c3 : PySem.W.codeIn K cd3 "entry" = true) (k3 : PySem.W.keepIn K (.ref f3) = true)
    {f4 : Addr} {od4 an4 : Option Addr} {sl4 : Array (Option Value)} {oc4 kV4 dc4 pm4 cd4 ct4 : Value}
    (a4 : PySem.W.nsIn K mainGlobals "stretches" = some (some (.ref f4))) (l4 : K.lookup f4 = some ⟨oc4, od4, .func (PySem.W.fnOf "stretches" "stretches" (defArgs s_stretches) (defBody s_stretches) (defScope s_stretches) .none kV4 dc4 pm4 an4 cd4 ct4), sl4⟩) (c4 : PySem.W.codeIn K cd4 "stretches" = true) (k4 : PySem.W.keepIn K (.ref f4) = true)
    {f5 : Addr} {od5 an5 : Option Addr} {sl5 : Array (Option Value)} {oc5 kV5 dc5 pm5 cd5 ct5 : Value}
    (a5 : PySem.W.nsIn K mainGlobals "_note_parts" = some (some (.ref f5))) (l5 : K.lookup f5 = some ⟨oc5, od5, .func (PySem.W.fnOf "_note_parts" "_note_parts" (defArgs s_note_parts) (defBody s_note_parts) (defScope s_note_parts) .none kV5 dc5 pm5 an5 cd5 ct5), sl5⟩) (c5 : PySem.W.codeIn K cd5 "_note_parts" = true) (k5 : PySem.W.keepIn K (.ref f5) = true)
    {f6 : Addr} {od6 an6 : Option Addr} {sl6 : Array (Option Value)} {oc6 kV6 dc6 pm6 cd6 ct6 : Value}
    (a6 : PySem.W.nsIn K mainGlobals "lump_parts" = some (some (.ref f6))) (l6 : K.lookup f6 = some ⟨oc6, od6, .func (PySem.W.fnOf "lump_parts" "lump_parts" (defArgs s_lump_parts) (defBody s_lump_parts) (defScope s_lump_parts) .none kV6 dc6 pm6 an6 cd6 ct6), sl6⟩) (c6 : PySem.W.codeIn K cd6 "lump_parts" = true) (k6 : PySem.W.keepIn K (.ref f6) = true)
    {f7 : Addr} {od7 an7 : Option Addr} {sl7 : Array (Option Value)} {oc7 kV7 dc7 pm7 cd7 ct7 : Value}
    (a7 : PySem.W.nsIn K mainGlobals "_stretch_faults" = some (some (.ref f7))) (l7 : K.lookup f7 = some ⟨oc7, od7, .func (PySem.W.fnOf "_stretch_faults" "_stretch_faults" (defArgs s_stretch_faults) (defBody s_stretch_faults) (defScope s_stretch_faults) .none kV7 dc7 pm7 an7 cd7 ct7), sl7⟩) (c7 : PySem.W.codeIn K cd7 "_stretch_faults" = true) (k7 : PySem.W.keepIn K (.ref f7) = true)
    {f8 : Addr} {od8 an8 : Option Addr} {sl8 : Array (Option Value)} {oc8 kV8 dc8 pm8 cd8 ct8 : Value}
    (a8 : PySem.W.nsIn K mainGlobals "_above_from" = some (some (.ref f8))) (l8 : K.lookup f8 = some ⟨oc8, od8, .func (PySem.W.fnOf "_above_from" "_above_from" (defArgs s_above_from) (defBody s_above_from) (defScope s_above_from) .none kV8 dc8 pm8 an8 cd8 ct8), sl8⟩) (c8 : PySem.W.codeIn K cd8 "_above_from" = true) (k8 : PySem.W.keepIn K (.ref f8) = true)
    {f9 : Addr} {od9 an9 : Option Addr} {sl9 : Array (Option Value)} {oc9 kV9 dc9 pm9 cd9 ct9 : Value}
    (a9 : PySem.W.nsIn K mainGlobals "above" = some (some (.ref f9))) (l9 : K.lookup f9 = some ⟨oc9, od9, .func (PySem.W.fnOf "above" "above" (defArgs s_above) (defBody s_above) (defScope s_above) .none kV9 dc9 pm9 an9 cd9 ct9), sl9⟩) (c9 : PySem.W.codeIn K cd9 "above" = true) (k9 : PySem.W.keepIn K (.ref f9) = true)
    {f10 : Addr} {od10 an10 : Option Addr} {sl10 : Array (Option Value)} {oc10 kV10 dc10 pm10 cd10 ct10 : Value}
    (a10 : PySem.W.nsIn K mainGlobals "_first_stretch_counter" = some (some (.ref f10))) (l10 : K.lookup f10 = some ⟨oc10, od10, .func (PySem.W.fnOf "_first_stretch_counter" "_first_stretch_counter" (defArgs s_first_stretch_counter) (defBody s_first_stretch_counter) (defScope s_first_stretch_counter) .none kV10 dc10 pm10 an10 cd10 ct10), sl10⟩) (c10 : PySem.W.codeIn K cd10 "_first_stretch_counter" = true) (k10 : PySem.W.keepIn K (.ref f10) = true)
    {f11 : Addr} {od11 an11 : Option Addr} {sl11 : Array (Option Value)} {oc11 kV11 dc11 pm11 cd11 ct11 : Value}
    (a11 : PySem.W.nsIn K mainGlobals "_first_above_counter" = some (some (.ref f11))) (l11 : K.lookup f11 = some ⟨oc11, od11, .func (PySem.W.fnOf "_first_above_counter" "_first_above_counter" (defArgs s_first_above_counter) (defBody s_first_above_counter) (defScope s_first_above_counter) .none kV11 dc11 pm11 an11 cd11 ct11), sl11⟩) (c11 : PySem.W.codeIn K cd11 "_first_above_counter" = true) (k11 : PySem.W.keepIn K (.ref f11) = true)
    {f12 : Addr} {od12 an12 : Option Addr} {sl12 : Array (Option Value)} {oc12 kV12 dc12 pm12 cd12 ct12 : Value}
    (a12 : PySem.W.nsIn K mainGlobals "entries_counter" = some (some (.ref f12))) (l12 : K.lookup f12 = some ⟨oc12, od12, .func (PySem.W.fnOf "entries_counter" "entries_counter" (defArgs s_entries_counter) (defBody s_entries_counter) (defScope s_entries_counter) .none kV12 dc12 pm12 an12 cd12 ct12), sl12⟩) (c12 : PySem.W.codeIn K cd12 "entries_counter" = true) (k12 : PySem.W.keepIn K (.ref f12) = true)
    {f13 : Addr} {od13 an13 : Option Addr} {sl13 : Array (Option Value)} {oc13 kV13 dc13 pm13 cd13 ct13 : Value}
    (a13 : PySem.W.nsIn K mainGlobals "counter" = some (some (.ref f13))) (l13 : K.lookup f13 = some ⟨oc13, od13, .func (PySem.W.fnOf "counter" "counter" (defArgs s_counter) (defBody s_counter) (defScope s_counter) .none kV13 dc13 pm13 an13 cd13 ct13), sl13⟩) (c13 : PySem.W.codeIn K cd13 "counter" = true) (k13 : PySem.W.keepIn K (.ref f13) = true)
    {f14 : Addr} {od14 an14 : Option Addr} {sl14 : Array (Option Value)} {oc14 kV14 dc14 pm14 cd14 ct14 : Value}
    (a14 : PySem.W.nsIn K mainGlobals "table_above" = some (some (.ref f14))) (l14 : K.lookup f14 = some ⟨oc14, od14, .func (PySem.W.fnOf "table_above" "table_above" (defArgs s_table_above) (defBody s_table_above) (defScope s_table_above) .none kV14 dc14 pm14 an14 cd14 ct14), sl14⟩) (c14 : PySem.W.codeIn K cd14 "table_above" = true) (k14 : PySem.W.keepIn K (.ref f14) = true)
    {f15 : Addr} {od15 an15 : Option Addr} {sl15 : Array (Option Value)} {oc15 kV15 dc15 pm15 cd15 ct15 : Value}
    (a15 : PySem.W.nsIn K mainGlobals "behind" = some (some (.ref f15))) (l15 : K.lookup f15 = some ⟨oc15, od15, .func (PySem.W.fnOf "behind" "behind" (defArgs s_behind) (defBody s_behind) (defScope s_behind) .none kV15 dc15 pm15 an15 cd15 ct15), sl15⟩) (c15 : PySem.W.codeIn K cd15 "behind" = true) (k15 : PySem.W.keepIn K (.ref f15) = true)
    {f16 : Addr} {od16 an16 : Option Addr} {sl16 : Array (Option Value)} {oc16 kV16 dc16 pm16 cd16 ct16 : Value}
    (a16 : PySem.W.nsIn K mainGlobals "_is_stretch_counter" = some (some (.ref f16))) (l16 : K.lookup f16 = some ⟨oc16, od16, .func (PySem.W.fnOf "_is_stretch_counter" "_is_stretch_counter" (defArgs s_is_stretch_counter) (defBody s_is_stretch_counter) (defScope s_is_stretch_counter) .none kV16 dc16 pm16 an16 cd16 ct16), sl16⟩) (c16 : PySem.W.codeIn K cd16 "_is_stretch_counter" = true) (k16 : PySem.W.keepIn K (.ref f16) = true)
    {f17 : Addr} {od17 an17 : Option Addr} {sl17 : Array (Option Value)} {oc17 kV17 dc17 pm17 cd17 ct17 : Value}
    (a17 : PySem.W.nsIn K mainGlobals "_is_above_counter" = some (some (.ref f17))) (l17 : K.lookup f17 = some ⟨oc17, od17, .func (PySem.W.fnOf "_is_above_counter" "_is_above_counter" (defArgs s_is_above_counter) (defBody s_is_above_counter) (defScope s_is_above_counter) .none kV17 dc17 pm17 an17 cd17 ct17), sl17⟩) (c17 : PySem.W.codeIn K cd17 "_is_above_counter" = true) (k17 : PySem.W.keepIn K (.ref f17) = true)
    {f18 : Addr} {od18 an18 : Option Addr} {sl18 : Array (Option Value)} {oc18 kV18 dc18 pm18 cd18 ct18 : Value}
    (a18 : PySem.W.nsIn K mainGlobals "judge_entries_counter" = some (some (.ref f18))) (l18 : K.lookup f18 = some ⟨oc18, od18, .func (PySem.W.fnOf "judge_entries_counter" "judge_entries_counter" (defArgs s_judge_entries_counter) (defBody s_judge_entries_counter) (defScope s_judge_entries_counter) .none kV18 dc18 pm18 an18 cd18 ct18), sl18⟩) (c18 : PySem.W.codeIn K cd18 "judge_entries_counter" = true) (k18 : PySem.W.keepIn K (.ref f18) = true)
    {f19 : Addr} {od19 an19 : Option Addr} {sl19 : Array (Option Value)} {oc19 kV19 dc19 pm19 cd19 ct19 : Value}
    (a19 : PySem.W.nsIn K mainGlobals "judge_counter" = some (some (.ref f19))) (l19 : K.lookup f19 = some ⟨oc19, od19, .func (PySem.W.fnOf "judge_counter" "judge_counter" (defArgs s_judge_counter) (defBody s_judge_counter) (defScope s_judge_counter) .none kV19 dc19 pm19 an19 cd19 ct19), sl19⟩) (c19 : PySem.W.codeIn K cd19 "judge_counter" = true) (k19 : PySem.W.keepIn K (.ref f19) = true)
    {f20 : Addr} {od20 an20 : Option Addr} {sl20 : Array (Option Value)} {oc20 kV20 dc20 pm20 cd20 ct20 : Value}
    (a20 : PySem.W.nsIn K mainGlobals "_law_source" = some (some (.ref f20))) (l20 : K.lookup f20 = some ⟨oc20, od20, .func (PySem.W.fnOf "_law_source" "_law_source" (defArgs s_law_source) (defBody s_law_source) (defScope s_law_source) .none kV20 dc20 pm20 an20 cd20 ct20), sl20⟩) (c20 : PySem.W.codeIn K cd20 "_law_source" = true) (k20 : PySem.W.keepIn K (.ref f20) = true)
    {f21 : Addr} {od21 an21 : Option Addr} {sl21 : Array (Option Value)} {oc21 kV21 dc21 pm21 cd21 ct21 : Value}
    (a21 : PySem.W.nsIn K mainGlobals "_law_pick" = some (some (.ref f21))) (l21 : K.lookup f21 = some ⟨oc21, od21, .func (PySem.W.fnOf "_law_pick" "_law_pick" (defArgs s_law_pick) (defBody s_law_pick) (defScope s_law_pick) .none kV21 dc21 pm21 an21 cd21 ct21), sl21⟩) (c21 : PySem.W.codeIn K cd21 "_law_pick" = true) (k21 : PySem.W.keepIn K (.ref f21) = true)
    {f22 : Addr} {od22 an22 : Option Addr} {sl22 : Array (Option Value)} {oc22 kV22 dc22 pm22 cd22 ct22 : Value}
    (a22 : PySem.W.nsIn K mainGlobals "_law_of" = some (some (.ref f22))) (l22 : K.lookup f22 = some ⟨oc22, od22, .func (PySem.W.fnOf "_law_of" "_law_of" (defArgs s_law_of) (defBody s_law_of) (defScope s_law_of) .none kV22 dc22 pm22 an22 cd22 ct22), sl22⟩) (c22 : PySem.W.codeIn K cd22 "_law_of" = true) (k22 : PySem.W.keepIn K (.ref f22) = true)
    {f23 : Addr} {od23 an23 : Option Addr} {sl23 : Array (Option Value)} {oc23 kV23 dc23 pm23 cd23 ct23 : Value}
    (a23 : PySem.W.nsIn K mainGlobals "_law_size" = some (some (.ref f23))) (l23 : K.lookup f23 = some ⟨oc23, od23, .func (PySem.W.fnOf "_law_size" "_law_size" (defArgs s_law_size) (defBody s_law_size) (defScope s_law_size) .none kV23 dc23 pm23 an23 cd23 ct23), sl23⟩) (c23 : PySem.W.codeIn K cd23 "_law_size" = true) (k23 : PySem.W.keepIn K (.ref f23) = true)
    {f24 : Addr} {od24 an24 : Option Addr} {sl24 : Array (Option Value)} {oc24 kV24 dc24 pm24 cd24 ct24 : Value}
    (a24 : PySem.W.nsIn K mainGlobals "_law_shape" = some (some (.ref f24))) (l24 : K.lookup f24 = some ⟨oc24, od24, .func (PySem.W.fnOf "_law_shape" "_law_shape" (defArgs s_law_shape) (defBody s_law_shape) (defScope s_law_shape) .none kV24 dc24 pm24 an24 cd24 ct24), sl24⟩) (c24 : PySem.W.codeIn K cd24 "_law_shape" = true) (k24 : PySem.W.keepIn K (.ref f24) = true)
    {f25 : Addr} {od25 an25 : Option Addr} {sl25 : Array (Option Value)} {oc25 kV25 dc25 pm25 cd25 ct25 : Value}
    (a25 : PySem.W.nsIn K mainGlobals "_law_table" = some (some (.ref f25))) (l25 : K.lookup f25 = some ⟨oc25, od25, .func (PySem.W.fnOf "_law_table" "_law_table" (defArgs s_law_table) (defBody s_law_table) (defScope s_law_table) .none kV25 dc25 pm25 an25 cd25 ct25), sl25⟩) (c25 : PySem.W.codeIn K cd25 "_law_table" = true) (k25 : PySem.W.keepIn K (.ref f25) = true)
    {f26 : Addr} {od26 an26 : Option Addr} {sl26 : Array (Option Value)} {oc26 kV26 dc26 pm26 cd26 ct26 : Value}
    (a26 : PySem.W.nsIn K mainGlobals "_law_entry" = some (some (.ref f26))) (l26 : K.lookup f26 = some ⟨oc26, od26, .func (PySem.W.fnOf "_law_entry" "_law_entry" (defArgs s_law_entry) (defBody s_law_entry) (defScope s_law_entry) .none kV26 dc26 pm26 an26 cd26 ct26), sl26⟩) (c26 : PySem.W.codeIn K cd26 "_law_entry" = true) (k26 : PySem.W.keepIn K (.ref f26) = true)
    {f27 : Addr} {od27 an27 : Option Addr} {sl27 : Array (Option Value)} {oc27 kV27 dc27 pm27 cd27 ct27 : Value}
    (a27 : PySem.W.nsIn K mainGlobals "_law_stretches" = some (some (.ref f27))) (l27 : K.lookup f27 = some ⟨oc27, od27, .func (PySem.W.fnOf "_law_stretches" "_law_stretches" (defArgs s_law_stretches) (defBody s_law_stretches) (defScope s_law_stretches) .none kV27 dc27 pm27 an27 cd27 ct27), sl27⟩) (c27 : PySem.W.codeIn K cd27 "_law_stretches" = true) (k27 : PySem.W.keepIn K (.ref f27) = true)
    {f28 : Addr} {od28 an28 : Option Addr} {sl28 : Array (Option Value)} {oc28 kV28 dc28 pm28 cd28 ct28 : Value}
    (a28 : PySem.W.nsIn K mainGlobals "_law_filled" = some (some (.ref f28))) (l28 : K.lookup f28 = some ⟨oc28, od28, .func (PySem.W.fnOf "_law_filled" "_law_filled" (defArgs s_law_filled) (defBody s_law_filled) (defScope s_law_filled) .none kV28 dc28 pm28 an28 cd28 ct28), sl28⟩) (c28 : PySem.W.codeIn K cd28 "_law_filled" = true) (k28 : PySem.W.keepIn K (.ref f28) = true)
    {f29 : Addr} {od29 an29 : Option Addr} {sl29 : Array (Option Value)} {oc29 kV29 dc29 pm29 cd29 ct29 : Value}
    (a29 : PySem.W.nsIn K mainGlobals "_law_glued" = some (some (.ref f29))) (l29 : K.lookup f29 = some ⟨oc29, od29, .func (PySem.W.fnOf "_law_glued" "_law_glued" (defArgs s_law_glued) (defBody s_law_glued) (defScope s_law_glued) .none kV29 dc29 pm29 an29 cd29 ct29), sl29⟩) (c29 : PySem.W.codeIn K cd29 "_law_glued" = true) (k29 : PySem.W.keepIn K (.ref f29) = true)
    {f30 : Addr} {od30 an30 : Option Addr} {sl30 : Array (Option Value)} {oc30 kV30 dc30 pm30 cd30 ct30 : Value}
    (a30 : PySem.W.nsIn K mainGlobals "_law_lumps" = some (some (.ref f30))) (l30 : K.lookup f30 = some ⟨oc30, od30, .func (PySem.W.fnOf "_law_lumps" "_law_lumps" (defArgs s_law_lumps) (defBody s_law_lumps) (defScope s_law_lumps) .none kV30 dc30 pm30 an30 cd30 ct30), sl30⟩) (c30 : PySem.W.codeIn K cd30 "_law_lumps" = true) (k30 : PySem.W.keepIn K (.ref f30) = true)
    {f31 : Addr} {od31 an31 : Option Addr} {sl31 : Array (Option Value)} {oc31 kV31 dc31 pm31 cd31 ct31 : Value}
    (a31 : PySem.W.nsIn K mainGlobals "_law_wrong" = some (some (.ref f31))) (l31 : K.lookup f31 = some ⟨oc31, od31, .func (PySem.W.fnOf "_law_wrong" "_law_wrong" (defArgs s_law_wrong) (defBody s_law_wrong) (defScope s_law_wrong) .none kV31 dc31 pm31 an31 cd31 ct31), sl31⟩) (c31 : PySem.W.codeIn K cd31 "_law_wrong" = true) (k31 : PySem.W.keepIn K (.ref f31) = true)
    {f32 : Addr} {od32 an32 : Option Addr} {sl32 : Array (Option Value)} {oc32 kV32 dc32 pm32 cd32 ct32 : Value}
    (a32 : PySem.W.nsIn K mainGlobals "_law_above" = some (some (.ref f32))) (l32 : K.lookup f32 = some ⟨oc32, od32, .func (PySem.W.fnOf "_law_above" "_law_above" (defArgs s_law_above) (defBody s_law_above) (defScope s_law_above) .none kV32 dc32 pm32 an32 cd32 ct32), sl32⟩) (c32 : PySem.W.codeIn K cd32 "_law_above" = true) (k32 : PySem.W.keepIn K (.ref f32) = true)
    {f33 : Addr} {od33 an33 : Option Addr} {sl33 : Array (Option Value)} {oc33 kV33 dc33 pm33 cd33 ct33 : Value}
    (a33 : PySem.W.nsIn K mainGlobals "_law_counters" = some (some (.ref f33))) (l33 : K.lookup f33 = some ⟨oc33, od33, .func (PySem.W.fnOf "_law_counters" "_law_counters" (defArgs s_law_counters) (defBody s_law_counters) (defScope s_law_counters) .none kV33 dc33 pm33 an33 cd33 ct33), sl33⟩) (c33 : PySem.W.codeIn K cd33 "_law_counters" = true) (k33 : PySem.W.keepIn K (.ref f33) = true)
    {f34 : Addr} {od34 an34 : Option Addr} {sl34 : Array (Option Value)} {oc34 kV34 dc34 pm34 cd34 ct34 : Value}
    (a34 : PySem.W.nsIn K mainGlobals "_law_behind" = some (some (.ref f34))) (l34 : K.lookup f34 = some ⟨oc34, od34, .func (PySem.W.fnOf "_law_behind" "_law_behind" (defArgs s_law_behind) (defBody s_law_behind) (defScope s_law_behind) .none kV34 dc34 pm34 an34 cd34 ct34), sl34⟩) (c34 : PySem.W.codeIn K cd34 "_law_behind" = true) (k34 : PySem.W.keepIn K (.ref f34) = true)
    {f35 : Addr} {od35 an35 : Option Addr} {sl35 : Array (Option Value)} {oc35 kV35 dc35 pm35 cd35 ct35 : Value}
    (a35 : PySem.W.nsIn K mainGlobals "_law_stirred" = some (some (.ref f35))) (l35 : K.lookup f35 = some ⟨oc35, od35, .func (PySem.W.fnOf "_law_stirred" "_law_stirred" (defArgs s_law_stirred) (defBody s_law_stirred) (defScope s_law_stirred) .none kV35 dc35 pm35 an35 cd35 ct35), sl35⟩) (c35 : PySem.W.codeIn K cd35 "_law_stirred" = true) (k35 : PySem.W.keepIn K (.ref f35) = true)
    {f36 : Addr} {od36 an36 : Option Addr} {sl36 : Array (Option Value)} {oc36 kV36 dc36 pm36 cd36 ct36 : Value}
    (a36 : PySem.W.nsIn K mainGlobals "_law_bent" = some (some (.ref f36))) (l36 : K.lookup f36 = some ⟨oc36, od36, .func (PySem.W.fnOf "_law_bent" "_law_bent" (defArgs s_law_bent) (defBody s_law_bent) (defScope s_law_bent) .none kV36 dc36 pm36 an36 cd36 ct36), sl36⟩) (c36 : PySem.W.codeIn K cd36 "_law_bent" = true) (k36 : PySem.W.keepIn K (.ref f36) = true)
    {f37 : Addr} {od37 an37 : Option Addr} {sl37 : Array (Option Value)} {oc37 kV37 dc37 pm37 cd37 ct37 : Value}
    (a37 : PySem.W.nsIn K mainGlobals "_law_retopped" = some (some (.ref f37))) (l37 : K.lookup f37 = some ⟨oc37, od37, .func (PySem.W.fnOf "_law_retopped" "_law_retopped" (defArgs s_law_retopped) (defBody s_law_retopped) (defScope s_law_retopped) .none kV37 dc37 pm37 an37 cd37 ct37), sl37⟩) (c37 : PySem.W.codeIn K cd37 "_law_retopped" = true) (k37 : PySem.W.keepIn K (.ref f37) = true)
    {f38 : Addr} {od38 an38 : Option Addr} {sl38 : Array (Option Value)} {oc38 kV38 dc38 pm38 cd38 ct38 : Value}
    (a38 : PySem.W.nsIn K mainGlobals "_law_some_table" = some (some (.ref f38))) (l38 : K.lookup f38 = some ⟨oc38, od38, .func (PySem.W.fnOf "_law_some_table" "_law_some_table" (defArgs s_law_some_table) (defBody s_law_some_table) (defScope s_law_some_table) .none kV38 dc38 pm38 an38 cd38 ct38), sl38⟩) (c38 : PySem.W.codeIn K cd38 "_law_some_table" = true) (k38 : PySem.W.keepIn K (.ref f38) = true)
    {f39 : Addr} {od39 an39 : Option Addr} {sl39 : Array (Option Value)} {oc39 kV39 dc39 pm39 cd39 ct39 : Value}
    (a39 : PySem.W.nsIn K mainGlobals "_law_told" = some (some (.ref f39))) (l39 : K.lookup f39 = some ⟨oc39, od39, .func (PySem.W.fnOf "_law_told" "_law_told" (defArgs s_law_told) (defBody s_law_told) (defScope s_law_told) .none kV39 dc39 pm39 an39 cd39 ct39), sl39⟩) (c39 : PySem.W.codeIn K cd39 "_law_told" = true) (k39 : PySem.W.keepIn K (.ref f39) = true)
    {f40 : Addr} {od40 an40 : Option Addr} {sl40 : Array (Option Value)} {oc40 kV40 dc40 pm40 cd40 ct40 : Value}
    (a40 : PySem.W.nsIn K mainGlobals "law" = some (some (.ref f40))) (l40 : K.lookup f40 = some ⟨oc40, od40, .func (PySem.W.fnOf "law" "law" (defArgs s_law) (defBody s_law) (defScope s_law) .none kV40 dc40 pm40 an40 cd40 ct40), sl40⟩) (c40 : PySem.W.codeIn K cd40 "law" = true) (k40 : PySem.W.keepIn K (.ref f40) = true)
    (z_int : PySem.W.nsIn K mainGlobals "int" = some none)
    (z_isinstance : PySem.W.nsIn K mainGlobals "isinstance" = some none)
    (z_bool : PySem.W.nsIn K mainGlobals "bool" = some none)
    (z_len : PySem.W.nsIn K mainGlobals "len" = some none)
    (z_range : PySem.W.nsIn K mainGlobals "range" = some none)
    (z_min : PySem.W.nsIn K mainGlobals "min" = some none)
    (z_enumerate : PySem.W.nsIn K mainGlobals "enumerate" = some none)
    (z_tuple : PySem.W.nsIn K mainGlobals "tuple" = some none)
    (z_any : PySem.W.nsIn K mainGlobals "any" = some none)
    (z_abs : PySem.W.nsIn K mainGlobals "abs" = some none)
    (z_max : PySem.W.nsIn K mainGlobals "max" = some none)
    (z_dict : PySem.W.nsIn K mainGlobals "dict" = some none)
    (z_all : PySem.W.nsIn K mainGlobals "all" = some none)
    (z_repr : PySem.W.nsIn K mainGlobals "repr" = some none)
    (z_list : PySem.W.nsIn K mainGlobals "list" = some none)
    (z_ValueError : PySem.W.nsIn K mainGlobals "ValueError" = some none)
    {cq pq : Addr} {ocq : Value} {odq : Option Addr} {slq : Array (Option Value)} {usq : Array Value} (ctE : cd40 = .ref cq) (ctL : K.lookup cq = some ⟨ocq, odq, .fields usq, slq⟩) (ctV : usq[11]? = some (.ref pq)) (ctN : K.lookup pq = none)
    : ∃ (fd : FuncData) (c P : Addr), PySem.W.tabIn K "law" = some (c, P) ∧ K.lookup P = none ∧ (∀ (s : Shared) (v : Value), BindsTo s fd ⟨[v], []⟩ [("_law_script", v)]) ∧ ∀ base : Heap, K.In base → base.Ns mainGlobals mg → LamX.TabB base mg c P → GOk l.prog w K mg base 147 fa fd ["_law_script"] (spLawT K P) := by
  have e := hfa.symm.trans (PySem.W.mg_of X G a40)
  cases e
  have F0 := fun_mk (st := s_is_integer) l0 c0 k0
  have F1 := fun_mk (st := s_is_number) l1 c1 k1
  have F2 := fun_mk (st := s_table_size) l2 c2 k2
  have F3 := fun_mk (st := s_entry) l3 c3 k3
  have F4 := fun_mk (st := s_stretches) l4 c4 k4
  have F5 := fun_mk (st := s_note_parts) l5 c5 k5
  have F6 := fun_mk (st := s_lump_parts) l6 c6 k6
  have F7 := fun_mk (st := s_stretch_faults) l7 c7 k7
  have F8 := fun_mk (st := s_above_from) l8 c8 k8
  have F9 := fun_mk (st := s_above) l9 c9 k9
  have F10 := fun_mk (st := s_first_stretch_counter) l10 c10 k10
  have F11 := fun_mk (st := s_first_above_counter) l11 c11 k11
  have F12 := fun_mk (st := s_entries_counter) l12 c12 k12
  have F13 := fun_mk (st := s_counter) l13 c13 k13
  have F14 := fun_mk (st := s_table_above) l14 c14 k14
  have F15 := fun_mk (st := s_behind) l15 c15 k15
  have F16 := fun_mk (st := s_is_stretch_counter) l16 c16 k16
  have F17 := fun_mk (st := s_is_above_counter) l17 c17 k17
  have F18 := fun_mk (st := s_judge_entries_counter) l18 c18 k18
  have F19 := fun_mk (st := s_judge_counter) l19 c19 k19
  have F20 := fun_mk (st := s_law_source) l20 c20 k20
  have F21 := fun_mk (st := s_law_pick) l21 c21 k21
  have F22 := fun_mk (st := s_law_of) l22 c22 k22
  have F23 := fun_mk (st := s_law_size) l23 c23 k23
  have F24 := fun_mk (st := s_law_shape) l24 c24 k24
  have F25 := fun_mk (st := s_law_table) l25 c25 k25
  have F26 := fun_mk (st := s_law_entry) l26 c26 k26
  have F27 := fun_mk (st := s_law_stretches) l27 c27 k27
  have F28 := fun_mk (st := s_law_filled) l28 c28 k28
  have F29 := fun_mk (st := s_law_glued) l29 c29 k29
  have F30 := fun_mk (st := s_law_lumps) l30 c30 k30
  have F31 := fun_mk (st := s_law_wrong) l31 c31 k31
  have F32 := fun_mk (st := s_law_above) l32 c32 k32
  have F33 := fun_mk (st := s_law_counters) l33 c33 k33
  have F34 := fun_mk (st := s_law_behind) l34 c34 k34
  have F35 := fun_mk (st := s_law_stirred) l35 c35 k35
  have F36 := fun_mk (st := s_law_bent) l36 c36 k36
  have F37 := fun_mk (st := s_law_retopped) l37 c37 k37
  have F38 := fun_mk (st := s_law_some_table) l38 c38 k38
  have F39 := fun_mk (st := s_law_told) l39 c39 k39
  have F40 := fun_mk (st := s_law) l40 c40 k40
  have FXI := fun_mk (st := s_XI) zzL zzC zzK
  let T : Defs K mg := {
    cX := Cq,
    cL := CLq,
    gX := PySem.W.mg_of X G xxA,
    gL := PySem.W.mg_of X G yyA,
    xO := ⟨⟨_, _, _, _, _, _, _, _, _, _, _, _, _, _, _, xxL, by kernel_rfl⟩, xxa, xxB, xxT, xxK⟩,
    xE := ⟨xxg, xxh, xxB, xxd, xxc, xxn, xxt, xxm⟩,
    xF := ⟨xxg, xxh, xxB, xxd⟩,
    xN := xxf,
    mX := exm_own xxB xxI xxT xxS,
    kL := kit_sub yyI yyT yyS,
    kV := kit_ty (by decide +kernel) yyV,
    xf := fx,
    xfd := _,
    xFn := FXI,
    xB := FXI.binds (ps := ["self", "counter"]) fun _ _ _ _ _ _ us hl => match us, hl with | [_, _], _ => rfl,
    xI := zzA,
    xJ := zzT,
    cT := cq,
    pT := pq,
    hcT := ctE,
    d_is_integer := ⟨_, _, F0, PySem.W.mg_of X G a0, F0.binds (ps := ["value"]) fun _ _ _ _ _ _ us hl => match us, hl with | [_], _ => rfl⟩,
    d_is_number := ⟨_, _, F1, PySem.W.mg_of X G a1, F1.binds (ps := ["value"]) fun _ _ _ _ _ _ us hl => match us, hl with | [_], _ => rfl⟩,
    d_table_size := ⟨_, _, F2, PySem.W.mg_of X G a2, F2.binds (ps := ["table"]) fun _ _ _ _ _ _ us hl => match us, hl with | [_], _ => rfl⟩,
    d_entry := ⟨_, _, F3, PySem.W.mg_of X G a3, F3.binds (ps := ["table", "m"]) fun _ _ _ _ _ _ us hl => match us, hl with | [_, _], _ => rfl⟩,
    d_stretches := ⟨_, _, F4, PySem.W.mg_of X G a4, F4.binds (ps := ["m", "b"]) fun _ _ _ _ _ _ us hl => match us, hl with | [_, _], _ => rfl⟩,
    d_note_parts := ⟨_, _, F5, PySem.W.mg_of X G a5, F5.binds (ps := ["shape", "place", "parts"]) fun _ _ _ _ _ _ us hl => match us, hl with | [_, _, _], _ => rfl⟩,
    d_lump_parts := ⟨_, _, F6, PySem.W.mg_of X G a6, F6.binds (ps := ["shape"]) fun _ _ _ _ _ _ us hl => match us, hl with | [_], _ => rfl⟩,
    d_stretch_faults := ⟨_, _, F7, PySem.W.mg_of X G a7, F7.binds (ps := ["table", "b", "m"]) fun _ _ _ _ _ _ us hl => match us, hl with | [_, _, _], _ => rfl⟩,
    d_above_from := ⟨_, _, F8, PySem.W.mg_of X G a8, F8.binds (ps := ["shape", "b", "place"]) fun _ _ _ _ _ _ us hl => match us, hl with | [_, _, _], _ => rfl⟩,
    d_above := ⟨_, _, F9, PySem.W.mg_of X G a9, F9.binds (ps := ["shape", "b"]) fun _ _ _ _ _ _ us hl => match us, hl with | [_, _], _ => rfl⟩,
    d_first_stretch_counter := ⟨_, _, F10, PySem.W.mg_of X G a10, F10.binds (ps := ["table", "b"]) fun _ _ _ _ _ _ us hl => match us, hl with | [_, _], _ => rfl⟩,
    d_first_above_counter := ⟨_, _, F11, PySem.W.mg_of X G a11, F11.binds (ps := ["table", "b"]) fun _ _ _ _ _ _ us hl => match us, hl with | [_, _], _ => rfl⟩,
    d_entries_counter := ⟨_, _, F12, PySem.W.mg_of X G a12, F12.binds (ps := ["table", "b"]) fun _ _ _ _ _ _ us hl => match us, hl with | [_, _], _ => rfl⟩,
    d_counter := ⟨_, _, F13, PySem.W.mg_of X G a13, F13.binds (ps := ["table", "b"]) fun _ _ _ _ _ _ us hl => match us, hl with | [_, _], _ => rfl⟩,
    d_table_above := ⟨_, _, F14, PySem.W.mg_of X G a14, F14.binds (ps := ["table", "b", "size"]) fun _ _ _ _ _ _ us hl => match us, hl with | [_, _, _], _ => rfl⟩,
    d_behind := ⟨_, _, F15, PySem.W.mg_of X G a15, F15.binds (ps := ["table", "b"]) fun _ _ _ _ _ _ us hl => match us, hl with | [_, _], _ => rfl⟩,
    d_is_stretch_counter := ⟨_, _, F16, PySem.W.mg_of X G a16, F16.binds (ps := ["table", "b", "kind", "m", "k"]) fun _ _ _ _ _ _ us hl => match us, hl with | [_, _, _, _, _], _ => rfl⟩,
    d_is_above_counter := ⟨_, _, F17, PySem.W.mg_of X G a17, F17.binds (ps := ["table", "b", "m", "n"]) fun _ _ _ _ _ _ us hl => match us, hl with | [_, _, _, _], _ => rfl⟩,
    d_judge_entries_counter := ⟨_, _, F18, PySem.W.mg_of X G a18, F18.binds (ps := ["table", "b", "value"]) fun _ _ _ _ _ _ us hl => match us, hl with | [_, _, _], _ => rfl⟩,
    d_judge_counter := ⟨_, _, F19, PySem.W.mg_of X G a19, F19.binds (ps := ["table", "b", "value"]) fun _ _ _ _ _ _ us hl => match us, hl with | [_, _, _], _ => rfl⟩,
    d_law_source := ⟨_, _, F20, PySem.W.mg_of X G a20, F20.binds (ps := ["_law_script"]) fun _ _ _ _ _ _ us hl => match us, hl with | [_], _ => rfl⟩,
    d_law_pick := ⟨_, _, F21, PySem.W.mg_of X G a21, F21.binds (ps := ["_law_source_here", "_law_many"]) fun _ _ _ _ _ _ us hl => match us, hl with | [_, _], _ => rfl⟩,
    d_law_of := ⟨_, _, F22, PySem.W.mg_of X G a22, F22.binds (ps := ["_law_source_here", "_law_some"]) fun _ _ _ _ _ _ us hl => match us, hl with | [_, _], _ => rfl⟩,
    d_law_size := ⟨_, _, F23, PySem.W.mg_of X G a23, F23.binds (ps := ["_law_shape_here"]) fun _ _ _ _ _ _ us hl => match us, hl with | [_], _ => rfl⟩,
    d_law_shape := ⟨_, _, F24, PySem.W.mg_of X G a24, F24.binds (ps := ["_law_source_here", "_law_size_here"]) fun _ _ _ _ _ _ us hl => match us, hl with | [_, _], _ => rfl⟩,
    d_law_table := ⟨_, _, F25, PySem.W.mg_of X G a25, F25.binds (ps := ["_law_source_here", "_law_size_here"]) fun _ _ _ _ _ _ us hl => match us, hl with | [_, _], _ => rfl⟩,
    d_law_entry := ⟨_, _, F26, PySem.W.mg_of X G a26, F26.binds (ps := ["_law_table_here", "_law_m"]) fun _ _ _ _ _ _ us hl => match us, hl with | [_, _], _ => rfl⟩,
    d_law_stretches := ⟨_, _, F27, PySem.W.mg_of X G a27, F27.binds (ps := ["_law_m", "_law_b"]) fun _ _ _ _ _ _ us hl => match us, hl with | [_, _], _ => rfl⟩,
    d_law_filled := ⟨_, _, F28, PySem.W.mg_of X G a28, F28.binds (ps := ["_law_shape_here", "_law_parts"]) fun _ _ _ _ _ _ us hl => match us, hl with | [_, _], _ => rfl⟩,
    d_law_glued := ⟨_, _, F29, PySem.W.mg_of X G a29, F29.binds (ps := ["_law_s", "_law_t"]) fun _ _ _ _ _ _ us hl => match us, hl with | [_, _], _ => rfl⟩,
    d_law_lumps := ⟨_, _, F30, PySem.W.mg_of X G a30, F30.binds (ps := ["_law_shape_here", "_law_begin"]) fun _ _ _ _ _ _ us hl => match us, hl with | [_, _], _ => rfl⟩,
    d_law_wrong := ⟨_, _, F31, PySem.W.mg_of X G a31, F31.binds (ps := ["_law_table_here", "_law_b", "_law_m"]) fun _ _ _ _ _ _ us hl => match us, hl with | [_, _, _], _ => rfl⟩,
    d_law_above := ⟨_, _, F32, PySem.W.mg_of X G a32, F32.binds (ps := ["_law_shape_here", "_law_begin", "_law_pairs"]) fun _ _ _ _ _ _ us hl => match us, hl with | [_, _, _], _ => rfl⟩,
    d_law_counters := ⟨_, _, F33, PySem.W.mg_of X G a33, F33.binds (ps := ["_law_table_here", "_law_b"]) fun _ _ _ _ _ _ us hl => match us, hl with | [_, _], _ => rfl⟩,
    d_law_behind := ⟨_, _, F34, PySem.W.mg_of X G a34, F34.binds (ps := ["_law_table_here", "_law_b"]) fun _ _ _ _ _ _ us hl => match us, hl with | [_, _], _ => rfl⟩,
    d_law_stirred := ⟨_, _, F35, PySem.W.mg_of X G a35, F35.binds (ps := ["_law_source_here", "_law_shape_here"]) fun _ _ _ _ _ _ us hl => match us, hl with | [_, _], _ => rfl⟩,
    d_law_bent := ⟨_, _, F36, PySem.W.mg_of X G a36, F36.binds (ps := ["_law_source_here", "_law_table_here"]) fun _ _ _ _ _ _ us hl => match us, hl with | [_, _], _ => rfl⟩,
    d_law_retopped := ⟨_, _, F37, PySem.W.mg_of X G a37, F37.binds (ps := ["_law_source_here", "_law_table_here", "_law_b"]) fun _ _ _ _ _ _ us hl => match us, hl with | [_, _, _], _ => rfl⟩,
    d_law_some_table := ⟨_, _, F38, PySem.W.mg_of X G a38, F38.binds (ps := ["_law_source_here", "_law_most"]) fun _ _ _ _ _ _ us hl => match us, hl with | [_, _], _ => rfl⟩,
    d_law_told := ⟨_, _, F39, PySem.W.mg_of X G a39, F39.binds (ps := ["_law_call"]) fun _ _ _ _ _ _ us hl => match us, hl with | [_], _ => rfl⟩,
    d_law := ⟨_, _, F40, PySem.W.mg_of X G a40, F40.binds (ps := ["_law_script"]) fun _ _ _ _ _ _ us hl => match us, hl with | [_], _ => rfl⟩,
    n_int := PySem.W.mg_none_of X G z_int,
    n_isinstance := PySem.W.mg_none_of X G z_isinstance,
    n_bool := PySem.W.mg_none_of X G z_bool,
    n_len := PySem.W.mg_none_of X G z_len,
    n_range := PySem.W.mg_none_of X G z_range,
    n_min := PySem.W.mg_none_of X G z_min,
    n_enumerate := PySem.W.mg_none_of X G z_enumerate,
    n_tuple := PySem.W.mg_none_of X G z_tuple,
    n_any := PySem.W.mg_none_of X G z_any,
    n_abs := PySem.W.mg_none_of X G z_abs,
    n_max := PySem.W.mg_none_of X G z_max,
    n_dict := PySem.W.mg_none_of X G z_dict,
    n_all := PySem.W.mg_none_of X G z_all,
    n_repr := PySem.W.mg_none_of X G z_repr,
    n_list := PySem.W.mg_none_of X G z_list,
    n_ValueError := PySem.W.mg_none_of X G z_ValueError }
  exact ⟨_, cq, pq, tab_mk a40 l40 ctE ctL ctV, ctN, fun s v => .of_eq rfl, fun base _ _ TB => ok_law LT T TB⟩
theorem walk {l : PySem.W.OpenLaw} {q : Program} {loose : List Str} {XP : (Str → Option Value) → Heap → Prop} {YP : World → Heap → Prop} {d : DefRec} {K : Params → PySem.W.Frag} (hn : l.most = some 63) (hdf : d.params.defaults = [])
    (rec : (PyProof.Rows.recsOf q).find? (fun e => e.name == d.name) = some d) (hY : ∀ (w : World) (h : Heap), YP w h → (K w.params).In h)
    (F : ∀ (w : World) (mg : Str → Option Value) (fa : Addr) (h : Heap), (K w.params).In h → h.Ns mainGlobals mg → mg d.name = some (.ref fa) →
      ∃ (fd : FuncData) (c P : Addr), PySem.W.tabIn (K w.params) d.name = some (c, P) ∧ (K w.params).lookup P = none ∧ (∀ (s : Shared) (u : Value), BindsTo s fd ⟨[u], []⟩ [("_law_script", u)]) ∧ ∀ base : Heap, (K w.params).In base → base.Ns mainGlobals mg → LamX.TabB base mg c P → GOk l.prog w (K w.params) mg base 147 fa fd ["_law_script"] (spLawT (K w.params) P)) :
    PySem.W.WalkO q loose XP YP l.row.toRowW d [] (fun f vs => PySem.call f vs) :=
  DL.walk_gT (n := 63) (k := 147) (x := "_law_script") (sp := fun w P => spLawT (K w.params) P) hn (by decide) hdf ⟨rfl, by decide, by decide⟩ hY rec F (fun _ _ a P ns hl hT hS => ⟨a, ns, rfl, hT, hS, hl, fun _ _ e => e⟩)
end Lk
namespace Lk
open PySem L2 DL
theorem pick_wp (ω : Src) (many : Int) (h1 : 1 ≤ many) (h2 : many < 2 ^ 60) : (F_law_pick [.int many] ω).wp (fun d _ => ∃ r : Int, d = .int r ∧ 0 ≤ r ∧ r < many) X0 := by
  unfold F_law_pick B_law_pick
  refine Eq.mpr wp_nox ?_
  refine Eq.mpr wp_runS ?_
  refine Eq.mpr sw_seq ?_
  refine sw.mono (P := fun f _ => f = .nx (startT 4 (.src :: [D.int many].map .d))) (while_inv (fun m τ ω => ω.cells.length < m ∧ τ = startT 4 (.src :: [D.int many].map .d)) ⟨by show _ < _ + 2; omega, rfl⟩ ?_) ?_
  · rintro m τ ω ⟨hm, rfl⟩
    refine ⟨by omega, ?_⟩
    repeat walk_at "ev1"
    split
    · repeat walk_at "ev1"
      split
      · repeat walk_at "ev1"
        split
        · rename_i hl
          cases ec : ω.cells with
          | nil => rw [ec] at hl; simp at hl
          | cons z r =>
            refine Eq.mpr (sw_src rfl) ?_
            refine Eq.mpr (wp_srcP rfl ec) ?_
            exact ⟨_, rfl, by rw [ec] at hm; simp at hm ⊢; omega, rfl⟩
        · rfl
      · repeat walk_at "ev1"
        rfl
    · repeat walk_at "ev1"
      rfl
  · rintro f ω1 rfl
    repeat walk_at "ev1"
    have hc : ∀ a : Int, 0 ≤ a % many ∧ a % many < many := fun a => ⟨Int.emod_nonneg _ (by omega), Int.emod_lt_of_pos _ (by omega)⟩
    have hlg : many.natAbs.log2 < 9000 := by
      have : many.natAbs.log2 < 60 := (Nat.log2_lt (by omega)).mpr (by omega)
      omega
    have hd : ∀ x : Int, fdivD (.int x) (.int many) = some (.int (x / many)) := fun x => if_pos ⟨by omega, hlg⟩
    have hm : ∀ x : Int, modD (.int x) (.int many) = some (.int (x % many)) := fun x => if_pos (by omega)
    have hx : bi2 max2D [.int 1, .int many] = some (.int many) := by
      show some (D.int (if many > 1 then many else 1)) = _
      by_cases e : many > 1
      · rw [if_pos e]
      · rw [if_neg e, show many = 1 from by omega]
    have h16 : ∀ x : Int, fdivD (.int x) (.int 16) = some (.int (x / 16)) := fun x => by unfold fdivD; exact if_pos (show (0:Int) < 16 ∧ Nat.log2 16 < 9000 from ⟨by omega, (Nat.log2_lt (by omega)).mpr (by omega)⟩)
    have hk1 : ∀ x : Int, mulD (.int x) (.int 104729) = some (.int (x * 104729)) := fun x => if_pos (.inl (.inr ⟨by omega, by omega⟩))
    have hk2 : ∀ x : Int, mulD (.int x) (.int 17) = some (.int (x * 17)) := fun x => if_pos (.inl (.inr ⟨by omega, by omega⟩))
    have hk3 : ∀ x : Int, mulD (.int (x % 998244353)) (.int (x % 998244353)) = some (.int (x % 998244353 * (x % 998244353))) := fun x => if_pos (.inl (.inr ⟨by omega, by omega⟩))
    have hq1 : ∀ x : Int, modD (.int x) (.int 998244353) = some (.int (x % 998244353)) := fun x => by unfold modD; exact if_pos (show (0:Int) < 998244353 by omega)
    have hq2 : ∀ x : Int, modD (.int x) (.int 2147483647) = some (.int (x % 2147483647)) := fun x => by unfold modD; exact if_pos (show (0:Int) < 2147483647 by omega)
    split
    · repeat (first | with_reducible refine Eq.mpr (DL.wp_eqn (hx)) ?_ | with_reducible refine Eq.mpr (DL.wp_ofOs (hx)) ?_ | with_reducible refine Eq.mpr (DL.wp_eqn (hd _)) ?_ | with_reducible refine Eq.mpr (DL.wp_ofOs (hd _)) ?_ | with_reducible refine Eq.mpr (DL.wp_eqn (hm _)) ?_ | with_reducible refine Eq.mpr (DL.wp_ofOs (hm _)) ?_ | walk_at "ev1")
      exact hc _
    · repeat walk_at "ev1"
      split
      · repeat (first | with_reducible refine Eq.mpr (DL.wp_eqn (hx)) ?_ | with_reducible refine Eq.mpr (DL.wp_ofOs (hx)) ?_ | with_reducible refine Eq.mpr (DL.wp_eqn (hd _)) ?_ | with_reducible refine Eq.mpr (DL.wp_ofOs (hd _)) ?_ | with_reducible refine Eq.mpr (DL.wp_eqn (hm _)) ?_ | with_reducible refine Eq.mpr (DL.wp_ofOs (hm _)) ?_ | walk_at "ev1")
        exact hc _
      · repeat (first | with_reducible refine Eq.mpr (DL.wp_eqn (h16 _)) ?_ | with_reducible refine Eq.mpr (DL.wp_ofOs (h16 _)) ?_ | with_reducible refine Eq.mpr (DL.wp_eqn (hk1 _)) ?_ | with_reducible refine Eq.mpr (DL.wp_ofOs (hk1 _)) ?_ | with_reducible refine Eq.mpr (DL.wp_eqn (hk2 _)) ?_ | with_reducible refine Eq.mpr (DL.wp_ofOs (hk2 _)) ?_ | with_reducible refine Eq.mpr (DL.wp_eqn (hk3 _)) ?_ | with_reducible refine Eq.mpr (DL.wp_ofOs (hk3 _)) ?_ | with_reducible refine Eq.mpr (DL.wp_eqn (hq1 _)) ?_ | with_reducible refine Eq.mpr (DL.wp_ofOs (hq1 _)) ?_ | with_reducible refine Eq.mpr (DL.wp_eqn (hq2 _)) ?_ | with_reducible refine Eq.mpr (DL.wp_ofOs (hq2 _)) ?_ | with_reducible refine Eq.mpr (DL.wp_eqn (hm _)) ?_ | with_reducible refine Eq.mpr (DL.wp_ofOs (hm _)) ?_ | walk_at "ev1")
        exact hc _
theorem pick_ok (ω : Src) (many : Int) (h1 : 1 ≤ many) (h2 : many < 2 ^ 60) : ∃ (r : Int) (ω' : Src), F_law_pick [.int many] ω = .ok (.int r) ω' ∧ 0 ≤ r ∧ r < many := by
  obtain ⟨d, ω', e, r, rfl, h⟩ := (pick_wp ω many h1 h2).ex
  exact ⟨r, ω', e, h⟩
def hgt : Sh → Nat
  | .o => 0
  | .n l r => 1 + max (hgt l) (hgt r)
theorem hgt_lt : ∀ s : Sh, hgt s < s.size
  | .o => by simp [hgt, Sh.size]
  | .n l r => by
    have h1 := hgt_lt l; have h2 := hgt_lt r; have h3 := Sh.size_pos l; have h4 := Sh.size_pos r
    simp only [hgt, Sh.size]; omega
theorem eqO (s : Sh) : eqD s.enc (.tup []) = some (.bl (decide (s = .o))) := eqD_sh s .o (.inr (by simp [Sh.size]))
theorem eqO_o : eqD (.tup []) (.tup []) = some (.bl true) := eqO .o
theorem eqO_n (l r : Sh) : eqD (.tup [l.enc, r.enc]) (.tup []) = some (.bl false) := eqO (.n l r)
abbrev tb (t : Tab) : D := .tup (t.map Sh.enc)
abbrev rowD (r : List Sh) : D := .lst (r.map Sh.enc)
theorem table_size_ok (t : Tab) : F_table_size [tb t] = .ok (.int (bsz t)) () := by
  apply R.wp.equ
  unfold F_table_size B_table_size
  repeat walk_at "ev1"
  simp [bsz]
theorem map_get {t : List Sh} {i : Nat} {s : Sh} (h : t[i]? = some s) : (t.map Sh.enc)[i]? = some s.enc := by rw [List.getElem?_map, h]; rfl
theorem entry_ok (t : Tab) (m : Nat) (h1 : 1 ≤ m) (h2 : m ≤ bsz t) : F_entry [tb t, .int m] = .ok (ent t m).enc () := by
  apply R.wp.equ
  unfold F_entry B_entry
  repeat (first | with_reducible refine Eq.mpr (DL.wp_eqn (eqD_int _ _)) ?_ | with_reducible refine Eq.mpr (DL.wp_ofOs (eqD_int _ _)) ?_ | walk_at "ev1")
  split
  · rename_i h
    simp at h
    repeat walk_at "ev1"
    have : m = 1 := by omega
    subst this
    rfl
  · rename_i h
    simp at h
    have hlt : m - 2 < t.length := by unfold bsz at h2; omega
    have e : ixD (.tup (t.map Sh.enc)) (.int ((m : Int) - 2)) = some (ent t m).enc := by
      refine ix_tup (k := m - 2) (by omega) (map_get ?_)
      unfold ent
      rw [if_neg (by omega), List.getD_eq_getElem?_getD, List.getElem?_eq_getElem hlt]
      rfl
    repeat (first | with_reducible refine Eq.mpr (DL.wp_eqn (e)) ?_ | with_reducible refine Eq.mpr (DL.wp_ofOs (e)) ?_ | walk_at "ev1")
    rfl
theorem rg3_nat (m b : Nat) (hb : 1 ≤ b) (h1 : b < 100000) (h2 : m < 100000) : rg3 [.int 0, .int m, .int b] = some (rangeL 0 b ((m + b - 1) / b)) := by
  unfold rg3
  dsimp only
  rw [if_pos (by refine ⟨?_, ?_, ?_, ?_, ?_, ?_⟩ <;> omega)]
  congr 2
  have : ((m : Int) - 0 + b - 1) = ((m + b - 1 : Nat) : Int) := by omega
  rw [this]
  exact_mod_cast Int.toNat_natCast _
theorem rg2_nat (a b : Nat) (h1 : a < 100000) (h2 : b < 100000) : rg2 [.int a, .int b] = some (rangeL a 1 (b - a)) := by
  unfold rg2
  dsimp only
  rw [if_pos (by omega)]
  congr 2
  omega
theorem rg1_nat (b : Nat) (h2 : b < 100000) : rg1 [.int b] = some (rangeL 0 1 b) := by
  unfold rg1
  dsimp only
  rw [if_pos (by omega)]
  simp
theorem stretches_ok (m b : Nat) (hb : 1 ≤ b) (h1 : b < 100000) (h2 : m < 100000) :
    F_stretches [.int m, .int b] = .ok (.lst ((List.range ((m + b - 1) / b)).map fun i => .tup [.int (i * b : Nat), .int (min (i * b + b) m : Nat)])) () := by
  apply R.wp.equ
  unfold F_stretches B_stretches
  repeat (first | with_reducible refine Eq.mpr (DL.wp_eqn (rg3_nat m b hb h1 h2)) ?_ | with_reducible refine Eq.mpr (DL.wp_ofOs (rg3_nat m b hb h1 h2)) ?_ | walk_at "ev1")
  refine ⟨?_, lc_map (fun i => .tup [.int (i * b : Nat), .int (min (i * b + b) m : Nat)]) (fun i d hd => ?_) ?_⟩
  · rw [rangeL_len]
    have : (m + b - 1) / b ≤ m + b - 1 := Nat.div_le_self _ _
    have := sizeLine_eq
    omega
  · obtain ⟨rfl, hi⟩ := rangeL_get _ _ _ _ _ hd
    refine ⟨_, rfl, ?_⟩
    repeat walk_at "ev1"
    refine ⟨?_, rfl⟩
    congr 2
    · congr 1; push_cast; omega
    · congr 2
      push_cast
      split <;> omega
  · repeat walk_at "ev1"
    rw [rangeL_len]
theorem of_ok (ω : Src) (xs : List D) (h0 : xs ≠ []) (hl : xs.length < 2 ^ 50) : ∃ d ω', F_law_of [.lst xs] ω = .ok d ω' ∧ d ∈ xs := by
  have hp : 1 ≤ xs.length := List.length_pos_iff.mpr h0
  obtain ⟨r, ω1, e, h1, h2⟩ := pick_ok ω (xs.length : Nat) (by omega) (by omega)
  have hr : r = ((r.toNat : Nat) : Int) := by omega
  have hlt : r.toNat < xs.length := by omega
  have e2 : ixD (.lst xs) (.int r) = some xs[r.toNat] := ix_lst hr (List.getElem?_eq_getElem hlt)
  refine R.wp.ex ?_
  unfold F_law_of B_law_of
  have el : un1 lenD [.lst xs] = some (.int (xs.length : Nat)) := rfl
  repeat (first | with_reducible refine Eq.mpr (DL.wp_eqn (el)) ?_ | with_reducible refine Eq.mpr (DL.wp_ofOs (el)) ?_ | with_reducible refine Eq.mpr (DL.wp_eqn (e)) ?_ | with_reducible refine Eq.mpr (DL.wp_ofOs (e)) ?_ | with_reducible refine Eq.mpr (DL.wp_eqn (e2)) ?_ | with_reducible refine Eq.mpr (DL.wp_ofOs (e2)) ?_ | walk_at "ev1")
  exact List.getElem_mem hlt
theorem shape_ok : ∀ (n m : Nat) (ω : Src), 1 ≤ m → m ≤ n → m < 100000 → ∃ (s : Sh) (ω' : Src), F_law_shape n [.int m] ω = .ok s.enc ω' ∧ s.size = m
  | 0, m, ω, h1, h2, _ => by omega
  | n + 1, m, ω, h1, h2, h3 => by
    suffices h : (F_law_shape (n + 1) [.int m] ω).wp (fun d _ => ∃ s : Sh, d = s.enc ∧ s.size = m) X0 by
      obtain ⟨d, ω', e, s, rfl, hs⟩ := h.ex
      exact ⟨s, ω', e, hs⟩
    unfold F_law_shape B_law_shape
    repeat (first | with_reducible refine Eq.mpr (DL.wp_eqn (eqD_int _ _)) ?_ | with_reducible refine Eq.mpr (DL.wp_ofOs (eqD_int _ _)) ?_ | walk_at "ev1")
    split
    · rename_i h
      simp at h
      repeat walk_at "ev1"
      exact ⟨.o, rfl, by simp [Sh.size]; omega⟩
    · rename_i h
      simp at h
      obtain ⟨r1, ω1, e1, a1, b1⟩ := pick_ok ω ((m : Int) - 1) (by omega) (by omega)
      obtain ⟨r2, ω2, e2, a2, b2⟩ := pick_ok ω1 ((m : Int) - 1) (by omega) (by omega)
      have h2 : ∀ x : Int, fdivD (.int x) (.int 2) = some (.int (x / 2)) := fun x => by unfold fdivD; exact if_pos (show (0:Int) < 2 ∧ Nat.log2 2 < 9000 from ⟨by omega, (Nat.log2_lt (by omega)).mpr (by omega)⟩)
      repeat (first | with_reducible refine Eq.mpr (DL.wp_eqn (e1)) ?_ | with_reducible refine Eq.mpr (DL.wp_ofOs (e1)) ?_ | with_reducible refine Eq.mpr (DL.wp_eqn (e2)) ?_ | with_reducible refine Eq.mpr (DL.wp_ofOs (e2)) ?_ | with_reducible refine Eq.mpr (DL.wp_eqn (h2 _)) ?_ | with_reducible refine Eq.mpr (DL.wp_ofOs (h2 _)) ?_ | walk_at "ev1")
      obtain ⟨d, ω3, e3, hd⟩ := of_ok ω2 [.int (1 + r1), .int (1 + r2), .int (m / 2), .int 1, .int (m - 1)] (by simp) (by simp)
      obtain ⟨k, rfl, k1, k2⟩ : ∃ k : Nat, d = .int k ∧ 1 ≤ k ∧ k < m := by
        simp only [List.mem_cons, List.not_mem_nil, or_false] at hd
        rcases hd with rfl | rfl | rfl | rfl | rfl
        · exact ⟨(1 + r1).toNat, by congr 1; omega, by omega, by omega⟩
        · exact ⟨(1 + r2).toNat, by congr 1; omega, by omega, by omega⟩
        · exact ⟨m / 2, by congr 1, by omega, by omega⟩
        · exact ⟨1, rfl, by omega, by omega⟩
        · exact ⟨m - 1, by congr 1; omega, by omega, by omega⟩
      obtain ⟨l, ω4, e4, hl⟩ := shape_ok n k ω3 k1 (by omega) (by omega)
      obtain ⟨r, ω5, e5, hr⟩ := shape_ok n (m - k) ω4 (by omega) (by omega) (by omega)
      have es : subD (.int (m : Int)) (.int (k : Int)) = some (.int ((m - k : Nat) : Int)) := by
        show some (D.int _) = _
        congr 2; omega
      repeat (first | with_reducible refine Eq.mpr (DL.wp_eqn (e3)) ?_ | with_reducible refine Eq.mpr (DL.wp_ofOs (e3)) ?_ | with_reducible refine Eq.mpr (DL.wp_eqn (e4)) ?_ | with_reducible refine Eq.mpr (DL.wp_ofOs (e4)) ?_ | with_reducible refine Eq.mpr (DL.wp_eqn (es)) ?_ | with_reducible refine Eq.mpr (DL.wp_ofOs (es)) ?_ | with_reducible refine Eq.mpr (DL.wp_eqn (e5)) ?_ | with_reducible refine Eq.mpr (DL.wp_ofOs (e5)) ?_ | walk_at "ev1")
      exact ⟨.n l r, rfl, by simp only [Sh.size]; omega⟩
theorem table_ok (m : Nat) (ω : Src) (h1 : 2 ≤ m) (h2 : m ≤ 70) : ∃ (t : Tab) (ω' : Src), F_law_table [.int m] ω = .ok (tb t) ω' ∧ WT t ∧ bsz t = m := by
  suffices h : (F_law_table [.int m] ω).wp (fun d _ => ∃ t : Tab, d = tb t ∧ WT t ∧ bsz t = m) X0 by
    obtain ⟨d, ω', e, t, rfl, hs⟩ := h.ex
    exact ⟨t, ω', e, hs⟩
  unfold F_law_table B_law_table
  have ha : addD (.int (m : Int)) (.int 1) = some (.int ((m + 1 : Nat) : Int)) := by
    show some (D.int _) = _
    push_cast; rfl
  have hr : rg2 [.int 2, .int ((m + 1 : Nat) : Int)] = some (rangeL 2 1 (m + 1 - 2)) := rg2_nat 2 (m + 1) (by omega) (by omega)
  repeat (first | with_reducible refine Eq.mpr (DL.wp_eqn (ha)) ?_ | with_reducible refine Eq.mpr (DL.wp_ofOs (ha)) ?_ | with_reducible refine Eq.mpr (DL.wp_eqn (hr)) ?_ | with_reducible refine Eq.mpr (DL.wp_ofOs (hr)) ?_ | walk_at "ev1")
  refine ⟨by rw [rangeL_len]; have := sizeLine_eq; omega, ?_⟩
  refine lc_inv (fun i acc _ => ∃ t : Tab, acc = t.map Sh.enc ∧ t.length = i ∧ ∀ j s, t[j]? = some s → s.size = j + 2) ⟨[], rfl, rfl, by simp⟩ ?_ ?_
  · rintro i d acc ω hd ⟨t, rfl, hl, ht⟩
    obtain ⟨rfl, hi⟩ := rangeL_get _ _ _ _ _ hd
    refine ⟨_, rfl, ?_⟩
    obtain ⟨s, ω1, e1, hs⟩ := shape_ok 70 (i + 2) ω (by omega) (by omega) (by omega)
    have ei : (2 : Int) + (i : Int) * 1 = ((i + 2 : Nat) : Int) := by push_cast; omega
    rw [ei]
    repeat (first | with_reducible refine Eq.mpr (DL.wp_eqn (e1)) ?_ | with_reducible refine Eq.mpr (DL.wp_ofOs (e1)) ?_ | walk_at "ev1")
    refine ⟨t ++ [s], by simp, by simp [hl], fun j s' hj => ?_⟩
    by_cases hjl : j < t.length
    · rw [List.getElem?_append_left hjl] at hj
      exact ht j s' hj
    · rw [List.getElem?_append_right (by omega)] at hj
      have : j - t.length = 0 := by
        by_cases z : j - t.length = 0
        · exact z
        · rw [List.getElem?_eq_none (by simp; omega)] at hj; cases hj
      rw [this] at hj
      simp at hj
      subst hj
      omega
  · rintro acc ω ⟨t, rfl, hl, ht⟩
    rw [rangeL_len] at hl
    repeat walk_at "ev1"
    exact ⟨t, rfl, ⟨by omega, ht⟩, by unfold bsz; omega⟩
def prn : List Nat → Nat
  | [] => 1
  | k :: l => k * prn l
theorem prn_append : ∀ x y : List Nat, prn (x ++ y) = prn x * prn y
  | [], y => by simp [prn]
  | t :: x, y => by simp [prn, prn_append x y, Nat.mul_assoc]
def intsD (l : List Nat) : List D := l.map fun (k : Nat) => D.int (k : Int)
def AW (ts : List Tab) : Prop := ∀ t ∈ ts, WT t
theorem AW.left {x y : List Tab} (h : AW (x ++ y)) : AW x := fun t ht => h t (by simp [ht])
theorem dep_tab {t : Tab} (h : WT t) : Enc.dep t ≤ bsz t + 1 := by
  show depL t + 1 ≤ bsz t + 1
  refine Nat.succ_le_succ (depL_le fun x hx => ?_)
  obtain ⟨i, hi, e⟩ := List.mem_iff_getElem.mp hx
  have := h.2 i x (by rw [List.getElem?_eq_getElem hi, e])
  show x.size ≤ _
  unfold bsz
  omega
theorem eq_tb {a b : Tab} (ha : WT a) (h : bsz a ≤ 100) : eqD (tb a) (tb b) = some (.bl (decide (a = b))) := eqD_enc a b (.inl (by have := dep_tab ha; omega))
theorem len_tb (t : Tab) : un1 lenD [tb t] = some (.int (t.length : Nat)) := by
  show some (D.int ((t.map Sh.enc).length : Nat)) = _
  rw [List.length_map]
theorem abv_le : ∀ (s : Sh) (b p : Nat), (abv s b p).size ≤ s.size
  | .o, _, _ => Nat.le_refl _
  | .n l r, b, p => by
    have h1 := abv_le l b p
    have h2 := abv_le r b (p + l.size)
    have h3 := Sh.size_pos l
    unfold abv
    split <;> simp only [Sh.size] <;> omega
theorem above_from_ok (b : Nat) (hb : 0 < b) (hb2 : b < 1000) : ∀ (n : Nat) (s : Sh) (p : Nat), hgt s < n → F_above_from n [s.enc, .int b, .int p] = .ok (.tup [(abv s b p).enc, .int (p + s.size : Nat)]) ()
  | 0, _, _, h => by omega
  | n + 1, .o, p, _ => by
    refine R.wp.equ ?_
    show (F_above_from (n + 1) [.tup [], .int b, .int p]).wp _ _
    unfold F_above_from B_above_from
    repeat (first | with_reducible refine Eq.mpr (DL.wp_eqn (eqO_o)) ?_ | with_reducible refine Eq.mpr (DL.wp_ofOs (eqO_o)) ?_ | with_reducible refine Eq.mpr (DL.wp_eqn (addN p 1)) ?_ | with_reducible refine Eq.mpr (DL.wp_ofOs (addN p 1)) ?_ | walk_at "ev1")
    rfl
  | n + 1, .n l r, p, h => by
    simp only [hgt] at h
    have hr := Sh.size_pos r
    have e1 := above_from_ok b hb hb2 n l p (by omega)
    have e2 := above_from_ok b hb hb2 n r (p + l.size) (by omega)
    have a1 := fdivN p b hb (by omega)
    have a2 : subD (.int ((p + l.size + r.size : Nat) : Int)) (.int 1) = some (.int ((p + l.size + r.size - 1 : Nat) : Int)) := subN _ 1 (by omega)
    have a3 := fdivN (p + l.size + r.size - 1) b hb (by omega)
    have a4 : eqD (.int ((p / b : Nat) : Int)) (.int (((p + l.size + r.size - 1) / b : Nat) : Int)) = some (.bl (decide (p / b = (p + l.size + r.size - 1) / b))) := by
      rw [eqD_int]; congr 2; exact decide_eq_decide.mpr (by omega)
    refine R.wp.equ ?_
    show (F_above_from (n + 1) [.tup [l.enc, r.enc], .int b, .int p]).wp _ _
    unfold F_above_from B_above_from
    repeat (first | with_reducible refine Eq.mpr (DL.wp_eqn (eqO_n l r)) ?_ | with_reducible refine Eq.mpr (DL.wp_ofOs (eqO_n l r)) ?_ | with_reducible refine Eq.mpr (DL.wp_eqn (e1)) ?_ | with_reducible refine Eq.mpr (DL.wp_ofOs (e1)) ?_ | with_reducible refine Eq.mpr (DL.wp_eqn (e2)) ?_ | with_reducible refine Eq.mpr (DL.wp_ofOs (e2)) ?_ | with_reducible refine Eq.mpr (DL.wp_eqn (a1)) ?_ | with_reducible refine Eq.mpr (DL.wp_ofOs (a1)) ?_ | with_reducible refine Eq.mpr (DL.wp_eqn (a2)) ?_ | with_reducible refine Eq.mpr (DL.wp_ofOs (a2)) ?_ | with_reducible refine Eq.mpr (DL.wp_eqn (a3)) ?_ | with_reducible refine Eq.mpr (DL.wp_ofOs (a3)) ?_ | with_reducible refine Eq.mpr (DL.wp_eqn (a4)) ?_ | with_reducible refine Eq.mpr (DL.wp_ofOs (a4)) ?_ | walk_at "ev1")
    have ea : p + (l.size + r.size) - 1 = p + l.size + r.size - 1 := by omega
    by_cases hc : p / b = (p + l.size + r.size - 1) / b
    · rw [if_pos (by simpa using hc)]
      repeat walk_at "ev1"
      simp only [abv, Sh.size, ea, if_pos hc, Nat.add_assoc]
      rfl
    · rw [if_neg (by simpa using hc)]
      repeat walk_at "ev1"
      simp only [abv, Sh.size, ea, if_neg hc, Nat.add_assoc]
      rfl
theorem above_ok (b : Nat) (hb : 0 < b) (hb2 : b < 1000) (s : Sh) (hs : s.size ≤ 70) : F_above [s.enc, .int b] = .ok (abv s b 0).enc () := by
  have hh := hgt_lt s
  have e := above_from_ok b hb hb2 70 s 0 (by omega)
  refine R.wp.equ ?_
  unfold F_above B_above
  repeat (first | with_reducible refine Eq.mpr (DL.wp_eqn (e)) ?_ | with_reducible refine Eq.mpr (DL.wp_ofOs (e)) ?_ | walk_at "ev1")
  rfl
abbrev aboOk (t : Tab) (b n : Nat) : Prop := abv (ent t ((n - 1) / b * b + 1)) b 0 = abv (ent t n) b 0
theorem first_above_ok (t : Tab) (b : Nat) (hw : WT t) (hz : bsz t ≤ 70) (hb : 0 < b) (hb2 : b < 1000) :
    ∃ d, F_first_above_counter [tb t, .int b] = .ok d () ∧ ((d = .non ∧ ∀ n, b + 1 ≤ n → n ≤ bsz t → aboOk t b n) ∨ ∃ n, b + 1 ≤ n ∧ n ≤ bsz t ∧ ¬ aboOk t b n ∧ d = .tup [.str "above", .int ((n - 1) / b * b + 1 : Nat), .int n]) := by
  suffices h : (F_first_above_counter [tb t, .int b]).wp (fun d _ => (d = .non ∧ ∀ n, b + 1 ≤ n → n ≤ bsz t → aboOk t b n) ∨ ∃ n, b + 1 ≤ n ∧ n ≤ bsz t ∧ ¬ aboOk t b n ∧ d = .tup [.str "above", .int ((n - 1) / b * b + 1 : Nat), .int n]) X0 by
    obtain ⟨d, _, e, h⟩ := h.ex
    exact ⟨d, e, h⟩
  have a1 := addN b 1
  have a2 := addN (bsz t) 1
  have hrg := rg2_nat (b + 1) (bsz t + 1) (by omega) (by omega)
  unfold F_first_above_counter B_first_above_counter
  have hs : startT 4 ([tb t, .int b].map Cell.d) = [some (.d (tb t)), some (.d (.int b)), none, none] := rfl
  rw [hs]
  repeat (first | with_reducible refine Eq.mpr (DL.wp_eqn (table_size_ok t)) ?_ | with_reducible refine Eq.mpr (DL.wp_ofOs (table_size_ok t)) ?_ | with_reducible refine Eq.mpr (DL.wp_eqn (a1)) ?_ | with_reducible refine Eq.mpr (DL.wp_ofOs (a1)) ?_ | with_reducible refine Eq.mpr (DL.wp_eqn (a2)) ?_ | with_reducible refine Eq.mpr (DL.wp_ofOs (a2)) ?_ | with_reducible refine Eq.mpr (DL.wp_eqn (hrg)) ?_ | with_reducible refine Eq.mpr (DL.wp_ofOs (hrg)) ?_ | walk_at "ev1")
  refine loop_inv (fun i τ _ => (∀ n, b + 1 ≤ n → n < b + 1 + i → aboOk t b n) ∧ ∃ c c', τ = [some (.d (tb t)), some (.d (.int b)), c, c']) ⟨by omega, none, none, rfl⟩ ?_ ?_
  · rintro i d τ ω hd ⟨hI, c, c', rfl⟩
    obtain ⟨rfl, hi⟩ := rangeL_get _ _ _ _ _ hd
    refine ⟨_, rfl, ?_⟩
    have ek : ((b + 1 : Nat) : Int) + (i : Int) * 1 = ((b + 1 + i : Nat) : Int) := by push_cast; omega
    rw [ek]
    generalize hn : b + 1 + i = n
    have hn1 : n ≤ bsz t := by omega
    have hn0 : b + 1 ≤ n := by omega
    have s1 : subD (.int (n : Int)) (.int 1) = some (.int ((n - 1 : Nat) : Int)) := subN n 1 (by omega)
    have s2 := fdivN (n - 1) b hb (by omega)
    have hle := Nat.div_mul_le_self (n - 1) b
    have s3 := mulN ((n - 1) / b) b (by have := Nat.div_le_self (n - 1) b; omega)
    have s4 : addD (.int (((n - 1) / b * b : Nat) : Int)) (.int 1) = some (.int (((n - 1) / b * b + 1 : Nat) : Int)) := addN _ 1
    have n1 := entry_ok t ((n - 1) / b * b + 1) (by omega) (by omega)
    have n2 := entry_ok t n (by omega) hn1
    have z1 := hw.ent (m := (n - 1) / b * b + 1) (by omega) (by omega)
    have z2 := hw.ent (m := n) (by omega) hn1
    have v1 := above_ok b hb hb2 (ent t ((n - 1) / b * b + 1)) (by omega)
    have v2 := above_ok b hb hb2 (ent t n) (by omega)
    have hq : neD (abv (ent t ((n - 1) / b * b + 1)) b 0).enc (abv (ent t n) b 0).enc = some (.bl (!decide (aboOk t b n))) := by
      have := abv_le (ent t n) b 0
      exact neD_sh (abv (ent t ((n - 1) / b * b + 1)) b 0) (abv (ent t n) b 0) (.inr (by omega))
    repeat (first | with_reducible refine Eq.mpr (DL.wp_eqn (s1)) ?_ | with_reducible refine Eq.mpr (DL.wp_ofOs (s1)) ?_ | with_reducible refine Eq.mpr (DL.wp_eqn (s2)) ?_ | with_reducible refine Eq.mpr (DL.wp_ofOs (s2)) ?_ | with_reducible refine Eq.mpr (DL.wp_eqn (s3)) ?_ | with_reducible refine Eq.mpr (DL.wp_ofOs (s3)) ?_ | with_reducible refine Eq.mpr (DL.wp_eqn (s4)) ?_ | with_reducible refine Eq.mpr (DL.wp_ofOs (s4)) ?_ | with_reducible refine Eq.mpr (DL.wp_eqn (n1)) ?_ | with_reducible refine Eq.mpr (DL.wp_ofOs (n1)) ?_ | with_reducible refine Eq.mpr (DL.wp_eqn (n2)) ?_ | with_reducible refine Eq.mpr (DL.wp_ofOs (n2)) ?_ | with_reducible refine Eq.mpr (DL.wp_eqn (v1)) ?_ | with_reducible refine Eq.mpr (DL.wp_ofOs (v1)) ?_ | with_reducible refine Eq.mpr (DL.wp_eqn (v2)) ?_ | with_reducible refine Eq.mpr (DL.wp_ofOs (v2)) ?_ | with_reducible refine Eq.mpr (DL.wp_eqn (hq)) ?_ | with_reducible refine Eq.mpr (DL.wp_ofOs (hq)) ?_ | walk_at "ev1")
    by_cases hc : aboOk t b n
    · rw [if_neg (by simpa using hc)]
      repeat walk_at "ev1"
      refine ⟨fun m hm1 hm2 => ?_, _, _, rfl⟩
      rcases Nat.lt_or_ge m n with h | h
      · exact hI m hm1 (by omega)
      · rw [show m = n from by omega]; exact hc
    · rw [if_pos (by simpa using hc)]
      repeat walk_at "ev1"
      exact .inr ⟨n, hn0, hn1, hc, rfl⟩
  · rintro τ ω ⟨hI, c, c', rfl⟩
    rw [rangeL_len] at hI
    repeat walk_at "ev1"
    exact .inl ⟨rfl, fun n h1 h2 => hI n h1 (by omega)⟩
abbrev kk (i j : Nat) : List Key := [.inl (i : Int), .inl (j : Int)]
theorem kk_inj {i j i' j' : Nat} : kk i j = kk i' j' ↔ i = i' ∧ j = j' := by
  unfold kk; constructor
  · intro h; injection h with h1 h2; injection h2 with h2; injection h1 with h1; injection h2 with h2; omega
  · rintro ⟨rfl, rfl⟩; rfl
def orE : Option Sh → Option D → Option D
  | some x, _ => some x.enc
  | none, d => d
theorem note_parts_ok : ∀ (n : Nat) (s : Sh) (p : Nat) (ks : List (List Key)) (ds : List D), hgt s < n → ks.length = ds.length → ks.length + 2 * s.size ≤ 1000 →
    (F_note_parts n [s.enc, .int p] (.T ks, ds)).wp (fun d o => d = .int (p + s.size : Nat) ∧ ∃ ks' ds', o = (.T ks', ds') ∧ ks'.length = ds'.length ∧ ks'.length + 1 ≤ ks.length + 2 * s.size ∧ ∀ i j, lkp ks' ds' (kk i j) = if p ≤ i then orE (sub s (i - p) (j - p)) (lkp ks ds (kk i j)) else lkp ks ds (kk i j)) X0
  | 0, s, _, _, _, h, _, _ => by omega
  | n + 1, .o, p, ks, ds, h, hl, hz => by
    show (F_note_parts (n + 1) [.tup [], .int p] (.T ks, ds)).wp _ _
    unfold F_note_parts B_note_parts
    have e0 : neD (.tup []) (.tup []) = some (.bl false) := ne_same Sh.o (by decide)
    repeat (first | with_reducible refine Eq.mpr (DL.wp_eqn (e0)) ?_ | with_reducible refine Eq.mpr (DL.wp_ofOs (e0)) ?_ | with_reducible refine Eq.mpr (DL.wp_eqn (addN p 1)) ?_ | with_reducible refine Eq.mpr (DL.wp_ofOs (addN p 1)) ?_ | walk_at "ev1")
    refine sw_putTs rfl ?_
    repeat walk_at "ev1"
    refine ⟨_, ks, ds, rfl, rfl, by simp [Sh.size] at hz; omega, Nat.le_of_ble_eq_true rfl, ?_⟩
    repeat walk_at "ev1"
    refine ⟨rfl, _, _, rfl, put_len _ _ hl, ?_, fun i j => ?_⟩
    · have := putKs_le ks (kk p (p + 1)); simp only [Sh.size]; exact Nat.le_trans (Nat.succ_le_succ this) (by omega)
    · have hk := lkp_put (kk p (p + 1)) (.tup []) ks ds (kk i j) hl
      refine hk.trans ?_
      by_cases hi : p ≤ i
      · rw [if_pos hi]
        by_cases hc : kk p (p + 1) = kk i j
        · rw [if_pos hc]
          obtain ⟨rfl, rfl⟩ := kk_inj.mp hc
          simp [sub, orE, Sh.enc]
        · rw [if_neg hc]
          have : sub .o (i - p) (j - p) = none := by
            unfold sub; rw [if_neg]; intro ⟨a, b⟩; exact hc (kk_inj.mpr (by omega))
          rw [this]; rfl
      · rw [if_neg hi, if_neg]
        intro hc; obtain ⟨rfl, rfl⟩ := kk_inj.mp hc; omega
  | n + 1, .n l r, p, ks, ds, h, hl, hz => by
    simp only [hgt] at h
    simp only [Sh.size] at hz
    have l1 := Sh.size_pos l
    have r1 := Sh.size_pos r
    obtain ⟨d1, o1, e1, rfl, ks1, ds1, rfl, a1, a2, a3⟩ := (note_parts_ok n l p ks ds (by omega) hl (by omega)).ex
    obtain ⟨d2, o2, e2, rfl, ks2, ds2, rfl, b1, b2, b3⟩ := (note_parts_ok n r (p + l.size) ks1 ds1 (by omega) a1 (by omega)).ex
    show (F_note_parts (n + 1) [.tup [l.enc, r.enc], .int p] (.T ks, ds)).wp _ _
    unfold F_note_parts B_note_parts
    have e0 : neD (.tup [l.enc, r.enc]) (.tup []) = some (.bl true) := neD_sh (.n l r) .o (.inr (by decide))
    repeat (first | with_reducible refine Eq.mpr (DL.wp_eqn (e0)) ?_ | with_reducible refine Eq.mpr (DL.wp_ofOs (e0)) ?_ | with_reducible refine Eq.mpr (DL.wp_eqn (addN p 1)) ?_ | with_reducible refine Eq.mpr (DL.wp_ofOs (addN p 1)) ?_ | with_reducible refine Eq.mpr (DL.wp_eqn (e1)) ?_ | with_reducible refine Eq.mpr (DL.wp_ofOs (e1)) ?_ | with_reducible refine Eq.mpr (DL.wp_eqn (e2)) ?_ | with_reducible refine Eq.mpr (DL.wp_ofOs (e2)) ?_ | walk_at "ev1")
    refine sw_putTs rfl ?_
    repeat walk_at "ev1"
    refine ⟨_, ks2, ds2, rfl, rfl, by omega, Nat.le_of_ble_eq_true rfl, ?_⟩
    repeat walk_at "ev1"
    refine ⟨by simp only [Sh.size, Nat.add_assoc], _, _, rfl, put_len _ _ b1, ?_, fun i j => ?_⟩
    · have := putKs_le ks2 (kk p (p + l.size + r.size)); simp only [Sh.size]; exact Nat.le_trans (Nat.succ_le_succ this) (by omega)
    · refine (lkp_put (kk p (p + l.size + r.size)) (.tup [l.enc, r.enc]) ks2 ds2 (kk i j) b1).trans ?_
      by_cases hi : p ≤ i
      · rw [if_pos hi]
        by_cases hc : kk p (p + l.size + r.size) = kk i j
        · rw [if_pos hc]
          obtain ⟨rfl, rfl⟩ := kk_inj.mp hc
          have : sub (.n l r) (p - p) (p + l.size + r.size - p) = some (.n l r) := by
            unfold sub; rw [if_pos (by omega)]
          rw [this]; rfl
        · rw [if_neg hc, b3 i j, a3 i j, if_pos hi]
          have hne : ¬ (i - p = 0 ∧ j - p = l.size + r.size) := fun ⟨x, y⟩ => hc (kk_inj.mpr (by omega))
          have e : sub (.n l r) (i - p) (j - p) = if j - p ≤ l.size then sub l (i - p) (j - p) else if l.size ≤ i - p then sub r (i - p - l.size) (j - p - l.size) else none := by
            conv => lhs; unfold sub
            rw [if_neg hne]
          rw [e]
          by_cases hj : j - p ≤ l.size
          · rw [if_pos hj]
            by_cases hi2 : p + l.size ≤ i
            · rw [if_pos hi2]
              have : sub r (i - (p + l.size)) (j - (p + l.size)) = none := by
                cases q : sub r (i - (p + l.size)) (j - (p + l.size)) with
                | none => rfl
                | some x => have := sub_bd _ _ _ _ q; omega
              rw [this]; rfl
            · rw [if_neg hi2]
          · have q0 : sub l (i - p) (j - p) = none := by
              cases q : sub l (i - p) (j - p) with
              | none => rfl
              | some x => have := sub_bd _ _ _ _ q; omega
            rw [if_neg hj, q0]
            by_cases hi2 : p + l.size ≤ i
            · rw [if_pos hi2, if_pos (by omega), show i - (p + l.size) = i - p - l.size by omega, show j - (p + l.size) = j - p - l.size by omega]
              rfl
            · rw [if_neg hi2, if_neg (by omega)]
      · rw [if_neg hi, if_neg, b3 i j, a3 i j, if_neg (by omega), if_neg hi]
        intro hc; obtain ⟨rfl, rfl⟩ := kk_inj.mp hc; omega
theorem lump_parts_ok (s : Sh) (h : s.size ≤ 70) : ∃ ks ds, F_lump_parts [s.enc] = .ok (.dit ks ds) () ∧ ks.length = ds.length ∧ ks.length ≤ 2 * s.size ∧ ∀ i j, lkp ks ds (kk i j) = (sub s i j).map Sh.enc := by
  suffices h : (F_lump_parts [s.enc]).wp (fun d _ => ∃ ks ds, d = .dit ks ds ∧ ks.length = ds.length ∧ ks.length ≤ 2 * s.size ∧ ∀ i j, lkp ks ds (kk i j) = (sub s i j).map Sh.enc) X0 by
    obtain ⟨d, _, e, ks, ds, rfl, h1, h2⟩ := h.ex
    exact ⟨ks, ds, e, h1, h2⟩
  have hh := hgt_lt s
  obtain ⟨d1, o1, e1, rfl, ks1, ds1, rfl, a1, a2, a3⟩ := (note_parts_ok 70 s 0 [] [] (by omega) rfl (by simp; omega)).ex
  unfold F_lump_parts B_lump_parts
  repeat walk_at "ev1"
  refine Eq.mpr sw_newT ?_
  repeat walk_at "ev1"
  refine sw_callW rfl ?_
  repeat (first | with_reducible refine Eq.mpr (DL.wp_eqn (e1)) ?_ | with_reducible refine Eq.mpr (DL.wp_ofOs (e1)) ?_ | walk_at "ev1")
  show sw (sRetW 1 [some (.d s.enc), some (.ow (.T ks1) ds1)] ()) _
  refine Eq.mpr (sw_retW (k := .T ks1) (xs := ds1) rfl) ?_
  show ∃ ks ds, _
  refine ⟨ks1, ds1, rfl, a1, by simp at a2; omega, fun i j => ?_⟩
  rw [a3 i j, if_pos (Nat.zero_le _)]
  simp only [Nat.sub_zero, lkp]
  cases sub s i j <;> rfl
abbrev strOk (t : Tab) (b m k : Nat) : Prop := sub (ent t m) (k * b) (min (k * b + b) m) = some (ent t (min b (m - k * b)))
def faultD (t : Tab) (b m k : Nat) : D := match sub (ent t m) (k * b) (min (k * b + b) m) with
  | none => .str "lump"
  | some x => if x = ent t (min b (m - k * b)) then .non else .str "shape"
theorem faultD_non (t : Tab) (b m k : Nat) : faultD t b m k = .non ↔ strOk t b m k := by
  unfold faultD strOk
  cases sub (ent t m) (k * b) (min (k * b + b) m) with
  | none => simp
  | some x => by_cases h : x = ent t (min b (m - k * b)) <;> simp [h]
theorem faultD_str (t : Tab) (b m k : Nat) (h : ¬ strOk t b m k) : ∃ z, faultD t b m k = .str z := by
  unfold faultD
  unfold strOk at h
  cases e : sub (ent t m) (k * b) (min (k * b + b) m) with
  | none => exact ⟨_, rfl⟩
  | some x =>
    rw [e] at h
    have : ¬ x = ent t (min b (m - k * b)) := fun q => h (by rw [q])
    exact ⟨_, if_neg this⟩
theorem sub_size : ∀ (e : Sh) (i j : Nat) (x : Sh), sub e i j = some x → i + x.size = j
  | .o, i, j, x, h => by
    unfold sub at h
    split at h
    · cases h; simp only [Sh.size]; omega
    · cases h
  | .n l r, i, j, x, h => by
    unfold sub at h
    split at h
    · cases h; simp only [Sh.size]; omega
    · split at h
      · exact sub_size l i j x h
      · split at h
        · have := sub_size r _ _ x h; have := sub_bd r _ _ x h; omega
        · cases h
theorem stretch_faults_ok (t : Tab) (b m : Nat) (hw : WT t) (hz : bsz t ≤ 70) (hb : 1 ≤ b) (hb2 : b ≤ 70) (h1 : 1 ≤ m) (h2 : m ≤ bsz t) :
    F_stretch_faults [tb t, .int b, .int m] = .ok (.lst ((List.range ((m + b - 1) / b)).map (faultD t b m))) () := by
  apply R.wp.equ
  unfold F_stretch_faults B_stretch_faults
  have hs : startT 7 ([tb t, .int b, .int m].map Cell.d) = [some (.d (tb t)), some (.d (.int b)), some (.d (.int m)), none, none, none, none] := rfl
  rw [hs]
  have z1 := hw.ent h1 h2
  obtain ⟨ks, ds, e1, l1, l2, lk⟩ := lump_parts_ok (ent t m) (by omega)
  repeat (first | with_reducible refine Eq.mpr (DL.wp_eqn (entry_ok t m h1 h2)) ?_ | with_reducible refine Eq.mpr (DL.wp_ofOs (entry_ok t m h1 h2)) ?_ | with_reducible refine Eq.mpr (DL.wp_eqn (e1)) ?_ | with_reducible refine Eq.mpr (DL.wp_ofOs (e1)) ?_ | with_reducible refine Eq.mpr (DL.wp_eqn (stretches_ok m b hb (by omega) (by omega))) ?_ | with_reducible refine Eq.mpr (DL.wp_ofOs (stretches_ok m b hb (by omega) (by omega))) ?_ | walk_at "ev1")
  have hq : (m + b - 1) / b ≤ m + b - 1 := Nat.div_le_self _ _
  refine loop_inv (fun i τ _ => ∃ c5 c6, τ = [some (.d (tb t)), some (.d (.int b)), some (.d (.int m)), some (.d (.dit ks ds)), some (.ow .L ((List.range i).map (faultD t b m))), c5, c6]) ⟨none, none, rfl⟩ ?_ ?_
  · rintro i d τ ω hd ⟨c5, c6, rfl⟩
    rw [List.getElem?_map] at hd
    have hi : i < (m + b - 1) / b := by
      rcases Nat.lt_or_ge i ((m + b - 1) / b) with h | h
      · exact h
      · rw [List.getElem?_eq_none (by simpa using h)] at hd; cases hd
    rw [List.getElem?_range hi] at hd
    simp only [Option.map_some, Option.some.injEq] at hd
    subst hd
    refine ⟨_, rfl, ?_⟩
    have hlt := up_lt hb hi
    have hj : min (i * b + b) m - i * b = min b (m - i * b) := by omega
    have hkey : D.keyL [.int (i * b : Nat), .int (min (i * b + b) m : Nat)] = some (kk (i * b) (min (i * b + b) m)) := rfl
    have hlk := lk (i * b) (min (i * b + b) m)
    have hsub : subD (.int (min (i * b + b) m : Nat)) (.int (i * b : Nat)) = some (.int (min b (m - i * b) : Nat)) := by
      have := subN (min (i * b + b) m) (i * b) (by omega)
      rw [hj] at this; exact this
    have hsnoc : ∀ x : D, x = faultD t b m i → (List.range i).map (faultD t b m) ++ [x] = (List.range (i + 1)).map (faultD t b m) := fun x hx => by
      rw [List.range_succ, List.map_append, hx]; rfl
    have hlen : ((List.range i).map (faultD t b m)).length ≤ 100000 := by simp; omega
    repeat walk_at "ev1"
    refine wp_diT (fun _ => pT_d rfl) ?_
    repeat walk_at "ev1"
    refine ⟨_, hkey, Nat.le_of_ble_eq_true rfl, ?_⟩
    cases e : sub (ent t m) (i * b) (min (i * b + b) m) with
    | none =>
      rw [hlk, e]
      have hf : D.str "lump" = faultD t b m i := by unfold faultD; rw [e]
      have hbool : (D.bl (!(Option.map Sh.enc none).isSome)).bool = some true := rfl
      repeat (first | with_reducible refine Eq.mpr (DL.wp_eqn (hbool)) ?_ | with_reducible refine Eq.mpr (DL.wp_ofOs (hbool)) ?_ | walk_at "ev1")
      case hl => exact hlen
      rw [hsnoc _ hf]
      exact ⟨_, _, rfl⟩
    | some x =>
      rw [hlk, e]
      have hbool : (D.bl (!(Option.map Sh.enc (some x)).isSome)).bool = some false := rfl
      have hx := sub_size _ _ _ _ e
      have hmin1 : 1 ≤ min b (m - i * b) := by omega
      have hne := neD_sh x (ent t (min b (m - i * b))) (.inl (by omega))
      repeat (first | with_reducible refine Eq.mpr (DL.wp_eqn (hbool)) ?_ | with_reducible refine Eq.mpr (DL.wp_ofOs (hbool)) ?_ | walk_at "ev1")
      refine wp_dgT (fun _ => pT_d rfl) ?_
      repeat walk_at "ev1"
      refine ⟨_, x.enc, hkey, Nat.le_of_ble_eq_true rfl, by rw [hlk, e]; rfl, ?_⟩
      repeat (first | with_reducible refine Eq.mpr (DL.wp_eqn (hsub)) ?_ | with_reducible refine Eq.mpr (DL.wp_ofOs (hsub)) ?_ | with_reducible refine Eq.mpr (DL.wp_eqn (entry_ok t (min b (m - i * b)) hmin1 (by omega))) ?_ | with_reducible refine Eq.mpr (DL.wp_ofOs (entry_ok t (min b (m - i * b)) hmin1 (by omega))) ?_ | with_reducible refine Eq.mpr (DL.wp_eqn (hne)) ?_ | with_reducible refine Eq.mpr (DL.wp_ofOs (hne)) ?_ | walk_at "ev1")
      by_cases hc : x = ent t (min b (m - i * b))
      · have hf : D.non = faultD t b m i := by unfold faultD; rw [e]; simp [hc]
        rw [if_neg (by simpa using hc)]
        repeat walk_at "ev1"
        case hl => exact hlen
        rw [hsnoc _ hf]
        exact ⟨_, _, rfl⟩
      · have hf : D.str "shape" = faultD t b m i := by unfold faultD; rw [e]; simp [hc]
        rw [if_pos (by simpa using hc)]
        repeat walk_at "ev1"
        case hl => exact hlen
        rw [hsnoc _ hf]
        exact ⟨_, _, rfl⟩
  · rintro τ ω ⟨c5, c6, rfl⟩
    repeat walk_at "ev1"
    simp
theorem first_stretch_ok (t : Tab) (b : Nat) (hw : WT t) (hz : bsz t ≤ 70) (hb : 1 ≤ b) (hb2 : b ≤ 70) :
    ∃ d, F_first_stretch_counter [tb t, .int b] = .ok d () ∧ ((d = .non ∧ ∀ m, 2 ≤ m → m ≤ bsz t → ∀ k, k * b < m → strOk t b m k) ∨ ∃ m k, 2 ≤ m ∧ m ≤ bsz t ∧ k * b < m ∧ ¬ strOk t b m k ∧ d = .tup [faultD t b m k, .int m, .int k]) := by
  suffices h : (F_first_stretch_counter [tb t, .int b]).wp (fun d _ => (d = .non ∧ ∀ m, 2 ≤ m → m ≤ bsz t → ∀ k, k * b < m → strOk t b m k) ∨ ∃ m k, 2 ≤ m ∧ m ≤ bsz t ∧ k * b < m ∧ ¬ strOk t b m k ∧ d = .tup [faultD t b m k, .int m, .int k]) X0 by
    obtain ⟨d, _, e, h⟩ := h.ex
    exact ⟨d, e, h⟩
  unfold F_first_stretch_counter B_first_stretch_counter
  have hs : startT 5 ([tb t, .int b].map Cell.d) = [some (.d (tb t)), some (.d (.int b)), none, none, none] := rfl
  rw [hs]
  have hrg : rg2 [.int 2, .int (bsz t + 1 : Nat)] = some (rangeL 2 1 (bsz t + 1 - 2)) := rg2_nat 2 (bsz t + 1) (by omega) (by omega)
  repeat (first | with_reducible refine Eq.mpr (DL.wp_eqn (table_size_ok t)) ?_ | with_reducible refine Eq.mpr (DL.wp_ofOs (table_size_ok t)) ?_ | with_reducible refine Eq.mpr (DL.wp_eqn (addN (bsz t) 1)) ?_ | with_reducible refine Eq.mpr (DL.wp_ofOs (addN (bsz t) 1)) ?_ | with_reducible refine Eq.mpr (DL.wp_eqn (hrg)) ?_ | with_reducible refine Eq.mpr (DL.wp_ofOs (hrg)) ?_ | walk_at "ev1")
  refine loop_inv (fun i τ _ => (∀ m, 2 ≤ m → m < 2 + i → ∀ k, k * b < m → strOk t b m k) ∧ ∃ c2 c3 c4, τ = [some (.d (tb t)), some (.d (.int b)), c2, c3, c4]) ⟨by omega, none, none, none, rfl⟩ ?_ ?_
  · rintro i d τ ω hd ⟨hI, c2, c3, c4, rfl⟩
    obtain ⟨rfl, hi⟩ := rangeL_get _ _ _ _ _ hd
    refine ⟨_, rfl, ?_⟩
    have ek : (2 : Int) + (i : Int) * 1 = ((2 + i : Nat) : Int) := by push_cast; omega
    rw [ek]
    have hf := stretch_faults_ok t b (2 + i) hw hz hb hb2 (by omega) (by omega)
    repeat walk_at "ev1"
    refine Eq.mpr wp_enu ?_
    have hit : ∀ xs : List D, (D.lst xs).itemsS.map (enumL 0) = some (enumL 0 xs) := fun _ => rfl
    repeat (first | with_reducible refine Eq.mpr (DL.wp_eqn (hf)) ?_ | with_reducible refine Eq.mpr (DL.wp_ofOs (hf)) ?_ | with_reducible refine Eq.mpr (DL.wp_eqn (hit _)) ?_ | with_reducible refine Eq.mpr (DL.wp_ofOs (hit _)) ?_ | walk_at "ev1")
    refine loop_inv (fun j τ _ => (∀ k, k < j → strOk t b (2 + i) k) ∧ ∃ c3 c4, τ = [some (.d (tb t)), some (.d (.int b)), some (.d (.int (2 + i : Nat))), c3, c4]) ⟨by omega, c3, c4, rfl⟩ ?_ ?_
    · rintro j d τ ω hd ⟨hJ, c3, c4, rfl⟩
      obtain ⟨d', h1, rfl⟩ := enumL_get _ 0 j d hd
      rw [List.getElem?_map] at h1
      have hj : j < ((2 + i) + b - 1) / b := by
        rcases Nat.lt_or_ge j (((2 + i) + b - 1) / b) with h | h
        · exact h
        · rw [List.getElem?_eq_none (by simpa using h)] at h1; cases h1
      rw [List.getElem?_range hj] at h1
      simp only [Option.map_some, Option.some.injEq] at h1
      subst h1
      refine ⟨_, rfl, ?_⟩
      rw [Nat.zero_add]
      by_cases hc : strOk t b (2 + i) j
      · have e0 := (faultD_non t b (2 + i) j).mpr hc
        have e1 : notND (faultD t b (2 + i) j) .non = some (.bl false) := by rw [e0]; rfl
        repeat (first | with_reducible refine Eq.mpr (DL.wp_eqn (e1)) ?_ | with_reducible refine Eq.mpr (DL.wp_ofOs (e1)) ?_ | walk_at "ev1")
        refine ⟨fun k hk => ?_, _, _, rfl⟩
        rcases Nat.lt_or_ge k j with h | h
        · exact hJ k h
        · rw [show k = j by omega]; exact hc
      · obtain ⟨z, ez⟩ := faultD_str t b (2 + i) j hc
        have e1 : notND (faultD t b (2 + i) j) .non = some (.bl true) := by rw [ez]; rfl
        repeat (first | with_reducible refine Eq.mpr (DL.wp_eqn (e1)) ?_ | with_reducible refine Eq.mpr (DL.wp_ofOs (e1)) ?_ | walk_at "ev1")
        exact .inr ⟨2 + i, j, by omega, by omega, up_lt hb hj, hc, rfl⟩
    · rintro τ ω ⟨hJ, c3, c4, rfl⟩
      refine ⟨fun m h1 h2 k hk => ?_, _, _, _, rfl⟩
      rcases Nat.lt_or_ge m (2 + i) with h | h
      · exact hI m h1 h k hk
      · have : m = 2 + i := by omega
        subst this
        refine hJ k ?_
        rw [enumL_len, List.length_map, List.length_range]
        rw [Nat.lt_iff_add_one_le, Nat.le_div_iff_mul_le hb, Nat.add_mul]; omega
  · rintro τ ω ⟨hI, c2, c3, c4, rfl⟩
    rw [rangeL_len] at hI
    repeat walk_at "ev1"
    exact .inl ⟨rfl, fun m h1 h2 => hI m h1 (by omega)⟩
theorem lc_filt {Ω α : Type} {B : D → Tau → Option Tau} {Ft : E Ω Bool} {Fe : E Ω D} {τ : Tau} {ω : Ω} {P : List D → Ω → Prop} (f : α → D) (xs : List α) (p : α → Bool) (g : α → D)
    (step : ∀ k ∈ xs, ∃ τ1, B (f k) τ = some τ1 ∧ (Ft τ1 ω).wp (fun b ω1 => b = p k ∧ ω1 = ω ∧ (p k = true → (Fe τ1 ω).wp (fun x ω2 => x = g k ∧ ω2 = ω) X0)) X0)
    (fin : P ((xs.filter p).map g) ω) : (lcL B Ft Fe τ (xs.map f) ω).wp P X0 := by
  refine lc_inv (fun i acc ω' => acc = ((xs.take i).filter p).map g ∧ ω' = ω) ⟨by simp, rfl⟩ ?_ ?_
  · rintro i d acc ω' hd ⟨rfl, rfl⟩
    have hi : i < xs.length := by have := (List.getElem?_eq_some_iff.mp hd).1; simpa using this
    rw [List.getElem?_map, List.getElem?_eq_getElem hi] at hd
    cases hd
    obtain ⟨τ1, e, h⟩ := step xs[i] (List.getElem_mem hi)
    refine ⟨τ1, e, h.mono fun b ω1 ⟨hb, hw, hk⟩ => ?_⟩
    subst hb hw
    rw [List.take_succ_eq_append_getElem hi, List.filter_append]
    cases hp : p xs[i] with
    | true =>
      rw [if_pos rfl]
      refine (hk hp).mono fun x ω2 ⟨hx, hw⟩ => ?_
      subst hx hw
      simp [hp]
    | false =>
      rw [if_neg (by simp)]
      simp [hp]
  · rintro acc ω' ⟨rfl, rfl⟩
    rw [List.length_map, List.take_length]
    exact fin
theorem lc_all {Ω α : Type} {B : D → Tau → Option Tau} {Fe : E Ω D} {τ : Tau} {ω : Ω} {P : List D → Ω → Prop} (f : α → D) (xs : List α) (g : α → D)
    (step : ∀ k ∈ xs, ∃ τ1, B (f k) τ = some τ1 ∧ (Fe τ1 ω).wp (fun x ω2 => x = g k ∧ ω2 = ω) X0)
    (fin : P (xs.map g) ω) : (lcL B bYes Fe τ (xs.map f) ω).wp P X0 := by
  refine lc_filt f xs (fun _ => true) g (fun k hk => ?_) (by rw [List.filter_eq_self.mpr fun _ _ => rfl]; exact fin)
  obtain ⟨τ1, e, h⟩ := step k hk
  refine ⟨τ1, e, ?_⟩
  show R.wp (R.ok true ω) _ _
  rw [wp_ok]
  exact ⟨rfl, rfl, fun _ => h⟩
theorem all_true (n : Nat) {xs : List D} (h : ∀ x ∈ xs, x = .bl true) : un1 allD [.lst xs] = some (.bl true) := by
  show (D.toBools xs).map (fun bs => D.bl (bs.all id)) = _
  have e : xs = (List.replicate xs.length true).map D.bl := by
    rw [List.map_replicate]
    exact List.eq_replicate_iff.mpr ⟨rfl, h⟩
  rw [e, toBools_of]
  simp
theorem entries_counter_ok (t : Tab) (b : Nat) (hw : WT t) (hz : bsz t ≤ 70) (hb : 1 ≤ b) (hb2 : b ≤ 70) :
    ∃ d, F_entries_counter [tb t, .int b] = .ok d () ∧ ((d = .non ∧ (∀ m, 2 ≤ m → m ≤ bsz t → ∀ k, k * b < m → strOk t b m k) ∧ ∀ n, b + 1 ≤ n → n ≤ bsz t → aboOk t b n)
      ∨ (∃ m k, 2 ≤ m ∧ m ≤ bsz t ∧ k * b < m ∧ ¬ strOk t b m k ∧ d = .tup [faultD t b m k, .int m, .int k])
      ∨ ((∀ m, 2 ≤ m → m ≤ bsz t → ∀ k, k * b < m → strOk t b m k) ∧ ∃ n, b + 1 ≤ n ∧ n ≤ bsz t ∧ ¬ aboOk t b n ∧ d = .tup [.str "above", .int ((n - 1) / b * b + 1 : Nat), .int n])) := by
  obtain ⟨d1, e1, h1⟩ := first_stretch_ok t b hw hz hb hb2
  obtain ⟨d2, e2, h2⟩ := first_above_ok t b hw hz hb (by omega)
  rcases h1 with ⟨rfl, h1⟩ | ⟨m, k, a1, a2, a3, a4, rfl⟩
  · refine ⟨d2, ?_, ?_⟩
    · apply R.wp.equ
      unfold F_entries_counter B_entries_counter
      have e3 : isND .non .non = some (.bl true) := rfl
      repeat (first | with_reducible refine Eq.mpr (DL.wp_eqn (e1)) ?_ | with_reducible refine Eq.mpr (DL.wp_ofOs (e1)) ?_ | with_reducible refine Eq.mpr (DL.wp_eqn (e3)) ?_ | with_reducible refine Eq.mpr (DL.wp_ofOs (e3)) ?_ | with_reducible refine Eq.mpr (DL.wp_eqn (e2)) ?_ | with_reducible refine Eq.mpr (DL.wp_ofOs (e2)) ?_ | walk_at "ev1")
      rfl
    · rcases h2 with ⟨rfl, h2⟩ | h2
      · exact .inl ⟨rfl, h1, h2⟩
      · exact .inr (.inr ⟨h1, h2⟩)
  · refine ⟨_, ?_, .inr (.inl ⟨m, k, a1, a2, a3, a4, rfl⟩)⟩
    apply R.wp.equ
    unfold F_entries_counter B_entries_counter
    have e3 : ∀ xs : List D, isND (.tup xs) .non = some (.bl false) := fun _ => rfl
    repeat (first | with_reducible refine Eq.mpr (DL.wp_eqn (e1)) ?_ | with_reducible refine Eq.mpr (DL.wp_ofOs (e1)) ?_ | with_reducible refine Eq.mpr (DL.wp_eqn (e3 _)) ?_ | with_reducible refine Eq.mpr (DL.wp_ofOs (e3 _)) ?_ | walk_at "ev1")
    rfl
theorem counter_ok (t : Tab) (b : Nat) (hw : WT t) (hz : bsz t ≤ 70) (hb : 1 ≤ b) (hb2 : b ≤ 70) :
    ∃ d, F_counter [tb t, .int b] = .ok d () ∧ ((d = .non ∧ CutAt t b) ∨ (¬ CutAt t b ∧ (d = .tup [.str "size"] ∧ bsz t % b ≠ 0 ∨ bsz t % b = 0 ∧
      ((∃ m k, 2 ≤ m ∧ m ≤ bsz t ∧ k * b < m ∧ ¬ strOk t b m k ∧ d = .tup [faultD t b m k, .int m, .int k])
      ∨ ((∀ m, 2 ≤ m → m ≤ bsz t → ∀ k, k * b < m → strOk t b m k) ∧ ∃ n, b + 1 ≤ n ∧ n ≤ bsz t ∧ ¬ aboOk t b n ∧ d = .tup [.str "above", .int ((n - 1) / b * b + 1 : Nat), .int n]))))) := by
  obtain ⟨d1, e1, h1⟩ := entries_counter_ok t b hw hz hb hb2
  have hm := modN (bsz t) b (by omega)
  have hn : neD (.int (bsz t % b : Nat)) (.int 0) = some (.bl (decide (bsz t % b ≠ 0))) := by
    generalize bsz t % b = r
    rw [neD_int, ← decide_not]
    exact congrArg (fun b => some (D.bl b)) (decide_eq_decide.mpr (by omega))
  by_cases hc : bsz t % b = 0
  · refine ⟨d1, ?_, ?_⟩
    · apply R.wp.equ
      unfold F_counter B_counter
      have hn' : neD (.int (bsz t % b : Nat)) (.int 0) = some (.bl false) := by rw [hn, hc]; rfl
      repeat (first | with_reducible refine Eq.mpr (DL.wp_eqn (table_size_ok t)) ?_ | with_reducible refine Eq.mpr (DL.wp_ofOs (table_size_ok t)) ?_ | with_reducible refine Eq.mpr (DL.wp_eqn (hm)) ?_ | with_reducible refine Eq.mpr (DL.wp_ofOs (hm)) ?_ | with_reducible refine Eq.mpr (DL.wp_eqn (hn')) ?_ | with_reducible refine Eq.mpr (DL.wp_ofOs (hn')) ?_ | with_reducible refine Eq.mpr (DL.wp_eqn (e1)) ?_ | with_reducible refine Eq.mpr (DL.wp_ofOs (e1)) ?_ | walk_at "ev1")
      rfl
    · rcases h1 with ⟨rfl, h1, h2⟩ | ⟨m, k, a1, a2, a3, a4, rfl⟩ | ⟨h1, n, a1, a2, a3, rfl⟩
      · exact .inl ⟨rfl, hc, h1, h2⟩
      · exact .inr ⟨fun h => a4 (h.str m a1 a2 k a3), .inr ⟨hc, .inl ⟨m, k, a1, a2, a3, a4, rfl⟩⟩⟩
      · exact .inr ⟨fun h => a3 (h.abo n a1 a2), .inr ⟨hc, .inr ⟨h1, n, a1, a2, a3, rfl⟩⟩⟩
  · refine ⟨_, ?_, .inr ⟨fun h => hc h.dvd, .inl ⟨rfl, hc⟩⟩⟩
    apply R.wp.equ
    unfold F_counter B_counter
    have hn' : neD (.int (bsz t % b : Nat)) (.int 0) = some (.bl true) := by rw [hn, decide_eq_true hc]
    repeat (first | with_reducible refine Eq.mpr (DL.wp_eqn (table_size_ok t)) ?_ | with_reducible refine Eq.mpr (DL.wp_ofOs (table_size_ok t)) ?_ | with_reducible refine Eq.mpr (DL.wp_eqn (hm)) ?_ | with_reducible refine Eq.mpr (DL.wp_ofOs (hm)) ?_ | with_reducible refine Eq.mpr (DL.wp_eqn (hn')) ?_ | with_reducible refine Eq.mpr (DL.wp_ofOs (hn')) ?_ | walk_at "ev1")
    rfl
theorem counter_nf {t : Tab} {b : Nat} {d : D} (h : (d = .non ∧ CutAt t b) ∨ (¬ CutAt t b ∧ (d = .tup [.str "size"] ∧ bsz t % b ≠ 0 ∨ bsz t % b = 0 ∧
      ((∃ m k, 2 ≤ m ∧ m ≤ bsz t ∧ k * b < m ∧ ¬ strOk t b m k ∧ d = .tup [faultD t b m k, .int m, .int k])
      ∨ ((∀ m, 2 ≤ m → m ≤ bsz t → ∀ k, k * b < m → strOk t b m k) ∧ ∃ n, b + 1 ≤ n ∧ n ≤ bsz t ∧ ¬ aboOk t b n ∧ d = .tup [.str "above", .int ((n - 1) / b * b + 1 : Nat), .int n]))))) :
    (d = .non ∧ CutAt t b) ∨ (¬ CutAt t b ∧ ∃ xs, d = .tup xs) := by
  rcases h with h | ⟨h, ⟨rfl, _⟩ | ⟨_, ⟨m, k, _, _, _, _, rfl⟩ | ⟨_, n, _, _, _, rfl⟩⟩⟩
  · exact .inl h
  · exact .inr ⟨h, _, rfl⟩
  · exact .inr ⟨h, _, rfl⟩
  · exact .inr ⟨h, _, rfl⟩
theorem table_above_ok (t : Tab) (b q : Nat) (hw : WT t) (hz : bsz t ≤ 70) (hb : 1 ≤ b) (hb2 : b ≤ 70) (hq : b * q ≤ bsz t) (hq1 : 1 ≤ q) :
    F_table_above [tb t, .int b, .int q] = .ok (tb ((List.range (q - 1)).map fun i => abv (ent t (b * (i + 2))) b 0)) () := by
  apply R.wp.equ
  unfold F_table_above B_table_above
  have hq70 : q ≤ 70 := Nat.le_trans (Nat.le_mul_of_pos_left q hb) (by omega)
  have hrg : rg2 [.int 2, .int (q + 1 : Nat)] = some (rangeL 2 1 (q + 1 - 2)) := rg2_nat 2 (q + 1) (by omega) (by omega)
  repeat (first | with_reducible refine Eq.mpr (DL.wp_eqn (addN q 1)) ?_ | with_reducible refine Eq.mpr (DL.wp_ofOs (addN q 1)) ?_ | with_reducible refine Eq.mpr (DL.wp_eqn (hrg)) ?_ | with_reducible refine Eq.mpr (DL.wp_ofOs (hrg)) ?_ | walk_at "ev1")
  refine ⟨by rw [rangeL_len]; have := sizeLine_eq; omega, lc_map (fun i => (abv (ent t (b * (i + 2))) b 0).enc) (fun i d hd => ?_) ?_⟩
  · obtain ⟨rfl, hi⟩ := rangeL_get _ _ _ _ _ hd
    refine ⟨_, rfl, ?_⟩
    have ek : (2 : Int) + (i : Int) * 1 = ((i + 2 : Nat) : Int) := by push_cast; omega
    rw [ek]
    have hle : b * (i + 2) ≤ bsz t := Nat.le_trans (Nat.mul_le_mul_left b (by omega)) hq
    have hge : 1 ≤ b * (i + 2) := Nat.mul_pos (by omega) (by omega)
    have hs := hw.ent hge hle
    repeat (first | with_reducible refine Eq.mpr (DL.wp_eqn (mulN b (i + 2) (by omega))) ?_ | with_reducible refine Eq.mpr (DL.wp_ofOs (mulN b (i + 2) (by omega))) ?_ | with_reducible refine Eq.mpr (DL.wp_eqn (entry_ok t (b * (i + 2)) hge hle)) ?_ | with_reducible refine Eq.mpr (DL.wp_ofOs (entry_ok t (b * (i + 2)) hge hle)) ?_ | with_reducible refine Eq.mpr (DL.wp_eqn (above_ok b (by omega) (by omega) (ent t (b * (i + 2))) (by omega))) ?_ | with_reducible refine Eq.mpr (DL.wp_ofOs (above_ok b (by omega) (by omega) (ent t (b * (i + 2))) (by omega))) ?_ | walk_at "ev1")
    exact ⟨rfl, rfl⟩
  · rw [rangeL_len]
    have e : ∀ xs : List D, un1 tupleD [.lst xs] = some (.tup xs) := fun _ => rfl
    repeat (first | with_reducible refine Eq.mpr (DL.wp_eqn (e _)) ?_ | with_reducible refine Eq.mpr (DL.wp_ofOs (e _)) ?_ | walk_at "ev1")
    show D.tup _ = tb _
    unfold tb
    rw [List.map_map, show q + 1 - 2 = q - 1 by omega]
    rfl
theorem sl_le {n : Nat} (h : n ≤ 1000) : n ≤ sizeLine := by rw [sizeLine_eq]; omega
theorem sl_tb_to (t : Tab) (j : Nat) : sliceD (tb t) none (some (j : Int)) = some (tb (t.take j)) := by
  show some (D.tup (cutL (t.map Sh.enc) none (some (j : Int)))) = _
  rw [cut_to, ← List.map_take]
theorem pick_nat (ω : Src) (many : Nat) (h1 : 1 ≤ many) (h2 : many < 1000000) : ∃ (r : Nat) (ω' : Src), F_law_pick [.int (many : Nat)] ω = .ok (.int (r : Nat)) ω' ∧ r < many := by
  obtain ⟨r, ω', e, h3, h4⟩ := pick_ok ω (many : Int) (by omega) (by omega)
  exact ⟨r.toNat, ω', by rw [e]; congr 2; omega, by omega⟩
theorem gd_tab {t : Tab} (hw : WT t) (hz : bsz t ≤ 60) : Gd (Enc.py t) 60000 61 := by
  have g : Gd (.tuple (t.map Sh.py)) _ _ := Gd.tup (b := 14 * 60) (d := 60) (xs := t) fun s hs => by
    obtain ⟨i, hi, e⟩ := List.mem_iff_getElem.mp hs
    have := hw.2 i s (by rw [List.getElem?_eq_getElem hi, e])
    unfold bsz at hz
    exact (Gd.shp s).le (by omega) (by omega)
  refine g.le ?_ (by omega)
  have : t.length * (14 * 60 + 2) ≤ 60 * (14 * 60 + 2) := Nat.mul_le_mul_right _ (by unfold bsz at hz; omega)
  omega
theorem iteP {c : Prop} [Decidable c] {a b : Prop} (h : c) (k : a) : if c then a else b := by rw [if_pos h]; exact k
theorem iteN {c : Prop} [Decidable c] {a b : Prop} (h : ¬ c) (k : b) : if c then a else b := by rw [if_neg h]; exact k
theorem law_size_ok : ∀ (n : Nat) (s : Sh), hgt s < n → F_law_size n [s.enc] = .ok (.int s.size) ()
  | 0, _, h => by omega
  | n + 1, .o, _ => by
    refine R.wp.equ ?_
    show (F_law_size (n + 1) [.tup []]).wp _ _
    unfold F_law_size B_law_size
    repeat (first | with_reducible refine Eq.mpr (DL.wp_eqn (eqO_o)) ?_ | with_reducible refine Eq.mpr (DL.wp_ofOs (eqO_o)) ?_ | walk_at "ev1")
    rfl
  | n + 1, .n l r, h => by
    simp only [hgt] at h
    have e1 := law_size_ok n l (by omega)
    have e2 := law_size_ok n r (by omega)
    refine R.wp.equ ?_
    show (F_law_size (n + 1) [.tup [l.enc, r.enc]]).wp _ _
    unfold F_law_size B_law_size
    repeat (first | with_reducible refine Eq.mpr (DL.wp_eqn (eqO_n l r)) ?_ | with_reducible refine Eq.mpr (DL.wp_ofOs (eqO_n l r)) ?_ | with_reducible refine Eq.mpr (DL.wp_eqn (e1)) ?_ | with_reducible refine Eq.mpr (DL.wp_ofOs (e1)) ?_ | with_reducible refine Eq.mpr (DL.wp_eqn (e2)) ?_ | with_reducible refine Eq.mpr (DL.wp_ofOs (e2)) ?_ | with_reducible refine Eq.mpr (DL.wp_eqn (addN _ _)) ?_ | with_reducible refine Eq.mpr (DL.wp_ofOs (addN _ _)) ?_ | walk_at "ev1")
    rfl
theorem law_entry_ok (t : Tab) (m : Nat) (h1 : 1 ≤ m) (h2 : m ≤ bsz t) : F_law_entry [tb t, .int m] = .ok (ent t m).enc () := by
  apply R.wp.equ
  unfold F_law_entry B_law_entry
  by_cases h : m = 1
  · subst h
    have e0 : eqD (.int ((1 : Nat) : Int)) (.int 1) = some (.bl true) := eqD_int 1 1
    repeat (first | with_reducible refine Eq.mpr (DL.wp_eqn (e0)) ?_ | with_reducible refine Eq.mpr (DL.wp_ofOs (e0)) ?_ | walk_at "ev1")
    rfl
  · have e0 : eqD (.int (m : Int)) (.int 1) = some (.bl false) := by
      rw [eqD_int]; congr 2; simp; omega
    have hlt : m - 2 < t.length := by unfold bsz at h2; omega
    have es : subD (.int (m : Int)) (.int 2) = some (.int ((m - 2 : Nat) : Int)) := subN m 2 (by omega)
    have e : ixD (.tup (t.map Sh.enc)) (.int ((m - 2 : Nat) : Int)) = some (ent t m).enc := by
      refine ix_tup (k := m - 2) rfl (map_get ?_)
      unfold ent
      rw [if_neg (by omega), List.getD_eq_getElem?_getD, List.getElem?_eq_getElem hlt]
      rfl
    repeat (first | with_reducible refine Eq.mpr (DL.wp_eqn (e0)) ?_ | with_reducible refine Eq.mpr (DL.wp_ofOs (e0)) ?_ | with_reducible refine Eq.mpr (DL.wp_eqn (es)) ?_ | with_reducible refine Eq.mpr (DL.wp_ofOs (es)) ?_ | with_reducible refine Eq.mpr (DL.wp_eqn (e)) ?_ | with_reducible refine Eq.mpr (DL.wp_ofOs (e)) ?_ | walk_at "ev1")
    rfl
theorem sl_to (row : List Sh) (j : Nat) : sliceD (rowD row) none (some (j : Int)) = some (rowD (row.take j)) := by
  show some (D.lst (cutL (row.map Sh.enc) none (some (j : Int)))) = _
  rw [cut_to, ← List.map_take]
theorem sl_from (row : List Sh) (j : Nat) : sliceD (rowD row) (some (j : Int)) none = some (rowD (row.drop j)) := by
  show some (D.lst (cutL (row.map Sh.enc) (some (j : Int)) none)) = _
  rw [cut_from, ← List.map_drop]
theorem law_filled_ok : ∀ (n : Nat) (s : Sh) (ps : List Sh), hgt s < n → s.size ≤ 70 → s.size ≤ ps.length → F_law_filled n [s.enc, rowD ps] = .ok (fill s ps).enc ()
  | 0, _, _, h, _, _ => by omega
  | n + 1, .o, ps, _, _, hl => by
    refine R.wp.equ ?_
    show (F_law_filled (n + 1) [.tup [], rowD ps]).wp _ _
    unfold F_law_filled B_law_filled
    cases ps with
    | nil => simp [Sh.size] at hl
    | cons p ps =>
      have e : ixD (rowD (p :: ps)) (.int 0) = some p.enc := ix_lst (k := 0) rfl rfl
      repeat (first | with_reducible refine Eq.mpr (DL.wp_eqn (eqO_o)) ?_ | with_reducible refine Eq.mpr (DL.wp_ofOs (eqO_o)) ?_ | with_reducible refine Eq.mpr (DL.wp_eqn (e)) ?_ | with_reducible refine Eq.mpr (DL.wp_ofOs (e)) ?_ | walk_at "ev1")
      rfl
  | n + 1, .n l r, ps, h, hz, hl => by
    simp only [hgt] at h
    simp only [Sh.size] at hz hl
    have h1 := hgt_lt l
    have e0 := law_size_ok 70 l (by omega)
    have e1 := law_filled_ok n l (ps.take l.size) (by omega) (by omega) (by rw [List.length_take]; omega)
    have e2 := law_filled_ok n r (ps.drop l.size) (by omega) (by omega) (by rw [List.length_drop]; omega)
    refine R.wp.equ ?_
    show (F_law_filled (n + 1) [.tup [l.enc, r.enc], rowD ps]).wp _ _
    unfold F_law_filled B_law_filled
    repeat (first | with_reducible refine Eq.mpr (DL.wp_eqn (eqO_n l r)) ?_ | with_reducible refine Eq.mpr (DL.wp_ofOs (eqO_n l r)) ?_ | with_reducible refine Eq.mpr (DL.wp_eqn (e0)) ?_ | with_reducible refine Eq.mpr (DL.wp_ofOs (e0)) ?_ | with_reducible refine Eq.mpr (DL.wp_eqn (sl_to ps l.size)) ?_ | with_reducible refine Eq.mpr (DL.wp_ofOs (sl_to ps l.size)) ?_ | with_reducible refine Eq.mpr (DL.wp_eqn (sl_from ps l.size)) ?_ | with_reducible refine Eq.mpr (DL.wp_ofOs (sl_from ps l.size)) ?_ | with_reducible refine Eq.mpr (DL.wp_eqn (e1)) ?_ | with_reducible refine Eq.mpr (DL.wp_ofOs (e1)) ?_ | with_reducible refine Eq.mpr (DL.wp_eqn (e2)) ?_ | with_reducible refine Eq.mpr (DL.wp_ofOs (e2)) ?_ | walk_at "ev1")
    rw [fill_take l ps l.size (Nat.le_refl _)]
    rfl
theorem len_row (r : List Sh) : un1 lenD [rowD r] = some (.int (r.length : Nat)) := by
  show some (D.int ((r.map Sh.enc).length : Nat)) = _
  rw [List.length_map]
theorem law_stretches_ok (m b : Nat) (hb : 1 ≤ b) (h1 : b ≤ 20000) (h2 : m ≤ 20000) : F_law_stretches [.int m, .int b] = .ok (.lst ((stP m b).map pD)) () := by
  apply R.wp.equ
  unfold F_law_stretches B_law_stretches
  have hs : startT 5 ([.int m, .int b].map Cell.d) = [some (.d (.int m)), some (.d (.int b)), none, none, none] := rfl
  rw [hs]
  have hr := rg1_nat m (by omega)
  repeat (first | with_reducible refine Eq.mpr (DL.wp_eqn (hr)) ?_ | with_reducible refine Eq.mpr (DL.wp_ofOs (hr)) ?_ | walk_at "ev1")
  refine loop_inv (fun i τ _ => ∃ c4, τ = [some (.d (.int m)), some (.d (.int b)), some (.ow .L (((stP m b).take i).map pD)), some (.d (.int (i * b : Nat))), c4]) ⟨none, by rw [Nat.zero_mul]; rfl⟩ ?_ ?_
  · rintro i d τ ω hd ⟨c4, rfl⟩
    refine ⟨_, rfl, ?_⟩
    have hadd := addN (i * b) b
    have hmin := min2N (i * b + b) m
    have es : (i + 1) * b = i * b + b := by rw [Nat.add_mul, Nat.one_mul]
    have hle := stP_le m b hb
    repeat walk_at "ev1"
    by_cases h : i * b < m
    · rw [if_pos (decide_eq_true (Int.ofNat_lt.mpr h))]
      repeat (first | with_reducible refine Eq.mpr (DL.wp_eqn (hadd)) ?_ | with_reducible refine Eq.mpr (DL.wp_ofOs (hadd)) ?_ | with_reducible refine Eq.mpr (DL.wp_eqn (hmin)) ?_ | with_reducible refine Eq.mpr (DL.wp_ofOs (hmin)) ?_ | walk_at "ev1")
      case hl => rw [List.length_map, List.length_take]; omega
      rw [take_succ', stP_get hb h, List.map_append, es]
      exact ⟨_, rfl⟩
    · rw [if_neg (by simpa using (Int.ofNat_le.mpr (Nat.not_lt.mp h)))]
      repeat (first | with_reducible refine Eq.mpr (DL.wp_eqn (hadd)) ?_ | with_reducible refine Eq.mpr (DL.wp_ofOs (hadd)) ?_ | walk_at "ev1")
      have hl := stP_end hb (Nat.not_lt.mp h)
      rw [List.take_of_length_le (show (stP m b).length ≤ i + 1 by omega), es, List.take_of_length_le hl]
      exact ⟨_, rfl⟩
  · rintro τ ω ⟨c4, rfl⟩
    rw [rangeL_len]
    repeat walk_at "ev1"
    rw [List.take_of_length_le (stP_le m b hb)]
theorem law_glued_ok (s u : Tab) (hs : WT s) (hu : WT u) (h1 : bsz s ≤ 70) (h2 : bsz u ≤ 70) (h3 : bsz s * bsz u ≤ 70) : F_law_glued [tb s, tb u] = .ok (tb (glu s u)) () := by
  apply R.wp.equ
  unfold F_law_glued B_law_glued
  have hs0 : startT 7 ([tb s, tb u].map Cell.d) = [some (.d (tb s)), some (.d (tb u)), none, none, none, none, none] := rfl
  rw [hs0]
  have hm := mulN (bsz s) (bsz u) (by omega)
  have a1 : addD (.int (s.length : Nat)) (.int 1) = some (.int (bsz s : Nat)) := addN s.length 1
  have a2 : addD (.int (u.length : Nat)) (.int 1) = some (.int (bsz u : Nat)) := addN u.length 1
  have a3 : addD (.int (bsz s * bsz u : Nat)) (.int 1) = some (.int (bsz s * bsz u + 1 : Nat)) := addN (bsz s * bsz u) 1
  have hrg : rg2 [.int 2, .int (bsz s * bsz u + 1 : Nat)] = some (rangeL 2 1 (bsz s * bsz u + 1 - 2)) := rg2_nat 2 (bsz s * bsz u + 1) (by omega) (by omega)
  have hb : 0 < bsz s := by simp [bsz]
  repeat (first | with_reducible refine Eq.mpr (DL.wp_eqn (len_tb s)) ?_ | with_reducible refine Eq.mpr (DL.wp_ofOs (len_tb s)) ?_ | with_reducible refine Eq.mpr (DL.wp_eqn (len_tb u)) ?_ | with_reducible refine Eq.mpr (DL.wp_ofOs (len_tb u)) ?_ | with_reducible refine Eq.mpr (DL.wp_eqn (a1)) ?_ | with_reducible refine Eq.mpr (DL.wp_ofOs (a1)) ?_ | with_reducible refine Eq.mpr (DL.wp_eqn (a2)) ?_ | with_reducible refine Eq.mpr (DL.wp_ofOs (a2)) ?_ | with_reducible refine Eq.mpr (DL.wp_eqn (hm)) ?_ | with_reducible refine Eq.mpr (DL.wp_ofOs (hm)) ?_ | with_reducible refine Eq.mpr (DL.wp_eqn (a3)) ?_ | with_reducible refine Eq.mpr (DL.wp_ofOs (a3)) ?_ | with_reducible refine Eq.mpr (DL.wp_eqn (hrg)) ?_ | with_reducible refine Eq.mpr (DL.wp_ofOs (hrg)) ?_ | walk_at "ev1")
  refine loop_inv (fun i τ _ => ∃ c3 c4 c5 c6, τ = [some (.d (tb s)), some (.d (tb u)), some (.ow .L (((List.range i).map fun i => ent (glu s u) (i + 2)).map Sh.enc)), c3, c4, c5, c6]) ⟨none, none, none, none, rfl⟩ ?_ ?_
  · rintro i d τ ω hd ⟨c3, c4, c5, c6, rfl⟩
    obtain ⟨rfl, hi⟩ := rangeL_get _ _ _ _ _ hd
    refine ⟨_, rfl, ?_⟩
    have ek : (2 : Int) + (i : Int) * 1 = ((i + 2 : Nat) : Int) := by push_cast; omega
    rw [ek]
    have est := law_stretches_ok (i + 2) (bsz s) hb (by omega) (by omega)
    repeat (first | with_reducible refine Eq.mpr (DL.wp_eqn (len_tb s)) ?_ | with_reducible refine Eq.mpr (DL.wp_ofOs (len_tb s)) ?_ | with_reducible refine Eq.mpr (DL.wp_eqn (a1)) ?_ | with_reducible refine Eq.mpr (DL.wp_ofOs (a1)) ?_ | with_reducible refine Eq.mpr (DL.wp_eqn (est)) ?_ | with_reducible refine Eq.mpr (DL.wp_ofOs (est)) ?_ | walk_at "ev1")
    refine ⟨sl_le (by rw [List.length_map]; have := stP_le (i + 2) (bsz s) hb; omega), ?_⟩
    refine lc_all pD (stP (i + 2) (bsz s)) (fun p => (ent s (p.2 - p.1)).enc) (fun p hp => ⟨_, rfl, ?_⟩) ?_
    · obtain ⟨x, y⟩ := p
      obtain ⟨p1, p2, p3⟩ := (mem_stP hb).mp hp
      have es := subN y x (by omega)
      repeat (first | with_reducible refine Eq.mpr (DL.wp_eqn (es)) ?_ | with_reducible refine Eq.mpr (DL.wp_ofOs (es)) ?_ | with_reducible refine Eq.mpr (DL.wp_eqn (law_entry_ok s (y - x) (by omega) (by omega))) ?_ | with_reducible refine Eq.mpr (DL.wp_ofOs (law_entry_ok s (y - x) (by omega) (by omega))) ?_ | walk_at "ev1")
      exact ⟨rfl, rfl⟩
    have erow : (stP (i + 2) (bsz s)).map (fun p => (ent s (p.2 - p.1)).enc) = (sts (ent s) (bsz s) (i + 2)).map Sh.enc := by
      unfold stP sts
      rw [List.map_map, List.map_map]
      refine List.map_congr_left fun k hk => ?_
      have hk2 := up_lt hb (List.mem_range.mp hk)
      simp only [Function.comp]
      rw [show min (k * bsz s + bsz s) (i + 2) - k * bsz s = min (bsz s) (i + 2 - k * bsz s) from by omega]
    rw [erow]
    obtain ⟨g1, g2⟩ := glu_form s u hs hu (m := i + 2) (by omega) (by omega)
    have hq : (i + 2 + bsz s - 1) / bsz s ≤ bsz u := by
      have : (i + 2 + bsz s - 1) / bsz s < bsz u + 1 := (Nat.div_lt_iff_lt_mul hb).mpr (by rw [Nat.add_mul, Nat.mul_comm (bsz u)]; omega)
      omega
    have hq1 : 1 ≤ (i + 2 + bsz s - 1) / bsz s := (Nat.le_div_iff_mul_le hb).mpr (by omega)
    have elen : un1 lenD [rowD (sts (ent s) (bsz s) (i + 2))] = some (.int ((i + 2 + bsz s - 1) / bsz s : Nat)) := by rw [len_row, sts_len]
    have een := law_entry_ok u ((i + 2 + bsz s - 1) / bsz s) hq1 hq
    have hh := hgt_lt (ent u ((i + 2 + bsz s - 1) / bsz s))
    have efl := law_filled_ok 70 (ent u ((i + 2 + bsz s - 1) / bsz s)) (sts (ent s) (bsz s) (i + 2)) (by omega) (by omega) (by rw [sts_len]; omega)
    rw [← g1] at efl
    refine ⟨_, rfl, ?_⟩
    repeat (first | with_reducible refine Eq.mpr (DL.wp_eqn (elen)) ?_ | with_reducible refine Eq.mpr (DL.wp_ofOs (elen)) ?_ | with_reducible refine Eq.mpr (DL.wp_eqn (een)) ?_ | with_reducible refine Eq.mpr (DL.wp_ofOs (een)) ?_ | with_reducible refine Eq.mpr (DL.wp_eqn (efl)) ?_ | with_reducible refine Eq.mpr (DL.wp_ofOs (efl)) ?_ | walk_at "ev1")
    case hl => simp; omega
    rw [List.range_succ, List.map_append, List.map_append]
    exact ⟨_, _, _, _, rfl⟩
  · rintro τ ω ⟨c3, c4, c5, c6, rfl⟩
    rw [rangeL_len]
    have e : bsz s * bsz u + 1 - 2 = (glu s u).length := by have := glu_len s u; unfold bsz at this ⊢; omega
    rw [e, tab_range]
    repeat walk_at "ev1"
    rfl
theorem all_bools {α : Type} (l : List α) (f : α → Bool) : un1 allD [.lst (l.map fun x => D.bl (f x))] = some (.bl (l.all f)) := by
  show (D.toBools (l.map fun x => D.bl (f x))).map (fun bs => D.bl (bs.all id)) = _
  have e : l.map (fun x => D.bl (f x)) = (l.map f).map D.bl := by rw [List.map_map]; rfl
  rw [e, toBools_of, Option.map_some, List.all_map]; rfl
theorem law_lumps_ok : ∀ (n : Nat) (s : Sh) (p : Nat), hgt s < n → s.size ≤ 100 → F_law_lumps n [s.enc, .int p] = .ok (.lst ((lm s p).map lD)) ()
  | 0, _, _, h, _ => by omega
  | n + 1, .o, p, _, _ => by
    refine R.wp.equ ?_
    show (F_law_lumps (n + 1) [.tup [], .int p]).wp _ _
    unfold F_law_lumps B_law_lumps
    repeat (first | with_reducible refine Eq.mpr (DL.wp_eqn (eqO_o)) ?_ | with_reducible refine Eq.mpr (DL.wp_ofOs (eqO_o)) ?_ | with_reducible refine Eq.mpr (DL.wp_eqn (addN p 1)) ?_ | with_reducible refine Eq.mpr (DL.wp_ofOs (addN p 1)) ?_ | walk_at "ev1")
    rfl
  | n + 1, .n l r, p, h, hz => by
    simp only [hgt] at h
    simp only [Sh.size] at hz
    have e1 := law_lumps_ok n l p (by omega) (by omega)
    have e2 := law_lumps_ok n r (p + l.size) (by omega) (by omega)
    have n1 := lm_len l p
    have n2 := lm_len r (p + l.size)
    refine R.wp.equ ?_
    show (F_law_lumps (n + 1) [.tup [l.enc, r.enc], .int p]).wp _ _
    unfold F_law_lumps B_law_lumps
    obtain ⟨r1, h1⟩ := lm_cons l p
    obtain ⟨r2, h2⟩ := lm_cons r (p + l.size)
    have i1 : ixD (.lst ((lm l p).map lD)) (.int 0) = some (lD (p, p + l.size, l)) := by
      rw [h1]; exact ix_lst (k := 0) rfl rfl
    have i2 : ixD (.lst ((lm r (p + l.size)).map lD)) (.int 0) = some (lD (p + l.size, p + l.size + r.size, r)) := by
      rw [h2]; exact ix_lst (k := 0) rfl rfl
    have j1 : ∀ a b c : D, ixD (.tup [a, b, c]) (.int 1) = some b := fun a b c => ix_tup (k := 1) rfl rfl
    have k1 := addL2 [lD (p, p + l.size + r.size, .n l r)] ((lm l p).map lD) (by simp; omega)
    have k2 := addL2 ([lD (p, p + l.size + r.size, .n l r)] ++ (lm l p).map lD) ((lm r (p + l.size)).map lD) (by simp; omega)
    repeat (first | with_reducible refine Eq.mpr (DL.wp_eqn (eqO_n l r)) ?_ | with_reducible refine Eq.mpr (DL.wp_ofOs (eqO_n l r)) ?_ | with_reducible refine Eq.mpr (DL.wp_eqn (e1)) ?_ | with_reducible refine Eq.mpr (DL.wp_ofOs (e1)) ?_ | with_reducible refine Eq.mpr (DL.wp_eqn (i1)) ?_ | with_reducible refine Eq.mpr (DL.wp_ofOs (i1)) ?_ | with_reducible refine Eq.mpr (DL.wp_eqn (j1 _ _ _)) ?_ | with_reducible refine Eq.mpr (DL.wp_ofOs (j1 _ _ _)) ?_ | with_reducible refine Eq.mpr (DL.wp_eqn (e2)) ?_ | with_reducible refine Eq.mpr (DL.wp_ofOs (e2)) ?_ | with_reducible refine Eq.mpr (DL.wp_eqn (i2)) ?_ | with_reducible refine Eq.mpr (DL.wp_ofOs (i2)) ?_ | with_reducible refine Eq.mpr (DL.wp_eqn (k1)) ?_ | with_reducible refine Eq.mpr (DL.wp_ofOs (k1)) ?_ | with_reducible refine Eq.mpr (DL.wp_eqn (k2)) ?_ | with_reducible refine Eq.mpr (DL.wp_ofOs (k2)) ?_ | walk_at "ev1")
    show D.lst _ = D.lst _
    simp only [lm, List.map_cons, List.map_append, Nat.add_assoc, List.singleton_append, List.cons_append, List.nil_append]
theorem law_above_ok (ps : List (Nat × Nat)) : ∀ (n : Nat) (s : Sh) (p : Nat), hgt s < n → s.size ≤ 70 → F_law_above n [s.enc, .int p, .lst (ps.map pD)] = .ok (lab ps s p).enc ()
  | 0, _, _, h, _ => by omega
  | n + 1, .o, p, _, _ => by
    refine R.wp.equ ?_
    show (F_law_above (n + 1) [.tup [], .int p, .lst (ps.map pD)]).wp _ _
    unfold F_law_above B_law_above
    have e0 : F_law_size 70 [.tup []] = .ok (.int 1) () := law_size_ok 70 .o (by decide)
    repeat (first | with_reducible refine Eq.mpr (DL.wp_eqn (e0)) ?_ | with_reducible refine Eq.mpr (DL.wp_ofOs (e0)) ?_ | with_reducible refine Eq.mpr (DL.wp_eqn (addN p 1)) ?_ | with_reducible refine Eq.mpr (DL.wp_ofOs (addN p 1)) ?_ | with_reducible refine Eq.mpr (DL.wp_eqn (eqO_o)) ?_ | with_reducible refine Eq.mpr (DL.wp_ofOs (eqO_o)) ?_ | walk_at "ev1")
    rfl
  | n + 1, .n l r, p, h, hz => by
    simp only [hgt] at h
    simp only [Sh.size] at hz
    have hl := hgt_lt l
    have hh := hgt_lt (.n l r)
    simp only [Sh.size] at hh
    have e0 : F_law_size 70 [.tup [l.enc, r.enc]] = .ok (.int (l.size + r.size : Nat)) () := law_size_ok 70 (.n l r) (by omega)
    have e3 := law_size_ok 70 l (by omega)
    have e1 := law_above_ok ps n l p (by omega) (by omega)
    have e2 := law_above_ok ps n r (p + l.size) (by omega) (by omega)
    refine R.wp.equ ?_
    show (F_law_above (n + 1) [.tup [l.enc, r.enc], .int p, .lst (ps.map pD)]).wp _ _
    unfold F_law_above B_law_above
    have ein := in_pairs (p, p + (l.size + r.size)) ps
    repeat (first | with_reducible refine Eq.mpr (DL.wp_eqn (e0)) ?_ | with_reducible refine Eq.mpr (DL.wp_ofOs (e0)) ?_ | with_reducible refine Eq.mpr (DL.wp_eqn (addN p (l.size + r.size))) ?_ | with_reducible refine Eq.mpr (DL.wp_ofOs (addN p (l.size + r.size))) ?_ | with_reducible refine Eq.mpr (DL.wp_eqn (eqO_n l r)) ?_ | with_reducible refine Eq.mpr (DL.wp_ofOs (eqO_n l r)) ?_ | with_reducible refine Eq.mpr (DL.wp_eqn (ein)) ?_ | with_reducible refine Eq.mpr (DL.wp_ofOs (ein)) ?_ | walk_at "ev1")
    by_cases hc : (p, p + (l.size + r.size)) ∈ ps
    · rw [if_pos (decide_eq_true hc)]
      repeat walk_at "ev1"
      unfold lab
      rw [if_pos hc]
      rfl
    · rw [if_neg (by simpa using hc)]
      repeat (first | with_reducible refine Eq.mpr (DL.wp_eqn (e3)) ?_ | with_reducible refine Eq.mpr (DL.wp_ofOs (e3)) ?_ | with_reducible refine Eq.mpr (DL.wp_eqn (addN p l.size)) ?_ | with_reducible refine Eq.mpr (DL.wp_ofOs (addN p l.size)) ?_ | with_reducible refine Eq.mpr (DL.wp_eqn (e1)) ?_ | with_reducible refine Eq.mpr (DL.wp_ofOs (e1)) ?_ | with_reducible refine Eq.mpr (DL.wp_eqn (e2)) ?_ | with_reducible refine Eq.mpr (DL.wp_ofOs (e2)) ?_ | walk_at "ev1")
      have el : lab ps (.n l r) p = .n (lab ps l p) (lab ps r (p + l.size)) := by
        conv => lhs; unfold lab
        rw [if_neg hc]
      rw [el]; rfl
theorem late_get {t : Tab} {b i : Nat} : (List.range (i + 1)).map (fun i => abv (ent t (b * (i + 2))) b 0) = (List.range i).map (fun i => abv (ent t (b * (i + 2))) b 0) ++ [abv (ent t (b * (i + 2))) b 0] := by
  rw [List.range_succ, List.map_append]; rfl
theorem law_behind_ok (t : Tab) (b : Nat) (hw : WT t) (hz : bsz t ≤ 70) (hb : 2 ≤ b) (hb2 : b < bsz t) :
    ∃ d, F_law_behind [tb t, .int b] = .ok d () ∧ ((CutAt t b ∧ d = tb (late t b)) ∨ (¬ CutAt t b ∧ d = .non)) := by
  suffices h : (F_law_behind [tb t, .int b]).wp (fun d _ => (CutAt t b ∧ d = tb (late t b)) ∨ (¬ CutAt t b ∧ d = .non)) X0 by
    obtain ⟨d, _, e, h⟩ := h.ex
    exact ⟨d, e, h⟩
  unfold F_law_behind B_law_behind
  have hs0 : startT 11 ([tb t, .int b].map Cell.d) = [some (.d (tb t)), some (.d (.int b)), none, none, none, none, none, none, none, none, none] := rfl
  rw [hs0]
  have a1 : addD (.int (t.length : Nat)) (.int 1) = some (.int (bsz t : Nat)) := addN t.length 1
  have hm := modN (bsz t) b (by omega)
  have hn : neD (.int (bsz t % b : Nat)) (.int 0) = some (.bl (decide (bsz t % b ≠ 0))) := by
    generalize bsz t % b = r
    rw [neD_int, ← decide_not]
    exact congrArg (fun b => some (D.bl b)) (decide_eq_decide.mpr (by omega))
  by_cases hc : bsz t % b = 0
  · have hn' : neD (.int (bsz t % b : Nat)) (.int 0) = some (.bl false) := by rw [hn, hc]; rfl
    have hdm := Nat.div_add_mod (bsz t) b
    rw [hc, Nat.add_zero] at hdm
    have hq2 : bsz t / b ≤ bsz t := Nat.div_le_self _ _
    have ed := fdivN (bsz t) b (by omega) (by omega)
    have a2 : addD (.int (bsz t / b : Nat)) (.int 1) = some (.int (bsz t / b + 1 : Nat)) := addN (bsz t / b) 1
    have hrg : rg2 [.int 2, .int (bsz t / b + 1 : Nat)] = some (rangeL 2 1 (bsz t / b + 1 - 2)) := rg2_nat 2 (bsz t / b + 1) (by omega) (by omega)
    repeat (first | with_reducible refine Eq.mpr (DL.wp_eqn (len_tb t)) ?_ | with_reducible refine Eq.mpr (DL.wp_ofOs (len_tb t)) ?_ | with_reducible refine Eq.mpr (DL.wp_eqn (a1)) ?_ | with_reducible refine Eq.mpr (DL.wp_ofOs (a1)) ?_ | with_reducible refine Eq.mpr (DL.wp_eqn (hm)) ?_ | with_reducible refine Eq.mpr (DL.wp_ofOs (hm)) ?_ | with_reducible refine Eq.mpr (DL.wp_eqn (hn')) ?_ | with_reducible refine Eq.mpr (DL.wp_ofOs (hn')) ?_ | with_reducible refine Eq.mpr (DL.wp_eqn (ed)) ?_ | with_reducible refine Eq.mpr (DL.wp_ofOs (ed)) ?_ | with_reducible refine Eq.mpr (DL.wp_eqn (a2)) ?_ | with_reducible refine Eq.mpr (DL.wp_ofOs (a2)) ?_ | with_reducible refine Eq.mpr (DL.wp_eqn (hrg)) ?_ | with_reducible refine Eq.mpr (DL.wp_ofOs (hrg)) ?_ | walk_at "ev1")
    refine loop_inv (fun i τ _ => (∀ m, 2 ≤ m → m < 2 + i → lmps (ent t (m * b)) b) ∧ ∃ c4 c5 c6 c7 c8 c9 c10, τ = [some (.d (tb t)), some (.d (.int b)), some (.d (.int (bsz t : Nat))), some (.ow .L (((List.range i).map fun i => abv (ent t (b * (i + 2))) b 0).map Sh.enc)), c4, c5, c6, c7, c8, c9, c10]) ⟨by omega, none, none, none, none, none, none, none, rfl⟩ ?_ ?_
    · rintro i d τ ω hd ⟨hI, c4, c5, c6, c7, c8, c9, c10, rfl⟩
      obtain ⟨rfl, hi⟩ := rangeL_get _ _ _ _ _ hd
      refine ⟨_, rfl, ?_⟩
      have ek : (2 : Int) + (i : Int) * 1 = ((i + 2 : Nat) : Int) := by push_cast; omega
      rw [ek]
      have hle : (i + 2) * b ≤ bsz t := by rw [← hdm, Nat.mul_comm]; exact Nat.mul_le_mul_left b (by omega)
      have h2b : 2 * b ≤ (i + 2) * b := Nat.mul_le_mul_right b (by omega)
      have em := mulN (i + 2) b (by omega)
      have es : subD (.int ((i + 2) * b : Nat)) (.int 2) = some (.int ((i + 2) * b - 2 : Nat)) := subN ((i + 2) * b) 2 (by omega)
      have hlt : (i + 2) * b - 2 < t.length := by unfold bsz at hle; omega
      have hez : (ent t ((i + 2) * b)).size = (i + 2) * b := hw.ent (by omega) hle
      have hhe := hgt_lt (ent t ((i + 2) * b))
      have eix : ixD (tb t) (.int ((i + 2) * b - 2 : Nat)) = some (ent t ((i + 2) * b)).enc := by
        refine ix_tup rfl (map_get ?_)
        unfold ent
        rw [if_neg (by omega), List.getD_eq_getElem?_getD, List.getElem?_eq_getElem hlt]; rfl
      have el : F_law_lumps 70 [(ent t ((i + 2) * b)).enc, .int 0] = .ok (.lst ((lm (ent t ((i + 2) * b)) 0).map lD)) () := law_lumps_ok 70 (ent t ((i + 2) * b)) 0 (by omega) (by omega)
      have nl := lm_len (ent t ((i + 2) * b)) 0
      have est := law_stretches_ok ((i + 2) * b) b (by omega) (by omega) (by omega)
      have hsl := stP_le ((i + 2) * b) b (by omega)
      repeat (first | with_reducible refine Eq.mpr (DL.wp_eqn (em)) ?_ | with_reducible refine Eq.mpr (DL.wp_ofOs (em)) ?_ | with_reducible refine Eq.mpr (DL.wp_eqn (es)) ?_ | with_reducible refine Eq.mpr (DL.wp_ofOs (es)) ?_ | with_reducible refine Eq.mpr (DL.wp_eqn (eix)) ?_ | with_reducible refine Eq.mpr (DL.wp_ofOs (eix)) ?_ | with_reducible refine Eq.mpr (DL.wp_eqn (el)) ?_ | with_reducible refine Eq.mpr (DL.wp_ofOs (el)) ?_ | walk_at "ev1")
      refine ⟨sl_le (by rw [List.length_map]; omega), ?_⟩
      refine lc_all lD (lm (ent t ((i + 2) * b)) 0) (fun x => pD (x.1, x.2.1)) (fun x hx => ⟨_, rfl, ?_⟩) ?_
      · repeat walk_at "ev1"
        exact ⟨rfl, rfl⟩
      have eP : (lm (ent t ((i + 2) * b)) 0).map (fun x => pD (x.1, x.2.1)) = (lmP (ent t ((i + 2) * b)) 0).map pD := by
        unfold lmP; rw [List.map_map]; rfl
      rw [eP]
      repeat (first | with_reducible refine Eq.mpr (DL.wp_eqn (em)) ?_ | with_reducible refine Eq.mpr (DL.wp_ofOs (em)) ?_ | with_reducible refine Eq.mpr (DL.wp_eqn (est)) ?_ | with_reducible refine Eq.mpr (DL.wp_ofOs (est)) ?_ | walk_at "ev1")
      refine ⟨sl_le (by rw [List.length_map]; omega), ?_⟩
      refine lc_all pD (stP ((i + 2) * b) b) (fun p => .bl (decide (p ∈ lmP (ent t ((i + 2) * b)) 0))) (fun p hp => ⟨_, rfl, ?_⟩) ?_
      · have ein := in_pairs p (lmP (ent t ((i + 2) * b)) 0)
        repeat (first | with_reducible refine Eq.mpr (DL.wp_eqn (ein)) ?_ | with_reducible refine Eq.mpr (DL.wp_ofOs (ein)) ?_ | walk_at "ev1")
        exact ⟨rfl, rfl⟩
      have hiff : (∀ p ∈ stP ((i + 2) * b) b, p ∈ lmP (ent t ((i + 2) * b)) 0) ↔ lmps (ent t ((i + 2) * b)) b := by
        constructor
        · intro h k hk
          rw [hez] at hk
          have hk1 : k < i + 2 := Nat.lt_of_mul_lt_mul_right hk
          have hk2 : (k + 1) * b ≤ (i + 2) * b := Nat.mul_le_mul_right b hk1
          rw [Nat.add_mul, Nat.one_mul] at hk2
          exact (mem_lmP _ _ _).mp (h (k * b, k * b + b) ((mem_stP (by omega)).mpr ⟨Nat.mul_mod_left k b, hk, by omega⟩))
        · rintro h ⟨x, y⟩ hp
          obtain ⟨p1, p2, p3⟩ := (mem_stP (show 0 < b by omega)).mp hp
          have hxd := Nat.div_add_mod x b
          rw [p1, Nat.add_zero, Nat.mul_comm] at hxd
          have hk1 : x / b < i + 2 := Nat.lt_of_mul_lt_mul_right (by rw [hxd]; exact p2)
          have hk2 : (x / b + 1) * b ≤ (i + 2) * b := Nat.mul_le_mul_right b hk1
          rw [Nat.add_mul, Nat.one_mul, hxd] at hk2
          rw [mem_lmP]
          have := h (x / b) (by rw [hxd, hez]; exact p2)
          rw [hxd] at this
          rw [p3, Nat.min_eq_left hk2]
          exact this
      by_cases hall : ∀ p ∈ stP ((i + 2) * b) b, p ∈ lmP (ent t ((i + 2) * b)) 0
      · have eall : un1 allD [.lst ((stP ((i + 2) * b) b).map fun p => D.bl (decide (p ∈ lmP (ent t ((i + 2) * b)) 0)))] = some (.bl true) := all_true 0 fun x hx => by
          rw [List.mem_map] at hx
          obtain ⟨p, hp, rfl⟩ := hx
          rw [decide_eq_true (hall p hp)]
        have hlm := hiff.mp hall
        obtain ⟨q1, q2⟩ := lmps_at hlm hw (by omega) hle (by omega)
        have eab : F_law_above 70 [(ent t ((i + 2) * b)).enc, .int 0, .lst ((stP ((i + 2) * b) b).map pD)] = .ok (abv (ent t ((i + 2) * b)) b 0).enc () := by
          rw [← q2]; exact law_above_ok _ 70 (ent t ((i + 2) * b)) 0 (by omega) (by omega)
        repeat (first | with_reducible refine Eq.mpr (DL.wp_eqn (eall)) ?_ | with_reducible refine Eq.mpr (DL.wp_ofOs (eall)) ?_ | with_reducible refine Eq.mpr (DL.wp_eqn (em)) ?_ | with_reducible refine Eq.mpr (DL.wp_ofOs (em)) ?_ | with_reducible refine Eq.mpr (DL.wp_eqn (es)) ?_ | with_reducible refine Eq.mpr (DL.wp_ofOs (es)) ?_ | with_reducible refine Eq.mpr (DL.wp_eqn (eix)) ?_ | with_reducible refine Eq.mpr (DL.wp_ofOs (eix)) ?_ | with_reducible refine Eq.mpr (DL.wp_eqn (eab)) ?_ | with_reducible refine Eq.mpr (DL.wp_ofOs (eab)) ?_ | walk_at "ev1")
        case hl => simp; omega
        refine ⟨fun m m1 m2 => ?_, ?_⟩
        · rcases Nat.lt_or_ge m (2 + i) with h | h
          · exact hI m m1 h
          · rw [show m = i + 2 by omega]; exact hlm
        · rw [late_get, List.map_append, Nat.mul_comm b (i + 2)]
          exact ⟨_, _, _, _, _, _, _, rfl⟩
      · have hex : ∃ p ∈ stP ((i + 2) * b) b, ¬ p ∈ lmP (ent t ((i + 2) * b)) 0 := by
          refine Classical.byContradiction fun hno => hall fun p hp => Classical.byContradiction fun hpn => hno ⟨p, hp, hpn⟩
        have eall : un1 allD [.lst ((stP ((i + 2) * b) b).map fun p => D.bl (decide (p ∈ lmP (ent t ((i + 2) * b)) 0)))] = some (.bl false) := by
          obtain ⟨p, hp, hpn⟩ := hex
          rw [all_bools, List.all_eq_false.mpr ⟨p, hp, by simpa using hpn⟩]
        repeat (first | with_reducible refine Eq.mpr (DL.wp_eqn (eall)) ?_ | with_reducible refine Eq.mpr (DL.wp_ofOs (eall)) ?_ | walk_at "ev1")
        refine .inr ⟨fun h => hall (hiff.mpr (h.lmps hw (by omega) hb hle)), rfl⟩
    · rintro τ ω ⟨hI, c4, c5, c6, c7, c8, c9, c10, rfl⟩
      rw [rangeL_len] at hI ⊢
      have hwl := late_wt' hw hb hb2 hc fun m m1 m2 => hI m m1 (by omega)
      have hwe := early_wt hw hb hb2
      have z1 := early_bsz hb hb2
      have z2 := late_bsz hb hb2 hc
      have es1 : subD (.int (b : Nat)) (.int 1) = some (.int (b - 1 : Nat)) := subN b 1 (by omega)
      have esl : sliceD (tb t) none (some ((b - 1 : Nat) : Int)) = some (tb (early t b)) := sl_tb_to t (b - 1)
      have eg := law_glued_ok (early t b) (late t b) hwe hwl (by omega) (by omega) (by rw [z1, z2, hdm]; omega)
      have elt : D.tup (((List.range (bsz t / b + 1 - 2)).map fun i => abv (ent t (b * (i + 2))) b 0).map Sh.enc) = tb (late t b) := by
        rw [show bsz t / b + 1 - 2 = bsz t / b - 1 by omega]; rfl
      have eq := eq_tb (a := glu (early t b) (late t b)) (b := t) (glu_wt _ _ hwe hwl) (by rw [glu_len, z1, z2, hdm]; omega)
      repeat (first | with_reducible refine Eq.mpr (DL.wp_eqn (es1)) ?_ | with_reducible refine Eq.mpr (DL.wp_ofOs (es1)) ?_ | with_reducible refine Eq.mpr (DL.wp_eqn (esl)) ?_ | with_reducible refine Eq.mpr (DL.wp_ofOs (esl)) ?_ | walk_at "ev1")
      rw [elt]
      repeat (first | with_reducible refine Eq.mpr (DL.wp_eqn (eg)) ?_ | with_reducible refine Eq.mpr (DL.wp_ofOs (eg)) ?_ | with_reducible refine Eq.mpr (DL.wp_eqn (eq)) ?_ | with_reducible refine Eq.mpr (DL.wp_ofOs (eq)) ?_ | walk_at "ev1")
      by_cases hg : glu (early t b) (late t b) = t
      · have hcut := glu_cut (early t b) (late t b) hwe hwl
        rw [hg, z1] at hcut
        rw [if_pos (decide_eq_true hg)]
        repeat walk_at "ev1"
        exact .inl ⟨hcut, elt⟩
      · rw [if_neg (by simpa using hg)]
        repeat walk_at "ev1"
        exact .inr ⟨fun h => hg (h.glu hw hb hb2), rfl⟩
  · have hn' : neD (.int (bsz t % b : Nat)) (.int 0) = some (.bl true) := by rw [hn, decide_eq_true hc]
    repeat (first | with_reducible refine Eq.mpr (DL.wp_eqn (len_tb t)) ?_ | with_reducible refine Eq.mpr (DL.wp_ofOs (len_tb t)) ?_ | with_reducible refine Eq.mpr (DL.wp_eqn (a1)) ?_ | with_reducible refine Eq.mpr (DL.wp_ofOs (a1)) ?_ | with_reducible refine Eq.mpr (DL.wp_eqn (hm)) ?_ | with_reducible refine Eq.mpr (DL.wp_ofOs (hm)) ?_ | with_reducible refine Eq.mpr (DL.wp_eqn (hn')) ?_ | with_reducible refine Eq.mpr (DL.wp_ofOs (hn')) ?_ | walk_at "ev1")
    exact .inr ⟨fun h => hc h.dvd, rfl⟩
theorem sumS_app (x y : List Sh) : sumS (x ++ y) = sumS x + sumS y := by unfold sumS; rw [List.map_append, List.sum_append]
theorem sts_sum (f : Nat → Sh) {b : Nat} (hb : 0 < b) (hf : ∀ k, 1 ≤ k → k ≤ b → (f k).size = k) : ∀ n m, m ≤ n → sumS (sts f b m) = m
  | 0, m, h => by
    have : m = 0 := by omega
    subst this
    unfold sts
    rw [Nat.div_eq_of_lt (by omega)]; rfl
  | n + 1, m, h => by
    by_cases h0 : m = 0
    · subst h0
      unfold sts
      rw [Nat.div_eq_of_lt (by omega)]; rfl
    · by_cases h1 : m ≤ b
      · rw [sts_one f hb (by omega) h1]
        show (f m).size + 0 = m
        rw [hf m (by omega) h1, Nat.add_zero]
      · have e : m = 1 * b + (m - b) := by omega
        have ih := sts_sum f hb hf n (m - b) (by omega)
        have e1 : sts f b (1 * b) = [f (1 * b)] := sts_one f hb (by omega) (by omega)
        conv => lhs; rw [e]
        rw [sts_app f hb, sumS_app, ih, e1]
        show (f (1 * b)).size + 0 + (m - b) = m
        rw [Nat.one_mul, hf b hb (Nat.le_refl _)]; omega
theorem wt_set {t : Tab} (h : WT t) {k : Nat} (hk : k < t.length) {s : Sh} (hs : s.size = k + 2) : WT (t.set k s) := by
  refine ⟨by rw [List.length_set]; exact h.1, fun i x hx => ?_⟩
  rw [List.getElem?_set] at hx
  split at hx
  · rename_i e
    subst e
    cases hx; exact hs
  · exact h.2 i x hx
theorem set_split (t : Tab) {k : Nat} (hk : k < t.length) (s : Sh) : t.take k ++ [s] ++ t.drop (k + 1) = t.set k s := by
  rw [List.set_eq_take_append_cons_drop, if_pos hk, List.append_assoc]; rfl
theorem add_tb (x y : Tab) (h : x.length + y.length ≤ 1000) : addD (tb x) (tb y) = some (tb (x ++ y)) := by
  show addD (.tup (x.map Sh.enc)) (.tup (y.map Sh.enc)) = _
  unfold addD
  dsimp only
  rw [if_pos (by rw [List.length_map, List.length_map, sizeLine_eq]; omega)]
  show _ = some (D.tup ((x ++ y).map Sh.enc))
  rw [List.map_append]
theorem sl_tb_from (t : Tab) (j : Nat) : sliceD (tb t) (some (j : Int)) none = some (tb (t.drop j)) := by
  show some (D.tup (cutL (t.map Sh.enc) (some (j : Int)) none)) = _
  rw [cut_from, ← List.map_drop]
theorem bsz_set (t : Tab) (k : Nat) (s : Sh) : bsz (t.set k s) = bsz t := by unfold bsz; rw [List.length_set]
theorem ix_tab {t : Tab} {k : Nat} (h : k < t.length) : ixD (tb t) (.int (k : Nat)) = some t[k].enc :=
  ix_tup (k := k) rfl (map_get (List.getElem?_eq_getElem h))
theorem stirred_ok : ∀ (n : Nat) (s : Sh) (ω : Src), hgt s < n → s.size ≤ 70 → ∃ (s' : Sh) (ω' : Src), F_law_stirred n [s.enc] ω = .ok s'.enc ω' ∧ s'.size = s.size
  | 0, _, _, h, _ => absurd h (by omega)
  | n + 1, s, ω, h, hz => by
    suffices h : (F_law_stirred (n + 1) [s.enc] ω).wp (fun d _ => ∃ s' : Sh, d = s'.enc ∧ s'.size = s.size) X0 by
      obtain ⟨d, ω', e, s', rfl, hs⟩ := h.ex
      exact ⟨s', ω', e, hs⟩
    have hh := hgt_lt s
    have e0 := law_size_ok 70 s (by omega)
    unfold F_law_stirred B_law_stirred
    by_cases h3 : s.size < 3
    · obtain ⟨s', ω1, e1, hs⟩ := shape_ok 70 s.size ω (by omega) (by omega) (by omega)
      repeat (first | with_reducible refine Eq.mpr (DL.wp_eqn (e0)) ?_ | with_reducible refine Eq.mpr (DL.wp_ofOs (e0)) ?_ | walk_at "ev1")
      refine iteP (decide_eq_true (by omega)) ?_
      repeat (first | with_reducible refine Eq.mpr (DL.wp_eqn (e0)) ?_ | with_reducible refine Eq.mpr (DL.wp_ofOs (e0)) ?_ | with_reducible refine Eq.mpr (DL.wp_eqn (e1)) ?_ | with_reducible refine Eq.mpr (DL.wp_ofOs (e1)) ?_ | walk_at "ev1")
      exact ⟨s', rfl, hs⟩
    · obtain ⟨r, ω1, e1', r1⟩ := pick_nat ω 3 (by omega) (by omega)
      have e1 : F_law_pick [.int 3] ω = .ok (.int (r : Nat)) ω1 := e1'
      repeat (first | with_reducible refine Eq.mpr (DL.wp_eqn (e0)) ?_ | with_reducible refine Eq.mpr (DL.wp_ofOs (e0)) ?_ | walk_at "ev1")
      refine iteN (by rw [decide_eq_true_eq]; omega) ?_
      repeat (first | with_reducible refine Eq.mpr (DL.wp_eqn (e1)) ?_ | with_reducible refine Eq.mpr (DL.wp_ofOs (e1)) ?_ | with_reducible refine Eq.mpr (DL.wp_eqn (eqD_int _ _)) ?_ | with_reducible refine Eq.mpr (DL.wp_ofOs (eqD_int _ _)) ?_ | walk_at "ev1")
      by_cases hr : r = 0
      · obtain ⟨s', ω2, e2, hs⟩ := shape_ok 70 s.size ω1 (by omega) (by omega) (by omega)
        refine iteP (decide_eq_true (by omega)) ?_
        repeat (first | with_reducible refine Eq.mpr (DL.wp_eqn (e0)) ?_ | with_reducible refine Eq.mpr (DL.wp_ofOs (e0)) ?_ | with_reducible refine Eq.mpr (DL.wp_eqn (e2)) ?_ | with_reducible refine Eq.mpr (DL.wp_ofOs (e2)) ?_ | walk_at "ev1")
        exact ⟨s', rfl, hs⟩
      · refine iteN (by rw [decide_eq_true_eq]; omega) ?_
        obtain ⟨q, ω2, e2', q1⟩ := pick_nat ω1 2 (by omega) (by omega)
        have e2 : F_law_pick [.int 2] ω1 = .ok (.int (q : Nat)) ω2 := e2'
        cases s with
        | o => exact absurd (show (1 : Nat) < 3 by omega) h3
        | n l r' =>
          have i0 : ixD (Sh.n l r').enc (.int 0) = some l.enc := rfl
          have i1 : ixD (Sh.n l r').enc (.int 1) = some r'.enc := rfl
          have hl : hgt l < n := by simp only [hgt] at h; omega
          have hr' : hgt r' < n := by simp only [hgt] at h; omega
          simp only [Sh.size] at hz
          repeat (first | with_reducible refine Eq.mpr (DL.wp_eqn (e2)) ?_ | with_reducible refine Eq.mpr (DL.wp_ofOs (e2)) ?_ | with_reducible refine Eq.mpr (DL.wp_eqn (eqD_int _ _)) ?_ | with_reducible refine Eq.mpr (DL.wp_ofOs (eqD_int _ _)) ?_ | walk_at "ev1")
          by_cases hq : q = 0
          · obtain ⟨s', ω3, e3, hs⟩ := stirred_ok n l ω2 hl (by omega)
            refine iteP (decide_eq_true (by omega)) ?_
            repeat (first | with_reducible refine Eq.mpr (DL.wp_eqn (i0)) ?_ | with_reducible refine Eq.mpr (DL.wp_ofOs (i0)) ?_ | with_reducible refine Eq.mpr (DL.wp_eqn (e3)) ?_ | with_reducible refine Eq.mpr (DL.wp_ofOs (e3)) ?_ | with_reducible refine Eq.mpr (DL.wp_eqn (i1)) ?_ | with_reducible refine Eq.mpr (DL.wp_ofOs (i1)) ?_ | walk_at "ev1")
            exact ⟨.n s' r', rfl, by simp only [Sh.size]; omega⟩
          · obtain ⟨s', ω3, e3, hs⟩ := stirred_ok n r' ω2 hr' (by omega)
            refine iteN (by rw [decide_eq_true_eq]; omega) ?_
            repeat (first | with_reducible refine Eq.mpr (DL.wp_eqn (i0)) ?_ | with_reducible refine Eq.mpr (DL.wp_ofOs (i0)) ?_ | with_reducible refine Eq.mpr (DL.wp_eqn (i1)) ?_ | with_reducible refine Eq.mpr (DL.wp_ofOs (i1)) ?_ | with_reducible refine Eq.mpr (DL.wp_eqn (e3)) ?_ | with_reducible refine Eq.mpr (DL.wp_ofOs (e3)) ?_ | walk_at "ev1")
            exact ⟨.n l s', rfl, by simp only [Sh.size]; omega⟩
theorem bent_ok (t : Tab) (ω : Src) (hw : WT t) (hz : bsz t ≤ 60) : ∃ (t' : Tab) (ω' : Src), F_law_bent [tb t] ω = .ok (tb t') ω' ∧ WT t' ∧ bsz t' = bsz t := by
  have hl := hw.1
  have hb : bsz t = t.length + 1 := rfl
  obtain ⟨k, ω1, e1, k1⟩ := pick_nat ω t.length (by omega) (by omega)
  have hsz := hw.2 k t[k] (List.getElem?_eq_getElem k1)
  have hh := hgt_lt t[k]
  obtain ⟨s', ω2, e2, hs⟩ := stirred_ok 70 t[k] ω1 (by omega) (by omega)
  suffices h : (F_law_bent [tb t] ω).wp (fun d _ => d = tb (t.set k s')) X0 by
    obtain ⟨d, ω', e, rfl⟩ := h.ex
    exact ⟨t.set k s', ω', e, wt_set hw k1 (by omega), bsz_set _ _ _⟩
  unfold F_law_bent B_law_bent
  have a1 : addD (.int 2) (.int (k : Nat)) = some (.int ((k + 2 : Nat) : Int)) := by
    show some (D.int _) = _
    congr 2; push_cast; omega
  have s1 : subD (.int (k + 2 : Nat)) (.int 2) = some (.int ((k : Nat) : Int)) := subN (k + 2) 2 (by omega)
  have s2 : subD (.int (k + 2 : Nat)) (.int 1) = some (.int ((k + 1 : Nat) : Int)) := subN (k + 2) 1 (by omega)
  have d1 := add_tb (t.take k) [s'] (by rw [List.length_take]; simp; omega)
  have d1' : addD (tb (t.take k)) (.tup [s'.enc]) = some (tb (t.take k ++ [s'])) := d1
  have d2 := add_tb (t.take k ++ [s']) (t.drop (k + 1)) (by rw [List.length_append, List.length_take, List.length_drop]; simp; omega)
  rw [set_split t k1] at d2
  repeat (first | with_reducible refine Eq.mpr (DL.wp_eqn (len_tb t)) ?_ | with_reducible refine Eq.mpr (DL.wp_ofOs (len_tb t)) ?_ | with_reducible refine Eq.mpr (DL.wp_eqn (e1)) ?_ | with_reducible refine Eq.mpr (DL.wp_ofOs (e1)) ?_ | with_reducible refine Eq.mpr (DL.wp_eqn (a1)) ?_ | with_reducible refine Eq.mpr (DL.wp_ofOs (a1)) ?_ | with_reducible refine Eq.mpr (DL.wp_eqn (s1)) ?_ | with_reducible refine Eq.mpr (DL.wp_ofOs (s1)) ?_ | with_reducible refine Eq.mpr (DL.wp_eqn (sl_tb_to t k)) ?_ | with_reducible refine Eq.mpr (DL.wp_ofOs (sl_tb_to t k)) ?_ | with_reducible refine Eq.mpr (DL.wp_eqn (ix_tab k1)) ?_ | with_reducible refine Eq.mpr (DL.wp_ofOs (ix_tab k1)) ?_ | with_reducible refine Eq.mpr (DL.wp_eqn (e2)) ?_ | with_reducible refine Eq.mpr (DL.wp_ofOs (e2)) ?_ | with_reducible refine Eq.mpr (DL.wp_eqn (d1')) ?_ | with_reducible refine Eq.mpr (DL.wp_ofOs (d1')) ?_ | with_reducible refine Eq.mpr (DL.wp_eqn (s2)) ?_ | with_reducible refine Eq.mpr (DL.wp_ofOs (s2)) ?_ | with_reducible refine Eq.mpr (DL.wp_eqn (sl_tb_from t (k + 1))) ?_ | with_reducible refine Eq.mpr (DL.wp_ofOs (sl_tb_from t (k + 1))) ?_ | with_reducible refine Eq.mpr (DL.wp_eqn (d2)) ?_ | with_reducible refine Eq.mpr (DL.wp_ofOs (d2)) ?_ | walk_at "ev1")
  rfl
theorem retopped_ok (t : Tab) (b : Nat) (ω : Src) (hw : WT t) (hz : bsz t ≤ 60) (hb : 1 ≤ b) (hbz : b < bsz t) : ∃ (t' : Tab) (ω' : Src), F_law_retopped [tb t, .int (b : Nat)] ω = .ok (tb t') ω' ∧ WT t' ∧ bsz t' = bsz t := by
  have hl := hw.1
  have hb2 : bsz t = t.length + 1 := rfl
  suffices h : (F_law_retopped [tb t, .int (b : Nat)] ω).wp (fun d _ => ∃ t' : Tab, d = tb t' ∧ WT t' ∧ bsz t' = bsz t) X0 by
    obtain ⟨d, ω', e, t', rfl, hs⟩ := h.ex
    exact ⟨t', ω', e, hs⟩
  unfold F_law_retopped B_law_retopped
  have hs0 : startT 8 (.src :: [tb t, D.int (b : Nat)].map .d) = [some .src, some (.d (tb t)), some (.d (.int (b : Nat))), none, none, none, none, none] := rfl
  rw [hs0]
  have m1 : mulD (.int 2) (.int (b : Nat)) = some (.int ((2 * b : Nat) : Int)) := mulN 2 b (by omega)
  have a1 : addD (.int (t.length : Nat)) (.int 1) = some (.int (bsz t : Nat)) := addN t.length 1
  have a2 : addD (.int (2 * b : Nat)) (.int 1) = some (.int ((2 * b + 1 : Nat) : Int)) := addN (2 * b) 1
  have a3 : addD (.int (b : Nat)) (.int 1) = some (.int ((b + 1 : Nat) : Int)) := addN b 1
  refine Eq.mpr wp_nox ?_
  refine Eq.mpr wp_runS ?_
  refine Eq.mpr sw_seq ?_
  refine sw.mono (P := fun f ω' => (∃ low : Nat, b + 1 ≤ low ∧ low ≤ bsz t ∧ f = .nx [some .src, some (.d (tb t)), some (.d (.int (b : Nat))), some (.d (.int (low : Nat))), none, none, none, none]) ∧ ω' = ω) (by
    repeat (first | with_reducible refine Eq.mpr (DL.wp_eqn (m1)) ?_ | with_reducible refine Eq.mpr (DL.wp_ofOs (m1)) ?_ | with_reducible refine Eq.mpr (DL.wp_eqn (len_tb t)) ?_ | with_reducible refine Eq.mpr (DL.wp_ofOs (len_tb t)) ?_ | with_reducible refine Eq.mpr (DL.wp_eqn (a1)) ?_ | with_reducible refine Eq.mpr (DL.wp_ofOs (a1)) ?_ | walk_at "ev1")
    by_cases h : 2 * b < bsz t
    · refine iteP (decide_eq_true (by omega)) ?_
      repeat (first | with_reducible refine Eq.mpr (DL.wp_eqn (m1)) ?_ | with_reducible refine Eq.mpr (DL.wp_ofOs (m1)) ?_ | with_reducible refine Eq.mpr (DL.wp_eqn (a2)) ?_ | with_reducible refine Eq.mpr (DL.wp_ofOs (a2)) ?_ | walk_at "ev1")
      exact ⟨⟨2 * b + 1, by omega, by omega, rfl⟩, rfl⟩
    · refine iteN (by rw [decide_eq_true_eq]; omega) ?_
      repeat (first | with_reducible refine Eq.mpr (DL.wp_eqn (a3)) ?_ | with_reducible refine Eq.mpr (DL.wp_ofOs (a3)) ?_ | walk_at "ev1")
      exact ⟨⟨b + 1, by omega, by omega, rfl⟩, rfl⟩) ?_
  rintro f ω' ⟨⟨low, l1, l2, rfl⟩, rfl⟩
  have a4 : addD (.int (t.length : Nat)) (.int 2) = some (.int ((t.length + 2 : Nat) : Int)) := addN t.length 2
  have s4 : subD (.int (t.length + 2 : Nat)) (.int (low : Nat)) = some (.int ((t.length + 2 - low : Nat) : Int)) := subN (t.length + 2) low (by omega)
  obtain ⟨k, ω1, e1, k1⟩ := pick_nat ω' (t.length + 2 - low) (by omega) (by omega)
  have a5 : addD (.int (low : Nat)) (.int (k : Nat)) = some (.int ((low + k : Nat) : Int)) := addN low k
  generalize hm : low + k = m at *
  have est := law_stretches_ok m b (by omega) (by omega) (by omega)
  repeat (first | with_reducible refine Eq.mpr (DL.wp_eqn (len_tb t)) ?_ | with_reducible refine Eq.mpr (DL.wp_ofOs (len_tb t)) ?_ | with_reducible refine Eq.mpr (DL.wp_eqn (a4)) ?_ | with_reducible refine Eq.mpr (DL.wp_ofOs (a4)) ?_ | with_reducible refine Eq.mpr (DL.wp_eqn (s4)) ?_ | with_reducible refine Eq.mpr (DL.wp_ofOs (s4)) ?_ | with_reducible refine Eq.mpr (DL.wp_eqn (e1)) ?_ | with_reducible refine Eq.mpr (DL.wp_ofOs (e1)) ?_ | with_reducible refine Eq.mpr (DL.wp_eqn (a5)) ?_ | with_reducible refine Eq.mpr (DL.wp_ofOs (a5)) ?_ | with_reducible refine Eq.mpr (DL.wp_eqn (est)) ?_ | with_reducible refine Eq.mpr (DL.wp_ofOs (est)) ?_ | walk_at "ev1")
  refine ⟨sl_le (by rw [List.length_map]; have := stP_le m b (by omega); omega), ?_⟩
  refine lc_all pD (stP m b) (fun p => (ent t (p.2 - p.1)).enc) (fun p hp => ⟨_, rfl, ?_⟩) ?_
  · obtain ⟨x, y⟩ := p
    obtain ⟨p1, p2, p3⟩ := (mem_stP (by omega)).mp hp
    have es := subN y x (by omega)
    repeat (first | with_reducible refine Eq.mpr (DL.wp_eqn (es)) ?_ | with_reducible refine Eq.mpr (DL.wp_ofOs (es)) ?_ | with_reducible refine Eq.mpr (DL.wp_eqn (law_entry_ok t (y - x) (by omega) (by omega))) ?_ | with_reducible refine Eq.mpr (DL.wp_ofOs (law_entry_ok t (y - x) (by omega) (by omega))) ?_ | walk_at "ev1")
    exact ⟨rfl, rfl⟩
  have erow : (stP m b).map (fun p => (ent t (p.2 - p.1)).enc) = (sts (ent t) b m).map Sh.enc := by
    unfold stP sts
    rw [List.map_map, List.map_map]
    refine List.map_congr_left fun k hk => ?_
    have hk2 := up_lt (show 0 < b by omega) (List.mem_range.mp hk)
    simp only [Function.comp]
    rw [show min (k * b + b) m - k * b = min b (m - k * b) from by omega]
  rw [erow]
  have hq1 : 1 ≤ (m + b - 1) / b := (Nat.le_div_iff_mul_le (by omega)).mpr (by omega)
  have hq : (m + b - 1) / b ≤ m := by
    have := stP_le m b (by omega)
    rwa [stP_len] at this
  have elen : un1 lenD [rowD (sts (ent t) b m)] = some (.int ((m + b - 1) / b : Nat)) := by rw [len_row, sts_len]
  obtain ⟨s', ω2, e2, hs⟩ := shape_ok 70 ((m + b - 1) / b) ω1 hq1 (by omega) (by omega)
  have hh := hgt_lt s'
  have efl := law_filled_ok 70 s' (sts (ent t) b m) (by omega) (by omega) (by rw [sts_len]; omega)
  have hfs : (fill s' (sts (ent t) b m)).size = m := by
    rw [fill_size _ _ (by rw [sts_len]; omega), hs, ← sts_len (ent t) b m, List.take_length]
    exact sts_sum (ent t) (by omega) (fun j j1 j2 => hw.ent j1 (by omega)) m m (Nat.le_refl _)
  generalize fill s' (sts (ent t) b m) = x at *
  have k2 : m - 2 < t.length := by omega
  have s1 : subD (.int (m : Nat)) (.int 2) = some (.int ((m - 2 : Nat) : Int)) := subN m 2 (by omega)
  have s2 : subD (.int (m : Nat)) (.int 1) = some (.int ((m - 2 + 1 : Nat) : Int)) := by
    rw [show m - 2 + 1 = m - 1 by omega]; exact subN m 1 (by omega)
  have d1' : addD (tb (t.take (m - 2))) (.tup [x.enc]) = some (tb (t.take (m - 2) ++ [x])) := add_tb (t.take (m - 2)) [x] (by rw [List.length_take]; simp; omega)
  have d2 := add_tb (t.take (m - 2) ++ [x]) (t.drop (m - 2 + 1)) (by rw [List.length_append, List.length_take, List.length_drop]; simp; omega)
  rw [set_split t k2] at d2
  refine ⟨_, rfl, ?_⟩
  repeat (first | with_reducible refine Eq.mpr (DL.wp_eqn (s1)) ?_ | with_reducible refine Eq.mpr (DL.wp_ofOs (s1)) ?_ | with_reducible refine Eq.mpr (DL.wp_eqn (sl_tb_to t (m - 2))) ?_ | with_reducible refine Eq.mpr (DL.wp_ofOs (sl_tb_to t (m - 2))) ?_ | with_reducible refine Eq.mpr (DL.wp_eqn (elen)) ?_ | with_reducible refine Eq.mpr (DL.wp_ofOs (elen)) ?_ | with_reducible refine Eq.mpr (DL.wp_eqn (e2)) ?_ | with_reducible refine Eq.mpr (DL.wp_ofOs (e2)) ?_ | with_reducible refine Eq.mpr (DL.wp_eqn (efl)) ?_ | with_reducible refine Eq.mpr (DL.wp_ofOs (efl)) ?_ | with_reducible refine Eq.mpr (DL.wp_eqn (d1')) ?_ | with_reducible refine Eq.mpr (DL.wp_ofOs (d1')) ?_ | with_reducible refine Eq.mpr (DL.wp_eqn (s2)) ?_ | with_reducible refine Eq.mpr (DL.wp_ofOs (s2)) ?_ | with_reducible refine Eq.mpr (DL.wp_eqn (sl_tb_from t (m - 2 + 1))) ?_ | with_reducible refine Eq.mpr (DL.wp_ofOs (sl_tb_from t (m - 2 + 1))) ?_ | with_reducible refine Eq.mpr (DL.wp_eqn (d2)) ?_ | with_reducible refine Eq.mpr (DL.wp_ofOs (d2)) ?_ | walk_at "ev1")
  exact ⟨t.set (m - 2) x, rfl, wt_set hw k2 (by omega), bsz_set _ _ _⟩
theorem in_way12 (r : Nat) (h : r < 8) : ∃ b, inD (.int (r : Nat)) (.tup [.int 1, .int 2]) = some (.bl b) := by
  match r, h with
  | 0, _ => exact ⟨false, by kernel_rfl⟩
  | 1, _ => exact ⟨true, by kernel_rfl⟩
  | 2, _ => exact ⟨true, by kernel_rfl⟩
  | 3, _ => exact ⟨false, by kernel_rfl⟩
  | 4, _ => exact ⟨false, by kernel_rfl⟩
  | 5, _ => exact ⟨false, by kernel_rfl⟩
  | 6, _ => exact ⟨false, by kernel_rfl⟩
  | 7, _ => exact ⟨false, by kernel_rfl⟩
theorem in_way345 (r : Nat) (h : r < 8) : ∃ b, inD (.int (r : Nat)) (.tup [.int 3, .int 4, .int 5]) = some (.bl b) := by
  match r, h with
  | 0, _ => exact ⟨false, by kernel_rfl⟩
  | 1, _ => exact ⟨false, by kernel_rfl⟩
  | 2, _ => exact ⟨false, by kernel_rfl⟩
  | 3, _ => exact ⟨true, by kernel_rfl⟩
  | 4, _ => exact ⟨true, by kernel_rfl⟩
  | 5, _ => exact ⟨true, by kernel_rfl⟩
  | 6, _ => exact ⟨false, by kernel_rfl⟩
  | 7, _ => exact ⟨false, by kernel_rfl⟩
theorem prn_pos : ∀ l : List Nat, (∀ k ∈ l, 2 ≤ k) → 1 ≤ prn l
  | [], _ => by simp [prn]
  | k :: l, h => by
    have h1 := h k (by simp)
    have h2 := prn_pos l fun x hx => h x (by simp [hx])
    exact Nat.mul_pos (by omega) h2
theorem prn_snoc (l : List Nat) (k : Nat) : prn (l ++ [k]) = prn l * k := by rw [prn_append]; simp [prn]
theorem prn_mem : ∀ {l : List Nat} {k : Nat}, (∀ k ∈ l, 2 ≤ k) → k ∈ l → k ≤ prn l
  | a :: l, k, h, hk => by
    have h1 := h a (by simp)
    have h2 := prn_pos l fun x hx => h x (by simp [hx])
    rw [List.mem_cons] at hk
    rcases hk with rfl | hk
    · exact Nat.le_mul_of_pos_right _ h2
    · exact Nat.le_trans (prn_mem (fun x hx => h x (by simp [hx])) hk) (Nat.le_mul_of_pos_left _ (by omega))
theorem add_intsD (x y : List Nat) (h : x.length + y.length ≤ 1000) : addD (.lst (intsD x)) (.lst (intsD y)) = some (.lst (intsD (x ++ y))) := by
  refine (addL _ _ (by unfold intsD; simp; omega)).trans ?_
  unfold intsD
  rw [List.map_append]
theorem ix_intsD {l : List Nat} {k : Nat} (h : k < l.length) : ixD (.lst (intsD l)) (.int (k : Nat)) = some (.int (l[k] : Nat)) := by
  refine ix_lst (k := k) rfl ?_
  unfold intsD
  rw [List.getElem?_map, List.getElem?_eq_getElem h]; rfl
theorem some_table_ok (most : Nat) (ω : Src) (h1 : 12 ≤ most) (h2 : most ≤ 60) : ∃ (t : Tab) (ω' : Src), F_law_some_table [.int (most : Nat)] ω = .ok (tb t) ω' ∧ WT t ∧ bsz t ≤ 60 := by
  suffices h : (F_law_some_table [.int (most : Nat)] ω).wp (fun d _ => ∃ t : Tab, d = tb t ∧ WT t ∧ bsz t ≤ 60) X0 by
    obtain ⟨d, ω', e, t, rfl, hs⟩ := h.ex
    exact ⟨t, ω', e, hs⟩
  unfold F_law_some_table B_law_some_table
  have hs0 : startT 8 (.src :: [D.int (most : Nat)].map .d) = [some .src, some (.d (.int (most : Nat))), none, none, none, none, none, none] := rfl
  rw [hs0]
  obtain ⟨way, ω1, e1', r1⟩ := pick_nat ω 8 (by omega) (by omega)
  have e1 : F_law_pick [.int 8] ω = .ok (.int (way : Nat)) ω1 := e1'
  obtain ⟨a, ω2, e2', a1⟩ := pick_nat ω1 6 (by omega) (by omega)
  have e2 : F_law_pick [.int 6] ω1 = .ok (.int (a : Nat)) ω2 := e2'
  have n2 : addD (.int 2) (.int (a : Nat)) = some (.int ((2 + a : Nat) : Int)) := addN 2 a
  refine Eq.mpr wp_nox ?_
  refine Eq.mpr wp_runS ?_
  refine Eq.mpr sw_seq ?_
  refine sw.mono (P := fun f ω' => f = .nx [some .src, some (.d (.int (most : Nat))), some (.d (.int (way : Nat))), some (.d (.lst (intsD [2 + a]))), none, none, none, none] ∧ ω' = ω2) (by
    repeat (first | with_reducible refine Eq.mpr (DL.wp_eqn (e1)) ?_ | with_reducible refine Eq.mpr (DL.wp_ofOs (e1)) ?_ | with_reducible refine Eq.mpr (DL.wp_eqn (e2)) ?_ | with_reducible refine Eq.mpr (DL.wp_ofOs (e2)) ?_ | with_reducible refine Eq.mpr (DL.wp_eqn (n2)) ?_ | with_reducible refine Eq.mpr (DL.wp_ofOs (n2)) ?_ | walk_at "ev1")
    exact ⟨rfl, rfl⟩) ?_
  rintro f ω' ⟨rfl, rfl⟩
  have i0 : ixD (.lst (intsD [2 + a])) (.int 0) = some (.int ((2 + a : Nat) : Int)) := ix_lst (k := 0) rfl rfl
  obtain ⟨x, ω3, e3', x1⟩ := pick_nat ω' 5 (by omega) (by omega)
  have e3 : F_law_pick [.int 5] ω' = .ok (.int (x : Nat)) ω3 := e3'
  obtain ⟨y, ω4, e4', y1⟩ := pick_nat ω3 3 (by omega) (by omega)
  have e4 : F_law_pick [.int 3] ω3 = .ok (.int (y : Nat)) ω4 := e4'
  have nx : addD (.int 2) (.int (x : Nat)) = some (.int ((2 + x : Nat) : Int)) := addN 2 x
  have ny : addD (.int 2) (.int (y : Nat)) = some (.int ((2 + y : Nat) : Int)) := addN 2 y
  refine Eq.mpr sw_seq ?_
  refine sw.mono (P := fun f ω'' => f = .nx [some .src, some (.d (.int (most : Nat))), some (.d (.int (way : Nat))), some (.d (.lst (intsD [2 + a]))), some (.d (.int (2 + a : Nat))), none, none, none] ∧ ω'' = ω') (by
    repeat (first | with_reducible refine Eq.mpr (DL.wp_eqn (i0)) ?_ | with_reducible refine Eq.mpr (DL.wp_ofOs (i0)) ?_ | walk_at "ev1")
    exact ⟨rfl, rfl⟩) ?_
  rintro f ω'' ⟨rfl, rfl⟩
  refine Eq.mpr sw_seq ?_
  refine sw.mono (P := fun f _ => ∃ (ks : List Nat) (c5 : Option Cell), f = .nx [some .src, some (.d (.int (most : Nat))), some (.d (.int (way : Nat))), some (.d (.lst (intsD ks))), some (.d (.int (prn ks : Nat))), c5, none, none] ∧ 1 ≤ ks.length ∧ ks.length ≤ 3 ∧ (∀ k ∈ ks, 2 ≤ k) ∧ prn ks ≤ 60) (by
    repeat (first | with_reducible refine Eq.mpr (DL.wp_eqn (e3)) ?_ | with_reducible refine Eq.mpr (DL.wp_ofOs (e3)) ?_ | with_reducible refine Eq.mpr (DL.wp_eqn (nx)) ?_ | with_reducible refine Eq.mpr (DL.wp_ofOs (nx)) ?_ | with_reducible refine Eq.mpr (DL.wp_eqn (e4)) ?_ | with_reducible refine Eq.mpr (DL.wp_ofOs (e4)) ?_ | with_reducible refine Eq.mpr (DL.wp_eqn (ny)) ?_ | with_reducible refine Eq.mpr (DL.wp_ofOs (ny)) ?_ | walk_at "ev1")
    refine loop_inv (fun i τ _ => ∃ (ks : List Nat) (c5 : Option Cell), τ = [some .src, some (.d (.int (most : Nat))), some (.d (.int (way : Nat))), some (.d (.lst (intsD ks))), some (.d (.int (prn ks : Nat))), c5, none, none] ∧ 1 ≤ ks.length ∧ ks.length ≤ 1 + i ∧ (∀ k ∈ ks, 2 ≤ k) ∧ prn ks ≤ 60) ⟨[2 + a], none, by rw [show prn [2 + a] = 2 + a from Nat.mul_one _], by simp, by simp, by simp, by rw [show prn [2 + a] = 2 + a from Nat.mul_one _]; omega⟩ ?_ ?_
    · rintro i d τ ω hd ⟨ks, c5, rfl, k1, k2, k3, k4⟩
      obtain ⟨z, rfl, z1, z2⟩ : ∃ z : Nat, d = .int (z : Nat) ∧ 2 ≤ z ∧ z ≤ 6 := by
        have h := List.mem_of_getElem? hd
        simp only [List.mem_cons, List.not_mem_nil, or_false] at h
        rcases h with rfl | rfl
        · exact ⟨2 + x, rfl, by omega, by omega⟩
        · exact ⟨2 + y, rfl, by omega, by omega⟩
      have hi : i < 2 := (List.getElem?_eq_some_iff.mp hd).1
      refine ⟨_, rfl, ?_⟩
      have hp : prn ks * z ≤ 60 * 6 := Nat.mul_le_mul k4 z2
      have em := mulN (prn ks) z (by omega)
      have ea := add_intsD ks [z] (by simp; omega)
      have ea' : addD (.lst (intsD ks)) (.lst [.int (z : Nat)]) = some (.lst (intsD (ks ++ [z]))) := ea
      repeat (first | with_reducible refine Eq.mpr (DL.wp_eqn (em)) ?_ | with_reducible refine Eq.mpr (DL.wp_ofOs (em)) ?_ | walk_at "ev1")
      by_cases hc : prn ks * z ≤ most
      · refine iteP (decide_eq_true (by omega)) ?_
        repeat (first | with_reducible refine Eq.mpr (DL.wp_eqn (ea')) ?_ | with_reducible refine Eq.mpr (DL.wp_ofOs (ea')) ?_ | with_reducible refine Eq.mpr (DL.wp_eqn (em)) ?_ | with_reducible refine Eq.mpr (DL.wp_ofOs (em)) ?_ | walk_at "ev1")
        refine ⟨ks ++ [z], _, by rw [prn_snoc]; rfl, by simp, by simp; omega, fun k hk => ?_, by rw [prn_snoc]; omega⟩
        rw [List.mem_append] at hk
        rcases hk with hk | hk
        · exact k3 k hk
        · simp at hk; omega
      · refine iteN (by rw [decide_eq_true_eq]; omega) ?_
        repeat walk_at "ev1"
        exact ⟨ks, _, rfl, k1, by omega, k3, k4⟩
    · rintro τ ω ⟨ks, c5, rfl, k1, k2, k3, k4⟩
      exact ⟨ks, c5, rfl, k1, k2, k3, k4⟩) ?_
  rintro f ω5 ⟨ks, c5, rfl, k1, k2, k3, k4⟩
  repeat (first | with_reducible refine Eq.mpr (DL.wp_eqn (eqD_int _ _)) ?_ | with_reducible refine Eq.mpr (DL.wp_ofOs (eqD_int _ _)) ?_ | walk_at "ev1")
  by_cases hw0 : way = 0
  · refine iteP (decide_eq_true (by omega)) ?_
    have em : bi2 min2D [.int 12, .int (most : Nat)] = some (.int ((min 12 most : Nat) : Int)) := min2N 12 most
    have s1 : subD (.int (min 12 most : Nat)) (.int 1) = some (.int ((min 12 most - 1 : Nat) : Int)) := subN (min 12 most) 1 (by omega)
    obtain ⟨q, ω6, e6, q1⟩ := pick_nat ω5 (min 12 most - 1) (by omega) (by omega)
    have nq : addD (.int 2) (.int (q : Nat)) = some (.int ((2 + q : Nat) : Int)) := addN 2 q
    obtain ⟨t, ω7, e7, t1, t2⟩ := table_ok (2 + q) ω6 (by omega) (by omega)
    repeat (first | with_reducible refine Eq.mpr (DL.wp_eqn (em)) ?_ | with_reducible refine Eq.mpr (DL.wp_ofOs (em)) ?_ | with_reducible refine Eq.mpr (DL.wp_eqn (s1)) ?_ | with_reducible refine Eq.mpr (DL.wp_ofOs (s1)) ?_ | with_reducible refine Eq.mpr (DL.wp_eqn (e6)) ?_ | with_reducible refine Eq.mpr (DL.wp_ofOs (e6)) ?_ | with_reducible refine Eq.mpr (DL.wp_eqn (nq)) ?_ | with_reducible refine Eq.mpr (DL.wp_ofOs (nq)) ?_ | with_reducible refine Eq.mpr (DL.wp_eqn (e7)) ?_ | with_reducible refine Eq.mpr (DL.wp_ofOs (e7)) ?_ | walk_at "ev1")
    exact ⟨t, rfl, t1, by omega⟩
  · refine iteN (by rw [decide_eq_true_eq]; omega) ?_
    have hm0 := List.getElem_mem (show 0 < ks.length by omega)
    have g0 := k3 _ hm0
    have g1 := prn_mem k3 hm0
    have j0 := ix_intsD (show 0 < ks.length by omega)
    have j0' : ixD (.lst (intsD ks)) (.int 0) = some (.int (ks[0] : Nat)) := j0
    obtain ⟨t0, ω6, e6, t1, t2⟩ := table_ok ks[0] ω5 g0 (by omega)
    have hsl : sliceD (.lst (intsD ks)) (some 1) none = some (.lst (intsD (ks.drop 1))) := by
      show some (D.lst (cutL (intsD ks) (some ((1 : Nat) : Int)) none)) = _
      rw [cut_from]; unfold intsD; rw [List.map_drop]
    repeat (first | with_reducible refine Eq.mpr (DL.wp_eqn (j0')) ?_ | with_reducible refine Eq.mpr (DL.wp_ofOs (j0')) ?_ | with_reducible refine Eq.mpr (DL.wp_eqn (e6)) ?_ | with_reducible refine Eq.mpr (DL.wp_ofOs (e6)) ?_ | with_reducible refine Eq.mpr (DL.wp_eqn (hsl)) ?_ | with_reducible refine Eq.mpr (DL.wp_ofOs (hsl)) ?_ | walk_at "ev1")
    refine loop_inv (fun i τ _ => ∃ (t : Tab) (b : Nat) (c4 : Option Cell), τ = [some .src, some (.d (.int (most : Nat))), some (.d (.int (way : Nat))), some (.d (.lst (intsD ks))), c4, c5, some (.d (tb t)), some (.d (.int (b : Nat)))] ∧ WT t ∧ bsz t = prn (ks.take (1 + i)) ∧ 1 ≤ b) ⟨t0, ks[0], _, rfl, t1, by
        rw [t2, show 1 + 0 = 0 + 1 by omega, List.take_succ_eq_append_getElem (by omega)]
        simp [prn], by omega⟩ ?_ ?_
    · rintro i d τ ω hd ⟨t, b, c4, rfl, w1, w2, w3⟩
      have hi : 1 + i < ks.length := by have := (List.getElem?_eq_some_iff.mp hd).1; unfold intsD at this; rw [List.length_map, List.length_drop] at this; omega
      have hdz : d = .int (ks[1 + i] : Nat) := by
        unfold intsD at hd
        rw [List.getElem?_map, List.getElem?_drop, List.getElem?_eq_getElem hi] at hd
        exact (Option.some.inj hd).symm
      subst hdz
      refine ⟨_, rfl, ?_⟩
      have hmi := List.getElem_mem hi
      have gi := k3 _ hmi
      have gi2 := prn_mem k3 hmi
      obtain ⟨u, ω7, e7, u1, u2⟩ := table_ok ks[1 + i] ω gi (by omega)
      have a1 : addD (.int (t.length : Nat)) (.int 1) = some (.int (bsz t : Nat)) := addN t.length 1
      have hpr : prn (ks.take (1 + i + 1)) = prn (ks.take (1 + i)) * ks[1 + i] := by
        rw [List.take_succ_eq_append_getElem hi, prn_snoc]
      have hle : prn (ks.take (1 + i + 1)) ≤ 60 := by
        have h := prn_append (ks.take (1 + i + 1)) (ks.drop (1 + i + 1))
        rw [List.take_append_drop] at h
        have h' := prn_pos (ks.drop (1 + i + 1)) fun k hk => k3 k (List.mem_of_mem_drop hk)
        have := Nat.le_mul_of_pos_right (prn (ks.take (1 + i + 1))) h'
        omega
      have hbb : bsz t * bsz u = prn (ks.take (1 + i + 1)) := by rw [hpr, w2, u2]
      have hbt : bsz t ≤ 60 := by
        have := Nat.le_mul_of_pos_right (bsz t) (show 0 < bsz u by omega)
        omega
      have eg := law_glued_ok t u w1 u1 (by omega) (by omega) (by omega)
      repeat (first | with_reducible refine Eq.mpr (DL.wp_eqn (len_tb t)) ?_ | with_reducible refine Eq.mpr (DL.wp_ofOs (len_tb t)) ?_ | with_reducible refine Eq.mpr (DL.wp_eqn (a1)) ?_ | with_reducible refine Eq.mpr (DL.wp_ofOs (a1)) ?_ | with_reducible refine Eq.mpr (DL.wp_eqn (e7)) ?_ | with_reducible refine Eq.mpr (DL.wp_ofOs (e7)) ?_ | with_reducible refine Eq.mpr (DL.wp_eqn (eg)) ?_ | with_reducible refine Eq.mpr (DL.wp_ofOs (eg)) ?_ | walk_at "ev1")
      exact ⟨glu t u, bsz t, _, rfl, glu_wt t u w1 u1, by rw [glu_len, hbb, Nat.add_assoc], by simp [bsz]⟩
    · rintro τ ω ⟨t, b, c4, rfl, w1, w2, w3⟩
      have hlen : (intsD (ks.drop 1)).length = ks.length - 1 := by unfold intsD; rw [List.length_map, List.length_drop]
      rw [hlen, List.take_of_length_le (by omega)] at w2
      obtain ⟨c, ec⟩ := in_way12 way r1
      repeat (first | with_reducible refine Eq.mpr (DL.wp_eqn (ec)) ?_ | with_reducible refine Eq.mpr (DL.wp_ofOs (ec)) ?_ | walk_at "ev1")
      cases c with
      | true =>
        obtain ⟨t', ω7, e7, v1, v2⟩ := bent_ok t ω w1 (by omega)
        repeat (first | with_reducible refine Eq.mpr (DL.wp_eqn (e7)) ?_ | with_reducible refine Eq.mpr (DL.wp_ofOs (e7)) ?_ | walk_at "ev1")
        exact ⟨t', rfl, v1, by omega⟩
      | false =>
        obtain ⟨c, ec⟩ := in_way345 way r1
        repeat (first | with_reducible refine Eq.mpr (DL.wp_eqn (ec)) ?_ | with_reducible refine Eq.mpr (DL.wp_ofOs (ec)) ?_ | walk_at "ev1")
        cases c with
        | true =>
          have a1 : addD (.int (t.length : Nat)) (.int 1) = some (.int (bsz t : Nat)) := addN t.length 1
          repeat (first | with_reducible refine Eq.mpr (DL.wp_eqn (len_tb t)) ?_ | with_reducible refine Eq.mpr (DL.wp_ofOs (len_tb t)) ?_ | with_reducible refine Eq.mpr (DL.wp_eqn (a1)) ?_ | with_reducible refine Eq.mpr (DL.wp_ofOs (a1)) ?_ | walk_at "ev1")
          by_cases hb : b < bsz t
          · refine iteP (decide_eq_true (by omega)) ?_
            obtain ⟨t', ω7, e7, v1, v2⟩ := retopped_ok t b ω w1 (by omega) w3 hb
            repeat (first | with_reducible refine Eq.mpr (DL.wp_eqn (e7)) ?_ | with_reducible refine Eq.mpr (DL.wp_ofOs (e7)) ?_ | walk_at "ev1")
            exact ⟨t', rfl, v1, by omega⟩
          · refine iteN (by rw [decide_eq_true_eq]; omega) ?_
            repeat walk_at "ev1"
            exact ⟨t, rfl, w1, by omega⟩
        | false =>
          repeat walk_at "ev1"
          exact ⟨t, rfl, w1, by omega⟩
theorem wp_eAndI {Ω : Type} {a b : E Ω D} {τ : Tau} {ω : Ω} {P : D → Ω → Prop} {X} (h : (a τ ω).wp (fun x ω1 => (x = .bl true ∧ (b τ ω1).wp P X) ∨ (x = .bl false ∧ P (.bl false) ω1)) X) : (eAnd a b τ ω).wp P X := by
  unfold eAnd
  rw [wp_bind]
  refine h.mono fun x ω1 hx => ?_
  rcases hx with ⟨rfl, hx⟩ | ⟨rfl, hx⟩
  · exact hx
  · with_unfolding_all exact hx
theorem ltI (a b : Nat) : ltD (.int (a : Nat)) (.int (b : Nat)) = some (.bl (decide (a < b))) := by
  have e : ltD (.int (a : Nat)) (.int (b : Nat)) = some (.bl (decide ((a : Int) < (b : Int)))) := rfl
  rw [e]
  by_cases h : a < b
  · rw [decide_eq_true h, decide_eq_true (by omega)]
  · rw [decide_eq_false h, decide_eq_false (by omega)]
theorem leI (a b : Nat) : leD (.int (a : Nat)) (.int (b : Nat)) = some (.bl (decide (a ≤ b))) := by
  have e : leD (.int (a : Nat)) (.int (b : Nat)) = some (.bl (decide ((a : Int) ≤ (b : Int)))) := rfl
  rw [e]
  by_cases h : a ≤ b
  · rw [decide_eq_true h, decide_eq_true (by omega)]
  · rw [decide_eq_false h, decide_eq_false (by omega)]
theorem geI (a b : Nat) : geD (.int (a : Nat)) (.int (b : Nat)) = some (.bl (decide (b ≤ a))) := by
  have e : geD (.int (a : Nat)) (.int (b : Nat)) = some (.bl (decide ((a : Int) ≥ (b : Int)))) := rfl
  rw [e]
  by_cases h : b ≤ a
  · rw [decide_eq_true h, decide_eq_true (by omega)]
  · rw [decide_eq_false h, decide_eq_false (by omega)]
theorem neN2 (a b : Nat) : neD (.int (a : Nat)) (.int (b : Nat)) = some (.bl (!decide (a = b))) := by
  rw [neD_int]
  congr 3
  exact decide_eq_decide.mpr ⟨fun z => by omega, fun z => by omega⟩
theorem len_rng (f : Nat → D) (q : Nat) : un1 lenD [.lst ((List.range q).map f)] = some (.int (q : Nat)) := by
  show some (D.int ((((List.range q).map f).length : Nat) : Int)) = _
  rw [List.length_map, List.length_range]
theorem any_bools {α : Type} (l : List α) (f : α → Bool) : un1 anyD [.lst (l.map fun x => D.bl (f x))] = some (.bl (l.any f)) := by
  show (D.toBools (l.map fun x => D.bl (f x))).map (fun bs => D.bl (bs.any id)) = _
  have e : l.map (fun x => D.bl (f x)) = (l.map f).map D.bl := by rw [List.map_map]; rfl
  rw [e, toBools_of, Option.map_some, List.any_map]; rfl
theorem fault_cases (t : Tab) (b m k : Nat) : faultD t b m k = .non ∨ faultD t b m k = .str "lump" ∨ faultD t b m k = .str "shape" := by
  unfold faultD
  cases sub (ent t m) (k * b) (min (k * b + b) m) with
  | none => exact .inr (.inl rfl)
  | some x =>
    by_cases h : x = ent t (min b (m - k * b))
    · exact .inl (if_pos h)
    · exact .inr (.inr (if_neg h))
theorem eq_fault {d : D} (h : d = .non ∨ d = .str "lump" ∨ d = .str "shape") {z : Str} (hz : z = "lump" ∨ z = "shape") : ∃ r, eqD d (.str z) = some (.bl r) ∧ (r = true ↔ d = .str z) := by
  have ne : ¬ (("lump" : Str) = "shape") := by decide +kernel
  rcases hz with rfl | rfl <;> rcases h with rfl | rfl | rfl
  · exact ⟨false, by kernel_rfl, by simp⟩
  · exact ⟨true, by kernel_rfl, by simp⟩
  · exact ⟨false, by kernel_rfl, iff_of_false (fun z => by cases z) (fun z => by injection z with z; exact absurd z.symm ne)⟩
  · exact ⟨false, by kernel_rfl, by simp⟩
  · exact ⟨false, by kernel_rfl, iff_of_false (fun z => by cases z) (fun z => by injection z with z; exact absurd z ne)⟩
  · exact ⟨true, by kernel_rfl, by simp⟩
theorem lt_up {b m k : Nat} (hb : 1 ≤ b) : k < (m + b - 1) / b ↔ k * b < m := by
  constructor
  · exact fun h => up_lt hb h
  · intro h
    rw [Nat.lt_iff_add_one_le, Nat.le_div_iff_mul_le hb, Nat.add_mul]
    omega
theorem is_stretch_ok (t : Tab) (b m k : Nat) {z : Str} (hw : WT t) (hz : bsz t ≤ 70) (hb : 1 ≤ b) (hb2 : b ≤ 70) (h1 : 1 ≤ m) (h2 : m ≤ bsz t) (ez : z = "lump" ∨ z = "shape") :
    ∃ r, F_is_stretch_counter [tb t, .int b, .str z, .int m, .int k] = .ok (.bl r) () ∧ (r = true ↔ k * b < m ∧ faultD t b m k = .str z) := by
  suffices h : (F_is_stretch_counter [tb t, .int b, .str z, .int m, .int k]).wp (fun d _ => ∃ r, d = .bl r ∧ (r = true ↔ k * b < m ∧ faultD t b m k = .str z)) X0 by
    obtain ⟨d, _, e, r, rfl, h⟩ := h.ex
    exact ⟨r, e, h⟩
  unfold F_is_stretch_counter B_is_stretch_counter
  have hs : startT 6 ([tb t, D.int b, .str z, .int m, .int k].map Cell.d) = [some (.d (tb t)), some (.d (.int b)), some (.d (.str z)), some (.d (.int m)), some (.d (.int k)), none] := rfl
  rw [hs]
  repeat (first | with_reducible refine Eq.mpr (DL.wp_eqn (stretch_faults_ok t b m hw hz hb hb2 h1 h2)) ?_ | with_reducible refine Eq.mpr (DL.wp_ofOs (stretch_faults_ok t b m hw hz hb hb2 h1 h2)) ?_ | walk_at "ev1")
  refine wp_eAndI ?_
  repeat (first | with_reducible refine Eq.mpr (DL.wp_eqn (len_rng (faultD t b m) ((m + b - 1) / b))) ?_ | with_reducible refine Eq.mpr (DL.wp_ofOs (len_rng (faultD t b m) ((m + b - 1) / b))) ?_ | with_reducible refine Eq.mpr (DL.wp_eqn (ltI k ((m + b - 1) / b))) ?_ | with_reducible refine Eq.mpr (DL.wp_ofOs (ltI k ((m + b - 1) / b))) ?_ | walk_at "ev1")
  by_cases c : k * b < m
  · have c' := (lt_up hb).mpr c
    refine .inl ⟨by rw [decide_eq_true c'], ?_⟩
    have ix : ixD (.lst ((List.range ((m + b - 1) / b)).map (faultD t b m))) (.int (k : Nat)) = some (faultD t b m k) := ix_lst (k := k) rfl (by rw [List.getElem?_map, List.getElem?_range c']; rfl)
    obtain ⟨r, er, hr⟩ := eq_fault (fault_cases t b m k) ez
    repeat (first | with_reducible refine Eq.mpr (DL.wp_eqn (ix)) ?_ | with_reducible refine Eq.mpr (DL.wp_ofOs (ix)) ?_ | with_reducible refine Eq.mpr (DL.wp_eqn (er)) ?_ | with_reducible refine Eq.mpr (DL.wp_ofOs (er)) ?_ | walk_at "ev1")
    exact ⟨r, rfl, by rw [hr]; exact ⟨fun h => ⟨c, h⟩, fun h => h.2⟩⟩
  · have c' : ¬ k < (m + b - 1) / b := fun h => c ((lt_up hb).mp h)
    refine .inr ⟨by rw [decide_eq_false c'], ?_⟩
    exact ⟨false, rfl, iff_of_false (fun z => by cases z) (fun h => absurd h.1 c)⟩
abbrev allStr (t : Tab) (b m : Nat) : Prop := ∀ k, k * b < m → strOk t b m k
def bad (t : Tab) (b m k : Nat) : Bool := match faultD t b m k with
  | .non => false
  | _ => true
theorem bad_iff (t : Tab) (b m k : Nat) : bad t b m k = false ↔ strOk t b m k := by
  rw [← faultD_non]
  unfold bad
  rcases fault_cases t b m k with h | h | h <;> rw [h] <;> simp
theorem not_bad (t : Tab) (b m k : Nat) : notND (faultD t b m k) .non = some (.bl (bad t b m k)) := by
  unfold bad
  rcases fault_cases t b m k with h | h | h <;> rw [h] <;> rfl
theorem any_bad (t : Tab) (b m : Nat) (hb : 1 ≤ b) : (List.range ((m + b - 1) / b)).any (bad t b m) = false ↔ allStr t b m := by
  rw [List.any_eq_false]
  constructor
  · intro h k hk
    have := h k (List.mem_range.mpr ((lt_up hb).mpr hk))
    exact (bad_iff t b m k).mp (by simpa using this)
  · intro h k hk
    have := (bad_iff t b m k).mpr (h k ((lt_up hb).mp (List.mem_range.mp hk)))
    rw [this]; simp
theorem is_above_ok (t : Tab) (b m n : Nat) (hw : WT t) (hz : bsz t ≤ 70) (hb : 1 ≤ b) (hb2 : b ≤ 70) (h1 : 1 ≤ m) (h2 : m ≤ bsz t) (h3 : n ≤ bsz t) :
    ∃ r, F_is_above_counter [tb t, .int b, .int m, .int n] = .ok (.bl r) () ∧ (r = true ↔ m < n ∧ (m + b - 1) / b = (n + b - 1) / b ∧ allStr t b m ∧ allStr t b n ∧ abv (ent t m) b 0 ≠ abv (ent t n) b 0) := by
  suffices h : (F_is_above_counter [tb t, .int b, .int m, .int n]).wp (fun d _ => ∃ r, d = .bl r ∧ (r = true ↔ m < n ∧ (m + b - 1) / b = (n + b - 1) / b ∧ allStr t b m ∧ allStr t b n ∧ abv (ent t m) b 0 ≠ abv (ent t n) b 0)) X0 by
    obtain ⟨d, _, e, r, rfl, h⟩ := h.ex
    exact ⟨r, e, h⟩
  unfold F_is_above_counter B_is_above_counter
  have hs : startT 6 ([tb t, D.int b, .int m, .int n].map Cell.d) = [some (.d (tb t)), some (.d (.int b)), some (.d (.int m)), some (.d (.int n)), none, none] := rfl
  rw [hs]
  have g := geI m n
  by_cases c1 : n ≤ m
  · rw [decide_eq_true c1] at g
    repeat (first | with_reducible refine Eq.mpr (DL.wp_eqn (g)) ?_ | with_reducible refine Eq.mpr (DL.wp_ofOs (g)) ?_ | walk_at "ev1")
    exact ⟨false, rfl, iff_of_false (fun z => by cases z) (fun h => absurd h.1 (by omega))⟩
  rw [decide_eq_false c1] at g
  have s1 := stretches_ok m b hb (by omega) (by omega)
  have s2 := stretches_ok n b hb (by omega) (by omega)
  have l1 := len_rng (fun i => .tup [.int (i * b : Nat), .int (min (i * b + b) m : Nat)]) ((m + b - 1) / b)
  have l2 := len_rng (fun i => .tup [.int (i * b : Nat), .int (min (i * b + b) n : Nat)]) ((n + b - 1) / b)
  have nn := neN2 ((m + b - 1) / b) ((n + b - 1) / b)
  by_cases c2 : (m + b - 1) / b = (n + b - 1) / b
  case neg =>
    rw [decide_eq_false c2] at nn
    repeat (first | with_reducible refine Eq.mpr (DL.wp_eqn (g)) ?_ | with_reducible refine Eq.mpr (DL.wp_ofOs (g)) ?_ | with_reducible refine Eq.mpr (DL.wp_eqn (s1)) ?_ | with_reducible refine Eq.mpr (DL.wp_ofOs (s1)) ?_ | with_reducible refine Eq.mpr (DL.wp_eqn (s2)) ?_ | with_reducible refine Eq.mpr (DL.wp_ofOs (s2)) ?_ | with_reducible refine Eq.mpr (DL.wp_eqn (l1)) ?_ | with_reducible refine Eq.mpr (DL.wp_ofOs (l1)) ?_ | with_reducible refine Eq.mpr (DL.wp_eqn (l2)) ?_ | with_reducible refine Eq.mpr (DL.wp_ofOs (l2)) ?_ | with_reducible refine Eq.mpr (DL.wp_eqn (nn)) ?_ | with_reducible refine Eq.mpr (DL.wp_ofOs (nn)) ?_ | walk_at "ev1")
    exact ⟨false, rfl, iff_of_false (fun z => by cases z) (fun h => absurd h.2.1 c2)⟩
  rw [decide_eq_true c2] at nn
  repeat (first | with_reducible refine Eq.mpr (DL.wp_eqn (g)) ?_ | with_reducible refine Eq.mpr (DL.wp_ofOs (g)) ?_ | with_reducible refine Eq.mpr (DL.wp_eqn (s1)) ?_ | with_reducible refine Eq.mpr (DL.wp_ofOs (s1)) ?_ | with_reducible refine Eq.mpr (DL.wp_eqn (s2)) ?_ | with_reducible refine Eq.mpr (DL.wp_ofOs (s2)) ?_ | with_reducible refine Eq.mpr (DL.wp_eqn (l1)) ?_ | with_reducible refine Eq.mpr (DL.wp_ofOs (l1)) ?_ | with_reducible refine Eq.mpr (DL.wp_eqn (l2)) ?_ | with_reducible refine Eq.mpr (DL.wp_ofOs (l2)) ?_ | with_reducible refine Eq.mpr (DL.wp_eqn (nn)) ?_ | with_reducible refine Eq.mpr (DL.wp_ofOs (nn)) ?_ | walk_at "ev1")
  refine loop_inv (fun i τ _ => (1 ≤ i → allStr t b m) ∧ (2 ≤ i → allStr t b n) ∧ ∃ c4 c5, τ = [some (.d (tb t)), some (.d (.int b)), some (.d (.int m)), some (.d (.int n)), c4, c5]) ⟨by omega, by omega, none, none, rfl⟩ ?_ ?_
  · rintro i d τ ω hd ⟨i1, i2, c4, c5, rfl⟩
    obtain ⟨x, rfl, hx1, hx2, hx⟩ : ∃ x : Nat, d = .int (x : Nat) ∧ 1 ≤ x ∧ x ≤ bsz t ∧ ((i = 0 ∧ x = m) ∨ (i = 1 ∧ x = n)) := by
      match i, hd with
      | 0, hd => cases hd; exact ⟨m, rfl, h1, h2, .inl ⟨rfl, rfl⟩⟩
      | 1, hd => cases hd; exact ⟨n, rfl, by omega, h3, .inr ⟨rfl, rfl⟩⟩
      | k + 2, hd => cases hd
    refine ⟨_, rfl, ?_⟩
    have hany := any_bools (List.range ((x + b - 1) / b)) (bad t b x)
    repeat (first | with_reducible refine Eq.mpr (DL.wp_eqn (stretch_faults_ok t b x hw hz hb hb2 hx1 hx2)) ?_ | with_reducible refine Eq.mpr (DL.wp_ofOs (stretch_faults_ok t b x hw hz hb hb2 hx1 hx2)) ?_ | walk_at "ev1")
    have hxq : (x + b - 1) / b ≤ x + b - 1 := Nat.div_le_self _ _
    refine ⟨by rw [List.length_map, List.length_range, sizeLine_eq]; omega, ?_⟩
    refine lc_map (fun k => .bl (bad t b x k)) (fun k d hd => ?_) ?_
    · rw [List.getElem?_map] at hd
      have hk : k < (x + b - 1) / b := by
        rcases Nat.lt_or_ge k ((x + b - 1) / b) with h | h
        · exact h
        · rw [List.getElem?_eq_none (by simpa using h)] at hd; cases hd
      rw [List.getElem?_range hk] at hd
      cases hd
      refine ⟨_, rfl, ?_⟩
      repeat (first | with_reducible refine Eq.mpr (DL.wp_eqn (not_bad t b x k)) ?_ | with_reducible refine Eq.mpr (DL.wp_ofOs (not_bad t b x k)) ?_ | walk_at "ev1")
      exact ⟨rfl, rfl⟩
    · rw [List.length_map, List.length_range]
      by_cases c3 : allStr t b x
      · rw [(any_bad t b x hb).mpr c3] at hany
        repeat (first | with_reducible refine Eq.mpr (DL.wp_eqn (hany)) ?_ | with_reducible refine Eq.mpr (DL.wp_ofOs (hany)) ?_ | walk_at "ev1")
        rcases hx with ⟨rfl, rfl⟩ | ⟨rfl, rfl⟩
        · exact ⟨fun _ => c3, by omega, _, _, rfl⟩
        · exact ⟨fun _ => i1 (by omega), fun _ => c3, _, _, rfl⟩
      · have : (List.range ((x + b - 1) / b)).any (bad t b x) = true := by
          cases e : (List.range ((x + b - 1) / b)).any (bad t b x) with
          | true => rfl
          | false => exact absurd ((any_bad t b x hb).mp e) c3
        rw [this] at hany
        repeat (first | with_reducible refine Eq.mpr (DL.wp_eqn (hany)) ?_ | with_reducible refine Eq.mpr (DL.wp_ofOs (hany)) ?_ | walk_at "ev1")
        refine ⟨false, rfl, iff_of_false (fun z => by cases z) (fun h => ?_)⟩
        rcases hx with ⟨_, rfl⟩ | ⟨_, rfl⟩
        · exact absurd h.2.2.1 c3
        · exact absurd h.2.2.2.1 c3
  · rintro τ ω ⟨i1, i2, c4, c5, rfl⟩
    have a1 := i1 (by show 1 ≤ 2; omega)
    have a2 := i2 (by show 2 ≤ 2; omega)
    have z1 := hw.ent h1 h2
    have z2 := hw.ent (show 1 ≤ n by omega) h3
    have e1 := above_ok b hb (by omega) (ent t m) (by omega)
    have e2 := above_ok b hb (by omega) (ent t n) (by omega)
    have y1 := abv_le (ent t m) b 0
    have ne : neD (abv (ent t m) b 0).enc (abv (ent t n) b 0).enc = some (.bl (!decide (abv (ent t m) b 0 = abv (ent t n) b 0))) := neD_sh _ _ (.inl (by omega))
    repeat (first | with_reducible refine Eq.mpr (DL.wp_eqn (entry_ok t m h1 h2)) ?_ | with_reducible refine Eq.mpr (DL.wp_ofOs (entry_ok t m h1 h2)) ?_ | with_reducible refine Eq.mpr (DL.wp_eqn (entry_ok t n (by omega) h3)) ?_ | with_reducible refine Eq.mpr (DL.wp_ofOs (entry_ok t n (by omega) h3)) ?_ | with_reducible refine Eq.mpr (DL.wp_eqn (e1)) ?_ | with_reducible refine Eq.mpr (DL.wp_ofOs (e1)) ?_ | with_reducible refine Eq.mpr (DL.wp_eqn (e2)) ?_ | with_reducible refine Eq.mpr (DL.wp_ofOs (e2)) ?_ | with_reducible refine Eq.mpr (DL.wp_eqn (ne)) ?_ | with_reducible refine Eq.mpr (DL.wp_ofOs (ne)) ?_ | walk_at "ev1")
    refine ⟨_, rfl, ?_⟩
    rw [Bool.not_eq_true', decide_eq_false_iff_not]
    exact ⟨fun h => ⟨by omega, c2, a1, a2, h⟩, fun h => h.2.2.2.2⟩
def NI : D → Prop
  | .ins _ _ => False
  | .dit _ _ => False
  | _ => True
def isNum : D → Bool
  | .int i => decide (0 ≤ i)
  | _ => false
theorem num_int (i : Int) : F_is_number [.int i] = .ok (.bl (decide (0 ≤ i))) () := by
  apply R.wp.equ
  unfold F_is_number B_is_number
  have hs0 : startT 1 ([D.int i].map Cell.d) = [some (.d (.int i))] := rfl
  rw [hs0]
  have e1 : F_is_integer [.int i] = .ok (.bl true) () := by kernel_rfl
  repeat walk_at "ev1"
  refine wp_eAndI ?_
  repeat (first | with_reducible refine Eq.mpr (DL.wp_eqn (e1)) ?_ | with_reducible refine Eq.mpr (DL.wp_ofOs (e1)) ?_ | walk_at "ev1")
  refine .inl ⟨rfl, ?_⟩
  repeat walk_at "ev1"
  rfl
theorem num_bl (b : Bool) : F_is_number [.bl b] = .ok (.bl false) () := by cases b <;> kernel_rfl
theorem num_other {x : D} (h : isiD "int" x = some (.bl false)) : F_is_number [x] = .ok (.bl false) () := by
  have e1 : F_is_integer [x] = .ok (.bl false) () := by
    apply R.wp.equ
    unfold F_is_integer B_is_integer
    have hs0 : startT 1 ([x].map Cell.d) = [some (.d x)] := rfl
    rw [hs0]
    repeat walk_at "ev1"
    refine wp_eAndI ?_
    repeat (first | with_reducible refine Eq.mpr (DL.wp_eqn (h)) ?_ | with_reducible refine Eq.mpr (DL.wp_ofOs (h)) ?_ | walk_at "ev1")
    exact .inr ⟨rfl, rfl⟩
  apply R.wp.equ
  unfold F_is_number B_is_number
  have hs0 : startT 1 ([x].map Cell.d) = [some (.d x)] := rfl
  rw [hs0]
  repeat walk_at "ev1"
  refine wp_eAndI ?_
  repeat (first | with_reducible refine Eq.mpr (DL.wp_eqn (e1)) ?_ | with_reducible refine Eq.mpr (DL.wp_ofOs (e1)) ?_ | walk_at "ev1")
  exact .inr ⟨rfl, rfl⟩
theorem is_num_any {x : D} (h : NI x) : F_is_number [x] = .ok (.bl (isNum x)) () := by
  cases x with
  | int i => exact num_int i
  | bl b => exact num_bl b
  | ins _ _ => exact h.elim
  | dit _ _ => exact h.elim
  | _ => exact num_other (by kernel_rfl)
theorem num_up {x : D} (h : isNum x = true) : ∃ n : Nat, x = .int n := by
  cases x with
  | int i =>
    have h : decide (0 ≤ i) = true := h
    rw [decide_eq_true_eq] at h
    exact ⟨i.toNat, by rw [Int.toNat_of_nonneg h]⟩
  | _ => cases h
theorem chain_ok {Ω : Type} {f g : D → D → Option D} {a b c : E Ω D} {τ : Tau} {ω : Ω} {x y z : D} {p q : Bool} (ha : a τ ω = .ok x ω) (hb : b τ ω = .ok y ω) (hc : c τ ω = .ok z ω) (hf : f x y = some (.bl p)) (hg : g y z = some (.bl q)) : eChain f g a b c τ ω = .ok (.bl (p && q)) ω := by
  unfold eChain
  rw [ha]
  simp only [R.bind_ok, hb, hf, R.ofO_some]
  cases p with
  | false => rfl
  | true =>
    simp only [hc, R.bind_ok, hg, R.ofO_some]
    cases q <;> rfl
def IsC (t : Tab) (b : Nat) (v : D) : Prop :=
  (v = .tup [.str "size"] ∧ bsz t % b ≠ 0) ∨
  (∃ m k : Nat, 2 ≤ m ∧ m ≤ bsz t ∧ k * b < m ∧ ¬ strOk t b m k ∧ v = .tup [faultD t b m k, .int m, .int k]) ∨
  (∃ m n : Nat, 2 ≤ m ∧ n ≤ bsz t ∧ (m < n ∧ (m + b - 1) / b = (n + b - 1) / b ∧ allStr t b m ∧ allStr t b n ∧ abv (ent t m) b 0 ≠ abv (ent t n) b 0) ∧ v = .tup [.str "above", .int m, .int n])
/-- a value whose kind can be asked for -/
structure Kd (x : D) : Prop where
  lu : ∃ r, eqD x (.str "lump") = some (.bl r) ∧ (r = true ↔ x = .str "lump")
  sh : ∃ r, eqD x (.str "shape") = some (.bl r) ∧ (r = true ↔ x = .str "shape")
  ab : ∃ r, eqD x (.str "above") = some (.bl r) ∧ (r = true ↔ x = .str "above")
structure Vk (v : D) : Prop where
  ni : NI v
  sz : ∃ r, eqT v (.tup [.str "size"]) = some (.bl r) ∧ (r = true ↔ v = .tup [.str "size"])
  len : ∀ ds, v = .tup ds → ds.length ≤ 1000
  tu : ∀ x y z, v = .tup [x, y, z] → Kd x ∧ NI y ∧ NI z
theorem IsC.three {t : Tab} {b : Nat} {x y z : D} (h : IsC t b (.tup [x, y, z])) :
    (∃ m k : Nat, y = .int m ∧ z = .int k ∧ 2 ≤ m ∧ m ≤ bsz t ∧ k * b < m ∧ ¬ strOk t b m k ∧ x = faultD t b m k) ∨
    (∃ m n : Nat, y = .int m ∧ z = .int n ∧ 2 ≤ m ∧ n ≤ bsz t ∧ (m < n ∧ (m + b - 1) / b = (n + b - 1) / b ∧ allStr t b m ∧ allStr t b n ∧ abv (ent t m) b 0 ≠ abv (ent t n) b 0) ∧ x = .str "above") := by
  rcases h with ⟨h, _⟩ | ⟨m, k, a1, a2, a3, a4, h⟩ | ⟨m, n, a1, a2, a3, h⟩
  · injection h with h
    injection h with _ h
    cases h
  · injection h with h
    injection h with h1 h
    injection h with h2 h
    injection h with h3 _
    exact .inl ⟨m, k, h2, h3, a1, a2, a3, a4, h1⟩
  · injection h with h
    injection h with h1 h
    injection h with h2 h
    injection h with h3 _
    exact .inr ⟨m, n, h2, h3, a1, a2, a3, h1⟩
theorem IsC.mk1 {t : Tab} {b m k : Nat} {x : D} (a1 : 2 ≤ m) (a2 : m ≤ bsz t) (a3 : k * b < m) (h : faultD t b m k = x) (hx : x ≠ .non) : IsC t b (.tup [x, .int m, .int k]) := by
  subst h
  exact .inr (.inl ⟨m, k, a1, a2, a3, fun q => hx ((faultD_non t b m k).mpr q), rfl⟩)
theorem fault_not_above (t : Tab) (b m k : Nat) : faultD t b m k ≠ .str "above" := by
  have n1 : ¬ (("lump" : Str) = "above") := by decide +kernel
  have n2 : ¬ (("shape" : Str) = "above") := by decide +kernel
  rcases fault_cases t b m k with h | h | h <;> rw [h]
  · intro z; cases z
  · intro z; injection z with z; exact n1 z
  · intro z; injection z with z; exact n2 z
theorem judge3_ok {t : Tab} {b : Nat} (hw : WT t) (hz : bsz t ≤ 70) (hb : 1 ≤ b) (hb2 : b ≤ 70) {x y z : D} (kx : Kd x) (ny : NI y) (nz : NI z) :
    ∃ r, F_judge_entries_counter [tb t, .int b, .tup [x, y, z]] = .ok (.bl r) () ∧ (r = true ↔ IsC t b (.tup [x, y, z])) := by
  suffices h : (F_judge_entries_counter [tb t, .int b, .tup [x, y, z]]).wp (fun d _ => ∃ r, d = .bl r ∧ (r = true ↔ IsC t b (.tup [x, y, z]))) X0 by
    obtain ⟨d, _, e, r, rfl, h⟩ := h.ex
    exact ⟨r, e, h⟩
  unfold F_judge_entries_counter B_judge_entries_counter
  have st : startT 6 ([tb t, D.int b, .tup [x, y, z]].map Cell.d) = [some (.d (tb t)), some (.d (.int b)), some (.d (.tup [x, y, z])), none, none, none] := rfl
  rw [st]
  have i1 : isiD "tuple" (.tup [x, y, z]) = some (.bl true) := by kernel_rfl
  have ln : un1 lenD [.tup [x, y, z]] = some (.int 3) := rfl
  have nl : neD (.int 3) (.int 3) = some (.bl false) := by kernel_rfl
  have no : ∀ {P : Prop}, ¬ P → (false = true ↔ P) := fun h => iff_of_false (fun z => by cases z) h
  refine Eq.mpr wp_nox ?_
  refine Eq.mpr wp_runS ?_
  refine Eq.mpr sw_seq ?_
  refine sw.mono (P := fun fl _ => fl = .nx [some (.d (tb t)), some (.d (.int b)), some (.d (.tup [x, y, z])), none, none, none]) (by
    repeat (first | with_reducible refine Eq.mpr (DL.wp_eqn (i1)) ?_ | with_reducible refine Eq.mpr (DL.wp_ofOs (i1)) ?_ | with_reducible refine Eq.mpr (DL.wp_eqn (ln)) ?_ | with_reducible refine Eq.mpr (DL.wp_ofOs (ln)) ?_ | with_reducible refine Eq.mpr (DL.wp_eqn (nl)) ?_ | with_reducible refine Eq.mpr (DL.wp_ofOs (nl)) ?_ | walk_at "ev1")
    rfl) ?_
  rintro fl y1 rfl
  refine Eq.mpr sw_seq ?_
  refine sw.mono (P := fun fl _ => fl = .nx [some (.d (tb t)), some (.d (.int b)), some (.d (.tup [x, y, z])), some (.d x), some (.d y), some (.d z)]) (by
    repeat walk_at "ev1"
    rfl) ?_
  rintro fl y2 rfl
  have hy := is_num_any ny
  cases cy : isNum y with
  | false =>
    rw [cy] at hy
    repeat (first | with_reducible refine Eq.mpr (DL.wp_eqn (hy)) ?_ | with_reducible refine Eq.mpr (DL.wp_ofOs (hy)) ?_ | walk_at "ev1")
    refine ⟨false, rfl, no fun h => ?_⟩
    rcases h.three with ⟨m, k, rfl, _⟩ | ⟨m, k, rfl, _⟩
    · have : decide ((0 : Int) ≤ (m : Nat)) = false := cy
      rw [decide_eq_false_iff_not] at this; omega
    · have : decide ((0 : Int) ≤ (m : Nat)) = false := cy
      rw [decide_eq_false_iff_not] at this; omega
  | true =>
  obtain ⟨m, rfl⟩ := num_up cy
  rw [cy] at hy
  have hch : (eChain leD leD (eC (.int 2)) (eVar 4) (cD F_table_size (aCons (eVar 0) aNil)) [some (.d (tb t)), some (.d (.int b)), some (.d (.tup [x, .int (m : Nat), z])), some (.d x), some (.d (.int (m : Nat))), some (.d z)] () : R Unit D) = .ok (.bl (decide (2 ≤ m) && decide (m ≤ bsz t))) () := by
    refine chain_ok (x := .int 2) (y := .int (m : Nat)) (z := .int (bsz t : Nat)) rfl rfl ?_ (leI 2 m) (leI m (bsz t))
    refine R.wp.eq ?_
    repeat (first | with_reducible refine Eq.mpr (DL.wp_eqn (table_size_ok t)) ?_ | with_reducible refine Eq.mpr (DL.wp_ofOs (table_size_ok t)) ?_ | walk_at "ev1")
    exact ⟨rfl, rfl⟩
  by_cases c2 : 2 ≤ m ∧ m ≤ bsz t
  case neg =>
    have : (decide (2 ≤ m) && decide (m ≤ bsz t)) = false := by
      rw [Bool.and_eq_false_iff]
      by_cases h2 : 2 ≤ m
      · right; rw [decide_eq_false (by omega)]
      · left; rw [decide_eq_false (by omega)]
    rw [this] at hch
    repeat (first | with_reducible refine Eq.mpr (DL.wp_eqn (hy)) ?_ | with_reducible refine Eq.mpr (DL.wp_ofOs (hy)) ?_ | with_reducible refine Eq.mpr (DL.wp_eqn (hch)) ?_ | with_reducible refine Eq.mpr (DL.wp_ofOs (hch)) ?_ | walk_at "ev1")
    refine ⟨false, rfl, no fun h => ?_⟩
    rcases h.three with ⟨m', k, h1, _, h3, h4, _⟩ | ⟨m', k, h1, _, h3, h4, h5, _⟩
    · injection h1 with h1; omega
    · injection h1 with h1; have := h5.1; omega
  rw [decide_eq_true c2.1, decide_eq_true c2.2] at hch
  have hzn := is_num_any nz
  cases cz : isNum z with
  | false =>
    rw [cz] at hzn
    repeat (first | with_reducible refine Eq.mpr (DL.wp_eqn (hy)) ?_ | with_reducible refine Eq.mpr (DL.wp_ofOs (hy)) ?_ | with_reducible refine Eq.mpr (DL.wp_eqn (hch)) ?_ | with_reducible refine Eq.mpr (DL.wp_ofOs (hch)) ?_ | with_reducible refine Eq.mpr (DL.wp_eqn (hzn)) ?_ | with_reducible refine Eq.mpr (DL.wp_ofOs (hzn)) ?_ | walk_at "ev1")
    refine ⟨false, rfl, no fun h => ?_⟩
    rcases h.three with ⟨_, k, _, rfl, _⟩ | ⟨_, k, _, rfl, _⟩
    · have : decide ((0 : Int) ≤ (k : Nat)) = false := cz
      rw [decide_eq_false_iff_not] at this; omega
    · have : decide ((0 : Int) ≤ (k : Nat)) = false := cz
      rw [decide_eq_false_iff_not] at this; omega
  | true =>
  obtain ⟨k, rfl⟩ := num_up cz
  rw [cz] at hzn
  obtain ⟨r1, e1, q1⟩ := kx.lu
  obtain ⟨r2, e2, q2⟩ := kx.sh
  obtain ⟨r3, e3, q3⟩ := kx.ab
  have n1 : ¬ (("lump" : Str) = "above") := by decide +kernel
  have n2 : ¬ (("shape" : Str) = "above") := by decide +kernel
  have str : ∀ w : Str, (w = "lump" ∨ w = "shape") → ∀ r, (r = true ↔ k * b < m ∧ faultD t b m k = .str w) → (r = true ↔ IsC t b (.tup [.str w, .int (m : Nat), .int (k : Nat)])) := by
    intro w hw2 r hr
    rw [hr]
    constructor
    · rintro ⟨h1, h2⟩
      exact IsC.mk1 c2.1 c2.2 h1 h2 (fun z => by cases z)
    · intro h
      rcases h.three with ⟨m', k', h1, h2, _, _, h3, _, h4⟩ | ⟨_, _, _, _, _, _, _, h4⟩
      · injection h1 with h1
        injection h2 with h2
        have h1 : m = m' := by omega
        have h2 : k = k' := by omega
        subst h1 h2
        exact ⟨h3, h4.symm⟩
      · injection h4 with h4
        rcases hw2 with rfl | rfl
        · exact absurd h4 n1
        · exact absurd h4 n2
  cases r1 with
  | true =>
    obtain rfl := q1.mp rfl
    obtain ⟨r, er, hr⟩ := is_stretch_ok t b m k hw hz hb hb2 (by omega) c2.2 (z := "lump") (.inl rfl)
    repeat (first | with_reducible refine Eq.mpr (DL.wp_eqn (hy)) ?_ | with_reducible refine Eq.mpr (DL.wp_ofOs (hy)) ?_ | with_reducible refine Eq.mpr (DL.wp_eqn (hch)) ?_ | with_reducible refine Eq.mpr (DL.wp_ofOs (hch)) ?_ | with_reducible refine Eq.mpr (DL.wp_eqn (hzn)) ?_ | with_reducible refine Eq.mpr (DL.wp_ofOs (hzn)) ?_ | with_reducible refine Eq.mpr (DL.wp_eqn (e1)) ?_ | with_reducible refine Eq.mpr (DL.wp_ofOs (e1)) ?_ | with_reducible refine Eq.mpr (DL.wp_eqn (er)) ?_ | with_reducible refine Eq.mpr (DL.wp_ofOs (er)) ?_ | walk_at "ev1")
    exact ⟨r, rfl, str _ (.inl rfl) r hr⟩
  | false =>
  cases r2 with
  | true =>
    obtain rfl := q2.mp rfl
    obtain ⟨r, er, hr⟩ := is_stretch_ok t b m k hw hz hb hb2 (by omega) c2.2 (z := "shape") (.inr rfl)
    repeat (first | with_reducible refine Eq.mpr (DL.wp_eqn (hy)) ?_ | with_reducible refine Eq.mpr (DL.wp_ofOs (hy)) ?_ | with_reducible refine Eq.mpr (DL.wp_eqn (hch)) ?_ | with_reducible refine Eq.mpr (DL.wp_ofOs (hch)) ?_ | with_reducible refine Eq.mpr (DL.wp_eqn (hzn)) ?_ | with_reducible refine Eq.mpr (DL.wp_ofOs (hzn)) ?_ | with_reducible refine Eq.mpr (DL.wp_eqn (e1)) ?_ | with_reducible refine Eq.mpr (DL.wp_ofOs (e1)) ?_ | with_reducible refine Eq.mpr (DL.wp_eqn (e2)) ?_ | with_reducible refine Eq.mpr (DL.wp_ofOs (e2)) ?_ | with_reducible refine Eq.mpr (DL.wp_eqn (er)) ?_ | with_reducible refine Eq.mpr (DL.wp_ofOs (er)) ?_ | walk_at "ev1")
    exact ⟨r, rfl, str _ (.inr rfl) r hr⟩
  | false =>
  have nf : x ≠ .str "lump" ∧ x ≠ .str "shape" := ⟨(fun h => by have := q1.mpr h; cases this), (fun h => by have := q2.mpr h; cases this)⟩
  cases r3 with
  | false =>
    repeat (first | with_reducible refine Eq.mpr (DL.wp_eqn (hy)) ?_ | with_reducible refine Eq.mpr (DL.wp_ofOs (hy)) ?_ | with_reducible refine Eq.mpr (DL.wp_eqn (hch)) ?_ | with_reducible refine Eq.mpr (DL.wp_ofOs (hch)) ?_ | with_reducible refine Eq.mpr (DL.wp_eqn (hzn)) ?_ | with_reducible refine Eq.mpr (DL.wp_ofOs (hzn)) ?_ | with_reducible refine Eq.mpr (DL.wp_eqn (e1)) ?_ | with_reducible refine Eq.mpr (DL.wp_ofOs (e1)) ?_ | with_reducible refine Eq.mpr (DL.wp_eqn (e2)) ?_ | with_reducible refine Eq.mpr (DL.wp_ofOs (e2)) ?_ | with_reducible refine Eq.mpr (DL.wp_eqn (e3)) ?_ | with_reducible refine Eq.mpr (DL.wp_ofOs (e3)) ?_ | walk_at "ev1")
    refine ⟨false, rfl, no fun h => ?_⟩
    rcases h.three with ⟨m', k', _, _, _, _, _, h3, h4⟩ | ⟨_, _, _, _, _, _, _, h4⟩
    · rcases fault_cases t b m' k' with h | h | h
      · exact h3 ((faultD_non t b m' k').mp h)
      · exact nf.1 (h4.trans h)
      · exact nf.2 (h4.trans h)
    · have := q3.mpr h4; cases this
  | true =>
    obtain rfl := q3.mp rfl
    have le := leI k (bsz t)
    by_cases c3 : k ≤ bsz t
    · rw [decide_eq_true c3] at le
      obtain ⟨r, er, hr⟩ := is_above_ok t b m k hw hz hb hb2 (by omega) c2.2 c3
      repeat (first | with_reducible refine Eq.mpr (DL.wp_eqn (hy)) ?_ | with_reducible refine Eq.mpr (DL.wp_ofOs (hy)) ?_ | with_reducible refine Eq.mpr (DL.wp_eqn (hch)) ?_ | with_reducible refine Eq.mpr (DL.wp_ofOs (hch)) ?_ | with_reducible refine Eq.mpr (DL.wp_eqn (hzn)) ?_ | with_reducible refine Eq.mpr (DL.wp_ofOs (hzn)) ?_ | with_reducible refine Eq.mpr (DL.wp_eqn (e1)) ?_ | with_reducible refine Eq.mpr (DL.wp_ofOs (e1)) ?_ | with_reducible refine Eq.mpr (DL.wp_eqn (e2)) ?_ | with_reducible refine Eq.mpr (DL.wp_ofOs (e2)) ?_ | with_reducible refine Eq.mpr (DL.wp_eqn (e3)) ?_ | with_reducible refine Eq.mpr (DL.wp_ofOs (e3)) ?_ | with_reducible refine Eq.mpr (DL.wp_eqn (table_size_ok t)) ?_ | with_reducible refine Eq.mpr (DL.wp_ofOs (table_size_ok t)) ?_ | with_reducible refine Eq.mpr (DL.wp_eqn (le)) ?_ | with_reducible refine Eq.mpr (DL.wp_ofOs (le)) ?_ | with_reducible refine Eq.mpr (DL.wp_eqn (er)) ?_ | with_reducible refine Eq.mpr (DL.wp_ofOs (er)) ?_ | walk_at "ev1")
      refine ⟨r, rfl, ?_⟩
      rw [hr]
      constructor
      · exact fun h => .inr (.inr ⟨m, k, c2.1, c3, h, rfl⟩)
      · intro h
        rcases h.three with ⟨m', k', _, _, _, _, _, _, h4⟩ | ⟨m', k', h1, h2, _, _, h3, _⟩
        · exact absurd h4.symm (fault_not_above t b m' k')
        · injection h1 with h1
          injection h2 with h2
          have h1 : m = m' := by omega
          have h2 : k = k' := by omega
          subst h1 h2
          exact h3
    · rw [decide_eq_false c3] at le
      repeat (first | with_reducible refine Eq.mpr (DL.wp_eqn (hy)) ?_ | with_reducible refine Eq.mpr (DL.wp_ofOs (hy)) ?_ | with_reducible refine Eq.mpr (DL.wp_eqn (hch)) ?_ | with_reducible refine Eq.mpr (DL.wp_ofOs (hch)) ?_ | with_reducible refine Eq.mpr (DL.wp_eqn (hzn)) ?_ | with_reducible refine Eq.mpr (DL.wp_ofOs (hzn)) ?_ | with_reducible refine Eq.mpr (DL.wp_eqn (e1)) ?_ | with_reducible refine Eq.mpr (DL.wp_ofOs (e1)) ?_ | with_reducible refine Eq.mpr (DL.wp_eqn (e2)) ?_ | with_reducible refine Eq.mpr (DL.wp_ofOs (e2)) ?_ | with_reducible refine Eq.mpr (DL.wp_eqn (e3)) ?_ | with_reducible refine Eq.mpr (DL.wp_ofOs (e3)) ?_ | with_reducible refine Eq.mpr (DL.wp_eqn (table_size_ok t)) ?_ | with_reducible refine Eq.mpr (DL.wp_ofOs (table_size_ok t)) ?_ | with_reducible refine Eq.mpr (DL.wp_eqn (le)) ?_ | with_reducible refine Eq.mpr (DL.wp_ofOs (le)) ?_ | walk_at "ev1")
      refine ⟨false, rfl, no fun h => ?_⟩
      rcases h.three with ⟨m', k', _, _, _, _, _, _, h4⟩ | ⟨m', k', _, h2, _, h5, _⟩
      · exact absurd h4.symm (fault_not_above t b m' k')
      · injection h2 with h2
        omega
theorem judge_entries_ok {t : Tab} {b : Nat} (hw : WT t) (hz : bsz t ≤ 70) (hb : 1 ≤ b) (hb2 : b ≤ 70) {v : D} (hv : Vk v) (h1 : v ≠ .tup [.str "size"]) :
    ∃ r, F_judge_entries_counter [tb t, .int b, v] = .ok (.bl r) () ∧ (r = true ↔ IsC t b v) := by
  have no : ∀ {P : Prop}, ¬ P → (false = true ↔ P) := fun h => iff_of_false (fun z => by cases z) h
  have st : startT 6 ([tb t, D.int b, v].map Cell.d) = [some (.d (tb t)), some (.d (.int b)), some (.d v), none, none, none] := rfl
  by_cases ht : ∃ ds, v = .tup ds
  · obtain ⟨ds, rfl⟩ := ht
    by_cases h3 : ds.length = 3
    · obtain ⟨x, y, z, rfl⟩ : ∃ x y z, ds = [x, y, z] := by
        match ds, h3 with
        | [x, y, z], _ => exact ⟨x, y, z, rfl⟩
      obtain ⟨k1, k2, k3⟩ := hv.tu x y z rfl
      exact judge3_ok hw hz hb hb2 k1 k2 k3
    · have i1 : isiD "tuple" (.tup ds) = some (.bl true) := by kernel_rfl
      have ln : un1 lenD [.tup ds] = some (.int (ds.length : Nat)) := rfl
      have nl : neD (.int (ds.length : Nat)) (.int 3) = some (.bl (!decide ((ds.length : Int) = 3))) := neD_int _ _
      rw [decide_eq_false (by omega)] at nl
      refine ⟨false, ?_, no fun h => ?_⟩
      · apply R.wp.equ
        unfold F_judge_entries_counter B_judge_entries_counter
        rw [st]
        repeat (first | with_reducible refine Eq.mpr (DL.wp_eqn (i1)) ?_ | with_reducible refine Eq.mpr (DL.wp_ofOs (i1)) ?_ | with_reducible refine Eq.mpr (DL.wp_eqn (ln)) ?_ | with_reducible refine Eq.mpr (DL.wp_ofOs (ln)) ?_ | with_reducible refine Eq.mpr (DL.wp_eqn (nl)) ?_ | with_reducible refine Eq.mpr (DL.wp_ofOs (nl)) ?_ | walk_at "ev1")
        rfl
      · rcases h with ⟨h, _⟩ | ⟨m, k, _, _, _, _, h⟩ | ⟨m, n, _, _, _, h⟩
        · exact h1 h
        · injection h with h; rw [h] at h3; exact h3 rfl
        · injection h with h; rw [h] at h3; exact h3 rfl
  · have i1 : isiD "tuple" v = some (.bl false) := by
      have := hv.ni
      cases v with
      | tup ds => exact absurd ⟨ds, rfl⟩ ht
      | ins _ _ => exact this.elim
      | dit _ _ => exact this.elim
      | _ => kernel_rfl
    refine ⟨false, ?_, no fun h => ?_⟩
    · apply R.wp.equ
      unfold F_judge_entries_counter B_judge_entries_counter
      rw [st]
      repeat (first | with_reducible refine Eq.mpr (DL.wp_eqn (i1)) ?_ | with_reducible refine Eq.mpr (DL.wp_ofOs (i1)) ?_ | walk_at "ev1")
      rfl
    · rcases h with ⟨h, _⟩ | ⟨m, k, _, _, _, _, h⟩ | ⟨m, n, _, _, _, h⟩
      · exact ht ⟨_, h⟩
      · exact ht ⟨_, h⟩
      · exact ht ⟨_, h⟩
theorem judge_ok {t : Tab} {b : Nat} (hw : WT t) (hz : bsz t ≤ 70) (hb : 1 ≤ b) (hb2 : b ≤ 70) {v : D} (hv : Vk v) :
    ∃ r, F_judge_counter [tb t, .int b, v] = .ok (.bl r) () ∧ (r = true ↔ IsC t b v) := by
  obtain ⟨rs, es, hs⟩ := hv.sz
  have st : startT 3 ([tb t, D.int b, v].map Cell.d) = [some (.d (tb t)), some (.d (.int b)), some (.d v)] := rfl
  cases rs with
  | false =>
    have h1 : v ≠ .tup [.str "size"] := fun h => by have := hs.mpr h; cases this
    obtain ⟨r, er, hr⟩ := judge_entries_ok hw hz hb hb2 hv h1
    refine ⟨r, ?_, hr⟩
    apply R.wp.equ
    unfold F_judge_counter B_judge_counter
    rw [st]
    repeat (first | with_reducible refine Eq.mpr (DL.wp_eqn (es)) ?_ | with_reducible refine Eq.mpr (DL.wp_ofOs (es)) ?_ | with_reducible refine Eq.mpr (DL.wp_eqn (er)) ?_ | with_reducible refine Eq.mpr (DL.wp_ofOs (er)) ?_ | walk_at "ev1")
    rfl
  | true =>
    have h1 := hs.mp rfl
    subst h1
    have hm := modN (bsz t) b (by omega)
    have hn := neN2 (bsz t % b) 0
    refine ⟨!decide (bsz t % b = 0), ?_, ?_⟩
    · apply R.wp.equ
      unfold F_judge_counter B_judge_counter
      rw [st]
      repeat (first | with_reducible refine Eq.mpr (DL.wp_eqn (es)) ?_ | with_reducible refine Eq.mpr (DL.wp_ofOs (es)) ?_ | with_reducible refine Eq.mpr (DL.wp_eqn (table_size_ok t)) ?_ | with_reducible refine Eq.mpr (DL.wp_ofOs (table_size_ok t)) ?_ | with_reducible refine Eq.mpr (DL.wp_eqn (hm)) ?_ | with_reducible refine Eq.mpr (DL.wp_ofOs (hm)) ?_ | with_reducible refine Eq.mpr (DL.wp_eqn (hn)) ?_ | with_reducible refine Eq.mpr (DL.wp_ofOs (hn)) ?_ | walk_at "ev1")
      rfl
    · rw [Bool.not_eq_true', decide_eq_false_iff_not]
      constructor
      · exact fun h => .inl ⟨rfl, h⟩
      · rintro (⟨_, h⟩ | ⟨m, k, _, _, _, _, h⟩ | ⟨m, n, _, _, _, h⟩)
        · exact h
        · injection h with h; injection h with _ h; cases h
        · injection h with h; injection h with _ h; cases h
theorem lc_each {Ω α : Type} {B : D → Tau → Option Tau} {Fe : E Ω D} {τ : Tau} {ω : Ω} {P : List D → Ω → Prop} (f g : α → D) (xs : List α)
    (step : ∀ k ∈ xs, ∃ τ1, B (f k) τ = some τ1 ∧ (Fe τ1 ω).wp (fun x ω2 => x = g k ∧ ω2 = ω) X0) (fin : P (xs.map g) ω) : (lcL B bYes Fe τ (xs.map f) ω).wp P X0 := by
  refine lc_inv (fun i acc ω' => acc = (xs.take i).map g ∧ ω' = ω) ⟨rfl, rfl⟩ ?_ ?_
  · rintro i d acc ω' hd ⟨rfl, rfl⟩
    rw [List.getElem?_map] at hd
    obtain ⟨k, hk, rfl⟩ := Option.map_eq_some_iff.mp hd
    obtain ⟨τ1, e, h⟩ := step k (List.mem_of_getElem? hk)
    refine ⟨τ1, e, ?_⟩
    repeat walk_at "ev1"
    refine h.mono ?_
    rintro x ω2 ⟨rfl, rfl⟩
    refine ⟨?_, rfl⟩
    rw [List.take_add_one, hk, List.map_append]
    rfl
  · rintro acc ω' ⟨rfl, rfl⟩
    rw [List.length_map, List.take_length]
    exact fin
def subI (s : Sh) (i j : Int) : Option Sh := if 0 ≤ i ∧ 0 ≤ j then sub s i.toNat j.toNat else none
abbrev kq (q : Nat × Nat × Sh) : List Key := [.inl (q.1 : Int), .inl (q.2.1 : Int)]
abbrev tD (q : Nat × Nat × Sh) : D := .tup [.tup [.int (q.1 : Nat), .int (q.2.1 : Nat)], q.2.2.enc]
theorem pairsT_lm : ∀ L : List (Nat × Nat × Sh), pairsT (L.map tD) = some (L.map kq, L.map fun q => q.2.2.enc)
  | [] => rfl
  | q :: L => by
    have ih := pairsT_lm L
    simp only [List.map_cons, pairsT, D.keyL, D.key, ih]
theorem lm_bd {s : Sh} {p : Nat} {q : Nat × Nat × Sh} (h : q ∈ lm s p) : p ≤ q.1 ∧ q.1 < q.2.1 ∧ q.2.1 ≤ p + s.size := by
  obtain ⟨i, j, x⟩ := q
  obtain ⟨h1, h2⟩ := (mem_lm s p i j x).mp h
  have := sub_bd _ _ _ _ h2
  dsimp only
  omega
theorem kq_inj {q r : Nat × Nat × Sh} (h : kq q = kq r) : q.1 = r.1 ∧ q.2.1 = r.2.1 := by
  injection h with h1 h2
  injection h2 with h2
  injection h1 with h1
  injection h2 with h2
  omega
theorem lm_nodup : ∀ (s : Sh) (p : Nat), ((lm s p).map kq).Nodup
  | .o, p => by simp [lm]
  | .n l r, p => by
    have h1 := lm_nodup l p
    have h2 := lm_nodup r (p + l.size)
    have lp := l.size_pos
    have rp := r.size_pos
    rw [lm, List.map_cons, List.map_append, List.nodup_cons, List.nodup_append]
    refine ⟨fun hm => ?_, h1, h2, fun a ha b hb e => ?_⟩
    · rcases List.mem_append.mp hm with hm | hm
      · obtain ⟨q, hq, e⟩ := List.mem_map.mp hm
        have := kq_inj e
        have := lm_bd hq
        dsimp only at *
        omega
      · obtain ⟨q, hq, e⟩ := List.mem_map.mp hm
        have := kq_inj e
        have := lm_bd hq
        dsimp only at *
        omega
    · obtain ⟨q, hq, e1⟩ := List.mem_map.mp ha
      obtain ⟨q', hq', e2⟩ := List.mem_map.mp hb
      have := kq_inj (e1.trans (e.trans e2.symm))
      have := lm_bd hq
      have := lm_bd hq'
      omega
theorem dict_lm (s : Sh) : un1 dictTD [.lst ((lm s 0).map tD)] = some (.dit ((lm s 0).map kq) ((lm s 0).map fun q => q.2.2.enc)) := by
  unfold un1 dictTD
  dsimp only
  rw [pairsT_lm]
  dsimp only
  rw [if_pos (lm_nodup s 0)]
theorem lkp_map (k : List Key) : ∀ L : List (Nat × Nat × Sh), lkp (L.map kq) (L.map fun q => q.2.2.enc) k = (L.find? fun q => decide (kq q = k)).map fun q => q.2.2.enc
  | [] => rfl
  | q :: L => by
    have ih := lkp_map k L
    rw [List.map_cons, List.map_cons]
    show (if kq q = k then some q.2.2.enc else lkp (L.map kq) (L.map fun q => q.2.2.enc) k) = _
    rw [ih, List.find?_cons]
    by_cases c : kq q = k
    · rw [if_pos c, decide_eq_true c]; rfl
    · rw [if_neg c, decide_eq_false c]
theorem lkp_lm (s : Sh) (i j : Int) : lkp ((lm s 0).map kq) ((lm s 0).map fun q => q.2.2.enc) [.inl i, .inl j] = (subI s i j).map Sh.enc := by
  rw [lkp_map]
  unfold subI
  by_cases hc : 0 ≤ i ∧ 0 ≤ j
  · rw [if_pos hc]
    obtain ⟨i', rfl⟩ := Int.eq_ofNat_of_zero_le hc.1
    obtain ⟨j', rfl⟩ := Int.eq_ofNat_of_zero_le hc.2
    rw [Int.toNat_natCast, Int.toNat_natCast]
    cases hf : (lm s 0).find? fun q => decide (kq q = [.inl (i' : Int), .inl (j' : Int)]) with
    | none =>
      cases hs : sub s i' j' with
      | none => rfl
      | some x =>
        have hm : (i', j', x) ∈ lm s 0 := (mem_lm s 0 i' j' x).mpr ⟨Nat.zero_le _, hs⟩
        have := List.find?_eq_none.mp hf _ hm
        simp at this
    | some q =>
      have hm := List.mem_of_find?_eq_some hf
      have he : kq q = [.inl (i' : Int), .inl (j' : Int)] := of_decide_eq_true (List.find?_some (p := fun q => decide (kq q = [.inl (i' : Int), .inl (j' : Int)])) hf)
      obtain ⟨a, b, x⟩ := q
      have he2 : kq (a, b, x) = kq (i', j', x) := he
      obtain ⟨e1, e2⟩ := kq_inj he2
      dsimp only at e1 e2
      subst e1 e2
      have := ((mem_lm s 0 a b x).mp hm).2
      rw [Nat.sub_zero, Nat.sub_zero] at this
      rw [this]
      rfl
  · rw [if_neg hc]
    have hf : (lm s 0).find? (fun q => decide (kq q = [.inl i, .inl j])) = none := List.find?_eq_none.mpr fun q hq e => by
      have e := of_decide_eq_true e
      injection e with e1 e2
      injection e2 with e2
      injection e1 with e1
      injection e2 with e2
      omega
    rw [hf]
    rfl
def wrL (t : Tab) (b m q : Nat) : List D := ((List.range q).filter (bad t b m)).map fun k => .tup [faultD t b m k, .int (m : Nat), .int (k : Nat)]
theorem wrL_succ (t : Tab) (b m q : Nat) : wrL t b m (q + 1) = if bad t b m q then wrL t b m q ++ [.tup [faultD t b m q, .int (m : Nat), .int (q : Nat)]] else wrL t b m q := by
  unfold wrL
  rw [List.range_succ, List.filter_append]
  cases h : bad t b m q <;> simp [h]
theorem wrL_len (t : Tab) (b m q : Nat) : (wrL t b m q).length ≤ q := by
  unfold wrL
  rw [List.length_map]
  refine Nat.le_trans (List.length_filter_le _ _) ?_
  simp
theorem lkp_lmN (s : Sh) (i j : Nat) : lkp ((lm s 0).map kq) ((lm s 0).map fun q => q.2.2.enc) (kk i j) = (sub s i j).map Sh.enc := by
  have := lkp_lm s (i : Int) (j : Int)
  unfold subI at this
  rw [if_pos ⟨Int.natCast_nonneg i, Int.natCast_nonneg j⟩, Int.toNat_natCast, Int.toNat_natCast] at this
  exact this
theorem law_wrong_ok (t : Tab) (b m : Nat) (hw : WT t) (hz : bsz t ≤ 70) (hb : 1 ≤ b) (hb2 : b ≤ 70) (h1 : 1 ≤ m) (h2 : m ≤ bsz t) :
    F_law_wrong [tb t, .int b, .int m] = .ok (.lst (wrL t b m ((m + b - 1) / b))) () := by
  apply R.wp.equ
  unfold F_law_wrong B_law_wrong
  have hs : startT 10 ([tb t, D.int b, .int m].map Cell.d) = [some (.d (tb t)), some (.d (.int b)), some (.d (.int m)), none, none, none, none, none, none, none] := rfl
  rw [hs]
  have z1 := hw.ent h1 h2
  have hh := hgt_lt (ent t m)
  have e0 := law_entry_ok t m h1 h2
  have e1 : F_law_lumps 70 [(ent t m).enc, .int 0] = .ok (.lst ((lm (ent t m) 0).map lD)) () := law_lumps_ok 70 (ent t m) 0 (by omega) (by omega)
  have e2 := law_stretches_ok m b hb (by omega) (by omega)
  have ll := lm_len (ent t m) 0
  have hd := dict_lm (ent t m)
  repeat (first | with_reducible refine Eq.mpr (DL.wp_eqn (e0)) ?_ | with_reducible refine Eq.mpr (DL.wp_ofOs (e0)) ?_ | with_reducible refine Eq.mpr (DL.wp_eqn (e1)) ?_ | with_reducible refine Eq.mpr (DL.wp_ofOs (e1)) ?_ | walk_at "ev1")
  refine ⟨by rw [List.length_map, sizeLine_eq]; omega, ?_⟩
  refine lc_each lD tD (lm (ent t m) 0) (fun q hq => ⟨_, rfl, ?_⟩) ?_
  · repeat walk_at "ev1"
    exact ⟨rfl, rfl⟩
  repeat (first | with_reducible refine Eq.mpr (DL.wp_eqn (hd)) ?_ | with_reducible refine Eq.mpr (DL.wp_ofOs (hd)) ?_ | walk_at "ev1")
  refine Eq.mpr wp_enu ?_
  have hit : ∀ xs : List D, (D.lst xs).itemsS.map (enumL 0) = some (enumL 0 xs) := fun _ => rfl
  repeat (first | with_reducible refine Eq.mpr (DL.wp_eqn (e2)) ?_ | with_reducible refine Eq.mpr (DL.wp_ofOs (e2)) ?_ | with_reducible refine Eq.mpr (DL.wp_eqn (hit _)) ?_ | with_reducible refine Eq.mpr (DL.wp_ofOs (hit _)) ?_ | walk_at "ev1")
  have hq : (m + b - 1) / b ≤ m + b - 1 := Nat.div_le_self _ _
  generalize hks : (lm (ent t m) 0).map kq = ks at *
  generalize hds : ((lm (ent t m) 0).map fun q => q.2.2.enc) = ds at *
  have lk : ∀ i j, lkp ks ds (kk i j) = (sub (ent t m) i j).map Sh.enc := fun i j => by rw [← hks, ← hds]; exact lkp_lmN _ i j
  refine loop_inv (fun i τ _ => ∃ c5 c6 c7 c8 c9, τ = [some (.d (tb t)), some (.d (.int b)), some (.d (.int m)), some (.ow .L (wrL t b m i)), some (.d (.dit ks ds)), c5, c6, c7, c8, c9]) ⟨_, _, _, _, _, rfl⟩ ?_ ?_
  · rintro i d τ ω hd ⟨c5, c6, c7, c8, c9, rfl⟩
    obtain ⟨d', h3, rfl⟩ := enumL_get _ 0 i d hd
    rw [List.getElem?_map] at h3
    have hi : i * b < m := by
      rcases Nat.lt_or_ge (i * b) m with h | h
      · exact h
      · rw [List.getElem?_eq_none (stP_end hb h)] at h3; cases h3
    rw [stP_get hb hi] at h3
    cases h3
    refine ⟨_, rfl, ?_⟩
    rw [Nat.zero_add]
    have hj : min (i * b + b) m - i * b = min b (m - i * b) := by omega
    have hkey : (D.tup [.int (i * b : Nat), .int (min (i * b + b) m : Nat)]).keyT = some (kk (i * b) (min (i * b + b) m)) := rfl
    have hlk := lk (i * b) (min (i * b + b) m)
    have hsub : subD (.int (min (i * b + b) m : Nat)) (.int (i * b : Nat)) = some (.int (min b (m - i * b) : Nat)) := by
      have := subN (min (i * b + b) m) (i * b) (by omega)
      rw [hj] at this; exact this
    have ix1 : ixD (pD (i * b, min (i * b + b) m)) (.int 1) = some (.int (min (i * b + b) m : Nat)) := ix_tup (k := 1) rfl rfl
    have ix0 : ixD (pD (i * b, min (i * b + b) m)) (.int 0) = some (.int (i * b : Nat)) := ix_tup (k := 0) rfl rfl
    have hlen : (wrL t b m i).length ≤ 100000 := by
      have := wrL_len t b m i
      have : i ≤ i * b := Nat.le_mul_of_pos_right i hb
      omega
    have hsn := wrL_succ t b m i
    repeat walk_at "ev1"
    refine wp_diTE (fun _ => pT_d rfl) ?_
    repeat walk_at "ev1"
    refine ⟨_, hkey, ?_⟩
    cases e : sub (ent t m) (i * b) (min (i * b + b) m) with
    | none =>
      rw [hlk, e]
      have hf : faultD t b m i = D.str "lump" := by unfold faultD; rw [e]
      have hb' : bad t b m i = true := by unfold bad; rw [hf]
      rw [hb', if_pos rfl, hf] at hsn
      have hbool : (D.bl (!(Option.map Sh.enc none).isSome)).bool = some true := rfl
      repeat (first | with_reducible refine Eq.mpr (DL.wp_eqn (hbool)) ?_ | with_reducible refine Eq.mpr (DL.wp_ofOs (hbool)) ?_ | walk_at "ev1")
      case hl => exact hlen
      rw [← hsn]
      exact ⟨_, _, _, _, _, rfl⟩
    | some x =>
      rw [hlk, e]
      have hbool : (D.bl (!(Option.map Sh.enc (some x)).isSome)).bool = some false := rfl
      have hx := sub_size _ _ _ _ e
      have hmin1 : 1 ≤ min b (m - i * b) := by omega
      have hne := neD_sh x (ent t (min b (m - i * b))) (.inl (by omega))
      repeat (first | with_reducible refine Eq.mpr (DL.wp_eqn (hbool)) ?_ | with_reducible refine Eq.mpr (DL.wp_ofOs (hbool)) ?_ | walk_at "ev1")
      refine wp_dgTE (fun _ => pT_d rfl) ?_
      repeat walk_at "ev1"
      refine ⟨_, x.enc, hkey, by rw [hlk, e]; rfl, ?_⟩
      repeat (first | with_reducible refine Eq.mpr (DL.wp_eqn (ix1)) ?_ | with_reducible refine Eq.mpr (DL.wp_ofOs (ix1)) ?_ | with_reducible refine Eq.mpr (DL.wp_eqn (ix0)) ?_ | with_reducible refine Eq.mpr (DL.wp_ofOs (ix0)) ?_ | with_reducible refine Eq.mpr (DL.wp_eqn (hsub)) ?_ | with_reducible refine Eq.mpr (DL.wp_ofOs (hsub)) ?_ | with_reducible refine Eq.mpr (DL.wp_eqn (law_entry_ok t (min b (m - i * b)) hmin1 (by omega))) ?_ | with_reducible refine Eq.mpr (DL.wp_ofOs (law_entry_ok t (min b (m - i * b)) hmin1 (by omega))) ?_ | with_reducible refine Eq.mpr (DL.wp_eqn (hne)) ?_ | with_reducible refine Eq.mpr (DL.wp_ofOs (hne)) ?_ | walk_at "ev1")
      by_cases hc : x = ent t (min b (m - i * b))
      · have hf : faultD t b m i = D.non := by unfold faultD; rw [e]; simp [hc]
        have hb' : bad t b m i = false := by unfold bad; rw [hf]
        rw [hb'] at hsn
        rw [if_neg (by simpa using hc)]
        repeat walk_at "ev1"
        rw [show wrL t b m i = wrL t b m (i + 1) from hsn.symm]
        exact ⟨_, _, _, _, _, rfl⟩
      · have hf : faultD t b m i = D.str "shape" := by unfold faultD; rw [e]; simp [hc]
        have hb' : bad t b m i = true := by unfold bad; rw [hf]
        rw [hb', if_pos rfl, hf] at hsn
        rw [if_pos (by simpa using hc)]
        repeat walk_at "ev1"
        case hl => exact hlen
        rw [← hsn]
        exact ⟨_, _, _, _, _, rfl⟩
  · rintro τ ω ⟨c5, c6, c7, c8, c9, rfl⟩
    rw [enumL_len, List.length_map, stP_len]
    refine Eq.mpr (sw_retO rfl) ?_
    rfl
def lmpsR (e : Sh) (b : Nat) : Prop := ∀ k, k * b < e.size → ∃ x, sub e (k * b) (min (k * b + b) e.size) = some x
theorem lmpsR_split {l r : Sh} {b : Nat} (hb : 0 < b) (h : lmpsR (.n l r) b) (hlt : b < l.size + r.size) : l.size % b = 0 ∧ lmpsR l b ∧ lmpsR r b := by
  have hl := l.size_pos
  have hr := r.size_pos
  have hd := Nat.div_add_mod (l.size - 1) b
  have hmd := Nat.mod_lt (l.size - 1) hb
  have hc : (l.size - 1) / b * b = b * ((l.size - 1) / b) := Nat.mul_comm _ _
  have key : l.size = (l.size - 1) / b * b + b := by
    obtain ⟨x, hx⟩ := h ((l.size - 1) / b) (by simp only [Sh.size]; omega)
    simp only [Sh.size] at hx
    unfold sub at hx
    rw [if_neg (by omega)] at hx
    split at hx
    · omega
    · split at hx
      · omega
      · cases hx
  have hlm : l.size % b = 0 := by
    rw [key, ← Nat.succ_mul]; exact Nat.mul_mod_left _ _
  have hld := Nat.div_add_mod l.size b
  rw [hlm, Nat.add_zero] at hld
  refine ⟨hlm, fun k hk => ?_, fun k hk => ?_⟩
  · have hkq : k < l.size / b := by
      rcases Nat.lt_or_ge k (l.size / b) with h' | h'
      · exact h'
      · have := Nat.mul_le_mul_right b h'; rw [Nat.mul_comm] at this; omega
    have hk2 : (k + 1) * b ≤ l.size / b * b := Nat.mul_le_mul_right b hkq
    rw [Nat.add_mul, Nat.one_mul, Nat.mul_comm (l.size / b)] at hk2
    obtain ⟨x, hx⟩ := h k (by simp only [Sh.size]; omega)
    simp only [Sh.size] at hx
    unfold sub at hx
    rw [if_neg (by omega), if_pos (by omega)] at hx
    refine ⟨x, ?_⟩
    rw [show min (k * b + b) l.size = min (k * b + b) (l.size + r.size) by omega]
    exact hx
  · have e : (l.size / b + k) * b = l.size + k * b := by rw [Nat.add_mul, Nat.mul_comm (l.size / b)]; omega
    obtain ⟨x, hx⟩ := h (l.size / b + k) (by simp only [Sh.size]; omega)
    rw [e] at hx
    simp only [Sh.size] at hx
    unfold sub at hx
    rw [if_neg (by omega), if_neg (by omega), if_pos (by omega), show l.size + k * b - l.size = k * b from by omega, show min (l.size + k * b + b) (l.size + r.size) - l.size = min (k * b + b) r.size from by omega] at hx
    exact ⟨x, hx⟩
theorem lab_abvR {b M : Nat} (hb : 0 < b) : ∀ (e : Sh) (p : Nat), p % b = 0 → (p + e.size = M ∨ (p + e.size ≤ M ∧ e.size % b = 0)) → lmpsR e b → lab (stP M b) e p = abv e b p
  | .o, p, _, _, _ => rfl
  | .n l r, p, h1, h2, h4 => by
    have hl := l.size_pos
    have hr := r.size_pos
    simp only [Sh.size] at h2
    rcases Nat.lt_or_ge b (l.size + r.size) with hlt | hge
    · obtain ⟨a1, a3, a4⟩ := lmpsR_split hb h4 hlt
      have hp2 : (p + l.size) % b = 0 := by rw [Nat.add_mod, h1, a1]; simp
      have e1 := lab_abvR hb (M := M) l p h1 (.inr ⟨by omega, a1⟩) a3
      have e2 := lab_abvR hb (M := M) r (p + l.size) hp2 (by
        rcases h2 with h2 | ⟨h2, h3⟩
        · exact .inl (by omega)
        · refine .inr ⟨by omega, ?_⟩
          have e : l.size + r.size = r.size + l.size := Nat.add_comm _ _
          rw [e, Nat.add_mod, a1, Nat.add_zero, Nat.mod_mod] at h3
          exact h3) a4
      have hout := abv_out hb h1 hlt
      have ea : abv (.n l r) b p = .n (abv l b p) (abv r b (p + l.size)) := by
        conv => lhs; unfold abv
        rw [if_neg hout]
      rw [ea]
      unfold lab
      rw [if_neg, e1, e2]
      intro hmem
      have := ((mem_stP hb).mp hmem).2.2
      omega
    · have hin : abv (.n l r) b p = .o := abv_in _ b p hb h1 (by simp only [Sh.size]; omega)
      rw [hin]
      unfold lab
      rw [if_pos]
      refine (mem_stP hb).mpr ⟨h1, by omega, ?_⟩
      rcases h2 with h2 | ⟨h2, h3⟩
      · omega
      · have := le_of_mod h3 (by omega)
        omega
theorem lab_all {t : Tab} {b m : Nat} (hw : WT t) (hb : 1 ≤ b) (h1 : 1 ≤ m) (h2 : m ≤ bsz t) (h : allStr t b m) : lab (stP m b) (ent t m) 0 = abv (ent t m) b 0 := by
  have hs := hw.ent h1 h2
  refine lab_abvR hb (ent t m) 0 (Nat.zero_mod b) (.inl (by omega)) fun k hk => ?_
  rw [hs] at hk
  have := h k hk
  rw [hs]
  exact ⟨_, this⟩
theorem pyL_lay : ∀ {xs : List D}, (∀ x ∈ xs, ∃ p, x.py = some p ∧ p.canLay0 = true) → ∃ ps, D.pyL xs = some ps ∧ ps.length = xs.length ∧ PyData.canLayAll0 ps = true
  | [], _ => ⟨[], by simp [D.pyL], rfl, by simp [PyData.canLayAll0]⟩
  | x :: xs, h => by
    obtain ⟨p, e, l⟩ := h x (List.mem_cons_self ..)
    obtain ⟨ps, e2, l2, c⟩ := pyL_lay fun y hy => h y (List.mem_cons_of_mem _ hy)
    exact ⟨p :: ps, by simp [D.pyL, e, e2], by simp [l2], by simp [PyData.canLayAll0, l, c]⟩
theorem eq_lst_nil {xs : List D} (h : ∀ x ∈ xs, ∃ p, x.py = some p ∧ p.canLay0 = true) : ∃ r, eqD (.lst xs) (.lst []) = some (.bl r) ∧ (r = true ↔ xs = []) := by
  cases xs with
  | nil => exact ⟨true, by kernel_rfl, by simp⟩
  | cons x xs =>
    obtain ⟨ps, e, l, c⟩ := pyL_lay h
    have e2 : (D.lst (x :: xs)).py = some (.list ps) := by simp [D.py, e]
    have e3 : (D.lst []).py = some (.list []) := by simp [D.py, D.pyL]
    refine ⟨false, ?_, by simp⟩
    unfold eqD eqB
    rw [e2, e3]
    dsimp only
    rw [if_pos ⟨by simp only [PyData.canLay0]; exact c, by simp [PyData.canLay0, PyData.canLayAll0], by simp [PyData.depth, PyData.depthAll]⟩]
    cases ps with
    | nil => simp at l
    | cons p ps => simp [PyData.eqv, PyData.eqvAll]
theorem wr_py {t : Tab} {b m q : Nat} : ∀ x ∈ wrL t b m q, ∃ p, x.py = some p ∧ p.canLay0 = true := by
  intro x hx
  obtain ⟨k, hk, rfl⟩ := List.mem_map.mp hx
  have o1 : PyData.strOk ("lump" : Str) = true := strOk_ofString _
  have o2 : PyData.strOk ("shape" : Str) = true := strOk_ofString _
  rcases fault_cases t b m k with h | h | h <;> rw [h] <;> refine ⟨_, by simp [D.py, D.pyL]; rfl, ?_⟩ <;> simp [PyData.canLay0, PyData.canLayAll0, o1, o2]
theorem wr_nil {t : Tab} {b m : Nat} (hb : 1 ≤ b) : wrL t b m ((m + b - 1) / b) = [] ↔ allStr t b m := by
  rw [← any_bad t b m hb]
  unfold wrL
  rw [List.map_eq_nil_iff, List.filter_eq_nil_iff, List.any_eq_false]
theorem wr_mem {t : Tab} {b m : Nat} (hb : 1 ≤ b) {d : D} : d ∈ wrL t b m ((m + b - 1) / b) ↔ ∃ k : Nat, k * b < m ∧ ¬ strOk t b m k ∧ d = .tup [faultD t b m k, .int (m : Nat), .int (k : Nat)] := by
  unfold wrL
  simp only [List.mem_map, List.mem_filter, List.mem_range]
  constructor
  · rintro ⟨k, ⟨h1, h2⟩, rfl⟩
    exact ⟨k, (lt_up hb).mp h1, (fun z => by rw [(bad_iff t b m k).mpr z] at h2; cases h2), rfl⟩
  · rintro ⟨k, h1, h2, rfl⟩
    refine ⟨k, ⟨(lt_up hb).mpr h1, ?_⟩, rfl⟩
    cases e : bad t b m k with
    | true => rfl
    | false => exact absurd ((bad_iff t b m k).mp e) h2
theorem eqN2 (a b : Nat) : eqD (.int (a : Nat)) (.int (b : Nat)) = some (.bl (decide (a = b))) := by
  rw [eqD_int]
  congr 2
  exact decide_eq_decide.mpr ⟨fun z => by omega, fun z => by omega⟩
def Due (t : Tab) (b M : Nat) (v : D) : Prop :=
  (v = .tup [.str "size"] ∧ bsz t % b ≠ 0) ∨
  (∃ m k : Nat, 2 ≤ m ∧ m < M ∧ k * b < m ∧ ¬ strOk t b m k ∧ v = .tup [faultD t b m k, .int m, .int k]) ∨
  (∃ m n : Nat, 2 ≤ m ∧ n < M ∧ (m < n ∧ (m + b - 1) / b = (n + b - 1) / b ∧ allStr t b m ∧ allStr t b n ∧ abv (ent t m) b 0 ≠ abv (ent t n) b 0) ∧ v = .tup [.str "above", .int m, .int n])
theorem due_all {t : Tab} {b : Nat} {v : D} : Due t b (bsz t + 1) v ↔ IsC t b v := by
  unfold Due IsC
  simp only [Nat.lt_succ_iff]
theorem due_succ {t : Tab} {b M : Nat} {v : D} (hM : 2 ≤ M) : Due t b (M + 1) v ↔ Due t b M v ∨ (∃ k : Nat, k * b < M ∧ ¬ strOk t b M k ∧ v = .tup [faultD t b M k, .int (M : Nat), .int (k : Nat)]) ∨
    (allStr t b M ∧ ∃ m : Nat, 2 ≤ m ∧ m < M ∧ (m + b - 1) / b = (M + b - 1) / b ∧ allStr t b m ∧ abv (ent t m) b 0 ≠ abv (ent t M) b 0 ∧ v = .tup [.str "above", .int (m : Nat), .int (M : Nat)]) := by
  unfold Due
  constructor
  · rintro (h | ⟨m, k, a1, a2, a3⟩ | ⟨m, n, a1, a2, a3, a4⟩)
    · exact .inl (.inl h)
    · rcases Nat.lt_or_ge m M with h | h
      · exact .inl (.inr (.inl ⟨m, k, a1, h, a3⟩))
      · obtain rfl : m = M := by omega
        exact .inr (.inl ⟨k, a3⟩)
    · rcases Nat.lt_or_ge n M with h | h
      · exact .inl (.inr (.inr ⟨m, n, a1, h, a3, a4⟩))
      · obtain rfl : n = M := by omega
        exact .inr (.inr ⟨a3.2.2.2.1, m, a1, a3.1, a3.2.1, a3.2.2.1, a3.2.2.2.2, a4⟩)
  · rintro ((h | ⟨m, k, a1, a2, a3⟩ | ⟨m, n, a1, a2, a3⟩) | ⟨k, h⟩ | ⟨h0, m, a1, a2, a3, a4, a5, a6⟩)
    · exact .inl h
    · exact .inr (.inl ⟨m, k, a1, by omega, a3⟩)
    · exact .inr (.inr ⟨m, n, a1, by omega, a3⟩)
    · exact .inr (.inl ⟨M, k, hM, by omega, h⟩)
    · exact .inr (.inr ⟨m, M, a1, by omega, ⟨a2, a3, a4, h0, a5⟩, a6⟩)
theorem due_two {t : Tab} {b : Nat} {v : D} : Due t b 2 v ↔ v = .tup [.str "size"] ∧ bsz t % b ≠ 0 := by
  constructor
  · rintro (h | ⟨m, k, a1, a2, _⟩ | ⟨m, n, a1, a2, a3, _⟩)
    · exact h
    · omega
    · have := a3.1; omega
  · exact fun h => .inl h
theorem law_counters_ok (t : Tab) (b : Nat) (hw : WT t) (hz : bsz t ≤ 70) (hb : 1 ≤ b) (hb2 : b ≤ 70) :
    ∃ L, F_law_counters [tb t, .int b] = .ok (.lst L) () ∧ (∀ d, d ∈ L ↔ IsC t b d) ∧ L.length ≤ 20000 := by
  suffices h : (F_law_counters [tb t, .int b]).wp (fun d _ => ∃ L, d = .lst L ∧ (∀ d, d ∈ L ↔ IsC t b d) ∧ L.length ≤ 20000) X0 by
    obtain ⟨d, _, e, L, rfl, h⟩ := h.ex
    exact ⟨L, e, h⟩
  unfold F_law_counters B_law_counters
  have hs : startT 12 ([tb t, D.int b].map Cell.d) = [some (.d (tb t)), some (.d (.int b)), none, none, none, none, none, none, none, none, none, none] := rfl
  rw [hs]
  have a1 : addD (.int (t.length : Nat)) (.int 1) = some (.int (bsz t : Nat)) := addN t.length 1
  have a2 : addD (.int (bsz t : Nat)) (.int 1) = some (.int (bsz t + 1 : Nat)) := addN (bsz t) 1
  have hm := modN (bsz t) b (by omega)
  have hn := neN2 (bsz t % b) 0
  refine Eq.mpr wp_nox ?_
  refine Eq.mpr wp_runS ?_
  refine Eq.mpr sw_seq ?_
  refine sw.mono (P := fun fl _ => fl = .nx [some (.d (tb t)), some (.d (.int b)), some (.d (.int (bsz t : Nat))), some (.ow .L []), some (.ow .L []), none, none, none, none, none, none, none]) (by
    refine Eq.mpr sw_par3O23 ?_
    repeat (first | with_reducible refine Eq.mpr (DL.wp_eqn (len_tb t)) ?_ | with_reducible refine Eq.mpr (DL.wp_ofOs (len_tb t)) ?_ | with_reducible refine Eq.mpr (DL.wp_eqn (a1)) ?_ | with_reducible refine Eq.mpr (DL.wp_ofOs (a1)) ?_ | walk_at "ev1")
    rfl) ?_
  rintro fl y1 rfl
  refine Eq.mpr sw_seq ?_
  refine sw.mono (P := fun fl _ => ∃ L, fl = .nx [some (.d (tb t)), some (.d (.int b)), some (.d (.int (bsz t : Nat))), some (.ow .L L), some (.ow .L []), none, none, none, none, none, none, none] ∧ (∀ d, d ∈ L ↔ Due t b 2 d) ∧ L.length ≤ 1) (by
    by_cases hc : bsz t % b = 0
    · rw [decide_eq_true hc] at hn
      repeat (first | with_reducible refine Eq.mpr (DL.wp_eqn (hm)) ?_ | with_reducible refine Eq.mpr (DL.wp_ofOs (hm)) ?_ | with_reducible refine Eq.mpr (DL.wp_eqn (hn)) ?_ | with_reducible refine Eq.mpr (DL.wp_ofOs (hn)) ?_ | walk_at "ev1")
      refine ⟨_, rfl, fun d => ?_, by simp⟩
      rw [due_two]
      simp [hc]
    · rw [decide_eq_false hc] at hn
      repeat (first | with_reducible refine Eq.mpr (DL.wp_eqn (hm)) ?_ | with_reducible refine Eq.mpr (DL.wp_ofOs (hm)) ?_ | with_reducible refine Eq.mpr (DL.wp_eqn (hn)) ?_ | with_reducible refine Eq.mpr (DL.wp_ofOs (hn)) ?_ | walk_at "ev1")
      case hl => simp
      refine ⟨_, rfl, fun d => ?_, by simp⟩
      rw [due_two]
      simp [hc]) ?_
  rintro fl y2 ⟨L0, rfl, hL0, lL0⟩
  have hrg : rg2 [.int 2, .int (bsz t + 1 : Nat)] = some (rangeL 2 1 (bsz t + 1 - 2)) := rg2_nat 2 (bsz t + 1) (by omega) (by omega)
  repeat (first | with_reducible refine Eq.mpr (DL.wp_eqn (a2)) ?_ | with_reducible refine Eq.mpr (DL.wp_ofOs (a2)) ?_ | with_reducible refine Eq.mpr (DL.wp_eqn (hrg)) ?_ | with_reducible refine Eq.mpr (DL.wp_ofOs (hrg)) ?_ | walk_at "ev1")
  refine loop_inv (fun i τ _ => ∃ (L : List D) (W : List (Nat × Nat × Sh)) (c5 c6 c7 c8 c9 c10 c11 : Option Cell), τ = [some (.d (tb t)), some (.d (.int b)), some (.d (.int (bsz t : Nat))), some (.ow .L L), some (.ow .L (W.map lD)), c5, c6, c7, c8, c9, c10, c11] ∧ (∀ d, d ∈ L ↔ Due t b (i + 2) d) ∧ L.length ≤ 1 + 140 * i ∧ W.length ≤ i ∧
      ∀ w, w ∈ W ↔ ∃ m, 2 ≤ m ∧ m < i + 2 ∧ allStr t b m ∧ w = (m, (m + b - 1) / b, abv (ent t m) b 0)) ⟨L0, [], _, _, _, _, _, _, _, rfl, hL0, lL0, Nat.le_refl _, fun w => by simp; omega⟩ ?_ ?_
  · rintro i d τ ω hd ⟨L, W, c5, c6, c7, c8, c9, c10, c11, rfl, hL, lL, lW, hW⟩
    obtain ⟨rfl, hi⟩ := rangeL_get _ _ _ _ _ hd
    refine ⟨_, rfl, ?_⟩
    have ek : (2 : Int) + (i : Int) * 1 = ((i + 2 : Nat) : Int) := by push_cast; omega
    rw [ek]
    have hm1 : 1 ≤ i + 2 := by omega
    have hm2 : i + 2 ≤ bsz t := by omega
    generalize hM : i + 2 = M at *
    have ew := law_wrong_ok t b M hw hz hb hb2 hm1 hm2
    have es := law_stretches_ok M b hb (by omega) (by omega)
    have hq : (M + b - 1) / b ≤ M := by
      rw [← stP_len]
      exact stP_le M b hb
    have wl := wrL_len t b M ((M + b - 1) / b)
    obtain ⟨r, er, hr⟩ := eq_lst_nil (wr_py (t := t) (b := b) (m := M) (q := (M + b - 1) / b))
    rw [wr_nil hb] at hr
    have hsz := sizeLine_eq
    refine Eq.mpr sw_seq ?_
    refine sw.mono (P := fun fl _ => fl = .nx [some (.d (tb t)), some (.d (.int b)), some (.d (.int (bsz t : Nat))), some (.ow .L L), some (.ow .L (W.map lD)), some (.d (.int (M : Nat))), some (.d (.lst (wrL t b M ((M + b - 1) / b)))), some (.d (.lst ((stP M b).map pD))), c8, c9, c10, c11]) (by
      refine sw_asgI ?_
      repeat (first | with_reducible refine Eq.mpr (DL.wp_eqn (ew)) ?_ | with_reducible refine Eq.mpr (DL.wp_ofOs (ew)) ?_ | with_reducible refine Eq.mpr (DL.wp_eqn (es)) ?_ | with_reducible refine Eq.mpr (DL.wp_ofOs (es)) ?_ | walk_at "ev1")
      rfl) ?_
    rintro fl y3 rfl
    refine Eq.mpr sw_seq ?_
    refine sw.mono (P := fun fl _ => fl = .nx [some (.d (tb t)), some (.d (.int b)), some (.d (.int (bsz t : Nat))), some (.ow .L (L ++ wrL t b M ((M + b - 1) / b))), some (.ow .L (W.map lD)), some (.d (.int (M : Nat))), some (.d (.lst (wrL t b M ((M + b - 1) / b)))), some (.d (.lst ((stP M b).map pD))), c8, c9, c10, c11]) (by
      refine Eq.mpr (sw_pre rfl) ?_
      refine Eq.mpr sw_setO ?_
      refine Eq.mpr wp_eAddL ?_
      repeat walk_at "ev1"
      refine ⟨_, _, rfl, rfl, by omega, ?_⟩
      rfl) ?_
    rintro fl y4 rfl
    by_cases hall : allStr t b M
    case neg =>
      have : r = false := by
        cases r with
        | false => rfl
        | true => exact absurd (hr.mp rfl) hall
      subst this
      repeat (first | with_reducible refine Eq.mpr (DL.wp_eqn (er)) ?_ | with_reducible refine Eq.mpr (DL.wp_ofOs (er)) ?_ | walk_at "ev1")
      refine ⟨_, W, _, _, _, _, _, _, _, rfl, fun d => ?_, by rw [List.length_append]; omega, by omega, fun w => ?_⟩
      · rw [show i + 1 + 2 = M + 1 by omega, due_succ (by omega), List.mem_append, hL, wr_mem hb]
        constructor
        · rintro (h | h)
          · exact .inl h
          · exact .inr (.inl h)
        · rintro (h | h | ⟨h, _⟩)
          · exact .inl h
          · exact .inr h
          · exact absurd h hall
      · rw [hW]
        constructor
        · rintro ⟨m, p1, p2, p3, p4⟩
          exact ⟨m, p1, by omega, p3, p4⟩
        · rintro ⟨m, p1, p2, p3, p4⟩
          refine ⟨m, p1, ?_, p3, p4⟩
          rcases Nat.lt_or_ge m M with h | h
          · exact h
          · obtain rfl : m = M := by omega
            exact absurd p3 hall
    obtain rfl := hr.mpr hall
    have z1 := hw.ent hm1 hm2
    have hh := hgt_lt (ent t M)
    have e0 := law_entry_ok t M hm1 hm2
    have ea : F_law_above 70 [(ent t M).enc, .int 0, .lst ((stP M b).map pD)] = .ok (abv (ent t M) b 0).enc () := by
      have := law_above_ok (stP M b) 70 (ent t M) 0 (by omega) (by omega)
      rw [lab_all hw hb hm1 hm2 hall] at this
      exact this
    have l7 : un1 lenD [.lst ((stP M b).map pD)] = some (.int ((M + b - 1) / b : Nat)) := by
      show some (D.int ((((stP M b).map pD).length : Nat) : Int)) = _
      rw [List.length_map, stP_len]
    have wn : wrL t b M ((M + b - 1) / b) = [] := (wr_nil hb).mpr hall
    repeat (first | with_reducible refine Eq.mpr (DL.wp_eqn (er)) ?_ | with_reducible refine Eq.mpr (DL.wp_ofOs (er)) ?_ | with_reducible refine Eq.mpr (DL.wp_eqn (e0)) ?_ | with_reducible refine Eq.mpr (DL.wp_ofOs (e0)) ?_ | with_reducible refine Eq.mpr (DL.wp_eqn (ea)) ?_ | with_reducible refine Eq.mpr (DL.wp_ofOs (ea)) ?_ | walk_at "ev1")
    refine Eq.mpr (sw_pre rfl) ?_
    refine Eq.mpr sw_setO ?_
    refine Eq.mpr wp_eAddL ?_
    repeat walk_at "ev1"
    refine Eq.mpr (wp_oIt rfl) ?_
    refine ⟨by rw [List.length_map, hsz]; omega, lc_filt lD W (fun w => decide (w.2.1 = (M + b - 1) / b) && !decide (w.2.2 = abv (ent t M) b 0)) (fun w => .tup [.str "above", .int (w.1 : Nat), .int (M : Nat)]) (fun w hw => ⟨_, rfl, ?_⟩) ?_⟩
    · obtain ⟨m, p1, p2, p3, rfl⟩ := (hW w).mp hw
      have y1 := abv_le (ent t M) b 0
      have q1 : eqD (.int ((m + b - 1) / b : Nat)) (.int ((M + b - 1) / b : Nat)) = some (.bl (decide ((m + b - 1) / b = (M + b - 1) / b))) := eqN2 _ _
      have q2 : neD (abv (ent t m) b 0).enc (abv (ent t M) b 0).enc = some (.bl (!decide (abv (ent t m) b 0 = abv (ent t M) b 0))) := neD_sh _ _ (.inr (by omega))
      by_cases d1 : (m + b - 1) / b = (M + b - 1) / b
      · rw [decide_eq_true d1] at q1
        repeat (first | with_reducible refine Eq.mpr (DL.wp_eqn (l7)) ?_ | with_reducible refine Eq.mpr (DL.wp_ofOs (l7)) ?_ | with_reducible refine Eq.mpr (DL.wp_eqn (q1)) ?_ | with_reducible refine Eq.mpr (DL.wp_ofOs (q1)) ?_ | with_reducible refine Eq.mpr (DL.wp_eqn (q2)) ?_ | with_reducible refine Eq.mpr (DL.wp_ofOs (q2)) ?_ | walk_at "ev1")
        refine ⟨by simp [d1], rfl, fun _ => ?_⟩
        repeat walk_at "ev1"
        exact ⟨rfl, rfl⟩
      · rw [decide_eq_false d1] at q1
        repeat (first | with_reducible refine Eq.mpr (DL.wp_eqn (l7)) ?_ | with_reducible refine Eq.mpr (DL.wp_ofOs (l7)) ?_ | with_reducible refine Eq.mpr (DL.wp_eqn (q1)) ?_ | with_reducible refine Eq.mpr (DL.wp_ofOs (q1)) ?_ | walk_at "ev1")
        exact ⟨by simp [d1], rfl, fun h => by simp [d1] at h⟩
    · have lf : (W.filter (fun w => decide (w.2.1 = (M + b - 1) / b) && !decide (w.2.2 = abv (ent t M) b 0))).length ≤ W.length := List.length_filter_le _ _
      repeat walk_at "ev1"
      refine ⟨_, _, rfl, rfl, by rw [List.length_append, List.length_map]; omega, ?_⟩
      repeat (first | with_reducible refine Eq.mpr (DL.wp_eqn (l7)) ?_ | with_reducible refine Eq.mpr (DL.wp_ofOs (l7)) ?_ | walk_at "ev1")
      case hl => rw [List.length_map]; omega
      refine ⟨_, W ++ [(M, (M + b - 1) / b, abv (ent t M) b 0)], _, _, _, _, _, _, _, by rw [List.map_append]; rfl, fun d => ?_, by rw [List.length_append, List.length_append, List.length_map]; omega, by rw [List.length_append]; simp; omega, fun w => ?_⟩
      · rw [show i + 1 + 2 = M + 1 by omega, due_succ (by omega), List.mem_append, List.mem_append, hL, wr_mem hb, List.mem_map]
        constructor
        · rintro ((h | h) | ⟨w, hw, rfl⟩)
          · exact .inl h
          · exact .inr (.inl h)
          · obtain ⟨hw1, hw2⟩ := List.mem_filter.mp hw
            obtain ⟨m, p1, p2, p3, rfl⟩ := (hW w).mp hw1
            rw [Bool.and_eq_true, decide_eq_true_eq, Bool.not_eq_true', decide_eq_false_iff_not] at hw2
            exact .inr (.inr ⟨hall, m, p1, p2, hw2.1, p3, hw2.2, rfl⟩)
        · rintro (h | h | ⟨_, m, p1, p2, p3, p4, p5, rfl⟩)
          · exact .inl (.inl h)
          · exact .inl (.inr h)
          · refine .inr ⟨_, List.mem_filter.mpr ⟨(hW _).mpr ⟨m, p1, p2, p4, rfl⟩, ?_⟩, rfl⟩
            rw [Bool.and_eq_true, decide_eq_true_eq, Bool.not_eq_true', decide_eq_false_iff_not]
            exact ⟨p3, p5⟩
      · rw [List.mem_append, hW, List.mem_singleton]
        constructor
        · rintro (⟨m, p1, p2, p3, p4⟩ | rfl)
          · exact ⟨m, p1, by omega, p3, p4⟩
          · exact ⟨M, by omega, by omega, hall, rfl⟩
        · rintro ⟨m, p1, p2, p3, p4⟩
          rcases Nat.lt_or_ge m M with h | h
          · exact .inl ⟨m, p1, h, p3, p4⟩
          · obtain rfl : m = M := by omega
            exact .inr p4
  · rintro τ ω ⟨L, W, c5, c6, c7, c8, c9, c10, c11, rfl, hL, lL, lW, hW⟩
    rw [rangeL_len] at hL lL
    refine Eq.mpr (sw_retO rfl) ?_
    refine ⟨L, rfl, fun d => ?_, by omega⟩
    rw [hL, show bsz t + 1 - 2 + 2 = bsz t + 1 by have := hw.1; have : bsz t = t.length + 1 := rfl; omega]
    exact due_all
theorem py_str {x : D} {w : Str} (h : x.py = some (.str w)) : x = .str w := by
  cases x with
  | str y => simp [D.py] at h; rw [h]
  | tup ds => cases e : D.pyL ds <;> simp [D.py, e] at h
  | lst ds => cases e : D.pyL ds <;> simp [D.py, e] at h
  | _ => simp [D.py] at h
theorem eqv_str {p : PyData} {w : Str} (h : PyData.eqv p (.str w) = true) : p = .str w := by
  cases p with
  | str y =>
    have h : (y == w) = true := by simpa [PyData.eqv] using h
    rw [beq_iff_eq] at h
    rw [h]
  | _ => simp [PyData.eqv] at h
theorem kd_one {x : D} {p : PyData} (e : x.py = some p) (l : p.canLay0 = true) (w : Str) (hw : PyData.strOk w = true) : ∃ r, eqD x (.str w) = some (.bl r) ∧ (r = true ↔ x = .str w) := by
  refine ⟨PyData.eqv p (.str w), ?_, ?_, ?_⟩
  · unfold eqD eqB
    rw [e]
    simp only [D.py]
    rw [if_pos ⟨l, by simp only [PyData.canLay0]; exact hw, by simp only [PyData.depth]; omega⟩]
    rfl
  · intro h
    have := eqv_str h
    subst this
    exact py_str e
  · rintro rfl
    simp only [D.py] at e
    cases e
    simp [PyData.eqv]
theorem kd_py {x : D} {p : PyData} (e : x.py = some p) (l : p.canLay0 = true) : Kd x :=
  ⟨kd_one e l _ (strOk_ofString _), kd_one e l _ (strOk_ofString _), kd_one e l _ (strOk_ofString _)⟩
theorem sz_py {v : D} {p : PyData} (e : v.py = some p) (l : p.canLay0 = true) : ∃ r, eqT v (.tup [.str "size"]) = some (.bl r) ∧ (r = true ↔ v = .tup [.str "size"]) := by
  have o : PyData.strOk ("size" : Str) = true := strOk_ofString _
  have e2 : (D.tup [.str "size"]).py = some (.tuple [.str "size"]) := by simp [D.py, D.pyL]
  have e3 : eqT v (.tup [.str "size"]) = eqD v (.tup [.str "size"]) := by
    cases v with
    | dic ks ds => simp [D.py] at e
    | _ => rfl
  refine ⟨PyData.eqv p (.tuple [.str "size"]), ?_, ?_, ?_⟩
  · rw [e3]
    unfold eqD eqB
    rw [e, e2]
    dsimp only
    rw [if_pos ⟨l, by simp only [PyData.canLay0, PyData.canLayAll0, o, Bool.and_self], by simp only [PyData.depth, PyData.depthAll]; omega⟩]
    rfl
  · intro h
    cases p with
    | tuple ps =>
      match ps, h with
      | [], h => simp [PyData.eqv, PyData.eqvAll] at h
      | [q], h =>
        have h : PyData.eqv q (.str "size") = true := by simpa [PyData.eqv, PyData.eqvAll] using h
        have := eqv_str h
        subst this
        cases v with
        | tup ds =>
          match ds, e with
          | [], e => simp [D.py, D.pyL] at e
          | [x], e =>
            cases ex : x.py with
            | none => simp [D.py, D.pyL, ex] at e
            | some q =>
              simp [D.py, D.pyL, ex] at e
              subst e
              rw [py_str ex]
          | x :: y :: ds, e =>
            cases ex : x.py <;> cases ey : y.py <;> cases ed : D.pyL ds <;> simp [D.py, D.pyL, ex, ey, ed] at e
        | lst ds => cases ed : D.pyL ds <;> simp [D.py, ed] at e
        | _ => simp [D.py] at e
      | q1 :: q2 :: ps, h => simp [PyData.eqv, PyData.eqvAll] at h
    | _ => simp [PyData.eqv] at h
  · rintro rfl
    rw [e2] at e
    cases e
    simp [PyData.eqv, PyData.eqvAll]
/-- a value made of what can be shown -/
theorem vk_py {v : D} {p : PyData} (e : v.py = some p) (l : p.canLay0 = true) (hl : ∀ ds, v = .tup ds → ds.length ≤ 1000) : Vk v := by
  have ni : ∀ {x : D} {q : PyData}, x.py = some q → NI x := by
    intro x q h
    cases x with
    | ins _ _ => simp [D.py] at h
    | dit _ _ => simp [D.py] at h
    | _ => trivial
  refine ⟨ni e, sz_py e l, hl, ?_⟩
  rintro x y z rfl
  cases ex : x.py with
  | none => simp [D.py, D.pyL, ex] at e
  | some px =>
    cases ey : y.py with
    | none => simp [D.py, D.pyL, ex, ey] at e
    | some qy =>
      cases ez : z.py with
      | none => simp [D.py, D.pyL, ex, ey, ez] at e
      | some qz =>
        simp [D.py, D.pyL, ex, ey, ez] at e
        subst e
        simp only [PyData.canLay0, PyData.canLayAll0, Bool.and_eq_true] at l
        exact ⟨kd_py ex l.1, ni ey, ni ez⟩
structure Vr (v : D) (p : PyData) : Prop where
  vk : Vk v
  py : v.py = some p ∨ (v = .dic [] [] ∧ p = .dict [])
  rp : un1 reprZ [v] = some (.str p.shown)
  ok : PyData.strOk p.shown = true
def PYb (x : D) (b d : Nat) : Prop := ∃ p, x.py = some p ∧ Gd p b d
theorem pyL_gb {b d : Nat} : ∀ {ds : List D}, (∀ x ∈ ds, PYb x b d) → ∃ ps, D.pyL ds = some ps ∧ ps.length = ds.length ∧ ∀ p ∈ ps, Gd p b d
  | [], _ => ⟨[], rfl, rfl, by simp⟩
  | x :: ds, h => by
    obtain ⟨p, e1, g1⟩ := h x (List.mem_cons_self ..)
    obtain ⟨ps, e2, l, g2⟩ := pyL_gb (ds := ds) fun y hy => h y (List.mem_cons_of_mem _ hy)
    refine ⟨p :: ps, by simp [D.pyL, e1, e2], by simp [l], fun q hq => ?_⟩
    rcases List.mem_cons.mp hq with rfl | hq
    · exact g1
    · exact g2 q hq
theorem PYb.tup {ds : List D} {b d : Nat} (h : ∀ x ∈ ds, PYb x b d) : PYb (.tup ds) (ds.length * (b + 2) + 3) (d + 1) := by
  obtain ⟨ps, e, l, g⟩ := pyL_gb h
  have := Gd.tup (f := fun p : PyData => p) (xs := ps) g
  rw [List.map_id', l] at this
  exact ⟨_, by simp [D.py, e], this⟩
theorem PYb.lst {ds : List D} {b d : Nat} (h : ∀ x ∈ ds, PYb x b d) : PYb (.lst ds) (ds.length * (b + 2) + 3) (d + 1) := by
  obtain ⟨ps, e, l, g⟩ := pyL_gb h
  have := Gd.lst (f := fun p : PyData => p) (xs := ps) g
  rw [List.map_id', l] at this
  exact ⟨_, by simp [D.py, e], this⟩
theorem PYb.le {x : D} {b d b' d' : Nat} (h : PYb x b d) (h1 : b ≤ b') (h2 : d ≤ d') : PYb x b' d' := by
  obtain ⟨p, e, g⟩ := h
  exact ⟨p, e, g.le h1 h2⟩
theorem pyb_int {i : Int} (h : i.natAbs < 2 ^ 301) : PYb (.int i) 302 0 := ⟨_, rfl, Gd.int h (by omega) (by omega)⟩
def gdStr (w : Str) : Bool := (PyData.str w).showable && (PyData.str w).canLay0 && PyData.strOk (PyData.str w).shown && decide ((PyData.str w).shown.length ≤ 302)
theorem gdStr_ok {w : Str} (h : gdStr w = true) : PYb (.str w) 302 0 := by
  unfold gdStr at h
  simp only [Bool.and_eq_true, decide_eq_true_eq] at h
  exact ⟨_, rfl, h.1.1.1, h.1.1.2, by simp [PyData.depth], h.1.2, h.2⟩
theorem pyb_word {w : Str} (h : w = "lump" ∨ w = "shape" ∨ w = "above" ∨ w = "size") : PYb (.str w) 302 0 := by
  rcases h with rfl | rfl | rfl | rfl <;> exact gdStr_ok (by decide +kernel)
theorem vr_of {v : D} {b d : Nat} (h : PYb v b d) (hv : (∃ ds, v = .tup ds) ∨ ∃ ds, v = .lst ds) (hb : b ≤ 1000000) (hd : d ≤ 150) (hl : ∀ ds, v = .tup ds → ds.length ≤ 1000) : ∃ p, Vr v p := by
  obtain ⟨p, e, g⟩ := h
  exact ⟨p, vk_py e g.ly hl, .inl e, reprZ_of (g.reprD hv e hb hd), g.ok⟩
theorem vr_tup {ds : List D} (h : ∀ x ∈ ds, PYb x 2000 20) (hl : ds.length ≤ 400) : ∃ p, Vr (.tup ds) p :=
  vr_of (PYb.tup h) (.inl ⟨_, rfl⟩) (by have := Nat.mul_le_mul_right (2000 + 2) hl; omega) (by omega) (fun es e => by cases e; omega)
theorem in_txt (z : Str) (l : List Str) : ∃ r, inD (.str z) (.lst (l.map D.str)) = some (.bl r) ∧ ninD (.str z) (.lst (l.map D.str)) = some (.bl (!r)) ∧ (r = true ↔ z ∈ l) := by
  have hf : (l.map D.str).all D.flat = true := by
    rw [List.all_map]; exact List.all_eq_true.mpr fun _ _ => rfl
  obtain ⟨r, hv, hr⟩ : ∃ r, inV (V.str z) ((l.map D.str).map D.v) = r ∧ (r = true ↔ z ∈ l) := by
    refine ⟨_, rfl, ?_⟩
    unfold inV
    rw [List.map_map, List.any_map, List.any_eq_true]
    constructor
    · rintro ⟨x, hx, e⟩
      have e : decide (x = z) = true := e
      rw [← of_decide_eq_true e]; exact hx
    · intro h
      exact ⟨z, h, show decide (z = z) = true from decide_eq_true rfl⟩
  have h2 : inF (.str z) (l.map D.str) = some r := by
    unfold inF
    rw [if_pos ⟨rfl, hf⟩, ← hv]; rfl
  refine ⟨r, ?_, ?_, hr⟩
  · show Option.map D.bl (match inF (.str z) (l.map D.str) with | some b => some b | none => _) = _
    rw [h2]; rfl
  · show Option.map _ (match inF (.str z) (l.map D.str) with | some b => some b | none => _) = _
    rw [h2]; rfl
theorem due_vr {t : Tab} {b : Nat} (hz : bsz t ≤ 70) (hb : 1 ≤ b) {d : D} (h : IsC t b d) : ∃ p, Vr d p := by
  have three : ∀ (w : Str) (m k : Nat), (w = "lump" ∨ w = "shape" ∨ w = "above" ∨ w = "size") → m ≤ 70 → k ≤ 70 → ∃ p, Vr (D.tup [.str w, .int (m : Nat), .int (k : Nat)]) p := by
    intro w m k hw hm hk
    have big : 70 < 2 ^ 301 := by decide
    refine vr_tup (fun x hx => ?_) (by simp)
    simp only [List.mem_cons, List.not_mem_nil, or_false] at hx
    rcases hx with rfl | rfl | rfl
    · exact (pyb_word hw).le (by omega) (by omega)
    · exact (pyb_int (by omega)).le (by omega) (by omega)
    · exact (pyb_int (by omega)).le (by omega) (by omega)
  rcases h with ⟨rfl, _⟩ | ⟨m, k, _, h2, h3, h4, rfl⟩ | ⟨m, n, _, h2, h3, rfl⟩
  · refine vr_tup (fun x hx => ?_) (by simp)
    simp only [List.mem_cons, List.not_mem_nil, or_false] at hx
    subst hx
    exact (pyb_word (.inr (.inr (.inr rfl)))).le (by omega) (by omega)
  · have hk : k ≤ k * b := Nat.le_mul_of_pos_right k hb
    rcases fault_cases t b m k with h | h | h
    · exact absurd ((faultD_non t b m k).mp h) h4
    · rw [h]; exact three _ m k (.inl rfl) (by omega) (by omega)
    · rw [h]; exact three _ m k (.inr (.inl rfl)) (by omega) (by omega)
  · have := h3.1
    exact three _ m n (.inr (.inr (.inl rfl))) (by omega) (by omega)
def shw (d : D) : Str := match un1 reprZ [d] with
  | some (.str z) => z
  | _ => ""
theorem Vr.shw {d : D} {p : PyData} (h : Vr d p) : Lk.shw d = p.shown := by
  unfold Lk.shw
  rw [h.rp]
theorem cnt_of {b n : Nat} (hb : 1 ≤ b) (hn : 1 ≤ n) : (n + b - 1) / b = (n - 1) / b + 1 := by
  rw [show n + b - 1 = (n - 1) + b by omega, Nat.add_div_right _ hb]
theorem counter_told (t : Tab) (b : Nat) (hw : WT t) (hz : bsz t ≤ 70) (hb : 1 ≤ b) (hb2 : b ≤ 70) :
    ∃ d, F_counter [tb t, .int b] = .ok d () ∧ ((d = .non ∧ ∀ v, ¬ IsC t b v) ∨ IsC t b d) := by
  obtain ⟨d, e, h⟩ := counter_ok t b hw hz hb hb2
  refine ⟨d, e, ?_⟩
  rcases h with ⟨rfl, hc⟩ | ⟨_, ⟨rfl, h⟩ | ⟨h0, ⟨m, k, a1, a2, a3, a4, rfl⟩ | ⟨hs, n, a1, a2, a3, rfl⟩⟩⟩
  · refine .inl ⟨rfl, ?_⟩
    rintro v (⟨_, h⟩ | ⟨m, k, a1, a2, a3, a4, _⟩ | ⟨m, n, a1, a2, ⟨b1, b2, b3, b4, b5⟩, _⟩)
    · exact h hc.dvd
    · exact a4 (hc.str m a1 a2 k a3)
    · refine b5 ?_
      rw [cnt_of hb (by omega), cnt_of hb (by omega)] at b2
      have b2 : (m - 1) / b = (n - 1) / b := by omega
      rcases Nat.lt_or_ge b m with h | h
      · have e1 := hc.abo m (by omega) (by omega)
        have e2 := hc.abo n (by omega) (by omega)
        rw [b2] at e1
        exact e1.symm.trans e2
      · have q0 : (m - 1) / b = 0 := Nat.div_eq_of_lt (by omega)
        rw [q0] at b2
        have hnb : n - 1 < b := by
          rcases Nat.lt_or_ge (n - 1) b with h' | h'
          · exact h'
          · have := (Nat.one_le_div_iff (by omega)).mpr h'; omega
        have s1 := hw.ent (m := m) (by omega) (by omega)
        have s2 := hw.ent (m := n) (by omega) (by omega)
        rw [abv_in _ b 0 hb (Nat.zero_mod b) (by omega), abv_in _ b 0 hb (Nat.zero_mod b) (by omega)]
  · exact .inr (.inl ⟨rfl, h⟩)
  · exact .inr (.inr (.inl ⟨m, k, a1, a2, a3, a4, rfl⟩))
  · have hq : 1 ≤ (n - 1) / b := (Nat.one_le_div_iff (by omega)).mpr (by omega)
    have hqb : b ≤ (n - 1) / b * b := Nat.le_mul_of_pos_left b hq
    have hle : (n - 1) / b * b ≤ n - 1 := Nat.div_mul_le_self _ _
    have hne : (n - 1) / b * b + 1 ≠ n := fun h => a3 (by unfold aboOk; rw [h])
    refine .inr (.inr (.inr ⟨(n - 1) / b * b + 1, n, by omega, a2, ⟨by omega, ?_, fun k hk => hs _ (by omega) (by omega) k hk, fun k hk => hs n (by omega) a2 k hk, a3⟩, rfl⟩))
    rw [cnt_of hb (by omega), cnt_of hb (by omega), Nat.add_sub_cancel, Nat.mul_div_cancel _ (by omega)]
theorem sw_rsFI {Ω : Type} {nm : Str} {Fr : E Ω (List D)} {τ : Tau} {ω ω1 : Ω} {d : D} {P : Fl → Ω → Prop} (h : Fr τ ω = .ok [d] ω1) (k : P (.rs ⟨0, [nm], [d]⟩ τ) ω1) : sw (sRsF nm Fr τ ω) P := by
  unfold sRsF
  rw [h]
  with_unfolding_all exact k
theorem ex_of_wp {r : R Unit D} {x0 : Exn} (h : r.wp (fun _ _ => False) (fun x _ => x = x0)) : r = .ex x0 () := by
  cases r with
  | ok a ω => exact False.elim (by with_unfolding_all exact h)
  | ex x ω =>
    have e : x = x0 := by with_unfolding_all exact h
    rw [e]
  | no => exact False.elim (by with_unfolding_all exact h)
theorem fx_behind (t : Tab) (b : Nat) (hw : WT t) (hz : bsz t ≤ 70) (hb : 2 ≤ b) (hb2 : b < bsz t) :
    (CutAt t b ∧ FX_behind [tb t, .int b] = .ok (tb (late t b)) ()) ∨ (¬ CutAt t b ∧ ∃ c, IsC t b c ∧ (∃ xs, c = .tup xs) ∧ FX_behind [tb t, .int b] = .ex ⟨0, ["counter"], [c]⟩ ()) := by
  obtain ⟨d, e1, h⟩ := counter_ok t b hw hz (by omega) (by omega)
  obtain ⟨d', e1', h'⟩ := counter_told t b hw hz (by omega) (by omega)
  rw [e1] at e1'
  cases e1'
  have hn := counter_nf h
  have hs : startT 3 ([tb t, D.int b].map Cell.d) = [some (.d (tb t)), some (.d (.int b)), none] := rfl
  rcases hn with ⟨rfl, hc⟩ | ⟨hc, xs, rfl⟩
  · refine .inl ⟨hc, ?_⟩
    have hd := Nat.div_add_mod (bsz t) b
    rw [hc.dvd, Nat.add_zero] at hd
    have hq : 1 ≤ bsz t / b := (Nat.one_le_div_iff (by omega)).mpr (by omega)
    apply R.wp.equ
    unfold FX_behind BX_behind
    rw [hs]
    have e3 : notND .non .non = some (.bl false) := rfl
    repeat (first | with_reducible refine Eq.mpr (DL.wp_eqn (e1)) ?_ | with_reducible refine Eq.mpr (DL.wp_ofOs (e1)) ?_ | with_reducible refine Eq.mpr (DL.wp_eqn (e3)) ?_ | with_reducible refine Eq.mpr (DL.wp_ofOs (e3)) ?_ | with_reducible refine Eq.mpr (DL.wp_eqn (table_size_ok t)) ?_ | with_reducible refine Eq.mpr (DL.wp_ofOs (table_size_ok t)) ?_ | with_reducible refine Eq.mpr (DL.wp_eqn (fdivN (bsz t) b (by omega) (by omega))) ?_ | with_reducible refine Eq.mpr (DL.wp_ofOs (fdivN (bsz t) b (by omega) (by omega))) ?_ | with_reducible refine Eq.mpr (DL.wp_eqn (table_above_ok t b (bsz t / b) hw hz (by omega) (by omega) (by omega) hq)) ?_ | with_reducible refine Eq.mpr (DL.wp_ofOs (table_above_ok t b (bsz t / b) hw hz (by omega) (by omega) (by omega) hq)) ?_ | walk_at "ev1")
    rfl
  · refine .inr ⟨hc, .tup xs, ?_, ⟨_, rfl⟩, ?_⟩
    · rcases h' with ⟨h', _⟩ | h'
      · cases h'
      · exact h'
    · have e3 : notND (.tup xs) .non = some (.bl true) := rfl
      have w : (FX_behind [tb t, .int b]).wp (fun _ _ => False) (fun x _ => x = ⟨0, ["counter"], [.tup xs]⟩) := by
        unfold FX_behind BX_behind
        rw [hs]
        repeat (first | with_reducible refine Eq.mpr (DL.wp_eqn (e1)) ?_ | with_reducible refine Eq.mpr (DL.wp_ofOs (e1)) ?_ | with_reducible refine Eq.mpr (DL.wp_eqn (e3)) ?_ | with_reducible refine Eq.mpr (DL.wp_ofOs (e3)) ?_ | walk_at "ev1")
        refine sw_rsFI (d := .tup xs) (ω1 := ()) rfl ?_
        exact rfl
      exact ex_of_wp w
theorem lam_told {t : Tab} {b : Nat} {d : D} (e : FX_behind [tb t, .int b] = .ok d ()) (c0 c2 c4 c5 c7 c8 c9 : Option Cell) (ω : Src) :
    cLam 2 LB_law_told (cDXF FX_behind (aCons (eVar 3) (aCons (eVar 6) aNil))) [c0, some .src, c2, some (.d (tb t)), c4, c5, some (.d (.int b)), c7, c8, c9] ω = .ok (.tup [.str "told", d]) ω := by
  have ef : cDXF FX_behind (aCons (eVar 3) (aCons (eVar 6) aNil)) [c0, some .src, c2, some (.d (tb t)), c4, c5, some (.d (.int b)), c7, c8, c9] = fun ω : Src => .ok d ω := by
    funext ω
    show (match FX_behind [tb t, .int b] with | .ok d _ => (.ok d ω : R Src D) | .ex x _ => .ex x ω | .no => .no) = _
    rw [e]
  unfold cLam
  rw [ef]
  kernel_rfl
theorem lam_no {t : Tab} {b : Nat} {c : D} (e : FX_behind [tb t, .int b] = .ex ⟨0, ["counter"], [c]⟩ ()) (c0 c2 c4 c5 c7 c8 c9 : Option Cell) (ω : Src) :
    cLam 2 LB_law_told (cDXF FX_behind (aCons (eVar 3) (aCons (eVar 6) aNil))) [c0, some .src, c2, some (.d (tb t)), c4, c5, some (.d (.int b)), c7, c8, c9] ω = .ok (.tup [.str "refused", c]) ω := by
  have ef : cDXF FX_behind (aCons (eVar 3) (aCons (eVar 6) aNil)) [c0, some .src, c2, some (.d (tb t)), c4, c5, some (.d (.int b)), c7, c8, c9] = fun ω : Src => .ex ⟨0, ["counter"], [c]⟩ ω := by
    funext ω
    show (match FX_behind [tb t, .int b] with | .ok d _ => (.ok d ω : R Src D) | .ex x _ => .ex x ω | .no => .no) = _
    rw [e]
  unfold cLam
  rw [ef]
  kernel_rfl
theorem rep_tab {t : Tab} (hw : WT t) (hz : bsz t ≤ 60) : ∃ z, un1 reprZ [tb t] = some (.str z) ∧ neD (.str z) (.str z) = some (.bl false) := by
  obtain ⟨h1, h2⟩ := repr_ne_same (α := Tab) t (.inl ⟨_, rfl⟩) (gd_tab hw hz) (by omega) (by omega)
  exact ⟨_, reprZ_of h1, h2⟩
def Bb : S Src :=
  (sSeq (sPar 7 8 (cD F_law_behind (aCons (eVar 3) (aCons (eVar 6) aNil))) (cLam 2 LB_law_told (cDXF FX_behind (aCons (eVar 3) (aCons (eVar 6) aNil)))))
    (sSeq (sIf (bOr (eB (eOp neD (eOp ixD (eVar 8) (eC (.int 0))) (eIf (eB (eOp notND (eVar 7) (eC .non))) (eC (.str "told")) (eC (.str "refused"))))) (bAnd (eB (eOp notND (eVar 7) (eC .non))) (eB (eOp neD (eCall (un1 reprZ) (aCons (eOp ixD (eVar 8) (eC (.int 1))) aNil)) (eCall (un1 reprZ) (aCons (eVar 7) aNil)))))) (sRet (eC (.bl false))) sNx)
    (sSeq (sIf (bAnd (eB (eOp isND (eVar 7) (eC .non))) (eB (eOp ninD (eCall (un1 reprZ) (aCons (eOp ixD (eVar 8) (eC (.int 1))) aNil)) (eFrz (eLc [9] (iSq (cD F_law_counters (aCons (eVar 3) (aCons (eVar 6) aNil)))) (bName 9) bYes (eCall (un1 reprZ) (aCons (eVar 9) aNil))))))) (sRet (eC (.bl false))) sNx)
    (sIf (bAnd (eB (eOp isND (eVar 7) (eC .non))) (eB (eOp notND (cD F_judge_counter (aCons (eVar 3) (aCons (eVar 6) (aCons (eOp ixD (eVar 8) (eC (.int 1))) aNil)))) (eC (.bl true))))) (sRet (eC (.bl false))) sNx))))
theorem one_b {t : Tab} {b : Nat} (hw : WT t) (hz : bsz t ≤ 60) (hb : 2 ≤ b) (hb2 : b < bsz t) (c0 c2 c4 c5 c7 c8 c9 : Option Cell) (ω : Src) :
    sw (Bb [c0, some .src, c2, some (.d (tb t)), c4, c5, some (.d (.int b)), c7, c8, c9] ω) (fun f _ => ∃ c7 c8 c9, f = .nx [c0, some .src, c2, some (.d (tb t)), c4, c5, some (.d (.int b)), c7, c8, c9]) := by
  obtain ⟨d, eb, hd⟩ := law_behind_ok t b hw (by omega) hb hb2
  unfold Bb
  rcases fx_behind t b hw (by omega) hb hb2 with ⟨hc, ef⟩ | ⟨hc, c, hi, ⟨xs, rfl⟩, ef⟩
  · obtain rfl : d = tb (late t b) := by
      rcases hd with ⟨_, h⟩ | ⟨h, _⟩
      · exact h
      · exact absurd hc h
    have wl := hc.late_wt hw hb hb2
    have zl : bsz (late t b) ≤ 60 := by
      rw [late_bsz hb hb2 hc.dvd]
      exact Nat.le_trans (Nat.div_le_self _ _) hz
    obtain ⟨z, ez, nz⟩ := rep_tab wl zl
    have el := lam_told ef c0 c2 c4 c5 (some (.d (tb (late t b)))) c8 c9 ω
    have el := lam_told ef c0 c2 c4 c5 c7 c8 c9 ω
    refine Eq.mpr sw_seq ?_
    refine sw.mono (P := fun fl ω' => ω' = ω ∧ fl = .nx [c0, some .src, c2, some (.d (tb t)), c4, c5, some (.d (.int b)), some (.d (tb (late t b))), some (.d (.tup [.str "told", tb (late t b)])), c9]) (by
      refine Eq.mpr sw_par ?_
      repeat (first | with_reducible refine Eq.mpr (DL.wp_eqn (eb)) ?_ | with_reducible refine Eq.mpr (DL.wp_ofOs (eb)) ?_ | walk_at "ev1")
      refine Eq.mpr (wp_eqn el) ?_
      exact ⟨rfl, rfl⟩) ?_
    rintro fl ω1 ⟨rfl, rfl⟩
    have f1 : ixD (.tup [.str "told", tb (late t b)]) (.int 0) = some (.str "told") := rfl
    have f2 : ixD (.tup [.str "told", tb (late t b)]) (.int 1) = some (tb (late t b)) := rfl
    have f3 : notND (tb (late t b)) .non = some (.bl true) := rfl
    have f4 : isND (tb (late t b)) .non = some (.bl false) := rfl
    have f5 : neD (.str "told") (.str "told") = some (.bl false) := str_ne_same _ (strOk_ofString _)
    repeat (first | with_reducible refine Eq.mpr (DL.wp_eqn (f1)) ?_ | with_reducible refine Eq.mpr (DL.wp_ofOs (f1)) ?_ | with_reducible refine Eq.mpr (DL.wp_eqn (f2)) ?_ | with_reducible refine Eq.mpr (DL.wp_ofOs (f2)) ?_ | with_reducible refine Eq.mpr (DL.wp_eqn (f3)) ?_ | with_reducible refine Eq.mpr (DL.wp_ofOs (f3)) ?_ | with_reducible refine Eq.mpr (DL.wp_eqn (f4)) ?_ | with_reducible refine Eq.mpr (DL.wp_ofOs (f4)) ?_ | with_reducible refine Eq.mpr (DL.wp_eqn (f5)) ?_ | with_reducible refine Eq.mpr (DL.wp_ofOs (f5)) ?_ | with_reducible refine Eq.mpr (DL.wp_eqn (ez)) ?_ | with_reducible refine Eq.mpr (DL.wp_ofOs (ez)) ?_ | with_reducible refine Eq.mpr (DL.wp_eqn (nz)) ?_ | with_reducible refine Eq.mpr (DL.wp_ofOs (nz)) ?_ | walk_at "ev1")
    exact ⟨_, _, _, rfl⟩
  · obtain rfl : d = .non := by
      rcases hd with ⟨h, _⟩ | ⟨_, h⟩
      · exact absurd h hc
      · exact h
    obtain ⟨L, ec, hL, lL⟩ := law_counters_ok t b hw (by omega) (by omega) (by omega)
    obtain ⟨p, hp⟩ := due_vr (by omega) (by omega) hi
    obtain ⟨q, _, q2, hq⟩ := in_txt p.shown (L.map shw)
    have : q = true := hq.mpr (List.mem_map.mpr ⟨_, (hL _).mpr hi, hp.shw⟩)
    subst this
    obtain ⟨r, ej, hr⟩ := judge_ok (b := b) hw (by omega) (by omega) (by omega) hp.vk
    have : r = true := hr.mpr hi
    subst this
    have el := lam_no ef c0 c2 c4 c5 c7 c8 c9 ω
    refine Eq.mpr sw_seq ?_
    refine sw.mono (P := fun fl ω' => ω' = ω ∧ fl = .nx [c0, some .src, c2, some (.d (tb t)), c4, c5, some (.d (.int b)), some (.d .non), some (.d (.tup [.str "refused", .tup xs])), c9]) (by
      refine Eq.mpr sw_par ?_
      repeat (first | with_reducible refine Eq.mpr (DL.wp_eqn (eb)) ?_ | with_reducible refine Eq.mpr (DL.wp_ofOs (eb)) ?_ | walk_at "ev1")
      refine Eq.mpr (wp_eqn el) ?_
      exact ⟨rfl, rfl⟩) ?_
    rintro fl ω1 ⟨rfl, rfl⟩
    have f1 : ixD (.tup [.str "refused", .tup xs]) (.int 0) = some (.str "refused") := rfl
    have f2 : ixD (.tup [.str "refused", .tup xs]) (.int 1) = some (.tup xs) := rfl
    have f3 : notND .non .non = some (.bl false) := rfl
    have f4 : isND .non .non = some (.bl true) := rfl
    have f5 : neD (.str "refused") (.str "refused") = some (.bl false) := str_ne_same _ (strOk_ofString _)
    have f6 : notND (.bl true) (.bl true) = some (.bl false) := rfl
    have e4 := hp.rp
    refine Eq.mpr sw_seq ?_
    refine sw.mono (P := fun fl ω' => ω' = ω1 ∧ fl = .nx [c0, some .src, c2, some (.d (tb t)), c4, c5, some (.d (.int b)), some (.d .non), some (.d (.tup [.str "refused", .tup xs])), c9]) (by
      repeat (first | with_reducible refine Eq.mpr (DL.wp_eqn (f1)) ?_ | with_reducible refine Eq.mpr (DL.wp_ofOs (f1)) ?_ | with_reducible refine Eq.mpr (DL.wp_eqn (f3)) ?_ | with_reducible refine Eq.mpr (DL.wp_ofOs (f3)) ?_ | with_reducible refine Eq.mpr (DL.wp_eqn (f5)) ?_ | with_reducible refine Eq.mpr (DL.wp_ofOs (f5)) ?_ | walk_at "ev1")
      exact ⟨rfl, rfl⟩) ?_
    rintro fl ω2 ⟨rfl, rfl⟩
    refine Eq.mpr sw_seq ?_
    refine sw.mono (P := fun fl ω' => ω' = ω2 ∧ ∃ c9, fl = .nx [c0, some .src, c2, some (.d (tb t)), c4, c5, some (.d (.int b)), some (.d .non), some (.d (.tup [.str "refused", .tup xs])), c9]) (by
      repeat (first | with_reducible refine Eq.mpr (DL.wp_eqn (f4)) ?_ | with_reducible refine Eq.mpr (DL.wp_ofOs (f4)) ?_ | with_reducible refine Eq.mpr (DL.wp_eqn (f2)) ?_ | with_reducible refine Eq.mpr (DL.wp_ofOs (f2)) ?_ | with_reducible refine Eq.mpr (DL.wp_eqn (e4)) ?_ | with_reducible refine Eq.mpr (DL.wp_ofOs (e4)) ?_ | with_reducible refine Eq.mpr (DL.wp_eqn (ec)) ?_ | with_reducible refine Eq.mpr (DL.wp_ofOs (ec)) ?_ | walk_at "ev1")
      refine ⟨by rw [sizeLine_eq]; omega, ?_⟩
      refine lc_map (fun i => .str (shw (L.getD i .non))) (fun i d hd => ⟨_, rfl, ?_⟩) ?_
      · obtain ⟨p', v⟩ := due_vr (t := t) (b := b) (by omega) (by omega) ((hL d).mp (List.mem_of_getElem? hd))
        have e : L.getD i .non = d := by rw [List.getD_eq_getElem?_getD, hd]; rfl
        rw [e]
        have e5 := v.rp
        rw [← v.shw] at e5
        repeat (first | with_reducible refine Eq.mpr (DL.wp_eqn (e5)) ?_ | with_reducible refine Eq.mpr (DL.wp_ofOs (e5)) ?_ | walk_at "ev1")
        exact ⟨rfl, rfl⟩
      · have e : (List.range L.length).map (fun i => D.str (shw (L.getD i .non))) = (L.map shw).map D.str := by
          apply List.ext_getElem?
          intro i
          rcases Nat.lt_or_ge i L.length with h | h
          · simp [h]
          · simp [h]
        rw [e]
        repeat (first | with_reducible refine Eq.mpr (DL.wp_eqn (q2)) ?_ | with_reducible refine Eq.mpr (DL.wp_ofOs (q2)) ?_ | walk_at "ev1")
        exact ⟨rfl, _, rfl⟩) ?_
    rintro fl ω3 ⟨rfl, c9', rfl⟩
    repeat (first | with_reducible refine Eq.mpr (DL.wp_eqn (f4)) ?_ | with_reducible refine Eq.mpr (DL.wp_ofOs (f4)) ?_ | with_reducible refine Eq.mpr (DL.wp_eqn (f2)) ?_ | with_reducible refine Eq.mpr (DL.wp_ofOs (f2)) ?_ | with_reducible refine Eq.mpr (DL.wp_eqn (ej)) ?_ | with_reducible refine Eq.mpr (DL.wp_ofOs (ej)) ?_ | with_reducible refine Eq.mpr (DL.wp_eqn (f6)) ?_ | with_reducible refine Eq.mpr (DL.wp_ofOs (f6)) ?_ | walk_at "ev1")
    exact ⟨_, _, _, rfl⟩
theorem wp_lrg2 {Ω : Type} {a b : E Ω D} {τ : Tau} {ω : Ω} {P : List D → Ω → Prop} {X : Exn → Ω → Prop} (l n : Nat) (hn : l ≤ 100000 ∧ n ≤ 100000) (h : (a τ ω).wp (fun x ω1 => (b τ ω1).wp (fun y ω2 => x = .int (l : Nat) ∧ y = .int (n : Nat) ∧ P (rangeL (l : Nat) 1 (n - l)) ω2) X) X) : (eLRg (rRg2 a b) τ ω).wp P X := by
  unfold eLRg rRg2
  rw [wp_bind, wp_bind]
  refine h.mono fun x ω1 h1 => ?_
  rw [wp_bind]
  refine h1.mono ?_
  rintro y ω2 ⟨rfl, rfl, h⟩
  refine Eq.mpr wp_ok ?_
  dsimp only
  rw [if_pos (by omega), show ((n : Int) - (l : Int)).toNat = n - l by omega]
  exact Eq.mpr wp_ok h
theorem law_body {t : Tab} (hw : WT t) (hz : bsz t ≤ 60) (ds : List D) (hd : ∀ d ∈ ds, ∃ b : Nat, d = .int (b : Nat) ∧ 2 ≤ b ∧ b < bsz t) (c0 c2 c4 c5 c6 c7 c8 c9 : Option Cell) (ω : Src) :
    sw (loop (bName 6) Bb ds [c0, some .src, c2, some (.d (tb t)), c4, c5, c6, c7, c8, c9] ω) (fun f _ => ∃ c6 c7 c8 c9, f = .nx [c0, some .src, c2, some (.d (tb t)), c4, c5, c6, c7, c8, c9]) := by
  refine loop_inv (fun i τ _ => ∃ c6 c7 c8 c9, τ = [c0, some .src, c2, some (.d (tb t)), c4, c5, c6, c7, c8, c9]) ⟨_, _, _, _, rfl⟩ ?_ ?_
  · rintro i d τ ω h ⟨c6, c7, c8, c9, rfl⟩
    obtain ⟨b, rfl, b1, b2⟩ := hd d (List.mem_of_getElem? h)
    refine ⟨_, rfl, ?_⟩
    refine sw.mono (one_b hw hz b1 b2 c0 c2 c4 c5 c7 c8 c9 ω) ?_
    rintro f ω1 ⟨c7, c8, c9, rfl⟩
    exact ⟨_, _, _, _, rfl⟩
  · rintro τ ω ⟨c6, c7, c8, c9, rfl⟩
    exact ⟨_, _, _, _, rfl⟩
theorem rng_good {t : Tab} : ∀ d ∈ rangeL (2 : Nat) 1 (bsz t - 2), ∃ b : Nat, d = .int (b : Nat) ∧ 2 ≤ b ∧ b < bsz t := by
  intro d hd
  obtain ⟨k, hk⟩ := List.getElem?_of_mem hd
  obtain ⟨rfl, hi⟩ := rangeL_get _ _ _ _ _ hk
  exact ⟨k + 2, by rw [show ((2 : Nat) : Int) + (k : Int) * 1 = ((k + 2 : Nat) : Int) by push_cast; omega], by omega, by omega⟩
def EK (c2 c3 c4 c5 c6 c7 c8 c9 : Option Cell) : Tau := [none, some .src, c2, c3, c4, c5, c6, c7, c8, c9]
theorem law_wp (ns : List Int) : (runS B_law tau0 (srcOf ns)).wp (fun d _ => d = .bl true) X0 := by
  unfold B_law
  obtain ⟨r, ω1, e1', hr⟩ := pick_nat (srcOf ns) 4 (by omega) (by omega)
  have e1 : F_law_pick [.int 4] (srcOf ns) = .ok (.int (r : Nat)) ω1 := e1'
  have q := eqN2 r 0
  refine Eq.mpr wp_runS ?_
  refine Eq.mpr sw_seq ?_
  refine sw.mono (P := fun f _ => ∃ c2 c3 c4 c5 c6 c7 c8 c9, f = .nx (EK c2 c3 c4 c5 c6 c7 c8 c9)) ?_ (by
    rintro f ω ⟨c2, c3, c4, c5, c6, c7, c8, c9, rfl⟩
    repeat walk_at "ev1"
    exact rfl)
  have lp : ∀ (X : List D), (∀ d ∈ X, d = .int 12 ∨ d = .int 20 ∨ d = .int 30 ∨ d = .int 60) → ∀ ω : Src,
      sw (loop (bName 2) (sSeq (sAsg (cW F_law_some_table 1 (aCons (eVar 2) aNil)) (bName 3))
        (sSeq (sPar 4 5 (eCall (un1 reprZ) (aCons (eVar 3) aNil)) (eFrz (eLRg (rRg2 (eC (.int 2)) (eOp addD (eCall (un1 lenD) (aCons (eVar 3) aNil)) (eC (.int 1)))))))
        (sSeq (sFor (iSq (eIf (eB (eOp ltD (eVar 2) (eC (.int 60)))) (eVar 5) (eFrz (eLc [6] (iSq (eVar 5)) (bName 6) (eB (eOp eqD (eOp modD (eCall (un1 intD) (aCons (eOp addD (eCall (un1 lenD) (aCons (eVar 3) aNil)) (eC (.int 1))) aNil)) (eVar 6)) (eC (.int 0)))) (eVar 6))))) (bName 6) Bb)
        (sIf (eB (eOp neD (eCall (un1 reprZ) (aCons (eVar 3) aNil)) (eVar 4))) (sRet (eC (.bl false))) sNx)))) X tau0 ω) (fun f _ => ∃ c2 c3 c4 c5 c6 c7 c8 c9, f = .nx (EK c2 c3 c4 c5 c6 c7 c8 c9)) := by
    intro X hX ω
    refine loop_inv (fun i τ _ => ∃ c2 c3 c4 c5 c6 c7 c8 c9, τ = EK c2 c3 c4 c5 c6 c7 c8 c9) ⟨none, none, none, none, none, none, none, none, rfl⟩ ?_ ?_
    · rintro i d τ ω h ⟨c2, c3, c4, c5, c6, c7, c8, c9, rfl⟩
      refine ⟨_, rfl, ?_⟩
      have hd : ∃ m : Nat, d = .int (m : Nat) ∧ 12 ≤ m ∧ m ≤ 60 := by
        rcases hX d (List.mem_of_getElem? h) with rfl | rfl | rfl | rfl
        · exact ⟨12, rfl, by omega, by omega⟩
        · exact ⟨20, rfl, by omega, by omega⟩
        · exact ⟨30, rfl, by omega, by omega⟩
        · exact ⟨60, rfl, by omega, by omega⟩
      obtain ⟨m, rfl, m1, m2⟩ := hd
      obtain ⟨t, ω2, e2, w, z⟩ := some_table_ok m ω m1 m2
      have hbs : bsz t = t.length + 1 := rfl
      have l1 := len_tb t
      have a1 : addD (.int (t.length : Nat)) (.int 1) = some (.int (bsz t : Nat)) := addN t.length 1
      obtain ⟨s, es, ns'⟩ := rep_tab w z
      unfold EK
      refine Eq.mpr sw_seq ?_
      refine sw.mono (P := fun fl ω' => ω' = ω2 ∧ fl = .nx [none, some .src, some (.d (.int (m : Nat))), some (.d (tb t)), c4, c5, c6, c7, c8, c9]) (by
        repeat (first | with_reducible refine Eq.mpr (DL.wp_eqn (e2)) ?_ | with_reducible refine Eq.mpr (DL.wp_ofOs (e2)) ?_ | walk_at "ev1")
        exact ⟨rfl, rfl⟩) ?_
      rintro fl ω3 ⟨rfl, rfl⟩
      refine Eq.mpr sw_seq ?_
      refine sw.mono (P := fun fl ω' => ω' = ω3 ∧ fl = .nx [none, some .src, some (.d (.int (m : Nat))), some (.d (tb t)), some (.d (.str s)), some (.d (.lst (rangeL (2 : Nat) 1 (bsz t - 2)))), c6, c7, c8, c9]) (by
        refine Eq.mpr sw_par ?_
        repeat (first | with_reducible refine Eq.mpr (DL.wp_eqn (es)) ?_ | with_reducible refine Eq.mpr (DL.wp_ofOs (es)) ?_ | walk_at "ev1")
        refine wp_lrg2 2 (bsz t) ⟨by omega, by omega⟩ ?_
        repeat (first | with_reducible refine Eq.mpr (DL.wp_eqn (l1)) ?_ | with_reducible refine Eq.mpr (DL.wp_ofOs (l1)) ?_ | with_reducible refine Eq.mpr (DL.wp_eqn (a1)) ?_ | with_reducible refine Eq.mpr (DL.wp_ofOs (a1)) ?_ | walk_at "ev1")
        exact ⟨rfl, rfl, rfl, rfl⟩) ?_
      rintro fl ω4 ⟨rfl, rfl⟩
      have hlt : ltD (.int (m : Nat)) (.int 60) = some (.bl (decide (m < 60))) := ltI m 60
      refine Eq.mpr sw_seq ?_
      refine sw.mono (P := fun fl _ => ∃ c6 c7 c8 c9, fl = .nx [none, some .src, some (.d (.int (m : Nat))), some (.d (tb t)), some (.d (.str s)), some (.d (.lst (rangeL (2 : Nat) 1 (bsz t - 2)))), c6, c7, c8, c9]) ?_ (by
        rintro fl ω5 ⟨c6, c7, c8, c9, rfl⟩
        repeat (first | with_reducible refine Eq.mpr (DL.wp_eqn (es)) ?_ | with_reducible refine Eq.mpr (DL.wp_ofOs (es)) ?_ | with_reducible refine Eq.mpr (DL.wp_eqn (ns')) ?_ | with_reducible refine Eq.mpr (DL.wp_ofOs (ns')) ?_ | walk_at "ev1")
        exact ⟨_, _, _, _, _, _, _, _, rfl⟩)
      by_cases hm : m < 60
      · rw [decide_eq_true hm] at hlt
        repeat (first | with_reducible refine Eq.mpr (DL.wp_eqn (hlt)) ?_ | with_reducible refine Eq.mpr (DL.wp_ofOs (hlt)) ?_ | walk_at "ev1")
        exact law_body w z _ rng_good _ _ _ _ _ _ _ _ _
      · rw [decide_eq_false hm] at hlt
        repeat (first | with_reducible refine Eq.mpr (DL.wp_eqn (hlt)) ?_ | with_reducible refine Eq.mpr (DL.wp_ofOs (hlt)) ?_ | walk_at "ev1")
        refine ⟨by rw [rangeL_len, sizeLine_eq]; omega, ?_⟩
        refine lc_inv (fun i acc ω' => ω' = ω4 ∧ ∀ d ∈ acc, ∃ b : Nat, d = .int (b : Nat) ∧ 2 ≤ b ∧ b < bsz t) ⟨rfl, fun d hd => by cases hd⟩ ?_ ?_
        · rintro i d acc ω' hd ⟨rfl, ha⟩
          obtain ⟨b, rfl, b1, b2⟩ := rng_good d (List.mem_of_getElem? hd)
          refine ⟨_, rfl, ?_⟩
          have i1 : un1 intD [.int (bsz t : Nat)] = some (.int (bsz t : Nat)) := rfl
          have hmod := modN (bsz t) b (by omega)
          have he := eqN2 (bsz t % b) 0
          repeat (first | with_reducible refine Eq.mpr (DL.wp_eqn (l1)) ?_ | with_reducible refine Eq.mpr (DL.wp_ofOs (l1)) ?_ | with_reducible refine Eq.mpr (DL.wp_eqn (a1)) ?_ | with_reducible refine Eq.mpr (DL.wp_ofOs (a1)) ?_ | with_reducible refine Eq.mpr (DL.wp_eqn (i1)) ?_ | with_reducible refine Eq.mpr (DL.wp_ofOs (i1)) ?_ | with_reducible refine Eq.mpr (DL.wp_eqn (hmod)) ?_ | with_reducible refine Eq.mpr (DL.wp_ofOs (hmod)) ?_ | with_reducible refine Eq.mpr (DL.wp_eqn (he)) ?_ | with_reducible refine Eq.mpr (DL.wp_ofOs (he)) ?_ | walk_at "ev1")
          by_cases h0 : bsz t % b = 0
          · refine iteP (decide_eq_true h0) ?_
            repeat walk_at "ev1"
            refine ⟨rfl, fun d hd => ?_⟩
            rcases List.mem_append.mp hd with hd | hd
            · exact ha d hd
            · rw [List.mem_singleton] at hd
              exact ⟨b, hd, b1, b2⟩
          · refine iteN (by rw [decide_eq_true_eq]; exact h0) ?_
            exact ⟨rfl, ha⟩
        · rintro acc ω' ⟨rfl, ha⟩
          repeat walk_at "ev1"
          exact law_body w z _ ha _ _ _ _ _ _ _ _ _
    · rintro τ ω ⟨c2, c3, c4, c5, c6, c7, c8, c9, rfl⟩
      exact ⟨_, _, _, _, _, _, _, _, rfl⟩
  by_cases hr0 : r = 0
  · rw [decide_eq_true hr0] at q
    have i1 : un1 intD [.bl true] = some (.int 1) := rfl
    have a1 : addD (.int 3) (.int 1) = some (.int 4) := rfl
    have s1 : sliceD (.lst [.int 12, .int 20, .int 30, .int 60]) none (some 4) = some (.lst [.int 12, .int 20, .int 30, .int 60]) := by kernel_rfl
    have := lp [.int 12, .int 20, .int 30, .int 60] (by simp) ω1
    unfold tau0 at this ⊢
    repeat (first | with_reducible refine Eq.mpr (DL.wp_eqn (e1)) ?_ | with_reducible refine Eq.mpr (DL.wp_ofOs (e1)) ?_ | with_reducible refine Eq.mpr (DL.wp_eqn (q)) ?_ | with_reducible refine Eq.mpr (DL.wp_ofOs (q)) ?_ | with_reducible refine Eq.mpr (DL.wp_eqn (i1)) ?_ | with_reducible refine Eq.mpr (DL.wp_ofOs (i1)) ?_ | with_reducible refine Eq.mpr (DL.wp_eqn (a1)) ?_ | with_reducible refine Eq.mpr (DL.wp_ofOs (a1)) ?_ | with_reducible refine Eq.mpr (DL.wp_eqn (s1)) ?_ | with_reducible refine Eq.mpr (DL.wp_ofOs (s1)) ?_ | walk_at "ev1")
    exact this
  · rw [decide_eq_false hr0] at q
    have i1 : un1 intD [.bl false] = some (.int 0) := rfl
    have a1 : addD (.int 3) (.int 0) = some (.int 3) := rfl
    have s1 : sliceD (.lst [.int 12, .int 20, .int 30, .int 60]) none (some 3) = some (.lst [.int 12, .int 20, .int 30]) := by kernel_rfl
    have := lp [.int 12, .int 20, .int 30] (by simp) ω1
    unfold tau0 at this ⊢
    repeat (first | with_reducible refine Eq.mpr (DL.wp_eqn (e1)) ?_ | with_reducible refine Eq.mpr (DL.wp_ofOs (e1)) ?_ | with_reducible refine Eq.mpr (DL.wp_eqn (q)) ?_ | with_reducible refine Eq.mpr (DL.wp_ofOs (q)) ?_ | with_reducible refine Eq.mpr (DL.wp_eqn (i1)) ?_ | with_reducible refine Eq.mpr (DL.wp_ofOs (i1)) ?_ | with_reducible refine Eq.mpr (DL.wp_eqn (a1)) ?_ | with_reducible refine Eq.mpr (DL.wp_ofOs (a1)) ?_ | with_reducible refine Eq.mpr (DL.wp_eqn (s1)) ?_ | with_reducible refine Eq.mpr (DL.wp_ofOs (s1)) ?_ | walk_at "ev1")
    exact this
theorem law_true : ∀ ns : List Int, ns.length ≤ 63 → ∃ ω', runS B_law tau0 (srcOf ns) = .ok (.bl true) ω' := by
  intro ns _
  obtain ⟨d, ω', e, rfl⟩ := (law_wp ns).ex
  exact ⟨ω', e⟩
end Lk
open PySem PySem.W PyProof.Rows in
set_option maxRecDepth 100000 in
set_option maxHeartbeats 0 in
theorem PySem.Challenge.cw_lumpplans_k18_behind_cuts_holds : PySem.Challenge.rw_lumpplans_k18_behind_cuts.Holds := by
  w_on; o_law; k_head; (case hw => w_witness2)
  k_fill
  refine Lk.walk (l := PySem.Challenge.rw_lumpplans_k18_behind_cuts) rfl rfl rfl (fun w h Y => PySem.W.km_in_of Y) ?F
  case F =>
    intro w mg fa h KX G hmg
    refine' Lk.all_mk Lk.law_true KX G hmg ?yyA ?xxA ?xxL ?xxa ?xxB ?xxT ?xxK ?xxI ?xxS ?xxg ?xxh ?xxd ?xxc ?xxn ?xxt ?xxm ?xxf ?yyI ?yyT ?yyS ?yyV ?zzA ?zzT ?zzL ?zzC ?zzK ?a0 ?l0 ?c0 ?k0 ?a1 ?l1 ?c1 ?k1 ?a2 ?l2 ?c2 ?k2 ?a3 ?l3 ?c3 ?k3 ?a4 ?l4 ?c4 ?k4 ?a5 ?l5 ?c5 ?k5 ?a6 ?l6 ?c6 ?k6 ?a7 ?l7 ?c7 ?k7 ?a8 ?l8 ?c8 ?k8 ?a9 ?l9 ?c9 ?k9 ?a10 ?l10 ?c10 ?k10 ?a11 ?l11 ?c11 ?k11 ?a12 ?l12 ?c12 ?k12 ?a13 ?l13 ?c13 ?k13 ?a14 ?l14 ?c14 ?k14 ?a15 ?l15 ?c15 ?k15 ?a16 ?l16 ?c16 ?k16 ?a17 ?l17 ?c17 ?k17 ?a18 ?l18 ?c18 ?k18 ?a19 ?l19 ?c19 ?k19 ?a20 ?l20 ?c20 ?k20 ?a21 ?l21 ?c21 ?k21 ?a22 ?l22 ?c22 ?k22 ?a23 ?l23 ?c23 ?k23 ?a24 ?l24 ?c24 ?k24 ?a25 ?l25 ?c25 ?k25 ?a26 ?l26 ?c26 ?k26 ?a27 ?l27 ?c27 ?k27 ?a28 ?l28 ?c28 ?k28 ?a29 ?l29 ?c29 ?k29 ?a30 ?l30 ?c30 ?k30 ?a31 ?l31 ?c31 ?k31 ?a32 ?l32 ?c32 ?k32 ?a33 ?l33 ?c33 ?k33 ?a34 ?l34 ?c34 ?k34 ?a35 ?l35 ?c35 ?k35 ?a36 ?l36 ?c36 ?k36 ?a37 ?l37 ?c37 ?k37 ?a38 ?l38 ?c38 ?k38 ?a39 ?l39 ?c39 ?k39 ?a40 ?l40 ?c40 ?k40 ?z_int ?z_isinstance ?z_bool ?z_len ?z_range ?z_min ?z_enumerate ?z_tuple ?z_any ?z_abs ?z_max ?z_dict ?z_all ?z_repr ?z_list ?z_ValueError ?ctE ?ctL ?ctV ?ctN
    (case yyA => k_is)
    (case xxA => k_is)
    (case xxL => k_is)
    (case xxa => k_is)
    (case xxB => k_is)
    (case xxT => k_is)
    (case xxK => k_is)
    (case xxI => k_is)
    (case xxS => k_is)
    (case xxg => k_is)
    (case xxh => k_is)
    (case xxd => k_is)
    (case xxc => k_is)
    (case xxn => k_is)
    (case xxt => k_is)
    (case xxm => k_is)
    (case xxf => k_is)
    (case yyI => k_is)
    (case yyT => k_is)
    (case yyS => k_is)
    (case yyV => k_is)
    (case zzA => k_is)
    (case zzT => k_is)
    (case zzL => k_is)
    (case zzC => k_is)
    (case zzK => k_is)
    (case a0 => k_is)
    (case l0 => k_is)
    (case c0 => k_is)
    (case k0 => k_is)
    (case a1 => k_is)
    (case l1 => k_is)
    (case c1 => k_is)
    (case k1 => k_is)
    (case a2 => k_is)
    (case l2 => k_is)
    (case c2 => k_is)
    (case k2 => k_is)
    (case a3 => k_is)
    (case l3 => k_is)
    (case c3 => k_is)
    (case k3 => k_is)
    (case a4 => k_is)
    (case l4 => k_is)
    (case c4 => k_is)
    (case k4 => k_is)
    (case a5 => k_is)
    (case l5 => k_is)
    (case c5 => k_is)
    (case k5 => k_is)
    (case a6 => k_is)
    (case l6 => k_is)
    (case c6 => k_is)
    (case k6 => k_is)
    (case a7 => k_is)
    (case l7 => k_is)
    (case c7 => k_is)
    (case k7 => k_is)
    (case a8 => k_is)
    (case l8 => k_is)
    (case c8 => k_is)
    (case k8 => k_is)
    (case a9 => k_is)
    (case l9 => k_is)
    (case c9 => k_is)
    (case k9 => k_is)
    (case a10 => k_is)
    (case l10 => k_is)
    (case c10 => k_is)
    (case k10 => k_is)
    (case a11 => k_is)
    (case l11 => k_is)
    (case c11 => k_is)
    (case k11 => k_is)
    (case a12 => k_is)
    (case l12 => k_is)
    (case c12 => k_is)
    (case k12 => k_is)
    (case a13 => k_is)
    (case l13 => k_is)
    (case c13 => k_is)
    (case k13 => k_is)
    (case a14 => k_is)
    (case l14 => k_is)
    (case c14 => k_is)
    (case k14 => k_is)
    (case a15 => k_is)
    (case l15 => k_is)
    (case c15 => k_is)
    (case k15 => k_is)
    (case a16 => k_is)
    (case l16 => k_is)
    (case c16 => k_is)
    (case k16 => k_is)
    (case a17 => k_is)
    (case l17 => k_is)
    (case c17 => k_is)
    (case k17 => k_is)
    (case a18 => k_is)
    (case l18 => k_is)
    (case c18 => k_is)
    (case k18 => k_is)
    (case a19 => k_is)
    (case l19 => k_is)
    (case c19 => k_is)
    (case k19 => k_is)
    (case a20 => k_is)
    (case l20 => k_is)
    (case c20 => k_is)
    (case k20 => k_is)
    (case a21 => k_is)
    (case l21 => k_is)
    (case c21 => k_is)
    (case k21 => k_is)
    (case a22 => k_is)
    (case l22 => k_is)
    (case c22 => k_is)
    (case k22 => k_is)
    (case a23 => k_is)
    (case l23 => k_is)
    (case c23 => k_is)
    (case k23 => k_is)
    (case a24 => k_is)
    (case l24 => k_is)
    (case c24 => k_is)
    (case k24 => k_is)
    (case a25 => k_is)
    (case l25 => k_is)
    (case c25 => k_is)
    (case k25 => k_is)
    (case a26 => k_is)
    (case l26 => k_is)
    (case c26 => k_is)
    (case k26 => k_is)
    (case a27 => k_is)
    (case l27 => k_is)
    (case c27 => k_is)
    (case k27 => k_is)
    (case a28 => k_is)
    (case l28 => k_is)
    (case c28 => k_is)
    (case k28 => k_is)
    (case a29 => k_is)
    (case l29 => k_is)
    (case c29 => k_is)
    (case k29 => k_is)
    (case a30 => k_is)
    (case l30 => k_is)
    (case c30 => k_is)
    (case k30 => k_is)
    (case a31 => k_is)
    (case l31 => k_is)
    (case c31 => k_is)
    (case k31 => k_is)
    (case a32 => k_is)
    (case l32 => k_is)
    (case c32 => k_is)
    (case k32 => k_is)
    (case a33 => k_is)
    (case l33 => k_is)
    (case c33 => k_is)
    (case k33 => k_is)
    (case a34 => k_is)
    (case l34 => k_is)
    (case c34 => k_is)
    (case k34 => k_is)
    (case a35 => k_is)
    (case l35 => k_is)
    (case c35 => k_is)
    (case k35 => k_is)
    (case a36 => k_is)
    (case l36 => k_is)
    (case c36 => k_is)
    (case k36 => k_is)
    (case a37 => k_is)
    (case l37 => k_is)
    (case c37 => k_is)
    (case k37 => k_is)
    (case a38 => k_is)
    (case l38 => k_is)
    (case c38 => k_is)
    (case k38 => k_is)
    (case a39 => k_is)
    (case l39 => k_is)
    (case c39 => k_is)
    (case k39 => k_is)
    (case a40 => k_is)
    (case l40 => k_is)
    (case c40 => k_is)
    (case k40 => k_is)
    (case z_int => k_is)
    (case z_isinstance => k_is)
    (case z_bool => k_is)
    (case z_len => k_is)
    (case z_range => k_is)
    (case z_min => k_is)
    (case z_enumerate => k_is)
    (case z_tuple => k_is)
    (case z_any => k_is)
    (case z_abs => k_is)
    (case z_max => k_is)
    (case z_dict => k_is)
    (case z_all => k_is)
    (case z_repr => k_is)
    (case z_list => k_is)
    (case z_ValueError => k_is)
    (case ctE => exact rfl)
    (case ctL => k_is)
    (case ctV => exact rfl)
    (case ctN => kernel_rfl)
