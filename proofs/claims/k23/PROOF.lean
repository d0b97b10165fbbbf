import PyProof.Rows.All
import Wide.All
import OpenK.AllK
import Wide.FinOn
import HandS.ForMost
import HandS.Wide
import HandS.TupAny
import HandS.TupMul
import HandS.Exc
import HandS.TryOnly
import HandS.WordsExc
import HandS.IsInst
import HandS.Conv
import HandS.Style
import HandS.EndBits
import HandS.Ends
import PyProof.ReprRoads
import HandS.RaiseMore
import HandS.Deep
import KE.GoesEnum
import KE.GoesMore
import HandS.SortInts
import HandS.WideBits
import HandS.WideMore
import HandS.NoneIn
import HandS.SetKeys
import HandS.Defaults
import HandS.OwnEq
import PyProof.InstNe
import HandS.ExcOwn
import PyProof.NeKinds
import HandS.ListEq
import HandS.Flow
import HandS.Lambda
import KE.KNest
import HandS.MakeKwOnly
import PyProof.LongRange
import HandS.Iter
import HandS.SortRule
import HandS.TupLen
import KE.KDictPairs
import KE.SortKeyHeap
import HandS.ExcInit
import HandS.ExcField
import HandS.ExcIs
import KE.KExcIs
import PySem.Challenge.RW_lumpplans_k23_all_lumps_listed
set_option Elab.async false
set_option linter.all false
set_option maxRecDepth 100000
set_option maxHeartbeats 4000000
namespace DL
open PySem PySem.Spec PyProof.Rows L2
/-- data: what a value stands for, tuples and finished lists by their items -/
inductive D where
  | non
  | bl (b : Bool)
  | int (i : Int)
  | str (x : Str)
  | tup (ds : List D)
  | lst (ds : List D)
  | dic (ks : List Key) (ds : List D)
  | dit (ks : List (List Key)) (ds : List D)
  | ins (fs : List Str) (ds : List D)
section
variable (K : PySem.W.Frag) (im : Addr → Bool)
/-- a list that is not changed any more -/
def SqZ (H : Hp) (a : Addr) (xs : List V) : Prop := ∃ o, H a = some (.frz o (.lst xs))
/-- a tuple that the program made -/
def SqH (_ : PySem.W.Frag) (H : Hp) (a : Addr) (xs : List V) : Prop := H a = some (.tup xs)
mutual
inductive Rep (H : Hp) : V → D → Prop
  | non : Rep H .non .non
  | bl (b : Bool) : Rep H (.bl b) (.bl b)
  | int (i : Int) : Rep H (.int i) (.int i)
  | str (x : Str) : Rep H (.str x) (.str x)
  | tup {a : Addr} {vs : List V} {ds : List D} : SqH K H a vs → RepL H vs ds → Rep H (.ref a) (.tup ds)
  | lst {a : Addr} {vs : List V} {ds : List D} : SqZ H a vs → RepL H vs ds → Rep H (.ref a) (.lst ds)
  | dic {a : Addr} {o : Obj} {ks : List Key} {vs : List V} {ds : List D} : H a = some (.frz o (.dK (ks.zip vs))) → ks.length = vs.length → RepL H vs ds → Rep H (.ref a) (.dic ks ds)
  | dit {a : Addr} {o : Obj} {ks : List (List Key)} {vs : List V} {ds : List D} : H a = some (.frz o (.dT (ks.zip vs))) → ks.length = vs.length → RepL H vs ds → Rep H (.ref a) (.dit ks ds)
  | ins {a C dx : Addr} {fs : List Str} {vs : List V} {ds : List D} : im C = true → 2 ≤ fs.length → H a = some (.ins C dx (fs.zip vs)) → fs.length = vs.length → RepL H vs ds → Rep H (.ref a) (.ins fs ds)
inductive RepL (H : Hp) : List V → List D → Prop
  | nil : RepL H [] []
  | cons {v : V} {vs : List V} {d : D} {ds : List D} : Rep H v d → RepL H vs ds → RepL H (v :: vs) (d :: ds)
end
/-- what stays for ever -/
def stb : HO → Prop
  | .tup _ => True
  | .frz _ _ => True
  | .ext _ => True
  | .ins C _ kvs => im C = true ∧ 2 ≤ kvs.length
  | _ => False
def Sb (H H' : Hp) : Prop := ∀ b o, H b = some o → stb im o → H' b = some o
end
section
variable {K : PySem.W.Frag} {im : Addr → Bool} {H H' H1 H2 : Hp}
theorem Sb.refl : Sb im H H := fun _ _ e _ => e
theorem Sb.trans (a : Sb im H H1) (b : Sb im H1 H2) : Sb im H H2 := fun c o e s => b c o (a c o e s) s
theorem Sb.of (a : Same H H1) : Sb im H H1 := fun c o e _ => a c o e
theorem Sb.sqT {a : Addr} {xs : List V} (s : Sb im H H') (h : SqT K H a xs) : SqT K H' a xs := by
  rcases h with (h | ⟨o, h⟩) | h
  · exact .inl (.inl (s _ _ h trivial))
  · exact .inl (.inr ⟨o, s _ _ h trivial⟩)
  · exact .inr h
theorem Sb.sqZ {a : Addr} {xs : List V} (s : Sb im H H') (h : SqZ H a xs) : SqZ H' a xs := by
  obtain ⟨o, h⟩ := h
  exact ⟨o, s _ _ h trivial⟩
theorem SqH.q {a : Addr} {xs : List V} (h : SqH K H a xs) : SqT K H a xs := .inl (.inl h)
instance {a : Addr} {xs : List V} : Coe (SqH K H a xs) (SqT K H a xs) := ⟨SqH.q⟩
theorem Sb.sqH {a : Addr} {xs : List V} (s : Sb im H H') (h : SqH K H a xs) : SqH K H' a xs := s _ _ h trivial
theorem SqZ.l {a : Addr} {xs : List V} (h : SqZ H a xs) : SqL K H a xs := .inl (.inr h)
mutual
theorem Rep.mono (s : Sb im H H') : ∀ (d : D) (v : V), Rep K im H v d → Rep K im H' v d
  | .non, _, h => by cases h; exact .non
  | .bl _, _, h => by cases h; exact .bl _
  | .int _, _, h => by cases h; exact .int _
  | .str _, _, h => by cases h; exact .str _
  | .tup ds, _, h => by
    cases h with
    | tup h1 h2 => exact .tup (s.sqH h1) (RepL.mono s ds _ h2)
  | .lst ds, _, h => by
    cases h with
    | lst h1 h2 => exact .lst (s.sqZ h1) (RepL.mono s ds _ h2)
  | .dic ks ds, _, h => by
    cases h with
    | dic h1 h2 h3 => exact .dic (s _ _ h1 trivial) h2 (RepL.mono s ds _ h3)
  | .dit ks ds, _, h => by
    cases h with
    | dit h1 h2 h3 => exact .dit (s _ _ h1 trivial) h2 (RepL.mono s ds _ h3)
  | .ins fs ds, _, h => by
    cases h with
    | ins h0 h01 h1 h2 h3 => exact .ins h0 h01 (s _ _ h1 ⟨h0, by rw [List.length_zip, ← h2, Nat.min_self]; exact h01⟩) h2 (RepL.mono s ds _ h3)
theorem RepL.mono (s : Sb im H H') : ∀ (ds : List D) (vs : List V), RepL K im H vs ds → RepL K im H' vs ds
  | [], _, h => by cases h; exact .nil
  | d :: ds, _, h => by
    cases h with
    | cons h1 h2 => exact .cons (Rep.mono s d _ h1) (RepL.mono s ds _ h2)
end
theorem Rep.up {d : D} {v : V} (h : Rep K im H v d) (s : Sb im H H') : Rep K im H' v d := Rep.mono s d v h
theorem RepL.up {ds : List D} {vs : List V} (h : RepL K im H vs ds) (s : Sb im H H') : RepL K im H' vs ds := RepL.mono s ds vs h
theorem RepL.length : ∀ {ds : List D} {vs : List V}, RepL K im H vs ds → vs.length = ds.length
  | [], _, h => by cases h; rfl
  | _ :: ds, _, h => by
    cases h with
    | cons _ h2 => simp [RepL.length h2]
theorem RepL.get : ∀ {ds : List D} {vs : List V} {i : Nat} {d : D}, RepL K im H vs ds → ds[i]? = some d → ∃ v, vs[i]? = some v ∧ Rep K im H v d
  | [], _, _, _, h, e => by simp at e
  | _ :: ds, _, 0, d, h, e => by
    cases h with
    | cons h1 _ => simp at e; subst e; exact ⟨_, rfl, h1⟩
  | _ :: ds, _, i + 1, d, h, e => by
    cases h with
    | cons _ h2 =>
      obtain ⟨v, e1, r⟩ := RepL.get (i := i) h2 (by simpa using e)
      exact ⟨v, by simpa using e1, r⟩
theorem RepL.append : ∀ {ds es : List D} {vs ws : List V}, RepL K im H vs ds → RepL K im H ws es → RepL K im H (vs ++ ws) (ds ++ es)
  | [], _, _, _, h, k => by cases h; exact k
  | _ :: _, _, _, _, h, k => by
    cases h with
    | cons h1 h2 => exact .cons h1 (RepL.append h2 k)
theorem RepL.take : ∀ {ds : List D} {vs : List V} (n : Nat), RepL K im H vs ds → RepL K im H (vs.take n) (ds.take n)
  | _, _, 0, _ => by simp; exact .nil
  | [], _, n + 1, h => by cases h; simp; exact .nil
  | _ :: _, _, n + 1, h => by
    cases h with
    | cons h1 h2 => exact .cons h1 (RepL.take n h2)
theorem RepL.drop : ∀ {ds : List D} {vs : List V} (n : Nat), RepL K im H vs ds → RepL K im H (vs.drop n) (ds.drop n)
  | _, _, 0, h => h
  | [], _, n + 1, h => by cases h; simp; exact .nil
  | _ :: _, _, n + 1, h => by
    cases h with
    | cons h1 h2 => exact RepL.drop n h2
theorem RepL.reverse {ds : List D} {vs : List V} (h : RepL K im H vs ds) : RepL K im H vs.reverse ds.reverse := by
  induction ds generalizing vs with
  | nil => cases h; exact .nil
  | cons d ds ih =>
    cases h with
    | cons h1 h2 =>
      rw [List.reverse_cons, List.reverse_cons]
      exact RepL.append (ih h2) (.cons h1 .nil)
theorem RepL.rep {ds : List D} {vs : List V} (h : RepL K im H vs ds) : ∀ k : Nat, RepL K im H (List.replicate k vs).flatten (List.replicate k ds).flatten
  | 0 => .nil
  | k + 1 => by
    rw [List.replicate_succ, List.replicate_succ, List.flatten_cons, List.flatten_cons]
    exact RepL.append h (RepL.rep h k)
theorem RepL.one {v : V} {d : D} (h : Rep K im H v d) : RepL K im H [v] [d] := .cons h .nil
theorem RepL.dropLast {ds : List D} {vs : List V} (h : RepL K im H vs ds) : RepL K im H vs.dropLast ds.dropLast := by
  rw [List.dropLast_eq_take, List.dropLast_eq_take, h.length]
  exact h.take _
end
section
variable {X : Cx} {pins : List (Addr × Obj)} {σ : L2.St} {H : Hp} {s : Shared} {a : Addr} {xs : List V}
theorem Inv.freeze (I : Inv X pins σ H s) (h : H a = some (.lst xs)) : ∃ o, Inv X pins σ (upd H a (.frz o (.lst xs))) s := by
  obtain ⟨z, its, n, r, e⟩ := I.hok a _ h
  have ha : ∀ b, H b = none → b ≠ a := fun b hb q => by rw [q, h] at hb; cases hb
  have hne : ∀ b u, H b = some u → u ≠ .lst xs → b ≠ a := fun b u hb hu q => by rw [q, h] at hb; exact hu (Option.some.inj hb).symm
  refine ⟨{ cls := .type "list", data := .seq its.toArray n }, ⟨I.ok, I.os, I.bare, ⟨I.base.keep, I.base.slot, fun b ob q n hx => ?_, I.base.there, fun b ys q => ?_, fun b ob u q => ?_, fun b ps q => ?_⟩, I.loc, I.cell, ?_, fun x c q => ?_, fun p hp => ?_, fun b u q => ?_, I.len⟩⟩
  · have k := I.base.free b ob q n hx
    rw [upd_ne (ha b k)]; exact k
  · have k := I.base.tups b ys q
    rw [upd_ne (hne b _ k (by intro z; cases z))]; exact k
  · have k := I.base.frzs b ob u q
    rw [upd_ne (hne b _ k (by intro z; cases z))]; exact k
  · obtain ⟨m, k⟩ := I.base.tbls b ps q
    exact ⟨m, by rw [upd_ne (hne b _ k (by intro z; cases z))]; exact k⟩
  · rw [upd_ne (ha _ I.free)]; exact I.free
  · have k := I.freeC x c q
    rw [upd_ne (ha _ k)]; exact k
  · obtain ⟨p1, p2, p3⟩ := I.pin p hp
    exact ⟨p1, by rw [upd_ne (ha _ p2)]; exact p2, p3⟩
  · have own : ∀ c y, H c = some (.own y) → upd H a (.frz { cls := .type "list", data := .seq its.toArray n } (.lst xs)) c = some (.own y) := fun c y k => by
      rw [upd_ne (hne c _ k (by intro z; cases z))]; exact k
    have tup : ∀ c ys, H c = some (.tup ys) → upd H a (.frz { cls := .type "list", data := .seq its.toArray n } (.lst xs)) c = some (.tup ys) := fun c ys k => by
      rw [upd_ne (hne c _ k (by intro z; cases z))]; exact k
    by_cases hb : b = a
    · subst hb
      rw [upd_same] at q
      cases q
      exact ⟨e, z, its, n, r, e⟩
    · rw [upd_ne hb] at q
      exact (I.hok b u q).stay (fun _ _ _ k => k) (fun c k => own c b k) tup
/-- what e gives, a new list, finished -/
def tFrz (te : TE) : TE := fun σ H Q => te σ H fun v H1 => ∃ a xs, v = .ref a ∧ H1 a = some (.lst xs) ∧ ∀ o, Q (.ref a) (upd H1 a (.frz o (.lst xs)))
theorem EP.freeze {Q : VK} {u : Value} {s' : Shared} (h : EP X pins σ (fun v H1 => ∃ a xs, v = .ref a ∧ H1 a = some (.lst xs) ∧ ∀ o, Q (.ref a) (upd H1 a (.frz o (.lst xs)))) u s') : EP X pins σ Q u s' := by
  obtain ⟨v, H1, I, r, a, xs, rfl, ha, q⟩ := h
  obtain ⟨o, J⟩ := Inv.freeze I ha
  exact ⟨_, _, J, r, q o⟩
theorem pe_frz {e : Expr} {te : TE} (h : PE X e te) : PE X e (tFrz te) :=
  ⟨fun pins s σ H Q I q => thn (h.run pins s σ H _ I q) fun _ _ h => EP.freeze h⟩
end
end DL
namespace DL
open PySem PySem.Spec PyProof.Rows L2
theorem tuple_mul1 (l : Addr) (items : Array Value) (n : Nat) (dd : Option Addr) (sl : Array (Option Value)) (u : Tok) :
    Meets (Builtin.«tuple.__mul__» ⟨[.ref l, .int 1 u], []⟩) (fun _ R s => s.heap.get? l = some { cls := .type "tuple", dict := dd, data := .seq items n, slots := sl } ∧ R (.ok (.ret (.ref l))) s) :=
  .of_wp fun prog w A R s h => by
    obtain ⟨hp, g, d, tk, os⟩ := s
    obtain ⟨hl, h⟩ := h
    have f1 := AutoSeq1.idx_int
    wp_walk using wpAny_loadPart' hl
    have c1 : (items.isEmpty || (1 : Int) == 1) = true := by rw [Bool.or_eq_true]; exact .inr (by decide)
    repeat (first
      | (refine wpAny_ite_false (by decide) ?_; wp_walk using wpAny_loadPart' hl)
      | (refine wpAny_ite_true c1 ?_; wp_walk using wpAny_loadPart' hl)
      | (refine wpAny_ite_true (decide_eq_true c1) ?_; wp_walk using wpAny_loadPart' hl))
    exact ⟨_, rfl, h⟩
theorem tuple_mul0 (l : Addr) (items : Array Value) (n : Nat) (dd : Option Addr) (sl : Array (Option Value)) (x : Int) (u : Tok) (hx : x ≤ 0) (h0 : -(2 ^ 63) ≤ x) (hi : items.isEmpty = false) :
    Meets (Builtin.«tuple.__mul__» ⟨[.ref l, .int x u], []⟩) (fun _ R s => s.heap.get? l = some { cls := .type "tuple", dict := dd, data := .seq items n, slots := sl } ∧ R (.ok (.ret (.ref s.heap.objs.size))) { s with heap := s.heap.push { cls := Value.type "tuple", data := Data.seq #[] }, toks := s.toks }) :=
  .of_wp fun prog w A R s h => by
    obtain ⟨hp, g, d, tk, os⟩ := s
    obtain ⟨hl, h⟩ := h
    have f1 := AutoSeq1.idx_int
    have c0 : (decide (x < -(2 ^ 63)) || decide (x ≥ 2 ^ 63)) = false := by
      rw [decide_eq_false (by omega), decide_eq_false (by omega)] <;> rfl
    have c1 : (items.isEmpty || x == 1) = false := by
      rw [hi, Bool.false_or]
      exact beq_eq_false_iff_ne.mpr (by omega)
    have c2 : (decide (x ≤ 0) || items.isEmpty) = true := by
      rw [decide_eq_true hx]; rfl
    wp_walk using wpAny_loadPart' hl
    repeat (first
      | (refine wpAny_ite_false (decide_eq_false (by rw [c0]; exact Bool.false_ne_true)) ?_; wp_walk using wpAny_loadPart' hl)
      | (refine wpAny_ite_false (decide_eq_false (by rw [c1]; exact Bool.false_ne_true)) ?_; wp_walk using wpAny_loadPart' hl)
      | (refine wpAny_ite_true (decide_eq_true c2) ?_; wp_walk using wpAny_loadPart' hl))
    exact ⟨_, rfl, h⟩
def rRepT01 (K : PySem.W.Frag) : R2 := fun x y H Q => ∃ l k xs, x = .ref l ∧ y = .int k ∧ SqT K H l xs ∧ xs ≠ [] ∧ ((k = 1 ∧ Q (.ref l) H) ∨ (-(2 ^ 63) ≤ k ∧ k ≤ 0 ∧ ∀ p, H p = none → Q (.ref p) (upd H p (.tup []))))
section
variable {X : Cx}
theorem op_repT01 : OpR X (binaryOp .Mult) (rRepT01 X.K) := by
  intro pins s σ H x y v u Q I rx ry h
  obtain ⟨l, k, xs, rfl, rfl, hT, hne, q⟩ := h
  cases rx
  obtain ⟨t, rfl⟩ := ry
  obtain ⟨its, r, ⟨⟨cls, dd, data, sl⟩, ho, hc, n, hd⟩, hs⟩ := I.tuple hT
  simp only at hc hd
  subst hc hd
  have hle : its.length = xs.length := r.length.symm
  have hn : its ≠ [] := fun e => hne (by
    rw [e] at hle
    exact List.eq_nil_of_length_eq_zero hle.symm)
  have hi : its.toArray.isEmpty = false := by
    cases its with
    | nil => exact absurd rfl hn
    | cons a b => rfl
  rcases q with ⟨rfl, q⟩ | ⟨h0, h1, q⟩
  · refine wpAny_binaryOp_repeat_ref (T := "tuple") (U := "int") (by decide) ⟨_, ho, rfl⟩ (fun s' => typeIs_int s' 1 t) noFill_tuple_mul F.fills_int_mul F.slot_int_rmul repeat_tuple F.slot_int_index.lookup
      (call_meets F.slot_int_rmul (typeIs_int s 1 t) F.entry_int_rmul (F.args_int_rmul_2 _ _) (int_rmul_tuple 1 t l its.toArray n dd sl)
        ⟨ho, rfl, ⟨_, ho, rfl⟩, call_meets F.slot_tuple_mul ⟨_, ho, rfl⟩ F.entry_tuple_mul (F.args_tuple_mul_2 _ _) (tuple_mul1 l its.toArray n dd sl t) ⟨ho, ?_⟩⟩)
    exact ⟨.ref l, H, I, rfl, q⟩
  · refine wpAny_binaryOp_repeat_ref (T := "tuple") (U := "int") (by decide) ⟨_, ho, rfl⟩ (fun s' => typeIs_int s' k t) noFill_tuple_mul F.fills_int_mul F.slot_int_rmul repeat_tuple F.slot_int_index.lookup
      (call_meets F.slot_int_rmul (typeIs_int s k t) F.entry_int_rmul (F.args_int_rmul_2 _ _) (int_rmul_tuple k t l its.toArray n dd sl)
        ⟨ho, rfl, ⟨_, ho, rfl⟩, call_meets F.slot_tuple_mul ⟨_, ho, rfl⟩ F.entry_tuple_mul (F.args_tuple_mul_2 _ _) (tuple_mul0 l its.toArray n dd sl k t h1 h0 hi) ⟨ho, ?_⟩⟩)
    refine ⟨.ref s.heap.objs.size, _, I.laid (t' := s.toks) (o := .tup []) (fun b ob q => Heap.get?_push_of_some _ q) (Nat.le_refl _) ?_, rfl, q _ (I.hok.fresh (Nat.le_refl _))⟩
    exact ⟨by show 0 ≤ sizeLine; exact Nat.zero_le _, [], .nil, IsTup.new _ _⟩
end
mutual
def D.py : D → Option PyData
  | .non => some .none
  | .bl b => some (.bool b)
  | .int i => some (.int i)
  | .str x => some (.str x)
  | .tup ds => (D.pyL ds).map .tuple
  | .lst ds => (D.pyL ds).map .list
  | .dic _ _ => none
  | .dit _ _ => none
  | .ins _ _ => none
def D.pyL : List D → Option (List PyData)
  | [] => some []
  | d :: r => match D.py d, D.pyL r with
    | some x, some y => some (x :: y)
    | _, _ => none
end
section
variable {K : PySem.W.Frag} {im : Addr → Bool} {H : Hp}
mutual
theorem Rep.dp : ∀ (d : D) (v : V) (p : PyData), Rep K im H v d → d.py = some p → Dp K H v p
  | .non, _, _, h, e => by cases h; simp [D.py] at e; subst e; exact .non
  | .bl b, _, _, h, e => by cases h; simp [D.py] at e; subst e; exact .bl b
  | .int b, _, _, h, e => by cases h; simp [D.py] at e; subst e; exact .int b
  | .str b, _, _, h, e => by cases h; simp [D.py] at e; subst e; exact .str b
  | .tup ds, _, _, h, e => by
    cases h with
    | tup h1 h2 =>
      cases q : D.pyL ds with
      | none => simp [D.py, q] at e
      | some ps =>
        simp [D.py, q] at e
        subst e
        exact .tup h1 (RepL.dp ds _ ps h2 q)
  | .lst ds, _, _, h, e => by
    cases h with
    | lst h1 h2 =>
      cases q : D.pyL ds with
      | none => simp [D.py, q] at e
      | some ps =>
        simp [D.py, q] at e
        subst e
        exact .lst h1.l (RepL.dp ds _ ps h2 q)
  | .dic _ _, _, _, _, e => by simp [D.py] at e
  | .dit _ _, _, _, _, e => by simp [D.py] at e
  | .ins _ _, _, _, _, e => by simp [D.py] at e
theorem RepL.dp : ∀ (ds : List D) (vs : List V) (ps : List PyData), RepL K im H vs ds → D.pyL ds = some ps → DpAll K H vs ps
  | [], _, _, h, e => by cases h; simp [D.pyL] at e; subst e; exact .nil
  | d :: ds, _, _, h, e => by
    cases h with
    | cons h1 h2 =>
      cases q1 : D.py d with
      | none => simp [D.pyL, q1] at e
      | some p =>
        cases q2 : D.pyL ds with
        | none => simp [D.pyL, q1, q2] at e
        | some ps =>
          simp [D.pyL, q1, q2] at e
          subst e
          exact .cons (Rep.dp d _ p h1 q1) (RepL.dp ds _ ps h2 q2)
end
end
def eqB (d e : D) : Option Bool := match d.py, e.py with
  | some p, some q => if p.canLay0 = true ∧ q.canLay0 = true ∧ min p.depth q.depth ≤ 150 then some (PyData.eqv p q) else none
  | _, _ => none
def eqD (d e : D) : Option D := (eqB d e).map .bl
def neD (d e : D) : Option D := (eqB d e).map fun b => .bl (!b)
def addD : D → D → Option D
  | .int i, .int j => some (.int (i + j))
  | .str x, .str y => if x.length + y.length ≤ sizeLine then some (.str (x ++ y)) else none
  | .tup xs, .tup ys => if xs.length + ys.length ≤ sizeLine then some (.tup (xs ++ ys)) else none
  | .lst xs, .lst ys => if xs.length + ys.length ≤ sizeLine then some (.lst (xs ++ ys)) else none
  | _, _ => none
def subD : D → D → Option D
  | .int i, .int j => some (.int (i - j))
  | _, _ => none
instance {i j : Int} : Decidable (CMul i j) := by unfold CMul; infer_instance
instance {i j : Int} : Decidable (CMulW i j) := by unfold CMulW; infer_instance
def mulD : D → D → Option D
  | .int i, .int j => if CMul i j ∨ CMulW i j then some (.int (i * j)) else none
  | .lst xs, .int k => if -(2 ^ 63) ≤ k ∧ k < 2 ^ 63 ∧ xs.length * k.toNat ≤ sizeLine then some (.lst (List.replicate k.toNat xs).flatten) else none
  | .tup xs, .int k => if xs ≠ [] ∧ 2 ≤ k ∧ k ≤ 1000 ∧ xs.length ≤ 1000 then some (.tup (List.replicate k.toNat xs).flatten) else if xs ≠ [] ∧ k = 1 then some (.tup xs) else if xs ≠ [] ∧ -(2 ^ 63) ≤ k ∧ k ≤ 0 then some (.tup []) else none
  | _, _ => none
instance {i j : Int} : Decidable (CDivW i j) := by unfold CDivW; infer_instance
def fdivD : D → D → Option D
  | .int i, .int j => if CDivW i j then some (.int (i / j)) else none
  | _, _ => none
def modD : D → D → Option D
  | .int i, .int j => if 0 < j then some (.int (i % j)) else none
  | _, _ => none
def cmpD (f : Int → Int → Bool) : D → D → Option D
  | .int i, .int j => some (.bl (f i j))
  | _, _ => none
def ltD : D → D → Option D := cmpD fun i j => decide (i < j)
def gtD : D → D → Option D := cmpD fun i j => decide (j < i)
def notND : D → D → Option D
  | .non, .non => some (.bl false)
  | _, .non => some (.bl true)
  | .bl a, .bl b => some (.bl (!decide (a = b)))
  | _, _ => none
def ixD : D → D → Option D
  | .tup xs, .int i => atI xs i
  | .lst xs, .int i => atI xs i
  | .str z, .int i => if z.length ≤ sizeLine then (atI z.cps.toList i).map fun c => .str ⟨#[c]⟩ else none
  | _, _ => none
def negD : D → Option D
  | .int i => some (.int (-i))
  | _ => none
def cutL {α : Type} (xs : List α) (lo hi : Option Int) : List α := (xs.drop (HT.sIx xs.length 0 lo)).take (HT.sIx xs.length xs.length hi - HT.sIx xs.length 0 lo)
def sliceD : D → Option Int → Option Int → Option D
  | .tup xs, lo, hi => some (.tup (cutL xs lo hi))
  | .lst xs, lo, hi => some (.lst (cutL xs lo hi))
  | _, _, _ => none
def lenD : D → Option D
  | .tup xs => some (.int xs.length)
  | .lst xs => some (.int xs.length)
  | .str z => if z.length ≤ sizeLine then some (.int z.length) else none
  | _ => none
def tupleD : D → Option D
  | .tup xs => some (.tup xs)
  | .lst xs => some (.tup xs)
  | _ => none
def intD : D → Option D
  | .int i => some (.int i)
  | .bl k => some (.int (if k then 1 else 0))
  | _ => none
def max2D : D → D → Option D
  | .int i, .int j => some (.int (if j > i then j else i))
  | _, _ => none
def min2D : D → D → Option D
  | .int i, .int j => some (.int (if j < i then j else i))
  | _, _ => none
section
variable (K : PySem.W.Frag) (im : Addr → Bool)
/-- what a rule asks of data -/
def rD1 (f : D → Option D) : V → Hp → VK → Prop := fun x H Q => ∃ d z, Rep K im H x d ∧ f d = some z ∧ ∀ v H', Same H H' → Rep K im H' v z → Q v H'
def rD2 (f : D → D → Option D) : R2 := fun x y H Q => ∃ d e z, Rep K im H x d ∧ Rep K im H y e ∧ f d e = some z ∧ ∀ v H', Same H H' → Rep K im H' v z → Q v H'
def rDN (f : List D → Option D) : List V → Hp → VK → Prop := fun xs H Q => ∃ ds z, RepL K im H xs ds ∧ f ds = some z ∧ ∀ v H', Same H H' → Rep K im H' v z → Q v H'
end
section
variable {X : Cx} {im : Addr → Bool} {pins : List (Addr × Obj)} {σ : L2.St} {H : Hp} {s : Shared}
theorem Same.new {H : Hp} {p : Addr} {o : HO} (h : H p = none) : Same H (upd H p o) := fun a u e => by
  rw [upd_ne (ne_of_none e h)]
  exact e
theorem EP.newL {p : Addr} {zs : List V} {ds : List D} {Q : VK} {s' : Shared} (hp : H p = none) (I : Inv X pins σ (upd H p (.lst zs)) s') (r : RepL X.K im H zs ds)
    (q : ∀ v H', Same H H' → Rep X.K im H' v (.lst ds) → Q v H') : EP X pins σ Q (.ref p) s' := by
  obtain ⟨o, J⟩ := Inv.freeze I upd_same
  rw [upd_upd] at J
  have sm : Same H (upd H p (.frz o (.lst zs))) := Same.new hp
  exact ⟨.ref p, _, J, rfl, q _ _ sm (.lst ⟨o, upd_same⟩ (r.up (.of sm)))⟩
theorem newT_ {p : Addr} {zs : List V} {ds : List D} {Q : VK} (hp : H p = none) (r : RepL X.K im H zs ds)
    (q : ∀ v H', Same H H' → Rep X.K im H' v (.tup ds) → Q v H') : Q (.ref p) (upd H p (.tup zs)) := by
  have sm : Same H (upd H p (.tup zs)) := Same.new hp
  exact q _ _ sm (.tup upd_same (r.up (.of sm)))
theorem Inv.zlst {l : Addr} {xs : List V} (I : Inv X pins σ H s) (h : SqZ H l xs) : xs.length ≤ sizeLine ∧ ∃ (its : List Value) (n : Nat), Vals xs its ∧ xs.length = its.length ∧ s.heap.get? l = some { cls := .type "list", data := .seq its.toArray n } := by
  obtain ⟨o, h⟩ := h
  obtain ⟨_, z, its, n, r, e⟩ := I.hok l _ h
  exact ⟨z, its, n, r, r.length, e⟩
theorem atI_len {α β : Type} {xs : List α} {ys : List β} {i : Int} {d : α} (hl : ys.length = xs.length) (h : atI xs i = some d) : ∃ j : Nat, atI ys i = ys[j]? ∧ xs[j]? = some d := by
  unfold atI at h ⊢
  rw [hl]
  cases e : ixN xs.length i with
  | none => rw [e] at h; cases h
  | some j => rw [e] at h; exact ⟨j, rfl, h⟩
theorem RepL.at {ds : List D} {vs : List V} {i : Int} {d : D} {K : PySem.W.Frag} (h : RepL K im H vs ds) (e : atI ds i = some d) : ∃ v, atI vs i = some v ∧ Rep K im H v d := by
  obtain ⟨j, e1, e2⟩ := atI_len h.length e
  obtain ⟨v, e3, r⟩ := h.get e2
  exact ⟨v, by rw [e1, e3], r⟩
theorem RepL.cut {ds : List D} {vs : List V} {K : PySem.W.Frag} (h : RepL K im H vs ds) (lo hi : Option Int) : RepL K im H (cutL vs lo hi) (cutL ds lo hi) := by
  unfold cutL
  rw [h.length]
  exact (h.drop _).take _
theorem op_addD : OpR X (binaryOp .Add) (rD2 X.K im addD) := by
  intro pins s σ H x y v u Q I rx ry h
  obtain ⟨d, e, z, hd, he, hz, q⟩ := h
  cases hd with
  | int i =>
    cases he with
    | int j =>
      simp [addD] at hz; subst hz
      exact op_add pins s σ H _ _ v u Q I rx ry ⟨i, j, rfl, rfl, q _ _ (Same.refl _) (.int _)⟩
    | _ => simp [addD] at hz
  | str i =>
    cases he with
    | str j =>
      simp [addD] at hz
      obtain ⟨hl, rfl⟩ := hz
      exact op_add_str pins s σ H _ _ v u Q I rx ry ⟨i, j, rfl, rfl, hl, q _ _ (Same.refl _) (.str _)⟩
    | _ => simp [addD] at hz
  | @tup a vs ds h1 h2 =>
    cases he with
    | @tup b ws es h3 h4 =>
      simp [addD] at hz
      obtain ⟨hl, rfl⟩ := hz
      have l1 := h2.length
      have l2 := h4.length
      refine op_catA pins s σ H _ _ v u Q I rx ry ⟨a, b, vs, ws, rfl, rfl, h1, h3, by omega, fun e => ?_, fun e e' => ?_, fun _ _ p hp => newT_ hp (h2.append h4) q⟩
      · subst e
        cases h2
        exact q _ _ (Same.refl _) (.tup h3 h4)
      · subst e'
        cases h4
        rw [List.append_nil] at q
        exact q _ _ (Same.refl _) (.tup h1 h2)
    | _ => simp [addD] at hz
  | @lst a vs ds h1 h2 =>
    cases he with
    | @lst b ws es h3 h4 =>
      simp [addD] at hz
      obtain ⟨hl, rfl⟩ := hz
      have l1 := h2.length
      have l2 := h4.length
      cases rx
      cases ry
      obtain ⟨z, its, n, r, hl1, e⟩ := Inv.zlst I h1
      obtain ⟨z2, its2, n2, r2, hl2, e2⟩ := Inv.zlst I h3
      have room : its.toArray.size + its2.toArray.size ≤ sizeLine := by simp only [List.size_toArray]; omega
      have joined : its.toArray ++ its2.toArray = List.toArray (its ++ its2) := List.append_toArray its its2
      refine PySem.P.add_list e e2 (?_ : _) room
      rw [joined]
      exact EP.newL (Inv.fresh I) (Inv.lnew (t' := s.toks) I (r.append r2) (by rw [List.length_append]; omega)) (h2.append h4) q
    | _ => simp [addD] at hz
  | _ => simp [addD] at hz
theorem op_subD : OpR X (binaryOp .Sub) (rD2 X.K im subD) := by
  intro pins s σ H x y v u Q I rx ry h
  obtain ⟨d, e, z, hd, he, hz, q⟩ := h
  cases hd <;> cases he <;> simp [subD] at hz
  subst hz
  exact op_sub pins s σ H _ _ v u Q I rx ry ⟨_, _, rfl, rfl, q _ _ (Same.refl _) (.int _)⟩
theorem join_rep (its : List Value) (m : Nat) : List.foldl (fun x1 x2 => x1 ++ x2) #[] (List.replicate (if its.toArray.isEmpty = true then 0 else m) its.toArray) = (List.replicate m its).flatten.toArray := by
  rcases its with _ | ⟨b, r⟩
  · simp
  · simpa using foldl_rep (b :: r) m []
theorem op_mulD : OpR X (binaryOp .Mult) (rD2 X.K im mulD) := by
  intro pins s σ H x y v u Q I rx ry h
  obtain ⟨d, e, z, hd, he, hz, q⟩ := h
  cases hd with
  | int i =>
    cases he with
    | int j =>
      simp only [mulD] at hz
      split at hz
      · rename_i hc
        cases hz
        rcases hc with hc | hc
        · exact op_mul pins s σ H _ _ v u Q I rx ry ⟨i, j, rfl, rfl, hc, q _ _ (Same.refl _) (.int _)⟩
        · exact op_mulW pins s σ H _ _ v u Q I rx ry ⟨i, j, rfl, rfl, hc, q _ _ (Same.refl _) (.int _)⟩
      · cases hz
    | _ => simp [mulD] at hz
  | @tup a vs ds h1 h2 =>
    cases he with
    | int k =>
      simp only [mulD] at hz
      have l1 := h2.length
      have nev : ds ≠ [] → vs ≠ [] := fun c e => c (by subst e; cases h2; rfl)
      split at hz
      · rename_i hc
        cases hz
        obtain ⟨c1, c2, c3, c4⟩ := hc
        exact op_repT pins s σ H _ _ v u Q I rx ry ⟨a, k, vs, rfl, rfl, h1, nev c1, c2, c3, by omega, fun p hp => newT_ hp (h2.rep _) q⟩
      · split at hz
        · rename_i hc
          cases hz
          exact op_repT01 pins s σ H _ _ v u Q I rx ry ⟨a, k, vs, rfl, rfl, h1, nev hc.1, .inl ⟨hc.2, q _ _ (Same.refl _) (.tup h1 h2)⟩⟩
        · split at hz
          · rename_i hc
            cases hz
            exact op_repT01 pins s σ H _ _ v u Q I rx ry ⟨a, k, vs, rfl, rfl, h1, nev hc.1, .inr ⟨hc.2.1, hc.2.2, fun p hp => newT_ hp .nil q⟩⟩
          · cases hz
    | _ => simp [mulD] at hz
  | @lst a vs ds h1 h2 =>
    cases he with
    | int k =>
      simp only [mulD] at hz
      split at hz
      · rename_i hc
        cases hz
        obtain ⟨c1, c2, c3⟩ := hc
        have l1 := h2.length
        cases rx
        obtain ⟨t, rfl⟩ := ry
        obtain ⟨z, its, n, r, hl, e⟩ := Inv.zlst I h1
        have small : its.toArray.size * k.toNat ≤ sizeLine := by
          simp only [List.size_toArray]
          rw [← hl, l1]
          exact c3
        have below : ¬ (2 ^ 63 - 1) / 8 < its.toArray.size * k.toNat := by
          rw [sizeLine_eq] at small
          omega
        have fits := fitsIndex_both c1 c2
        have short := notLongL small
        refine wpAny_binaryOp_repeat_ref (T := "list") (U := "int") (by decide)
          ⟨_, e, rfl⟩ (fun _ => typeIs_int _ k t) noFill_list_mul F.fills_int_mul
          F.slot_int_rmul repeat_list F.slot_int_index.lookup ?_
        refine call_meets F.slot_int_rmul (typeIs_int s k t) F.entry_int_rmul (F.args_int_rmul_2 _ _)
          (int___rmul___int_list k t a its.toArray n) ⟨e, rfl, ⟨_, e, rfl⟩, ?_⟩
        refine call_meets F.slot_list_mul ⟨_, e, rfl⟩ F.entry_list_mul (F.args_list_mul_2 _ _)
          (AutoListH.list___mul___list_int_3 a its.toArray n k t (by rw [fits]; nofun) below (by rw [short]; nofun)) ⟨e, ?_⟩
        rw [join_rep]
        exact EP.newL (Inv.fresh I) (Inv.lnew (t' := s.toks) I (r.rep k.toNat) (by rw [PyProof.Rows.lm_len_rep_flat, Nat.mul_comm, l1]; exact c3)) (h2.rep _) q
      · cases hz
    | _ => simp [mulD] at hz
  | _ => simp [mulD] at hz
theorem op_fdivD : OpR X (binaryOp .FloorDiv) (rD2 X.K im fdivD) := by
  intro pins s σ H x y v u Q I rx ry h
  obtain ⟨d, e, z, hd, he, hz, q⟩ := h
  cases hd <;> cases he <;> simp [fdivD] at hz
  obtain ⟨hc, rfl⟩ := hz
  exact op_fdivW pins s σ H _ _ v u Q I rx ry ⟨_, _, rfl, rfl, hc, q _ _ (Same.refl _) (.int _)⟩
theorem op_modD : OpR X (binaryOp .Mod) (rD2 X.K im modD) := by
  intro pins s σ H x y v u Q I rx ry h
  obtain ⟨d, e, z, hd, he, hz, q⟩ := h
  cases hd <;> cases he <;> simp [modD] at hz
  obtain ⟨hc, rfl⟩ := hz
  exact op_mod pins s σ H _ _ v u Q I rx ry ⟨_, _, rfl, rfl, hc, q _ _ (Same.refl _) (.int _)⟩
theorem op_cmpD {op : CmpOp} {f : Int → Int → Bool} (ho : OpR X (compareOp op) (rI0 fun i j => .bl (f i j))) : OpR X (compareOp op) (rD2 X.K im (cmpD f)) := by
  intro pins s σ H x y v u Q I rx ry h
  obtain ⟨d, e, z, hd, he, hz, q⟩ := h
  cases hd <;> cases he <;> simp [cmpD] at hz
  subst hz
  exact ho pins s σ H _ _ v u Q I rx ry ⟨_, _, rfl, rfl, q _ _ (Same.refl _) (.bl _)⟩
theorem op_ltD : OpR X (compareOp .Lt) (rD2 X.K im ltD) := op_cmpD op_lt
theorem op_gtD : OpR X (compareOp .Gt) (rD2 X.K im gtD) := op_cmpD op_gt
theorem op_notND : OpR X (compareOp .IsNot) (rD2 X.K im notND) := by
  intro pins s σ H x y v u Q I rx ry h
  obtain ⟨d, e, z, hd, he, hz, q⟩ := h
  cases he with
  | non =>
    refine op_notN pins s σ H _ _ v u Q I rx ry ⟨rfl, ?_⟩
    cases hd <;> simp [notND] at hz <;> subst hz <;> exact q _ _ (Same.refl _) (.bl _)
  | bl b =>
    cases hd <;> simp only [notND] at hz <;> cases hz
    exact op_notBl pins s σ H _ _ v u Q I rx ry ⟨_, _, rfl, rfl, q _ _ (Same.refl _) (.bl _)⟩
  | _ => cases hd <;> simp [notND] at hz
theorem eqB_some {d e : D} {b : Bool} (h : eqB d e = some b) : ∃ p q, d.py = some p ∧ e.py = some q ∧ p.canLay0 = true ∧ q.canLay0 = true ∧ min p.depth q.depth ≤ 150 ∧ b = PyData.eqv p q := by
  unfold eqB at h
  cases h1 : d.py with
  | none => rw [h1] at h; simp at h
  | some p =>
    cases h2 : e.py with
    | none => rw [h1, h2] at h; simp at h
    | some q =>
      rw [h1, h2] at h
      simp only [Option.ite_none_right_eq_some] at h
      obtain ⟨⟨a, b, c⟩, e⟩ := h
      exact ⟨p, q, rfl, rfl, a, b, c, (Option.some.inj e).symm⟩
theorem op_eqDD (hu : X.A.units + 200 < cLine) : OpR X (compareOp .Eq) (rD2 X.K im eqD) := by
  intro pins s σ H x y v u Q I rx ry h
  obtain ⟨d, e, z, hd, he, hz, q⟩ := h
  unfold eqD at hz
  obtain ⟨b, hb, rfl⟩ := Option.map_eq_some_iff.mp hz
  obtain ⟨p1, p2, e1, e2, c1, c2, c3, rfl⟩ := eqB_some hb
  obtain ⟨as, r1⟩ := Dp.reads I p1 x v (Rep.dp _ _ _ hd e1) rx
  obtain ⟨bs, r2⟩ := Dp.reads I p2 y u (Rep.dp _ _ _ he e2) ry
  exact SeqAt.compareEq_reads r1 r2 c1 c2 (by omega) ⟨.bl _, H, I, rfl, q _ _ (Same.refl _) (.bl _)⟩
theorem op_neDD (hu : X.A.units + 200 < cLine) : OpR X (compareOp .NotEq) (rD2 X.K im neD) := by
  intro pins s σ H x y v u Q I rx ry h
  obtain ⟨d, e, z, hd, he, hz, q⟩ := h
  unfold neD at hz
  obtain ⟨b, hb, rfl⟩ := Option.map_eq_some_iff.mp hz
  obtain ⟨p1, p2, e1, e2, c1, c2, c3, rfl⟩ := eqB_some hb
  obtain ⟨as, r1⟩ := Dp.reads I p1 x v (Rep.dp _ _ _ hd e1) rx
  obtain ⟨bs, r2⟩ := Dp.reads I p2 y u (Rep.dp _ _ _ he e2) ry
  exact SeqAt.compareNe_reads r1 r2 c1 c2 (by omega) ⟨.bl _, H, I, rfl, q _ _ (Same.refl _) (.bl _)⟩
theorem un_negD : UnR X (unaryOp .USub) (rD1 X.K im negD) := by
  intro pins s σ H x v Q I rx h
  obtain ⟨d, z, hd, hz, q⟩ := h
  cases hd <;> simp [negD] at hz
  subst hz
  exact un_neg pins s σ H _ v Q I rx ⟨_, rfl, q _ _ (Same.refl _) (.int _)⟩
theorem ix_D : IxR X (rD2 X.K im ixD) := by
  intro a b pins s σ H x y v u Q I rx ry h
  obtain ⟨d, e, z, hd, he, hz, q⟩ := h
  cases he with
  | int i =>
    cases hd with
    | @tup a' vs ds h1 h2 =>
      obtain ⟨w, e1, r⟩ := h2.at hz
      exact ix_tup a b pins s σ H _ _ v u Q I rx ry ⟨a', vs, i, w, rfl, rfl, h1, e1, q _ _ (Same.refl _) r⟩
    | @lst a' vs ds h1 h2 =>
      obtain ⟨w, e1, r⟩ := h2.at hz
      exact ix_list a b pins s σ H _ _ v u Q I rx ry ⟨a', vs, i, w, rfl, rfl, h1.l, e1, q _ _ (Same.refl _) r⟩
    | str w =>
      simp only [ixD, Option.ite_none_right_eq_some] at hz
      obtain ⟨hl, hz⟩ := hz
      obtain ⟨c, e1, rfl⟩ := Option.map_eq_some_iff.mp hz
      exact ix_str a b pins s σ H _ _ v u Q I rx ry ⟨w, i, c, rfl, rfl, hl, e1, q _ _ (Same.refl _) (.str _)⟩
    | _ => simp [ixD] at hz
  | _ => cases hd <;> simp [ixD] at hz
/-- a slice -/
def rSlD (K : PySem.W.Frag) (im : Addr → Bool) : V → Option Int → Option Int → Hp → VK → Prop := fun x lo hi H Q => ∃ d z, Rep K im H x d ∧ sliceD d lo hi = some z ∧ ∀ v H', Same H H' → Rep K im H' v z → Q v H'
theorem sl_D : SlR X (rSlD X.K im) := by
  intro pins s σ H x v vl vu lo hi sl Q I rx hs pl pu h
  obtain ⟨d, z, hd, hz, q⟩ := h
  cases hd with
  | @tup a vs ds h1 h2 =>
    simp [sliceD] at hz
    subst hz
    refine sl_tupA pins s σ H _ v vl vu lo hi sl Q I rx hs pl pu ⟨a, vs, rfl, h1, fun e => ?_, fun _ p hp => newT_ hp (h2.cut lo hi) q⟩
    refine q _ _ (Same.refl _) (.tup h1 ?_)
    have l := h2.length
    have e2 : cutL ds lo hi = ds := by
      unfold cutL
      rw [← l, e.1, e.2, List.drop_zero, Nat.sub_zero, l, List.take_length]
    rw [e2]; exact h2
  | @lst a vs ds h1 h2 =>
    simp [sliceD] at hz
    subst hz
    obtain ⟨T, id, h3, h4, h5⟩ := sl_list pins s σ H _ v vl vu lo hi sl (fun v H1 => ∃ p zs, v = .ref p ∧ H1 = upd H p (.lst zs) ∧ H p = none ∧ zs = cutL vs lo hi) I rx hs pl pu ⟨a, vs, rfl, h1.l, fun p hp => ⟨p, _, rfl, rfl, hp, rfl⟩⟩
    refine ⟨T, id, h3, h4, thn h5 fun u s' hh => ?_⟩
    obtain ⟨w, H1, J, r, p, zs, rfl, rfl, hp, rfl⟩ := hh
    cases r
    exact EP.newL hp J (h2.cut lo hi) q
  | _ => simp [sliceD] at hz
theorem r1 {f : D → Option D} : ∀ {vs : List V} {ds : List D} {K : PySem.W.Frag}, RepL K im H vs ds → ∀ {z : D}, (match ds with | [d] => f d | _ => none) = some z → ∃ v d, vs = [v] ∧ ds = [d] ∧ Rep K im H v d ∧ f d = some z
  | _, [], _, _, _, e => by simp at e
  | _, [d], _, h, _, e => by
    cases h with
    | cons h1 h2 => cases h2; exact ⟨_, _, rfl, rfl, h1, e⟩
  | _, _ :: _ :: _, _, _, _, e => by simp at e
def un1 (f : D → Option D) : List D → Option D := fun ds => match ds with | [d] => f d | _ => none
def bi2 (f : D → D → Option D) : List D → Option D := fun ds => match ds with | [d, e] => f d e | _ => none
theorem un1_ok {f : D → Option D} {vs : List V} {ds : List D} {K : PySem.W.Frag} {z : D} (h : RepL K im H vs ds) (e : un1 f ds = some z) : ∃ v d, vs = [v] ∧ Rep K im H v d ∧ f d = some z := by
  obtain ⟨v, d, a, b, c, e⟩ := r1 h e
  exact ⟨v, d, a, c, e⟩
theorem bi2_ok {f : D → D → Option D} : ∀ {vs : List V} {ds : List D} {K : PySem.W.Frag} {z : D}, RepL K im H vs ds → bi2 f ds = some z → ∃ v w d e, vs = [v, w] ∧ Rep K im H v d ∧ Rep K im H w e ∧ f d e = some z
  | _, [], _, _, _, e => by simp [bi2] at e
  | _, [d], _, _, _, e => by simp [bi2] at e
  | _, [d, e], _, _, h, q => by
    cases h with
    | cons h1 h2 => cases h2 with | cons h2 h3 => cases h3; exact ⟨_, _, _, _, rfl, h1, h2, q⟩
  | _, _ :: _ :: _ :: _, _, _, _, e => by simp [bi2] at e
theorem call_lenDD : CallR X (.builtin "len") (rDN X.K im (un1 lenD)) := by
  intro pins s σ H xs us Q I r h
  obtain ⟨ds, z, hd, hz, q⟩ := h
  obtain ⟨v, d, rfl, hd, hz⟩ := un1_ok hd hz
  cases hd with
  | @tup a vs ds h1 h2 =>
    simp [lenD] at hz; subst hz
    have l := h2.length
    exact call_len_seq pins s σ H _ us Q I r ⟨a, vs, rfl, .inr h1, by rw [l]; exact q _ _ (Same.refl _) (.int _)⟩
  | @lst a vs ds h1 h2 =>
    simp [lenD] at hz; subst hz
    have l := h2.length
    exact call_len_seq pins s σ H _ us Q I r ⟨a, vs, rfl, .inl h1.l, by rw [l]; exact q _ _ (Same.refl _) (.int _)⟩
  | str w =>
    simp only [lenD, Option.ite_none_right_eq_some] at hz
    obtain ⟨hl, hz⟩ := hz
    cases hz
    exact call_len_str pins s σ H _ us Q I r ⟨w, rfl, hl, q _ _ (Same.refl _) (.int _)⟩
  | _ => simp [lenD] at hz
theorem call_tupleDD : CallR X (.type "tuple") (rDN X.K im (un1 tupleD)) := by
  intro pins s σ H xs us Q I r h
  obtain ⟨ds, z, hd, hz, q⟩ := h
  obtain ⟨v, d, rfl, hd, hz⟩ := un1_ok hd hz
  cases hd with
  | @tup a vs ds h1 h2 =>
    simp [tupleD] at hz; subst hz
    exact call_tuple_of pins s σ H _ us Q I r ⟨a, vs, rfl, .inr ⟨h1, q _ _ (Same.refl _) (.tup h1 h2)⟩⟩
  | @lst a vs ds h1 h2 =>
    simp [tupleD] at hz; subst hz
    exact call_tuple_of pins s σ H _ us Q I r ⟨a, vs, rfl, .inl ⟨h1.l, fun p hp => newT_ hp h2 q⟩⟩
  | _ => simp [tupleD] at hz
theorem call_intDD : CallR X (.type "int") (rDN X.K im (un1 intD)) := by
  intro pins s σ H xs us Q I r h
  obtain ⟨ds, z, hd, hz, q⟩ := h
  obtain ⟨v, d, rfl, hd, hz⟩ := un1_ok hd hz
  cases hd <;> simp [intD] at hz <;> subst hz
  · exact call_int1 pins s σ H _ us Q I r (.inr ⟨_, rfl, q _ _ (Same.refl _) (.int _)⟩)
  · exact call_int1 pins s σ H _ us Q I r (.inl ⟨_, rfl, q _ _ (Same.refl _) (.int _)⟩)
theorem call_max2DD (hc : X.calm = true) : CallR X (.builtin "max") (rDN X.K im (bi2 max2D)) := by
  intro pins s σ H xs us Q I r h
  obtain ⟨ds, z, hd, hz, q⟩ := h
  obtain ⟨v, w, d, e, rfl, hd, he, hz⟩ := bi2_ok hd hz
  cases hd <;> cases he <;> simp [max2D] at hz
  subst hz
  exact call_max2 hc pins s σ H _ us Q I r ⟨_, _, rfl, q _ _ (Same.refl _) (.int _)⟩
theorem call_min2DD (hc : X.calm = true) : CallR X (.builtin "min") (rDN X.K im (bi2 min2D)) := by
  intro pins s σ H xs us Q I r h
  obtain ⟨ds, z, hd, hz, q⟩ := h
  obtain ⟨v, w, d, e, rfl, hd, he, hz⟩ := bi2_ok hd hz
  cases hd <;> cases he <;> simp [min2D] at hz
  subst hz
  exact call_min2 hc pins s σ H _ us Q I r ⟨_, _, rfl, q _ _ (Same.refl _) (.int _)⟩
end
end DL
namespace DL
open PySem PySem.Spec PyProof.Rows L2
structure Exn where
  cls : Addr
  fs : List Str
  ds : List D
inductive R (Ω α : Type) where
  | ok (a : α) (ω : Ω)
  | ex (x : Exn) (ω : Ω)
  | no
def R.bind {Ω α β : Type} (r : R Ω α) (f : α → Ω → R Ω β) : R Ω β := match r with
  | .ok a ω => f a ω
  | .ex x ω => .ex x ω
  | .no => .no
def R.ofO {Ω α : Type} (o : Option α) (ω : Ω) : R Ω α := match o with
  | some a => .ok a ω
  | none => .no
@[simp] theorem R.bind_ok {Ω α β : Type} (a : α) (ω : Ω) (f : α → Ω → R Ω β) : (R.ok a ω).bind f = f a ω := rfl
@[simp] theorem R.bind_ex {Ω α β : Type} (x : Exn) (ω : Ω) (f : α → Ω → R Ω β) : (R.ex x ω).bind f = .ex x ω := rfl
@[simp] theorem R.bind_no {Ω α β : Type} (f : α → Ω → R Ω β) : (R.no : R Ω α).bind f = .no := rfl
@[simp] theorem R.ofO_some {Ω α : Type} (a : α) (ω : Ω) : R.ofO (some a) ω = .ok a ω := rfl
@[simp] theorem R.ofO_none {Ω α : Type} (ω : Ω) : (R.ofO none ω : R Ω α) = .no := rfl
/-- a list, a dict by ints and texts, a dict by tuples of such -/
inductive OKd where
  | L
  | K (ks : List Key)
  | T (ks : List (List Key))
def OKd.ho : OKd → List V → HO
  | .L, vs => .lst vs
  | .K ks, vs => .dK (ks.zip vs)
  | .T ks, vs => .dT (ks.zip vs)
def OKd.len : OKd → Nat → Prop
  | .L, _ => True
  | .K ks, n => ks.length = n
  | .T ks, n => ks.length = n
inductive Cell where
  | d (x : D)
  | ow (k : OKd) (xs : List D)
  | src
abbrev Tau := List (Option Cell)
/-- the one thing that a def is handed and may change: what it is, where it lies -/
structure Gam (im : Addr → Bool) (Ω : Type) where
  At : Ω → Hp → Prop
  FP : Addr → Prop
  obj : V
  keep : ∀ {ω : Ω} {H H' : Hp}, At ω H → (∀ b o, FP b → H b = some o → H' b = some o) → Sb im H H' → At ω H'
  nost : ∀ {ω : Ω} {H : Hp}, At ω H → ∀ b o, FP b → H b = some o → ¬ stb im o
  trk : ∀ {ω : Ω} {H : Hp}, At ω H → ∀ b, FP b → H b ≠ none
/-- nothing -/
def gam0 (im : Addr → Bool) : Gam im Unit where
  At := fun _ _ => True
  FP := fun _ => False
  obj := .non
  keep := fun _ _ _ => trivial
  nost := fun _ _ _ h => h.elim
  trk := fun _ _ h => h.elim
section
variable {im : Addr → Bool} {Ω : Type} (G : Gam im Ω)
def Kp (H H' : Hp) : Prop := ∀ b o, H b = some o → ¬ G.FP b → H' b = some o
variable {G} {H H1 H2 H' : Hp} {ω : Ω}
theorem Kp.refl : Kp G H H := fun _ _ h _ => h
theorem Kp.trans (a : Kp G H H1) (b : Kp G H1 H2) : Kp G H H2 := fun c o e n => b c o (a c o e n) n
theorem Kp.of (a : Same H H1) : Kp G H H1 := fun c o e _ => a c o e
theorem Kp.sb (a : Kp G H H1) (t : G.At ω H) : Sb im H H1 := fun b o e s => a b o e fun f => G.nost t b o f e s
theorem At.same (t : G.At ω H) (a : Same H H1) : G.At ω H1 := G.keep t (fun b o _ e => a b o e) (.of a)
variable (G) (K : PySem.W.Frag)
inductive SlotOk (H0 H : Hp) : Option V → Option Cell → Prop
  | un {v : Option V} : SlotOk H0 H v none
  | d {v : V} {x : D} : Rep K im H v x → SlotOk H0 H (some v) (some (.d x))
  | ow {l : Addr} {k : OKd} {vs : List V} {xs : List D} : H l = some (k.ho vs) → RepL K im H vs xs → H0 l = none → ¬ G.FP l → k.len xs.length → SlotOk H0 H (some (.ref l)) (some (.ow k xs))
  | src : SlotOk H0 H (some G.obj) (some .src)
structure STT (H0 H : Hp) (σ : L2.St) (τ : Tau) : Prop where
  len : σ.length = τ.length
  ok : ∀ (i : Nat) (v : Option V) (c : Option Cell), σ[i]? = some v → τ[i]? = some c → SlotOk G K H0 H v c
  dj : ∀ (i j : Nat) (l : Addr) {k k' : OKd} (xs ys : List D), i ≠ j → σ[i]? = some (some (.ref l)) → τ[i]? = some (some (.ow k xs)) → σ[j]? = some (some (.ref l)) → τ[j]? = some (some (.ow k' ys)) → False
  fr : Kp G H0 H
variable {G} {K}
variable {H0 : Hp} {σ : L2.St} {τ : Tau}
theorem SlotOk.step {v : Option V} {c : Option Cell} (s : SlotOk G K H0 H v c) (t : G.At ω H) (k : Kp G H H') : SlotOk G K H0 H' v c := by
  cases s with
  | un => exact .un
  | d r => exact .d (r.up (k.sb t))
  | ow h1 h2 h3 h4 h5 => exact .ow (k _ _ h1 h4) (h2.up (k.sb t)) h3 h4 h5
  | src => exact .src
theorem STT.step (s : STT G K H0 H σ τ) (t : G.At ω H) (k : Kp G H H') : STT G K H0 H' σ τ :=
  ⟨s.len, fun i v c e1 e2 => (s.ok i v c e1 e2).step t k, s.dj, s.fr.trans k⟩
theorem STT.slot (s : STT G K H0 H σ τ) {i : Nat} {c : Cell} (h : τ[i]? = some (some c)) : ∃ v, σ[i]? = some v ∧ SlotOk G K H0 H v (some c) := by
  have hi : i < σ.length := by rw [s.len]; exact (List.getElem?_eq_some_iff.mp h).1
  exact ⟨σ[i], List.getElem?_eq_getElem hi, s.ok i _ _ (List.getElem?_eq_getElem hi) h⟩
theorem STT.get (s : STT G K H0 H σ τ) {i : Nat} {x : D} (h : τ[i]? = some (some (.d x))) : ∃ v, σ[i]? = some (some v) ∧ Rep K im H v x := by
  obtain ⟨v, e, k⟩ := s.slot h
  cases k with
  | d r => exact ⟨_, e, r⟩
theorem STT.getW (s : STT G K H0 H σ τ) {i : Nat} {k : OKd} {xs : List D} (h : τ[i]? = some (some (.ow k xs))) : ∃ l vs, σ[i]? = some (some (.ref l)) ∧ H l = some (k.ho vs) ∧ RepL K im H vs xs ∧ H0 l = none ∧ ¬ G.FP l ∧ k.len xs.length := by
  obtain ⟨v, e, k⟩ := s.slot h
  cases k with
  | ow h1 h2 h3 h4 h5 => exact ⟨_, _, e, h1, h2, h3, h4, h5⟩
theorem STT.getO (s : STT G K H0 H σ τ) {i : Nat} {xs : List D} (h : τ[i]? = some (some (.ow .L xs))) : ∃ l vs, σ[i]? = some (some (.ref l)) ∧ H l = some (.lst vs) ∧ RepL K im H vs xs ∧ H0 l = none ∧ ¬ G.FP l := by
  obtain ⟨l, vs, h1, h2, h3, h4, h5, _⟩ := s.getW h
  exact ⟨l, vs, h1, h2, h3, h4, h5⟩
theorem STT.getS (s : STT G K H0 H σ τ) {i : Nat} (h : τ[i]? = some (some .src)) : σ[i]? = some (some G.obj) := by
  obtain ⟨v, e, k⟩ := s.slot h
  cases k with
  | src => exact e
theorem STT.setD (s : STT G K H0 H σ τ) {v : V} {x : D} (r : Rep K im H v x) (i : Nat) : STT G K H0 H (σ.set i (some v)) (τ.set i (some (.d x))) := by
  refine ⟨by simp [s.len], fun j w c e1 e2 => ?_, fun j k l _ _ xs ys hjk e1 e2 e3 e4 => ?_, s.fr⟩
  · by_cases hj : i = j
    · subst hj
      have hi : i < σ.length := by simpa using (List.getElem?_eq_some_iff.mp e1).1
      rw [List.getElem?_set_self hi] at e1
      rw [List.getElem?_set_self (by rw [← s.len]; exact hi)] at e2
      cases e1; cases e2
      exact .d r
    · rw [List.getElem?_set_ne hj] at e1 e2
      exact s.ok j w c e1 e2
  · have a : i ≠ j := fun q => by
      subst q
      have hi : i < τ.length := by simpa using (List.getElem?_eq_some_iff.mp e2).1
      rw [List.getElem?_set_self hi] at e2
      cases e2
    have b : i ≠ k := fun q => by
      subst q
      have hi : i < τ.length := by simpa using (List.getElem?_eq_some_iff.mp e4).1
      rw [List.getElem?_set_self hi] at e4
      cases e4
    rw [List.getElem?_set_ne a] at e1 e2
    rw [List.getElem?_set_ne b] at e3 e4
    exact s.dj j k l xs ys hjk e1 e2 e3 e4
/-- a new owned list -/
theorem STT.setW (s : STT G K H0 H σ τ) (t : G.At ω H) {p : Addr} {kd : OKd} {vs : List V} {xs : List D} (hp : H p = none) (k : Kp G H H') (h : H' p = some (kd.ho vs)) (r : RepL K im H' vs xs) (hlen : kd.len xs.length) (i : Nat) :
    STT G K H0 H' (σ.set i (some (.ref p))) (τ.set i (some (.ow kd xs))) := by
  have nf : ¬ G.FP p := fun f => G.trk t p f hp
  have h0 : H0 p = none := by
    cases e : H0 p with
    | none => rfl
    | some o => have := s.fr p o e nf; rw [hp] at this; cases this
  have s' := s.step t k
  have nw : ∀ (j : Nat) {k : OKd} (ys : List D), τ[j]? = some (some (.ow k ys)) → σ[j]? ≠ some (some (.ref p)) := fun j k ys e q => by
    obtain ⟨l, ws, e1, e2, _⟩ := s.getW e
    rw [e1] at q
    cases q
    rw [hp] at e2; cases e2
  refine ⟨by simp [s.len], fun j w c e1 e2 => ?_, fun j k l _ _ ys zs hjk e1 e2 e3 e4 => ?_, s'.fr⟩
  · by_cases hj : i = j
    · subst hj
      have hi : i < σ.length := by simpa using (List.getElem?_eq_some_iff.mp e1).1
      rw [List.getElem?_set_self hi] at e1
      rw [List.getElem?_set_self (by rw [← s.len]; exact hi)] at e2
      cases e1; cases e2
      exact .ow h r h0 nf hlen
    · rw [List.getElem?_set_ne hj] at e1 e2
      exact s'.ok j w c e1 e2
  · by_cases a : i = j
    · subst a
      have hi : i < σ.length := by simpa using (List.getElem?_eq_some_iff.mp e1).1
      rw [List.getElem?_set_self hi] at e1
      cases e1
      rw [List.getElem?_set_ne hjk] at e3 e4
      exact nw k zs e4 e3
    · by_cases b : i = k
      · subst b
        have hi : i < σ.length := by simpa using (List.getElem?_eq_some_iff.mp e3).1
        rw [List.getElem?_set_self hi] at e3
        cases e3
        rw [List.getElem?_set_ne a] at e1 e2
        exact nw j ys e2 e1
      · rw [List.getElem?_set_ne a] at e1 e2
        rw [List.getElem?_set_ne b] at e3 e4
        exact s.dj j k l ys zs hjk e1 e2 e3 e4
/-- an owned list is changed -/
theorem OKd.nst {k : OKd} {vs : List V} : ¬ stb im (k.ho vs) := by cases k <;> exact id
theorem STT.mutW (s : STT G K H0 H σ τ) (t : G.At ω H) {i : Nat} {l : Addr} {kd kd' : OKd} {vs : List V} {xs ys : List D} (h : τ[i]? = some (some (.ow kd xs))) (e : σ[i]? = some (some (.ref l)))
    (r : RepL K im H vs ys) (hlen : kd'.len ys.length) : STT G K H0 (upd H l (kd'.ho vs)) σ (τ.set i (some (.ow kd' ys))) ∧ G.At ω (upd H l (kd'.ho vs)) ∧ Sb im H (upd H l (kd'.ho vs)) := by
  obtain ⟨l', ws', e', h1, h2, h3, h4, h5⟩ := s.getW h
  have el : l' = l := by rw [e] at e'; cases e'; rfl
  subst el
  have sb : Sb im H (upd H l' (kd'.ho vs)) := fun b o eb st => by
    have : b ≠ l' := fun q => by subst q; rw [h1] at eb; cases eb; exact OKd.nst st
    rw [upd_ne this]; exact eb
  have at' : G.At ω (upd H l' (kd'.ho vs)) := G.keep t (fun b o f eb => by
    have : b ≠ l' := fun q => h4 (q ▸ f)
    rw [upd_ne this]; exact eb) sb
  refine ⟨⟨by simp [s.len], fun j w c e1 e2 => ?_, fun j k a _ _ xs' zs hjk e1 e2 e3 e4 => ?_, fun b o eb nf => ?_⟩, at', sb⟩
  · by_cases hj : i = j
    · subst hj
      have hi : i < τ.length := (List.getElem?_eq_some_iff.mp h).1
      rw [List.getElem?_set_self hi] at e2
      cases e2
      rw [e] at e1; cases e1
      exact .ow upd_same (r.up sb) h3 h4 hlen
    · rw [List.getElem?_set_ne hj] at e2
      have q := s.ok j w c e1 e2
      cases q with
      | un => exact .un
      | d r => exact .d (r.up sb)
      | @ow l2 k2 vs2 xs2 a1 a2 a3 a4 a5 =>
        have ne : l2 ≠ l' := fun q => by
          subst q
          exact s.dj i j l2 _ _ hj e h e1 e2
        exact .ow (by rw [upd_ne ne]; exact a1) (a2.up sb) a3 a4 a5
      | src => exact .src
  · have a1 : ∃ k2 xs2, τ[j]? = some (some (.ow k2 xs2)) := by
      by_cases hj : i = j
      · subst hj; exact ⟨_, _, h⟩
      · rw [List.getElem?_set_ne hj] at e2; exact ⟨_, _, e2⟩
    have a2 : ∃ k2 xs2, τ[k]? = some (some (.ow k2 xs2)) := by
      by_cases hj : i = k
      · subst hj; exact ⟨_, _, h⟩
      · rw [List.getElem?_set_ne hj] at e4; exact ⟨_, _, e4⟩
    obtain ⟨_, _, a1⟩ := a1
    obtain ⟨_, _, a2⟩ := a2
    exact s.dj j k a _ _ hjk e1 a1 e3 a2
  · have k := s.fr b o eb nf
    have : b ≠ l' := fun q => by subst q; rw [h3] at eb; cases eb
    rw [upd_ne this]; exact k
theorem STT.setO (s : STT G K H0 H σ τ) (t : G.At ω H) {p : Addr} {vs : List V} {xs : List D} (hp : H p = none) (k : Kp G H H') (h : H' p = some (.lst vs)) (r : RepL K im H' vs xs) (i : Nat) :
    STT G K H0 H' (σ.set i (some (.ref p))) (τ.set i (some (.ow .L xs))) := s.setW (kd := .L) t hp k h r trivial i
theorem STT.mutO (s : STT G K H0 H σ τ) (t : G.At ω H) {i : Nat} {l : Addr} {vs : List V} {xs ys : List D} (h : τ[i]? = some (some (.ow .L xs))) (e : σ[i]? = some (some (.ref l))) (hl : ∃ ws, H l = some (.lst ws))
    (r : RepL K im H vs ys) : STT G K H0 (upd H l (.lst vs)) σ (τ.set i (some (.ow .L ys))) ∧ G.At ω (upd H l (.lst vs)) ∧ Sb im H (upd H l (.lst vs)) := s.mutW (kd' := .L) t h e r trivial
end
section
variable (K : PySem.W.Frag) (im : Addr → Bool)
def ExRep (H : Hp) (cls : Value) (dd : Option Addr) (x : Exn) : Prop :=
  cls = .ref x.cls ∧ ((x.fs = [] ∧ dd = none) ∨ ∃ (d : Addr) (vs : List V), dd = some d ∧ H d = some (.xd (x.fs.zip vs)) ∧ x.fs.length = vs.length ∧ RepL K im H vs x.ds)
end
section
variable {im : Addr → Bool} {Ω : Type} (G : Gam im Ω) (K : PySem.W.Frag)
def Res {α : Type} (r : R Ω α) (H : Hp) (k : α → Ω → Hp → Prop) (kx : Exn → Ω → Hp → Prop) : Prop := match r with
  | .ok a ω => ∀ H', Kp G H H' → G.At ω H' → k a ω H'
  | .ex x ω => ∀ H', Kp G H H' → G.At ω H' → kx x ω H'
  | .no => False
abbrev E (Ω α : Type) := Tau → Ω → R Ω α
def kX (G : Gam im Ω) (K : PySem.W.Frag) (W : WX) (σ : L2.St) : Exn → Ω → Hp → Prop := fun x _ H' => ∀ cls dd, ExRep K im H' cls dd x → W cls dd σ H'
def kD (G : Gam im Ω) (K : PySem.W.Frag) (Q : VK) : D → Ω → Hp → Prop := fun d _ H' => ∀ v, Rep K im H' v d → Q v H'
def kL (G : Gam im Ω) (K : PySem.W.Frag) (Q : List V → Hp → Prop) : List D → Ω → Hp → Prop := fun ds _ H' => ∀ vs, RepL K im H' vs ds → Q vs H'
def DE (W : WX) (te : TE) (F : E Ω D) : Prop := ∀ H0 σ H ω τ, STT G K H0 H σ τ → G.At ω H → ∀ Q : VK, Res G (F τ ω) H (kD G K Q) (kX G K W σ) → te σ H Q
def DT (W : WX) (tt : TT) (F : E Ω Bool) : Prop := ∀ H0 σ H ω τ, STT G K H0 H σ τ → G.At ω H → ∀ Q : Bool → Hp → Prop, Res G (F τ ω) H (fun b _ H' => Q b H') (kX G K W σ) → tt σ H Q
def DA (W : WX) (ta : TA) (F : E Ω (List D)) : Prop := ∀ H0 σ H ω τ, STT G K H0 H σ τ → G.At ω H → ∀ Q : List V → Hp → Prop, Res G (F τ ω) H (kL G K Q) (kX G K W σ) → ta σ H Q
def DO (W : WX) (to : TO) (F : E Ω (Option Int)) : Prop := ∀ H0 σ H ω τ, STT G K H0 H σ τ → G.At ω H → ∀ Q : Option Int → Hp → Prop, Res G (F τ ω) H (fun b _ H' => Q b H') (kX G K W σ) → to σ H Q
/-- a new list, not finished yet -/
def DL (W : WX) (te : TE) (F : E Ω (List D)) : Prop := ∀ H0 σ H ω τ, STT G K H0 H σ τ → G.At ω H → ∀ Q : VK, Res G (F τ ω) H (fun ds _ H' => ∀ p vs, H p = none → H' p = some (.lst vs) → RepL K im H' vs ds → Q (.ref p) H') (kX G K W σ) → te σ H Q
variable {G} {K}
theorem Res.mono {α : Type} {r : R Ω α} {H H1 : Hp} {k : α → Ω → Hp → Prop} {kx : Exn → Ω → Hp → Prop} (h : Res G r H k kx) (a : Kp G H H1) : Res G r H1 k kx := by
  cases r with
  | ok x ω => exact fun H' b t => h H' (a.trans b) t
  | ex x ω => exact fun H' b t => h H' (a.trans b) t
  | no => exact h
theorem Res.imp {α : Type} {r : R Ω α} {H : Hp} {k k' : α → Ω → Hp → Prop} {kx kx' : Exn → Ω → Hp → Prop} (h : Res G r H k kx) (f : ∀ a ω H', Kp G H H' → G.At ω H' → k a ω H' → k' a ω H') (g : ∀ x ω H', Kp G H H' → G.At ω H' → kx x ω H' → kx' x ω H') : Res G r H k' kx' := by
  cases r with
  | ok x ω => exact fun H' b t => f x ω H' b t (h H' b t)
  | ex x ω => exact fun H' b t => g x ω H' b t (h H' b t)
  | no => exact h
theorem Res.bind {α β : Type} {r : R Ω α} {f : α → Ω → R Ω β} {H : Hp} {k : β → Ω → Hp → Prop} {kx : Exn → Ω → Hp → Prop} (h : Res G (r.bind f) H k kx) : Res G r H (fun a ω1 _ => Res G (f a ω1) H k kx) kx := by
  cases r with
  | ok x ω => exact fun H' b t => h
  | ex x ω => exact h
  | no => exact h
end
section
variable {im : Addr → Bool} {Ω : Type} {G : Gam im Ω} {K : PySem.W.Frag} {W : WX} {ta tb te : TE} {Fa Fb : E Ω D}
def eVar (i : Nat) : E Ω D := fun τ ω => match τ[i]? with
  | some (some (.d x)) => .ok x ω
  | _ => .no
def eC (d : D) : E Ω D := fun _ ω => .ok d ω
def eOp (f : D → D → Option D) (a b : E Ω D) : E Ω D := fun τ ω => (a τ ω).bind fun x ω1 => (b τ ω1).bind fun y ω2 => .ofO (f x y) ω2
def eUn (f : D → Option D) (a : E Ω D) : E Ω D := fun τ ω => (a τ ω).bind fun x ω1 => .ofO (f x) ω1
def eCall (f : List D → Option D) (a : E Ω (List D)) : E Ω D := fun τ ω => (a τ ω).bind fun x ω1 => .ofO (f x) ω1
def aNil : E Ω (List D) := fun _ ω => .ok [] ω
def aCons (a : E Ω D) (r : E Ω (List D)) : E Ω (List D) := fun τ ω => (a τ ω).bind fun x ω1 => (r τ ω1).bind fun xs ω2 => .ok (x :: xs) ω2
def eTup (a : E Ω (List D)) : E Ω D := fun τ ω => (a τ ω).bind fun xs ω1 => if xs.length ≤ 1000 then .ok (.tup xs) ω1 else .no
def eLst (a : E Ω (List D)) : E Ω (List D) := fun τ ω => (a τ ω).bind fun xs ω1 => if xs.length ≤ 1000 then .ok xs ω1 else .no
def eFrz (a : E Ω (List D)) : E Ω D := fun τ ω => (a τ ω).bind fun xs ω1 => .ok (.lst xs) ω1
theorem de_var (i : Nat) : DE G K W (tVar i) (eVar i) := by
  intro H0 σ H ω τ s t Q h
  unfold eVar at h
  split at h
  · rename_i x hx
    obtain ⟨v, e, r⟩ := s.get hx
    exact ⟨v, e, h H .refl t v r⟩
  · exact h.elim
theorem de_c {v : V} {d : D} (r : ∀ H, Rep K im H v d) : DE G K W (tC v) (eC d) := fun H0 σ H ω τ s t Q h => h H .refl t v (r H)
theorem de_int {i : Int} : DE G K W (tC (.int i)) (eC (.int i)) := de_c fun _ => .int i
theorem de_str {x : Str} : DE G K W (tC (.str x)) (eC (.str x)) := de_c fun _ => .str x
theorem de_bl {b : Bool} : DE G K W (tC (.bl b)) (eC (.bl b)) := de_c fun _ => .bl b
theorem de_non : DE G K W (tC .non) (eC .non) := de_c fun _ => .non
/-- a written tuple of the module -/
theorem de_op {f : D → D → Option D} (ha : DE G K W ta Fa) (hb : DE G K W tb Fb) : DE G K W (tOp (rD2 K im f) ta tb) (eOp f Fa Fb) := by
  intro H0 σ H ω τ s t Q h
  refine ha H0 σ H ω τ s t _ (Res.imp (Res.bind h) (fun x ω1 H1 k1 t1 h1 v r => ?_) fun _ _ _ _ _ q => q)
  refine hb H0 σ H1 ω1 τ (s.step t k1) t1 _ (Res.imp (Res.bind (h1.mono k1)) (fun y ω2 H2 k2 t2 h2 w r2 => ?_) fun _ _ _ _ _ q => q)
  have h3 := (h2.mono k2)
  cases e : f x y with
  | none => rw [e] at h3; exact h3.elim
  | some z =>
    rw [e] at h3
    exact ⟨x, y, z, r.up (k2.sb t1), r2, e, fun v H' sm rv => h3 H' (.of sm) (At.same t2 sm) v rv⟩
theorem de_un {f : D → Option D} (ha : DE G K W ta Fa) : DE G K W (tUn (rD1 K im f) ta) (eUn f Fa) := by
  intro H0 σ H ω τ s t Q h
  refine ha H0 σ H ω τ s t _ (Res.imp (Res.bind h) (fun x ω1 H1 k1 t1 h1 v r => ?_) fun _ _ _ _ _ q => q)
  have h3 := h1.mono k1
  cases e : f x with
  | none => rw [e] at h3; exact h3.elim
  | some z =>
    rw [e] at h3
    exact ⟨x, z, r, e, fun v H' sm rv => h3 H' (.of sm) (At.same t1 sm) v rv⟩
theorem da_nil : DA G K W tNil aNil := fun H0 σ H ω τ s t Q h => h H .refl t [] .nil
theorem da_cons {tr : TA} {Fr : E Ω (List D)} (ha : DE G K W ta Fa) (hr : DA G K W tr Fr) : DA G K W (tCons ta tr) (aCons Fa Fr) := by
  intro H0 σ H ω τ s t Q h
  refine ha H0 σ H ω τ s t _ (Res.imp (Res.bind h) (fun x ω1 H1 k1 t1 h1 v r => ?_) fun _ _ _ _ _ q => q)
  refine hr H0 σ H1 ω1 τ (s.step t k1) t1 _ (Res.imp (Res.bind (h1.mono k1)) (fun ys ω2 H2 k2 t2 h2 ws r2 => ?_) fun _ _ _ _ _ q => q)
  exact (h2.mono k2) H2 .refl t2 _ (.cons (r.up (k2.sb t1)) r2)
theorem de_callN {f : List D → Option D} {tr : TA} {Fr : E Ω (List D)} (hr : DA G K W tr Fr) : DE G K W (tCB (rDN K im f) tr) (eCall f Fr) := by
  intro H0 σ H ω τ s t Q h
  refine hr H0 σ H ω τ s t _ (Res.imp (Res.bind h) (fun xs ω1 H1 k1 t1 h1 vs r => ?_) fun _ _ _ _ _ q => q)
  have h3 := h1.mono k1
  cases e : f xs with
  | none => rw [e] at h3; exact h3.elim
  | some z =>
    rw [e] at h3
    exact ⟨xs, z, r, e, fun v H' sm rv => h3 H' (.of sm) (At.same t1 sm) v rv⟩
theorem line1000 {n : Nat} (h : n ≤ 1000) : n ≤ sizeLine := Nat.le_of_lt (small1000 h)
theorem de_tup {tr : TA} {Fr : E Ω (List D)} (hr : DA G K W tr Fr) : DE G K W (tTup tr) (eTup Fr) := by
  intro H0 σ H ω τ s t Q h
  refine hr H0 σ H ω τ s t _ (Res.imp (Res.bind h) (fun xs ω1 H1 k1 t1 h1 vs r => ?_) fun _ _ _ _ _ q => q)
  have h3 := h1.mono k1
  split at h3
  · rename_i hl
    refine ⟨by rw [r.length]; exact line1000 hl, fun p hp => ?_⟩
    have sm : Same H1 (upd H1 p (.tup vs)) := Same.new hp
    exact h3 _ (.of sm) (At.same t1 sm) _ (.tup upd_same (r.up (.of sm)))
  · exact h3.elim
theorem dl_lst {tr : TA} {Fr : E Ω (List D)} (hr : DA G K W tr Fr) : DL G K W (tLst tr) (eLst Fr) := by
  intro H0 σ H ω τ s t Q h
  refine hr H0 σ H ω τ s t _ (Res.imp (Res.bind h) (fun xs ω1 H1 k1 t1 h1 vs r => ?_) fun _ _ _ _ _ q => q)
  have h3 := h1.mono k1
  split at h3
  · rename_i hl
    refine ⟨by rw [r.length]; exact line1000 hl, fun p hp => ?_⟩
    have sm : Same H1 (upd H1 p (.lst vs)) := Same.new hp
    have hp0 : H p = none := by
      cases e : H p with
      | none => rfl
      | some o =>
        by_cases f : G.FP p
        · exact absurd hp (G.trk t1 p f)
        · have := k1 p o e f; rw [hp] at this; cases this
    exact h3 _ (.of sm) (At.same t1 sm) _ _ hp0 upd_same (r.up (.of sm))
  · exact h3.elim
theorem de_frz {Fl : E Ω (List D)} (hl : DL G K W te Fl) : DE G K W (tFrz te) (eFrz Fl) := by
  intro H0 σ H ω τ s t Q h
  refine hl H0 σ H ω τ s t _ (Res.imp (Res.bind h) (fun xs ω1 H1 k1 t1 h1 p vs hp h2 r => ?_) fun _ _ _ _ _ q => q)
  refine ⟨p, vs, rfl, h2, fun o => ?_⟩
  have nf : ¬ G.FP p := fun f => G.trk t p f hp
  have sb : Sb im H1 (upd H1 p (.frz o (.lst vs))) := fun b u eb st => by
    have : b ≠ p := fun q => by subst q; rw [h2] at eb; cases eb; exact st
    rw [upd_ne this]; exact eb
  have at' : G.At ω1 (upd H1 p (.frz o (.lst vs))) := G.keep t1 (fun b u f eb => by
    have : b ≠ p := fun q => nf (q ▸ f)
    rw [upd_ne this]; exact eb) sb
  exact h1 _ (fun b u eb nfb => by
    have : b ≠ p := fun q => by subst q; rw [hp] at eb; cases eb
    rw [upd_ne this]; exact k1 b u eb nfb) at' _ (.lst ⟨o, upd_same⟩ (r.up sb))
end
end DL
namespace DL
open PySem PySem.Spec PyProof.Rows L2
section
variable {im : Addr → Bool} {Ω : Type} {G : Gam im Ω} {K : PySem.W.Frag} {W : WX} {ta tb te : TE} {Fa Fb : E Ω D} {t u : TT} {Ft Fu : E Ω Bool}
def D.bool : D → Option Bool
  | .bl b => some b
  | _ => none
def eB (a : E Ω D) : E Ω Bool := fun τ ω => (a τ ω).bind fun x ω1 => .ofO x.bool ω1
def bAnd (a b : E Ω Bool) : E Ω Bool := fun τ ω => (a τ ω).bind fun x ω1 => if x then b τ ω1 else .ok false ω1
def bOr (a b : E Ω Bool) : E Ω Bool := fun τ ω => (a τ ω).bind fun x ω1 => if x then .ok true ω1 else b τ ω1
def bNot (a : E Ω Bool) : E Ω Bool := fun τ ω => (a τ ω).bind fun x ω1 => .ok (!x) ω1
def bYes : E Ω Bool := fun _ ω => .ok true ω
def eIf (c : E Ω Bool) (a b : E Ω D) : E Ω D := fun τ ω => (c τ ω).bind fun x ω1 => if x then a τ ω1 else b τ ω1
def eAnd (a b : E Ω D) : E Ω D := fun τ ω => (a τ ω).bind fun x ω1 => match x with
  | .bl true => b τ ω1
  | .bl false => .ok (.bl false) ω1
  | _ => .no
theorem bool_rep {H : Hp} {x : D} {b : Bool} {v : V} (r : Rep K im H v x) (e : x.bool = some b) : v = .bl b := by
  cases r <;> simp [D.bool] at e
  subst e; rfl
theorem dt_B (ha : DE G K W ta Fa) : DT G K W (tB ta) (eB Fa) := by
  intro H0 σ H ω τ s t Q h
  refine ha H0 σ H ω τ s t _ (Res.imp (Res.bind h) (fun x ω1 H1 k1 t1 h1 v r => ?_) fun _ _ _ _ _ q => q)
  cases e : x.bool with
  | none => rw [e] at h1; exact h1.elim
  | some b => rw [e] at h1; exact ⟨b, bool_rep r e, h1 H1 k1 t1⟩
theorem dt_test (ha : DE G K W ta Fa) : DT G K W (tTest ta) (eB Fa) := dt_B ha
theorem dt_and (ha : DT G K W t Ft) (hb : DT G K W u Fu) : DT G K W (tAnd t u) (bAnd Ft Fu) := by
  intro H0 σ H ω τ s t Q h
  refine ha H0 σ H ω τ s t _ (Res.imp (Res.bind h) (fun x ω1 H1 k1 t1 h1 => ?_) fun _ _ _ _ _ q => q)
  cases x with
  | true => exact hb H0 σ H1 ω1 τ (s.step t k1) t1 _ (h1.mono k1)
  | false => exact h1 H1 k1 t1
theorem dt_or (ha : DT G K W t Ft) (hb : DT G K W u Fu) : DT G K W (tOr t u) (bOr Ft Fu) := by
  intro H0 σ H ω τ s t Q h
  refine ha H0 σ H ω τ s t _ (Res.imp (Res.bind h) (fun x ω1 H1 k1 t1 h1 => ?_) fun _ _ _ _ _ q => q)
  cases x with
  | false => exact hb H0 σ H1 ω1 τ (s.step t k1) t1 _ (h1.mono k1)
  | true => exact h1 H1 k1 t1
theorem dt_not (ha : DT G K W t Ft) : DT G K W (tNot t) (bNot Ft) := by
  intro H0 σ H ω τ s t Q h
  exact ha H0 σ H ω τ s t _ (Res.imp (Res.bind h) (fun x ω1 H1 k1 t1 h1 => h1 H1 k1 t1) fun _ _ _ _ _ q => q)
theorem dt_yes : DT G K W tYes bYes := fun H0 σ H ω τ s t Q h => h H .refl t
theorem de_if (hc : DT G K W t Ft) (ha : DE G K W ta Fa) (hb : DE G K W tb Fb) : DE G K W (tIf t ta tb) (eIf Ft Fa Fb) := by
  intro H0 σ H ω τ s t Q h
  refine hc H0 σ H ω τ s t _ (Res.imp (Res.bind h) (fun x ω1 H1 k1 t1 h1 => ?_) fun _ _ _ _ _ q => q)
  cases x with
  | true => exact ha H0 σ H1 ω1 τ (s.step t k1) t1 _ (h1.mono k1)
  | false => exact hb H0 σ H1 ω1 τ (s.step t k1) t1 _ (h1.mono k1)
theorem de_and (ha : DE G K W ta Fa) (hb : DE G K W tb Fb) : DE G K W (tAndV ta tb) (eAnd Fa Fb) := by
  intro H0 σ H ω τ s t Q h
  refine ha H0 σ H ω τ s t _ (Res.imp (Res.bind h) (fun x ω1 H1 k1 t1 h1 v r => ?_) fun _ _ _ _ _ q => q)
  cases r with
  | bl b =>
    cases b with
    | true => exact ⟨true, rfl, hb H0 σ H1 ω1 τ (s.step t k1) t1 _ (h1.mono k1)⟩
    | false => exact ⟨false, rfl, h1 H1 k1 t1 _ (.bl false)⟩
  | _ => exact h1.elim
def oNone : E Ω (Option Int) := fun _ ω => .ok none ω
def D.toI : D → Option (Option Int)
  | .int i => some (some i)
  | _ => none
def oSome (a : E Ω D) : E Ω (Option Int) := fun τ ω => (a τ ω).bind fun x ω1 => .ofO x.toI ω1
def eSl (a : E Ω D) (l h : E Ω (Option Int)) : E Ω D := fun τ ω => (a τ ω).bind fun x ω1 => (l τ ω1).bind fun lo ω2 => (h τ ω2).bind fun hi ω3 => .ofO (sliceD x lo hi) ω3
theorem do_none : DO G K W tNoPart oNone := fun H0 σ H ω τ s t Q h => h H .refl t
theorem do_some (ha : DE G K W ta Fa) : DO G K W (tPart ta) (oSome Fa) := by
  intro H0 σ H ω τ s t Q h
  refine ha H0 σ H ω τ s t _ (Res.imp (Res.bind h) (fun x ω1 H1 k1 t1 h1 v r => ?_) fun _ _ _ _ _ q => q)
  cases r with
  | int i => exact ⟨i, rfl, h1 H1 k1 t1⟩
  | _ => exact h1.elim
theorem de_sl {tl th : TO} {Fl Fh : E Ω (Option Int)} (ha : DE G K W ta Fa) (hl : DO G K W tl Fl) (hh : DO G K W th Fh) : DE G K W (tSl (rSlD K im) ta tl th) (eSl Fa Fl Fh) := by
  intro H0 σ H ω τ s t Q h
  refine ha H0 σ H ω τ s t _ (Res.imp (Res.bind h) (fun x ω1 H1 k1 t1 h1 v r => ?_) fun _ _ _ _ _ q => q)
  refine hl H0 σ H1 ω1 τ (s.step t k1) t1 _ (Res.imp (Res.bind (h1.mono k1)) (fun lo ω2 H2 k2 t2 h2 => ?_) fun _ _ _ _ _ q => q)
  refine hh H0 σ H2 ω2 τ ((s.step t k1).step t1 k2) t2 _ (Res.imp (Res.bind (h2.mono k2)) (fun hi ω3 H3 k3 t3 h3 => ?_) fun _ _ _ _ _ q => q)
  have h4 := h3.mono k3
  cases e : sliceD x lo hi with
  | none => rw [e] at h4; exact h4.elim
  | some z =>
    rw [e] at h4
    exact ⟨x, z, (r.up (k2.sb t1)).up (k3.sb t2), e, fun v H' sm rv => h4 H' (.of sm) (At.same t3 sm) v rv⟩
def oLen (i : Nat) : E Ω D := fun τ ω => match τ[i]? with
  | some (some (.ow .L xs)) => .ok (.int xs.length) ω
  | _ => .no
def oIx (i : Nat) (b : E Ω D) : E Ω D := fun τ ω => match τ[i]? with
  | some (some (.ow .L xs)) => (b τ ω).bind fun y ω1 => .ofO (ixD (.lst xs) y) ω1
  | _ => .no
def oTuple (i : Nat) : E Ω D := fun τ ω => match τ[i]? with
  | some (some (.ow .L xs)) => .ok (.tup xs) ω
  | _ => .no
theorem de_oLen {i : Nat} : DE G K W (tCB (fun xs H Q => ∃ p ys, xs = [.ref p] ∧ (SqL K H p ys ∨ SqT K H p ys) ∧ Q (.int ys.length) H) (tCons (tVar i) tNil)) (oLen i) := by
  intro H0 σ H ω τ s t Q h
  unfold oLen at h
  split at h
  · rename_i xs hx
    obtain ⟨l, vs, e, h1, h2, _⟩ := s.getO hx
    exact ⟨_, e, l, vs, rfl, .inl (SqL.of h1), by rw [h2.length]; exact h H .refl t _ (.int _)⟩
  · exact h.elim
theorem de_oIx {i : Nat} (hb : DE G K W tb Fb) : DE G K W (tOp (rIxL K) (tVar i) tb) (oIx i Fb) := by
  intro H0 σ H ω τ s t Q h
  unfold oIx at h
  split at h
  · rename_i xs hx
    obtain ⟨l, vs, e, h1, h2, h3, h4⟩ := s.getO hx
    refine ⟨_, e, ?_⟩
    refine hb H0 σ H ω τ s t _ (Res.imp (Res.bind h) (fun y ω1 H1 k1 t1 h1' w r => ?_) fun _ _ _ _ _ q => q)
    cases r with
    | int j =>
      have h5 := h1'.mono k1
      cases e2 : ixD (.lst xs) (.int j) with
      | none => rw [e2] at h5; exact h5.elim
      | some z =>
        rw [e2] at h5
        obtain ⟨v, e3, r3⟩ := h2.at e2
        exact ⟨l, vs, j, v, rfl, rfl, SqL.of (k1 _ _ h1 h4), e3, h5 H1 .refl t1 _ (r3.up (k1.sb t))⟩
    | _ => exact h1'.elim
  · exact h.elim
theorem de_oTuple {i : Nat} : DE G K W (tCB (fun xs H Q => ∃ p ys, xs = [.ref p] ∧ ((SqL K H p ys ∧ ∀ l, H l = none → Q (.ref l) (upd H l (.tup ys))) ∨ (SqT K H p ys ∧ Q (.ref p) H))) (tCons (tVar i) tNil)) (oTuple i) := by
  intro H0 σ H ω τ s t Q h
  unfold oTuple at h
  split at h
  · rename_i xs hx
    obtain ⟨l, vs, e, h1, h2, _⟩ := s.getO hx
    refine ⟨_, e, l, vs, rfl, .inl ⟨SqL.of h1, fun p hp => ?_⟩⟩
    have sm : Same H (upd H p (.tup vs)) := Same.new hp
    exact h _ (.of sm) (At.same t sm) _ (.tup upd_same (h2.up (.of sm)))
  · exact h.elim
end
section
variable {im : Addr → Bool} (K : PySem.W.Frag)
/-- a def that changes nothing -/
def spD (im : Addr → Bool) (n : Nat) (F : List D → R Unit D) : Sp := fun vs H Q Ex => vs.length = n ∧ ∃ ds, RepL K im H vs ds ∧ (match F ds with
  | .ok d _ => ∀ v H', Same H H' → Rep K im H' v d → Q v H'
  | .ex x _ => ∀ cls dd H', Same H H' → ExRep K im H' cls dd x → Ex cls dd H'
  | .no => False)
/-- .. that gives a new list, not finished -/
def spL (im : Addr → Bool) (n : Nat) (F : List D → R Unit (List D)) : Sp := fun vs H Q Ex => vs.length = n ∧ ∃ ds, RepL K im H vs ds ∧ (match F ds with
  | .ok d _ => ∀ p vs' H', Same H H' → H p = none → H' p = some (.lst vs') → RepL K im H' vs' d → Q (.ref p) H'
  | .ex x _ => ∀ cls dd H', Same H H' → ExRep K im H' cls dd x → Ex cls dd H'
  | .no => False)
/-- a def that is handed the one thing that it may change, at place j -/
def spW {Ω P : Type} (Γ : P → Gam im Ω) (n j : Nat) (F : List D → Ω → R Ω D) : Sp := fun vs H Q Ex => vs.length = n ∧ ∃ p ω ws ds, vs = ws.take j ++ (Γ p).obj :: ws.drop j ∧ (Γ p).At ω H ∧ RepL K im H ws ds ∧
  Res (Γ p) (F ds ω) H (kD (Γ p) K Q) (fun x _ H' => ∀ cls dd, ExRep K im H' cls dd x → Ex cls dd H')
variable {K} {Ω : Type} {G : Gam im Ω} {W : WX} {ta tb te : TE} {Fa Fb : E Ω D} {tr : TA} {Fr : E Ω (List D)}
def lift {Ω α : Type} (r : R Unit α) (ω : Ω) : R Ω α := match r with
  | .ok a _ => .ok a ω
  | .ex x _ => .ex x ω
  | .no => .no
@[simp] theorem lift_ok {Ω α : Type} (a : α) (ω : Ω) (u : Unit) : lift (.ok a u) ω = .ok a ω := rfl
@[simp] theorem lift_no {Ω α : Type} (ω : Ω) : lift (.no : R Unit α) ω = .no := rfl
/-- no exception is met -/
def nox {Ω α : Type} (r : R Ω α) : R Ω α := match r with
  | .ok a ω => .ok a ω
  | _ => .no
@[simp] theorem nox_ok {Ω α : Type} (a : α) (ω : Ω) : nox (.ok a ω) = .ok a ω := rfl
@[simp] theorem nox_no {Ω α : Type} : nox (.no : R Ω α) = .no := rfl
/-- so many arguments -/
def AN {Ω : Type} (Fr : E Ω (List D)) (n : Nat) : Prop := ∀ τ ω xs ω', Fr τ ω = .ok xs ω' → xs.length = n
theorem an_nil : AN (aNil : E Ω (List D)) 0 := fun _ _ _ _ e => by cases e; rfl
theorem an_cons {n : Nat} (h : AN Fr n) : AN (aCons Fa Fr) (n + 1) := fun τ ω xs ω' e => by
  unfold aCons at e
  cases h1 : Fa τ ω with
  | ok x ω1 =>
    rw [h1] at e
    simp only [R.bind_ok] at e
    cases h2 : Fr τ ω1 with
    | ok ys ω2 =>
      rw [h2] at e
      simp only [R.bind_ok] at e
      cases e
      rw [List.length_cons, h _ _ _ _ h2]
    | ex x ω2 => rw [h2] at e; cases e
    | no => rw [h2] at e; cases e
  | ex x ω1 => rw [h1] at e; cases e
  | no => rw [h1] at e; cases e
def cD (F : List D → R Unit D) (a : E Ω (List D)) : E Ω D := fun τ ω => (a τ ω).bind fun xs ω1 => nox (lift (F xs) ω1)
def cL (F : List D → R Unit (List D)) (a : E Ω (List D)) : E Ω (List D) := fun τ ω => (a τ ω).bind fun xs ω1 => nox (lift (F xs) ω1)
theorem dc_D {n : Nat} {F : List D → R Unit D} (hr : DA G K W tr Fr) (hn : AN Fr n) : DE G K W (tCall (spD K im n F) [] E0 tr) (cD F Fr) := by
  intro H0 σ H ω τ s t Q h
  have hr' := hr H0 σ H ω τ s t
  cases e0 : Fr τ ω with
  | ok xs ω1 =>
    have hl := hn τ ω xs ω1 e0
    unfold cD at h
    rw [e0] at h hr'
    refine hr' _ fun H1 k1 t1 vs r => ?_
    have h1 : Res G (nox (lift (F xs) ω1)) H (kD G K Q) (kX G K W σ) := h
    refine ⟨by rw [List.append_nil, r.length, hl], xs, by rw [List.append_nil]; exact r, ?_⟩
    cases e : F xs with
    | ok d u =>
      rw [e] at h1
      exact fun v H' sm rv => h1 H' (k1.trans (.of sm)) (At.same t1 sm) v rv
    | ex x u => rw [e] at h1; exact h1.elim
    | no => rw [e] at h1; exact h1.elim
  | ex x ω1 =>
    unfold cD at h
    rw [e0] at h hr'
    exact hr' _ h
  | no => unfold cD at h; rw [e0] at h; exact h.elim
theorem dc_L {n : Nat} {F : List D → R Unit (List D)} (hr : DA G K W tr Fr) (hn : AN Fr n) : DL G K W (tCall (spL K im n F) [] E0 tr) (cL F Fr) := by
  intro H0 σ H ω τ s t Q h
  have hr' := hr H0 σ H ω τ s t
  cases e0 : Fr τ ω with
  | ok xs ω1 =>
    have hl := hn τ ω xs ω1 e0
    unfold cL at h
    rw [e0] at h hr'
    refine hr' _ fun H1 k1 t1 vs r => ?_
    have h1 : Res G (nox (lift (F xs) ω1)) H _ (kX G K W σ) := h
    refine ⟨by rw [List.append_nil, r.length, hl], xs, by rw [List.append_nil]; exact r, ?_⟩
    cases e : F xs with
    | ok d u =>
      rw [e] at h1
      refine fun p vs' H' sm hp hl' rv => h1 H' (k1.trans (.of sm)) (At.same t1 sm) p vs' ?_ hl' rv
      cases e2 : H p with
      | none => rfl
      | some o =>
        by_cases f : G.FP p
        · exact absurd hp (G.trk t1 p f)
        · have := k1 p o e2 f; rw [hp] at this; cases this
    | ex x u => rw [e] at h1; exact h1.elim
    | no => rw [e] at h1; exact h1.elim
  | ex x ω1 =>
    unfold cL at h
    rw [e0] at h hr'
    exact hr' _ h
  | no => unfold cL at h; rw [e0] at h; exact h.elim
/-- the thing itself stands in slot i and is handed on as the first argument -/
def cW (F : List D → Ω → R Ω D) (i : Nat) (a : E Ω (List D)) : E Ω D := fun τ ω => match τ[i]? with
  | some (some .src) => (a τ ω).bind fun xs ω1 => nox (F xs ω1)
  | _ => .no
theorem dc_W {P : Type} {Γ : P → Gam im Ω} {p : P} {n m i : Nat} {F : List D → Ω → R Ω D} {tr : TA} {Fr : E Ω (List D)} (hr : DA (Γ p) K W tr Fr) (hn : AN Fr m) (hm : m + 1 = n := by rfl) :
    DE (Γ p) K W (tCall (spW K Γ n 0 F) [] E0 (tCons (tVar i) tr)) (cW F i Fr) := by
  intro H0 σ H ω τ s t Q h
  unfold cW at h
  split at h
  · rename_i hx
    refine ⟨_, s.getS hx, ?_⟩
    have hr' := hr H0 σ H ω τ s t
    cases e0 : Fr τ ω with
    | ok xs ω1 =>
      have hl := hn τ ω xs ω1 e0
      rw [e0] at h hr'
      refine hr' _ fun H1 k1 t1 vs r => ?_
      have h1 : Res (Γ p) (nox (F xs ω1)) H (kD (Γ p) K Q) (kX (Γ p) K W σ) := h
      refine ⟨by rw [List.append_nil, List.length_cons, r.length, hl, hm], p, ω1, vs, xs, by rw [List.append_nil] <;> rfl, t1, r, ?_⟩
      have h2 := h1.mono k1
      cases e : F xs ω1 with
      | ok d u => rw [e] at h2; exact h2
      | ex x u => rw [e] at h2; exact h2.elim
      | no => rw [e] at h2; exact h2.elim
    | ex x ω1 =>
      rw [e0] at h hr'
      exact hr' _ h
    | no => rw [e0] at h; exact h.elim
  · exact h.elim
end
end DL
namespace DL
open PySem PySem.Spec PyProof.Rows L2
inductive Fl where
  | nx (τ : Tau)
  | rt (d : D)
  | bk (τ : Tau)
  | ct (τ : Tau)
  | rs (x : Exn) (τ : Tau)
  | rl (ds : List D)
section
variable {im : Addr → Bool} {Ω : Type} (G : Gam im Ω) (K : PySem.W.Frag)
abbrev S (Ω : Type) := Tau → Ω → Option (Fl × Ω)
def KS (H0 H : Hp) (D : Ends) (W : WX) : Option (Fl × Ω) → Prop
  | none => False
  | some (.nx τ, ω) => ∀ σ' H', Sb im H H' → STT G K H0 H' σ' τ → G.At ω H' → D.nx σ' H'
  | some (.bk τ, ω) => ∀ σ' H', Sb im H H' → STT G K H0 H' σ' τ → G.At ω H' → D.bk σ' H'
  | some (.ct τ, ω) => ∀ σ' H', Sb im H H' → STT G K H0 H' σ' τ → G.At ω H' → D.ct σ' H'
  | some (.rt d, ω) => ∀ v H', Sb im H H' → Kp G H0 H' → G.At ω H' → Rep K im H' v d → D.rt v H'
  | some (.rs x τ, ω) => ∀ σ' H', Sb im H H' → STT G K H0 H' σ' τ → G.At ω H' → ∀ cls dd, ExRep K im H' cls dd x → W cls dd σ' H'
  | some (.rl ds, ω) => ∀ p vs H', Sb im H H' → Kp G H0 H' → G.At ω H' → H0 p = none → ¬ G.FP p → H' p = some (.lst vs) → RepL K im H' vs ds → D.rt (.ref p) H'
def DS (W : WX) (ts : TS) (F : S Ω) : Prop := ∀ H0 σ H ω τ, STT G K H0 H σ τ → G.At ω H → ∀ D, KS G K H0 H D W (F τ ω) → ts D σ H
variable {G} {K}
theorem KS.mono {H0 H H1 : Hp} {D : Ends} {W : WX} {r : Option (Fl × Ω)} (h : KS G K H0 H D W r) (s : Sb im H H1) : KS G K H0 H1 D W r := by
  rcases r with _ | ⟨fl, ω⟩
  · exact h
  · cases fl with
    | nx τ => exact fun σ' H' sb => h σ' H' (s.trans sb)
    | bk τ => exact fun σ' H' sb => h σ' H' (s.trans sb)
    | ct τ => exact fun σ' H' sb => h σ' H' (s.trans sb)
    | rt d => exact fun v H' sb => h v H' (s.trans sb)
    | rs x τ => exact fun σ' H' sb => h σ' H' (s.trans sb)
    | rl ds => exact fun p vs H' sb => h p vs H' (s.trans sb)
end
section
variable {im : Addr → Bool} {Ω : Type} {G : Gam im Ω} {K : PySem.W.Frag} {W : WX} {te : TE} {Fe : E Ω D} {Fl' : E Ω (List D)} {t u : TS} {Ft Fu : S Ω} {c : TT} {Fc : E Ω Bool}
/-- an expression, then what follows with its value; what it raises leaves -/
def withE {α : Type} (e : E Ω α) (k : α → S Ω) : S Ω := fun τ ω => match e τ ω with
  | .ok a ω1 => k a τ ω1
  | .ex x ω1 => some (.rs x τ, ω1)
  | .no => none
def sNx : S Ω := fun τ ω => some (.nx τ, ω)
def sSeq (a b : S Ω) : S Ω := fun τ ω => match a τ ω with
  | some (.nx τ1, ω1) => b τ1 ω1
  | r => r
def sIf (c : E Ω Bool) (a b : S Ω) : S Ω := withE c fun x => if x then a else b
def sRet (e : E Ω D) : S Ω := withE e fun d _ ω => some (.rt d, ω)
def sRetO (i : Nat) : S Ω := fun τ ω => match τ[i]? with
  | some (some (.ow .L xs)) => some (.rt (.lst xs), ω)
  | _ => none
def sAsg (e : E Ω D) (B : D → Tau → Option Tau) : S Ω := withE e fun d τ ω => (B d τ).map fun τ' => (.nx τ', ω)
def sSetO (e : E Ω (List D)) (i : Nat) : S Ω := withE e fun ds τ ω => some (.nx (τ.set i (some (.ow .L ds))), ω)
def sApp (i : Nat) (e : E Ω D) : S Ω := fun τ ω => match τ[i]? with
  | some (some (.ow .L xs)) => withE e (fun d τ ω => if xs.length ≤ 100000 then some (.nx (τ.set i (some (.ow .L (xs ++ [d])))), ω) else none) τ ω
  | _ => none
theorem withE_kx {α : Type} {e : E Ω α} {k : α → S Ω} {τ : Tau} {ω : Ω} {H0 H : Hp} {σ : L2.St} {D : Ends} (s : STT G K H0 H σ τ) (t : G.At ω H) (h : KS G K H0 H D W (withE e k τ ω)) :
    Res G (e τ ω) H (fun a ω1 H1 => KS G K H0 H1 D W (k a τ ω1)) (kX G K W σ) := by
  unfold withE at h
  cases q : e τ ω with
  | ok a ω1 => rw [q] at h; exact fun H1 k1 t1 => h.mono (k1.sb t)
  | ex x ω1 =>
    rw [q] at h
    exact fun H1 k1 t1 cls dd r => h σ H1 (k1.sb t) (s.step t k1) t1 cls dd r
  | no => rw [q] at h; exact h.elim
theorem ds_nx : DS G K W tNext sNx := fun H0 σ H ω τ s t D h => h σ H .refl s t
theorem ds_seq (ha : DS G K W t Ft) (hb : DS G K W u Fu) : DS G K W (tSeq t u) (sSeq Ft Fu) := by
  intro H0 σ H ω τ s t' D h
  refine ha H0 σ H ω τ s t' _ ?_
  unfold sSeq at h
  cases q : Ft τ ω with
  | none => rw [q] at h; exact h
  | some p =>
    obtain ⟨fl, ω1⟩ := p
    rw [q] at h
    cases fl with
    | nx τ1 => exact fun σ' H' sb s1 t1 => hb H0 σ' H' ω1 τ1 s1 t1 D (h.mono sb)
    | bk τ1 => exact h
    | ct τ1 => exact h
    | rt d => exact h
    | rs x τ1 => exact h
    | rl d => exact h
theorem ds_if (hc : DT G K W c Fc) (ha : DS G K W t Ft) (hb : DS G K W u Fu) : DS G K W (tIfS c t u) (sIf Fc Ft Fu) := by
  intro H0 σ H ω τ s t' D h
  refine hc H0 σ H ω τ s t' _ (Res.imp (withE_kx s t' h) (fun x ω1 H1 k1 t1 h1 => ?_) fun _ _ _ _ _ q => q)
  cases x with
  | true => exact ha H0 σ H1 ω1 τ (s.step t' k1) t1 D h1
  | false => exact hb H0 σ H1 ω1 τ (s.step t' k1) t1 D h1
theorem ds_ret (he : DE G K W te Fe) : DS G K W (tRet te) (sRet Fe) := by
  intro H0 σ H ω τ s t' D h
  exact he H0 σ H ω τ s t' _ (Res.imp (withE_kx s t' h) (fun x ω1 H1 k1 t1 h1 v r => h1 v H1 .refl (s.step t' k1).fr t1 r) fun _ _ _ _ _ q => q)
theorem ds_retO {i : Nat} : DS G K W (tRet (tFrz (tVar i))) (sRetO i) := by
  intro H0 σ H ω τ s t D h
  unfold sRetO at h
  split at h
  · rename_i xs hx
    obtain ⟨l, vs, e, h1, h2, h3, h4⟩ := s.getO hx
    refine ⟨_, e, l, vs, rfl, h1, fun o => ?_⟩
    have sb : Sb im H (upd H l (.frz o (.lst vs))) := fun b u eb st => by
      have : b ≠ l := fun q => by subst q; rw [h1] at eb; cases eb; exact st
      rw [upd_ne this]; exact eb
    refine h _ _ sb (fun b u eb nf => ?_) (G.keep t (fun b u f eb => ?_) sb) (.lst ⟨o, upd_same⟩ (h2.up sb))
    · have k := s.fr b u eb nf
      have : b ≠ l := fun q => by subst q; rw [h3] at eb; cases eb
      rw [upd_ne this]; exact k
    · have : b ≠ l := fun q => h4 (q ▸ f)
      rw [upd_ne this]; exact eb
  · exact h.elim
def DG (G : Gam im Ω) (K : PySem.W.Frag) (g : TG) (sl : List Nat) (B : D → Tau → Option Tau) : Prop := ∀ H0 σ H τ v d τ', STT G K H0 H σ τ → Rep K im H v d → B d τ = some τ' →
  ∀ Q : L2.St → Hp → Prop, (∀ σ', STT G K H0 H σ' τ' → (∀ j, j ∉ sl → σ'[j]? = σ[j]?) → σ'.length = σ.length → Q σ' H) → g v σ H Q
def DGs (G : Gam im Ω) (K : PySem.W.Frag) (g : TGs) (sl : List Nat) (B : List D → Tau → Option Tau) : Prop := ∀ H0 σ H τ vs ds τ', STT G K H0 H σ τ → RepL K im H vs ds → B ds τ = some τ' →
  ∀ Q : L2.St → Hp → Prop, (∀ σ', STT G K H0 H σ' τ' → (∀ j, j ∉ sl → σ'[j]? = σ[j]?) → σ'.length = σ.length → Q σ' H) → g vs σ H Q
def bName (i : Nat) : D → Tau → Option Tau := fun d τ => some (τ.set i (some (.d d)))
def bNil : List D → Tau → Option Tau := fun ds τ => match ds with
  | [] => some τ
  | _ => none
def bCons (b : D → Tau → Option Tau) (r : List D → Tau → Option Tau) : List D → Tau → Option Tau := fun ds τ => match ds with
  | d :: ds => (b d τ).bind (r ds)
  | [] => none
def bTup (n : Nat) (r : List D → Tau → Option Tau) : D → Tau → Option Tau := fun d τ => match d with
  | .tup ds => if ds.length = n then r ds τ else none
  | .lst ds => if ds.length = n then r ds τ else none
  | _ => none
theorem dg_name {i : Nat} : DG G K (gName i) [i] (bName i) := by
  intro H0 σ H τ v d τ' s r e Q q
  cases e
  exact q _ (s.setD r i) (fun j hj => by rw [List.getElem?_set_ne]; intro z; exact hj (by simp [z])) (by simp)
theorem dgs_nil : DGs G K gNil [] bNil := by
  intro H0 σ H τ vs ds τ' s r e Q q
  cases ds with
  | nil => cases e; cases r; exact ⟨rfl, q σ s (fun _ _ => rfl) rfl⟩
  | cons d ds => cases e
theorem dgs_cons {g : TG} {gs : TGs} {sl sl' : List Nat} {b : D → Tau → Option Tau} {r : List D → Tau → Option Tau} (h1 : DG G K g sl b) (h2 : DGs G K gs sl' r) : DGs G K (gCons g gs) (sl ++ sl') (bCons b r) := by
  intro H0 σ H τ vs ds τ' s r' e Q q
  cases ds with
  | nil => cases e
  | cons d ds =>
    cases r' with
    | @cons v vs _ _ ra rb =>
      obtain ⟨τ1, e1, e2⟩ := Option.bind_eq_some_iff.mp e
      refine ⟨v, vs, rfl, h1 H0 σ H τ v d τ1 s ra e1 _ fun σ1 s1 f1 l1 => ?_⟩
      refine h2 H0 σ1 H τ1 vs ds τ' s1 rb e2 Q fun σ2 s2 f2 l2 => q σ2 s2 (fun j hj => ?_) (l2.trans l1)
      rw [List.mem_append, not_or] at hj
      rw [f2 j hj.2, f1 j hj.1]
/-- a tuple or a list is taken apart -/
def gSq (K : PySem.W.Frag) (n : Nat) (gs : TGs) : TG := fun v σ H Q => gTup K n gs v σ H Q ∨ gLst K n gs v σ H Q
theorem pg_sq {X : Cx} {pos : Pos} {es : List Expr} {k : Nat} {t : TGs} {n : Nat} (hc : X.calm = true) (h : PGs X es t)
    (hn : (assignEach es X.env).length = n := by rfl) (hst : (assignEach es X.env).findIdx? (·.1) = none := by rfl) : PG X (.Tuple es k pos) (gSq X.K n t) :=
  ⟨fun pins s σ H v u Q I r hw => hw.elim (fun q => (pg_tup (k := k) (pos := pos) hc h hn hst).run pins s σ H v u Q I r q) (fun q => (pg_lst (k := k) (pos := pos) hc h hn hst).run pins s σ H v u Q I r q)⟩
theorem dg_tup {n : Nat} {gs : TGs} {sl : List Nat} {r : List D → Tau → Option Tau} (h : DGs G K gs sl r) : DG G K (gSq K n gs) sl (bTup n r) := by
  intro H0 σ H τ v d τ' s r' e Q q
  cases r' with
  | @tup a vs ds h1 h2 =>
    simp only [bTup, Option.ite_none_right_eq_some] at e
    obtain ⟨hl, e⟩ := e
    exact .inl ⟨a, vs, rfl, h1, by rw [h2.length]; exact hl, h H0 σ H τ vs ds τ' s h2 e Q q⟩
  | @lst a vs ds h1 h2 =>
    simp only [bTup, Option.ite_none_right_eq_some] at e
    obtain ⟨hl, e⟩ := e
    exact .inr ⟨a, vs, rfl, h1.l, by rw [h2.length]; exact hl, h H0 σ H τ vs ds τ' s h2 e Q q⟩
  | _ => cases e
theorem ds_asg {g : TG} {sl : List Nat} {B : D → Tau → Option Tau} (he : DE G K W te Fe) (hg : DG G K g sl B) : DS G K W (tAsg te g) (sAsg Fe B) := by
  intro H0 σ H ω τ s t' D h
  refine he H0 σ H ω τ s t' _ (Res.imp (withE_kx s t' h) (fun d ω1 H1 k1 t1 h1 v r => ?_) fun _ _ _ _ _ q => q)
  cases e : B d τ with
  | none => rw [e] at h1; exact h1.elim
  | some τ' =>
    rw [e] at h1
    exact hg H0 σ H1 τ v d τ' (s.step t' k1) r e D.nx fun σ' s' _ _ => h1 σ' H1 .refl s' t1
theorem ds_setO {i : Nat} (he : DL G K W te Fl') : DS G K W (tAsg te (gName i)) (sSetO Fl' i) := by
  intro H0 σ H ω τ s t' D h
  refine he H0 σ H ω τ s t' _ (Res.imp (withE_kx s t' h) (fun ds ω1 H1 k1 t1 h1 p vs hp hl r => ?_) fun _ _ _ _ _ q => q)
  exact h1 _ H1 .refl (s.setO t' hp k1 hl r i) t1
theorem ds_app {i : Nat} (he : DE G K W te Fe) : DS G K W (tDrop (tBM K "list" rAppend (tVar i) (tCons te tNil))) (sApp i Fe) := by
  intro H0 σ H ω τ s t' D h
  unfold sApp at h
  split at h
  · rename_i xs hx
    obtain ⟨l, vs, e, h1, h2, h3, h4⟩ := s.getO hx
    refine ⟨_, e, .inl ⟨rfl, vs, SqL.of h1⟩, ?_⟩
    refine he H0 σ H ω τ s t' _ (Res.imp (withE_kx s t' h) (fun d ω1 H1 k1 t1 h1' v r => ?_) fun _ _ _ _ _ q => q)
    split at h1'
    · rename_i hlen
      have hl1 : H1 l = some (.lst vs) := k1 _ _ h1 h4
      have rr : RepL K im H1 (vs ++ [v]) (xs ++ [d]) := (h2.up (k1.sb t')).append (.one r)
      obtain ⟨s2, t2, sb⟩ := (s.step t' k1).mutO t1 hx e ⟨vs, hl1⟩ rr
      refine ⟨l, vs, v, rfl, rfl, hl1, Nat.lt_of_le_of_lt (by rw [h2.length]; exact hlen) (by rw [sizeLine_eq]; decide), h1' σ _ sb s2 t2⟩
    · exact h1'.elim
  · exact h.elim
def Yields (im : Addr → Bool) (K : PySem.W.Frag) (J : It) (H : Hp) (ds : List D) : Prop := ∀ (i : Nat) (H' : Hp), Sb im H H' →
  (∀ d, ds[i]? = some d → J.go i H' ∧ ∀ x H3, J.yld i H' x H3 → Same H' H3 ∧ Rep K im H3 x d) ∧ (ds.length ≤ i → J.stop i H')
def DI (G : Gam im Ω) (K : PySem.W.Frag) (W : WX) (wi : TI) (F : E Ω (List D)) : Prop := ∀ H0 σ H ω τ, STT G K H0 H σ τ → G.At ω H → ∀ R : It → Hp → Prop,
  Res G (F τ ω) H (fun ds _ H' => ∀ J, Yields im K J H' ds → R J H') (kX G K W σ) → wi σ H R
theorem yields_list {a : Addr} {H : Hp} {vs : List V} {ds : List D} (h1 : SqZ H a vs) (h2 : RepL K im H vs ds) : Yields im K (Itl K a) H ds := by
  intro i H' sb
  have q := sb.sqZ h1
  have r := h2.up sb
  refine ⟨fun d hd => ?_, fun hi => ⟨vs, q.l, by rw [r.length]; exact hi⟩⟩
  obtain ⟨v, hv, rv⟩ := r.get hd
  refine ⟨⟨vs, v, q.l, hv⟩, fun x H3 y => ?_⟩
  obtain ⟨rfl, y⟩ := y
  have := y vs q.l
  rw [hv] at this; cases this
  exact ⟨Same.refl _, rv⟩
theorem yields_tup {a : Addr} {H : Hp} {vs : List V} {ds : List D} (h1 : SqT K H a vs) (h2 : RepL K im H vs ds) : Yields im K (Itt K a) H ds := by
  intro i H' sb
  have q := sb.sqT h1
  have r := h2.up sb
  refine ⟨fun d hd => ?_, fun hi => ⟨vs, q, by rw [r.length]; exact hi⟩⟩
  obtain ⟨v, hv, rv⟩ := r.get hd
  refine ⟨⟨vs, v, q, hv⟩, fun x H3 y => ?_⟩
  obtain ⟨rfl, y⟩ := y
  have := y vs q
  rw [hv] at this; cases this
  exact ⟨Same.refl _, rv⟩
/-- lo, lo + c, .. -/
def rangeL (lo c : Int) : Nat → List D
  | 0 => []
  | n + 1 => .int lo :: rangeL (lo + c) c n
theorem rangeL_len (c : Int) : ∀ (n : Nat) (lo : Int), (rangeL lo c n).length = n
  | 0, _ => rfl
  | n + 1, lo => by rw [rangeL, List.length_cons, rangeL_len c n]
theorem rangeL_get (c : Int) : ∀ (n : Nat) (lo : Int) (i : Nat) (d : D), (rangeL lo c n)[i]? = some d → d = .int (lo + i * c) ∧ i < n
  | 0, _, i, d, h => by simp [rangeL] at h
  | n + 1, lo, 0, d, h => by
    simp [rangeL] at h
    subst h
    exact ⟨by simp, by omega⟩
  | n + 1, lo, i + 1, d, h => by
    simp only [rangeL, List.getElem?_cons_succ] at h
    obtain ⟨h1, h2⟩ := rangeL_get c n _ i d h
    refine ⟨?_, by omega⟩
    rw [h1]
    congr 1
    have : ((i + 1 : Nat) : Int) * c = (i : Int) * c + c := by rw [Int.natCast_add, Int.add_mul]; simp
    rw [this]; omega
def rg1 : List D → Option (List D)
  | [.int j] => if -(2 ^ 62) ≤ j ∧ j < 2 ^ 62 then some (rangeL 0 1 j.toNat) else none
  | _ => none
def rg2 : List D → Option (List D)
  | [.int i, .int j] => if -(2 ^ 62) ≤ i ∧ i < 2 ^ 62 ∧ -(2 ^ 62) ≤ j ∧ j < 2 ^ 62 then some (rangeL i 1 (j - i).toNat) else none
  | _ => none
def iRg (f : List D → Option (List D)) (a : E Ω (List D)) : E Ω (List D) := fun τ ω => (a τ ω).bind fun x ω1 => .ofO (f x) ω1
theorem yields_range {H : Hp} {lo : Int} {n : Nat} : Yields im K (Itr lo n) H (rangeL lo 1 n) := by
  intro i H' sb
  refine ⟨fun d hd => ?_, fun hi => by rw [rangeL_len] at hi; exact hi⟩
  obtain ⟨rfl, hi⟩ := rangeL_get 1 n lo i d hd
  refine ⟨hi, fun x H3 y => ?_⟩
  obtain ⟨rfl, rfl⟩ := y
  rw [Int.mul_one]
  exact ⟨Same.refl _, .int _⟩
theorem di_rg1 {ta : TA} {Fr : E Ω (List D)} (ha : DA G K W ta Fr) : DI G K W (iRng1 ta) (iRg rg1 Fr) := by
  intro H0 σ H ω τ s t' R h
  refine ha H0 σ H ω τ s t' _ (Res.imp (Res.bind h) (fun xs ω1 H1 k1 t1 h1 vs r => ?_) fun _ _ _ _ _ q => q)
  cases e : rg1 xs with
  | none => rw [e] at h1; exact h1.elim
  | some ds =>
    rw [e] at h1
    unfold rg1 at e
    split at e
    · cases r with
      | cons ra rb =>
        cases ra
        cases rb
        simp only [Option.ite_none_right_eq_some] at e
        obtain ⟨⟨e1, e2⟩, e3⟩ := e
        cases e3
        exact ⟨_, rfl, e1, e2, h1 H1 k1 t1 _ yields_range⟩
    · cases e
theorem di_rg2 {ta : TA} {Fr : E Ω (List D)} (ha : DA G K W ta Fr) : DI G K W (iRng2 ta) (iRg rg2 Fr) := by
  intro H0 σ H ω τ s t' R h
  refine ha H0 σ H ω τ s t' _ (Res.imp (Res.bind h) (fun xs ω1 H1 k1 t1 h1 vs r => ?_) fun _ _ _ _ _ q => q)
  cases e : rg2 xs with
  | none => rw [e] at h1; exact h1.elim
  | some ds =>
    rw [e] at h1
    unfold rg2 at e
    split at e
    · cases r with
      | cons ra rb =>
        cases ra
        cases rb with
        | cons rb rc =>
          cases rb
          cases rc
          simp only [Option.ite_none_right_eq_some] at e
          obtain ⟨⟨e1, e2, e4, e5⟩, e3⟩ := e
          cases e3
          exact ⟨_, _, rfl, ⟨e1, e2, e4, e5⟩, h1 H1 k1 t1 _ yields_range⟩
    · cases e
def loop (B : D → Tau → Option Tau) (F : S Ω) : List D → S Ω
  | [] => fun τ ω => some (.nx τ, ω)
  | d :: ds => fun τ ω => match B d τ with
    | none => none
    | some τ1 => match F τ1 ω with
      | some (.nx τ2, ω2) => loop B F ds τ2 ω2
      | some (.ct τ2, ω2) => loop B F ds τ2 ω2
      | some (.bk τ2, ω2) => some (.nx τ2, ω2)
      | r => r
def sFor (i : E Ω (List D)) (B : D → Tau → Option Tau) (F : S Ω) : S Ω := withE i fun ds => loop B F ds
theorem ds_for {wi : TI} {Fi : E Ω (List D)} {g : TG} {sl : List Nat} {B : D → Tau → Option Tau} (hi : DI G K W wi Fi) (hg : DG G K g sl B) (hb : DS G K W t Ft) : DS G K W (tFor wi g t) (sFor Fi B Ft) := by
  intro H0 σ H ω τ s t' D h
  refine hi H0 σ H ω τ s t' _ (Res.imp (withE_kx s t' h) (fun ds ω1 H1 k1 t1 h1 J y => ?_) fun _ _ _ _ _ q => q)
  refine ⟨fun i m σ' H' => m = ds.length - i ∧ i ≤ ds.length ∧ ∃ τ' ω', Sb im H1 H' ∧ STT G K H0 H' σ' τ' ∧ G.At ω' H' ∧ KS G K H0 H' D W (loop B Ft (ds.drop i) τ' ω'),
    ⟨ds.length, by simp, Nat.zero_le _, τ, ω1, .refl, s.step t' k1, t1, by simpa using h1⟩, ?_⟩
  rintro i m σ' H' ⟨rfl, hle, τ', ω', sb, s', t2, ks⟩
  by_cases hlt : i < ds.length
  · refine .inr ?_
    have hd : ds[i]? = some ds[i] := List.getElem?_eq_getElem hlt
    obtain ⟨go, yl⟩ := (y i H' sb).1 _ hd
    have hdrop : ds.drop i = ds[i] :: ds.drop (i + 1) := List.drop_eq_getElem_cons hlt
    rw [hdrop] at ks
    refine ⟨go, fun σ2 H2 => ∃ τ2 ω2, Sb im H1 H2 ∧ STT G K H0 H2 σ2 τ2 ∧ G.At ω2 H2 ∧ KS G K H0 H2 D W (loop B Ft (ds.drop (i + 1)) τ2 ω2), fun σ2 H2 ⟨τ2, ω2, a, b, c, d⟩ => ⟨_, by omega, rfl, hlt, τ2, ω2, a, b, c, d⟩, fun x H3 yx => ?_⟩
    obtain ⟨sm, rx⟩ := yl x H3 yx
    have s3 := s'.step t2 (.of sm)
    have t3 := At.same t2 sm
    unfold loop at ks
    cases eB : B ds[i] τ' with
    | none => rw [eB] at ks; exact ks.elim
    | some τ1 =>
      rw [eB] at ks
      have ks := ks.mono (Sb.of sm)
      refine hg H0 σ' H3 τ' x _ τ1 s3 rx eB _ fun σ4 s4 _ _ => ?_
      refine hb H0 σ4 H3 ω' τ1 s4 t3 _ ?_
      have base := sb.trans (Sb.of (im := im) sm)
      simp only at ks
      cases eF : Ft τ1 ω' with
      | none => rw [eF] at ks; exact ks.elim
      | some p =>
        obtain ⟨fl, ω5⟩ := p
        rw [eF] at ks
        cases fl with
        | nx τ5 => exact fun σ6 H6 sb6 s6 t6 => ⟨τ5, ω5, base.trans sb6, s6, t6, ks.mono sb6⟩
        | ct τ5 => exact fun σ6 H6 sb6 s6 t6 => ⟨τ5, ω5, base.trans sb6, s6, t6, ks.mono sb6⟩
        | bk τ5 => exact fun σ6 H6 sb6 s6 t6 => ks σ6 H6 sb6 s6 t6
        | rt d => exact ks
        | rs x τ5 => exact ks
        | rl d => exact ks
  · refine .inl ⟨(y i H' sb).2 (by omega), ?_⟩
    have : ds.drop i = [] := List.drop_eq_nil_of_le (by omega)
    rw [this] at ks
    exact ks σ' H' .refl s' t2
def wloop (c : E Ω Bool) (F : S Ω) : Nat → S Ω
  | 0 => fun _ _ => none
  | n + 1 => withE c fun b τ ω => if b then match F τ ω with
      | some (.nx τ2, ω2) => wloop c F n τ2 ω2
      | some (.ct τ2, ω2) => wloop c F n τ2 ω2
      | some (.bk τ2, ω2) => some (.nx τ2, ω2)
      | r => r
    else some (.nx τ, ω)
def sWhile (n : Tau → Ω → Nat) (c : E Ω Bool) (F : S Ω) : S Ω := fun τ ω => wloop c F (n τ ω) τ ω
theorem ds_while {n : Tau → Ω → Nat} (hc : DT G K W c Fc) (hb : DS G K W t Ft) : DS G K W (tWhile c t) (sWhile n Fc Ft) := by
  intro H0 σ H ω τ s t' D h
  refine ⟨fun m σ' H' => ∃ τ' ω', STT G K H0 H' σ' τ' ∧ G.At ω' H' ∧ KS G K H0 H' D W (wloop Fc Ft m τ' ω'), ⟨n τ ω, τ, ω, s, t', h⟩, ?_⟩
  rintro m σ' H' ⟨τ', ω', s', t2, ks⟩
  cases m with
  | zero => exact ks.elim
  | succ m =>
    unfold wloop at ks
    refine hc H0 σ' H' ω' τ' s' t2 _ (Res.imp (withE_kx s' t2 ks) (fun b ω1 H1 k1 t1 h1 => ?_) fun _ _ _ _ _ q => q)
    have s1 := s'.step t2 k1
    cases b with
    | false => exact h1 σ' H1 .refl s1 t1
    | true =>
      refine ⟨fun σ2 H2 => ∃ τ2 ω2, STT G K H0 H2 σ2 τ2 ∧ G.At ω2 H2 ∧ KS G K H0 H2 D W (wloop Fc Ft m τ2 ω2), fun σ2 H2 q => ⟨m, Nat.lt_succ_self m, q⟩, ?_⟩
      refine hb H0 σ' H1 ω1 τ' s1 t1 _ ?_
      simp only [if_true] at h1
      cases eF : Ft τ' ω1 with
      | none => rw [eF] at h1; exact h1.elim
      | some p =>
        obtain ⟨fl, ω5⟩ := p
        rw [eF] at h1
        cases fl with
        | nx τ5 => exact fun σ6 H6 sb6 s6 t6 => ⟨τ5, ω5, s6, t6, KS.mono (r := wloop Fc Ft m τ5 ω5) h1 sb6⟩
        | ct τ5 => exact fun σ6 H6 sb6 s6 t6 => ⟨τ5, ω5, s6, t6, KS.mono (r := wloop Fc Ft m τ5 ω5) h1 sb6⟩
        | bk τ5 => exact h1
        | rt d => exact h1
        | rs x τ5 => exact h1
        | rl d => exact h1
end
end DL
namespace DL
open PySem PySem.Spec PyProof.Rows L2
def wipeT (τ : Tau) : List Nat → Tau
  | [] => τ
  | v :: vs => (wipeT τ vs).set v none
section
variable {im : Addr → Bool} {Ω : Type} {G : Gam im Ω} {K : PySem.W.Frag} {W W' : WX} {te : TE} {Fe : E Ω D} {tt : TT} {Ft : E Ω Bool}
theorem STT.setN {H0 H : Hp} {σ : L2.St} {τ : Tau} (s : STT G K H0 H σ τ) (i : Nat) (v : Option V) : STT G K H0 H (σ.set i v) (τ.set i none) := by
  refine ⟨by simp [s.len], fun j w c e1 e2 => ?_, fun j k l _ _ xs ys hjk e1 e2 e3 e4 => ?_, s.fr⟩
  · by_cases hj : i = j
    · subst hj
      have hi : i < σ.length := by simpa using (List.getElem?_eq_some_iff.mp e1).1
      rw [List.getElem?_set_self (by rw [← s.len]; exact hi)] at e2
      cases e2
      exact .un
    · rw [List.getElem?_set_ne hj] at e1 e2
      exact s.ok j w c e1 e2
  · have a : i ≠ j := fun q => by
      subst q
      have hi : i < τ.length := by simpa using (List.getElem?_eq_some_iff.mp e2).1
      rw [List.getElem?_set_self hi] at e2
      cases e2
    have b : i ≠ k := fun q => by
      subst q
      have hi : i < τ.length := by simpa using (List.getElem?_eq_some_iff.mp e4).1
      rw [List.getElem?_set_self hi] at e4
      cases e4
    rw [List.getElem?_set_ne a] at e1 e2
    rw [List.getElem?_set_ne b] at e3 e4
    exact s.dj j k l xs ys hjk e1 e2 e3 e4
theorem STT.wipe {H0 H : Hp} {σ : L2.St} {τ : Tau} (s : STT G K H0 H σ τ) : ∀ vs : List Nat, STT G K H0 H (wipe σ vs) (wipeT τ vs)
  | [] => s
  | v :: vs => (STT.wipe s vs).setN v none
theorem wipe_get (σ : L2.St) : ∀ (vs : List Nat) (i : Nat), (wipe σ vs)[i]? = if i ∈ vs ∧ i < σ.length then some none else σ[i]?
  | [], i => by simp [wipe]
  | v :: vs, i => by
    unfold wipe
    by_cases hv : v = i
    · subst hv
      by_cases hl : v < σ.length
      · rw [List.getElem?_set_self (by rw [wipe_length]; exact hl), if_pos ⟨by simp, hl⟩]
      · rw [List.getElem?_eq_none (by rw [List.length_set, wipe_length]; omega), if_neg (fun h => hl h.2), List.getElem?_eq_none (by omega)]
    · rw [List.getElem?_set_ne hv, wipe_get σ vs i]
      have e : i ∈ v :: vs ↔ i ∈ vs := by simp [Ne.symm hv]
      simp only [e]
theorem wipe_ext {σ σ' : L2.St} {vs : List Nat} (h : ∀ j, j ∉ vs → σ'[j]? = (L2.wipe σ vs)[j]?) (hl : σ'.length = (L2.wipe σ vs).length) : L2.wipe σ' vs = L2.wipe σ vs := by
  apply List.ext_getElem?
  intro i
  rw [wipe_get, wipe_get]
  rw [wipe_length] at hl
  rw [hl]
  split
  · rfl
  · rename_i hn
    by_cases hm : i ∈ vs
    · have : ¬ i < σ.length := fun z => hn ⟨hm, z⟩
      rw [List.getElem?_eq_none (by omega), List.getElem?_eq_none (by omega)]
    · rw [h i hm, wipe_get, if_neg (fun z => hm z.1)]
def lcL (B : D → Tau → Option Tau) (Ft : E Ω Bool) (Fe : E Ω D) (τ : Tau) : List D → Ω → R Ω (List D)
  | [], ω => .ok [] ω
  | d :: ds, ω => match B d τ with
    | none => .no
    | some τ1 => (nox (Ft τ1 ω)).bind fun b ω1 => if b then (nox (Fe τ1 ω1)).bind fun x ω2 => (lcL B Ft Fe τ ds ω2).bind fun xs ω3 => .ok (x :: xs) ω3 else lcL B Ft Fe τ ds ω1
def eLc (vs : List Nat) (i : E Ω (List D)) (B : D → Tau → Option Tau) (Ft : E Ω Bool) (Fe : E Ω D) : E Ω (List D) := fun τ ω => (i τ ω).bind fun ds ω1 => if ds.length ≤ sizeLine then nox (lcL B Ft Fe (wipeT τ vs) ds ω1) else .no
theorem nox_eq {α : Type} {r : R Ω α} {a : α} {ω : Ω} (h : nox r = .ok a ω) : r = .ok a ω := by
  cases r <;> simp [nox] at h
  obtain ⟨rfl, rfl⟩ := h; rfl
theorem bind_eq {α β : Type} {r : R Ω α} {f : α → Ω → R Ω β} {b : β} {ω : Ω} (h : r.bind f = .ok b ω) : ∃ a ω1, r = .ok a ω1 ∧ f a ω1 = .ok b ω := by
  cases r with
  | ok a ω1 => exact ⟨a, ω1, rfl, h⟩
  | ex x ω1 => cases h
  | no => cases h
theorem dl_lc {wi : TI} {Fi : E Ω (List D)} {g : TG} {sl vs : List Nat} {B : D → Tau → Option Tau} (hi : DI G K W wi Fi) (hg : DG G K g sl B) (ht : DT G K W' tt Ft) (he : DE G K W' te Fe) (hsl : ∀ j, j ∉ vs → j ∉ sl) : DL G K W (tLc wi g tt te vs) (eLc vs Fi B Ft Fe) := by
  intro H0 σ H ω τ s t' Q h
  refine hi H0 σ H ω τ s t' _ (Res.imp (Res.bind h) (fun ds ω1 H1 k1 t1 h1 J y => ?_) fun _ _ _ _ _ q => q)
  have hlen : ds.length ≤ sizeLine := by
    by_cases hq : ds.length ≤ sizeLine
    · exact hq
    · rw [if_neg hq] at h1; exact h1.elim
  rw [if_pos hlen] at h1
  cases e0 : lcL B Ft Fe (wipeT τ vs) ds ω1 with
  | no => rw [e0] at h1; exact h1.elim
  | ex x u => rw [e0] at h1; exact h1.elim
  | ok total ωe =>
  rw [e0] at h1
  intro p hp
  have nf : ¬ G.FP p := fun f => G.trk t1 p f hp
  have hp0 : H p = none := by
    cases e : H p with
    | none => rfl
    | some o => have := k1 p o e nf; rw [hp] at this; cases this
  refine ⟨fun i m H' => m = ds.length - i ∧ i ≤ ds.length ∧ ∃ ω' acc accd rest, Kp G H1 H' ∧ H' p = some (.lst acc) ∧ RepL K im H' acc accd ∧ G.At ω' H' ∧ lcL B Ft Fe (wipeT τ vs) (ds.drop i) ω' = .ok rest ωe ∧ accd ++ rest = total ∧ acc.length ≤ i,
    ⟨ds.length, by simp, Nat.zero_le _, ω1, [], [], total, .of (Same.new hp), upd_same, .nil, At.same t1 (Same.new hp), by simpa using e0, rfl, Nat.le_refl _⟩, ?_⟩
  rintro i m H' ⟨rfl, hle, ω', acc, accd, rest, kp, hpl, racc, t2, el, eapp, hacc⟩
  have sb1 : Sb im H1 H' := kp.sb t1
  by_cases hlt : i < ds.length
  · refine .inr ?_
    have hd : ds[i]? = some ds[i] := List.getElem?_eq_getElem hlt
    obtain ⟨go, yl⟩ := (y i H' sb1).1 _ hd
    have hdrop : ds.drop i = ds[i] :: ds.drop (i + 1) := List.drop_eq_getElem_cons hlt
    rw [hdrop] at el
    unfold lcL at el
    cases eB : B ds[i] (wipeT τ vs) with
    | none => rw [eB] at el; cases el
    | some τ1 =>
    rw [eB] at el
    obtain ⟨b, ω5, ef, el⟩ := bind_eq el
    have ef := nox_eq ef
    refine ⟨go, fun H'' => ∃ m', m' = ds.length - (i + 1) ∧ i + 1 ≤ ds.length ∧ ∃ ω' acc accd rest, Kp G H1 H'' ∧ H'' p = some (.lst acc) ∧ RepL K im H'' acc accd ∧ G.At ω' H'' ∧ lcL B Ft Fe (wipeT τ vs) (ds.drop (i + 1)) ω' = .ok rest ωe ∧ accd ++ rest = total ∧ acc.length ≤ i + 1,
      fun H'' ⟨m', e, a⟩ => ⟨m', by omega, e, a⟩, fun x H3 yx => ?_⟩
    obtain ⟨sm, rx⟩ := yl x H3 yx
    have s3 : STT G K H0 H3 (L2.wipe σ vs) (wipeT τ vs) := ((((s.step t' k1).step t1 kp).step t2 (.of sm))).wipe vs
    have t3 := At.same t2 sm
    refine hg H0 (L2.wipe σ vs) H3 (wipeT τ vs) x _ τ1 s3 rx eB _ fun σ4 s4 f4 l4 => ⟨wipe_ext (fun j hj => f4 j (hsl j hj)) l4, ?_⟩
    refine ht H0 σ4 H3 ω' τ1 s4 t3 _ ?_
    rw [ef]
    intro H5 k5 t5
    have kk : Kp G H1 H5 := (kp.trans (.of sm)).trans k5
    have hp5 : H5 p = some (.lst acc) := k5 p _ (sm p _ hpl) nf
    have sb5 : Sb im H' H5 := (Sb.of sm).trans (k5.sb t3)
    cases b with
    | false =>
      simp only [Bool.false_eq_true, if_false] at el ⊢
      exact ⟨_, rfl, hlt, ω5, acc, accd, rest, kk, hp5, racc.up sb5, t5, el, eapp, by omega⟩
    | true =>
      simp only [if_true] at el ⊢
      obtain ⟨z, ω6, ee, el⟩ := bind_eq el
      have ee := nox_eq ee
      obtain ⟨rest', ω7, el2, er⟩ := bind_eq el
      cases er
      refine he H0 σ4 H5 ω5 τ1 (s4.step t3 k5) t5 _ ?_
      rw [ee]
      intro H6 k6 t6 v rv
      have hp6 : H6 p = some (.lst acc) := k6 p _ hp5 nf
      have sb6 : Sb im H' H6 := sb5.trans (k6.sb t5)
      have sbu : Sb im H6 (upd H6 p (.lst (acc ++ [v]))) := fun c u eb st => by
        have : c ≠ p := fun q => by subst q; rw [hp6] at eb; cases eb; exact st
        rw [upd_ne this]; exact eb
      refine ⟨acc, hp6, Nat.lt_of_lt_of_le (Nat.lt_of_le_of_lt hacc hlt) hlen, _, rfl, hlt, ω6, acc ++ [v], accd ++ [z], rest', fun c u eb nfc => ?_, upd_same, ((racc.up sb6).append (.one rv)).up sbu, G.keep t6 (fun c u f eb => ?_) sbu, el2, by rw [List.append_assoc]; exact eapp, by rw [List.length_append, List.length_singleton]; omega⟩
      · have : c ≠ p := fun q => by subst q; rw [hp] at eb; cases eb
        rw [upd_ne this]; exact k6 c u (kk c u eb nfc) nfc
      · have : c ≠ p := fun q => nf (q ▸ f)
        rw [upd_ne this]; exact eb
  · refine .inl ⟨(y i H' sb1).2 (by omega), ?_⟩
    have e1 : ds.drop i = [] := List.drop_eq_nil_of_le (by omega)
    rw [e1] at el
    unfold lcL at el
    cases el
    rw [List.append_nil] at eapp
    subst eapp
    exact h1 H' (k1.trans kp) t2 p acc hp0 hpl racc
end
section
variable {im : Addr → Bool} {P : Program} {w : World} {K : PySem.W.Frag} {mg : Str → Option Value} {base : Heap}
def startT (N : Nat) (cs : List Cell) : Tau := cs.map some ++ List.replicate (N - cs.length) none
/-- what a body gives -/
def runS {Ω : Type} (F : S Ω) (τ : Tau) (ω : Ω) : R Ω D := match F τ ω with
  | some (.rt d, ω') => .ok d ω'
  | some (.nx _, ω') => .ok .non ω'
  | some (.rs x _, ω') => .ex x ω'
  | _ => .no
theorem stt_start {Ω : Type} {G : Gam im Ω} {H : Hp} : ∀ {vs : List V} {cs : List Cell}, vs.length = cs.length → (∀ (i : Nat) v c, vs[i]? = some v → cs[i]? = some c → SlotOk G K H H (some v) (some c)) → (∀ c ∈ cs, ∀ k xs, c ≠ .ow k xs) → ∀ (n : Nat), STT G K H H (vs.map some ++ List.replicate (n - vs.length) none) (startT n cs) := by
  intro vs cs hl h ho n
  have no : ∀ (i : Nat) (k : OKd) (xs : List D), (startT n cs)[i]? ≠ some (some (.ow k xs)) := fun i k xs e => by
    unfold startT at e
    by_cases hi : i < cs.length
    · rw [List.getElem?_append_left (by simpa using hi), List.getElem?_map] at e
      cases q : cs[i]? with
      | none => rw [q] at e; cases e
      | some c =>
        rw [q] at e
        simp at e
        exact ho c (List.mem_of_getElem? q) k xs e
    · rw [List.getElem?_append_right (by simpa using hi)] at e
      rw [List.getElem?_replicate] at e
      split at e <;> cases e
  refine ⟨by unfold startT; simp [hl], fun i v c e1 e2 => ?_, fun i j l _ _ xs ys _ _ e2 _ _ => absurd e2 (no i _ xs), .refl⟩
  unfold startT at e2
  by_cases hi : i < cs.length
  · rw [List.getElem?_append_left (by simpa using hi), List.getElem?_map] at e2
    rw [List.getElem?_append_left (by simpa [hl] using hi), List.getElem?_map] at e1
    cases q2 : cs[i]? with
    | none => rw [q2] at e2; cases e2
    | some c' =>
      cases q1 : vs[i]? with
      | none => rw [q1] at e1; cases e1
      | some v' =>
        rw [q1] at e1; rw [q2] at e2
        simp at e1 e2
        subst e1 e2
        exact h i v' c' q1 q2
  · rw [List.getElem?_append_right (by simpa using hi)] at e2
    rw [List.getElem?_replicate] at e2
    split at e2
    · cases e2; exact .un
    · cases e2
/-- a def that changes nothing and raises nothing -/
theorem fn_D {x qual : Str} {st : Stmt} {f : Addr} {fd : FuncData} {N ps : List Str} {k : Nat} {F : S Unit} (Fn : Fun K x qual st f fd) (Sc : FnScope N ps (defScope st))
    (hb : ∀ (cdv : Value) (A : Around) (outer : List Env) (s : Shared) (H : Hp) (Ex : XK), Room k (A.deeper (envOfC qual (defScope st) s.heap.objs.size f cdv)) →
      ∃ t, PSs (cxOf CX0 P w K mg base N qual (defScope st) f cdv A outer s H Ex).nox (defBody st) t ∧ DS (gam0 im) K (fun _ _ _ _ => False) t F) :
    FnOk P w K mg base CX0 (k + 1) f fd ps (spD K im ps.length fun ds => nox (runS F (startT N.length (ds.map .d)) ())) := by
  refine Fn.ok Sc (fun vs H Q Ex h => h.1) fun cdv A outer s H vs Q Ex hr h => ?_
  obtain ⟨hl, ds, r, h⟩ := h
  obtain ⟨t, ht, hd⟩ := hb cdv A outer s H Ex hr
  refine ⟨t, ht, ?_⟩
  have st : STT (gam0 im) K H H (start N vs) (startT N.length (ds.map .d)) := stt_start (by rw [List.length_map, r.length]) (fun i v c e1 e2 => by
    rw [List.getElem?_map] at e2
    cases q : ds[i]? with
    | none => rw [q] at e2; cases e2
    | some d =>
      rw [q] at e2; cases e2
      obtain ⟨v', e3, r'⟩ := r.get q
      rw [e1] at e3; cases e3
      exact .d r') (fun c hc _ xs e => by
    obtain ⟨d, _, rfl⟩ := List.mem_map.mp hc
    cases e) _
  refine hd H (start N vs) H () _ st trivial _ ?_
  unfold runS at h
  dsimp only at h
  cases q : F (startT N.length (ds.map .d)) () with
  | none => rw [q] at h; exact h.elim
  | some p =>
    obtain ⟨fl, ω'⟩ := p
    rw [q] at h
    cases fl with
    | nx τ => exact fun σ' H' _ s t => h .non H' (fun b o e => s.fr b o e id) .non
    | rt d => exact fun v H' _ k t r => h v H' (fun b o e => k b o e id) r
    | bk τ => exact h.elim
    | ct τ => exact h.elim
    | rs x τ => exact h.elim
    | rl d => exact h.elim
/-- a def that is handed the one thing first -/
theorem fn_W {Ω Pp : Type} {Γ : Pp → Gam im Ω} {x qual : Str} {st : Stmt} {f : Addr} {fd : FuncData} {N ps : List Str} {k : Nat} {F : S Ω} (Fn : Fun K x qual st f fd) (Sc : FnScope N ps (defScope st))
    (hb : ∀ (p : Pp) (cdv : Value) (A : Around) (outer : List Env) (s : Shared) (H : Hp) (Ex : XK), Room k (A.deeper (envOfC qual (defScope st) s.heap.objs.size f cdv)) →
      ∃ t, PSs (cxOf CX0 P w K mg base N qual (defScope st) f cdv A outer s H Ex).nox (defBody st) t ∧ DS (Γ p) K (fun _ _ _ _ => False) t F) :
    FnOk P w K mg base CX0 (k + 1) f fd ps (spW K Γ ps.length 0 fun ds ω => nox (runS F (startT N.length (.src :: ds.map .d)) ω)) := by
  refine Fn.ok Sc (fun vs H Q Ex h => h.1) fun cdv A outer s H vs Q Ex hr h => ?_
  obtain ⟨hl, p, ω, ws, ds, rfl, at0, r, h⟩ := h
  obtain ⟨t, ht, hd⟩ := hb p cdv A outer s H Ex hr
  refine ⟨t, ht, ?_⟩
  have st : STT (Γ p) K H H (start N ((Γ p).obj :: ws)) (startT N.length (.src :: ds.map .d)) := stt_start (by simp [r.length]) (fun i v c e1 e2 => by
    cases i with
    | zero => simp at e1 e2; subst e1 e2; exact .src
    | succ i =>
      simp only [List.getElem?_cons_succ] at e1 e2
      rw [List.getElem?_map] at e2
      cases q : ds[i]? with
      | none => rw [q] at e2; cases e2
      | some d =>
        rw [q] at e2; cases e2
        obtain ⟨v', e3, r'⟩ := r.get q
        rw [e1] at e3; cases e3
        exact .d r') (fun c hc _ xs e => by
    rcases List.mem_cons.mp hc with q | q
    · rw [q] at e; cases e
    · obtain ⟨d, _, rfl⟩ := List.mem_map.mp q
      cases e) _
  refine hd H (start N ((Γ p).obj :: ws)) H ω _ st at0 _ ?_
  unfold runS at h
  dsimp only at h
  cases q : F (startT N.length (.src :: ds.map .d)) ω with
  | none => rw [q] at h; exact h.elim
  | some p' =>
    obtain ⟨fl, ω'⟩ := p'
    rw [q] at h
    cases fl with
    | nx τ => exact fun σ' H' _ s t => h H' s.fr t .non .non
    | rt d => exact fun v H' _ k t r => h H' k t v r
    | bk τ => exact h.elim
    | ct τ => exact h.elim
    | rs x τ => exact h.elim
    | rl d => exact h.elim
theorem FnOk.no {f : Addr} {fd : FuncData} {ps : List Str} {k : Nat} {CX : CXT} {sp : Sp} (h : ∀ vs H Q Ex, ¬ sp vs H Q Ex) : FnOk P w K mg base CX k f fd ps sp :=
  ⟨fun vs H Q Ex q => (h vs H Q Ex q).elim, fun _ _ _ H _ _ vs Q Ex _ _ _ _ q => (h vs H Q Ex q).elim⟩
theorem spD_no {n : Nat} {vs : List V} {H : Hp} {Q : VK} {Ex : XK} : ¬ spD K im n (fun _ => .no) vs H Q Ex := fun ⟨_, _, _, h⟩ => h
theorem spW_no {Ω Pp : Type} {Γ : Pp → Gam im Ω} {n j : Nat} {vs : List V} {H : Hp} {Q : VK} {Ex : XK} : ¬ spW K Γ n j (fun _ _ => .no) vs H Q Ex := fun ⟨_, _, _, _, _, _, _, _, h⟩ => h
end
end DL
namespace DL
open PySem PySem.Spec PyProof.Rows L2
section
variable {X : Cx} {tg : Expr}
def iSeq (K : PySem.W.Frag) (tl : TE) : TI := fun σ H R => tl σ H fun x H1 => ∃ a, x = .ref a ∧ (((∃ xs, SqL K H1 a xs) ∧ R (Itl K a) H1) ∨ ((∃ xs, SqT K H1 a xs) ∧ R (Itt K a) H1))
theorem pi_seq {l : Expr} {tl : TE} (hl : PE X l tl) : PI X tg l (iSeq X.K tl) := by
  constructor
  intro pn st slots hp Rr inv h
  apply thn (hl.run pn st slots hp _ inv h)
  rintro val st1 ⟨w, hp1, inv1, rel, adr, ew, q⟩
  cases ew
  cases rel
  -- the iterator is the one new object, and the heap has grown by it alone
  have grown := fun {ob : Obj} => inv1.kept (t' := st1.toks) (h' := st1.heap.push ob) fun _ _ e => Heap.get?_push_of_some _ e
  have mine : ∀ b ∈ [st1.heap.objs.size], FpOk X pn hp1 b := by
    intro b hb
    rw [List.mem_singleton.mp hb]
    exact inv1.fpOk (Nat.le_refl _) (inv1.hok.fresh (Nat.le_refl _))
  rcases q with ⟨⟨xs, hq⟩, q⟩ | ⟨⟨xs, hq⟩, q⟩
  · obtain ⟨its, _, pl, _⟩ := inv1.list hq
    apply wpAny_pyIter_list pl.isList
    exact ⟨st1.heap.objs.size, [st1.heap.objs.size], _, _, hp1, rfl, grown, turn_list adr _, ⟨_, Heap.get?_push_size _ rfl, rfl, rfl⟩, mine, q⟩
  · obtain ⟨its, _, pl, _⟩ := inv1.tuple hq
    apply wpAny_pyIter_tuple (show st1.heap.IsTuple adr its.toArray from pl)
    exact ⟨st1.heap.objs.size, [st1.heap.objs.size], _, _, hp1, rfl, grown, turn_tuple adr _, ⟨_, Heap.get?_push_size _ rfl, rfl, rfl⟩, mine, q⟩
/-- a name's list is finished behind a statement -/
def tFz (i : Nat) (t : TS) : TS := fun D σ H => t { D with nx := fun σ' H' => ∃ a xs, σ'[i]? = some (some (.ref a)) ∧ H' a = some (.lst xs) ∧ ∀ o, D.nx σ' (upd H' a (.frz o (.lst xs))) } σ H
theorem ps_fz {st : Stmt} {t : TS} (i : Nat) (h : PS X st t) : PS X st (tFz i t) := by
  refine ⟨fun pins s σ H D I q => ?_⟩
  refine thn (h.run pins s σ H _ I q) fun f s' hs => ?_
  cases f with
  | next =>
    obtain ⟨σ', H', J, a, xs, e, ha, q⟩ := hs
    obtain ⟨o, J'⟩ := Inv.freeze J ha
    exact ⟨σ', _, J', q o⟩
  | brk => exact hs
  | cont => exact hs
  | ret u => exact hs
end
section
variable {im : Addr → Bool} {Ω : Type} {G : Gam im Ω} {K : PySem.W.Frag} {W : WX} {ta tb te : TE} {Fe Fa Fb : E Ω D} {Fl' Fm' : E Ω (List D)} {t u : TS} {Ft Fu : S Ω} {c : TT} {Fc : E Ω Bool}
def D.itemsS : D → Option (List D)
  | .lst ds => some ds
  | .tup ds => some ds
  | _ => none
def iSq (a : E Ω D) : E Ω (List D) := fun τ ω => (a τ ω).bind fun x ω1 => .ofO x.itemsS ω1
theorem di_seq (he : DE G K W te Fe) : DI G K W (iSeq K te) (iSq Fe) := by
  intro H0 σ H ω τ s t' R h
  refine he H0 σ H ω τ s t' _ (Res.imp (Res.bind h) (fun x ω1 H1 k1 t1 h1 v r => ?_) fun _ _ _ _ _ q => q)
  cases r with
  | @lst a vs ds a1 a2 => exact ⟨a, rfl, .inl ⟨⟨vs, a1.l⟩, h1 H1 k1 t1 _ (yields_list a1 a2)⟩⟩
  | @tup a vs ds a1 a2 => exact ⟨a, rfl, .inr ⟨⟨vs, a1⟩, h1 H1 k1 t1 _ (yields_tup a1 a2)⟩⟩
  | _ => exact h1.elim
def fzT (i : Nat) (τ : Tau) : Option Tau := match τ[i]? with
  | some (some (.ow .L xs)) => some (τ.set i (some (.d (.lst xs))))
  | _ => none
def sFz (i : Nat) (F : S Ω) : S Ω := fun τ ω => match F τ ω with
  | some (.nx τ1, ω1) => (fzT i τ1).map fun τ2 => (.nx τ2, ω1)
  | r => r
theorem STT.fz {H0 H : Hp} {ω : Ω} {σ : L2.St} {τ : Tau} (s : STT G K H0 H σ τ) (t : G.At ω H) {i : Nat} {l : Addr} {vs : List V} {xs : List D} (h : τ[i]? = some (some (.ow .L xs))) (e : σ[i]? = some (some (.ref l))) (hl : H l = some (.lst vs)) (o : Obj) :
    STT G K H0 (upd H l (.frz o (.lst vs))) σ (τ.set i (some (.d (.lst xs)))) ∧ G.At ω (upd H l (.frz o (.lst vs))) ∧ Sb im H (upd H l (.frz o (.lst vs))) := by
  obtain ⟨l', ws', e', h1, h2, h3, h4⟩ := s.getO h
  have el : l' = l := by rw [e] at e'; cases e'; rfl
  subst el
  rw [hl] at h1; cases h1
  have sb : Sb im H (upd H l' (.frz o (.lst vs))) := fun b u eb st => by
    have : b ≠ l' := fun q => by subst q; rw [hl] at eb; cases eb; exact st
    rw [upd_ne this]; exact eb
  have at' : G.At ω (upd H l' (.frz o (.lst vs))) := G.keep t (fun b o f eb => by
    have : b ≠ l' := fun q => h4 (q ▸ f)
    rw [upd_ne this]; exact eb) sb
  refine ⟨⟨by simp [s.len], fun j w c e1 e2 => ?_, fun j k a _ _ xs' zs hjk e1 e2 e3 e4 => ?_, fun b u eb nf => ?_⟩, at', sb⟩
  · by_cases hj : i = j
    · subst hj
      have hi : i < τ.length := (List.getElem?_eq_some_iff.mp h).1
      rw [List.getElem?_set_self hi] at e2
      cases e2
      rw [e] at e1; cases e1
      exact .d (.lst ⟨o, upd_same⟩ (h2.up sb))
    · rw [List.getElem?_set_ne hj] at e2
      have q := s.ok j w c e1 e2
      cases q with
      | un => exact .un
      | d r => exact .d (r.up sb)
      | @ow l2 k2 vs2 xs2 a1 a2 a3 a4 a5 =>
        have ne : l2 ≠ l' := fun q => by
          subst q
          exact s.dj i j l2 _ _ hj e h e1 e2
        exact .ow (by rw [upd_ne ne]; exact a1) (a2.up sb) a3 a4 a5
      | src => exact .src
  · have a : i ≠ j := fun q => by
      subst q
      have hi : i < τ.length := (List.getElem?_eq_some_iff.mp h).1
      rw [List.getElem?_set_self hi] at e2; cases e2
    have b : i ≠ k := fun q => by
      subst q
      have hi : i < τ.length := (List.getElem?_eq_some_iff.mp h).1
      rw [List.getElem?_set_self hi] at e4; cases e4
    rw [List.getElem?_set_ne a] at e2
    rw [List.getElem?_set_ne b] at e4
    exact s.dj j k _ _ _ hjk e1 e2 e3 e4
  · have k := s.fr b u eb nf
    have : b ≠ l' := fun q => by subst q; rw [h3] at eb; cases eb
    rw [upd_ne this]; exact k
theorem ds_fz {i : Nat} (h : DS G K W t Ft) : DS G K W (tFz i t) (sFz i Ft) := by
  intro H0 σ H ω τ s t' D ks
  refine h H0 σ H ω τ s t' _ ?_
  unfold sFz at ks
  cases e : Ft τ ω with
  | none => rw [e] at ks; exact ks
  | some p =>
    obtain ⟨fl, ω1⟩ := p
    rw [e] at ks
    cases fl with
    | nx τ1 =>
      intro σ' H' sb s' t1
      simp only at ks
      unfold fzT at ks
      split at ks
      · rename_i xs hx
        obtain ⟨l, vs, e1, h1, _⟩ := s'.getO hx
        refine ⟨l, vs, e1, h1, fun o => ?_⟩
        obtain ⟨s2, t2, sb2⟩ := s'.fz t1 hx e1 h1 o
        exact ks _ _ (sb.trans sb2) s2 t2
      · exact ks.elim
    | bk τ1 => exact ks
    | ct τ1 => exact ks
    | rt d => exact ks
    | rs x τ1 => exact ks
    | rl d => exact ks
def sPar (i j : Nat) (a b : E Ω D) : S Ω := withE a fun x => withE b fun y τ ω => some (.nx ((τ.set i (some (.d x))).set j (some (.d y))), ω)
theorem ds_par {i j : Nat} (ha : DE G K W ta Fa) (hb : DE G K W tb Fb) : DS G K W (tPar i j (tCons ta (tCons tb tNil))) (sPar i j Fa Fb) := by
  intro H0 σ H ω τ s t' D h
  refine ha H0 σ H ω τ s t' _ (Res.imp (withE_kx s t' h) (fun x ω1 H1 k1 t1 h1 v r => ?_) fun _ _ _ _ _ q => q)
  refine hb H0 σ H1 ω1 τ (s.step t' k1) t1 _ (Res.imp (withE_kx (s.step t' k1) t1 h1) (fun y ω2 H2 k2 t2 h2 v2 r2 => ?_) fun _ _ _ _ _ q => q)
  refine ⟨v, v2, rfl, h2 _ H2 .refl ?_ t2⟩
  exact (((s.step t' k1).step t1 k2).setD (r.up (k2.sb t1)) i).setD r2 j
/-- the first is a new list that is to change -/
def sParO1 (i j : Nat) (a : E Ω (List D)) (b : E Ω D) : S Ω := withE a fun x => withE b fun y τ ω => some (.nx ((τ.set i (some (.ow .L x))).set j (some (.d y))), ω)
theorem ds_parO1 {i j : Nat} (ha : DL G K W ta Fl') (hb : DE G K W tb Fb) : DS G K W (tPar i j (tCons ta (tCons tb tNil))) (sParO1 i j Fl' Fb) := by
  intro H0 σ H ω τ s t' D h
  refine ha H0 σ H ω τ s t' _ (Res.imp (withE_kx s t' h) (fun x ω1 H1 k1 t1 h1 p vs hp hl r => ?_) fun _ _ _ _ _ q => q)
  refine hb H0 σ H1 ω1 τ (s.step t' k1) t1 _ (Res.imp (withE_kx (s.step t' k1) t1 h1) (fun y ω2 H2 k2 t2 h2 v2 r2 => ?_) fun _ _ _ _ _ q => q)
  have nf : ¬ G.FP p := fun f => G.trk t' p f hp
  refine ⟨_, v2, rfl, h2 _ H2 .refl ?_ t2⟩
  exact (s.setO t' hp (k1.trans k2) (k2 p _ hl nf) (r.up (k2.sb t1)) i).setD r2 j
/-- the second is a new list that is to change -/
def sParO2 (i j : Nat) (a : E Ω D) (b : E Ω (List D)) : S Ω := withE a fun x => withE b fun y τ ω => some (.nx ((τ.set i (some (.d x))).set j (some (.ow .L y))), ω)
theorem ds_parO2 {i j : Nat} (ha : DE G K W ta Fa) (hb : DL G K W tb Fl') : DS G K W (tPar i j (tCons ta (tCons tb tNil))) (sParO2 i j Fa Fl') := by
  intro H0 σ H ω τ s t' D h
  refine ha H0 σ H ω τ s t' _ (Res.imp (withE_kx s t' h) (fun x ω1 H1 k1 t1 h1 v r => ?_) fun _ _ _ _ _ q => q)
  refine hb H0 σ H1 ω1 τ (s.step t' k1) t1 _ (Res.imp (withE_kx (s.step t' k1) t1 h1) (fun y ω2 H2 k2 t2 h2 p vs hp hl r2 => ?_) fun _ _ _ _ _ q => q)
  refine ⟨v, _, rfl, h2 _ H2 .refl ?_ t2⟩
  exact ((s.step t' k1).setD r i).setO t1 hp k2 hl r2 j
def D.tru : D → Option Bool
  | .non => some false
  | .bl b => some b
  | .int i => some (i != 0)
  | .str x => if x.length ≤ sizeLine then some ((x.length : Int) != 0) else none
  | .tup ds => some (!ds.isEmpty)
  | .lst ds => some (!ds.isEmpty)
  | _ => none
def eTru (a : E Ω D) : E Ω Bool := fun τ ω => (a τ ω).bind fun x ω1 => .ofO x.tru ω1
def rg3 : List D → Option (List D)
  | [.int i, .int j, .int c] => if 0 < c ∧ c < 1000000000 ∧ -(2 ^ 61) ≤ i ∧ i < 2 ^ 61 ∧ -(2 ^ 61) ≤ j ∧ j < 2 ^ 61 then some (rangeL i c ((j - i + c - 1) / c).toNat) else if c = -1 ∧ -(2 ^ 61) ≤ i ∧ i < 2 ^ 61 ∧ -(2 ^ 61) ≤ j ∧ j < 2 ^ 61 then some (rangeL i c (i - j).toNat) else none
  | _ => none
end
end DL
namespace DL
open PySem PySem.Spec PyProof.Rows L2
section
variable {im : Addr → Bool} {Ω : Type} {G : Gam im Ω} {K : PySem.W.Frag} {W : WX}
theorem ediv_cap {a c : Int} (hc : 0 < c) (ha : 0 < a) : (a - 1) / c + 1 = (a + c - 1) / c := by
  have : a + c - 1 = (a - 1) + c * 1 := by omega
  rw [this, Int.add_mul_ediv_left _ _ (by omega)]
theorem rgc_up {i j c : Int} (hc : 0 < c) (h9 : c < 1000000000) (h1 : -(2 ^ 61) ≤ i) (h2 : i < 2 ^ 61) (h3 : -(2 ^ 61) ≤ j) (h4 : j < 2 ^ 61) : RgC i j c ((j - i + c - 1) / c).toNat := by
  have hn : Builtin.Range.rangeSize i j c = (((j - i + c - 1) / c).toNat : Int) := by
    unfold Builtin.Range.rangeSize
    rw [if_pos hc]
    by_cases hl : i < j
    · rw [if_pos hl]
      rw [show j - i + c - 1 = (j - i) + c - 1 by omega, ← ediv_cap hc (by omega)]
      have : 0 ≤ (j - i - 1) / c := Int.ediv_nonneg (by omega) (by omega)
      omega
    · rw [if_neg hl]
      have : (j - i + c - 1) / c ≤ 0 := by
        have h : (j - i + c - 1) / c < 1 := Int.ediv_lt_of_lt_mul hc (by omega)
        omega
      omega
  refine ⟨by omega, by omega, ?_, hn⟩
  have hsz : (((j - i + c - 1) / c).toNat : Int) ≤ 2 ^ 62 := by
    have : (j - i + c - 1) / c ≤ 2 ^ 62 := by
      have h0 : (j - i + c - 1) / c ≤ max (j - i) 0 := by
        by_cases hl : i < j
        · have : (j - i + c - 1) / c ≤ j - i := by
            have e : (j - i + c - 1) / c < (j - i) + 1 := Int.ediv_lt_of_lt_mul hc (by
              have e1 : ((j - i) + 1) * c = (j - i) * c + c := by rw [Int.add_mul]; omega
              have e2 : (j - i) ≤ (j - i) * c := by
                have := Int.mul_le_mul_of_nonneg_left (show (1 : Int) ≤ c by omega) (show 0 ≤ j - i by omega)
                omega
              omega)
            omega
          omega
        · have h : (j - i + c - 1) / c < 1 := Int.ediv_lt_of_lt_mul hc (by omega)
          omega
      omega
    omega
  unfold Builtin.Range.small
  rw [hn]
  have hc' : (c > 0) = True := eq_true hc
  simp only [Builtin.Range.rangeFitsLong, Bool.and_eq_true, Bool.or_eq_true, decide_eq_true_eq, beq_iff_eq, hc', if_true]
  omega
theorem rgc_dn {i j : Int} (h1 : -(2 ^ 61) ≤ i) (h2 : i < 2 ^ 61) (h3 : -(2 ^ 61) ≤ j) (h4 : j < 2 ^ 61) : RgC i j (-1) (i - j).toNat := by
  have hn : Builtin.Range.rangeSize i j (-1) = ((i - j).toNat : Int) := by
    unfold Builtin.Range.rangeSize
    rw [if_neg (by decide)]
    simp
    split <;> omega
  refine ⟨by omega, by omega, ?_, hn⟩
  unfold Builtin.Range.small
  rw [hn]
  simp only [Builtin.Range.rangeFitsLong, Bool.and_eq_true, Bool.or_eq_true, decide_eq_true_eq, beq_iff_eq]
  simp
  omega
theorem yields_rangeC {H : Hp} {lo c : Int} {n : Nat} : Yields im K (Itc lo c n) H (rangeL lo c n) := by
  intro i H' sb
  refine ⟨fun d hd => ?_, fun hi => by rw [rangeL_len] at hi; exact hi⟩
  obtain ⟨rfl, hi⟩ := rangeL_get c n lo i d hd
  refine ⟨hi, fun x H3 y => ?_⟩
  obtain ⟨rfl, rfl⟩ := y
  exact ⟨Same.refl _, .int _⟩
theorem di_rg3 {ta : TA} {Fr : E Ω (List D)} (ha : DA G K W ta Fr) : DI G K W (iRng3 ta) (iRg rg3 Fr) := by
  intro H0 σ H ω τ s t' R h
  refine ha H0 σ H ω τ s t' _ (Res.imp (Res.bind h) (fun xs ω1 H1 k1 t1 h1 vs r => ?_) fun _ _ _ _ _ q => q)
  cases e : rg3 xs with
  | none => rw [e] at h1; exact h1.elim
  | some ds =>
    rw [e] at h1
    unfold rg3 at e
    split at e
    · cases r with
      | cons ra rb =>
        cases ra
        cases rb with
        | cons rb rc =>
          cases rb
          cases rc with
          | cons rc rd =>
            cases rc
            cases rd
            split at e
            · rename_i q
              obtain ⟨e1, e2, e3, e4, e5, e6⟩ := q
              cases e
              exact ⟨_, _, _, _, rfl, rgc_up e1 e2 e3 e4 e5 e6, h1 H1 k1 t1 _ yields_rangeC⟩
            · simp only [Option.ite_none_right_eq_some] at e
              obtain ⟨⟨e1, e2, e3, e4, e5⟩, e7⟩ := e
              cases e7
              subst e1
              exact ⟨_, _, _, _, rfl, rgc_dn e2 e3 e4 e5, h1 H1 k1 t1 _ yields_rangeC⟩
    · cases e
end
end DL
namespace DL
open PySem PySem.Spec PyProof.Rows L2
theorem room_hu {k : Nat} {A : Around} (hr : Room k A) : A.units + 200 < cLine := by have := hr.un; omega
theorem hu1 {A : Around} (h : A.units + 200 < cLine) : A.units + 1 < cLine := by omega
/-- a def of the text, where it stands -/
structure DefOk (K : PySem.W.Frag) (mg : Str → Option Value) (name : Str) (st : Stmt) (ps : List Str) where
  f : Addr
  fd : FuncData
  F : Fun K name name st f fd
  g : mg name = some (.ref f)
  b : Binds K fd ps []
/-- what is left of the script's numbers (the next one first), of the present one, a mixed number, how many were mixed -/
structure Src where
  cells : List Int
  left : Int
  mixed : Int
  turn : Int
def srcKvs (c : Addr) (ω : Src) : List (Key × V) := [(.inr "cells", .ref c), (.inr "left", .int ω.left), (.inr "mixed", .int ω.mixed), (.inr "turn", .int ω.turn)]
def srcG (im : Addr → Bool) (p : Addr × Addr) : Gam im Src where
  At := fun ω H => H p.1 = some (.dK (srcKvs p.2 ω)) ∧ H p.2 = some (.lst (ω.cells.reverse.map V.int))
  FP := fun b => b = p.1 ∨ b = p.2
  obj := .ref p.1
  keep := fun ⟨h1, h2⟩ k _ => ⟨k _ _ (.inl rfl) h1, k _ _ (.inr rfl) h2⟩
  nost := fun ⟨h1, h2⟩ b o f e s => by
    rcases f with rfl | rfl
    · rw [h1] at e; cases e; exact s
    · rw [h2] at e; cases e; exact s
  trk := fun ⟨h1, h2⟩ b f e => by
    rcases f with rfl | rfl
    · rw [h1] at e; cases e
    · rw [h2] at e; cases e
section
variable {im : Addr → Bool} {K : PySem.W.Frag} {W : WX} {p : Addr × Addr} {te : TE} {Fe : E Src D}
/-- source['left'] and the like -/
def eSrc (i : Nat) (f : Src → Int) : E Src D := fun τ ω => match τ[i]? with
  | some (some .src) => .ok (.int (f ω)) ω
  | _ => .no
def eSrcN (i : Nat) : E Src D := fun τ ω => match τ[i]? with
  | some (some .src) => .ok (.int ω.cells.length) ω
  | _ => .no
def eSrcP (i : Nat) : E Src D := fun τ ω => match τ[i]?, ω.cells with
  | some (some .src), z :: r => .ok (.int z) { ω with cells := r }
  | _, _ => .no
def sSrc (i : Nat) (f : Src → Int → Src) (e : E Src D) : S Src := withE e fun d τ ω => match τ[i]?, d with
  | some (some .src), .int z => some (.nx τ, f ω z)
  | _, _ => none
theorem valS1 (c : Addr) (ω : Src) : valV (srcKvs c ω) (.inr "cells") = some (.ref c) := by simp [srcKvs, valV, List.find?_cons]
theorem valS2 (c : Addr) (ω : Src) : valV (srcKvs c ω) (.inr "left") = some (.int ω.left) := by
  have h : ¬ (("cells" : Str) = "left") := by decide +kernel
  simp [srcKvs, valV, List.find?_cons, h]
theorem valS3 (c : Addr) (ω : Src) : valV (srcKvs c ω) (.inr "mixed") = some (.int ω.mixed) := by
  have h : ¬ (("cells" : Str) = "mixed") := by decide +kernel
  have h2 : ¬ (("left" : Str) = "mixed") := by decide +kernel
  simp [srcKvs, valV, List.find?_cons, h, h2]
theorem valS4 (c : Addr) (ω : Src) : valV (srcKvs c ω) (.inr "turn") = some (.int ω.turn) := by
  have h : ¬ (("cells" : Str) = "turn") := by decide +kernel
  have h2 : ¬ (("left" : Str) = "turn") := by decide +kernel
  have h3 : ¬ (("mixed" : Str) = "turn") := by decide +kernel
  simp [srcKvs, valV, List.find?_cons, h, h2, h3]
theorem putS2 (c : Addr) (ω : Src) (z : Int) : putK (srcKvs c ω) (.inr "left") (.int z) = srcKvs c { ω with left := z } := by
  have h : ¬ (("cells" : Str) = "left") := by decide +kernel
  have h3 : ¬ (("mixed" : Str) = "left") := by decide +kernel
  have h4 : ¬ (("turn" : Str) = "left") := by decide +kernel
  simp [srcKvs, putK, h, h3, h4]
theorem putS3 (c : Addr) (ω : Src) (z : Int) : putK (srcKvs c ω) (.inr "mixed") (.int z) = srcKvs c { ω with mixed := z } := by
  have h : ¬ (("cells" : Str) = "mixed") := by decide +kernel
  have h2 : ¬ (("left" : Str) = "mixed") := by decide +kernel
  have h4 : ¬ (("turn" : Str) = "mixed") := by decide +kernel
  simp [srcKvs, putK, h, h2, h4]
theorem putS4 (c : Addr) (ω : Src) (z : Int) : putK (srcKvs c ω) (.inr "turn") (.int z) = srcKvs c { ω with turn := z } := by
  have h : ¬ (("cells" : Str) = "turn") := by decide +kernel
  have h2 : ¬ (("left" : Str) = "turn") := by decide +kernel
  have h3 : ¬ (("mixed" : Str) = "turn") := by decide +kernel
  simp [srcKvs, putK, h, h2, h3]
theorem de_src {i : Nat} {x : Str} {f : Src → Int} (hv : ∀ c ω, valV (srcKvs c ω) (.inr x) = some (.int (f ω))) : DE (srcG im p) K W (tDGet (tVar i) (tC (.str x))) (eSrc i f) := by
  intro H0 σ H ω τ s t Q h
  unfold eSrc at h
  split at h
  · rename_i hx
    refine ⟨_, s.getS hx, p.1, .int (f ω), rfl, ?_, h H .refl t _ (.int _)⟩
    have := DGet.k (k := .inr x) t.1
    rw [hv] at this
    exact this
  · exact h.elim
theorem de_srcL {i : Nat} : DE (srcG im p) K W (tDGet (tVar i) (tC (.str "left"))) (eSrc i Src.left) := de_src valS2
theorem de_srcM {i : Nat} : DE (srcG im p) K W (tDGet (tVar i) (tC (.str "mixed"))) (eSrc i Src.mixed) := de_src valS3
theorem de_srcT {i : Nat} : DE (srcG im p) K W (tDGet (tVar i) (tC (.str "turn"))) (eSrc i Src.turn) := de_src valS4
theorem de_srcN {i : Nat} : DE (srcG im p) K W (tCB (fun xs H Q => ∃ p ys, xs = [.ref p] ∧ (SqL K H p ys ∨ SqT K H p ys) ∧ Q (.int ys.length) H) (tCons (tDGet (tVar i) (tC (.str "cells"))) tNil)) (eSrcN i) := by
  intro H0 σ H ω τ s t Q h
  unfold eSrcN at h
  split at h
  · rename_i hx
    have g := DGet.k (k := .inr "cells") t.1
    rw [valS1] at g
    refine ⟨_, s.getS hx, p.1, .ref p.2, rfl, g, p.2, _, rfl, .inl (SqL.of t.2), ?_⟩
    have hl : (ω.cells.reverse.map V.int).length = ω.cells.length := by simp
    rw [hl]
    exact h H .refl t _ (.int _)
  · exact h.elim
theorem de_srcP {i : Nat} : DE (srcG im p) K W (tBM0 K "list" rPop (tDGet (tVar i) (tC (.str "cells")))) (eSrcP i) := by
  intro H0 σ H ω τ s t Q h
  unfold eSrcP at h
  split at h
  · rename_i z r hx hc
    have g := DGet.k (k := .inr "cells") t.1
    rw [valS1] at g
    refine ⟨_, s.getS hx, p.1, .ref p.2, rfl, g, .inl ⟨rfl, _, SqL.of t.2⟩, p.2, _, .int z, rfl, rfl, t.2, ?_, ?_⟩
    · rw [hc]; simp
    · have hd : (ω.cells.reverse.map V.int).dropLast = r.reverse.map V.int := by
        rw [hc, List.reverse_cons, List.map_append, List.map_singleton, List.dropLast_concat]
      rw [hd]
      have ne : p.1 ≠ p.2 := ne_of t.1 t.2 (by intro z; cases z)
      refine h _ (fun b o e nf => ?_) ⟨?_, upd_same⟩ _ (.int z)
      · have : b ≠ p.2 := fun q => nf (.inr q)
        rw [upd_ne this]; exact e
      · rw [upd_ne ne]; exact t.1
  · exact h.elim
theorem ds_src {i : Nat} {x : Str} {f : Src → Int → Src} (hp : ∀ c ω z, putK (srcKvs c ω) (.inr x) (.int z) = srcKvs c (f ω z)) (hf : ∀ ω z, (f ω z).cells = ω.cells) (he : DE (srcG im p) K W te Fe) : DS (srcG im p) K W (sDPut (tVar i) (tC (.str x)) te) (sSrc i f Fe) := by
  intro H0 σ H ω τ s t D h
  refine he H0 σ H ω τ s t _ (Res.imp (withE_kx s t h) (fun d ω1 H1 k1 t1 h1 v r => ?_) fun _ _ _ _ _ q => q)
  have s1 := s.step t k1
  split at h1
  · rename_i z hx
    cases r
    have ne : p.1 ≠ p.2 := ne_of t1.1 t1.2 (by intro z; cases z)
    have g := DPut.k (k := .inr x) (v := .int z) t1.1 (by show 4 < sizeLine; rw [sizeLine_eq]; decide)
    rw [hp] at g
    have sb : Sb im H1 (upd H1 p.1 (.dK (srcKvs p.2 (f ω1 z)))) := fun b o e st => by
      have : b ≠ p.1 := fun q => by subst q; rw [t1.1] at e; cases e; exact st
      rw [upd_ne this]; exact e
    have t2 : (srcG im p).At (f ω1 z) (upd H1 p.1 (.dK (srcKvs p.2 (f ω1 z)))) := ⟨upd_same, by rw [upd_ne ne.symm, hf]; exact t1.2⟩
    refine ⟨_, s1.getS hx, p.1, _, rfl, g, h1 σ _ sb ?_ t2⟩
    exact s1.step t1 fun b o e nf => by
      have : b ≠ p.1 := fun q => nf (.inl q)
      rw [upd_ne this]; exact e
  · exact h1.elim
theorem ds_srcL {i : Nat} (he : DE (srcG im p) K W te Fe) : DS (srcG im p) K W (sDPut (tVar i) (tC (.str "left")) te) (sSrc i (fun ω z => { ω with left := z }) Fe) := ds_src putS2 (fun _ _ => rfl) he
theorem ds_srcM {i : Nat} (he : DE (srcG im p) K W te Fe) : DS (srcG im p) K W (sDPut (tVar i) (tC (.str "mixed")) te) (sSrc i (fun ω z => { ω with mixed := z }) Fe) := ds_src putS3 (fun _ _ => rfl) he
theorem ds_srcT {i : Nat} (he : DE (srcG im p) K W te Fe) : DS (srcG im p) K W (sDPut (tVar i) (tC (.str "turn")) te) (sSrc i (fun ω z => { ω with turn := z }) Fe) := ds_src putS4 (fun _ _ => rfl) he
end
section
variable {im : Addr → Bool} {P : Program} {w : World} {K : PySem.W.Frag} {mg : Str → Option Value} {base : Heap}
theorem fn_Dx {x qual : Str} {st : Stmt} {f : Addr} {fd : FuncData} {N ps : List Str} {k k' j : Nat} {F : S Unit} {F' : List D → R Unit D} (Fn : Fun K x qual st f fd) (Sc : FnScope N ps (defScope st))
    (ek : k' = k + 1) (ej : j = ps.length) (eF : F' = fun ds => nox (runS F (startT N.length (ds.map .d)) ()))
    (hb : ∀ (cdv : Value) (A : Around) (outer : List Env) (s : Shared) (H : Hp) (Ex : XK), Room k (A.deeper (envOfC qual (defScope st) s.heap.objs.size f cdv)) →
      ∃ t, PSs (cxOf CX0 P w K mg base N qual (defScope st) f cdv A outer s H Ex).nox (defBody st) t ∧ DS (gam0 im) K (fun _ _ _ _ => False) t F) :
    FnOk P w K mg base CX0 k' f fd ps (spD K im j F') := by
  subst ek ej eF; exact fn_D Fn Sc hb
theorem fn_Wx {Ω Pp : Type} {Γ : Pp → Gam im Ω} {x qual : Str} {st : Stmt} {f : Addr} {fd : FuncData} {N ps : List Str} {k k' j : Nat} {F : S Ω} {F' : List D → Ω → R Ω D} (Fn : Fun K x qual st f fd) (Sc : FnScope N ps (defScope st))
    (ek : k' = k + 1) (ej : j = ps.length) (eF : F' = fun ds ω => nox (runS F (startT N.length (.src :: ds.map .d)) ω))
    (hb : ∀ (p : Pp) (cdv : Value) (A : Around) (outer : List Env) (s : Shared) (H : Hp) (Ex : XK), Room k (A.deeper (envOfC qual (defScope st) s.heap.objs.size f cdv)) →
      ∃ t, PSs (cxOf CX0 P w K mg base N qual (defScope st) f cdv A outer s H Ex).nox (defBody st) t ∧ DS (Γ p) K (fun _ _ _ _ => False) t F) :
    FnOk P w K mg base CX0 k' f fd ps (spW K Γ j 0 F') := by
  subst ek ej eF; exact fn_W Fn Sc hb
end
end DL
namespace DL
open PySem PySem.Spec PyProof.Rows L2
/-- as FnOk, for calls while nothing is being shown -/
structure GOk (P : Program) (w : World) (K : PySem.W.Frag) (mg : Str → Option Value) (base : Heap) (k : Nat) (f : Addr) (fd : FuncData) (ps : List Str) (sp : Sp) : Prop where
  arity : ∀ vs H Q Ex, sp vs H Q Ex → vs.length = ps.length
  enter : ∀ (A : Around) (outer : List Env) (s : Shared) (H : Hp) (args : Args) (us : List Value) (vs : List V) (Q : VK) (Ex : XK), A.guards = some [] → Room k A → Env0 P w K mg base A outer s H →
    BindsTo s fd args (ps.zip us) → Vals vs us → sp vs H Q Ex → codeAny (model P w) A (.call (.ref f) args) (CR CX0 outer P w H s Q Ex) s
section
variable {P : Program} {w : World} {K : PySem.W.Frag} {mg : Str → Option Value} {base : Heap} {k j : Nat} {f : Addr} {fd : FuncData} {N ps : List Str} {sp : Sp} {x qual : Str} {st : Stmt}
theorem GOk.of (F : FnOk P w K mg base CX0 k f fd ps sp) : GOk P w K mg base k f fd ps sp := ⟨F.len, fun A o s H a us vs Q Ex _ r => F.run A o s H a us vs Q Ex r⟩
theorem GOk.mono (F : GOk P w K mg base j f fd ps sp) (h : j ≤ k) : GOk P w K mg base k f fd ps sp := ⟨F.arity, fun A o s H a us vs Q Ex g r => F.enter A o s H a us vs Q Ex g (r.mono h)⟩
end
def reprD : D → Option D
  | .int i => if i.natAbs.log2 < 1920 then some (.str (toString i)) else none
  | .bl b => some (.str (if b then "True" else "False"))
  | .non => some (.str "None")
  | .str x => if (reprText x).length ≤ sizeLine then some (.str (reprText x)) else none
  | .tup ds => match (D.tup ds).py with
    | some p => if p.showable = true ∧ p.hasDict = false ∧ p.depth ≤ 150 ∧ p.shown.length ≤ sizeLine then some (.str p.shown) else none
    | none => none
  | .lst ds => match (D.lst ds).py with
    | some p => if p.showable = true ∧ p.hasDict = false ∧ p.depth ≤ 150 ∧ p.shown.length ≤ sizeLine then some (.str p.shown) else none
    | none => none
  | .dic ks _ => if ks.isEmpty = true then some (.str "{}") else none
  | _ => none
section
variable {X : Cx} {im : Addr → Bool}
theorem repr_empty {pins : List (Addr × Obj)} {s : Shared} {σ : L2.St} {H : Hp} {Q : VK} {a : Addr} {o : Obj} (hu : X.A.units + 200 < cLine) (gu : X.A.guards = some []) (I : Inv X pins σ H s) (h : H a = some (.frz o (.dK []))) (q : Q (.str "{}") H) : wpAny (model X.prog X.w) X.A (call (.builtin "repr") [.ref a]) (EP X pins σ Q) X.xe s := by
  obtain ⟨h1, h2, h3, es, ep, vs, h4, h5, _, _⟩ := I.frzK h
  have he : es = #[] := Array.eq_empty_of_size_eq_zero h5
  subst he
  have r : Reads s.heap (.ref a) (.dict []) (a :: [] ++ []) := .dict h2 h3.1 h4 .nil .nil
  refine repr_of_reads' r rfl (fun _ hm => ?_) gu (by simp [PyData.depth, PyData.depthKv]; omega) (fun _ _ e => e) (fun h' u tk more => ⟨.str _, H, I.kept more, ⟨u, rfl⟩, q⟩) (by decide +kernel)
  have : sysModules = a := by simpa using hm
  rw [this] at h1
  simp at h1
theorem repr_run {pins : List (Addr × Obj)} {s : Shared} {σ : L2.St} {H : Hp} {Q : VK} {v : V} {d : D} {p : PyData} {a : Addr} (hu : X.A.units + 200 < cLine) (gu : X.A.guards = some []) (I : Inv X pins σ H s) (rx : RelV v (.ref a)) (hd : Rep X.K im H v d) (e : d.py = some p)
    (h : p.showable = true ∧ p.hasDict = false ∧ p.depth ≤ 150 ∧ p.shown.length ≤ sizeLine) (q : Q (.str p.shown) H) : wpAny (model X.prog X.w) X.A (call (.builtin "repr") [.ref a]) (EP X pins σ Q) X.xe s := by
  obtain ⟨as, r⟩ := Dp.reads I p v (.ref a) (Rep.dp _ _ _ hd e) rx
  exact repr_of_reads' r h.1 (PyData.noDict_hsm h.2.1) gu (by omega) (fun _ _ e => e) (fun h' u tk more => ⟨.str _, H, I.kept more, ⟨u, rfl⟩, q⟩) h.2.2.2
theorem call_reprDD (hu : X.A.units + 200 < cLine) (gu : X.A.guards = some []) : CallR X (.builtin "repr") (rDN X.K im (un1 reprD)) := by
  intro pins s σ H xs us Q I r h
  obtain ⟨ds, z, hd, hz, q⟩ := h
  obtain ⟨v, d, rfl, hd, hz⟩ := un1_ok hd hz
  cases hd with
  | int i =>
    unfold reprD at hz
    dsimp only at hz
    split at hz
    · rename_i c
      cases hz
      exact SkE.call_repr_int pins s σ H _ us Q I r ⟨i, rfl, c, q _ _ (Same.refl _) (.str _)⟩
    · cases hz
  | bl b =>
    obtain ⟨u, rfl, rx⟩ := vals1 r
    cases rx
    cases hz
    exact PySem.P.repr_of_bool ⟨.str _, H, I.tok _, ⟨_, rfl⟩, q _ _ (Same.refl _) (.str _)⟩
  | non =>
    obtain ⟨u, rfl, rx⟩ := vals1 r
    cases rx
    cases hz
    exact PySem.P.repr_of_none ⟨.str _, H, I.tok _, ⟨_, rfl⟩, q _ _ (Same.refl _) (.str _)⟩
  | str x =>
    obtain ⟨u, rfl, t, rfl⟩ := vals1 r
    unfold reprD at hz
    dsimp only at hz
    split at hz
    · rename_i c
      cases hz
      exact PySem.P.repr_of_str ⟨.str _, H, I.tok _, ⟨_, rfl⟩, q _ _ (Same.refl _) (.str _)⟩ c
    · cases hz
  | @tup a vs ds h1 h2 =>
    obtain ⟨u, rfl, rx⟩ := vals1 r
    cases rx
    unfold reprD at hz
    dsimp only at hz
    cases e : (D.tup ds).py with
    | none => rw [e] at hz; cases hz
    | some p =>
      rw [e] at hz
      dsimp only at hz
      split at hz
      · rename_i c
        cases hz
        exact repr_run (v := V.ref a) hu gu I (show RelV (V.ref a) (.ref a) from rfl) (.tup h1 h2) e c (q _ _ (Same.refl _) (.str _))
      · cases hz
  | @lst a vs ds h1 h2 =>
    obtain ⟨u, rfl, rx⟩ := vals1 r
    cases rx
    unfold reprD at hz
    dsimp only at hz
    cases e : (D.lst ds).py with
    | none => rw [e] at hz; cases hz
    | some p =>
      rw [e] at hz
      dsimp only at hz
      split at hz
      · rename_i c
        cases hz
        exact repr_run (v := V.ref a) hu gu I (show RelV (V.ref a) (.ref a) from rfl) (.lst h1 h2) e c (q _ _ (Same.refl _) (.str _))
      · cases hz
  | @dic a o ks vs ds h1 h2 h3 =>
    obtain ⟨u, rfl, rx⟩ := vals1 r
    cases rx
    unfold reprD at hz
    dsimp only at hz
    split at hz
    · rename_i c
      cases hz
      obtain rfl : ks = [] := List.isEmpty_iff.mp c
      rw [List.zip_nil_left] at h1
      exact repr_empty hu gu I h1 (q _ _ (Same.refl _) (.str _))
    · cases hz
  | _ => cases hz
end
section
variable {im : Addr → Bool} {P : Program} {w : World} {K : PySem.W.Frag} {mg : Str → Option Value} {base : Heap}
theorem GOk.no {f : Addr} {fd : FuncData} {ps : List Str} {k : Nat} {sp : Sp} (h : ∀ vs H Q Ex, ¬ sp vs H Q Ex) : GOk P w K mg base k f fd ps sp :=
  ⟨fun vs H Q Ex q => (h vs H Q Ex q).elim, fun _ _ _ H _ _ vs Q Ex _ _ _ _ _ q => (h vs H Q Ex q).elim⟩
end
end DL
namespace DL
open PySem PySem.Spec PyProof.Rows L2
def D.ty : D → Option String
  | .non => some "NoneType"
  | .bl _ => some "bool"
  | .int _ => some "int"
  | .str _ => some "str"
  | .tup _ => some "tuple"
  | .lst _ => some "list"
  | .dic _ _ => some "dict"
  | _ => none
def isiD (c : String) (d : D) : Option D := match d.ty with
  | some t => (kitB t c).map .bl
  | none => none
section
variable {im : Addr → Bool} {Ω : Type} {G : Gam im Ω} {K : PySem.W.Frag} {W : WX} {te : TE} {Fe : E Ω D} {H : Hp}
theorem Rep.ty {v : V} {d : D} {t : String} (h : Rep K im H v d) (e : d.ty = some t) : TyX K H v (.type t) := by
  cases h with
  | non => cases e; exact .base .non
  | bl b => cases e; exact .base (.bl b)
  | int i => cases e; exact .base (.int i)
  | str x => cases e; exact .base (.str x)
  | tup h1 h2 =>
    cases e
    exact .base (.tup h1)
  | lst h1 h2 =>
    cases e
    obtain ⟨o, h⟩ := h1
    exact .base (.frz h)
  | dic h1 h2 h3 =>
    cases e
    exact .fDict h1
  | _ => cases e
/-- one class -/
theorem de_isi {c : String} (he : DE G K W te Fe) : DE G K W (tCB (rIsi K) (tCons te (tCons (tC (.ty c)) tNil))) (eUn (isiD c) Fe) := by
  intro H0 σ H ω τ s t Q h
  refine he H0 σ H ω τ s t _ (Res.imp (Res.bind h) (fun d ω1 H1 k1 t1 h1 v r => ?_) fun _ _ _ _ _ q => q)
  cases e : isiD c d with
  | none => rw [e] at h1; exact h1.elim
  | some z =>
    rw [e] at h1
    unfold isiD at e
    cases q : d.ty with
    | none => rw [q] at e; cases e
    | some n =>
      rw [q] at e
      obtain ⟨b, hb, rfl⟩ := Option.map_eq_some_iff.mp e
      exact ⟨v, .ty c, _, _, b, rfl, .ty c, Rep.ty r q, kit_ty hb, h1 H1 k1 t1 _ (.bl b)⟩
/-- one of two classes -/
def isi2D (c1 c2 : String) (d : D) : Option D := match d.ty with
  | some t => match kitB t c1, kitB t c2 with
    | some a, some b => some (.bl (a || b))
    | _, _ => none
  | none => none
theorem de_isi2 {c1 c2 : String} (he : DE G K W te Fe) : DE G K W (tCB (rIsiT K) (tCons te (tCons (tTup (tCons (tC (.ty c1)) (tCons (tC (.ty c2)) tNil))) tNil))) (eUn (isi2D c1 c2) Fe) := by
  intro H0 σ H ω τ s t Q h
  refine he H0 σ H ω τ s t _ (Res.imp (Res.bind h) (fun d ω1 H1 k1 t1 h1 v r => ?_) fun _ _ _ _ _ q => q)
  have h3 := h1.mono k1
  cases e : isi2D c1 c2 d with
  | none => rw [e] at h3; exact h3.elim
  | some z =>
    rw [e] at h3
    unfold isi2D at e
    cases q : d.ty with
    | none => rw [q] at e; cases e
    | some n =>
      rw [q] at e
      dsimp only at e
      split at e
      · rename_i a b ha hb
        cases e
        refine ⟨by show 2 ≤ sizeLine; rw [sizeLine_eq]; omega, fun p hp => ?_⟩
        have sm : Same H1 (upd H1 p (.tup [.ty c1, .ty c2])) := Same.new hp
        have r2 : Rep K im (upd H1 p (.tup [.ty c1, .ty c2])) v d := r.up (.of sm)
        refine ⟨v, p, [.ty c1, .ty c2], _, [.type c1, .type c2], _, rfl, upd_same, .cons (.ty c1) (.cons (.ty c2) .nil), Rep.ty r2 q, ?_, h3 _ (.of sm) (At.same t1 sm) _ (.bl _)⟩
        cases a with
        | true => exact kitAny_cons (kit_ty ha) (fun z => by cases z) fun _ => rfl
        | false => exact kitAny_cons (kit_ty ha) (fun _ => kitAny_cons (kit_ty hb) (fun z => by subst z; exact kitAny_nil) fun z => by subst z; rfl) fun z => by cases z
      · cases e
end
def D.flat : D → Bool
  | .non => true
  | .bl _ => true
  | .int _ => true
  | .str _ => true
  | _ => false
def D.v : D → V
  | .bl b => .bl b
  | .int i => .int i
  | .str x => .str x
  | _ => .non
def inF (x : D) (ys : List D) : Option Bool := if x.flat = true ∧ ys.all D.flat = true then some (inV x.v (ys.map D.v)) else none
def inB (x : D) : D → Option Bool
  | .tup ys => inF x ys
  | .lst ys => match inF x ys with
    | some b => some b
    | none => match x.py, D.pyL ys with
      | some d, some ds => if SeqAt.shaped d = true ∧ SeqAt.shaped (.list ds) = true then some (ds.any fun z => PyData.eqv z d) else none
      | _, _ => none
  | _ => none
def ninD (x y : D) : Option D := (inB x y).map fun b => .bl (!b)
section
variable {im : Addr → Bool} {K : PySem.W.Frag} {H : Hp}
theorem Rep.flat {v : V} {d : D} (h : Rep K im H v d) (f : d.flat = true) : v = d.v ∧ flatV v = true := by
  cases h <;> first | exact ⟨rfl, rfl⟩ | cases f
theorem RepL.flat : ∀ {vs : List V} {ds : List D}, RepL K im H vs ds → ds.all D.flat = true → vs = ds.map D.v ∧ vs.all flatV = true
  | _, _, .nil, _ => ⟨rfl, rfl⟩
  | _, _, .cons h t, f => by
    rw [List.all_cons, Bool.and_eq_true] at f
    obtain ⟨e1, f1⟩ := h.flat f.1
    obtain ⟨e2, f2⟩ := RepL.flat t f.2
    exact ⟨by rw [List.map_cons, ← e1, ← e2], by rw [List.all_cons, f1, f2]; rfl⟩
end
section
variable {X : Cx} {im : Addr → Bool} {pins : List (Addr × Obj)} {s : Shared} {σ : L2.St} {H : Hp} {x y : V} {u w : Value} {d e : D} {b : Bool}
/-- what the library's rules for in ask -/
theorem in_ways (hd : Rep X.K im H x d) (he : Rep X.K im H y e) (hb : inB d e = some b) :
    (∃ p xs, y = .ref p ∧ (SqL X.K H p xs ∨ SqT X.K H p xs) ∧ flatV x = true ∧ xs.all flatV = true ∧ b = inV x xs) ∨
    (∃ q qs, Dp X.K H x q ∧ Dp X.K H y (.list qs) ∧ SeqAt.shaped q = true ∧ SeqAt.shaped (.list qs) = true ∧ b = qs.any fun z => PyData.eqv z q) := by
  have flatly : ∀ {vs : List V} {ys : List D}, RepL X.K im H vs ys → inF d ys = some b → flatV x = true ∧ vs.all flatV = true ∧ b = inV x vs := by
    intro vs ys r z
    unfold inF at z
    split at z
    · rename_i c
      cases z
      obtain ⟨e1, f1⟩ := hd.flat c.1
      obtain ⟨e2, f2⟩ := r.flat c.2
      exact ⟨f1, f2, by rw [← e1, ← e2]⟩
    · cases z
  cases he with
  | tup h1 h2 =>
    obtain ⟨f1, f2, f3⟩ := flatly h2 hb
    exact .inl ⟨_, _, rfl, .inr h1, f1, f2, f3⟩
  | @lst a vs ys h1 h2 =>
    unfold inB at hb
    dsimp only at hb
    cases z : inF d ys with
    | some b' =>
      rw [z] at hb
      cases hb
      obtain ⟨f1, f2, f3⟩ := flatly h2 z
      exact .inl ⟨_, _, rfl, .inl h1.l, f1, f2, f3⟩
    | none =>
      rw [z] at hb
      dsimp only at hb
      split at hb
      · rename_i q qs e1 e2
        split at hb
        · rename_i c
          cases hb
          have e3 : (D.lst ys).py = some (.list qs) := by rw [D.py, e2]; rfl
          exact .inr ⟨q, qs, Rep.dp _ _ _ hd e1, Rep.dp _ _ _ (.lst h1 h2) e3, c.1, c.2, rfl⟩
        · cases hb
      · cases hb
  | _ => cases hb
theorem op_ninDD (hu : X.A.units + 200 < cLine) : OpR X (compareOp .NotIn) (rD2 X.K im ninD) := by
  intro pins s σ H x y v u Q I rx ry h
  obtain ⟨d, e, z, hd, he, hz, q⟩ := h
  obtain ⟨b, hb, rfl⟩ := Option.map_eq_some_iff.mp hz
  rcases in_ways hd he hb with ⟨p, xs, c1, c2, c3, c4, c5⟩ | ⟨d1, ds, c1, c2, c3, c4, c5⟩
  · exact op_notIn_seq pins s σ H x y v u Q I rx ry ⟨p, xs, c1, c2, c3, c4, by rw [← c5]; exact q _ _ (Same.refl _) (.bl _)⟩
  · exact op_notInD (by omega) pins s σ H x y v u Q I rx ry ⟨d1, ds, c1, c2, c3, c4, by rw [← c5]; exact q _ _ (Same.refl _) (.bl _)⟩
end
end DL
namespace DL
open PySem PySem.Spec PyProof.Rows L2
section
variable {Ω α β : Type}
/-- a run ends well with P, or with an exception in X -/
@[irreducible] def R.wp (r : R Ω α) (P : α → Ω → Prop) (X : Exn → Ω → Prop) : Prop := match r with
  | .ok a ω => P a ω
  | .ex x ω => X x ω
  | .no => False
@[irreducible] def sw (o : Option (Fl × Ω)) (P : Fl → Ω → Prop) : Prop := match o with
  | some (f, ω) => P f ω
  | none => False
abbrev X0 : Exn → Ω → Prop := fun _ _ => False
theorem wp_ok {a : α} {ω : Ω} {P X} : (R.ok a ω).wp P X = P a ω := by with_unfolding_all rfl
theorem wp_bind {r : R Ω α} {f : α → Ω → R Ω β} {P X} : (r.bind f).wp P X = r.wp (fun a ω => (f a ω).wp P X) X := by cases r <;> with_unfolding_all rfl
theorem wp_nox {r : R Ω α} {P X} : (nox r).wp P X = r.wp P X0 := by cases r <;> with_unfolding_all rfl
theorem wp_lift {r : R Unit α} {ω : Ω} {P X} : (lift r ω).wp P X = r.wp (fun a _ => P a ω) (fun x _ => X x ω) := by cases r <;> with_unfolding_all rfl
theorem wp_some {a : α} {ω : Ω} {P X} : (R.ofO (some a) ω).wp P X = P a ω := by with_unfolding_all rfl
theorem R.wp.mono {r : R Ω α} {P P' : α → Ω → Prop} {X X' : Exn → Ω → Prop} (h : r.wp P X) (k : ∀ a ω, P a ω → P' a ω) (kx : ∀ x ω, X x ω → X' x ω := by exact fun _ _ h => h) : r.wp P' X' := by
  cases r with
  | ok a ω => with_unfolding_all exact k _ _ h
  | ex x ω => with_unfolding_all exact kx _ _ h
  | no => with_unfolding_all exact h
theorem R.wp.equ {r : R Unit α} {a : α} (h : r.wp (fun b _ => b = a) X0) : r = .ok a () := by
  unfold R.wp at h
  cases r with
  | ok b ω' => cases h; with_unfolding_all rfl
  | ex x ω => exact h.elim
  | no => exact h.elim
theorem R.wp.ex {r : R Ω α} {P : α → Ω → Prop} (h : r.wp P X0) : ∃ a ω, r = .ok a ω ∧ P a ω := by
  cases r with
  | ok b ω' => with_unfolding_all exact ⟨_, _, rfl, h⟩
  | ex x ω => with_unfolding_all exact h.elim
  | no => with_unfolding_all exact h.elim
theorem sw_some {f : Fl} {ω : Ω} {P} : sw (some (f, ω)) P = P f ω := by with_unfolding_all rfl
theorem sw_none {P : Fl → Ω → Prop} : sw none P = False := by with_unfolding_all rfl
theorem sw.mono {o : Option (Fl × Ω)} {P P' : Fl → Ω → Prop} (h : sw o P) (k : ∀ f ω, P f ω → P' f ω) : sw o P' := by
  cases o with
  | none => with_unfolding_all exact h
  | some p => with_unfolding_all exact k _ _ h
theorem sw_withE {e : E Ω α} {k : α → S Ω} {τ : Tau} {ω : Ω} {P} : sw (withE e k τ ω) P = (e τ ω).wp (fun a ω1 => sw (k a τ ω1) P) (fun x ω1 => P (.rs x τ) ω1) := by
  unfold withE; cases e τ ω <;> with_unfolding_all rfl
theorem sw_seq {a b : S Ω} {τ : Tau} {ω : Ω} {P} : sw (sSeq a b τ ω) P = sw (a τ ω) (fun f ω1 => match f with | .nx τ1 => sw (b τ1 ω1) P | f => P f ω1) := by
  unfold sSeq
  rcases a τ ω with _ | ⟨fl, ω1⟩
  · with_unfolding_all rfl
  · cases fl <;> with_unfolding_all rfl
theorem sw_if {c : E Ω Bool} {a b : S Ω} {τ : Tau} {ω : Ω} {P} : sw (sIf c a b τ ω) P = (c τ ω).wp (fun x ω1 => if x then sw (a τ ω1) P else sw (b τ ω1) P) (fun x ω1 => P (.rs x τ) ω1) := by
  unfold sIf; rw [sw_withE]; congr; funext x ω1; cases x <;> with_unfolding_all rfl
theorem sw_ret {e : E Ω D} {τ : Tau} {ω : Ω} {P} : sw (sRet e τ ω) P = (e τ ω).wp (fun d ω1 => P (.rt d) ω1) (fun x ω1 => P (.rs x τ) ω1) := by
  unfold sRet; rw [sw_withE]; with_unfolding_all rfl
theorem sw_asg {e : E Ω D} {B : D → Tau → Option Tau} {τ : Tau} {ω : Ω} {P} : sw (sAsg e B τ ω) P = (e τ ω).wp (fun d ω1 => ∃ τ1, B d τ = some τ1 ∧ P (.nx τ1) ω1) (fun x ω1 => P (.rs x τ) ω1) := by
  unfold sAsg; rw [sw_withE]; congr; funext d ω1; cases B d τ <;> simp [sw]
theorem sw_asgN {e : E Ω D} {i : Nat} {τ : Tau} {ω : Ω} {P} : sw (sAsg e (bName i) τ ω) P = (e τ ω).wp (fun d ω1 => P (.nx (τ.set i (some (.d d)))) ω1) (fun x ω1 => P (.rs x τ) ω1) := by
  rw [sw_asg]; simp [bName]
theorem sw_setO {e : E Ω (List D)} {i : Nat} {τ : Tau} {ω : Ω} {P} : sw (sSetO e i τ ω) P = (e τ ω).wp (fun ds ω1 => P (.nx (τ.set i (some (.ow .L ds)))) ω1) (fun x ω1 => P (.rs x τ) ω1) := by
  unfold sSetO; rw [sw_withE]; with_unfolding_all rfl
theorem sw_nx {τ : Tau} {ω : Ω} {P} : sw (sNx τ ω) P = P (.nx τ) ω := by with_unfolding_all rfl
theorem sw_par {i j : Nat} {a b : E Ω D} {τ : Tau} {ω : Ω} {P} : sw (sPar i j a b τ ω) P = (a τ ω).wp (fun x ω1 => (b τ ω1).wp (fun y ω2 => P (.nx ((τ.set i (some (.d x))).set j (some (.d y)))) ω2) (fun x ω1 => P (.rs x τ) ω1)) (fun x ω1 => P (.rs x τ) ω1) := by
  unfold sPar; simp only [sw_withE]; with_unfolding_all rfl
theorem sw_parO1 {i j : Nat} {a : E Ω (List D)} {b : E Ω D} {τ : Tau} {ω : Ω} {P} : sw (sParO1 i j a b τ ω) P = (a τ ω).wp (fun x ω1 => (b τ ω1).wp (fun y ω2 => P (.nx ((τ.set i (some (.ow .L x))).set j (some (.d y)))) ω2) (fun x ω1 => P (.rs x τ) ω1)) (fun x ω1 => P (.rs x τ) ω1) := by
  unfold sParO1; simp only [sw_withE]; with_unfolding_all rfl
theorem sw_parO2 {i j : Nat} {a : E Ω D} {b : E Ω (List D)} {τ : Tau} {ω : Ω} {P} : sw (sParO2 i j a b τ ω) P = (a τ ω).wp (fun x ω1 => (b τ ω1).wp (fun y ω2 => P (.nx ((τ.set i (some (.d x))).set j (some (.ow .L y)))) ω2) (fun x ω1 => P (.rs x τ) ω1)) (fun x ω1 => P (.rs x τ) ω1) := by
  unfold sParO2; simp only [sw_withE]; with_unfolding_all rfl
theorem sw_app {i : Nat} {e : E Ω D} {τ : Tau} {ω : Ω} {P} {xs : List D} (h : τ[i]? = some (some (.ow .L xs))) (hl : xs.length ≤ 100000) : sw (sApp i e τ ω) P = (e τ ω).wp (fun d ω1 => P (.nx (τ.set i (some (.ow .L (xs ++ [d]))))) ω1) (fun x ω1 => P (.rs x τ) ω1) := by
  unfold sApp; rw [h]; simp only [sw_withE]; congr; funext d ω1; rw [if_pos hl]; with_unfolding_all rfl
theorem sw_retO {i : Nat} {τ : Tau} {ω : Ω} {P} {xs : List D} (h : τ[i]? = some (some (.ow .L xs))) : sw (sRetO i τ ω) P = P (.rt (.lst xs)) ω := by
  unfold sRetO; rw [h]; with_unfolding_all rfl
theorem sw_fz {i : Nat} {F : S Ω} {τ : Tau} {ω : Ω} {P} : sw (sFz i F τ ω) P = sw (F τ ω) (fun f ω1 => match f with | .nx τ1 => ∃ τ2, fzT i τ1 = some τ2 ∧ P (.nx τ2) ω1 | f => P f ω1) := by
  unfold sFz
  rcases F τ ω with _ | ⟨fl, ω1⟩
  · with_unfolding_all rfl
  · cases fl with
    | nx τ1 => cases e : fzT i τ1 <;> simp [sw, e]
    | _ => with_unfolding_all rfl
theorem wp_runS {F : S Ω} {τ : Tau} {ω : Ω} {P X} : (runS F τ ω).wp P X = sw (F τ ω) (fun f ω' => match f with | .rt d => P d ω' | .nx _ => P .non ω' | .rs x _ => X x ω' | _ => False) := by
  unfold runS
  rcases F τ ω with _ | ⟨fl, ω1⟩
  · with_unfolding_all rfl
  · cases fl <;> with_unfolding_all rfl
theorem sw_for {i : E Ω (List D)} {B : D → Tau → Option Tau} {F : S Ω} {τ : Tau} {ω : Ω} {P} : sw (sFor i B F τ ω) P = (i τ ω).wp (fun ds ω1 => sw (loop B F ds τ ω1) P) (fun x ω1 => P (.rs x τ) ω1) := by
  unfold sFor; rw [sw_withE]
theorem loop_aux {B : D → Tau → Option Tau} {F : S Ω} {P : Fl → Ω → Prop} (I : Nat → Tau → Ω → Prop) (ds : List D)
    (step : ∀ i d τ ω, ds[i]? = some d → I i τ ω → ∃ τ1, B d τ = some τ1 ∧ sw (F τ1 ω) (fun f ω' => match f with | .nx τ' => I (i + 1) τ' ω' | .ct τ' => I (i + 1) τ' ω' | .bk τ' => P (.nx τ') ω' | f => P f ω'))
    (fin : ∀ τ ω, I ds.length τ ω → P (.nx τ) ω) : ∀ (k : Nat) (τ : Tau) (ω : Ω), k ≤ ds.length → I k τ ω → sw (loop B F (ds.drop k) τ ω) P := by
  intro k
  generalize hn : ds.length - k = n
  induction n generalizing k with
  | zero =>
    intro τ ω hk h
    have : k = ds.length := by omega
    subst this
    rw [List.drop_length]
    with_unfolding_all exact fin _ _ h
  | succ n ih =>
    intro τ ω hk h
    have hlt : k < ds.length := by omega
    rw [List.drop_eq_getElem_cons hlt]
    obtain ⟨τ1, e1, h1⟩ := step k ds[k] τ ω (List.getElem?_eq_getElem hlt) h
    unfold loop
    rw [e1]
    dsimp only
    revert h1
    rcases F τ1 ω with _ | ⟨fl, ω2⟩
    · with_unfolding_all exact id
    · cases fl with
      | nx τ2 => with_unfolding_all exact fun h1 => ih (k + 1) (by omega) τ2 ω2 (by omega) h1
      | ct τ2 => with_unfolding_all exact fun h1 => ih (k + 1) (by omega) τ2 ω2 (by omega) h1
      | _ => with_unfolding_all exact fun h1 => h1
theorem loop_inv {B : D → Tau → Option Tau} {F : S Ω} {P : Fl → Ω → Prop} {ds : List D} {τ : Tau} {ω : Ω} (I : Nat → Tau → Ω → Prop) (h0 : I 0 τ ω)
    (step : ∀ i d τ ω, ds[i]? = some d → I i τ ω → ∃ τ1, B d τ = some τ1 ∧ sw (F τ1 ω) (fun f ω' => match f with | .nx τ' => I (i + 1) τ' ω' | .ct τ' => I (i + 1) τ' ω' | .bk τ' => P (.nx τ') ω' | f => P f ω'))
    (fin : ∀ τ ω, I ds.length τ ω → P (.nx τ) ω) : sw (loop B F ds τ ω) P := loop_aux I ds step fin 0 τ ω (Nat.zero_le _) h0
theorem wp_lc {vs : List Nat} {i : E Ω (List D)} {B : D → Tau → Option Tau} {Ft : E Ω Bool} {Fe : E Ω D} {τ : Tau} {ω : Ω} {P X} :
    (eLc vs i B Ft Fe τ ω).wp P X = (i τ ω).wp (fun ds ω1 => ds.length ≤ sizeLine ∧ (lcL B Ft Fe (wipeT τ vs) ds ω1).wp P X0) X := by
  unfold eLc
  rw [wp_bind]
  congr
  funext ds ω1
  by_cases h : ds.length ≤ sizeLine
  · rw [if_pos h, wp_nox]; simp [h]
  · rw [if_neg h]; simp [h, R.wp]
theorem lc_aux {B : D → Tau → Option Tau} {Ft : E Ω Bool} {Fe : E Ω D} {τ : Tau} (I : Nat → List D → Ω → Prop) (ds : List D)
    (step : ∀ i d acc ω, ds[i]? = some d → I i acc ω → ∃ τ1, B d τ = some τ1 ∧ (Ft τ1 ω).wp (fun b ω1 => if b then (Fe τ1 ω1).wp (fun x ω2 => I (i + 1) (acc ++ [x]) ω2) X0 else I (i + 1) acc ω1) X0)
    : ∀ (k : Nat) (acc : List D) (ω : Ω), k ≤ ds.length → I k acc ω → (lcL B Ft Fe τ (ds.drop k) ω).wp (fun xs ω' => I ds.length (acc ++ xs) ω') X0 := by
  intro k
  generalize hn : ds.length - k = n
  induction n generalizing k with
  | zero =>
    intro acc ω hk h
    have : k = ds.length := by omega
    subst this
    rw [List.drop_length]
    simpa [lcL, R.wp] using h
  | succ n ih =>
    intro acc ω hk h
    have hlt : k < ds.length := by omega
    rw [List.drop_eq_getElem_cons hlt]
    obtain ⟨τ1, e1, h1⟩ := step k ds[k] acc ω (List.getElem?_eq_getElem hlt) h
    unfold lcL
    rw [e1]
    dsimp only
    rw [wp_bind, wp_nox]
    refine h1.mono fun b ω1 h2 => ?_
    cases b with
    | false => simpa using ih (k + 1) (by omega) acc ω1 (by omega) (by simpa using h2)
    | true =>
      simp only [if_true] at h2 ⊢
      rw [wp_bind, wp_nox]
      refine h2.mono fun x ω2 h3 => ?_
      rw [wp_bind]
      refine (ih (k + 1) (by omega) (acc ++ [x]) ω2 (by omega) h3).mono fun xs ω3 h4 => ?_
      simpa [R.wp] using h4
theorem lc_inv {B : D → Tau → Option Tau} {Ft : E Ω Bool} {Fe : E Ω D} {τ : Tau} {ds : List D} {ω : Ω} {P : List D → Ω → Prop} (I : Nat → List D → Ω → Prop) (h0 : I 0 [] ω)
    (step : ∀ i d acc ω, ds[i]? = some d → I i acc ω → ∃ τ1, B d τ = some τ1 ∧ (Ft τ1 ω).wp (fun b ω1 => if b then (Fe τ1 ω1).wp (fun x ω2 => I (i + 1) (acc ++ [x]) ω2) X0 else I (i + 1) acc ω1) X0)
    (fin : ∀ acc ω, I ds.length acc ω → P acc ω) : (lcL B Ft Fe τ ds ω).wp P X0 :=
  (lc_aux I ds step 0 [] ω (Nat.zero_le _) h0).mono fun xs ω' h => fin _ _ (by simpa using h)
theorem lc_map {B : D → Tau → Option Tau} {Fe : E Ω D} {τ : Tau} {ds : List D} {ω : Ω} {P : List D → Ω → Prop} (g : Nat → D)
    (step : ∀ i d, ds[i]? = some d → ∃ τ1, B d τ = some τ1 ∧ (Fe τ1 ω).wp (fun x ω2 => x = g i ∧ ω2 = ω) X0)
    (fin : P ((List.range ds.length).map g) ω) : (lcL B bYes Fe τ ds ω).wp P X0 :=
  lc_inv (fun i acc ω' => acc = (List.range i).map g ∧ ω' = ω) ⟨rfl, rfl⟩ (fun i d acc ω' hd ⟨h1, h2⟩ => by
    subst h1 h2
    obtain ⟨τ1, e, h⟩ := step i d hd
    refine ⟨τ1, e, ?_⟩
    show R.wp (R.ok true ω') _ _
    simp only [R.wp, if_true]
    refine R.wp.mono h fun x ω2 hx => ?_
    obtain ⟨rfl, rfl⟩ := hx
    exact ⟨by rw [List.range_succ, List.map_append]; rfl, rfl⟩) (fun acc ω' ⟨h1, h2⟩ => by subst h1 h2; exact fin)
theorem while_inv {n : Tau → Ω → Nat} {c : E Ω Bool} {F : S Ω} {P : Fl → Ω → Prop} {τ : Tau} {ω : Ω} (I : Nat → Tau → Ω → Prop) (h0 : I (n τ ω) τ ω)
    (step : ∀ m τ ω, I m τ ω → 0 < m ∧ (c τ ω).wp (fun b ω1 => if b then sw (F τ ω1) (fun f ω' => match f with | .nx τ' => I (m - 1) τ' ω' | .ct τ' => I (m - 1) τ' ω' | .bk τ' => P (.nx τ') ω' | f => P f ω') else P (.nx τ) ω1) (fun x ω1 => P (.rs x τ) ω1)) : sw (sWhile n c F τ ω) P := by
  unfold sWhile
  generalize n τ ω = m at *
  induction m generalizing τ ω with
  | zero => with_unfolding_all exact absurd (step 0 τ ω h0).1 (by omega)
  | succ m ih =>
    have h1 := (step (m + 1) τ ω h0).2
    unfold wloop
    rw [sw_withE]
    refine h1.mono (fun b ω1 h2 => ?_) (fun _ _ h => h)
    cases b with
    | false => simpa [sw_some] using h2
    | true =>
      simp only [if_true] at h2 ⊢
      revert h2
      rcases F τ ω1 with _ | ⟨fl, ω2⟩
      · with_unfolding_all exact id
      · cases fl with
        | nx τ2 => with_unfolding_all exact fun h2 => ih h2
        | ct τ2 => with_unfolding_all exact fun h2 => ih h2
        | _ => with_unfolding_all exact fun h2 => h2
variable {τ : Tau} {ω : Ω}
theorem wp_var {i : Nat} {P : D → Ω → Prop} {X} {d : D} (h : τ[i]? = some (some (.d d))) : (eVar i τ ω).wp P X = P d ω := by unfold eVar; rw [h]; with_unfolding_all rfl
theorem wp_c {d : D} {P X} : ((eC d : E Ω D) τ ω).wp P X = P d ω := by with_unfolding_all rfl
theorem wp_op {f : D → D → Option D} {a b : E Ω D} {P X} : (eOp f a b τ ω).wp P X = (a τ ω).wp (fun x ω1 => (b τ ω1).wp (fun y ω2 => (R.ofO (f x y) ω2).wp P X) X) X := by
  unfold eOp; simp only [wp_bind]
theorem wp_un {f : D → Option D} {a : E Ω D} {P X} : (eUn f a τ ω).wp P X = (a τ ω).wp (fun x ω1 => (R.ofO (f x) ω1).wp P X) X := by
  unfold eUn; simp only [wp_bind]
theorem wp_call {f : List D → Option D} {a : E Ω (List D)} {P X} : (eCall f a τ ω).wp P X = (a τ ω).wp (fun x ω1 => (R.ofO (f x) ω1).wp P X) X := by
  unfold eCall; simp only [wp_bind]
theorem wp_nil {P X} : ((aNil : E Ω (List D)) τ ω).wp P X = P [] ω := by with_unfolding_all rfl
theorem wp_cons {a : E Ω D} {r : E Ω (List D)} {P X} : (aCons a r τ ω).wp P X = (a τ ω).wp (fun x ω1 => (r τ ω1).wp (fun xs ω2 => P (x :: xs) ω2) X) X := by
  unfold aCons; simp only [wp_bind, wp_ok]
theorem wp_tup {a : E Ω (List D)} {P X} : (eTup a τ ω).wp P X = (a τ ω).wp (fun xs ω1 => xs.length ≤ 1000 ∧ P (.tup xs) ω1) X := by
  unfold eTup; rw [wp_bind]; congr; funext xs ω1; by_cases h : xs.length ≤ 1000 <;> simp [h, R.wp]
theorem wp_lst {a : E Ω (List D)} {P X} : (eLst a τ ω).wp P X = (a τ ω).wp (fun xs ω1 => xs.length ≤ 1000 ∧ P xs ω1) X := by
  unfold eLst; rw [wp_bind]; congr; funext xs ω1; by_cases h : xs.length ≤ 1000 <;> simp [h, R.wp]
theorem wp_frz {a : E Ω (List D)} {P X} : (eFrz a τ ω).wp P X = (a τ ω).wp (fun xs ω1 => P (.lst xs) ω1) X := by
  unfold eFrz; rw [wp_bind]; with_unfolding_all rfl
theorem wp_b {a : E Ω D} {P X} : (eB a τ ω).wp P X = (a τ ω).wp (fun x ω1 => (R.ofO x.bool ω1).wp P X) X := by unfold eB; rw [wp_bind]
theorem wp_tru {a : E Ω D} {P X} : (eTru a τ ω).wp P X = (a τ ω).wp (fun x ω1 => (R.ofO x.tru ω1).wp P X) X := by unfold eTru; rw [wp_bind]
theorem wp_and {a b : E Ω Bool} {P X} : (bAnd a b τ ω).wp P X = (a τ ω).wp (fun x ω1 => if x then (b τ ω1).wp P X else P false ω1) X := by
  unfold bAnd; rw [wp_bind]; congr; funext x ω1; cases x <;> with_unfolding_all rfl
theorem wp_or {a b : E Ω Bool} {P X} : (bOr a b τ ω).wp P X = (a τ ω).wp (fun x ω1 => if x then P true ω1 else (b τ ω1).wp P X) X := by
  unfold bOr; rw [wp_bind]; congr; funext x ω1; cases x <;> with_unfolding_all rfl
theorem wp_not {a : E Ω Bool} {P X} : (bNot a τ ω).wp P X = (a τ ω).wp (fun x ω1 => P (!x) ω1) X := by unfold bNot; rw [wp_bind]; with_unfolding_all rfl
theorem wp_yes {P X} : ((bYes : E Ω Bool) τ ω).wp P X = P true ω := by with_unfolding_all rfl
theorem wp_eif {c : E Ω Bool} {a b : E Ω D} {P X} : (eIf c a b τ ω).wp P X = (c τ ω).wp (fun x ω1 => if x then (a τ ω1).wp P X else (b τ ω1).wp P X) X := by
  unfold eIf; rw [wp_bind]; congr; funext x ω1; cases x <;> with_unfolding_all rfl
theorem wp_oNone {P X} : ((oNone : E Ω (Option Int)) τ ω).wp P X = P none ω := by with_unfolding_all rfl
theorem wp_oSome {a : E Ω D} {P X} : (oSome a τ ω).wp P X = (a τ ω).wp (fun x ω1 => (R.ofO x.toI ω1).wp P X) X := by unfold oSome; rw [wp_bind]
theorem wp_sl {a : E Ω D} {l h : E Ω (Option Int)} {P X} : (eSl a l h τ ω).wp P X = (a τ ω).wp (fun x ω1 => (l τ ω1).wp (fun lo ω2 => (h τ ω2).wp (fun hi ω3 => (R.ofO (sliceD x lo hi) ω3).wp P X) X) X) X := by
  unfold eSl; simp only [wp_bind]
theorem wp_sq {a : E Ω D} {P X} : (iSq a τ ω).wp P X = (a τ ω).wp (fun x ω1 => (R.ofO x.itemsS ω1).wp P X) X := by unfold iSq; rw [wp_bind]
theorem wp_rg {f : List D → Option (List D)} {a : E Ω (List D)} {P X} : (iRg f a τ ω).wp P X = (a τ ω).wp (fun x ω1 => (R.ofO (f x) ω1).wp P X) X := by unfold iRg; rw [wp_bind]
theorem wp_cD {F : List D → R Unit D} {a : E Ω (List D)} {P X} : (cD F a τ ω).wp P X = (a τ ω).wp (fun xs ω1 => (F xs).wp (fun d _ => P d ω1) X0) X := by
  unfold cD; simp only [wp_bind, wp_nox, wp_lift]
theorem wp_cW {F : List D → Ω → R Ω D} {i : Nat} {a : E Ω (List D)} {P X} (h : τ[i]? = some (some .src)) : (cW F i a τ ω).wp P X = (a τ ω).wp (fun xs ω1 => (F xs ω1).wp P X0) X := by
  unfold cW; rw [h]; simp only [wp_bind, wp_nox]
theorem wp_oLen {i : Nat} {P : D → Ω → Prop} {X} {xs : List D} (h : τ[i]? = some (some (.ow .L xs))) : (oLen i τ ω).wp P X = P (.int xs.length) ω := by unfold oLen; rw [h]; with_unfolding_all rfl
theorem wp_oTuple {i : Nat} {P : D → Ω → Prop} {X} {xs : List D} (h : τ[i]? = some (some (.ow .L xs))) : (oTuple i τ ω).wp P X = P (.tup xs) ω := by unfold oTuple; rw [h]; with_unfolding_all rfl
theorem wp_oIx {i : Nat} {b : E Ω D} {P : D → Ω → Prop} {X} {xs : List D} (h : τ[i]? = some (some (.ow .L xs))) : (oIx i b τ ω).wp P X = (b τ ω).wp (fun y ω1 => (R.ofO (ixD (.lst xs) y) ω1).wp P X) X := by unfold oIx; rw [h]; simp only [wp_bind]
end
section
variable {τ : Tau} {ω : Src}
theorem wp_src {i : Nat} {f : Src → Int} {P : D → Src → Prop} {X} (h : τ[i]? = some (some .src)) : (eSrc i f τ ω).wp P X = P (.int (f ω)) ω := by unfold eSrc; rw [h]; with_unfolding_all rfl
theorem wp_srcN {i : Nat} {P : D → Src → Prop} {X} (h : τ[i]? = some (some .src)) : (eSrcN i τ ω).wp P X = P (.int ω.cells.length) ω := by unfold eSrcN; rw [h]; with_unfolding_all rfl
theorem wp_srcP {i : Nat} {P : D → Src → Prop} {X} {z : Int} {r : List Int} (h : τ[i]? = some (some .src)) (e : ω.cells = z :: r) : (eSrcP i τ ω).wp P X = P (.int z) { ω with cells := r } := by unfold eSrcP; rw [h, e]; with_unfolding_all rfl
theorem sw_src {i : Nat} {f : Src → Int → Src} {e : E Src D} {P : Fl → Src → Prop} (h : τ[i]? = some (some .src)) : sw (sSrc i f e τ ω) P = (e τ ω).wp (fun d ω1 => ∃ z, d = .int z ∧ P (.nx τ) (f ω1 z)) (fun x ω1 => P (.rs x τ) ω1) := by
  unfold sSrc; rw [sw_withE]; congr; funext d ω1; rw [h]; cases d <;> simp [sw]
end
section
variable {Ω α : Type} {τ : Tau} {ω : Ω}
theorem wp_eqn {r : R Ω α} {a : α} {P X} (h : r = .ok a ω) : r.wp P X = P a ω := by rw [h]; with_unfolding_all rfl
theorem wp_ofOs {o : Option α} {a : α} {P X} (h : o = some a) : (R.ofO o ω).wp P X = P a ω := by rw [h]; with_unfolding_all rfl
theorem wp_varI {i : Nat} {P : D → Ω → Prop} {X} {d : D} (h : τ[i]? = some (some (.d d))) (k : P d ω) : (eVar i τ ω).wp P X := (wp_var h).mpr k
theorem wp_ofOI {o : Option α} {a : α} {P X} (h : o = some a) (k : P a ω) : (R.ofO o ω).wp P X := (wp_ofOs h).mpr k
theorem sw_asgI {e : E Ω D} {B : D → Tau → Option Tau} {P} (k : (e τ ω).wp (fun d ω1 => ∃ τ1, B d τ = some τ1 ∧ P (.nx τ1) ω1) (fun x ω1 => P (.rs x τ) ω1)) : sw (sAsg e B τ ω) P := sw_asg.mpr k
theorem exI {o : Option Tau} {τ1 : Tau} {P : Tau → Prop} (h : o = some τ1) (k : P τ1) : ∃ τ1, o = some τ1 ∧ P τ1 := ⟨_, h, k⟩
theorem sw_appI {i : Nat} {e : E Ω D} {P} {xs : List D} (h : τ[i]? = some (some (.ow .L xs))) (k : (e τ ω).wp (fun d ω1 => P (.nx (τ.set i (some (.ow .L (xs ++ [d]))))) ω1) (fun x ω1 => P (.rs x τ) ω1)) (hl : xs.length ≤ 100000) : sw (sApp i e τ ω) P := (sw_app h hl).mpr k
theorem sw_retOI {i : Nat} {P} {xs : List D} (h : τ[i]? = some (some (.ow .L xs))) (k : P (.rt (.lst xs)) ω) : sw (sRetO i τ ω) P := (sw_retO h).mpr k
theorem wp_oLenI {i : Nat} {P : D → Ω → Prop} {X} {xs : List D} (h : τ[i]? = some (some (.ow .L xs))) (k : P (.int xs.length) ω) : (oLen i τ ω).wp P X := (wp_oLen h).mpr k
theorem wp_oTupleI {i : Nat} {P : D → Ω → Prop} {X} {xs : List D} (h : τ[i]? = some (some (.ow .L xs))) (k : P (.tup xs) ω) : (oTuple i τ ω).wp P X := (wp_oTuple h).mpr k
theorem wp_oIxI {i : Nat} {b : E Ω D} {P : D → Ω → Prop} {X} {xs : List D} (h : τ[i]? = some (some (.ow .L xs))) (k : (b τ ω).wp (fun y ω1 => (R.ofO (ixD (.lst xs) y) ω1).wp P X) X) : (oIx i b τ ω).wp P X := (wp_oIx h).mpr k
theorem sw_srcI {τ : Tau} {ω : Src} {i : Nat} {f : Src → Int → Src} {e : E Src D} {P : Fl → Src → Prop} (h : τ[i]? = some (some .src)) (k : (e τ ω).wp (fun d ω1 => ∃ z, d = .int z ∧ P (.nx τ) (f ω1 z)) (fun x ω1 => P (.rs x τ) ω1)) : sw (sSrc i f e τ ω) P := (sw_src h).mpr k
theorem exD {i : Int} {P : Int → Prop} (k : P i) : ∃ z, D.int i = .int z ∧ P z := ⟨_, rfl, k⟩
theorem iteT {p : Prop} [Decidable p] {a b : Prop} (h : p) : (if p then a else b) = a := if_pos h
theorem iteF {p : Prop} [Decidable p] {a b : Prop} (h : ¬ p) : (if p then a else b) = b := if_neg h
end
end DL
local macro_rules
  | `(tactic| walk_at "ev1") => `(tactic| first
    | (with_reducible refine Eq.mpr DL.sw_seq ?_)
    | ((with_reducible apply DL.wp_varI); (· exact rfl))
    | (with_reducible refine Eq.mpr DL.wp_c ?_)
    | (with_reducible refine Eq.mpr DL.wp_op ?_)
    | ((with_reducible apply DL.wp_ofOI); (· first | exact rfl | assumption))
    | (with_reducible refine Eq.mpr DL.wp_cons ?_)
    | (with_reducible refine Eq.mpr DL.wp_nil ?_)
    | (with_reducible refine Eq.mpr DL.wp_cD ?_)
    | ((with_reducible refine Eq.mpr (DL.wp_cW ?evh) ?_); (case evh => exact rfl))
    | (with_reducible refine Eq.mpr DL.sw_asgN ?_)
    | (with_reducible refine Eq.mpr DL.sw_if ?_)
    | (with_reducible refine Eq.mpr DL.wp_b ?_)
    | (with_reducible refine Eq.mpr DL.sw_ret ?_)
    | (with_reducible refine Eq.mpr DL.sw_nx ?_)
    | (with_reducible refine Eq.mpr DL.wp_call ?_)
    | (with_reducible refine Eq.mpr DL.wp_tup ?_)
    | (with_reducible refine Eq.mpr DL.wp_lst ?_)
    | ((with_reducible apply And.intro); (· exact Nat.le_of_ble_eq_true rfl))
    | (with_reducible refine Eq.mpr DL.wp_frz ?_)
    | (with_reducible refine DL.sw_asgI ?_)
    | ((with_reducible apply DL.exI); (· exact rfl))
    | (with_reducible apply DL.exD)
    | (with_reducible refine Eq.mpr DL.sw_setO ?_)
    | (with_reducible refine Eq.mpr DL.sw_par ?_)
    | (with_reducible refine Eq.mpr DL.sw_parO1 ?_)
    | (with_reducible refine Eq.mpr DL.sw_parO2 ?_)
    | (with_reducible refine Eq.mpr DL.sw_for ?_)
    | (with_reducible refine Eq.mpr DL.wp_rg ?_)
    | (with_reducible refine Eq.mpr DL.wp_sq ?_)
    | (with_reducible refine Eq.mpr DL.wp_lc ?_)
    | (with_reducible refine Eq.mpr DL.wp_un ?_)
    | (with_reducible refine Eq.mpr DL.wp_and ?_)
    | (with_reducible refine Eq.mpr DL.wp_or ?_)
    | (with_reducible refine Eq.mpr DL.wp_not ?_)
    | (with_reducible refine Eq.mpr DL.wp_yes ?_)
    | (with_reducible refine Eq.mpr DL.wp_tru ?_)
    | (with_reducible refine Eq.mpr DL.wp_eif ?_)
    | (with_reducible refine Eq.mpr DL.wp_sl ?_)
    | (with_reducible refine Eq.mpr DL.wp_oNone ?_)
    | (with_reducible refine Eq.mpr DL.wp_oSome ?_)
    | ((with_reducible apply DL.sw_appI); (· exact rfl))
    | ((with_reducible apply DL.sw_retOI); (· exact rfl))
    | ((with_reducible apply DL.wp_oLenI); (· exact rfl))
    | ((with_reducible apply DL.wp_oTupleI); (· exact rfl))
    | ((with_reducible apply DL.wp_oIxI); (· exact rfl))
    | ((with_reducible refine Eq.mpr (DL.wp_src ?evh) ?_); (case evh => exact rfl))
    | ((with_reducible refine Eq.mpr (DL.wp_srcN ?evh) ?_); (case evh => exact rfl))
    | ((with_reducible apply DL.sw_srcI); (· exact rfl))
    | (with_reducible refine Eq.mpr DL.sw_fz ?_)
    | (with_reducible refine Eq.mpr DL.wp_nox ?_)
    | (with_reducible refine Eq.mpr DL.wp_runS ?_)
    | ((with_reducible refine Eq.mpr (DL.iteT ?evh) ?_); (case evh => exact rfl))
    | ((with_reducible refine Eq.mpr (DL.iteF ?evh) ?_); (case evh => exact Bool.false_ne_true)))
namespace DL
open PySem
inductive Sh where
  | o
  | n (l r : Sh)
  deriving DecidableEq
namespace Sh
def size : Sh → Nat
  | .o => 1
  | .n l r => l.size + r.size
theorem size_pos : ∀ s : Sh, 1 ≤ s.size
  | .o => Nat.le_refl _
  | .n l r => by have := size_pos l; simp only [size]; omega
def py : Sh → PyData
  | .o => .tuple []
  | .n l r => .tuple [l.py, r.py]
def enc : Sh → D
  | .o => .tup []
  | .n l r => .tup [l.enc, r.enc]
theorem enc_py : ∀ s : Sh, s.enc.py = some s.py
  | .o => rfl
  | .n l r => by simp [enc, D.py, D.pyL, enc_py l, enc_py r, py]
theorem eqv : ∀ a b : Sh, PyData.eqv a.py b.py = decide (a = b)
  | .o, .o => by simp [py, PyData.eqv, PyData.eqvAll]
  | .o, .n l r => by simp [py, PyData.eqv, PyData.eqvAll]
  | .n l r, .o => by simp [py, PyData.eqv, PyData.eqvAll]
  | .n l r, .n l' r' => by
    simp only [py, PyData.eqv, PyData.eqvAll, eqv l l', eqv r r', Bool.and_true]
    by_cases h1 : l = l' <;> by_cases h2 : r = r' <;> simp [h1, h2]
theorem lay : ∀ s : Sh, s.py.canLay0 = true
  | .o => by simp [py, PyData.canLay0, PyData.canLayAll0]
  | .n l r => by simp [py, PyData.canLay0, PyData.canLayAll0, lay l, lay r]
theorem dep : ∀ s : Sh, s.py.depth ≤ s.size
  | .o => by simp [py, PyData.depth, PyData.depthAll, size]
  | .n l r => by
    have h1 := dep l; have h2 := dep r; have h3 := size_pos l; have h4 := size_pos r
    simp only [py, PyData.depth, PyData.depthAll, size]
    omega
end Sh
class Enc (α : Type) [DecidableEq α] where
  enc : α → D
  py : α → PyData
  dep : α → Nat
  e1 : ∀ a, (enc a).py = some (py a)
  e2 : ∀ a b, PyData.eqv (py a) (py b) = decide (a = b)
  e3 : ∀ a, (py a).canLay0 = true
  e4 : ∀ a, (py a).depth ≤ dep a
section
variable {α : Type} [DecidableEq α] [Enc α]
theorem pyL_map (xs : List α) : D.pyL (xs.map Enc.enc) = some (xs.map Enc.py) := by
  induction xs with
  | nil => rfl
  | cons x xs ih => simp [D.pyL, Enc.e1, ih]
theorem eqvAll_map : ∀ xs ys : List α, PyData.eqvAll (xs.map Enc.py) (ys.map Enc.py) = decide (xs = ys)
  | [], [] => by simp [PyData.eqvAll]
  | [], _ :: _ => by simp [PyData.eqvAll]
  | _ :: _, [] => by simp [PyData.eqvAll]
  | x :: xs, y :: ys => by
    simp only [List.map_cons, PyData.eqvAll, Enc.e2, eqvAll_map xs ys]
    by_cases h1 : x = y <;> by_cases h2 : xs = ys <;> simp [h1, h2]
theorem lay_map (xs : List α) : PyData.canLayAll0 (xs.map Enc.py) = true := by
  induction xs with
  | nil => simp [PyData.canLayAll0]
  | cons x xs ih => simp [PyData.canLayAll0, Enc.e3, ih]
def depL (xs : List α) : Nat := xs.foldr (fun x m => max (Enc.dep x) m) 0
theorem dep_map (xs : List α) : PyData.depthAll (xs.map Enc.py) ≤ depL xs := by
  induction xs with
  | nil => simp [PyData.depthAll, depL]
  | cons x xs ih =>
    have := Enc.e4 x
    simp only [List.map_cons, PyData.depthAll, depL, List.foldr_cons] at *
    omega
theorem depL_le {xs : List α} {k : Nat} (h : ∀ x ∈ xs, Enc.dep x ≤ k) : depL xs ≤ k := by
  induction xs with
  | nil => exact Nat.zero_le _
  | cons x xs ih =>
    have h1 := h x (by simp)
    have h2 := ih fun y hy => h y (by simp [hy])
    simp only [depL, List.foldr_cons] at *
    omega
theorem eqB_enc (a b : α) (h : Enc.dep a ≤ 150 ∨ Enc.dep b ≤ 150) : eqB (Enc.enc a) (Enc.enc b) = some (decide (a = b)) := by
  unfold eqB
  rw [Enc.e1, Enc.e1]
  have h1 := Enc.e4 a; have h2 := Enc.e4 b
  dsimp only
  rw [if_pos ⟨Enc.e3 a, Enc.e3 b, by omega⟩, Enc.e2]
end
instance : Enc Sh := ⟨Sh.enc, Sh.py, Sh.size, Sh.enc_py, Sh.eqv, Sh.lay, Sh.dep⟩
instance : Enc Int := ⟨.int, .int, fun _ => 0, fun _ => rfl, fun a b => by simp only [PyData.eqv]; rfl, fun a => by simp only [PyData.canLay0], fun a => by simp only [PyData.depth]; exact Nat.le_refl _⟩
instance : Enc Bool := ⟨.bl, .bool, fun _ => 0, fun _ => rfl, fun a b => by simp only [PyData.eqv]; cases a <;> cases b <;> rfl, fun a => by simp only [PyData.canLay0], fun a => by simp only [PyData.depth]; exact Nat.le_refl _⟩
/-- a tuple of equal kinds -/
instance {α : Type} [DecidableEq α] [Enc α] : Enc (List α) where
  enc xs := .tup (xs.map Enc.enc)
  py xs := .tuple (xs.map Enc.py)
  dep xs := depL xs + 1
  e1 xs := by simp [D.py, pyL_map]
  e2 xs ys := by simp only [PyData.eqv]; exact eqvAll_map xs ys
  e3 xs := by simp only [PyData.canLay0]; exact lay_map xs
  e4 xs := by have := dep_map xs; simp only [PyData.depth]; omega
/-- a list of equal kinds -/
structure Lst (α : Type) where
  l : List α
  deriving DecidableEq
instance {α : Type} [DecidableEq α] [Enc α] : Enc (Lst α) where
  enc xs := .lst (xs.l.map Enc.enc)
  py xs := .list (xs.l.map Enc.py)
  dep xs := depL xs.l + 1
  e1 xs := by simp [D.py, pyL_map]
  e2 xs ys := by
    simp only [PyData.eqv]; rw [eqvAll_map xs.l ys.l]
    cases xs; cases ys; simp
  e3 xs := by simp only [PyData.canLay0]; exact lay_map xs.l
  e4 xs := by have := dep_map xs.l; simp only [PyData.depth]; omega
theorem eqD_enc {α : Type} [DecidableEq α] [Enc α] (a b : α) (h : Enc.dep a ≤ 150 ∨ Enc.dep b ≤ 150) : eqD (Enc.enc a) (Enc.enc b) = some (.bl (decide (a = b))) := by unfold eqD; rw [eqB_enc a b h]; rfl
theorem neD_enc {α : Type} [DecidableEq α] [Enc α] (a b : α) (h : Enc.dep a ≤ 150 ∨ Enc.dep b ≤ 150) : neD (Enc.enc a) (Enc.enc b) = some (.bl (!decide (a = b))) := by unfold neD; rw [eqB_enc a b h]; rfl
theorem eqD_int (a b : Int) : eqD (.int a) (.int b) = some (.bl (decide (a = b))) := eqD_enc a b (.inl (Nat.zero_le _))
theorem eqD_sh (a b : Sh) (h : a.size ≤ 150 ∨ b.size ≤ 150) : eqD a.enc b.enc = some (.bl (decide (a = b))) := eqD_enc a b h
theorem neD_sh (a b : Sh) (h : a.size ≤ 150 ∨ b.size ≤ 150) : neD a.enc b.enc = some (.bl (!decide (a = b))) := neD_enc a b h
theorem atI_nat {α : Type} {xs : List α} {i : Nat} : L2.atI xs (i : Int) = xs[i]? := by
  unfold L2.atI L2.ixN
  rw [if_pos (by omega)]
  by_cases h : i < xs.length
  · rw [if_pos (by omega)]; simp
  · rw [if_neg (by omega)]; simp; omega
theorem atI_of {α : Type} {xs : List α} {i : Int} {k : Nat} {d : α} (e : i = k) (h : xs[k]? = some d) : L2.atI xs i = some d := by
  subst e; rw [atI_nat]; exact h
theorem ix_tup {xs : List D} {i : Int} {k : Nat} {d : D} (e : i = k) (h : xs[k]? = some d) : ixD (.tup xs) (.int i) = some d := atI_of e h
theorem ix_lst {xs : List D} {i : Int} {k : Nat} {d : D} (e : i = k) (h : xs[k]? = some d) : ixD (.lst xs) (.int i) = some d := atI_of e h
theorem atI_last {α : Type} {xs : List α} {d : α} : L2.atI (xs ++ [d]) (-1) = some d := by
  unfold L2.atI L2.ixN
  rw [if_neg (by omega), List.length_append, List.length_singleton, if_pos (by omega)]
  have e : (-1 + ((xs.length + 1 : Nat) : Int)).toNat = xs.length := by omega
  rw [e]
  simp
theorem cut_nat {α : Type} (xs : List α) (i j : Nat) : cutL xs (some (i : Int)) (some (j : Int)) = (xs.drop i).take (j - i) := by
  unfold cutL
  rw [HT.sIx_nat, HT.sIx_nat]
  by_cases h : i ≤ xs.length
  · rw [Nat.min_eq_left h]
    by_cases h2 : j ≤ xs.length
    · rw [Nat.min_eq_left h2]
    · rw [Nat.min_eq_right (by omega), List.take_of_length_le (by simp), List.take_of_length_le (by simp; omega)]
  · rw [Nat.min_eq_right (by omega : xs.length ≤ i), List.drop_eq_nil_of_le (by omega : xs.length ≤ i), List.drop_length]
    simp
theorem cut_to {α : Type} (xs : List α) (j : Nat) : cutL xs none (some (j : Int)) = xs.take j := by
  unfold cutL
  rw [HT.sIx_nat]
  show (xs.drop 0).take (min j xs.length - 0) = _
  rw [List.drop_zero, Nat.sub_zero]
  by_cases h2 : j ≤ xs.length
  · rw [Nat.min_eq_left h2]
  · rw [Nat.min_eq_right (by omega), List.take_of_length_le (by omega), List.take_of_length_le (by omega)]
theorem cut_from {α : Type} (xs : List α) (i : Nat) : cutL xs (some (i : Int)) none = xs.drop i := by
  unfold cutL
  rw [HT.sIx_nat]
  show (xs.drop (min i xs.length)).take (xs.length - min i xs.length) = _
  rw [List.take_of_length_le (by simp)]
  by_cases h : i ≤ xs.length
  · rw [Nat.min_eq_left h]
  · rw [Nat.min_eq_right (by omega), List.drop_length, List.drop_eq_nil_of_le (by omega)]
theorem flat1 (d : D) (n : Nat) : (List.replicate n [d]).flatten = List.replicate n d := by
  induction n with
  | zero => rfl
  | succ n ih => rw [List.replicate_succ, List.flatten_cons, ih]; rfl
theorem mulL (d : D) (k : Int) (n : Nat) (e : k = n) (h : n ≤ 1000000) : mulD (.lst [d]) (.int k) = some (.lst (List.replicate n d)) := by
  subst e
  have h1 : [d].length * (n : Int).toNat ≤ sizeLine := by rw [Int.toNat_natCast, sizeLine_eq]; simp only [List.length_cons, List.length_nil]; omega
  unfold mulD
  simp only [Int.toNat_natCast, flat1]
  rw [if_pos]
  refine ⟨by omega, by omega, ?_⟩
  rw [Int.toNat_natCast] at h1
  exact h1
theorem addN (a b : Nat) : addD (.int (a : Int)) (.int (b : Int)) = some (.int ((a + b : Nat) : Int)) := by unfold addD; rw [Int.natCast_add]
theorem subN (a b : Nat) (h : b ≤ a) : subD (.int (a : Int)) (.int (b : Int)) = some (.int ((a - b : Nat) : Int)) := by unfold subD; rw [Int.natCast_sub h]
theorem mulN (a b : Nat) (h : a < 2 ^ 60) : mulD (.int (a : Int)) (.int (b : Int)) = some (.int ((a * b : Nat) : Int)) := by
  unfold mulD
  dsimp only
  rw [if_pos (.inl (.inl ⟨by omega, by omega⟩)), Int.natCast_mul]
theorem fdivN (a b : Nat) (h1 : 0 < b) (h2 : b < 2 ^ 60) : fdivD (.int (a : Int)) (.int (b : Int)) = some (.int ((a / b : Nat) : Int)) := by
  unfold fdivD
  dsimp only
  rw [if_pos ⟨by omega, by rw [Int.natAbs_natCast]; exact Nat.lt_of_lt_of_le ((Nat.log2_lt (by omega)).mpr h2) (by omega)⟩, Int.natCast_ediv]
theorem modN (a b : Nat) (h1 : 0 < b) : modD (.int (a : Int)) (.int (b : Int)) = some (.int ((a % b : Nat) : Int)) := by
  unfold modD
  dsimp only
  rw [if_pos (by omega), Int.natCast_emod]
theorem min2N (a b : Nat) : bi2 min2D [.int (a : Int), .int (b : Int)] = some (.int ((min a b : Nat) : Int)) := by
  unfold bi2 min2D
  dsimp only
  by_cases e : (b : Int) < (a : Int)
  · rw [if_pos e, Nat.min_eq_right (by omega)]
  · rw [if_neg e, Nat.min_eq_left (by omega)]
theorem ne_same {α : Type} [DecidableEq α] [Enc α] (a : α) (h : Enc.dep a ≤ 150) : neD (Enc.enc a) (Enc.enc a) = some (.bl false) := by
  rw [neD_enc a a (.inl h)]; simp
theorem ne_int (a : Int) : neD (.int a) (.int a) = some (.bl false) := ne_same a (Nat.zero_le _)
end DL
namespace DL
open Sh
abbrev Tab := List Sh
def bsz (t : Tab) : Nat := t.length + 1
def ent (t : Tab) (m : Nat) : Sh := if m ≤ 1 then .o else t.getD (m - 2) .o
def WT (t : Tab) : Prop := 1 ≤ t.length ∧ ∀ i s, t[i]? = some s → s.size = i + 2
theorem WT.ent {t : Tab} (h : WT t) {m : Nat} (h1 : 1 ≤ m) (h2 : m ≤ bsz t) : (ent t m).size = m := by
  unfold DL.ent
  by_cases e : m ≤ 1
  · rw [if_pos e]; simp [size]; omega
  · rw [if_neg e]
    unfold bsz at h2
    have hlt : m - 2 < t.length := by omega
    rw [List.getD_eq_getElem?_getD, List.getElem?_eq_getElem hlt]
    have := h.2 (m - 2) _ (List.getElem?_eq_getElem hlt)
    simp only [Option.getD_some]
    omega
def fill : Sh → List Sh → Sh
  | .o, ps => ps.headD .o
  | .n l r, ps => .n (fill l ps) (fill r (ps.drop l.size))
def sumS (ps : List Sh) : Nat := (ps.map Sh.size).sum
theorem fill_take : ∀ (e : Sh) (c : List Sh) (k : Nat), e.size ≤ k → fill e (c.take k) = fill e c
  | .o, c, k, h => by
    simp only [size] at h
    cases c with
    | nil => simp
    | cons x xs => cases k with
      | zero => omega
      | succ k => simp [fill]
  | .n l r, c, k, h => by
    simp only [size] at h
    simp only [fill]
    rw [fill_take l c k (by omega), List.drop_take, fill_take r _ _ (by omega)]
theorem fill_size : ∀ (e : Sh) (ps : List Sh), e.size ≤ ps.length → (fill e ps).size = sumS (ps.take e.size)
  | .o, ps, h => by
    cases ps with
    | nil => simp [size] at h
    | cons x xs => simp [fill, size, sumS]
  | .n l r, ps, h => by
    simp only [size] at h
    simp only [fill, size]
    rw [fill_size l ps (by omega), fill_size r _ (by simp; omega)]
    simp only [sumS]
    rw [← List.sum_append, ← List.map_append, ← List.take_add]
/-- a row pressed with a table -/
def prs (t : Tab) (row : List Sh) : List Sh :=
  if h : row = [] then [] else fill (ent t (min (bsz t) row.length)) row :: prs t (row.drop (bsz t))
termination_by row.length
decreasing_by
  have : 0 < row.length := List.length_pos_iff.mpr h
  simp [bsz]; omega
theorem prs_nil (t : Tab) : prs t [] = [] := by rw [prs]; simp
theorem prs_ne (t : Tab) {row : List Sh} (h : row ≠ []) : prs t row = fill (ent t (min (bsz t) row.length)) row :: prs t (row.drop (bsz t)) := by rw [prs, dif_neg h]
theorem prs_small (t : Tab) {row : List Sh} (h : row ≠ []) (hl : row.length ≤ bsz t) : prs t row = [fill (ent t row.length) row] := by
  rw [prs_ne t h, Nat.min_eq_right hl, List.drop_eq_nil_of_le hl, prs_nil]
theorem prs_append (t : Tab) (x y : List Sh) (hw : WT t) (k : Nat) (hx : x.length = k * bsz t) : prs t (x ++ y) = prs t x ++ prs t y := by
  induction k generalizing x with
  | zero =>
    have : x = [] := List.length_eq_zero_iff.mp (by simpa using hx)
    subst this; simp [prs_nil]
  | succ k ih =>
    have hb : 0 < bsz t := by simp [bsz]
    have hlen : bsz t ≤ x.length := by rw [hx, Nat.succ_mul]; omega
    have hx0 : x ≠ [] := fun e => by rw [e] at hlen; simp at hlen; omega
    rw [prs_ne t (by simp [hx0] : x ++ y ≠ []), prs_ne t hx0, List.drop_append_of_le_length hlen, ih _ (by rw [List.length_drop, hx, Nat.succ_mul]; omega)]
    rw [List.length_append, Nat.min_eq_left (by omega), Nat.min_eq_left hlen]
    have : fill (ent t (bsz t)) (x ++ y) = fill (ent t (bsz t)) x := by
      have hs := hw.ent (m := bsz t) hb (Nat.le_refl _)
      rw [← fill_take _ (x ++ y) (bsz t) (by omega), ← fill_take _ x (bsz t) (by omega), List.take_append_of_le_length hlen]
    rw [this]; rfl
theorem prs_le (t : Tab) (k : Nat) : ∀ (x : List Sh), x.length ≤ k * bsz t → (prs t x).length ≤ k := by
  induction k with
  | zero =>
    intro x hx
    have : x = [] := List.length_eq_zero_iff.mp (by simpa using hx)
    subst this; simp [prs_nil]
  | succ k ih =>
    intro x hx
    by_cases hx0 : x = []
    · subst hx0; simp [prs_nil]
    · rw [prs_ne t hx0, List.length_cons]
      have := ih (x.drop (bsz t)) (by rw [List.length_drop]; rw [Nat.succ_mul] at hx; omega)
      omega
theorem prs_ne_nil (t : Tab) {x : List Sh} (h : x ≠ []) : prs t x ≠ [] := by rw [prs_ne t h]; simp
def osh (m : Nat) : List Sh := List.replicate m .o
theorem fill_os : ∀ (e : Sh) (k : Nat), e.size ≤ k → fill e (osh k) = e
  | .o, k, h => by cases k <;> simp [fill, osh, List.replicate]
  | .n l r, k, h => by
    simp only [size] at h
    simp only [fill]
    have : (osh k).drop l.size = osh (k - l.size) := by simp [osh]
    rw [fill_os l k (by omega), this, fill_os r _ (by omega)]
/-- the glued table -/
def glu (s t : Tab) : Tab := (List.range (bsz s * bsz t - 1)).map fun i => (prs t (prs s (osh (i + 2)))).headD .o
theorem glu_len (s t : Tab) : bsz (glu s t) = bsz s * bsz t := by
  have : 0 < bsz s * bsz t := Nat.mul_pos (by simp [bsz]) (by simp [bsz])
  have e : (glu s t).length = bsz s * bsz t - 1 := by simp [glu]
  show (glu s t).length + 1 = _
  omega
theorem glu_ent (s t : Tab) (hs : WT s) {m : Nat} (h1 : 1 ≤ m) (h2 : m ≤ bsz s * bsz t) : ent (glu s t) m = (prs t (prs s (osh m))).headD .o := by
  unfold ent
  by_cases e : m ≤ 1
  · have : m = 1 := by omega
    subst this
    rw [if_pos (Nat.le_refl _)]
    have e1 : prs s (osh 1) = [.o] := by
      rw [prs_small s (by simp [osh]) (by simp [osh, bsz])]
      simp [osh, ent, fill, List.replicate]
    rw [e1, prs_small t (by simp) (by simp [bsz])]
    simp [ent, fill]
  · rw [if_neg e]
    unfold glu
    rw [List.getD_eq_getElem?_getD, List.getElem?_map, List.getElem?_range (by omega)]
    simp only [Option.map_some, Option.getD_some]
    rw [show m - 2 + 2 = m from by omega]
theorem osh_ne {m : Nat} (h : 1 ≤ m) : osh m ≠ [] := fun e => by have := congrArg List.length e; simp [osh] at this; omega
theorem prs_size (t : Tab) (hw : WT t) : ∀ (n : Nat) (c : List Sh), c.length = n → sumS (prs t c) = sumS c := by
  intro n
  induction n using Nat.strongRecOn with
  | _ n ih =>
    intro c hc
    have hb : 0 < bsz t := by simp [bsz]
    by_cases h0 : c = []
    · subst h0; simp [prs_nil]
    · have hp : 0 < c.length := List.length_pos_iff.mpr h0
      rw [prs_ne t h0]
      have hs := hw.ent (m := min (bsz t) c.length) (by omega) (by omega)
      have e := ih (c.length - bsz t) (by omega) (c.drop (bsz t)) (by simp)
      have : sumS (fill (ent t (min (bsz t) c.length)) c :: prs t (c.drop (bsz t))) = (fill (ent t (min (bsz t) c.length)) c).size + sumS (prs t (c.drop (bsz t))) := by simp [sumS]
      rw [this, e, fill_size _ _ (by omega), hs]
      have e2 : sumS c = sumS (c.take (bsz t)) + sumS (c.drop (bsz t)) := by
        unfold sumS; rw [← List.sum_append, ← List.map_append, List.take_append_drop]
      rw [e2]
      congr 2
      by_cases hle : bsz t ≤ c.length
      · rw [Nat.min_eq_left hle]
      · rw [Nat.min_eq_right (by omega), List.take_of_length_le (Nat.le_refl _), List.take_of_length_le (by omega)]
theorem sumS_os (m : Nat) : sumS (osh m) = m := by simp [sumS, osh, size]
theorem prs2_one (s t : Tab) (hs : WT s) (ht : WT t) {c : List Sh} (h0 : c ≠ []) (h : c.length ≤ bsz s * bsz t) : prs t (prs s c) = [fill (ent t (prs s c).length) (prs s c)] := by
  refine prs_small t (prs_ne_nil s h0) ?_
  exact prs_le s (bsz t) c (by rw [Nat.mul_comm]; exact h)
theorem glu_ent_size (s t : Tab) (hs : WT s) (ht : WT t) {m : Nat} (h1 : 1 ≤ m) (h2 : m ≤ bsz s * bsz t) : (ent (glu s t) m).size = m := by
  rw [glu_ent s t hs h1 h2, prs2_one s t hs ht (osh_ne h1) (by simpa [osh] using h2)]
  have e1 := prs_size s hs m (osh m) (by simp [osh])
  have e2 := prs_size t ht _ (prs s (osh m)) rfl
  rw [prs2_one s t hs ht (osh_ne h1) (by simpa [osh] using h2), e1, sumS_os] at e2
  simpa [sumS] using e2
theorem glu_wt (s t : Tab) (hs : WT s) (ht : WT t) : WT (glu s t) := by
  have hl := glu_len s t
  have h1 : 2 ≤ bsz s := by have := hs.1; simp [bsz]; omega
  have h2 : 2 ≤ bsz t := by have := ht.1; simp [bsz]; omega
  have h3 : 4 ≤ bsz s * bsz t := Nat.mul_le_mul h1 h2
  refine ⟨by unfold bsz at hl; unfold bsz at h3; omega, fun i x hx => ?_⟩
  have hi : i < (glu s t).length := (List.getElem?_eq_some_iff.mp hx).1
  have := glu_ent_size s t hs ht (m := i + 2) (by omega) (by unfold bsz at hl ⊢; omega)
  unfold ent at this
  rw [if_neg (by omega), List.getD_eq_getElem?_getD, show i + 2 - 2 = i from by omega, hx] at this
  simpa using this
end DL
namespace DL
open Sh
theorem prs_rep (t : Tab) (ht : WT t) : ∀ m, prs t (osh (m * bsz t)) = List.replicate m (ent t (bsz t))
  | 0 => by simp [osh, prs_nil]
  | m + 1 => by
    have hb : 0 < bsz t := by simp [bsz]
    have e : osh ((m + 1) * bsz t) = osh (bsz t) ++ osh (m * bsz t) := by
      unfold osh
      rw [List.replicate_append_replicate, Nat.succ_mul, Nat.add_comm]
    rw [e, prs_append t _ _ ht 1 (by simp [osh]), prs_rep t ht m, prs_small t (osh_ne hb) (by simp [osh])]
    have e2 : (osh (bsz t)).length = bsz t := by simp [osh]
    have := ht.ent (m := bsz t) hb (Nat.le_refl _)
    rw [e2, fill_os _ _ (by omega)]
    rfl
/-- a row pressed, stretch by stretch -/
theorem prs_range (t : Tab) : ∀ (n : Nat) (row : List Sh), row.length = n → prs t row = (List.range ((n + bsz t - 1) / bsz t)).map fun i => fill (ent t (min (bsz t) (n - i * bsz t))) (row.drop (i * bsz t)) := by
  intro n
  induction n using Nat.strongRecOn with
  | _ n ih =>
    intro row hr
    have hb : 0 < bsz t := by simp [bsz]
    by_cases h0 : row = []
    · subst h0
      simp at hr
      subst hr
      have : (0 + bsz t - 1) / bsz t = 0 := Nat.div_eq_of_lt (by omega)
      rw [this, prs_nil]; rfl
    · have hp : 0 < row.length := List.length_pos_iff.mpr h0
      rw [prs_ne t h0, ih (n - bsz t) (by omega) _ (by rw [List.length_drop, hr])]
      have e : (n + bsz t - 1) / bsz t = (n - bsz t + bsz t - 1) / bsz t + 1 := by
        by_cases hle : bsz t ≤ n
        · rw [show n + bsz t - 1 = (n - bsz t + bsz t - 1) + bsz t from by omega, Nat.add_div_right _ hb]
        · rw [show n - bsz t = 0 from by omega, Nat.div_eq_of_lt (by omega : 0 + bsz t - 1 < bsz t)]
          rw [show n + bsz t - 1 = (n - 1) + bsz t from by omega, Nat.add_div_right _ hb, Nat.div_eq_of_lt (by omega)]
      rw [e, List.range_succ_eq_map, List.map_cons, List.map_map]
      congr 1
      · simp [hr]
      · refine List.map_congr_left fun i _ => ?_
        simp only [Function.comp, List.drop_drop, Nat.succ_mul]
        rw [show n - bsz t - i * bsz t = n - (i * bsz t + bsz t) from by omega, show bsz t + i * bsz t = i * bsz t + bsz t from by omega]
end DL
namespace DL
open PySem PySem.Spec PyProof.Rows L2
theorem meets_enum1 {v : Value} {o : Obj} {H : Heap → Prop} (B : Begins v o H) :
    Meets (Builtin.«enumerate.__new__» ⟨[.type "enumerate", v], []⟩) (fun _ R s => H s.heap ∧
      R (.ok (.ret (.ref (s.heap.push o).objs.size))) { s with heap := (s.heap.push o).push { cls := .type "enumerate", data := .fields #[.none, .bool false, .ref s.heap.objs.size, rawInt 0, .none, .none] } }) :=
  .of_wp fun prog w A R s h => by
    obtain ⟨hp, g, d, tk, os⟩ := s; obtain ⟨h1, h⟩ := h
    have hsub := sub_enumerate
    have q1 : ∀ {A' : Around} {E : Value → Shared → Prop} {Q : Value → Shared → Prop}, Q (.ref hp.objs.size) ⟨hp.push o, g, d, tk, os⟩ → wpAny (model prog w) A' (pyIter v) Q E ⟨hp, g, d, tk, os⟩ :=
      fun q => B.iter prog w _ _ ⟨hp, g, d, tk, os⟩ _ h1 q
    wp_walk using q1
    refine wpAny_stack_any fun st => wpAny_pure ?_
    split
    · rename_i c _ _ _ _ _
      cases (c == Value.type "enumerate")
      · wp_walk using q1
        exact ⟨_, rfl, h⟩
      · wp_walk using q1
        exact ⟨_, rfl, h⟩
    · wp_walk using q1
      exact ⟨_, rfl, h⟩
section
variable {prog : Program} {w : World} {A : Around} {E : Value → Shared → Prop} {s : Shared}
theorem call_enum1 {v : Value} {o : Obj} {H : Heap → Prop} {Q : Value → Shared → Prop} (B : Begins v o H) (h1 : H s.heap)
    (h : ∀ h', IsEnum h' (s.heap.objs.size + 1) s.heap.objs.size 0 .none → h'.get? s.heap.objs.size = some o → h'.objs.size = s.heap.objs.size + 2 →
      (∀ b o, s.heap.get? b = some o → h'.get? b = some o) → Q (.ref (s.heap.objs.size + 1)) { s with heap := h' }) :
    wpAny (model prog w) A (call (.type "enumerate") [v]) Q E s := by
  refine callType_new F.called_enumerate (by decide) (F.typeCall_enumerate_1 _) (F.newCall_enumerate_1 _) (fun obj => F.args_object_init_2 obj _) F.entry_enumerate_new
    (meets_enum1 B) ⟨h1, ?_⟩
  have hz : (s.heap.push o).objs.size = s.heap.objs.size + 1 := Heap.size_push ..
  show _ ∧ _
  rw [hz]
  have he : IsEnum ((s.heap.push o).push { cls := .type "enumerate", data := .fields #[.none, .bool false, .ref s.heap.objs.size, rawInt 0, .none, .none] }) (s.heap.objs.size + 1) s.heap.objs.size 0 .none := by
    have := Heap.get?_push_size (s.heap.push o) (o := { cls := .type "enumerate", data := .fields #[.none, .bool false, .ref s.heap.objs.size, rawInt 0, .none, .none] }) rfl
    rw [hz] at this; exact this
  refine ⟨⟨_, he, rfl⟩, h _ he (Heap.get?_push_of_some _ (Heap.get?_push_size _ B.free)) (by rw [Heap.size_push, hz]) fun b o x => Heap.get?_push_of_some _ (Heap.get?_push_of_some _ x)⟩
end
/-- the tuple at a, each item in a new pair -/
def IteT (K : PySem.W.Frag) (a : Addr) : It :=
  ⟨fun i H => ∃ (xs : List V) (x : V), SqT K H a xs ∧ xs[i]? = some x, fun i H v H' => ∃ T x, v = .ref T ∧ H T = none ∧ H' = upd H T (.tup [.int (i : Nat), x]) ∧ ∀ xs, SqT K H a xs → xs[i]? = some x, fun i H => ∃ xs : List V, SqT K H a xs ∧ xs.length ≤ i⟩
theorem turn_enumT {P : Program} {w : World} {K : PySem.W.Frag} {elts : List Expr} {kk : Nat} {tpos : Pos} (a e it : Addr) :
    Turn P w K (.Tuple elts kk tpos) (IteT K a) [e, it] e (fun i h => (∃ old, IsEnum h e it ((i : Nat) : Int) old) ∧ h.IsTupleIter it a i ∧ e ≠ it) where
  mem := by simp
  obj := fun i h st b hb => by
    obtain ⟨⟨old, he⟩, ⟨o, ho, hc, hd⟩, _⟩ := st
    have e' : b = e ∨ b = it := by simpa using hb
    rcases e' with z | z
    · rw [z]; exact ⟨_, he, fun v q => nomatch q⟩
    · rw [z]; exact ⟨o, ho, fun v q => by rw [hd] at q; cases q⟩
  keep := fun i h h' st k => let ⟨⟨old, he⟩, hi, hne⟩ := st; ⟨⟨old, k e (by simp) _ he⟩, hi.at fun o q => k it (by simp) o q, hne⟩
  item := by
    intro X hP hw hK hc i pins s σ H E I hf st hg
    subst hP hw hK
    obtain ⟨⟨old, he⟩, hit, hne⟩ := st
    obtain ⟨xs, x, hq, hx⟩ := hg
    obtain ⟨its, rv, p, hz⟩ := I.tuple hq
    obtain ⟨u, hu, ru⟩ := rv.get hx
    have hel : e < s.heap.objs.size := Heap.lt_size he
    have hil : it < s.heap.objs.size := by obtain ⟨_, q, _⟩ := hit; exact Heap.lt_size q
    have hta : a ≠ it := by
      intro q
      subst q
      obtain ⟨o1, h1, c1, _⟩ := hit
      obtain ⟨o2, h2, c2, _⟩ := p
      rw [h1] at h2; cases h2
      exact absurd (Value.type.inj (c1.symm.trans c2)) (by decide +kernel)
    refine wpAny_pyNext_enum_itemC (Draws.tuple (A := X.A.in1) (I.ok.hd hc) it a hta its.toArray) he ⟨hit, p⟩ (by simpa using (List.getElem?_eq_some_iff.mp hu).1) hne (by
      have : e ≠ a := by
        intro q
        subst q
        obtain ⟨o2, h2, c2, _⟩ := p
        have h3 := he.symm.trans h2
        cases h3
        exact absurd (Value.type.inj c2) (by decide +kernel)
      simp [hne, this]) fun y h' tk hP ho hit' hT hsz hk => ?_
    have ey : y = u := by
      have h1 : its.toArray[i]? = some y := hP
      have h2 : its.toArray[i]? = some u := by simpa using hu
      rw [h2] at h1; exact (Option.some.inj h1).symm
    subst ey
    refine ⟨_, rfl, wpAny_letOwnedTupleGo_enum (s := { s with heap := h', toks := tk + 1 }) ho fun h'' he' sb => ?_⟩
    have hT2 : h''.get? s.heap.objs.size = some { cls := .type "tuple", data := .seq #[.int i tk, y] } := (sb.2 _ (Nat.ne_of_gt hel)).trans hT
    have new : ObjOk X.prog X.w (upd H s.heap.objs.size (.tup [.int (i : Nat), x])) h'' s.heap.objs.size (.tup [.int (i : Nat), x]) :=
      ⟨by show 2 ≤ sizeLine; decide, [.int i tk, y], .cons ⟨_, rfl⟩ (.cons ru .nil), ⟨_, hT2, rfl, _, rfl⟩⟩
    have I1 : Inv X pins σ (upd H s.heap.objs.size (.tup [.int (i : Nat), x])) { s with heap := h'', toks := tk + 1 } :=
      I.turnedNew (ch := [e, it]) (fun b ob hb q => (sb.2 b (fun z => hb (by simp [z]))).trans (hk b ob (fun z => hb (by simp [z])) (fun z => hb (by simp [z])) q)) hf (Nat.le_refl _) new
    refine ⟨.ref s.heap.objs.size, _, I1, rfl, ⟨_, x, rfl, I.hok.fresh (Nat.le_refl _), rfl, fun ys hy => by rw [I.tuple_inj hy hq]; exact hx⟩, ⟨⟨y, ?_⟩, hit'.1.at fun o q => (sb.2 it (Ne.symm hne)).trans q, hne⟩, fun b hb => ?_⟩
    · have e1 : ((i + 1 : Nat) : Int) = (i : Int) + 1 := by omega
      rw [e1]; exact he'
    · have hb' : b < s.heap.objs.size := by
        have e' : b = e ∨ b = it := by simpa using hb
        rcases e' with z | z
        · rw [z]; exact hel
        · rw [z]; exact hil
      rw [upd_ne (Nat.ne_of_lt hb')]
      exact (hf b hb).1
  done := by
    intro X hP hw hK hc i pins s σ H E I hf st hg
    subst hP hw hK
    obtain ⟨⟨old, he⟩, hit, hne⟩ := st
    obtain ⟨xs, hq, hx⟩ := hg
    obtain ⟨its, rv, p, hz⟩ := I.tuple hq
    obtain ⟨f0, f1, f2, f3, f4, f5⟩ := hf it (by simp)
    have hl := rv.length
    have hta : a ≠ it := by
      intro q
      subst q
      obtain ⟨o1, h1, c1, _⟩ := hit
      obtain ⟨o2, h2, c2, _⟩ := p
      rw [h1] at h2; cases h2
      exact absurd (Value.type.inj (c1.symm.trans c2)) (by decide +kernel)
    have D : Draws X.prog X.w X.A.in1 it [it, a] i (fun _ _ => True) (fun j h => j = i ∧ h.IsTupleIter it a i ∧ h.IsTuple a its.toArray) :=
      { live := fun _ _ st => let ⟨o, ho, _⟩ := st.2.1; ⟨o, ho⟩
        frame := fun _ _ _ st hk => ⟨st.1, st.2.1.at fun o e => hk it (by simp) o e, st.2.2.at fun o e => hk a (by simp) o e⟩
        item := fun j s Q E hi st hQ => absurd st.1 (by omega)
        done := fun s Q E st hE => wpAny_nextOf_tuple_end (I.ok.hd hc) st.2.1 st.2.2 (by simp; omega) hE }
    exact wpAny_pyNext_enum_endD D he ⟨rfl, hit, p⟩ fun h' eb => ⟨rfl, I.turned (t' := s.toks) (fun b o hb q => eb b o hb q) f0 f1 f3 f4 f5⟩
  self := fun A i s Q E st h => let ⟨⟨_, he⟩, _⟩ := st; wpAny_pyIter_enum he h
def iEnumS (K : PySem.W.Frag) (ta : TA) : TI := fun σ H R => ta σ H fun vs H1 => ∃ a, vs = [.ref a] ∧ (((∃ xs, SqL K H1 a xs) ∧ R (Ite K a) H1) ∨ ((∃ xs, SqT K H1 a xs) ∧ R (IteT K a) H1))
theorem pi_enumS {X : Cx} {e : Expr} {ta : TA} {p pos tpos : Pos} {elts : List Expr} {kk : Nat} (hg : Gl X "enumerate") (hm : X.mg "enumerate" = none) (ha : PA X [e] ta) (hs : starEach [e] X.env = [(false, eval e X.env)] := by rfl) :
    PI X (.Tuple elts kk tpos) (.Call (.Name "enumerate" p) [e] [] pos) (iEnumS X.K ta) := by
  refine ⟨fun pins s σ H R I h => ?_⟩
  refine Call_ (ld_blt I hg hm boot_enumerate (PyProof.Rows.callWith_type1 (thn (ha.run pos pins s σ H _ I h) fun us s1 ⟨vs, H1, I1, r1, q1⟩ => ?_) hs rfl))
  obtain ⟨a, ex, q1⟩ := q1
  subst ex
  cases r1 with
  | cons r rr =>
    cases rr
    cases r
    have fin : ∀ (h' : Heap), (∀ b o, s1.heap.get? b = some o → h'.get? b = some o) → Inv X pins σ H1 { s1 with heap := h' } := fun h' hk => I1.kept (t' := s1.toks) hk
    have fp : ∀ b ∈ [s1.heap.objs.size + 1, s1.heap.objs.size], FpOk X pins H1 b := fun b hb => by
      have e' : b = s1.heap.objs.size + 1 ∨ b = s1.heap.objs.size := by simpa using hb
      have hle : s1.heap.objs.size ≤ b := by
        rcases e' with z | z
        · rw [z]; exact Nat.le_add_right _ _
        · rw [z]; exact Nat.le_refl _
      exact I1.fpOk hle (I1.hok.fresh hle)
    rcases q1 with ⟨⟨xs, hq⟩, q⟩ | ⟨⟨xs, hq⟩, q⟩
    · obtain ⟨its, rv, p', hz⟩ := I1.list hq
      refine call_enumerate_list p'.isList fun h' he hit hsz hk => wpAny_pyIter_enum he ?_
      exact ⟨s1.heap.objs.size + 1, [s1.heap.objs.size + 1, s1.heap.objs.size], _, _, H1, rfl, fin h' hk, turn_enum a (s1.heap.objs.size + 1) s1.heap.objs.size, ⟨⟨.none, he⟩, hit, Nat.succ_ne_self _⟩, fp, q⟩
    · obtain ⟨its, rv, p', hz⟩ := I1.tuple hq
      refine call_enum1 (begins_tuple a its.toArray) p' fun h' he hit hsz hk => wpAny_pyIter_enum he ?_
      exact ⟨s1.heap.objs.size + 1, [s1.heap.objs.size + 1, s1.heap.objs.size], _, _, H1, rfl, fin h' hk, turn_enumT a (s1.heap.objs.size + 1) s1.heap.objs.size, ⟨⟨.none, he⟩, ⟨_, hit, rfl, rfl⟩, Nat.succ_ne_self _⟩, fp, q⟩
/-- (0, x0), (1, x1), .. -/
def enumL (k : Nat) : List D → List D
  | [] => []
  | d :: ds => .tup [.int k, d] :: enumL (k + 1) ds
theorem enumL_len : ∀ (ds : List D) (k : Nat), (enumL k ds).length = ds.length
  | [], _ => rfl
  | _ :: ds, k => by rw [enumL, List.length_cons, List.length_cons, enumL_len ds]
theorem enumL_get : ∀ (ds : List D) (k i : Nat) (e : D), (enumL k ds)[i]? = some e → ∃ d, ds[i]? = some d ∧ e = .tup [.int ((k + i : Nat) : Int), d]
  | [], _, i, e, h => by simp [enumL] at h
  | d :: ds, k, 0, e, h => by
    simp [enumL] at h
    subst h
    exact ⟨d, rfl, by simp⟩
  | d :: ds, k, i + 1, e, h => by
    simp only [enumL, List.getElem?_cons_succ] at h
    obtain ⟨d', h1, h2⟩ := enumL_get ds (k + 1) i e h
    refine ⟨d', by simpa using h1, ?_⟩
    rw [h2]
    have : k + 1 + i = k + (i + 1) := by omega
    rw [this]
section
variable {im : Addr → Bool} {Ω : Type} {G : Gam im Ω} {K : PySem.W.Frag} {W : WX} {te : TE} {Fe : E Ω D}
theorem Rep.pair {H : Hp} {T : Addr} {k : Int} {v : V} {d : D} (hT : H T = none) (r : Rep K im H v d) : Rep K im (upd H T (.tup [.int k, v])) (.ref T) (.tup [.int k, d]) :=
  .tup upd_same (.cons (.int k) (.cons (r.up (.of (Same.new hT))) .nil))
theorem yields_enumL {a : Addr} {H : Hp} {vs : List V} {ds : List D} (h1 : SqZ H a vs) (h2 : RepL K im H vs ds) : Yields im K (Ite K a) H (enumL 0 ds) := by
  intro i H' sb
  have q := sb.sqZ h1
  have r := h2.up sb
  refine ⟨fun e he => ?_, fun hi => ⟨vs, q.l, by rw [r.length]; rw [enumL_len] at hi; exact hi⟩⟩
  obtain ⟨d, hd, rfl⟩ := enumL_get ds 0 i e he
  obtain ⟨v, hv, rv⟩ := r.get hd
  refine ⟨⟨vs, v, q.l, hv⟩, fun x H3 y => ?_⟩
  obtain ⟨T, z, rfl, hT, rfl, y⟩ := y
  have := y vs q.l
  rw [hv] at this; cases this
  rw [Nat.zero_add]
  exact ⟨Same.new hT, Rep.pair hT rv⟩
theorem yields_enumT {a : Addr} {H : Hp} {vs : List V} {ds : List D} (h1 : SqT K H a vs) (h2 : RepL K im H vs ds) : Yields im K (IteT K a) H (enumL 0 ds) := by
  intro i H' sb
  have q := sb.sqT h1
  have r := h2.up sb
  refine ⟨fun e he => ?_, fun hi => ⟨vs, q, by rw [r.length]; rw [enumL_len] at hi; exact hi⟩⟩
  obtain ⟨d, hd, rfl⟩ := enumL_get ds 0 i e he
  obtain ⟨v, hv, rv⟩ := r.get hd
  refine ⟨⟨vs, v, q, hv⟩, fun x H3 y => ?_⟩
  obtain ⟨T, z, rfl, hT, rfl, y⟩ := y
  have := y vs q
  rw [hv] at this; cases this
  rw [Nat.zero_add]
  exact ⟨Same.new hT, Rep.pair hT rv⟩
def iEn (a : E Ω D) : E Ω (List D) := fun τ ω => (a τ ω).bind fun x ω1 => .ofO (x.itemsS.map (enumL 0)) ω1
theorem di_enum (he : DE G K W te Fe) : DI G K W (iEnumS K (tCons te tNil)) (iEn Fe) := by
  intro H0 σ H ω τ s t' R h
  refine he H0 σ H ω τ s t' _ (Res.imp (Res.bind h) (fun x ω1 H1 k1 t1 h1 v r => ?_) fun _ _ _ _ _ q => q)
  cases r with
  | @lst a vs ds a1 a2 => exact ⟨a, rfl, .inl ⟨⟨vs, a1.l⟩, h1 H1 k1 t1 _ (yields_enumL a1 a2)⟩⟩
  | @tup a vs ds a1 a2 => exact ⟨a, rfl, .inr ⟨⟨vs, a1⟩, h1 H1 k1 t1 _ (yields_enumT a1 a2)⟩⟩
  | _ => exact h1.elim
def tNever : TS := fun _ _ _ => False
def sNo : S Ω := fun _ _ => none
theorem ps_never {X : Cx} {st : Stmt} : PS X st tNever := ⟨fun _ _ _ _ _ _ h => h.elim⟩
theorem ds_never : DS G K W tNever sNo := fun _ _ _ _ _ _ _ _ h => h.elim
end
instance {i j : Int} : Decidable (CDivP i j) := by unfold CDivP; infer_instance
end DL
namespace DL
open PySem PySem.Spec PyProof.Rows L2
section
variable {im : Addr → Bool} {Ω : Type} {G : Gam im Ω} {K : PySem.W.Frag} {W : WX} {ta tb tc : TE} {Fa Fb Fc : E Ω D} {Fl' : E Ω (List D)}
def sPar3 (i j l : Nat) (a b c : E Ω D) : S Ω := withE a fun x => withE b fun y => withE c fun z τ ω => some (.nx (((τ.set i (some (.d x))).set j (some (.d y))).set l (some (.d z))), ω)
theorem ds_par3 {i j l : Nat} (ha : DE G K W ta Fa) (hb : DE G K W tb Fb) (hc : DE G K W tc Fc) : DS G K W (tPar3 i j l (tCons ta (tCons tb (tCons tc tNil)))) (sPar3 i j l Fa Fb Fc) := by
  intro H0 σ H ω τ s t' D h
  refine ha H0 σ H ω τ s t' _ (Res.imp (withE_kx s t' h) (fun x ω1 H1 k1 t1 h1 v r => ?_) fun _ _ _ _ _ q => q)
  have s1 := s.step t' k1
  refine hb H0 σ H1 ω1 τ s1 t1 _ (Res.imp (withE_kx s1 t1 h1) (fun y ω2 H2 k2 t2 h2 v2 r2 => ?_) fun _ _ _ _ _ q => q)
  have s2 := s1.step t1 k2
  refine hc H0 σ H2 ω2 τ s2 t2 _ (Res.imp (withE_kx s2 t2 h2) (fun z ω3 H3 k3 t3 h3 v3 r3 => ?_) fun _ _ _ _ _ q => q)
  refine ⟨v, v2, v3, rfl, h3 _ H3 .refl ?_ t3⟩
  exact (((s2.step t2 k3).setD ((r.up (k2.sb t1)).up (k3.sb t2)) i).setD (r2.up (k3.sb t2)) j).setD r3 l
/-- list(x), a new list -/
def eLst1 (a : E Ω D) : E Ω (List D) := fun τ ω => (a τ ω).bind fun x ω1 => .ofO x.itemsS ω1
theorem dl_list1 (ha : DE G K W ta Fa) : DL G K W (tCB (fun xs H Q => ∃ p ys, xs = [.ref p] ∧ (SqL K H p ys ∨ SqT K H p ys) ∧ ∀ l, H l = none → Q (.ref l) (upd H l (.lst ys))) (tCons ta tNil)) (eLst1 Fa) := by
  intro H0 σ H ω τ s t Q h
  refine ha H0 σ H ω τ s t _ (Res.imp (Res.bind h) (fun x ω1 H1 k1 t1 h1 v r => ?_) fun _ _ _ _ _ q => q)
  have h3 := h1.mono k1
  have fin : ∀ (a : Addr) (vs : List V) (ds : List D), (SqL K H1 a vs ∨ SqT K H1 a vs) → RepL K im H1 vs ds → x.itemsS = some ds → v = .ref a →
      ∃ p ys, [v] = [.ref p] ∧ (SqL K H1 p ys ∨ SqT K H1 p ys) ∧ ∀ l, H1 l = none → Q (.ref l) (upd H1 l (.lst ys)) := fun a vs ds hq hr e ev => by
    subst ev
    rw [e] at h3
    refine ⟨a, vs, rfl, hq, fun p hp => ?_⟩
    have sm : Same H1 (upd H1 p (.lst vs)) := Same.new hp
    have hp0 : H p = none := by
      cases e : H p with
      | none => rfl
      | some o =>
        by_cases f : G.FP p
        · exact absurd hp (G.trk t1 p f)
        · have := k1 p o e f; rw [hp] at this; cases this
    exact h3 _ (.of sm) (At.same t1 sm) _ _ hp0 upd_same (hr.up (.of sm))
  cases r with
  | @lst a vs ds h4 h5 => exact fin a vs ds (.inl h4.l) h5 rfl rfl
  | @tup a vs ds h4 h5 => exact fin a vs ds (.inr h4) h5 rfl rfl
  | _ => exact h3.elim
end
end DL
namespace DL
open PySem PySem.Spec PyProof.Rows L2
end DL
namespace DL
open PySem PySem.Spec PyProof.Rows L2
section
variable {κ : Type} [DecidableEq κ]
def lkp : List κ → List D → κ → Option D
  | k' :: ks, d :: ds, k => if k' = k then some d else lkp ks ds k
  | _, _, _ => none
def repD : List κ → List D → κ → D → List D
  | k' :: ks, d' :: ds, k, d => (if k' = k then d else d') :: repD ks ds k d
  | _, _, _, _ => []
def putKs (ks : List κ) (k : κ) : List κ := if ks.any (fun k' => decide (k' = k)) = true then ks else ks ++ [k]
def putDs (ks : List κ) (ds : List D) (k : κ) (d : D) : List D := if ks.any (fun k' => decide (k' = k)) = true then repD ks ds k d else ds ++ [d]
section
variable {K : PySem.W.Frag} {im : Addr → Bool} {H : Hp}
theorem lkp_val : ∀ {ks : List κ} {vs : List V} {ds : List D} (k : κ), ks.length = vs.length → RepL K im H vs ds → (∀ d, lkp ks ds k = some d → ∃ v, valV (ks.zip vs) k = some v ∧ Rep K im H v d) ∧ (lkp ks ds k = none → valV (ks.zip vs) k = none)
  | [], _, _, k, hl, r => ⟨fun d e => by simp [lkp] at e, fun _ => by simp [valV_nil]⟩
  | k' :: ks, [], _, k, hl, r => by simp at hl
  | k' :: ks, v :: vs, _, k, hl, .cons (d := d0) (ds := ds) r1 r2 => by
    rw [List.zip_cons_cons]
    by_cases e : k' = k
    · rw [valV_pos e]
      simp only [lkp, if_pos e]
      exact ⟨fun d h => ⟨v, rfl, by cases h; exact r1⟩, fun h => by cases h⟩
    · rw [valV_neg (p := (k', v)) e]
      simp only [lkp, if_neg e]
      exact lkp_val k (by simpa using hl) r2
def repV : List κ → List V → κ → V → List V
  | k' :: ks, d' :: ds, k, d => (if k' = k then d else d') :: repV ks ds k d
  | _, _, _, _ => []
theorem zip_any (k : κ) : ∀ {ks : List κ} {vs : List V}, ks.length = vs.length → ((ks.zip vs).any fun kv => decide (kv.1 = k)) = ks.any (fun k' => decide (k' = k))
  | [], _, _ => rfl
  | k' :: ks, [], hl => by simp at hl
  | k' :: ks, v :: vs, hl => by rw [List.zip_cons_cons, List.any_cons, List.any_cons, zip_any k (ks := ks) (vs := vs) (by simpa using hl)]
theorem zip_rep (k : κ) (v : V) : ∀ {ks : List κ} {vs : List V}, ks.length = vs.length → (ks.zip vs).map (fun kv => if kv.1 = k then (kv.1, v) else kv) = ks.zip (repV ks vs k v)
  | [], _, _ => rfl
  | k' :: ks, [], hl => by simp at hl
  | k' :: ks, v' :: vs, hl => by
    rw [List.zip_cons_cons, List.map_cons, zip_rep k v (ks := ks) (vs := vs) (by simpa using hl), repV, List.zip_cons_cons]
    congr 1
    by_cases e : k' = k <;> simp [e]
theorem repV_len (k : κ) (v : V) : ∀ {ks : List κ} {vs : List V}, ks.length = vs.length → ks.length = (repV ks vs k v).length
  | [], _, _ => by simp [repV]
  | k' :: ks, [], hl => by simp at hl
  | k' :: ks, v' :: vs, hl => by rw [repV, List.length_cons, List.length_cons, ← repV_len k v (ks := ks) (vs := vs) (by simpa using hl)]
theorem repV_rep {v : V} {d : D} (k : κ) (r : Rep K im H v d) : ∀ {ks : List κ} {vs : List V} {ds : List D}, ks.length = vs.length → RepL K im H vs ds → RepL K im H (repV ks vs k v) (repD ks ds k d)
  | [], _, _, _, _ => by simp [repV, repD]; exact .nil
  | k' :: ks, [], _, hl, _ => by simp at hl
  | k' :: ks, v' :: vs, _, hl, .cons r1 r2 => by
    rw [repV, repD]
    refine .cons ?_ (repV_rep k r (by simpa using hl) r2)
    split
    · exact r
    · exact r1
theorem put_ok {v : V} {d : D} {ks : List κ} {vs : List V} {ds : List D} (k : κ) (hl : ks.length = vs.length) (r : RepL K im H vs ds) (rv : Rep K im H v d) :
    ∃ ws, putK (ks.zip vs) k v = (putKs ks k).zip ws ∧ (putKs ks k).length = ws.length ∧ RepL K im H ws (putDs ks ds k d) := by
  unfold putK putKs putDs
  rw [zip_any k hl]
  split
  · exact ⟨repV ks vs k v, zip_rep k v hl, repV_len k v hl, repV_rep k rv hl r⟩
  · refine ⟨vs ++ [v], ?_, by simp [hl], r.append (.one rv)⟩
    rw [List.zip_append hl]; rfl
theorem repD_len (k : κ) (d : D) : ∀ {ks : List κ} {ds : List D}, ks.length = ds.length → (repD ks ds k d).length = ds.length
  | [], ds, h => by simp [repD]; simp at h; omega
  | k' :: ks, [], hl => by simp at hl
  | k' :: ks, v' :: vs, hl => by rw [repD, List.length_cons, List.length_cons, repD_len k d (ks := ks) (ds := vs) (by simpa using hl)]
theorem put_len {ks : List κ} {ds : List D} (k : κ) (d : D) (hl : ks.length = ds.length) : (putKs ks k).length = (putDs ks ds k d).length := by
  unfold putKs putDs
  split
  · rw [repD_len k d hl]; exact hl
  · simp [hl]
end
end
def D.key : D → Option Key
  | .int i => some (.inl i)
  | .str x => some (.inr x)
  | _ => none
def D.keyL : List D → Option (List Key)
  | [] => some []
  | d :: ds => match d.key, D.keyL ds with
    | some k, some r => some (k :: r)
    | _, _ => none
theorem Rep.key {K : PySem.W.Frag} {im : Addr → Bool} {H : Hp} {v : V} {d : D} {k : Key} (r : Rep K im H v d) (e : d.key = some k) : v = kV k := by
  cases r <;> simp [D.key] at e <;> subst e <;> rfl
theorem RepL.key {K : PySem.W.Frag} {im : Addr → Bool} {H : Hp} : ∀ {vs : List V} {ds : List D} {k : List Key}, RepL K im H vs ds → D.keyL ds = some k → vs = k.map kV
  | _, _, _, .nil, e => by cases e; rfl
  | _, _, _, .cons (d := d) (ds := ds) r1 r2, e => by
    unfold D.keyL at e
    cases h1 : d.key with
    | none => rw [h1] at e; cases e
    | some k1 =>
      cases h2 : D.keyL ds with
      | none => rw [h1, h2] at e; cases e
      | some k2 =>
        rw [h1, h2] at e
        cases e
        rw [List.map_cons, ← r1.key h1, ← RepL.key r2 h2]
section
variable {im : Addr → Bool} {Ω : Type} {G : Gam im Ω} {K : PySem.W.Frag} {W : WX} {ta tk te : TE} {Fa Fk Fe : E Ω D} {tr : TA} {Fr : E Ω (List D)}
def PlK (G : Gam im Ω) (K : PySem.W.Frag) (i : Nat) (P : Tau → Ω → Option (List Key × List D)) : Prop := ∀ H0 σ H ω τ, STT G K H0 H σ τ → G.At ω H → ∀ ks ds, P τ ω = some (ks, ds) →
  ∃ a vs, σ[i]? = some (some (.ref a)) ∧ Rd H a (.dK (ks.zip vs)) ∧ ks.length = vs.length ∧ RepL K im H vs ds
def pT (i : Nat) : Tau → Ω → Option (List (List Key) × List D) := fun τ _ => match τ[i]? with
  | some (some (.d (.dit ks ds))) => some (ks, ds)
  | some (some (.ow (.T ks) ds)) => some (ks, ds)
  | _ => none
def pK (i : Nat) : Tau → Ω → Option (List Key × List D) := fun τ _ => match τ[i]? with
  | some (some (.d (.dic ks ds))) => some (ks, ds)
  | some (some (.ow (.K ks) ds)) => some (ks, ds)
  | _ => none
theorem plK (i : Nat) : PlK G K i (pK i) := by
  intro H0 σ H ω τ s t ks ds e
  unfold pK at e
  split at e
  · rename_i ks' ds' h
    cases e
    obtain ⟨v, e1, r⟩ := s.get h
    cases r with
    | dic h1 h2 h3 => exact ⟨_, _, e1, .inr ⟨_, h1⟩, h2, h3⟩
  · rename_i ks' ds' h
    cases e
    obtain ⟨l, vs, e1, h1, h2, _, _, h3⟩ := s.getW h
    exact ⟨_, vs, e1, .inl h1, by rw [h2.length]; exact h3, h2⟩
  · cases e
def eDgK (P : Tau → Ω → Option (List Key × List D)) (e : E Ω D) : E Ω D := fun τ ω => match P τ ω with
  | none => .no
  | some _ => (e τ ω).bind fun x ω1 => match x.key, P τ ω1 with
    | some k, some (ks, ds) => .ofO (lkp ks ds k) ω1
    | _, _ => .no
theorem keyL_len : ∀ {xs : List D} {k : List Key}, D.keyL xs = some k → k.length = xs.length
  | [], _, e => by cases e; rfl
  | d :: ds, _, e => by
    unfold D.keyL at e
    cases h1 : d.key with
    | none => rw [h1] at e; cases e
    | some k1 =>
      cases h2 : D.keyL ds with
      | none => rw [h1, h2] at e; cases e
      | some k2 => rw [h1, h2] at e; cases e; simp [keyL_len h2]
theorem de_dgK {i : Nat} {P : Tau → Ω → Option (List Key × List D)} (hP : PlK G K i P) (hk : DE G K W tk Fk) : DE G K W (tDGet (tVar i) tk) (eDgK P Fk) := by
  intro H0 σ H ω τ s t Q h
  unfold eDgK at h
  cases eP0 : P τ ω with
  | none => rw [eP0] at h; exact h.elim
  | some q0 =>
  rw [eP0] at h
  obtain ⟨a0, _, ea, _⟩ := hP H0 σ H ω τ s t _ _ eP0
  refine ⟨_, ea, ?_⟩
  refine hk H0 σ H ω τ s t _ (Res.imp (Res.bind h) (fun x ω1 H1 k1 t1 h1 v r => ?_) fun _ _ _ _ _ q => q)
  have h2 := h1.mono k1
  cases ek : x.key with
  | none => rw [ek] at h2; exact h2.elim
  | some k =>
  cases eP : P τ ω1 with
  | none => rw [ek, eP] at h2; exact h2.elim
  | some q =>
  obtain ⟨ks, ds⟩ := q
  rw [ek, eP] at h2
  dsimp only at h2
  obtain ⟨a, ws, e1, rd, hl, rr⟩ := hP H0 σ H1 ω1 τ (s.step t k1) t1 _ _ eP
  rw [ea] at e1; cases e1
  obtain rfl := r.key ek
  cases el : lkp ks ds k with
  | none => rw [el] at h2; exact h2.elim
  | some z =>
    rw [el] at h2
    obtain ⟨v, hv, rv⟩ := (lkp_val k hl rr).1 z el
    exact ⟨a0, v, rfl, .inl ⟨_, k, rd, rfl, hv.symm⟩, h2 H1 .refl t1 v rv⟩
def sNewT (i : Nat) : S Ω := fun τ ω => some (.nx (τ.set i (some (.ow (.T []) []))), ω)
theorem ds_newT {i : Nat} : DS G K W (tAsg tDNewT (gName i)) (sNewT i) := by
  intro H0 σ H ω τ s t D h p hp
  exact h _ _ (.of (Same.new hp)) (s.setW (kd := .T []) t hp (.of (Same.new hp)) upd_same .nil rfl i) (At.same t (Same.new hp))
/-- what e gives, finished -/
def tFrzW (te : TE) : TE := fun σ H Q => te σ H fun v H1 => ∃ a u, v = .ref a ∧ H1 a = some u ∧ Mut (some u) ∧ ∀ o, Q (.ref a) (upd H1 a (.frz o u))
theorem pe_frzW {X : Cx} {e : Expr} {te : TE} (h : PE X e te) : PE X e (tFrzW te) :=
  ⟨fun pins s σ H Q I q => thn (h.run pins s σ H _ I q) fun _ _ ⟨v, H1, J, r, a, u, ev, ha, mu, q⟩ => by
    subst ev
    obtain ⟨o, J'⟩ := J.lock ha mu
    exact ⟨_, _, J', r, q o⟩⟩
def OKd.fin : OKd → List D → D
  | .L, xs => .lst xs
  | .K ks, xs => .dic ks xs
  | .T ks, xs => .dit ks xs
def sRetW (i : Nat) : S Ω := fun τ ω => match τ[i]? with
  | some (some (.ow k xs)) => some (.rt (k.fin xs), ω)
  | _ => none
theorem OKd.mut (k : OKd) (vs : List V) : Mut (some (k.ho vs)) := by cases k <;> trivial
theorem OKd.rep {H : Hp} {l : Addr} {k : OKd} {vs : List V} {xs : List D} {o : Obj} (h : H l = some (.frz o (k.ho vs))) (r : RepL K im H vs xs) (hl : k.len xs.length) : Rep K im H (.ref l) (k.fin xs) := by
  cases k with
  | L => exact .lst ⟨o, h⟩ r
  | K ks => exact .dic h (by rw [r.length]; exact hl) r
  | T ks => exact .dit h (by rw [r.length]; exact hl) r
theorem ds_retW {i : Nat} : DS G K W (tRet (tFrzW (tVar i))) (sRetW i) := by
  intro H0 σ H ω τ s t D h
  unfold sRetW at h
  split at h
  · rename_i k xs hx
    obtain ⟨l, vs, e, h1, h2, h3, h4, h5⟩ := s.getW hx
    refine ⟨_, e, l, _, rfl, h1, k.mut vs, fun o => ?_⟩
    have sb : Sb im H (upd H l (.frz o (k.ho vs))) := fun b u eb st => by
      have : b ≠ l := fun q => by subst q; rw [h1] at eb; cases eb; exact OKd.nst st
      rw [upd_ne this]; exact eb
    refine h _ _ sb (fun b u eb nf => ?_) (G.keep t (fun b u f eb => ?_) sb) (OKd.rep upd_same (h2.up sb) h5)
    · have k := s.fr b u eb nf
      have : b ≠ l := fun q => by subst q; rw [h3] at eb; cases eb
      rw [upd_ne this]; exact k
    · have : b ≠ l := fun q => h4 (q ▸ f)
      rw [upd_ne this]; exact eb
  · exact h.elim
end
end DL
namespace DL
open PySem PySem.Spec PyProof.Rows L2
def kD' : Key → D
  | .inl i => .int i
  | .inr x => .str x
theorem Rep.ofKey {K : PySem.W.Frag} {im : Addr → Bool} {H : Hp} (k : Key) : Rep K im H (kV k) (kD' k) := by cases k with
  | inl i => exact .int i
  | inr x => exact .str x
theorem RepL.ofKeys {K : PySem.W.Frag} {im : Addr → Bool} {H : Hp} : ∀ ks : List Key, RepL K im H (ks.map kV) (ks.map kD')
  | [] => .nil
  | k :: ks => .cons (.ofKey k) (RepL.ofKeys ks)
theorem zip_get {α β : Type} : ∀ {xs : List α} {ys : List β} {i : Nat} {a : α}, xs.length = ys.length → xs[i]? = some a → ∃ b, (xs.zip ys)[i]? = some (a, b)
  | [], _, _, _, _, h => by simp at h
  | x :: xs, [], _, _, hl, _ => by simp at hl
  | x :: xs, y :: ys, 0, a, _, h => by simp at h; subst h; exact ⟨y, rfl⟩
  | x :: xs, y :: ys, i + 1, a, hl, h => by
    obtain ⟨b, e⟩ := zip_get (xs := xs) (ys := ys) (i := i) (by simpa using hl) (by simpa using h)
    exact ⟨b, by simpa using e⟩
section
variable {im : Addr → Bool} {Ω : Type} {G : Gam im Ω} {K : PySem.W.Frag} {W : WX} {ta tk te : TE} {Fa Fk Fe : E Ω D} {tr : TA} {Fr : E Ω (List D)}
def D.keysOf : D → Option (List D)
  | .dic ks _ => some (ks.map kD')
  | .dit ks _ => some (ks.map fun k => .tup (k.map kD'))
  | _ => none
def iKy (a : E Ω D) : E Ω (List D) := fun τ ω => (a τ ω).bind fun x ω1 => .ofO x.keysOf ω1
theorem di_keys (he : DE G K W te Fe) : DI G K W (iKeys te) (iKy Fe) := by
  intro H0 σ H ω τ s t' R h
  refine he H0 σ H ω τ s t' _ (Res.imp (Res.bind h) (fun x ω1 H1 k1 t1 h1 v r => ?_) fun _ _ _ _ _ q => q)
  cases r with
  | @dic a o ks vs ds a1 a2 a3 =>
    refine ⟨a, o, rfl, .inl ⟨_, a1, h1 H1 k1 t1 _ fun i H' sb => ⟨fun d hd => ?_, fun hi => ?_⟩⟩⟩
    · have hH := sb a _ a1 trivial
      rw [List.getElem?_map] at hd
      obtain ⟨k, hk, rfl⟩ := Option.map_eq_some_iff.mp hd
      obtain ⟨b, eb⟩ := zip_get a2 hk
      refine ⟨⟨hH, (List.getElem?_eq_some_iff.mp eb).1⟩, fun x H3 y => ?_⟩
      obtain ⟨rfl, k', v, ek, rfl⟩ := y
      rw [eb] at ek; cases ek
      exact ⟨Same.refl _, .ofKey k⟩
    · refine ⟨sb a _ a1 trivial, ?_⟩
      rw [List.length_map] at hi
      rw [List.length_zip]; omega
  | @dit a o ks vs ds a1 a2 a3 =>
    refine ⟨a, o, rfl, .inr ⟨_, a1, h1 H1 k1 t1 _ fun i H' sb => ⟨fun d hd => ?_, fun hi => ?_⟩⟩⟩
    · have hH := sb a _ a1 trivial
      rw [List.getElem?_map] at hd
      obtain ⟨k, hk, rfl⟩ := Option.map_eq_some_iff.mp hd
      obtain ⟨b, eb⟩ := zip_get a2 hk
      refine ⟨⟨hH, (List.getElem?_eq_some_iff.mp eb).1⟩, fun x H3 y => ?_⟩
      obtain ⟨rfl, k', v, q, ek, rfl, hq⟩ := y
      rw [eb] at ek; cases ek
      exact ⟨Same.refl _, .tup (hq) (RepL.ofKeys k)⟩
    · refine ⟨sb a _ a1 trivial, ?_⟩
      rw [List.length_map] at hi
      rw [List.length_zip]; omega
  | _ => exact h1.elim
end
abbrev OW := OKd × List D
def owG (im : Addr → Bool) (K : PySem.W.Frag) (p : Addr) : Gam im OW where
  At := fun ω H => ∃ vs, H p = some (ω.1.ho vs) ∧ RepL K im H vs ω.2 ∧ ω.1.len ω.2.length
  FP := fun b => b = p
  obj := .ref p
  keep := fun ⟨vs, h1, h2, h3⟩ k sb => ⟨vs, k _ _ rfl h1, h2.up sb, h3⟩
  nost := fun ⟨vs, h1, _⟩ b o f e s => by subst f; rw [h1] at e; cases e; exact OKd.nst s
  trk := fun ⟨vs, h1, _⟩ b f e => by subst f; rw [h1] at e; cases e
section
variable {im : Addr → Bool} {K : PySem.W.Frag} {W : WX} {p : Addr} {tv tk : TE} {Fv Fk : E OW D} {tr : TA} {Fr : E OW (List D)}
def sPutTs (i : Nat) (r : E OW (List D)) (v : E OW D) : S OW := fun τ ω => match τ[i]? with
  | some (some .src) => withE v (fun d => withE r fun xs τ ω => match D.keyL xs, ω with
    | some key, (.T ks, ds) => if ks.length ≤ 100000 ∧ key.length ≤ 1000 then some (.nx τ, (.T (putKs ks key), putDs ks ds key d)) else none
    | _, _ => none) τ ω
  | _ => none
theorem ow_chg {H0 H : Hp} {σ : L2.St} {τ : Tau} {ω ω' : OW} {vs : List V} (s : STT (owG im K p) K H0 H σ τ) (t : (owG im K p).At ω H) (r : RepL K im H vs ω'.2) (hl : ω'.1.len ω'.2.length) :
    STT (owG im K p) K H0 (upd H p (ω'.1.ho vs)) σ τ ∧ (owG im K p).At ω' (upd H p (ω'.1.ho vs)) ∧ Sb im H (upd H p (ω'.1.ho vs)) := by
  obtain ⟨us, h1, h2, h3⟩ := id t
  have sb : Sb im H (upd H p (ω'.1.ho vs)) := fun b o e st => by
    have : b ≠ p := fun q => by subst q; rw [h1] at e; cases e; exact OKd.nst st
    rw [upd_ne this]; exact e
  refine ⟨s.step t fun b o e nf => ?_, ⟨vs, upd_same, r.up sb, hl⟩, sb⟩
  have : b ≠ p := nf
  rw [upd_ne this]; exact e
theorem ds_putTs {i : Nat} (hr : DA (owG im K p) K W tr Fr) (hv : DE (owG im K p) K W tv Fv) : DS (owG im K p) K W (sDPut (tVar i) (tTup tr) tv) (sPutTs i Fr Fv) := by
  intro H0 σ H ω τ s t D' h
  unfold sPutTs at h
  split at h
  case h_2 => exact h.elim
  rename_i hτ
  refine hv H0 σ H ω τ s t _ (Res.imp (withE_kx s t h) (fun d ω1 H1 k1 t1 h1 v r => ?_) fun _ _ _ _ _ q => q)
  have s1 := s.step t k1
  refine ⟨_, s1.getS hτ, ?_⟩
  refine hr H0 σ H1 ω1 τ s1 t1 _ (Res.imp (withE_kx s1 t1 h1) (fun xs ω2 H2 k2 t2 h2 vs rx => ?_) fun _ _ _ _ _ q => q)
  have s2 := s1.step t1 k2
  obtain ⟨kd, ds⟩ := ω2
  cases ek : D.keyL xs with
  | none => rw [ek] at h2; exact h2.elim
  | some key =>
  rw [ek] at h2
  cases kd with
  | T ks =>
    dsimp only at h2
    split at h2
    case isFalse => exact h2.elim
    rename_i hsz
    refine ⟨by rw [rx.length, ← keyL_len ek]; exact line1000 hsz.2, fun q hq => ?_⟩
    have sm : Same H2 (upd H2 q (.tup vs)) := Same.new hq
    have s3 := s2.step t2 (.of sm)
    have t3 := At.same t2 sm
    obtain ⟨ws, hp3, rws, hlen⟩ := id t3
    have hkw : ks.length = ws.length := by rw [rws.length]; exact hlen
    have sb12 : Sb im H1 (upd H2 q (.tup vs)) := (k2.sb t1).trans (.of sm)
    obtain ⟨ws', ep, elen, rr⟩ := put_ok key hkw rws (r.up sb12)
    obtain ⟨s4, t4, sb⟩ := ow_chg (ω' := (.T (putKs ks key), putDs ks ds key d)) s3 t3 rr (put_len key d hlen)
    refine ⟨p, _, rfl, .inr ⟨ks.zip ws, key, q, hp3, rfl, by rw [upd_same, rx.key ek], by rw [List.length_zip, sizeLine_eq]; omega, rfl⟩, ?_⟩
    rw [ep]
    exact h2 σ _ ((Sb.of sm).trans sb) s4 t4
  | _ => exact h2.elim
end
section
variable {im : Addr → Bool} {Ω : Type} {G : Gam im Ω} {K : PySem.W.Frag} {W : WX} {ta : TE} {Fa : E Ω D} {tr : TA} {Fr : E Ω (List D)}
/-- arguments, that of place j being what slot i holds -/
def DAJ (G : Gam im Ω) (K : PySem.W.Frag) (W : WX) (ta : TA) (i j : Nat) (F : E Ω (List D)) : Prop := ∀ H0 σ H ω τ v0, STT G K H0 H σ τ → G.At ω H → σ[i]? = some (some v0) → ∀ Q : List V → Hp → Prop,
  Res G (F τ ω) H (fun ds _ H' => ∀ ws, RepL K im H' ws ds → Q (ws.take j ++ v0 :: ws.drop j) H') (kX G K W σ) → ta σ H Q
theorem daj_here {i : Nat} (hr : DA G K W tr Fr) : DAJ G K W (tCons (tVar i) tr) i 0 Fr := by
  intro H0 σ H ω τ v0 s t hv Q h
  exact ⟨v0, hv, hr H0 σ H ω τ s t _ (Res.imp h (fun ds ω1 H1 k1 t1 h1 vs r => by simpa using h1 vs r) fun _ _ _ _ _ q => q)⟩
theorem daj_next {i j : Nat} (ha : DE G K W ta Fa) (hr : DAJ G K W tr i j Fr) : DAJ G K W (tCons ta tr) i (j + 1) (aCons Fa Fr) := by
  intro H0 σ H ω τ v0 s t hv Q h
  refine ha H0 σ H ω τ s t _ (Res.imp (Res.bind h) (fun x ω1 H1 k1 t1 h1 v r => ?_) fun _ _ _ _ _ q => q)
  refine hr H0 σ H1 ω1 τ v0 (s.step t k1) t1 hv _ (Res.imp (Res.bind (h1.mono k1)) (fun xs ω2 H2 k2 t2 h2 ws r2 => ?_) fun _ _ _ _ _ q => q)
  have := (h2.mono k2) H2 .refl t2 (v :: ws) (.cons (r.up (k2.sb t1)) r2)
  simpa using this
/-- the thing itself, which stands in slot i, is handed on as argument j -/
theorem dc_WJ {P : Type} {Γ : P → Gam im Ω} {p : P} {n m i j : Nat} {F : List D → Ω → R Ω D} {tr : TA} {Fr : E Ω (List D)} (hr : DAJ (Γ p) K W tr i j Fr) (hn : AN Fr m) (hm : m + 1 = n := by rfl) (hj : j ≤ m := by decide) :
    DE (Γ p) K W (tCall (spW K Γ n j F) [] E0 tr) (cW F i Fr) := by
  intro H0 σ H ω τ s t Q h
  unfold cW at h
  split at h
  · rename_i hx
    have hr' := hr H0 σ H ω τ _ s t (s.getS hx)
    cases e0 : Fr τ ω with
    | ok xs ω1 =>
      have hl := hn τ ω xs ω1 e0
      rw [e0] at h hr'
      refine hr' _ fun H1 k1 t1 vs r => ?_
      have h1 : Res (Γ p) (nox (F xs ω1)) H (kD (Γ p) K Q) (kX (Γ p) K W σ) := h
      refine ⟨?_, p, ω1, vs, xs, by rw [List.append_nil], t1, r, ?_⟩
      · rw [List.append_nil, List.length_append, List.length_cons, List.length_take, List.length_drop, r.length, hl]
        omega
      have h2 := h1.mono k1
      cases e : F xs ω1 with
      | ok d u => rw [e] at h2; exact h2
      | ex x u => rw [e] at h2; exact h2.elim
      | no => rw [e] at h2; exact h2.elim
    | ex x ω1 =>
      rw [e0] at h hr'
      exact hr' _ h
    | no => rw [e0] at h; exact h.elim
  · exact h.elim
/-- all but the thing at l stands -/
theorem STT.chg {H0 H H' : Hp} {σ : L2.St} {τ : Tau} {ω : Ω} (s : STT G K H0 H σ τ) (t : G.At ω H) {i : Nat} {l : Addr} {kd kd' : OKd} {vs : List V} {xs ys : List D} (h : τ[i]? = some (some (.ow kd xs))) (e : σ[i]? = some (some (.ref l)))
    (fr : ∀ b o, H b = some o → b ≠ l → H' b = some o) (new : H' l = some (kd'.ho vs)) (r : RepL K im H' vs ys) (hlen : kd'.len ys.length) : STT G K H0 H' σ (τ.set i (some (.ow kd' ys))) ∧ G.At ω H' ∧ Sb im H H' := by
  obtain ⟨l', ws', e', h1, h2, h3, h4, h5⟩ := s.getW h
  have el : l' = l := by rw [e] at e'; cases e'; rfl
  subst el
  have sb : Sb im H H' := fun b o eb st => by
    have : b ≠ l' := fun q => by subst q; rw [h1] at eb; cases eb; exact OKd.nst st
    exact fr b o eb this
  have at' : G.At ω H' := G.keep t (fun b o f eb => by
    have : b ≠ l' := fun q => h4 (q ▸ f)
    exact fr b o eb this) sb
  refine ⟨⟨by simp [s.len], fun j w c e1 e2 => ?_, fun j k a _ _ xs' zs hjk e1 e2 e3 e4 => ?_, fun b o eb nf => ?_⟩, at', sb⟩
  · by_cases hj : i = j
    · subst hj
      have hi : i < τ.length := (List.getElem?_eq_some_iff.mp h).1
      rw [List.getElem?_set_self hi] at e2
      cases e2
      rw [e] at e1; cases e1
      exact .ow new r h3 h4 hlen
    · rw [List.getElem?_set_ne hj] at e2
      have q := s.ok j w c e1 e2
      cases q with
      | un => exact .un
      | d r => exact .d (r.up sb)
      | @ow l2 k2 vs2 xs2 a1 a2 a3 a4 a5 =>
        have ne : l2 ≠ l' := fun q => by
          subst q
          exact s.dj i j l2 _ _ hj e h e1 e2
        exact .ow (fr _ _ a1 ne) (a2.up sb) a3 a4 a5
      | src => exact .src
  · have a1 : ∃ k2 xs2, τ[j]? = some (some (.ow k2 xs2)) := by
      by_cases hj : i = j
      · subst hj; exact ⟨_, _, h⟩
      · rw [List.getElem?_set_ne hj] at e2; exact ⟨_, _, e2⟩
    have a2 : ∃ k2 xs2, τ[k]? = some (some (.ow k2 xs2)) := by
      by_cases hj : i = k
      · subst hj; exact ⟨_, _, h⟩
      · rw [List.getElem?_set_ne hj] at e4; exact ⟨_, _, e4⟩
    obtain ⟨_, _, a1⟩ := a1
    obtain ⟨_, _, a2⟩ := a2
    exact s.dj j k a _ _ hjk e1 a1 e3 a2
  · have k := s.fr b o eb nf
    have : b ≠ l' := fun q => by subst q; rw [h3] at eb; cases eb
    exact fr b o k this
/-- f(.., d, ..), d an own dict or list that f may change; its value is stored in slot z -/
def sCallW (F : List D → OW → R OW D) (i : Nat) (a : E Ω (List D)) (B : D → Tau → Option Tau) : S Ω := fun τ ω => match τ[i]? with
  | some (some (.ow kd xs)) => withE a (fun ds τ ω1 => match nox (F ds (kd, xs)) with
    | .ok d (kd', ys) => (B d (τ.set i (some (.ow kd' ys)))).map fun τ' => (.nx τ', ω1)
    | _ => none) τ ω
  | _ => none
theorem callW_core {n m i j : Nat} {F : List D → OW → R OW D} {tr : TA} {Fr : E Ω (List D)} {B : D → Tau → Option Tau} (hr : DAJ G K W tr i j Fr) (hn : AN Fr m) (hm : m + 1 = n) (hj : j ≤ m)
    {H0 : Hp} {σ : L2.St} {H : Hp} {ω : Ω} {τ : Tau} (s : STT G K H0 H σ τ) (t : G.At ω H) {D' : Ends} (h : KS G K H0 H D' W (sCallW F i Fr B τ ω)) :
    ∀ Q : VK, (∀ v H1 d τ1 τ2 ω1, Sb im H H1 → Rep K im H1 v d → STT G K H0 H1 σ τ1 → G.At ω1 H1 → B d τ1 = some τ2 → KS G K H0 H1 D' W (some (.nx τ2, ω1)) → Q v H1) → tCall (spW K (owG im K) n j F) [] E0 tr σ H Q := by
  intro Q fin
  unfold sCallW at h
  split at h
  case h_2 => exact h.elim
  rename_i kd xs hτ
  obtain ⟨l, ws, el, hl, rws, h0, nf, hlen⟩ := s.getW hτ
  have hr' := hr H0 σ H ω τ _ s t el
  have h' := withE_kx s t h
  cases e0 : Fr τ ω with
  | ok ds ω1 =>
    have hl' := hn τ ω ds ω1 e0
    rw [e0] at h' hr'
    refine hr' _ fun H1 k1 t1 vs r => ?_
    have h1 := h' H1 k1 t1
    dsimp only at h1
    have s1 := s.step t k1
    have hl1 : H1 l = some (kd.ho ws) := k1 l _ hl nf
    have rws1 := rws.up (k1.sb t)
    refine ⟨?_, l, (kd, xs), vs, ds, by rw [List.append_nil]; rfl, ⟨ws, hl1, rws1, hlen⟩, r, ?_⟩
    · rw [List.append_nil, List.length_append, List.length_cons, List.length_take, List.length_drop, r.length, hl']
      omega
    cases eF : F ds (kd, xs) with
    | no => rw [eF] at h1; exact h1.elim
    | ex x u => rw [eF] at h1; exact h1.elim
    | ok d o2 =>
      obtain ⟨kd', ys⟩ := o2
      rw [eF] at h1
      intro H2 k2 t2 v rv
      obtain ⟨us, hn2, rn2, ln2⟩ := t2
      obtain ⟨s3, t3, sb3⟩ := s1.chg (H' := H2) t1 hτ el (fun b o e ne => k2 b o e ne) hn2 rn2 ln2
      have h2 : KS G K H0 H1 D' W ((B d (τ.set i (some (.ow kd' ys)))).map fun τ' => (.nx τ', ω1)) := h1
      cases eB : B d (τ.set i (some (.ow kd' ys))) with
      | none => rw [eB] at h2; exact h2.elim
      | some τ2 =>
        rw [eB] at h2
        exact fin v H2 d _ τ2 ω1 ((k1.sb t).trans sb3) rv s3 t3 eB (h2.mono sb3)
  | ex x ω1 => rw [e0] at h' hr'; exact hr' _ h'
  | no => rw [e0] at h'; exact h'.elim
theorem ds_callW {n m i j : Nat} {F : List D → OW → R OW D} {tr : TA} {Fr : E Ω (List D)} (hr : DAJ G K W tr i j Fr) (hn : AN Fr m) (hm : m + 1 = n := by rfl) (hj : j ≤ m := by decide) :
    DS G K W (tDrop (tCall (spW K (owG im K) n j F) [] E0 tr)) (sCallW F i Fr fun _ τ => some τ) := by
  intro H0 σ H ω τ s t D' h
  refine callW_core hr hn hm hj s t h _ fun v H1 d τ1 τ2 ω1 sb rv s1 t1 eB ks => ?_
  cases eB
  exact ks σ H1 .refl s1 t1
end
section
variable {im : Addr → Bool} {P : Program} {w : World} {K : PySem.W.Frag} {mg : Str → Option Value} {base : Heap}
def cellsJ (j : Nat) (ds : List D) : List Cell := (ds.take j).map .d ++ .src :: (ds.drop j).map .d
theorem cellsJ_get {j i : Nat} {ds : List D} {c : Cell} (h : (cellsJ j ds)[i]? = some c) (hj : j ≤ ds.length) : (i < j ∧ ∃ d, ds[i]? = some d ∧ c = .d d) ∨ (i = j ∧ c = .src) ∨ (j < i ∧ ∃ d, ds[i - 1]? = some d ∧ c = .d d) := by
  unfold cellsJ at h
  by_cases h1 : i < j
  · rw [List.getElem?_append_left (by simp; omega), List.getElem?_map, List.getElem?_take_of_lt h1] at h
    obtain ⟨d, e, rfl⟩ := Option.map_eq_some_iff.mp h
    exact .inl ⟨h1, d, e, rfl⟩
  · rw [List.getElem?_append_right (by simp; omega)] at h
    have hl : ((ds.take j).map Cell.d).length = j := by simp; omega
    rw [hl] at h
    by_cases h2 : i = j
    · subst h2
      simp at h
      exact .inr (.inl ⟨rfl, h.symm⟩)
    · have e : i - j = (i - j - 1) + 1 := by omega
      rw [e, List.getElem?_cons_succ, List.getElem?_map, List.getElem?_drop] at h
      obtain ⟨d, e2, rfl⟩ := Option.map_eq_some_iff.mp h
      exact .inr (.inr ⟨by omega, d, by rw [← e2]; congr 1; omega, rfl⟩)
theorem vsJ_get {j i : Nat} {ws : List V} {u v : V} (h : (ws.take j ++ u :: ws.drop j)[i]? = some v) (hj : j ≤ ws.length) : (i < j → ws[i]? = some v) ∧ (i = j → v = u) ∧ (j < i → ws[i - 1]? = some v) := by
  refine ⟨fun h1 => ?_, fun h1 => ?_, fun h1 => ?_⟩
  · rw [List.getElem?_append_left (by simp; omega), List.getElem?_take_of_lt h1] at h
    exact h
  · subst h1
    rw [List.getElem?_append_right (by simp; omega)] at h
    have hl : (ws.take i).length = i := by simp; omega
    rw [hl] at h
    simp at h
    exact h.symm
  · rw [List.getElem?_append_right (by simp; omega)] at h
    have hl : (ws.take j).length = j := by simp; omega
    rw [hl] at h
    have e : i - j = (i - j - 1) + 1 := by omega
    rw [e, List.getElem?_cons_succ, List.getElem?_drop] at h
    rw [← h]; congr 1; omega
theorem close_WJ {Ω Pp : Type} {Γ : Pp → Gam im Ω} {N ps : List Str} {j : Nat} {F : S Ω} {t : TS} {vs : List V} {H : Hp} {Q : VK} {Ex : XK} (hd : ∀ p, DS (Γ p) K (fun _ _ _ _ => False) t F) (hj : j < ps.length)
    (h : spW K Γ ps.length j (fun ds ω => nox (runS F (startT N.length (cellsJ j ds)) ω)) vs H Q Ex) : t { nx := fun _ H' => Q .non H', rt := Q } (start N vs) H := by
  obtain ⟨hl, p, ω, ws, ds, rfl, at0, r, h⟩ := h
  replace hd := hd p
  have lw : ws.length + 1 = ps.length := by
    rw [List.length_append, List.length_cons, List.length_take, List.length_drop] at hl; omega
  have jw : j ≤ ws.length := by omega
  have jd : j ≤ ds.length := by rw [← r.length]; exact jw
  have st : STT (Γ p) K H H (start N (ws.take j ++ (Γ p).obj :: ws.drop j)) (startT N.length (cellsJ j ds)) := stt_start (by unfold cellsJ; simp [r.length]) (fun i v c e1 e2 => by
    obtain ⟨g1, g2, g3⟩ := vsJ_get e1 jw
    rcases cellsJ_get e2 jd with ⟨h1, d, ed, rfl⟩ | ⟨h1, rfl⟩ | ⟨h1, d, ed, rfl⟩
    · obtain ⟨v', e3, r'⟩ := r.get ed
      rw [g1 h1] at e3; cases e3
      exact .d r'
    · obtain rfl := g2 h1
      exact .src
    · obtain ⟨v', e3, r'⟩ := r.get ed
      rw [g3 h1] at e3; cases e3
      exact .d r') (fun c hc _ xs e => by
    obtain ⟨i, hi⟩ := List.getElem?_of_mem hc
    rcases cellsJ_get hi jd with ⟨h1, d, ed, rfl⟩ | ⟨h1, rfl⟩ | ⟨h1, d, ed, rfl⟩ <;> cases e) _
  refine hd H (start N (ws.take j ++ (Γ p).obj :: ws.drop j)) H ω _ st at0 _ ?_
  unfold runS at h
  dsimp only at h
  cases q : F (startT N.length (cellsJ j ds)) ω with
  | none => rw [q] at h; exact h.elim
  | some p' =>
    obtain ⟨fl, ω'⟩ := p'
    rw [q] at h
    cases fl with
    | nx τ => exact fun σ' H' _ s t => h H' s.fr t .non .non
    | rt d => exact fun v H' _ k t r => h H' k t v r
    | bk τ => exact h.elim
    | ct τ => exact h.elim
    | rs x τ => exact h.elim
    | rl d => exact h.elim
theorem fn_WxJ {Ω Pp : Type} {Γ : Pp → Gam im Ω} {x qual : Str} {st : Stmt} {f : Addr} {fd : FuncData} {N ps : List Str} {k k' n j : Nat} {F : S Ω} {F' : List D → Ω → R Ω D} (Fn : Fun K x qual st f fd) (Sc : FnScope N ps (defScope st))
    (hj : j < ps.length) (ek : k' = k + 1) (ej : n = ps.length) (eF : F' = fun ds ω => nox (runS F (startT N.length (cellsJ j ds)) ω))
    (hb : ∀ (cdv : Value) (A : Around) (outer : List Env) (s : Shared) (H : Hp) (Ex : XK), Room k (A.deeper (envOfC qual (defScope st) s.heap.objs.size f cdv)) →
      ∃ t, PSs (cxOf CX0 P w K mg base N qual (defScope st) f cdv A outer s H Ex).nox (defBody st) t ∧ ∀ p, DS (Γ p) K (fun _ _ _ _ => False) t F) :
    FnOk P w K mg base CX0 k' f fd ps (spW K Γ n j F') := by
  subst ek ej eF
  refine Fn.ok Sc (fun vs H Q Ex h => h.1) fun cdv A outer s H vs Q Ex hr h => ?_
  obtain ⟨t, ht, hd⟩ := hb cdv A outer s H Ex hr
  exact ⟨t, ht, close_WJ hd hj h⟩
theorem spWJ_no {Ω Pp : Type} {Γ : Pp → Gam im Ω} {n j : Nat} {vs : List V} {H : Hp} {Q : VK} {Ex : XK} : ¬ spW K Γ n j (fun _ _ => .no) vs H Q Ex := fun ⟨_, _, _, _, _, _, _, _, h⟩ => h
end
end DL
namespace DL
open PySem
theorem str_ne_same (s : Str) (h : PyData.strOk s = true) : neD (.str s) (.str s) = some (.bl false) := by
  unfold neD eqB
  simp only [D.py]
  rw [if_pos ⟨by simp only [PyData.canLay0]; exact h, by simp only [PyData.canLay0]; exact h, by simp only [PyData.depth]; omega⟩]
  simp only [PyData.eqv, Option.map_some]
  simp
end DL
namespace DL
open PySem PySem.Spec PyProof.Rows L2
def tPre (i : Nat) (t : TS) : TS := fun D σ H => t D σ H ∨ ∃ a u, σ[i]? = some (some (.ref a)) ∧ H a = some u ∧ Mut (some u) ∧ ∀ o, t D σ (upd H a (.frz o u))
theorem ps_pre {X : Cx} {st : Stmt} {t : TS} (i : Nat) (h : PS X st t) : PS X st (tPre i t) := by
  refine ⟨fun pins s σ H D I q => ?_⟩
  rcases q with q | ⟨a, u, e, ha, mu, q⟩
  · exact h.run pins s σ H D I q
  · obtain ⟨o, J⟩ := I.lock ha mu
    exact h.run pins s σ _ D J (q o)
section
variable {im : Addr → Bool} {Ω : Type} {G : Gam im Ω} {K : PySem.W.Frag} {W : WX} {t : TS} {Ft : S Ω}
theorem STT.fzW {H0 H : Hp} {ω : Ω} {σ : L2.St} {τ : Tau} (s : STT G K H0 H σ τ) (t : G.At ω H) {i : Nat} {l : Addr} {kd : OKd} {vs : List V} {xs : List D} (h : τ[i]? = some (some (.ow kd xs))) (e : σ[i]? = some (some (.ref l))) (hl : H l = some (kd.ho vs)) (r : RepL K im H vs xs) (len : kd.len xs.length) (o : Obj) :
    STT G K H0 (upd H l (.frz o (kd.ho vs))) σ (τ.set i (some (.d (kd.fin xs)))) ∧ G.At ω (upd H l (.frz o (kd.ho vs))) ∧ Sb im H (upd H l (.frz o (kd.ho vs))) := by
  obtain ⟨l', ws', e', h1, h2, h3, h4, h5⟩ := s.getW h
  have el : l' = l := by rw [e] at e'; cases e'; rfl
  subst el
  have sb : Sb im H (upd H l' (.frz o (kd.ho vs))) := fun b u eb st => by
    have : b ≠ l' := fun q => by subst q; rw [hl] at eb; cases eb; exact OKd.nst st
    rw [upd_ne this]; exact eb
  have at' : G.At ω (upd H l' (.frz o (kd.ho vs))) := G.keep t (fun b o f eb => by
    have : b ≠ l' := fun q => h4 (q ▸ f)
    rw [upd_ne this]; exact eb) sb
  refine ⟨⟨by simp [s.len], fun j w c e1 e2 => ?_, fun j k a _ _ xs' zs hjk e1 e2 e3 e4 => ?_, fun b u eb nf => ?_⟩, at', sb⟩
  · by_cases hj : i = j
    · subst hj
      have hi : i < τ.length := (List.getElem?_eq_some_iff.mp h).1
      rw [List.getElem?_set_self hi] at e2
      cases e2
      rw [e] at e1; cases e1
      exact .d (OKd.rep upd_same (r.up sb) len)
    · rw [List.getElem?_set_ne hj] at e2
      have q := s.ok j w c e1 e2
      cases q with
      | un => exact .un
      | d r => exact .d (r.up sb)
      | @ow l2 k2 vs2 xs2 a1 a2 a3 a4 a5 =>
        have ne : l2 ≠ l' := fun q => by
          subst q
          exact s.dj i j l2 _ _ hj e h e1 e2
        exact .ow (by rw [upd_ne ne]; exact a1) (a2.up sb) a3 a4 a5
      | src => exact .src
  · have a : i ≠ j := fun q => by
      subst q
      have hi : i < τ.length := (List.getElem?_eq_some_iff.mp h).1
      rw [List.getElem?_set_self hi] at e2; cases e2
    have b : i ≠ k := fun q => by
      subst q
      have hi : i < τ.length := (List.getElem?_eq_some_iff.mp h).1
      rw [List.getElem?_set_self hi] at e4; cases e4
    rw [List.getElem?_set_ne a] at e2
    rw [List.getElem?_set_ne b] at e4
    exact s.dj j k _ _ _ hjk e1 e2 e3 e4
  · have k := s.fr b u eb nf
    have : b ≠ l' := fun q => by subst q; rw [h3] at eb; cases eb
    rw [upd_ne this]; exact k
def sPre (i : Nat) (F : S Ω) : S Ω := fun τ ω => match τ[i]? with
  | some (some (.ow k xs)) => F (τ.set i (some (.d (k.fin xs)))) ω
  | _ => F τ ω
theorem ds_pre (i : Nat) (h : DS G K W t Ft) : DS G K W (tPre i t) (sPre i Ft) := by
  intro H0 σ H ω τ s t' D ks
  unfold sPre at ks
  split at ks
  · rename_i k xs hx
    obtain ⟨l, vs, e, h1, r, _, _, hlen⟩ := s.getW hx
    refine .inr ⟨l, _, e, h1, k.mut vs, fun o => ?_⟩
    obtain ⟨s2, t2, sb⟩ := s.fzW t' hx e h1 r hlen o
    exact h H0 σ _ ω _ s2 t2 D (ks.mono sb)
  · exact .inl (h H0 σ H ω τ s t' D ks)
end
end DL
namespace DL
open Sh
theorem up_lt {b m k : Nat} (hb : 0 < b) (h : k < (m + b - 1) / b) : k * b < m := by
  rw [Nat.lt_iff_add_one_le, Nat.le_div_iff_mul_le hb, Nat.add_mul] at h; omega
end DL
namespace DL
open PySem PySem.Spec PyProof.Rows L2
section
variable {Ω : Type} {τ : Tau} {ω : Ω}
theorem sw_newT {i : Nat} {P} : sw ((sNewT i : S Ω) τ ω) P = P (.nx (τ.set i (some (.ow (.T []) [])))) ω := by with_unfolding_all rfl
theorem sw_retW {i : Nat} {P} {k : OKd} {xs : List D} (h : τ[i]? = some (some (.ow k xs))) : sw ((sRetW i : S Ω) τ ω) P = P (.rt (k.fin xs)) ω := by
  unfold sRetW; rw [h]; with_unfolding_all rfl
theorem sw_pre {i : Nat} {F : S Ω} {P} {k : OKd} {xs : List D} (h : τ[i]? = some (some (.ow k xs))) : sw (sPre i F τ ω) P = sw (F (τ.set i (some (.d (k.fin xs)))) ω) P := by
  unfold sPre; rw [h]
theorem sw_par3 {i j l : Nat} {a b c : E Ω D} {P} : sw (sPar3 i j l a b c τ ω) P = (a τ ω).wp (fun x ω1 => (b τ ω1).wp (fun y ω2 => (c τ ω2).wp (fun z ω3 => P (.nx (((τ.set i (some (.d x))).set j (some (.d y))).set l (some (.d z)))) ω3) (fun x ω1 => P (.rs x τ) ω1)) (fun x ω1 => P (.rs x τ) ω1)) (fun x ω1 => P (.rs x τ) ω1) := by
  unfold sPar3; simp only [sw_withE]; with_unfolding_all rfl
theorem sw_callW {F : List D → OW → R OW D} {i : Nat} {a : E Ω (List D)} {B : D → Tau → Option Tau} {P} {kd : OKd} {xs : List D} (h : τ[i]? = some (some (.ow kd xs)))
    (k : (a τ ω).wp (fun ds ω1 => (F ds (kd, xs)).wp (fun d o2 => ∃ τ', B d (τ.set i (some (.ow o2.1 o2.2))) = some τ' ∧ P (.nx τ') ω1) X0) (fun x ω1 => P (.rs x τ) ω1)) : sw (sCallW F i a B τ ω) P := by
  unfold sCallW
  rw [h]
  rw [sw_withE]
  refine k.mono (fun ds ω1 h1 => ?_) fun _ _ h => h
  cases e : F ds (kd, xs) with
  | ok d o2 =>
    obtain ⟨kd', ys⟩ := o2
    rw [e, wp_ok] at h1
    obtain ⟨τ', e1, h2⟩ := h1
    dsimp only [nox] at e1 ⊢
    rw [e1]
    with_unfolding_all exact h2
  | ex x u => rw [e] at h1; with_unfolding_all exact h1.elim
  | no => rw [e] at h1; with_unfolding_all exact h1.elim
theorem wp_dgK {p : Tau → Ω → Option (List Key × List D)} {a : E Ω D} {P X} {ks : List Key} {ds : List D} (h : ∀ ω, p τ ω = some (ks, ds))
    (k : (a τ ω).wp (fun x ω1 => ∃ k z, x.key = some k ∧ lkp ks ds k = some z ∧ P z ω1) X) : (eDgK p a τ ω).wp P X := by
  unfold eDgK
  rw [h ω]
  dsimp only
  rw [wp_bind]
  refine k.mono (fun xs ω1 h1 => ?_) fun _ _ h => h
  obtain ⟨k, z, e1, e3, h1⟩ := h1
  rw [e1, h ω1]
  dsimp only
  rw [e3, wp_some]
  exact h1
end
section
variable {τ : Tau} {ω : OW}
theorem sw_putTs {i : Nat} {r : E OW (List D)} {v : E OW D} {P} (h : τ[i]? = some (some .src))
    (k : (v τ ω).wp (fun d ω1 => (r τ ω1).wp (fun xs ω2 => ∃ key ks ds, D.keyL xs = some key ∧ ω2 = (OKd.T ks, ds) ∧ ks.length ≤ 100000 ∧ key.length ≤ 1000 ∧ P (.nx τ) (OKd.T (putKs ks key), putDs ks ds key d)) (fun x ω1 => P (.rs x τ) ω1)) (fun x ω1 => P (.rs x τ) ω1)) : sw (sPutTs i r v τ ω) P := by
  unfold sPutTs
  rw [h]
  simp only [sw_withE]
  refine k.mono (fun d ω1 h1 => R.wp.mono h1 (fun xs ω2 h2 => ?_) fun _ _ h => h) fun _ _ h => h
  obtain ⟨key, ks, ds, e1, rfl, e2, e3, h2⟩ := h2
  rw [e1]
  dsimp only
  rw [if_pos ⟨e2, e3⟩, sw_some]
  exact h2
end
end DL
namespace DL
open Sh
/-- all lumps, with their parts -/
def lm : Sh → Nat → List (Nat × Nat × Sh)
  | .o, p => [(p, p + 1, .o)]
  | .n l r, p => (p, p + (l.size + r.size), .n l r) :: (lm l p ++ lm r (p + l.size))
/-- stretches -/
def stP (m b : Nat) : List (Nat × Nat) := (List.range ((m + b - 1) / b)).map fun k => (k * b, min (k * b + b) m)
end DL
namespace DL
open PySem PySem.Spec PyProof.Rows L2
/-- a pair of numbers -/
abbrev pD (p : Nat × Nat) : D := .tup [.int (p.1 : Nat), .int (p.2 : Nat)]
theorem stP_len (m b : Nat) : (stP m b).length = (m + b - 1) / b := by simp [stP]
end DL
namespace DL
open PySem PySem.Spec PyProof.Rows L2
section
variable {im : Addr → Bool} {Ω : Type} (G : Gam im Ω) (K : PySem.W.Frag)
abbrev SL (Ω : Type) := Tau → Ω → Option (List D × Ω)
def KSL (H0 H : Hp) (D' : Ends) : Option (List D × Ω) → Prop
  | none => False
  | some (ds, ω) => ∀ p vs H', Sb im H H' → Kp G H0 H' → G.At ω H' → H0 p = none → ¬ G.FP p → H' p = some (.lst vs) → RepL K im H' vs ds → D'.rt (.ref p) H'
def DSL (ts : TS) (F : SL Ω) : Prop := ∀ H0 σ H ω τ, STT G K H0 H σ τ → G.At ω H → ∀ D', KSL G K H0 H D' (F τ ω) → ts D' σ H
variable {G} {K}
theorem KSL.mono {H0 H H1 : Hp} {D' : Ends} {r : Option (List D × Ω)} (h : KSL G K H0 H D' r) (s : Sb im H H1) : KSL G K H0 H1 D' r := by
  rcases r with _ | ⟨ds, ω⟩
  · exact h
  · exact fun p vs H' sb => h p vs H' (s.trans sb)
end
section
variable {im : Addr → Bool} {Ω : Type} {G : Gam im Ω} {K : PySem.W.Frag} {W : WX} {te : TE} {Fl' : E Ω (List D)} {t u : TS} {Ft : S Ω} {Fu : SL Ω}
def lSeq (a : S Ω) (b : SL Ω) : SL Ω := fun τ ω => match a τ ω with
  | some (.nx τ1, ω1) => b τ1 ω1
  | _ => none
def lRet (e : E Ω (List D)) : SL Ω := fun τ ω => match e τ ω with
  | .ok ds ω1 => some (ds, ω1)
  | _ => none
def lRetO (i : Nat) : SL Ω := fun τ ω => match τ[i]? with
  | some (some (.ow .L xs)) => some (xs, ω)
  | _ => none
theorem dsl_seq (ha : DS G K W t Ft) (hb : DSL G K u Fu) : DSL G K (tSeq t u) (lSeq Ft Fu) := by
  intro H0 σ H ω τ s t' D h
  refine ha H0 σ H ω τ s t' _ ?_
  unfold lSeq at h
  cases q : Ft τ ω with
  | none => rw [q] at h; exact h.elim
  | some p =>
    obtain ⟨fl, ω1⟩ := p
    rw [q] at h
    cases fl with
    | nx τ1 => exact fun σ' H' sb s1 t1 => hb H0 σ' H' ω1 τ1 s1 t1 D (h.mono sb)
    | bk τ1 => exact h.elim
    | ct τ1 => exact h.elim
    | rt d => exact h.elim
    | rs x τ1 => exact h.elim
    | rl d => exact h.elim
theorem dsl_ret (he : DL G K W te Fl') : DSL G K (tRet te) (lRet Fl') := by
  intro H0 σ H ω τ s t' D h
  refine he H0 σ H ω τ s t' _ ?_
  unfold lRet at h
  cases q : Fl' τ ω with
  | ok ds ω1 =>
    rw [q] at h
    refine fun H1 k1 t1 p vs hp h1 r => h p vs H1 (k1.sb t') (s.fr.trans k1) t1 ?_ (fun f => G.trk t' p f hp) h1 r
    cases e2 : H0 p with
    | none => rfl
    | some o =>
      by_cases f : G.FP p
      · exact absurd hp (G.trk t' p f)
      · have := s.fr p o e2 f; rw [hp] at this; cases this
  | ex x ω1 => rw [q] at h; exact h.elim
  | no => rw [q] at h; exact h.elim
theorem dsl_retO {i : Nat} : DSL G K (tRet (tVar i)) (lRetO i) := by
  intro H0 σ H ω τ s t D h
  unfold lRetO at h
  split at h
  · rename_i xs hx
    obtain ⟨l, vs, e, h1, h2, h3, h4⟩ := s.getO hx
    exact ⟨_, e, h l vs H .refl s.fr t h3 h4 h1 h2⟩
  · exact h.elim
end
section
variable {im : Addr → Bool} {P : Program} {w : World} {K : PySem.W.Frag} {mg : Str → Option Value} {base : Heap}
def runL {Ω : Type} (F : SL Ω) (τ : Tau) (ω : Ω) : R Ω (List D) := match F τ ω with
  | some (ds, ω') => .ok ds ω'
  | none => .no
theorem fn_L {x qual : Str} {st : Stmt} {f : Addr} {fd : FuncData} {N ps : List Str} {k k' j : Nat} {F : SL Unit} {F' : List D → R Unit (List D)} (Fn : Fun K x qual st f fd) (Sc : FnScope N ps (defScope st))
    (ek : k' = k + 1) (ej : j = ps.length) (eF : F' = fun ds => runL F (startT N.length (ds.map .d)) ())
    (hb : ∀ (cdv : Value) (A : Around) (outer : List Env) (s : Shared) (H : Hp) (Ex : XK), Room k (A.deeper (envOfC qual (defScope st) s.heap.objs.size f cdv)) →
      ∃ t, PSs (cxOf CX0 P w K mg base N qual (defScope st) f cdv A outer s H Ex).nox (defBody st) t ∧ DSL (gam0 im) K t F) :
    FnOk P w K mg base CX0 k' f fd ps (spL K im j F') := by
  subst ek ej eF
  refine Fn.ok Sc (fun vs H Q Ex h => h.1) fun cdv A outer s H vs Q Ex hr h => ?_
  obtain ⟨hl, ds, r, h⟩ := h
  obtain ⟨t, ht, hd⟩ := hb cdv A outer s H Ex hr
  refine ⟨t, ht, ?_⟩
  have st : STT (gam0 im) K H H (start N vs) (startT N.length (ds.map .d)) := stt_start (by rw [List.length_map, r.length]) (fun i v c e1 e2 => by
    rw [List.getElem?_map] at e2
    cases q : ds[i]? with
    | none => rw [q] at e2; cases e2
    | some d =>
      rw [q] at e2; cases e2
      obtain ⟨v', e3, r'⟩ := r.get q
      rw [e1] at e3; cases e3
      exact .d r') (fun c hc _ xs e => by
    obtain ⟨d, _, rfl⟩ := List.mem_map.mp hc
    cases e) _
  refine hd H (start N vs) H () _ st trivial _ ?_
  unfold runL at h
  dsimp only at h
  cases q : F (startT N.length (ds.map .d)) () with
  | none => rw [q] at h; exact h.elim
  | some p =>
    obtain ⟨ds', ω'⟩ := p
    rw [q] at h
    exact fun p vs' H' _ k t h0 _ h1 r => h p vs' H' (fun b o e => k b o e id) h0 h1 r
end
def oRepr {Ω : Type} (i : Nat) : E Ω D := fun τ ω => match τ[i]? with
  | some (some (.ow .L xs)) => .ofO (reprD (.lst xs)) ω
  | _ => .no
section
variable {X : Cx} {im : Addr → Bool}
def rReprO (K : PySem.W.Frag) (im : Addr → Bool) : List V → Hp → VK → Prop := fun xs H Q => ∃ p vs ds z, xs = [.ref p] ∧ SqL K H p vs ∧ RepL K im H vs ds ∧ reprD (.lst ds) = some (.str z) ∧ Q (.str z) H
theorem call_reprO (hu : X.A.units + 200 < cLine) (gu : X.A.guards = some []) : CallR X (.builtin "repr") (rReprO X.K im) := by
  intro pins s σ H xs us Q I r h
  obtain ⟨a, vs, ds, z, rfl, hS, hr, hz, q⟩ := h
  obtain ⟨u, rfl, rx⟩ := vals1 r
  cases rx
  unfold reprD at hz
  dsimp only at hz
  cases e : (D.lst ds).py with
  | none => rw [e] at hz; cases hz
  | some p =>
    rw [e] at hz
    dsimp only at hz
    split at hz
    · rename_i c
      cases hz
      have hd : Dp X.K H (V.ref a) p := by
        cases e2 : D.pyL ds with
        | none => simp [D.py, e2] at e
        | some ps =>
          simp [D.py, e2] at e
          subst e
          exact .lst hS (RepL.dp ds vs ps hr e2)
      obtain ⟨as, r⟩ := Dp.reads I p (V.ref a) (.ref a) hd (show RelV (V.ref a) (.ref a) from rfl)
      exact repr_of_reads' r c.1 (PyData.noDict_hsm c.2.1) gu (by have := c.2.2.1; omega) (fun _ _ e => e) (fun h' u tk more => ⟨.str _, H, I.kept more, ⟨u, rfl⟩, q⟩) c.2.2.2
    · cases hz
end
section
variable {im : Addr → Bool} {Ω : Type} {G : Gam im Ω} {K : PySem.W.Frag} {W : WX}
theorem reprD_str {d z : D} (h : reprD d = some z) : ∃ x, z = .str x := by
  cases d <;> simp only [reprD] at h <;> first | (cases h; done) | (cases h; exact ⟨_, rfl⟩) | skip
  · split at h
    · cases h; exact ⟨_, rfl⟩
    · cases h
  · split at h
    · cases h; exact ⟨_, rfl⟩
    · cases h
  all_goals
    split at h
    · first | (cases h; exact ⟨_, rfl⟩; done) | (split at h <;> first | (cases h; exact ⟨_, rfl⟩; done) | (cases h; done))
    · cases h
theorem de_oRepr {i : Nat} : DE G K W (tCB (rReprO K im) (tCons (tVar i) tNil)) (oRepr i) := by
  intro H0 σ H ω τ s t Q h
  unfold oRepr at h
  split at h
  · rename_i xs hx
    obtain ⟨l, vs, e, h1, h2, _⟩ := s.getO hx
    cases q : reprD (.lst xs) with
    | none => rw [q] at h; exact h.elim
    | some z =>
      rw [q] at h
      obtain ⟨x, rfl⟩ := reprD_str q
      exact ⟨_, e, l, vs, xs, x, rfl, SqL.of h1, h2, q, h H .refl t _ (.str _)⟩
  · exact h.elim
end
end DL
namespace DL
open PySem PySem.Spec PyProof.Rows L2
section
variable {Ω : Type} {τ : Tau} {ω : Ω}
@[irreducible] def slw (o : Option (List D × Ω)) (P : List D → Ω → Prop) : Prop := match o with
  | some (ds, ω) => P ds ω
  | none => False
theorem wp_runL {F : SL Ω} {P : List D → Ω → Prop} {X} : (runL F τ ω).wp P X = slw (F τ ω) P := by
  unfold runL
  rcases F τ ω with _ | ⟨ds, ω'⟩
  · with_unfolding_all rfl
  · with_unfolding_all rfl
theorem slw_seq {a : S Ω} {b : SL Ω} {P : List D → Ω → Prop} : slw (lSeq a b τ ω) P = sw (a τ ω) (fun f ω1 => match f with | .nx τ1 => slw (b τ1 ω1) P | _ => False) := by
  unfold lSeq
  rcases a τ ω with _ | ⟨fl, ω1⟩
  · with_unfolding_all rfl
  · cases fl <;> with_unfolding_all rfl
theorem slw_ret {e : E Ω (List D)} {P : List D → Ω → Prop} : slw (lRet e τ ω) P = (e τ ω).wp P (fun _ _ => False) := by
  unfold lRet
  cases e τ ω <;> with_unfolding_all rfl
theorem slw_retO {i : Nat} {xs : List D} {P : List D → Ω → Prop} (h : τ[i]? = some (some (.ow .L xs))) : slw (lRetO i τ ω) P = P xs ω := by
  unfold lRetO; rw [h]; with_unfolding_all rfl
theorem wp_cL {F : List D → R Unit (List D)} {a : E Ω (List D)} {P X} : (cL F a τ ω).wp P X = (a τ ω).wp (fun xs ω1 => (F xs).wp (fun d _ => P d ω1) X0) X := by
  unfold cL; simp only [wp_bind, wp_nox, wp_lift]
theorem wp_oRepr {i : Nat} {xs : List D} {P : D → Ω → Prop} {X} (h : τ[i]? = some (some (.ow .L xs))) : (oRepr i τ ω).wp P X = (R.ofO (reprD (.lst xs)) ω).wp P X := by
  unfold oRepr; rw [h]
end
end DL
namespace DL
open PySem PySem.Spec PyProof.Rows L2
end DL
namespace DL
open PySem PySem.Spec PyProof.Rows L2
end DL
namespace DL
open PySem PySem.Spec PyProof.Rows L2
theorem strOk_append (x y : Str) : PyData.strOk (x ++ y) = (PyData.strOk x && PyData.strOk y) := by
  unfold PyData.strOk
  show (x.cps ++ y.cps).all _ = _
  rw [Array.all_append]
theorem strOk_app {x y : Str} (h1 : PyData.strOk x = true) (h2 : PyData.strOk y = true) : PyData.strOk (x ++ y) = true := by rw [strOk_append, h1, h2]; rfl
theorem join_ok : ∀ (ts : List Str), (∀ t ∈ ts, PyData.strOk t = true) → PyData.strOk (Str.join ", " ts) = true ∧ (Str.join ", " ts).length ≤ piled ts
  | [], _ => ⟨by decide +kernel, by show (0 : Nat) ≤ _; exact Nat.zero_le _⟩
  | [x], h => ⟨h x (List.mem_singleton.mpr rfl), by show x.length ≤ _; rw [piled_cons]; omega⟩
  | x :: y :: r, h => by
    obtain ⟨h1, h2⟩ := join_ok (y :: r) fun t ht => h t (List.mem_cons_of_mem _ ht)
    have e : Str.join ", " (x :: y :: r) = x ++ ", " ++ Str.join ", " (y :: r) := rfl
    refine ⟨by rw [e]; exact strOk_app (strOk_app (h x (List.mem_cons_self ..)) (by decide +kernel)) h1, ?_⟩
    rw [e, strLen_append, strLen_append, piled_cons]
    have : (", " : Str).length = 2 := rfl
    omega
theorem tupleText_ok {ts : List Str} (h : ∀ t ∈ ts, PyData.strOk t = true) : PyData.strOk (tupleText ts) = true ∧ (tupleText ts).length ≤ piled ts + 3 := by
  obtain ⟨h1, h2⟩ := join_ok ts h
  unfold tupleText
  refine ⟨strOk_app (strOk_app (by decide +kernel) h1) (by split <;> decide +kernel), ?_⟩
  rw [strLen_append, strLen_append]
  have a : ("(" : Str).length = 1 := rfl
  have b : ((if (ts.length == 1) = true then ",)" else ")" : String) : Str).length ≤ 2 := by split <;> decide
  omega
theorem textFrom_ok : ∀ (ts : List Str) (k : Nat) (acc : Str), (∀ t ∈ ts, PyData.strOk t = true) → PyData.strOk acc = true → PyData.strOk (textFrom k acc ts) = true ∧ (textFrom k acc ts).length ≤ acc.length + piled ts
  | [], k, acc, _, ha => ⟨ha, by show acc.length ≤ _; omega⟩
  | t :: ts, k, acc, h, ha => by
    have hs : PyData.strOk ((if k > 0 then ", " else "" : String) : Str) = true := by split <;> decide +kernel
    obtain ⟨h1, h2⟩ := textFrom_ok ts (k + 1) (acc ++ (if k > 0 then ", " else "" : String) ++ t) (fun x hx => h x (List.mem_cons_of_mem _ hx)) (strOk_app (strOk_app ha hs) (h t (List.mem_cons_self ..)))
    refine ⟨h1, ?_⟩
    unfold textFrom
    refine Nat.le_trans h2 ?_
    rw [strLen_append, strLen_append, piled_cons]
    have : ((if k > 0 then ", " else "" : String) : Str).length ≤ 2 := by split <;> decide
    omega
theorem listText_ok {ts : List Str} (h : ∀ t ∈ ts, PyData.strOk t = true) : PyData.strOk (listText ts) = true ∧ (listText ts).length ≤ piled ts + 3 := by
  obtain ⟨h1, h2⟩ := textFrom_ok ts 0 "[" h (by decide +kernel)
  unfold listText
  refine ⟨strOk_app h1 (by decide +kernel), ?_⟩
  rw [strLen_append]
  have a : ("[" : Str).length = 1 := rfl
  have b : ("]" : Str).length = 1 := rfl
  omega
/-- data that can be shown, in so many signs -/
structure Gd (p : PyData) (b d : Nat) : Prop where
  sh : p.showable = true
  ly : p.canLay0 = true
  dp : p.depth ≤ d
  ok : PyData.strOk p.shown = true
  ln : p.shown.length ≤ b
theorem gd_all {α : Type} (f : α → PyData) (b d : Nat) : ∀ xs : List α, (∀ x ∈ xs, Gd (f x) b d) → PyData.showableAll (xs.map f) = true ∧ PyData.canLayAll0 (xs.map f) = true ∧ PyData.depthAll (xs.map f) ≤ d ∧ (∀ t ∈ PyData.shownAll (xs.map f), PyData.strOk t = true) ∧ piled (PyData.shownAll (xs.map f)) ≤ xs.length * (b + 2)
  | [], _ => ⟨by simp [PyData.showableAll], by simp [PyData.canLayAll0], by simp [PyData.depthAll], by simp [PyData.shownAll], by simp [PyData.shownAll, piled_nil]⟩
  | x :: xs, h => by
    obtain ⟨h1, h2, h3, h4, h5⟩ := gd_all f b d xs fun y hy => h y (List.mem_cons_of_mem _ hy)
    have g := h x (List.mem_cons_self ..)
    have gd := g.dp; have gl := g.ln
    refine ⟨by simp [PyData.showableAll, g.sh, h1], by simp [PyData.canLayAll0, g.ly, h2], by simp only [List.map_cons, PyData.depthAll]; omega, fun t ht => ?_, ?_⟩
    · simp only [List.map_cons, PyData.shownAll, List.mem_cons] at ht
      rcases ht with rfl | ht
      · exact g.ok
      · exact h4 t ht
    · simp only [List.map_cons, PyData.shownAll, piled_cons, List.length_cons]
      rw [Nat.succ_mul]
      omega
theorem Gd.tup {α : Type} {f : α → PyData} {b d : Nat} {xs : List α} (h : ∀ x ∈ xs, Gd (f x) b d) : Gd (.tuple (xs.map f)) (xs.length * (b + 2) + 3) (d + 1) := by
  obtain ⟨h1, h2, h3, h4, h5⟩ := gd_all f b d xs h
  obtain ⟨k1, k2⟩ := tupleText_ok h4
  exact ⟨by simp only [PyData.showable]; exact h1, by simp only [PyData.canLay0]; exact h2, by simp only [PyData.depth]; omega, by simp only [PyData.shown]; exact k1, by simp only [PyData.shown]; omega⟩
theorem Gd.lst {α : Type} {f : α → PyData} {b d : Nat} {xs : List α} (h : ∀ x ∈ xs, Gd (f x) b d) : Gd (.list (xs.map f)) (xs.length * (b + 2) + 3) (d + 1) := by
  obtain ⟨h1, h2, h3, h4, h5⟩ := gd_all f b d xs h
  obtain ⟨k1, k2⟩ := listText_ok h4
  exact ⟨by simp only [PyData.showable]; exact h1, by simp only [PyData.canLay0]; exact h2, by simp only [PyData.depth]; omega, by simp only [PyData.shown]; exact k1, by simp only [PyData.shown]; omega⟩
theorem Gd.reprD {x : D} {p : PyData} {b d : Nat} (hx : (∃ ds, x = .tup ds) ∨ ∃ ds, x = .lst ds) (e : x.py = some p) (g : Gd p b d) (hb : b ≤ 1000000) (hd : d ≤ 150) : un1 reprD [x] = some (.str p.shown) := by
  have h1 : p.showable = true ∧ p.hasDict = false ∧ p.depth ≤ 150 ∧ p.shown.length ≤ sizeLine := ⟨g.sh, PyData.hasDict_of_canLay _ g.ly, by have := g.dp; omega, by have := g.ln; rw [sizeLine_eq]; omega⟩
  show DL.reprD x = _
  rcases hx with ⟨ds, rfl⟩ | ⟨ds, rfl⟩
  · unfold DL.reprD
    dsimp only
    rw [e]
    dsimp only
    rw [if_pos h1]
  · unfold DL.reprD
    dsimp only
    rw [e]
    dsimp only
    rw [if_pos h1]
theorem strOk_ofString (s : String) : PyData.strOk (Str.ofString s) = true := by
  unfold PyData.strOk
  rw [Str.ofString_eq_toList]
  show (List.toArray (s.toList.map Char.toNat)).all _ = true
  rw [List.all_toArray, List.all_map, List.all_eq_true]
  intro c _
  have := c.valid
  show decide (c.toNat < 0x110000) = true
  rw [decide_eq_true_eq]
  have h : c.toNat = c.val.toNat := rfl
  rcases this with h1 | ⟨_, h1⟩
  · rw [h]; exact Nat.lt_trans h1 (by decide)
  · rw [h]; exact h1
theorem Gd.int {i : Int} {k : Nat} (h : i.natAbs < 2 ^ k) (hk : 0 < k) (hk2 : k ≤ 1000) : Gd (.int i) (k + 1) 0 := by
  have hl : i.natAbs.log2 < k := by
    rcases Nat.eq_zero_or_pos i.natAbs with e | e
    · rw [e]; exact hk
    · exact (Nat.log2_lt (by omega)).mpr h
  refine ⟨by simp only [PyData.showable]; exact decide_eq_true (by omega), by simp only [PyData.canLay0], by simp only [PyData.depth]; omega, ?_, ?_⟩
  · simp only [PyData.shown]; exact strOk_ofString _
  · simp only [PyData.shown]
    rw [show ((toString i : String) : Str).length = (toString i).length from PySem.ofString_length _]
    exact int_text_length_le hk hl
theorem Gd.bool (b : Bool) : Gd (.bool b) 5 0 := by
  refine ⟨by simp only [PyData.showable], by simp only [PyData.canLay0], by simp only [PyData.depth]; omega, ?_, ?_⟩
  · simp only [PyData.shown]; cases b <;> exact strOk_ofString _
  · simp only [PyData.shown]; cases b <;> decide
theorem Gd.non : Gd .none 4 0 := by
  refine ⟨by simp only [PyData.showable], by simp only [PyData.canLay0], by simp only [PyData.depth]; omega, ?_, ?_⟩
  · simp only [PyData.shown]; exact strOk_ofString _
  · simp only [PyData.shown]; decide
theorem Gd.le {p : PyData} {b d b' d' : Nat} (g : Gd p b d) (h1 : b ≤ b') (h2 : d ≤ d') : Gd p b' d' := ⟨g.sh, g.ly, Nat.le_trans g.dp h2, g.ok, Nat.le_trans g.ln h1⟩
end DL
namespace DL
open PySem PySem.Spec PyProof.Rows L2
def optE : Option Sh → D
  | none => .non
  | some s => s.enc
def optP : Option Sh → PyData
  | none => .none
  | some s => s.py
instance : Enc (Option Sh) where
  enc := optE
  py := optP
  dep := fun o => match o with | none => 0 | some s => s.size
  e1 o := by cases o with
    | none => rfl
    | some s => exact Sh.enc_py s
  e2 a b := by
    cases a with
    | none => cases b with
      | none => simp [optP, PyData.eqv]
      | some s => cases s <;> simp [optP, Sh.py, PyData.eqv]
    | some a => cases b with
      | none => cases a <;> simp [optP, Sh.py, PyData.eqv]
      | some b =>
        show PyData.eqv a.py b.py = _
        rw [Sh.eqv]
        exact decide_eq_decide.mpr (by simp)
  e3 o := by cases o with
    | none => simp [optP, PyData.canLay0]
    | some s => exact Sh.lay s
  e4 o := by cases o with
    | none => simp [optP, PyData.depth]
    | some s => exact Sh.dep s
open Sh
def ends (m b : Nat) : List Nat := (List.range ((m + b - 1) / b)).map fun k => min (k * b + b) m
end DL
namespace DL
open PySem PySem.Spec PyProof.Rows L2
end DL
namespace DL
open PySem PySem.Spec PyProof.Rows L2
abbrev LD := Sum (List D) D
section
variable {im : Addr → Bool} {Ω : Type} (G : Gam im Ω) (K : PySem.W.Frag)
def kN (G : Gam im Ω) (K : PySem.W.Frag) (H : Hp) (Q : VK) : LD → Ω → Hp → Prop
  | .inl ds, _, H' => ∀ p vs, H p = none → H' p = some (.lst vs) → RepL K im H' vs ds → Q (.ref p) H'
  | .inr d, _, H' => ∀ v, Rep K im H' v d → Q v H'
variable {G} {K} {W : WX} {te : TE} {tr : TA} {Fl' : E Ω (List D)} {Fn' : E Ω LD} {Fr : E Ω (List D)}
end
def rAddN (K : PySem.W.Frag) (im : Addr → Bool) : R2 := fun x y H Q => ∃ a b vs ws ds es, x = .ref a ∧ y = .ref b ∧ SqZ H a vs ∧ SqZ H b ws ∧ RepL K im H vs ds ∧ RepL K im H ws es ∧ ds.length + es.length ≤ sizeLine ∧ ∀ p, H p = none → Q (.ref p) (upd H p (.lst (vs ++ ws)))
def eAddL {Ω : Type} (a b : E Ω D) : E Ω (List D) := fun τ ω => (a τ ω).bind fun x ω1 => (b τ ω1).bind fun y ω2 => match x, y with
  | .lst xs, .lst ys => if xs.length + ys.length ≤ sizeLine then .ok (xs ++ ys) ω2 else .no
  | _, _ => .no
section
variable {X : Cx} {im : Addr → Bool}
theorem op_addLL : OpR X (binaryOp .Add) (rAddN X.K im) := by
  intro pins s σ H x y v u Q I rx ry h
  obtain ⟨a, b, vs, ws, ds, es, rfl, rfl, h1, h3, h2, h4, hl, q⟩ := h
  have l1 := h2.length
  have l2 := h4.length
  cases rx
  cases ry
  obtain ⟨z, its, n, r, hl1, e⟩ := Inv.zlst I h1
  obtain ⟨z2, its2, n2, r2, hl2, e2⟩ := Inv.zlst I h3
  have room : its.toArray.size + its2.toArray.size ≤ sizeLine := by simp only [List.size_toArray]; omega
  have joined : its.toArray ++ its2.toArray = List.toArray (its ++ its2) := List.append_toArray its its2
  refine PySem.P.add_list e e2 (?_ : _) room
  rw [joined]
  exact ⟨.ref _, _, Inv.lnew (t' := s.toks) I (r.append r2) (by rw [List.length_append]; omega), rfl, q _ (Inv.fresh I)⟩
end
section
variable {im : Addr → Bool} {Ω : Type} {G : Gam im Ω} {K : PySem.W.Frag} {W : WX} {ta tb : TE} {Fa Fb : E Ω D}
theorem dl_add (ha : DE G K W ta Fa) (hb : DE G K W tb Fb) : DL G K W (tOp (rAddN K im) ta tb) (eAddL Fa Fb) := by
  intro H0 σ H ω τ s t Q h
  refine ha H0 σ H ω τ s t _ (Res.imp (Res.bind h) (fun x ω1 H1 k1 t1 h1 v r => ?_) fun _ _ _ _ _ q => q)
  refine hb H0 σ H1 ω1 τ (s.step t k1) t1 _ (Res.imp (Res.bind (h1.mono k1)) (fun y ω2 H2 k2 t2 h2 w r2 => ?_) fun _ _ _ _ _ q => q)
  have h3 := h2.mono k2
  cases r with
  | @lst a vs ds g1 g2 =>
    cases r2 with
    | @lst b ws es g3 g4 =>
      dsimp only at h3
      by_cases hl : ds.length + es.length ≤ sizeLine
      · rw [if_pos hl] at h3
        refine ⟨a, b, vs, ws, ds, es, rfl, rfl, (k2.sb t1).sqZ g1, g3, g2.up (k2.sb t1), g4, hl, fun p hp => ?_⟩
        have sm : Same H2 (upd H2 p (.lst (vs ++ ws))) := Same.new hp
        refine h3 _ (.of sm) (At.same t2 sm) p _ ?_ upd_same (((g2.up (k2.sb t1)).append g4).up (.of sm))
        cases e2 : H p with
        | none => rfl
        | some o =>
          by_cases f : G.FP p
          · exact absurd hp (G.trk t2 p f)
          · have := k2 p o (k1 p o e2 f) f; rw [hp] at this; cases this
      · rw [if_neg hl] at h3; exact h3.elim
    | _ => exact h3.elim
  | _ => exact h3.elim
end
section
variable {Ω : Type} {τ : Tau} {ω : Ω}
theorem wp_eAddL {a b : E Ω D} {P : List D → Ω → Prop} {X} : (eAddL a b τ ω).wp P X = (a τ ω).wp (fun x ω1 => (b τ ω1).wp (fun y ω2 => ∃ xs ys, x = .lst xs ∧ y = .lst ys ∧ xs.length + ys.length ≤ sizeLine ∧ P (xs ++ ys) ω2) X) X := by
  unfold eAddL; rw [wp_bind]; congr; funext x ω1; rw [wp_bind]; congr; funext y ω2
  have no : ∀ {x y : D}, (∀ xs ys, x = .lst xs → y = .lst ys → False) → (R.no : R Ω (List D)).wp P X = ∃ xs ys, x = .lst xs ∧ y = .lst ys ∧ xs.length + ys.length ≤ sizeLine ∧ P (xs ++ ys) ω2 := fun hn =>
    propext ⟨fun h => by with_unfolding_all exact h.elim, fun ⟨xs, ys, h1, h2, _⟩ => (hn xs ys h1 h2).elim⟩
  cases x with
  | lst xs =>
    cases y with
    | lst ys =>
      dsimp only
      by_cases h : xs.length + ys.length ≤ sizeLine
      · rw [if_pos h, wp_ok]
        exact propext ⟨fun p => ⟨xs, ys, rfl, rfl, h, p⟩, fun ⟨_, _, h1, h2, _, p⟩ => by cases h1; cases h2; exact p⟩
      · rw [if_neg h]
        exact propext ⟨fun h => by with_unfolding_all exact h.elim, fun ⟨_, _, h1, h2, h3, _⟩ => by cases h1; cases h2; exact (h h3).elim⟩
    | _ => exact no fun _ _ _ h => by cases h
  | _ => exact no fun _ _ h _ => by cases h
end
end DL
namespace DL
open PySem PySem.Spec PyProof.Rows L2
theorem zip_lookup {α β : Type} {m : Str} : ∀ (fs : List Str) (xs : List α) (ys : List β), xs.length = ys.length → ((fs.zip xs).lookup m = none ↔ (fs.zip ys).lookup m = none)
  | [], _, _, _ => by simp
  | f :: fs, [], [], _ => by simp
  | f :: fs, x :: xs, [], h => by simp at h
  | f :: fs, [], y :: ys, h => by simp at h
  | f :: fs, x :: xs, y :: ys, h => by
    rw [List.zip_cons_cons, List.zip_cons_cons, List.lookup_cons, List.lookup_cons]
    cases m == f with
    | true => simp
    | false => exact zip_lookup fs xs ys (by simpa using h)
section
variable {im : Addr → Bool} {Ω : Type} {G : Gam im Ω} {K : PySem.W.Frag} {W : WX} {ta : TE} {Fa : E Ω D} {tr : TA} {Fr : E Ω (List D)}
theorem RepL.look {H : Hp} {m : Str} {d : D} : ∀ (fs : List Str) (vs : List V) (ds : List D), RepL K im H vs ds → (fs.zip ds).lookup m = some d → ∃ v, (fs.zip vs).lookup m = some v ∧ Rep K im H v d
  | [], _, _, _, e => by simp at e
  | f :: fs, _, [], _, e => by simp at e
  | f :: fs, _, d' :: ds, h, e => by
    cases h with
    | cons h1 h2 =>
      rw [List.zip_cons_cons, List.lookup_cons] at e
      rw [List.zip_cons_cons, List.lookup_cons]
      cases q : m == f with
      | true => rw [q] at e; cases e; exact ⟨_, rfl, h1⟩
      | false => rw [q] at e; exact RepL.look fs _ ds h2 e
/-- e.f -/
def eFld (f : Str) (a : E Ω D) : E Ω D := fun τ ω => (a τ ω).bind fun d ω1 => match d with
  | .ins fs ds => .ofO ((fs.zip ds).lookup f) ω1
  | _ => .no
theorem de_fld {f : Str} (hc : ∀ C, im C = true → Cls K C ∧ NoAttr K C f) (ha : DE G K W ta Fa) : DE G K W (tFld K ta f) (eFld f Fa) := by
  intro H0 σ H ω τ s t Q h
  refine ha H0 σ H ω τ s t _ (Res.imp (Res.bind h) (fun d ω1 H1 k1 t1 h1 v r => ?_) fun _ _ _ _ _ q => q)
  cases r with
  | @ins a C dx fs vs ds h0 h01 h2 h3 h4 =>
    dsimp only at h1
    cases e : (fs.zip ds).lookup f with
    | none => rw [e] at h1; exact h1.elim
    | some z =>
      rw [e] at h1
      obtain ⟨v, ev, rv⟩ := RepL.look fs vs ds h4 e
      exact ⟨a, C, dx, _, v, rfl, h2, (hc C h0).1, (hc C h0).2, ev, h1 H1 k1 t1 v rv⟩
  | _ => exact h1.elim
/-- o.m(..), which changes nothing -/
def cM (m : Str) (F : List D → R Unit D) (o : E Ω D) (a : E Ω (List D)) : E Ω D := fun τ ω => (o τ ω).bind fun d ω1 => match d with
  | .ins fs ds => if (fs.zip ds).lookup m = none then (a τ ω1).bind fun xs ω2 => nox (lift (F (.ins fs ds :: xs)) ω2) else .no
  | _ => .no
theorem dc_M {n k : Nat} {C : Addr} {m : Str} {F : List D → R Unit D} (hi : ∀ a, im a = true → a = C) (ho : DE G K W ta Fa) (hr : DA G K W tr Fr) (hn : AN Fr k) (hk : k + 1 = n := by rfl) :
    DE G K W (tMeth C m (spD K im n F) [] E0 ta tr) (cM m F Fa Fr) := by
  intro H0 σ H ω τ s t Q h
  refine ho H0 σ H ω τ s t _ (Res.imp (Res.bind h) (fun d ω1 H1 k1 t1 h1 v r => ?_) fun _ _ _ _ _ q => q)
  cases r with
  | @ins a C' dx fs vs ds h0 h01 h2 h3 h4 =>
    obtain rfl := hi C' h0
    dsimp only at h1
    by_cases hl : (fs.zip ds).lookup m = none
    · rw [if_pos hl] at h1
      refine ⟨a, dx, _, rfl, h2, (zip_lookup fs vs ds h4.length).mpr hl, ?_⟩
      have s1 := s.step t k1
      have h1 := h1.mono k1
      have hr' := hr H0 σ H1 ω1 τ s1 t1
      cases e0 : Fr τ ω1 with
      | ok xs ω2 =>
        have hlx := hn τ ω1 xs ω2 e0
        rw [e0] at h1 hr'
        refine hr' _ fun H2 k2 t2 vs' r => ?_
        have rx : RepL K im H2 (.ref a :: vs') (.ins fs ds :: xs) := .cons ((Rep.ins h0 h01 h2 h3 h4).up (k2.sb t1)) r
        refine ⟨by rw [List.append_nil, List.length_cons, r.length, hlx]; exact hk, .ins fs ds :: xs, by rw [List.append_nil]; exact rx, ?_⟩
        have h5 : Res G (nox (lift (F (.ins fs ds :: xs)) ω2)) H1 (kD G K Q) (kX G K W σ) := h1
        cases e : F (.ins fs ds :: xs) with
        | ok d u =>
          rw [e] at h5
          exact fun v H' sm rv => h5 H' (k2.trans (.of sm)) (At.same t2 sm) v rv
        | ex x u => rw [e] at h5; exact h5.elim
        | no => rw [e] at h5; exact h5.elim
      | ex x ω2 => rw [e0] at h1 hr'; exact hr' _ h1
      | no => rw [e0] at h1; exact h1.elim
    · rw [if_neg hl] at h1; exact h1.elim
  | _ => exact h1.elim
end
section
variable {im : Addr → Bool} {Ω : Type} {G : Gam im Ω} {K : PySem.W.Frag} {W : WX} {tr : TA} {Fr : E Ω (List D)}
def spI (K : PySem.W.Frag) (im : Addr → Bool) (C : Addr) (n : Nat) (fs : List Str) (F : List D → R Unit (List D)) : Sp := fun vs H Q Ex => vs.length = n ∧ ∃ x dx ws ds, vs = .ref x :: ws ∧ H x = some (.ins C dx []) ∧ RepL K im H ws ds ∧ (match F ds with
  | .ok es _ => ∀ us H', (∀ b o, H b = some o → b ≠ x → H' b = some o) → H' x = some (.ins C dx (fs.zip us)) → RepL K im H' us es → Q .non H'
  | .ex y _ => ∀ cls dd H', (∀ b o, H b = some o → b ≠ x → H' b = some o) → ExRep K im H' cls dd y → Ex cls dd H'
  | .no => False)
/-- C(..) -/
def cI (fs : List Str) (F : List D → R Unit (List D)) (a : E Ω (List D)) : E Ω D := fun τ ω => (a τ ω).bind fun xs ω1 => match F xs with
  | .ok es _ => if es.length = fs.length then .ok (.ins fs es) ω1 else .no
  | _ => .no
theorem dc_I {n k : Nat} {C : Addr} {fs : List Str} {F : List D → R Unit (List D)} (hi : im C = true) (hf : 2 ≤ fs.length) (hr : DA G K W tr Fr) (hn : AN Fr k) (hk : k + 1 = n := by rfl) :
    DE G K W (tMake C (spI K im C n fs F) [] E0 tr) (cI fs F Fr) := by
  intro H0 σ H ω τ s t Q h
  have hr' := hr H0 σ H ω τ s t
  cases e0 : Fr τ ω with
  | ok xs ω1 =>
    have hl := hn τ ω xs ω1 e0
    unfold cI at h
    rw [e0] at h hr'
    refine hr' _ fun H1 k1 t1 vs r x dx nx ndx ne => ?_
    have s1 : Same H1 (upd (upd H1 dx (.own x)) x (.ins C dx [])) := fun b o e => by
      rw [upd_ne (ne_of_none e nx), upd_ne (ne_of_none e ndx)]
      exact e
    have h1 : Res G (match F xs with | .ok es _ => if es.length = fs.length then .ok (.ins fs es) ω1 else .no | _ => .no) H (kD G K Q) (kX G K W σ) := h
    refine ⟨by rw [List.append_nil, List.length_cons, r.length, hl]; exact hk, x, dx, vs, xs, by rw [List.append_nil], upd_same, r.up (.of s1), ?_⟩
    cases e : F xs with
    | ok es u =>
      rw [e] at h1
      dsimp only at h1
      by_cases q : es.length = fs.length
      · rw [if_pos q] at h1
        refine fun us H' kp hx ru => ⟨rfl, ?_⟩
        have sm : Same H1 H' := fun b o e => kp b o (s1 b o e) (ne_of_none e nx)
        exact h1 H' (k1.trans (.of sm)) (At.same t1 sm) _ (.ins hi hf hx (by rw [ru.length, q]) ru)
      · rw [if_neg q] at h1; exact h1.elim
    | ex y u => rw [e] at h1; exact h1.elim
    | no => rw [e] at h1; exact h1.elim
  | ex x ω1 => unfold cI at h; rw [e0] at h hr'; exact hr' _ h
  | no => unfold cI at h; rw [e0] at h; exact h.elim
end
section
variable {K : PySem.W.Frag} {W : WX}
/-- the new object, in slot 0 -/
def iniG (im : Addr → Bool) (C dx x : Addr) (kvs : List (Str × V)) (hk : kvs.length < 2) : Gam im Unit where
  At := fun _ H => H x = some (.ins C dx kvs)
  FP := fun b => b = x
  obj := .ref x
  keep := fun t k _ => k _ _ rfl t
  nost := fun t b o f e s => by
    subst f
    rw [t] at e
    cases e
    have := s.2
    omega
  trk := fun t b f e => by
    subst f
    rw [t] at e
    cases e
abbrev SI := Tau → Unit → Option (List D)
theorem stt_ini {im : Addr → Bool} {C dx x : Addr} {k1 k2 : List (Str × V)} {h1 : k1.length < 2} {h2 : k2.length < 2} {H0 H : Hp} {σ : L2.St} {τ : Tau} (s : STT (iniG im C dx x k1 h1) K H0 H σ τ) : STT (iniG im C dx x k2 h2) K H0 H σ τ := by
  refine ⟨s.len, fun i v c e1 e2 => ?_, s.dj, s.fr⟩
  cases s.ok i v c e1 e2 with
  | un => exact .un
  | d r => exact .d r
  | ow a b c d e => exact .ow a b c d e
  | src => exact .src
def DSI (im : Addr → Bool) (K : PySem.W.Frag) (C : Addr) (fs : List Str) (ts : TS) (F : SI) : Prop := ∀ (x dx : Addr) H0 σ H τ, STT (iniG im C dx x [] (by decide)) K H0 H σ τ → τ[0]? = some (some .src) → H x = some (.ins C dx []) →
  ∀ D' : Ends, (match F τ () with
    | some es => ∀ us σ' H', (∀ b o, H0 b = some o → b ≠ x → H' b = some o) → H' x = some (.ins C dx (fs.zip us)) → RepL K im H' us es → D'.nx σ' H'
    | none => False) → ts D' σ H
def siSeq (a : S Unit) (b : SI) : SI := fun τ ω => match a τ ω with
  | some (.nx τ1, ω1) => match (τ1[0]? : Option (Option Cell)) with
    | some (some .src) => b τ1 ω1
    | _ => none
  | _ => none
def siTwo (a b : E Unit D) : SI := fun τ ω => match a τ ω with
  | .ok d ω1 => match b τ ω1 with
    | .ok e _ => some [d, e]
    | _ => none
  | _ => none
theorem dsi_seq {im : Addr → Bool} {C : Addr} {fs : List Str} {t u : TS} {Ft : S Unit} {Fu : SI} (ha : ∀ dx x kvs hk, DS (iniG im C dx x kvs hk) K W t Ft) (hb : DSI im K C fs u Fu) : DSI im K C fs (tSeq t u) (siSeq Ft Fu) := by
  intro x dx H0 σ H τ s hs hx D' h
  refine ha dx x [] (by decide) H0 σ H () τ s hx _ ?_
  unfold siSeq at h
  cases q : Ft τ () with
  | none => rw [q] at h; exact h.elim
  | some p =>
    obtain ⟨fl, ω1⟩ := p
    rw [q] at h
    cases fl with
    | nx τ1 =>
      dsimp only at h
      split at h
      · rename_i r hr
        split at hr
        · rename_i q0
          exact fun σ' H' sb s1 t1 => hb x dx H0 σ' H' τ1 s1 q0 t1 D' (by rw [hr]; exact h)
        · cases hr
      · exact h.elim
    | _ => exact h.elim
theorem putF_two {f g : Str} {v w : V} (h : ¬ f = g) : putF g w [(f, v)] = [(f, v), (g, w)] := by
  show (if f = g then _ else (f, v) :: putF g w []) = _
  rw [if_neg h]; rfl
theorem dsi_two {im : Addr → Bool} {C : Addr} {f1 f2 : Str} {ta tb : TE} {Fa Fb : E Unit D} (hne : ¬ f1 = f2) (hc : Cls K C) (n1 : NoAttr K C f1) (n2 : NoAttr K C f2)
    (ha : ∀ dx x kvs hk, DE (iniG im C dx x kvs hk) K (fun _ _ _ _ => False) ta Fa) (hb : ∀ dx x kvs hk, DE (iniG im C dx x kvs hk) K (fun _ _ _ _ => False) tb Fb) : DSI im K C [f1, f2] (tSeq (sFld K (tVar 0) ta f1) (sFld K (tVar 0) tb f2)) (siTwo Fa Fb) := by
  intro x dx H0 σ H τ s hs hx D' h
  have e0 := s.getS hs
  refine ha dx x [] (by decide) H0 σ H () τ s hx _ ?_
  unfold siTwo at h
  cases qa : Fa τ () with
  | no => rw [qa] at h; exact h.elim
  | ex y u => rw [qa] at h; exact h.elim
  | ok d u =>
    rw [qa] at h
    dsimp only at h
    intro H1 k1 t1 v1 r1
    have x1 : H1 x = some (.ins C dx []) := t1
    refine ⟨_, e0, x, C, dx, [], rfl, x1, hc, n1, (by show 0 < 1000; decide), ?_⟩
    have kp : Kp (iniG im C dx x [] (by decide)) H1 (upd H1 x (.ins C dx (putF f1 v1 []))) := fun b o e nf => by
      rw [upd_ne (fun q => nf q)]; exact e
    have s2 := (s.step (ω := ()) hx k1).step (ω := ()) t1 kp
    have s3 : STT (iniG im C dx x [(f1, v1)] (Nat.le_refl 2)) K H0 (upd H1 x (.ins C dx (putF f1 v1 []))) σ τ := stt_ini s2
    have x2 : (upd H1 x (.ins C dx (putF f1 v1 []))) x = some (.ins C dx [(f1, v1)]) := by rw [upd_same]; rfl
    refine hb dx x [(f1, v1)] (Nat.le_refl 2) H0 σ _ () τ s3 x2 _ ?_
    cases qb : Fb τ u with
    | no => rw [qb] at h; exact h.elim
    | ex y w => rw [qb] at h; exact h.elim
    | ok e w =>
      rw [qb] at h
      dsimp only at h
      intro H3 k3 t3 v2 r2
      have x3 : H3 x = some (.ins C dx [(f1, v1)]) := t3
      refine ⟨_, e0, x, C, dx, [(f1, v1)], rfl, x3, hc, n2, (by show 1 < 1000; decide), ?_⟩
      have kp2 : Kp (iniG im C dx x [(f1, v1)] (Nat.le_refl 2)) H3 (upd H3 x (.ins C dx (putF f2 v2 [(f1, v1)]))) := fun b o e nf => by
        rw [upd_ne (fun q => nf q)]; exact e
      have fr := (s3.step (ω := ()) x2 k3).fr
      refine h [v1, v2] σ _ (fun b o e nf => kp2 b o (fr b o e nf) nf) (by rw [upd_same, putF_two hne]; rfl) ?_
      exact .cons (((r1.up (kp.sb t1)).up (k3.sb (ω := ()) x2)).up (kp2.sb t3)) (.cons (r2.up (kp2.sb t3)) .nil)
end
section
variable {im : Addr → Bool} {P : Program} {w : World} {K : PySem.W.Frag} {mg : Str → Option Value} {base : Heap}
def runI (F : SI) (τ : Tau) : R Unit (List D) := match F τ () with
  | some es => .ok es ()
  | none => .no
theorem fn_I {x qual : Str} {st : Stmt} {f C : Addr} {fd : FuncData} {N ps : List Str} {fs : List Str} {k k' n : Nat} {F : SI} {F' : List D → R Unit (List D)} (Fn : Fun K x qual st f fd) (Sc : FnScope N ps (defScope st))
    (ek : k' = k + 1) (en : n = ps.length) (hN : ps.length ≤ N.length) (eF : F' = fun ds => runI F (startT N.length (.src :: ds.map .d)))
    (hb : ∀ (cdv : Value) (A : Around) (outer : List Env) (s : Shared) (H : Hp) (Ex : XK), Room k (A.deeper (envOfC qual (defScope st) s.heap.objs.size f cdv)) →
      ∃ t, PSs (cxOf CX0 P w K mg base N qual (defScope st) f cdv A outer s H Ex).nox (defBody st) t ∧ DSI im K C fs t F) :
    FnOk P w K mg base CX0 k' f fd ps (spI K im C n fs F') := by
  subst ek en eF
  refine Fn.ok Sc (fun vs H Q Ex h => h.1) fun cdv A outer s H vs Q Ex hr h => ?_
  obtain ⟨hl, x, dx, ws, ds, rfl, hx, r, h⟩ := h
  obtain ⟨t, ht, hd⟩ := hb cdv A outer s H Ex hr
  refine ⟨t, ht, ?_⟩
  have st : STT (iniG im C dx x [] (by decide)) K H H (start N (.ref x :: ws)) (startT N.length (.src :: ds.map .d)) := stt_start (by simp [r.length]) (fun i v c e1 e2 => by
    cases i with
    | zero => simp at e1 e2; subst e1 e2; exact .src
    | succ i =>
      simp only [List.getElem?_cons_succ] at e1 e2
      rw [List.getElem?_map] at e2
      cases q : ds[i]? with
      | none => rw [q] at e2; cases e2
      | some d =>
        rw [q] at e2; cases e2
        obtain ⟨v', e3, r'⟩ := r.get q
        rw [e1] at e3; cases e3
        exact .d r') (fun c hc _ xs e => by
    rcases List.mem_cons.mp hc with q | q
    · rw [q] at e; cases e
    · obtain ⟨d, _, rfl⟩ := List.mem_map.mp q
      cases e) _
  refine hd x dx H (start N (.ref x :: ws)) H _ st rfl hx _ ?_
  unfold runI at h
  dsimp only at h
  cases q : F (startT N.length (.src :: ds.map .d)) () with
  | none => rw [q] at h; exact h.elim
  | some es =>
    rw [q] at h
    exact fun us σ' H' kp hx' ru => h us H' kp hx' ru
end
section
variable {Ω : Type} {τ : Tau} {ω : Ω}
theorem wp_cM {m : Str} {F : List D → R Unit D} {o : E Ω D} {a : E Ω (List D)} {P : D → Ω → Prop} {X} : (cM m F o a τ ω).wp P X = (o τ ω).wp (fun d ω1 => ∃ fs ds, d = .ins fs ds ∧ (fs.zip ds).lookup m = none ∧ (a τ ω1).wp (fun xs ω2 => (F (.ins fs ds :: xs)).wp (fun d _ => P d ω2) X0) X) X := by
  unfold cM; rw [wp_bind]; congr; funext d ω1
  cases d with
  | ins fs ds =>
    dsimp only
    by_cases h : (fs.zip ds).lookup m = none
    · rw [if_pos h]; simp only [wp_bind, wp_nox, wp_lift]
      exact propext ⟨fun q => ⟨fs, ds, rfl, h, q⟩, fun ⟨_, _, e, _, q⟩ => by cases e; exact q⟩
    · rw [if_neg h]
      exact propext ⟨fun h => by with_unfolding_all exact h.elim, fun ⟨_, _, e, h2, _⟩ => by cases e; exact absurd h2 h⟩
  | _ => exact propext ⟨fun h => by with_unfolding_all exact h.elim, fun ⟨_, _, e, _⟩ => by cases e⟩
theorem wp_cI {fs : List Str} {F : List D → R Unit (List D)} {a : E Ω (List D)} {P : D → Ω → Prop} {X} : (cI fs F a τ ω).wp P X = (a τ ω).wp (fun xs ω1 => (F xs).wp (fun es _ => es.length = fs.length ∧ P (.ins fs es) ω1) X0) X := by
  unfold cI; rw [wp_bind]; congr; funext xs ω1
  cases F xs with
  | ok es u =>
    dsimp only
    rw [wp_ok]
    by_cases h : es.length = fs.length
    · rw [if_pos h, wp_ok]; exact propext ⟨fun p => ⟨h, p⟩, fun p => p.2⟩
    · rw [if_neg h]; exact propext ⟨fun h => by with_unfolding_all exact h.elim, fun p => absurd p.1 h⟩
  | _ => with_unfolding_all rfl
end
section
variable (K : PySem.W.Frag) (C : Addr)
structure MethOk (m qual : Str) (st : Stmt) (ps : List Str) where
  f : Addr
  fd : FuncData
  F : Fun K m qual st f fd
  b : Binds K fd ps []
  m : Meth K C m f
structure InitOk (qual : Str) (st : Stmt) (ps : List Str) where
  f : Addr
  fd : FuncData
  F : Fun K "__init__" qual st f fd
  b : Binds K fd ps []
  m : Mk K C f
end
theorem hcls {K : PySem.W.Frag} {im : Addr → Bool} {cP : Addr} {f : Str} (hi : ∀ a, im a = true ↔ a = cP) (c : Cls K cP) (n : NoAttr K cP f) : ∀ C, im C = true → Cls K C ∧ NoAttr K C f := by
  intro C h
  rw [hi] at h
  subst h
  exact ⟨c, n⟩
end DL
namespace DL
open PySem PySem.Spec PyProof.Rows L2
@[irreducible] def siP (o : Option (List D)) (P : List D → Prop) : Prop := match o with
  | some es => P es
  | none => False
theorem wp_runI {F : SI} {τ : Tau} {P : List D → Unit → Prop} {X} : (runI F τ).wp P X = siP (F τ ()) (fun es => P es ()) := by
  unfold runI; cases F τ () <;> with_unfolding_all rfl
theorem si_seq {a : S Unit} {b : SI} {τ : Tau} {P : List D → Prop} (h : sw (a τ ()) (fun f _ => ∃ τ1, f = .nx τ1 ∧ τ1[0]? = some (some .src) ∧ siP (b τ1 ()) P)) : siP (siSeq a b τ ()) P := by
  unfold siSeq
  cases e : a τ () with
  | none => rw [e, sw_none] at h; exact h.elim
  | some p =>
    obtain ⟨f, u⟩ := p
    rw [e, sw_some] at h
    obtain ⟨τ1, rfl, h1, h2⟩ := h
    dsimp only
    rw [h1]
    exact h2
theorem si_two {a b : E Unit D} {τ : Tau} {P : List D → Prop} (h : (a τ ()).wp (fun d _ => (b τ ()).wp (fun e _ => P [d, e]) X0) X0) : siP (siTwo a b τ ()) P := by
  unfold siTwo
  cases e : a τ () with
  | ok d u =>
    rw [e, wp_ok] at h
    dsimp only
    cases e2 : b τ u with
    | ok d2 u2 => rw [e2, wp_ok] at h; with_unfolding_all exact h
    | ex x u2 => rw [e2] at h; with_unfolding_all exact h.elim
    | no => rw [e2] at h; with_unfolding_all exact h.elim
  | ex x u => rw [e] at h; with_unfolding_all exact h.elim
  | no => rw [e] at h; with_unfolding_all exact h.elim
end DL
namespace DL
open PySem PySem.Spec PyProof.Rows L2
end DL
namespace DL
open PySem PySem.Spec PyProof.Rows L2
theorem merge_new : ∀ (kvs acc : List (Key × V)), ((acc ++ kvs).map (·.1)).Nodup → mergeK acc kvs = acc ++ kvs
  | [], acc, _ => by rw [List.append_nil]; rfl
  | (k, v) :: kvs, acc, h => by
    have hn : (acc.any fun kv => decide (kv.1 = k)) = false := by
      rw [List.any_eq_false]
      intro x hx e
      have e := of_decide_eq_true e
      rw [List.map_append, List.nodup_append] at h
      exact h.2.2 x.1 (List.mem_map.mpr ⟨x, hx, rfl⟩) k (by simp) e
    have e1 : putK acc k v = acc ++ [(k, v)] := by unfold putK; rw [hn]; rfl
    have e2 : acc ++ (k, v) :: kvs = (acc ++ [(k, v)]) ++ kvs := by simp
    show mergeK (putK acc k v) kvs = _
    rw [e1, e2]
    rw [e2] at h
    exact merge_new kvs (acc ++ [(k, v)]) h
section
variable {im : Addr → Bool} {Ω : Type} (G : Gam im Ω) (K : PySem.W.Frag) (W : WX)
def DPs (trs : List (TE × TE)) (ks : List Str) (F : E Ω (List D)) : Prop := ∀ H0 σ H ω τ, STT G K H0 H σ τ → G.At ω H → ∀ Q : List (V × V) → Hp → Prop,
  Res G (F τ ω) H (fun ds _ H' => ∀ vs, vs.length = ks.length → RepL K im H' vs ds → Q ((ks.zip vs).map fun p => (V.str p.1, p.2)) H') (kX G K W σ) → tPairs trs σ H Q
variable {G} {K} {W}
theorem dps_nil : DPs G K W [] [] aNil := by
  intro H0 σ H ω τ s t Q h
  exact h H .refl t [] rfl .nil
theorem dps_cons {k : Str} {te : TE} {Fe : E Ω D} {trs : List (TE × TE)} {ks : List Str} {Fr : E Ω (List D)} (he : DE G K W te Fe) (hr : DPs G K W trs ks Fr) : DPs G K W ((tC (.str k), te) :: trs) (k :: ks) (aCons Fe Fr) := by
  intro H0 σ H ω τ s t Q h
  show te σ H _
  refine he H0 σ H ω τ s t _ (Res.imp (Res.bind h) (fun d ω1 H1 k1 t1 h1 v r => ?_) fun _ _ _ _ _ q => q)
  refine hr H0 σ H1 ω1 τ (s.step t k1) t1 _ (Res.imp (Res.bind (h1.mono k1)) (fun ds ω2 H2 k2 t2 h2 vs hl r2 => ?_) fun _ _ _ _ _ q => q)
  exact h2 H2 k2 t2 (v :: vs) (by simp [hl]) (.cons (r.up (k2.sb t1)) r2)
def eDisp (ks : List Str) (F : E Ω (List D)) : E Ω D := fun τ ω => (F τ ω).bind fun ds ω1 => if ds.length = ks.length then .ok (.dic (ks.map Sum.inr) ds) ω1 else .no
theorem de_disp {trs : List (TE × TE)} {ks : List Str} {F : E Ω (List D)} (hk : ks.Nodup) (hl : ks.length ≤ 15) (h : DPs G K W trs ks F) : DE G K W (tFrzW (tDisp trs)) (eDisp ks F) := by
  intro H0 σ H ω τ s t Q hq p hp
  have nf : ¬ G.FP p := fun f => G.trk t p f hp
  have sm : Same H (upd H p (.dK [])) := Same.new hp
  refine h H0 σ _ ω τ (s.step t (.of sm)) (At.same t sm) _ (Res.imp (Res.mono (Res.bind hq) (.of sm)) (fun ds ω1 H1 k1 t1 h1 vs hvl r => ?_) fun _ _ _ _ _ q => q)
  have hp1 : H1 p = some (.dK []) := k1 p _ upd_same nf
  have hdl : ds.length = ks.length := by rw [← r.length]; exact hvl
  rw [if_pos hdl] at h1
  have hks : ((ks.map (Sum.inr : Str → Key)).zip vs).map (·.1) = ks.map Sum.inr := List.map_fst_zip (by rw [List.length_map, hvl]; exact Nat.le_refl _)
  have hm : mergeK [] ((ks.map (Sum.inr : Str → Key)).zip vs) = (ks.map (Sum.inr : Str → Key)).zip vs := by
    refine merge_new _ [] ?_
    rw [List.nil_append, hks]
    exact List.Pairwise.map _ (fun a b hab e => hab (Sum.inr.inj e)) hk
  refine ⟨hp1, (ks.map (Sum.inr : Str → Key)).zip vs, ?_, by rw [List.length_zip, List.length_map]; omega, p, _, rfl, upd_same, trivial, fun o => ?_⟩
  · rw [List.zip_map_left, List.map_map]; rfl
  · rw [hm, upd_upd]
    have sb : Sb im H1 (upd H1 p (.frz o (.dK ((ks.map (Sum.inr : Str → Key)).zip vs)))) := fun b u eb st => by
      have : b ≠ p := fun q => by subst q; rw [hp1] at eb; cases eb; exact st
      rw [upd_ne this]; exact eb
    refine h1 _ (fun b u eb nfb => ?_) (G.keep t1 (fun b u f eb => ?_) sb) _ (.dic upd_same (by rw [List.length_map, hvl]) (r.up sb))
    · have : b ≠ p := fun q => by subst q; rw [hp] at eb; cases eb
      rw [upd_ne this]; exact k1 b u (sm b u eb) nfb
    · have : b ≠ p := fun q => nf (q ▸ f)
      rw [upd_ne this]; exact eb
end
section
variable {Ω : Type} {τ : Tau} {ω : Ω}
theorem wp_eDisp {ks : List Str} {F : E Ω (List D)} {P : D → Ω → Prop} {X} : (eDisp ks F τ ω).wp P X = (F τ ω).wp (fun ds ω1 => ds.length = ks.length ∧ P (.dic (ks.map Sum.inr) ds) ω1) X := by
  unfold eDisp; rw [wp_bind]; congr; funext ds ω1
  by_cases h : ds.length = ks.length
  · rw [if_pos h, wp_ok]; exact propext ⟨fun p => ⟨h, p⟩, fun p => p.2⟩
  · rw [if_neg h]; exact propext ⟨fun h => by with_unfolding_all exact h.elim, fun p => absurd p.1 h⟩
end
end DL
namespace DL
open PySem PySem.Spec PyProof.Rows L2
def inTD (d e : D) : Option D := match d.py, e.py with
  | some p, some (.tuple qs) => if (PyData.tuple qs).layable0 = true ∧ p.layable0 = true ∧ (qs.all fun y => SeqAt.noMix y p) = true then some (.bl (decide (Spec.countIn p qs ≠ 0))) else none
  | _, _ => none
section
variable {X : Cx} {im : Addr → Bool}
theorem op_inTD (hu : X.A.units + 200 < cLine) : OpR X (compareOp .In) (rD2 X.K im inTD) := by
  intro pins s σ H x y v u Q I rx ry h
  obtain ⟨d, e, z, hd, he, hz, q⟩ := h
  unfold inTD at hz
  split at hz
  · rename_i p qs e1 e2
    split at hz
    · rename_i c
      cases hz
      obtain ⟨as, r1⟩ := Dp.reads I p x v (Rep.dp _ _ _ hd e1) rx
      obtain ⟨bs, r2⟩ := Dp.reads I (.tuple qs) y u (Rep.dp _ _ _ he e2) ry
      exact in_tuple_dataS r2 r1 c.1 c.2.1 (by omega) (fun y hy => (List.all_eq_true.mp c.2.2) y hy) ⟨.bl _, H, I, rfl, q _ _ (Same.refl _) (.bl _)⟩
    · cases hz
  · cases hz
end
end DL
namespace DL
open PySem PySem.Spec PyProof.Rows L2
section
variable {im : Addr → Bool} {Ω : Type} {G : Gam im Ω} {K : PySem.W.Frag} {W : WX} {te : TE} {Fl' : E Ω (List D)}
def sExt (i : Nat) (e : E Ω (List D)) : S Ω := fun τ ω => match τ[i]? with
  | some (some (.ow .L xs)) => withE e (fun ds τ ω => if xs.length + ds.length ≤ 100000 then some (.nx (τ.set i (some (.ow .L (xs ++ ds)))), ω) else none) τ ω
  | _ => none
theorem ds_ext {i : Nat} (he : DL G K W te Fl') : DS G K W (tDrop (tBM K "list" rExtend (tVar i) (tCons te tNil))) (sExt i Fl') := by
  intro H0 σ H ω τ s t' D h
  unfold sExt at h
  split at h
  · rename_i xs hx
    obtain ⟨l, vs, e, h1, h2, h3, h4⟩ := s.getO hx
    refine ⟨_, e, .inl ⟨rfl, vs, SqL.of h1⟩, ?_⟩
    refine he H0 σ H ω τ s t' _ (Res.imp (withE_kx s t' h) (fun ds ω1 H1 k1 t1 h1' p zs hp hl r => ?_) fun _ _ _ _ _ q => q)
    split at h1'
    · rename_i hlen
      have hl1 : H1 l = some (.lst vs) := k1 _ _ h1 h4
      have rr : RepL K im H1 (vs ++ zs) (xs ++ ds) := (h2.up (k1.sb t')).append r
      obtain ⟨s2, t2, sb⟩ := (s.step t' k1).mutO t1 hx e ⟨vs, hl1⟩ rr
      refine ⟨l, p, vs, zs, rfl, rfl, hl1, hl, ?_, h1' σ _ sb s2 t2⟩
      rw [h2.length, r.length, sizeLine_eq]; omega
    · exact h1'.elim
  · exact h.elim
end
section
variable {Ω : Type} {τ : Tau} {ω : Ω}
theorem sw_ext {i : Nat} {e : E Ω (List D)} {P : Fl → Ω → Prop} {xs : List D} (h : τ[i]? = some (some (.ow .L xs))) (k : (e τ ω).wp (fun ds ω1 => xs.length + ds.length ≤ 100000 ∧ P (.nx (τ.set i (some (.ow .L (xs ++ ds))))) ω1) (fun x ω1 => P (.rs x τ) ω1)) : sw (sExt i e τ ω) P := by
  unfold sExt; rw [h]
  refine Eq.mpr sw_withE ?_
  refine k.mono fun ds ω1 hd => ?_
  rw [if_pos hd.1]
  exact Eq.mpr sw_some hd.2
end
end DL
namespace DL
open PySem PySem.Spec PyProof.Rows L2
end DL
namespace DL
open PySem PySem.Spec PyProof.Rows L2
end DL
namespace DL
open PySem PySem.Spec PyProof.Rows L2
end DL
namespace DL
open PySem PySem.Spec PyProof.Rows L2
end DL
namespace DL
open PySem PySem.Spec PyProof.Rows L2
end DL
namespace DL
open PySem PySem.Spec PyProof.Rows L2
end DL
namespace DL
open PySem PySem.Spec PyProof.Rows L2
end DL
namespace DL
open PySem PySem.Spec PyProof.Rows L2
end DL
namespace DL
open PySem PySem.Spec PyProof.Rows L2
end DL
namespace DL
open PySem PySem.Spec PyProof.Rows L2
end DL
namespace DL
open PySem PySem.Spec PyProof.Rows L2
end DL
namespace DL
open PySem PySem.Spec PyProof.Rows L2
end DL
namespace DL
open PySem PySem.Spec PyProof.Rows L2
end DL
namespace DL
open PySem PySem.Spec PyProof.Rows L2
section
variable {im : Addr → Bool} {Ω : Type} (G : Gam im Ω) (K : PySem.W.Frag)
def KSP (H0 H : Hp) (D' : Ends) : Option ((List D × D) × Ω) → Prop
  | none => False
  | some ((ds, d), ω) => ∀ q a vs w H', Sb im H H' → Kp G H0 H' → G.At ω H' → H0 a = none → ¬ G.FP a → H' a = some (.lst vs) → RepL K im H' vs ds → Rep K im H' w d → SqT K H' q [.ref a, w] → D'.rt (.ref q) H'
variable {G} {K}
theorem KSP.mono {H0 H H1 : Hp} {D' : Ends} {r : Option ((List D × D) × Ω)} (h : KSP G K H0 H D' r) (s : Sb im H H1) : KSP G K H0 H1 D' r := by
  rcases r with _ | ⟨⟨ds, d⟩, ω⟩
  · exact h
  · exact fun q a vs w H' sb => h q a vs w H' (s.trans sb)
end
end DL
namespace DL
open PySem PySem.Spec PyProof.Rows L2
end DL
namespace DL
open PySem PySem.Spec PyProof.Rows L2
end DL
namespace DL
open PySem PySem.Spec PyProof.Rows L2
inductive OwnAll (F : List D → R Unit D) : List D → List D → Prop
  | nil : OwnAll F [] []
  | cons {fs gs fs' gs' ds es u} : F [.ins fs gs, .ins fs' gs'] = .ok (.bl true) u → OwnAll F ds es → OwnAll F (.ins fs gs :: ds) (.ins fs' gs' :: es)
def ownAll (F : List D → R Unit D) : List D → List D → Bool
  | [], [] => true
  | .ins fs gs :: ds, .ins fs' gs' :: es => (match F [.ins fs gs, .ins fs' gs'] with | .ok (.bl true) _ => true | _ => false) && ownAll F ds es
  | _, _ => false
theorem OwnAll.of {F : List D → R Unit D} : ∀ {ds es : List D}, ownAll F ds es = true → OwnAll F ds es
  | [], [], _ => .nil
  | d :: ds, e :: es, h => by
    unfold ownAll at h
    split at h
    · rename_i h1 h2; cases h1
    · rename_i fs gs ds' fs' gs' es' h1 h2
      injection h1 with h1 h3
      injection h2 with h2 h4
      subst h1 h2 h3 h4
      rw [Bool.and_eq_true] at h
      obtain ⟨h5, h6⟩ := h
      split at h5
      · rename_i u q
        exact .cons q (OwnAll.of h6)
      · cases h5
    · cases h
  | [], e :: es, h => by unfold ownAll at h; cases h
  | d :: ds, [], h => by unfold ownAll at h; cases d <;> cases h
theorem OwnAll.at {F : List D → R Unit D} : ∀ {ds es : List D}, OwnAll F ds es → ∀ {j : Nat} {d e : D}, ds[j]? = some d → es[j]? = some e → ∃ fs gs fs' gs' u, d = .ins fs gs ∧ e = .ins fs' gs' ∧ F [d, e] = .ok (.bl true) u
  | _, _, .nil, j, d, e, h, _ => by simp at h
  | _, _, .cons h1 h2, 0, d, e, h, h' => by
    simp at h h'
    subst h h'
    exact ⟨_, _, _, _, _, rfl, rfl, h1⟩
  | _, _, .cons h1 h2, j + 1, d, e, h, h' => by
    simp at h h'
    exact h2.at h h'
theorem OwnAll.len {F : List D → R Unit D} : ∀ {ds es : List D}, OwnAll F ds es → ds.length = es.length
  | _, _, .nil => rfl
  | _, _, .cons _ h => by simp [h.len]
end DL
namespace DL
open PySem PySem.Spec PyProof.Rows L2
end DL
namespace DL
open PySem PySem.Spec PyProof.Rows L2 LamX
/-- all but one address stays -/
def ExP (P : Addr) (H H' : Hp) : Prop := ∀ b o, H b = some o → b ≠ P → H' b = some o
section
variable {X : Cx} {pins : List (Addr × Obj)} {σ : L2.St} {H : Hp} {s : Shared}
/-- what is known of a lambda just made -/
structure Made (X : Cx) (H1 : Hp) (s' : Shared) (nm : Str) (params : Arguments) (body : Expr) (scope : Scope) (f c' : Addr) (pm ctv : Value) : Prop where
  obj : s'.heap.get? f = some (PySem.W.kla_obj "<lambda>" nm params body scope (cloFrom X.env.cells scope.names []) pm c' ctv)
  un : H1 f = none
  off : f ∉ frs X.stack
  co : H1 c' = some (CodeO c' nm)
theorem lam_mk {c P : Addr} {nm : Str} {params : Arguments} {body : Expr} {scope : Scope} {pos : Pos} {E : Value → Shared → Prop} {Q : Value → Shared → Prop}
    (I : Inv X pins σ H s) (TB : TabB X.base X.mg c P) (hcode : X.env.code = .ref c) (en : X.env.qual ++ "<lambda>" = nm) (tab : TabS H P nm)
    (hdef : defaultsOf params X.env = ([], [])) (hfree : ∀ y ∈ scope.names, y.2 = .free → ∃ c, X.env.cells.lookup y.1 = some c)
    (k : ∀ (f c' : Addr) (pm ctv : Value) (H1 : Hp) (s' : Shared), Inv X pins σ H1 s' → ExP P H H1 → TabS H1 P nm → Made X H1 s' nm params body scope f c' pm ctv → Q (.ref f) s') :
    wpAny (model X.prog X.w) X.A (eval (.Lambda params body scope pos) X.env) Q E s := by
  subst en
  obtain ⟨row, inT, trip, named⟩ := tab
  have real : s.heap.get? P = some { cls := .none, data := .fields row } := I.hok P _ inT
  have blt : s.heap.BuiltinsAt X.mg P := TB.bm.keeps I.bk
  have high : ∀ f, s.heap.objs.size ≤ f → f ∉ frs X.stack := by
    intro f hf z
    rcases List.mem_cons.mp (I.stkSub _ z) with e | e
    · exact absurd (e ▸ I.lt) (Nat.not_lt.mpr hf)
    · exact I.nofs hf e
  apply PySem.W.kla_eval hdef
  cases found : codeAmong pos row.toList with
  | some cv =>
    obtain ⟨c', rfl, known⟩ := named pos cv found
    apply PySem.W.kla_makeFunctionHit (mg := X.mg) (c := c) (P := P) (ps := row) (closure_ok hfree) I.ok.glob (I.mod.glob.keeps I.bk) hcode (TB.code.keeps I.bk) real trip found blt
    intro ctv h' tk grown size
    refine k h'.objs.size c' ((X.mg "__name__").getD .none) ctv H _ (I.kept fun b o e => Heap.get?_push_of_some _ (grown b o e)) (fun b o e _ => e) ⟨row, inT, trip, named⟩ ⟨Heap.get?_push_size _ rfl, ?_, high _ size, known⟩
    exact I.hok.fresh size
  | none =>
    apply PySem.W.kla_makeFunction (mg := X.mg) (c := c) (P := P) (ps := row) (closure_ok hfree) I.ok.glob (I.mod.glob.keeps I.bk) hcode (TB.code.keeps I.bk) real trip found TB.gP blt
    intro c' ctv h' tk grown ge lt rec there
    obtain ⟨_, oc, flds, tq, z, isC, dat, nam⟩ := rec
    cases z
    have size : s.heap.objs.size ≤ h'.objs.size := Nat.le_trans ge (Nat.le_of_lt lt)
    have free : H c' = none := I.hok.fresh ge
    have PC : P ≠ c' := ne_of_none inT free
    let fo := PySem.W.kla_obj "<lambda>" (X.env.qual ++ "<lambda>") params body scope (cloFrom X.env.cells scope.names []) ((X.mg "__name__").getD .none) c' ctv
    have J := inv_table (t' := tk) (more := #[rawInt pos.line, rawInt pos.col, .ref c']) (h' := h'.push fo) I inT
      (fun b o ne e => Heap.get?_push_of_some _ (grown b o ne e)) (Heap.get?_push_of_some _ there) ge ⟨oc, flds, tq, Heap.get?_push_of_some _ isC, dat, nam⟩
    generalize hNew : row ++ #[rawInt pos.line, rawInt pos.col, .ref c'] = row2 at J
    have list2 : row2.toList = row.toList ++ [rawInt pos.line, rawInt pos.col, .ref c'] := by rw [← hNew]; simp
    have ext : ExP P H (upd (upd H P (.tbl row2)) c' (CodeO c' (X.env.qual ++ "<lambda>"))) := by
      intro b o e ne
      have ne2 : b ≠ c' := fun z => by rw [z, free] at e; cases e
      rw [upd_ne ne2, upd_ne ne]
      exact e
    have hid : upd (upd H P (.tbl row2)) c' (CodeO c' (X.env.qual ++ "<lambda>")) h'.objs.size = none := by
      have n1 : h'.objs.size ≠ c' := Nat.ne_of_gt lt
      have n2 : h'.objs.size ≠ P := Nat.ne_of_gt (Nat.lt_of_lt_of_le (Heap.lt_size real) size)
      rw [upd_ne n1, upd_ne n2]
      exact I.hok.fresh size
    refine k h'.objs.size c' ((X.mg "__name__").getD .none) ctv _ _ J ext ⟨row2, ?_, ?_, ?_⟩ ⟨Heap.get?_push_size _ rfl, hid, high _ size, upd_same⟩
    · rw [upd_ne PC, upd_same]
    · rw [list2]
      exact PySem.TriplesOk_snoc _ _ _ _ trip
    · intro p' cv hcv
      rw [list2] at hcv
      rcases among_app _ trip hcv with z | z
      · obtain ⟨c0, z1, z2⟩ := named p' cv z
        have n0 : c0 ≠ P := fun w => by
          rw [w, inT] at z2
          unfold CodeO at z2
          cases z2
        exact ⟨c0, z1, ext _ _ z2 n0⟩
      · exact ⟨c', z, upd_same⟩
end
section
variable {im : Addr → Bool} {Ω : Type} {K : PySem.W.Frag}
/-- G as a part of G' -/
structure SubG (G G' : Gam im Ω) : Prop where
  obj : G'.obj = G.obj
  down : ∀ {ω H}, G'.At ω H → G.At ω H
  up : ∀ {ω ω' H H'}, G'.At ω H → Kp G H H' → G.At ω' H' → G'.At ω' H'
  fp : ∀ {b}, G.FP b → G'.FP b
theorem SubG.kp {G G' : Gam im Ω} (S : SubG G G') {H H' : Hp} (k : Kp G H H') : Kp G' H H' := fun b o e n => k b o e fun f => n (S.fp f)
/-- a call of a def that is handed a part of what may be changed here -/
theorem dc_WS {Pp : Type} {Γ : Pp → Gam im Ω} {p : Pp} {G : Gam im Ω} {W : WX} {n m i : Nat} {F : List D → Ω → R Ω D} {tr : TA} {Fr : E Ω (List D)} (S : SubG (Γ p) G) (hr : DA G K W tr Fr) (hn : AN Fr m) (hm : m + 1 = n := by rfl) :
    DE G K W (tCall (spW K Γ n 0 F) [] E0 (tCons (tVar i) tr)) (cW F i Fr) := by
  intro H0 σ H ω τ s t Q h
  unfold cW at h
  split at h
  · rename_i hx
    refine ⟨_, s.getS hx, ?_⟩
    have hr' := hr H0 σ H ω τ s t
    cases e0 : Fr τ ω with
    | no => rw [e0] at h; exact h.elim
    | ex x ω1 => rw [e0] at h hr'; exact hr' _ h
    | ok xs ω1 =>
      have hl := hn τ ω xs ω1 e0
      rw [e0] at h hr'
      refine hr' _ fun H1 k1 t1 vs r => ?_
      have h1 : Res G (nox (F xs ω1)) H (kD G K Q) (kX G K W σ) := h
      refine ⟨by rw [List.append_nil, List.length_cons, r.length, hl, hm], p, ω1, vs, xs, by rw [List.append_nil, S.obj] <;> rfl, S.down t1, r, ?_⟩
      cases e : F xs ω1 with
      | no => rw [e] at h1; exact h1.elim
      | ex x ω2 => rw [e] at h1; exact h1.elim
      | ok d ω2 =>
        rw [e] at h1
        exact fun H' k t' v rv => h1 H' (k1.trans (S.kp k)) (S.up t1 k t') v rv
  · exact h.elim
/-- the table as a part of the state -/
theorem tabS_keep {H H' : Hp} {P : Addr} {nm : Str} (t : TabS H P nm) (hP : ∀ o, H P = some o → H' P = some o) (sb : Sb im H H') : TabS H' P nm := by
  obtain ⟨ps, h1, h2, h3⟩ := t
  refine ⟨ps, hP _ h1, h2, fun pos cv hc => ?_⟩
  obtain ⟨c, e1, e2⟩ := h3 pos cv hc
  exact ⟨c, e1, sb _ _ e2 (by unfold CodeO; trivial)⟩
variable {Pp : Type} {Γ : Pp → Gam im Ω} {G : Gam im Ω} {W : WX} {cA P : Addr} {nm : Str} {t : TE} {Fb : E Ω D}
/-- how a Gam holds the table of the maker's code objects -/
structure HasT (G : Gam im Ω) (P : Addr) (nm : Str) : Prop where
  tab : ∀ {ω H}, G.At ω H → TabS H P nm
  ext : ∀ {ω H H1}, G.At ω H → ExP P H H1 → TabS H1 P nm → G.At ω H1
  fp : G.FP P
end
end DL
namespace DL
open PySem PySem.Spec PyProof.Rows L2 LamX
section
variable {P : Program} {w : World} {K : PySem.W.Frag} {mg : Str → Option Value} {base : Heap} {k : Nat} {f : Addr} {fd : FuncData} {N ps : List Str} {sp : Sp} {x qual : Str} {st : Stmt}
/-- a def from its body, its code object known -/
theorem GOk.ofBodyC (Fn : Fun K x qual st f fd) (Sc : FnScope N ps (defScope st)) (ar : ∀ vs H Q Ex, sp vs H Q Ex → vs.length = ps.length)
    (body : ∀ (cdv : Value) (A : Around) (outer : List Env) (s : Shared) (H : Hp) (vs : List V) (Q : VK) (Ex : XK), fd.code = cdv → A.guards = some [] → Room k (A.deeper (envOfC qual (defScope st) s.heap.objs.size f cdv)) → sp vs H Q Ex →
      ∃ t, PSs (cxOf CX0 P w K mg base N qual (defScope st) f cdv A outer s H Ex).nox (defBody st) t ∧ t { nx := fun _ H' => Q .non H', rt := Q } (start N vs) H) :
    GOk P w K mg base (k + 1) f fd ps sp := by
  obtain ⟨oc, od, kV, doc, pm, an, cdv, ct, osl, rfl, found, code⟩ := Fn.ex
  constructor
  · exact ar
  · intro A outer s H args us vs Q Ex gu room env bound vals want
    have up : ∀ b o, base.get? b = some o → s.heap.get? b = some o := fun b o e => (env.bs b o e).1
    have inK : K.In s.heap := env.mod.kin.keeps up
    have slots : ∀ y ∈ ps.zip us, (defScope st).names.lookup y.1 = some .local ∨ ((defScope st).names.lookup y.1 = some .cell ∧ ((cellsFrom (s.heap.objs.size + 1) (defScope st).names []).lookup y.1).isSome = true) := by
      rintro ⟨n, u⟩ hy
      cases Sc.par n (List.of_mem_zip hy).1 with
      | inl c => exact .inl c
      | inr c => exact .inr ⟨c, PySem.W.cellsFrom_some _ _ _ (.inl c)⟩
    obtain ⟨t, tells, holds⟩ := body cdv A outer s H vs Q Ex rfl gu (room.deeper _) want
    have done : ∀ {σ1 : L2.St} {H1 : Hp} {v : V} {u : Value} {s1 : Shared}, Inv (cxOf CX0 P w K mg base N qual (defScope st) f cdv A outer s H Ex) [] σ1 H1 s1 → RelV v u → Q v H1 → CE outer P w H s Q u s1 := by
      intro σ1 H1 v u s1 J rv q
      exact ⟨v, H1, J.os, J.bare, J.base, J.hok, rv, q⟩
    apply codeAny_call_function room.depth (inK _ _ found) rfl Sc.co Sc.gen rfl (PySem.W.codeRec_of inK code)
    apply bound
    apply wpAny_newFunctionEnv_cells Sc.kind slots
    rintro e rfl s1 laid
    refine ⟨(env.mod.nolimit.keeps up).keeps laid.toInCall.keep, codeAny_func ?_⟩
    have first := inv_start (CX := CX0) (qual := qual) (f := f) (cd := cdv) (E := Ex) Sc room.hd env (ar _ _ _ _ want) vals laid
    apply wpAny_mono (tells.nox.run [] s1 (start N vs) H _ first holds)
    · intro fl s' ends
      match fl, ends with
      | .ret u, ⟨v, _, _, J, rv, q⟩ => exact done J rv q
      | .next, ⟨_, _, J, q⟩ => exact done (v := .non) J rfl q
      | .brk, ⟨_, _, _, q⟩ => exact q.elim
      | .cont, ⟨_, _, _, q⟩ => exact q.elim
    · exact fun _ _ z => z
end
/-- the table of a def's code object, from what is written of the def -/
theorem tab_mk {K : PySem.W.Frag} {x : Str} {f c P : Addr} {oc oc' : Value} {od od' : Option Addr} {sl sl' : Array (Option Value)} {fd : FuncData} {us : Array Value} (a : PySem.W.nsIn K mainGlobals x = some (some (.ref f)))
    (l : K.lookup f = some ⟨oc, od, .func fd, sl⟩) (e : fd.code = .ref c) (lc : K.lookup c = some ⟨oc', od', .fields us, sl'⟩) (h : us[11]? = some (.ref P)) : PySem.W.tabIn K x = some (c, P) := by
  unfold PySem.W.tabIn
  rw [a]
  dsimp only
  rw [l]
  dsimp only
  rw [e]
  dsimp only
  rw [lc]
  dsimp only
  rw [h]
/-- a run that gives True ends as the law's end wants it -/
theorem ks_law {im : Addr → Bool} {Ω : Type} {G : Gam im Ω} {K : PySem.W.Frag} {H0 H : Hp} {D : Ends} {W : WX} {B : S Ω} {τ : Tau} {ω ω' : Ω} (hF : runS B τ ω = .ok (.bl true) ω') (k : ∀ v H', v = V.bl true → D.rt v H') : KS G K H0 H D W (B τ ω) := by
  unfold runS at hF
  generalize B τ ω = r at hF ⊢
  match r, hF with
  | some (.rt d, ω1), hF =>
    simp only [R.ok.injEq] at hF
    obtain ⟨rfl, rfl⟩ := hF
    intro v H2 _ _ _ r
    cases r
    exact k _ _ rfl
  | some (.nx τ, ω1), hF => simp only [R.ok.injEq] at hF; exact absurd hF.1 (by intro z; cases z)
  | some (.bk τ, ω1), hF => cases hF
  | some (.ct τ, ω1), hF => cases hF
  | some (.rs x τ, ω1), hF => cases hF
  | some (.rl d, ω1), hF => cases hF
  | none, hF => cases hF
end DL
namespace DL
open PySem PySem.Spec PyProof.Rows L2
end DL
namespace DL
open PySem PySem.Spec PyProof.Rows L2
section
variable {P : Program} {w : World} {B : Around} {u : Shared}
/-- nothing but x differs -/
def But (x : Addr) (g h : Heap) : Prop := ∀ q o, q ≠ x → g.get? q = some o → h.get? q = some o
theorem But.trans {x : Addr} {f g h : Heap} (k1 : But x f g) (k2 : But x g h) : But x f h := fun q o n e => k2 q o n (k1 q o n e)
theorem But.push {x : Addr} {h : Heap} (ob : Obj) : But x h (h.push ob) := fun q o _ e => Heap.get?_push_of_some _ e
end
section
variable {im : Addr → Bool} {Ω : Type} {G : Gam im Ω} {K : PySem.W.Frag} {W : WX} {c : TT} {t u : TS} {Fc : E Ω Bool} {Fa Fb : SL Ω}
def lIfs (c : E Ω Bool) (a b : SL Ω) : SL Ω := fun τ ω => match c τ ω with
  | .ok true ω1 => a τ ω1
  | .ok false ω1 => b τ ω1
  | _ => none
theorem dsl_ifs (hc : DT G K W c Fc) (ha : DSL G K t Fa) (hb : DSL G K u Fb) : DSL G K (tSeq (tIfS c t tNext) u) (lIfs Fc Fa Fb) := by
  intro H0 σ H ω τ s t' D h
  unfold lIfs at h
  refine hc H0 σ H ω τ s t' _ ?_
  cases q : Fc τ ω with
  | ok x ω1 =>
    rw [q] at h
    cases x with
    | true =>
      intro H1 k1 t1
      exact ha H0 σ H1 ω1 τ (s.step t' k1) t1 _ (KSL.mono (D' := { D with nx := u D }) h (k1.sb t'))
    | false =>
      intro H1 k1 t1
      exact hb H0 σ H1 ω1 τ (s.step t' k1) t1 D (h.mono (k1.sb t'))
  | ex x ω1 => rw [q] at h; exact h.elim
  | no => rw [q] at h; exact h.elim
theorem slw_ifs {τ : Tau} {ω : Ω} {P : List D → Ω → Prop} : slw (lIfs Fc Fa Fb τ ω) P = (Fc τ ω).wp (fun x ω1 => slw ((if x = true then Fa τ ω1 else Fb τ ω1)) P) (fun _ _ => False) := by
  unfold lIfs
  cases q : Fc τ ω with
  | ok x ω1 => cases x <;> with_unfolding_all rfl
  | ex x ω1 => with_unfolding_all rfl
  | no => with_unfolding_all rfl
end
end DL
namespace DL
open PySem PySem.Spec PyProof.Rows L2
section
variable {im : Addr → Bool} {Ω : Type} {K : PySem.W.Frag} {W : WX}
/-- the state does not speak of finished lists -/
class Thaws (G : Gam im Ω) : Prop where
  at' : ∀ {ω : Ω} {H : Hp} {l : Addr} {o : Obj} {vs ws : List V}, G.At ω H → H l = some (.frz o (.lst vs)) → ¬ G.FP l → G.At ω (upd H l (.lst ws))
instance : Thaws (gam0 im) := ⟨fun _ _ _ => trivial⟩
instance {p : Addr × Addr} : Thaws (srcG im p) where
  at' := fun ⟨h1, h2⟩ e nf => by
    refine ⟨?_, ?_⟩
    · rw [upd_ne (fun z => nf (.inl z.symm))]
      exact h1
    · rw [upd_ne (fun z => nf (.inr z.symm))]
      exact h2
variable {H H' : Hp} {l : Addr} {o : Obj} {u u' : HO}
end
end DL
namespace DL
open PySem PySem.Spec PyProof.Rows L2
end DL
namespace DL
open PySem PySem.Spec PyProof.Rows L2
end DL
namespace DL
open PySem PySem.Spec PyProof.Rows L2
section
variable {X : Cx} {im : Addr → Bool}
def prsI : List D → Option (List (Int × Int))
  | [] => some []
  | .tup [.int i, .int j] :: r => (prsI r).map ((i, j) :: ·)
  | _ => none
def intP (q : Int × Int) : D := .tup [.int q.1, .int q.2]
theorem prsI_map : ∀ {ds : List D} {ps : List (Int × Int)}, prsI ds = some ps → ds = ps.map intP := by
  intro ds
  induction ds with
  | nil => intro ps h; cases h; rfl
  | cons d ds ih =>
    intro ps h
    unfold prsI at h
    split at h
    · rename_i e; cases e
    · rename_i i j r e
      cases e
      obtain ⟨qs, e1, rfl⟩ := Option.map_eq_some_iff.mp h
      rw [List.map_cons, ← ih e1]
      rfl
    · cases h
end
end DL
namespace DL
open PySem PySem.Spec PyProof.Rows L2 LamX
section
variable {prog : Program} {w : World} {A : Around} {E : Value → Shared → Prop}
theorem key_item {s : Shared} {env : Env} {m : Str → Option Value} {x : Str} {t : Addr} {items : Array Value} {j : Nat} {c : Int} {y : Value} {kn : Nat} {p1 p2 p3 : Pos} {Q : Value → Shared → Prop} (hk : env.scope.kind = .function) (hl : env.kindOf x = some .local) (hn : s.heap.Ns env.locals m) (hm : m x = some (.ref t)) (hd : (x == ("__debug__" : Str)) = false)
    (ht : IsTup s.heap t items) (hc : c = j) (hj : j < items.size) (hj2 : j < 1000) (hy : items[j]? = some y) (h : Q y { s with toks := s.toks + 1 }) :
    wpAny (model prog w) A (eval (.Subscript (.Name x p1) (.Constant (.int c) kn p2) p3) env) Q E s := by
  subst hc
  refine Subscript_Constant ?_
  refine wpAny_Name (wpAny_loadName_local hk hl hn hm ?_) hd
  refine wpAny_Constant_int ?_
  refine ⟨"tuple", _, slot_tuple_getitem.lookup, ?_, ?_⟩
  · obtain ⟨o, h1, h2, _⟩ := ht
    exact ⟨o, h1, h2⟩
  · refine PyProof.Rows.getItem_tuple (j := j) ht (by omega) (by omega) ?_ hy h
    unfold seqIndex?
    have e : ¬ ((j : Int) < 0) := by omega
    simp [hj, e]
theorem key_body {s : Shared} {env : Env} {m : Str → Option Value} {x : Str} {t : Addr} {i j : Int} {t1 t2 : Tok} {k1 k2 : Nat} {p1 p2 p3 p4 p5 p6 p7 p8 : Pos} {x1 : Nat} (hk : env.scope.kind = .function) (hl : env.kindOf x = some .local) (hn : s.heap.Ns env.locals m) (hm : m x = some (.ref t)) (hd : (x == ("__debug__" : Str)) = false)
    (ht : IsTup s.heap t #[.int i t1, .int j t2]) {Q : Value → Shared → Prop} (h : ∀ tk tq, Q (.ref s.heap.objs.size) { s with heap := s.heap.push { cls := .type "tuple", data := .seq #[.int i t1, .int (-j) tq] }, toks := tk }) :
    wpAny (model prog w) A (eval (.Tuple [.Subscript (.Name x p1) (.Constant (.int 0) k1 p2) p3, .UnaryOp .USub (.Subscript (.Name x p4) (.Constant (.int 1) k2 p5) p6) p7] x1 p8) env) Q E s := by
  refine wpAny_Tuple_spliced ?_
  refine Calls.spliced_cons ?_
  show wpAny _ _ (eval (.Subscript (.Name x p1) (.Constant (.int 0) k1 p2) p3) env) _ _ s
  refine key_item (j := 0) hk hl hn hm hd ht rfl (by simp) (by omega) rfl ?_
  refine Calls.spliced_cons ?_
  show wpAny _ _ (eval (.UnaryOp .USub (.Subscript (.Name x p4) (.Constant (.int 1) k2 p5) p6) p7) env) _ _ _
  refine UnaryOp_ ?_
  refine key_item (j := 1) hk hl hn hm hd ht rfl (by simp) (by omega) rfl ?_
  refine neg_int ?_
  refine Calls.spliced_nil ?_
  refine ⟨by rw [sizeLine_eq]; simp, ?_⟩
  exact h _ _
end
def leK (p q : Int × Int) : Bool := decide (p.1 < q.1 ∨ (p.1 = q.1 ∧ -p.2 ≤ -q.2))
def insK (q : Int × Int) : List (Int × Int) → List (Int × Int)
  | [] => [q]
  | x :: xs => if leK q x = true then q :: x :: xs else x :: insK q xs
def sortK : List (Int × Int) → List (Int × Int)
  | [] => []
  | x :: xs => insK x (sortK xs)
theorem leK_tot (a b : Int × Int) : leK a b = true ∨ leK b a = true := by
  unfold leK
  rw [decide_eq_true_eq, decide_eq_true_eq]
  omega
theorem leK_tr {a b c : Int × Int} (h1 : leK a b = true) (h2 : leK b c = true) : leK a c = true := by
  unfold leK at *
  rw [decide_eq_true_eq] at *
  omega
theorem leK_anti {a b : Int × Int} (h1 : leK a b = true) (h2 : leK b a = true) : a = b := by
  unfold leK at h1 h2
  rw [decide_eq_true_eq] at h1 h2
  have e1 : a.1 = b.1 := by omega
  have e2 : a.2 = b.2 := by omega
  exact Prod.ext e1 e2
theorem insK_perm (n : Int × Int) : ∀ ms, (insK n ms).Perm (n :: ms)
  | [] => .refl _
  | m :: ms => by
    unfold insK
    split
    · exact .refl _
    · exact ((insK_perm n ms).cons m).trans (.swap ..)
theorem sortK_perm : ∀ ns, (sortK ns).Perm ns
  | [] => .refl _
  | n :: ns => (insK_perm n _).trans ((sortK_perm ns).cons n)
theorem insK_sorted (n : Int × Int) : ∀ ms, ms.Pairwise (fun a b => leK a b = true) → (insK n ms).Pairwise (fun a b => leK a b = true)
  | [], _ => by simp [insK]
  | m :: ms, h => by
    rw [List.pairwise_cons] at h
    unfold insK
    split
    · rename_i c
      refine List.pairwise_cons.mpr ⟨fun a ha => ?_, List.pairwise_cons.mpr h⟩
      rcases List.mem_cons.mp ha with e | e
      · rw [e]; exact c
      · exact leK_tr c (h.1 a e)
    · rename_i c
      refine List.pairwise_cons.mpr ⟨fun a ha => ?_, insK_sorted n ms h.2⟩
      rcases List.mem_cons.mp ((insK_perm n ms).mem_iff.mp ha) with e | e
      · rw [e]; exact (leK_tot n m).resolve_left c
      · exact h.1 a e
theorem sortK_sorted : ∀ ns, (sortK ns).Pairwise (fun a b => leK a b = true)
  | [] => .nil
  | n :: ns => insK_sorted n _ (sortK_sorted ns)
theorem permK : ∀ {xs ys : List (Int × Int)}, xs.Perm ys → xs.Pairwise (fun a b => leK a b = true) → ys.Pairwise (fun a b => leK a b = true) → xs = ys
  | [], ys, p, _, _ => by rw [List.nil_perm.mp p]
  | x :: xs, [], p, _, _ => by have := p.length_eq; simp at this
  | x :: xs, y :: ys, p, h1, h2 => by
    have e : x = y := by
      have a : x ∈ y :: ys := p.mem_iff.mp (List.mem_cons_self ..)
      have b : y ∈ x :: xs := p.mem_iff.mpr (List.mem_cons_self ..)
      rw [List.pairwise_cons] at h1 h2
      rcases List.mem_cons.mp a with q | q
      · exact q
      · rcases List.mem_cons.mp b with r | r
        · exact r.symm
        · exact leK_anti (h1.1 y r) (h2.1 x q)
    subst e
    rw [permK (List.Perm.cons_inv p) (List.pairwise_cons.mp h1).2 (List.pairwise_cons.mp h2).2]
theorem sortK_merge (ps : List (Int × Int)) : ps.mergeSort leK = sortK ps :=
  permK ((List.mergeSort_perm _ _).trans (sortK_perm ps).symm) (List.pairwise_mergeSort (le := leK) (fun _ _ _ h1 h2 => leK_tr h1 h2) (fun (a b : Int × Int) => by rw [Bool.or_eq_true]; exact leK_tot a b) _) (sortK_sorted ps)
section
variable {X : Cx} {im : Addr → Bool}
theorem each_reps {H : Hp} {K : PySem.W.Frag} : ∀ {out : List Value} {ps : List (Int × Int)}, PySem.W.EachIs (fun (u : Value) (q : Int × Int) => ∃ y : V, RelV y u ∧ Rep K im H y (intP q)) out ps → ∃ zs : List V, Vals zs out ∧ RepL K im H zs (ps.map intP)
  | [], _, h => by cases h; exact ⟨[], .nil, .nil⟩
  | u :: out, _, h => by
    cases h with
    | cons h1 h2 =>
      obtain ⟨y, r1, r2⟩ := h1
      obtain ⟨zs, v1, v2⟩ := each_reps h2
      exact ⟨y :: zs, .cons r1 v1, .cons r2 v2⟩
theorem reps_each {H : Hp} {K : PySem.W.Frag} : ∀ {zs : List V} {out : List Value} {ps : List (Int × Int)}, Vals zs out → RepL K im H zs (ps.map intP) → PySem.W.EachIs (fun (u : Value) (q : Int × Int) => ∃ y : V, RelV y u ∧ Rep K im H y (intP q)) out ps
  | [], _, [], h, _ => by cases h; exact .nil
  | [], _, _ :: _, _, h => by cases h
  | _ :: _, _, [], _, h => by cases h
  | z :: zs, _, p :: ps, h, r => by
    cases h with
    | cons h1 h2 =>
      cases r with
      | cons r1 r2 => exact .cons ⟨z, h1, r1⟩ (reps_each h2 r2)
end
section
variable {im : Addr → Bool} {Ω : Type} {G : Gam im Ω} {K : PySem.W.Frag} {W : WX} {te : TE} {Fe : E Ω D} {P : Addr} {nm : Str}
theorem prsI_of : ∀ {ds : List D} {ps : List (Int × Int)}, prsI ds = some ps → ds = ps.map intP := prsI_map
end
end DL
namespace DL
open PySem PySem.Spec PyProof.Rows L2 LamX
def tabG (im : Addr → Bool) (P : Addr) (nm : Str) : Gam im Unit where
  At := fun _ H => TabS H P nm
  FP := fun b => b = P
  obj := .non
  keep := fun h k sb => tabS_keep h (fun o e => k _ o rfl e) sb
  nost := fun h b o f e s => by
    subst f
    obtain ⟨ps, q, _⟩ := h
    rw [q] at e
    cases e
    exact s
  trk := fun h b f e => by
    subst f
    obtain ⟨ps, q, _⟩ := h
    rw [q] at e
    cases e
theorem tabG_has {im : Addr → Bool} {P : Addr} {nm : Str} : HasT (tabG im P nm) P nm := ⟨fun a => a, fun _ _ t => t, rfl⟩
section
variable {im : Addr → Bool} (K : PySem.W.Frag)
def spTb (im : Addr → Bool) (P : Addr) (nm : Str) (n : Nat) (F : List D → R Unit D) : Sp := fun vs H Q Ex => vs.length = n ∧ TabS H P nm ∧ ∃ ds, RepL K im H vs ds ∧ (match F ds with
  | .ok d _ => ∀ v H', ExP P H H' → TabS H' P nm → Rep K im H' v d → Q v H'
  | _ => False)
variable {K} {Ω : Type} {G : Gam im Ω} {W : WX} {tr : TA} {Fr : E Ω (List D)} {P : Addr} {nm : Str}
theorem dc_T {n : Nat} {F : List D → R Unit D} (HT : HasT G P nm) (hr : DA G K W tr Fr) (hn : AN Fr n) : DE G K W (tCall (spTb K im P nm n F) [] E0 tr) (cD F Fr) := by
  intro H0 σ H ω τ s t Q h
  have hr' := hr H0 σ H ω τ s t
  cases e0 : Fr τ ω with
  | ok xs ω1 =>
    have hl := hn τ ω xs ω1 e0
    unfold cD at h
    rw [e0] at h hr'
    refine hr' _ fun H1 k1 t1 vs r => ?_
    have h1 : Res G (nox (lift (F xs) ω1)) H (kD G K Q) (kX G K W σ) := h
    refine ⟨by rw [List.append_nil, r.length, hl], HT.tab t1, xs, by rw [List.append_nil]; exact r, ?_⟩
    cases e : F xs with
    | ok d u =>
      rw [e] at h1
      exact fun v H' ext tab rv => h1 H' (k1.trans fun b o eb nf => ext b o eb fun z => nf (z ▸ HT.fp)) (HT.ext t1 ext tab) v rv
    | ex x u => rw [e] at h1; exact h1.elim
    | no => rw [e] at h1; exact h1.elim
  | ex x ω1 =>
    unfold cD at h
    rw [e0] at h hr'
    exact hr' _ h
  | no => unfold cD at h; rw [e0] at h; exact h.elim
end
section
variable {im : Addr → Bool} {Pg : Program} {w : World} {K : PySem.W.Frag} {mg : Str → Option Value} {base : Heap} {P : Addr} {nm : Str}
theorem fun_okC {x qual : Str} {st : Stmt} {f : Addr} {fd : FuncData} {N ps : List Str} {k : Nat} {sp : Sp} (F : Fun K x qual st f fd) (S : FnScope N ps (defScope st)) (len : ∀ vs H Q E, sp vs H Q E → vs.length = ps.length)
    (hbody : ∀ (cdv : Value) (A : Around) (outer : List Env) (s : Shared) (H : Hp) (vs : List V) (Q : VK) (E : XK), fd.code = cdv → Room k (A.deeper (envOfC qual (defScope st) s.heap.objs.size f cdv)) → sp vs H Q E →
      ∃ t, PSs (cxOf CX0 Pg w K mg base N qual (defScope st) f cdv A outer s H E).nox (defBody st) t ∧ t { nx := fun _ H' => Q .non H', rt := Q } (start N vs) H) : FnOk Pg w K mg base CX0 (k + 1) f fd ps sp := by
  obtain ⟨oc, od, kV, doc, pm, an, cdv, ct, osl, rfl, lk, hcd⟩ := F.ex
  refine fn_of lk hcd S len fun A outer s H vs Q E hr hsp => ?_
  obtain ⟨t, h, q⟩ := hbody cdv A outer s H vs Q E rfl hr hsp
  exact ⟨t, h.nox, q⟩
theorem fn_Tx {x qual : Str} {st : Stmt} {f : Addr} {fd : FuncData} {N ps : List Str} {k k' j : Nat} {F : S Unit} {F' : List D → R Unit D} (Fn : Fun K x qual st f fd) (Sc : FnScope N ps (defScope st))
    (ek : k' = k + 1) (ej : j = ps.length) (eF : F' = fun ds => nox (runS F (startT N.length (ds.map .d)) ()))
    (hb : ∀ (cdv : Value) (A : Around) (outer : List Env) (s : Shared) (H : Hp) (Ex : XK), fd.code = cdv → Room k (A.deeper (envOfC qual (defScope st) s.heap.objs.size f cdv)) →
      ∃ t, PSs (cxOf CX0 Pg w K mg base N qual (defScope st) f cdv A outer s H Ex).nox (defBody st) t ∧ DS (tabG im P nm) K (fun _ _ _ _ => False) t F) :
    FnOk Pg w K mg base CX0 k' f fd ps (spTb K im P nm j F') := by
  subst ek ej eF
  refine fun_okC Fn Sc (fun vs H Q Ex h => h.1) fun cdv A outer s H vs Q Ex ec hr h => ?_
  obtain ⟨hl, tab, ds, r, h⟩ := h
  obtain ⟨t, ht, hd⟩ := hb cdv A outer s H Ex ec hr
  refine ⟨t, ht, ?_⟩
  have st : STT (tabG im P nm) K H H (start N vs) (startT N.length (ds.map .d)) := stt_start (by rw [List.length_map, r.length]) (fun i v c e1 e2 => by
    rw [List.getElem?_map] at e2
    cases q : ds[i]? with
    | none => rw [q] at e2; cases e2
    | some d =>
      rw [q] at e2; cases e2
      obtain ⟨v', e3, r'⟩ := r.get q
      rw [e1] at e3; cases e3
      exact .d r') (fun c hc _ xs e => by
    obtain ⟨d, _, rfl⟩ := List.mem_map.mp hc
    cases e) _
  refine hd H (start N vs) H () _ st tab _ ?_
  unfold runS at h
  dsimp only at h
  cases q : F (startT N.length (ds.map .d)) () with
  | none => rw [q] at h; exact h.elim
  | some p =>
    obtain ⟨fl, ω'⟩ := p
    rw [q] at h
    cases fl with
    | nx τ => exact fun σ' H' _ s t => h .non H' (fun b o e n => s.fr b o e n) t .non
    | rt d => exact fun v H' _ k t r => h v H' (fun b o e n => k b o e n) t r
    | bk τ => exact h.elim
    | ct τ => exact h.elim
    | rs x τ => exact h.elim
    | rl d => exact h.elim
end
end DL
namespace DL
open PySem PySem.Spec PyProof.Rows L2
end DL
namespace DL
open PySem PySem.Spec PyProof.Rows L2
end DL
namespace DL
open PySem PySem.Spec PyProof.Rows L2
end DL
namespace DL
open PySem PySem.Spec PyProof.Rows L2 LamX
theorem kit_ty {K : PySem.W.Frag} {t : Value} {T : String} (h1 : PySem.W.kitMeta T = true) (h3 : PySem.W.subIn K t (.type T) = some true) : PySem.W.kitOne K t (.type T) = some true := by
  unfold PySem.W.kitOne
  split
  · rfl
  · unfold PySem.W.kitCls
    dsimp only
    rw [if_pos h1]
    exact h3
end DL
namespace DL
open PySem PySem.Spec PyProof.Rows L2 LamX
/-- the lambda's body gives the key (p[0], -p[1]) of a pair of ints -/
structure KeyB (prog : Program) (w : World) (y : Str) (body : Expr) : Prop where
 run : ∀ {A : Around} {E : Value → Shared → Prop} {s : Shared} {env : Env} {m : Str → Option Value} {t : Addr} {i j : Int} {t1 t2 : Tok} {Q : Value → Shared → Prop},
  env.scope.kind = .function → env.kindOf y = some .local → s.heap.Ns env.locals m → m y = some (.ref t) → IsTup s.heap t #[.int i t1, .int j t2] →
  (∀ tk tq, Q (.ref s.heap.objs.size) { s with heap := s.heap.push { cls := .type "tuple", data := .seq #[.int i t1, .int (-j) tq] }, toks := tk }) → wpAny (model prog w) A (eval body env) Q E s
theorem keyB_neg {prog : Program} {w : World} {y : Str} {k1 k2 x1 : Nat} {p1 p2 p3 p4 p5 p6 p7 p8 : Pos} (hd : (y == ("__debug__" : Str)) = false) :
    KeyB prog w y (.Tuple [.Subscript (.Name y p1) (.Constant (.int 0) k1 p2) p3, .UnaryOp .USub (.Subscript (.Name y p4) (.Constant (.int 1) k2 p5) p6) p7] x1 p8) :=
  ⟨fun hk hl hn hm ht h => key_body hk hl hn hm hd ht h⟩
theorem keyB_sub {prog : Program} {w : World} {y : Str} {k0 k1 k2 x1 : Nat} {p0 p1 p2 p3 p4 p5 p6 p7 p8 : Pos} (hd : (y == ("__debug__" : Str)) = false) :
    KeyB prog w y (.Tuple [.Subscript (.Name y p1) (.Constant (.int 0) k1 p2) p3, .BinOp (.Constant (.int 0) k0 p0) .Sub (.Subscript (.Name y p4) (.Constant (.int 1) k2 p5) p6) p7] x1 p8) := by
  constructor
  intro A E s env m t i j t1 t2 Q hk hl hn hm ht h
  refine wpAny_Tuple_spliced (Calls.spliced_cons ?_)
  show wpAny _ _ (eval (.Subscript (.Name y p1) (.Constant (.int 0) k1 p2) p3) env) _ _ s
  refine key_item (j := 0) hk hl hn hm hd ht rfl (by simp) (by omega) rfl (Calls.spliced_cons ?_)
  show wpAny _ _ (eval (.BinOp (.Constant (.int 0) k0 p0) .Sub (.Subscript (.Name y p4) (.Constant (.int 1) k2 p5) p6) p7) env) _ _ _
  refine wpAny_BinOp (wpAny_Constant_int ?_)
  refine key_item (j := 1) hk hl hn hm hd ht rfl (by simp) (by omega) rfl ?_
  refine PyProof.Rows.sub_int (Calls.spliced_nil ⟨by rw [sizeLine_eq]; simp, ?_⟩)
  rw [Int.zero_sub]
  exact h _ _
section
variable {prog : Program} {w : World} {A : Around} {E : Value → Shared → Prop}
theorem key_callG {s : Shared} {x nm : Str} {params : Arguments} {scope : Scope} {f c' t : Addr} {cl : List (Str × Addr)} {pm ctv : Value} {i j : Int} {t1 t2 : Tok}{body : Expr} (KB : KeyB prog w x body)
    (room : A.depth < recursionLimit) (lim : s.heap.NoLimit) (hco : scope.isCoroutine = false) (hgen : scope.isGenerator = false) (hk : scope.kind = .function) (hl : scope.names.lookup x = some .local) (hnc : ∀ y ∈ scope.names, y.2 ≠ .cell) (hd : (x == ("__debug__" : Str)) = false)
    (ho : s.heap.get? f = some (PySem.W.kla_obj "<lambda>" nm params body scope cl pm c' ctv))
    (hc : s.heap.CodeRec (.ref c') nm) (hbind : ∀ u, bindArgs (PySem.W.kla_fn "<lambda>" nm params body scope cl pm (.ref c') ctv) ⟨[u], []⟩ = pure [(x, u)])
    (ht : IsTup s.heap t #[.int i t1, .int j t2]) : wpAny (model prog w) A (call (.ref f) [.ref t]) (PySem.W.KeyPure (.tuple [.int i, .int (-j)]) s) (fun _ _ => False) s := by
  refine wpAny_call ?_
  apply PySem.W.kla_callFunE room ho rfl hco hgen rfl hc
  rw [hbind]
  refine wpAny_pure ?_
  refine wpAny_newFunctionEnv hnc (fun y hy => ?_) (fun h1 ns sm => ?_) hk
  · rw [List.mem_singleton.mp hy]; exact hl
  have keep : ∀ b o, s.heap.get? b = some o → h1.get? b = some o := fun b o e => by rw [sm.2 b (Nat.ne_of_lt (Heap.lt_size e))]; exact Heap.get?_push_of_some _ e
  refine ⟨lim.keeps keep, ?_⟩
  apply PySem.W.kla_codeExpr
  have ht1 : IsTup h1 t #[.int i t1, .int j t2] := by
    obtain ⟨o, g1, g2, g3⟩ := ht
    exact ⟨o, keep _ _ g1, g2, g3⟩
  refine KB.run (m := fun y => [(x, Value.ref t)].reverse.lookup y) (by exact hk) (by exact hl) ns (by simp) ht1 fun tk tq => ?_
  refine ⟨_, _, rfl, fun b o e => Heap.get?_push_of_some _ (keep b o e), ?_⟩
  refine .tuple (Heap.get?_push_size _ rfl) rfl rfl ?_
  exact .cons (.int _ _) (.cons (.int _ _) .nil)
end
def tSortKL (im : Addr → Bool) (K : PySem.W.Frag) (P : Addr) (nm : Str) (te : TE) : TE := fun σ H Q => te σ H fun v H1 => TabS H1 P nm ∧ ∃ ps : List (Int × Int), Rep K im H1 v (.lst (ps.map intP)) ∧
  ∀ (p : Addr) (zs : List V) (H2 : Hp), ExP P H1 H2 → TabS H2 P nm → H1 p = none → p ≠ P → H2 p = some (.lst zs) → RepL K im H2 zs ((sortK ps).map intP) → Q (.ref p) H2
section
variable {X : Cx} {im : Addr → Bool}
theorem pe_sortKL {c P : Addr} {nm x y z0 : Str} {pz : Pos} {te : TE} {params : Arguments} {scope : Scope} {k : Nat} {body : Expr} {p pos lpos kp : Pos} (KB : KeyB X.prog X.w y body)
    (he0 : PE X (.Name z0 pz) te) (hg : Gl X x) (hm : X.mg x = none) (hv : bootBuiltins x = some (.builtin "sorted")) (TB : TabB X.base X.mg c P) (hcode : X.env.code = .ref c) (en : X.env.qual ++ "<lambda>" = nm) (hr : Room k X.A) (hcalm : X.calm = true)
    (hco : scope.isCoroutine = false) (hgen : scope.isGenerator = false) (hk : scope.kind = .function) (hnames : scope.names = [(y, .local)]) (hd : (y == ("__debug__" : Str)) = false) (hdef : defaultsOf params X.env = ([], []))
    (hbind : ∀ (cl : List (Str × Addr)) (pm cv ctv u : Value), bindArgs (PySem.W.kla_fn "<lambda>" nm params body scope cl pm cv ctv) ⟨[u], []⟩ = pure [(y, u)])
    (hn : x ≠ "__name__" := by decide) (hdb : (x == ("__debug__" : Str)) = false := by decide) :
    PE X (.Call (.Name x p) [.Name z0 pz] [⟨some (Str.ofString "key"), .Lambda params body scope lpos, kp⟩] pos) (tSortKL im X.K P nm te) := by
  refine ⟨fun pins s σ H Q I h => ?_⟩
  refine wpAny_Call_Name_kw (ld_blt I hg hm hv ?_ hn hdb)
  have pa : PA X [.Name z0 pz] (tCons te tNil) := pa_cons he0 pa_nil
  refine PyProof.Rows.callWith_kw (thn (pa.run pos pins s σ H (fun vs H1 => match vs with | [v] => TabS H1 P nm ∧ ∃ ps : List (Int × Int), Rep X.K im H1 v (.lst (ps.map intP)) ∧ ∀ (p : Addr) (zs : List V) (H2 : Hp), ExP P H1 H2 → TabS H2 P nm → H1 p = none → p ≠ P → H2 p = some (.lst zs) → RepL X.K im H2 zs ((sortK ps).map intP) → Q (.ref p) H2 | _ => False) I ?_) fun us s1 ⟨vs, H1, I1, r1, q0⟩ => ?_) rfl rfl rfl rfl
  · exact h
  obtain ⟨v, rfl, tab, ps, rep, q⟩ : ∃ v, vs = [v] ∧ TabS H1 P nm ∧ ∃ ps : List (Int × Int), Rep X.K im H1 v (.lst (ps.map intP)) ∧ ∀ (p : Addr) (zs : List V) (H2 : Hp), ExP P H1 H2 → TabS H2 P nm → H1 p = none → p ≠ P → H2 p = some (.lst zs) → RepL X.K im H2 zs ((sortK ps).map intP) → Q (.ref p) H2 := by
    match vs, q0 with
    | [v], q0 => exact ⟨v, rfl, q0⟩
  obtain ⟨u, rfl, ru⟩ := vals1 r1
  refine PyProof.Rows.kws_cons (lam_mk I1 TB hcode en tab hdef (fun z hz hf => ?_) ?_)
  · rw [hnames] at hz
    rw [List.mem_singleton.mp hz] at hf
    cases hf
  intro f c' pm ctv H2 s2 I2 ext tab2 M
  refine PyProof.Rows.kws_nil ?_
  show wpAny _ _ (call (.builtin "sorted") [u] [(Str.ofString "key", .ref f)]) _ _ s2
  cases rep with
  | @lst a vs _ h1 h2 =>
    cases ru
    have h1' : SqZ H2 a vs := by
      obtain ⟨o, g⟩ := h1
      refine ⟨o, ext _ _ g fun z => ?_⟩
      obtain ⟨tb0, g2, _⟩ := tab
      rw [z, g2] at g
      cases g
    have up : Sb im H1 H2 := fun b o e st => ext b o e fun z => by
      obtain ⟨tb0, g2, _⟩ := tab
      rw [z, g2] at e
      cases e
      exact st
    have h3 := h2.up up
    obtain ⟨hz, its, n, rv, hl, hheap⟩ := Inv.zlst I2 h1'
    have hlen : vs.length = ps.length := by rw [h2.length, List.length_map]
    obtain ⟨_, oc, flds, tq, hcc, at1, at2, at3⟩ : ∃ (b : Addr) (oc : Obj) (flds : Array Value) (tq : Tok), b = c' ∧ s2.heap.get? c' = some oc ∧ oc.data = .fields flds ∧ flds[1]? = some (.str nm tq) := by
      obtain ⟨⟨oc, flds, tq, a1, a2, a3⟩, _⟩ := I2.hok c' _ M.co
      exact ⟨c', oc, flds, tq, rfl, a1, a2, a3⟩
    refine PySem.W.sorted_key_data (b := false) (β := Int × Int) (bs := ps) (vs := its) (R := fun (u : Value) (q : Int × Int) => ∃ y : V, RelV y u ∧ Rep X.K im H2 y (intP q)) (fun q => .tuple [.int q.1, .int (-q.2)]) ?_ (reps_each rv h3) (PySem.W.AllAlike.of fun _ _ => by simp [PySem.W.alike, PySem.W.alikeAll]) (PySem.W.Sortable.tuples fun _ => ⟨_, _, rfl⟩) (by omega) (fun q _ => ?_) (ksk_s1 _ _) (fun _ => ksk_l1 _ _) (fun _ => ksk_t1 _ _) ?_ ?_
    · exact ⟨_, hheap, rfl, n, rfl⟩
    · have hd1 : (PyData.tuple [.int q.1, .int (-q.2)]).depth = 1 := by simp [PyData.depth, PyData.depthAll]
      have := hr.un
      omega
    · rintro u q ⟨y', ry, rq⟩ hq h' tk kpH
      cases rq with
      | @tup t us _ g1 g2 =>
        cases g2 with
        | cons g3 g4 =>
          cases g4 with
          | cons g5 g6 =>
            cases g6
            cases g3
            cases g5
            cases ry
            obtain ⟨_, its2, r2, o, ho, hc, n2, hdd⟩ := I2.hok _ _ g1
            obtain ⟨u1, u2, rfl, ri, rj⟩ := vals2 r2
            obtain ⟨t1, rfl⟩ := ri
            obtain ⟨t2, rfl⟩ := rj
            refine key_callG (KB := KB) (s := { s2 with heap := h', toks := tk }) (x := y) (nm := nm) (f := f) (c' := c') (room := ?_) (lim := (I2.nolimit).keeps kpH) hco hgen hk (by rw [hnames]; simp) (fun z hz => ?_) hd (kpH _ _ M.obj) ⟨c', oc, flds, tq, rfl, kpH _ _ at1, at2, at3⟩ (hbind _ _ _ _) ⟨o, kpH _ _ ho, hc, n2, hdd⟩
            · exact hr.depth
            · rw [hnames] at hz
              rw [List.mem_singleton.mp hz]
              intro w; cases w
    · intro out cc h' tk kpH hnew hD hol eo
      have eo2 : PySem.W.EachIs (fun (u : Value) (q : Int × Int) => ∃ y : V, RelV y u ∧ Rep X.K im H2 y (intP q)) out (sortK ps) := by
        have e1 := PySem.W.dataLe_ii (β := Int × Int) (fun q => q.1) (fun q => -q.2)
        have e2 : (fun p q : Int × Int => decide (p.1 < q.1 ∨ (p.1 = q.1 ∧ -p.2 ≤ -q.2))) = leK := rfl
        rw [e1, e2, sortK_merge] at eo
        exact eo
      obtain ⟨zs, v1, v2⟩ := each_reps eo2
      have fr : H2 (s2.heap.objs.size + 1) = none := I2.hok.fresh (Nat.le_succ _)
      have J := I2.laid (t' := tk) kpH (a := s2.heap.objs.size + 1) (o := .lst zs) (Nat.le_succ _) ⟨by rw [v1.length, hol]; omega, out, cc, v1, hD⟩
      have p1 : H1 (s2.heap.objs.size + 1) = none := by
        cases e : H1 (s2.heap.objs.size + 1) with
        | none => rfl
        | some o =>
          have := ext _ _ e fun z => by
            obtain ⟨tb0, g2, _⟩ := tab2
            rw [← z, fr] at g2
            cases g2
          rw [fr] at this
          cases this
      have pP : s2.heap.objs.size + 1 ≠ P := fun z => by
        obtain ⟨tb0, g2, _⟩ := tab2
        rw [← z, fr] at g2
        cases g2
      have sm : Same H2 (upd H2 (s2.heap.objs.size + 1) (.lst zs)) := Same.new fr
      exact ⟨.ref _, _, J, rfl, q _ zs _ (fun b o e ne => sm _ _ (ext b o e ne)) (tab2.ext sm) p1 pP upd_same (v2.up (.of sm))⟩
end
section
variable {im : Addr → Bool} {Ω : Type} {G : Gam im Ω} {K : PySem.W.Frag} {W : WX} {te : TE} {Fe : E Ω D} {P : Addr} {nm : Str}
def sortKLD : D → Option (List D)
  | .lst xs => (prsI xs).map fun ps => (sortK ps).map intP
  | _ => none
def eSortKL (Fe : E Ω D) : E Ω (List D) := fun τ ω => (Fe τ ω).bind fun d ω1 => R.ofO (sortKLD d) ω1
theorem dl_sortK (HT : HasT G P nm) (he : DE G K W te Fe) : DL G K W (tSortKL im K P nm te) (eSortKL Fe) := by
  intro H0 σ H ω τ s t Q h
  refine he H0 σ H ω τ s t _ (Res.imp (Res.bind h) (fun x ω1 H1 k1 t1 h1 v r => ?_) fun _ _ _ _ _ q => q)
  have h3 := h1
  cases x with
  | lst ds =>
    cases e : prsI ds with
    | none =>
      have e2 : sortKLD (.lst ds) = none := by unfold sortKLD; dsimp only; rw [e]; rfl
      rw [e2] at h3
      exact h3.elim
    | some ps =>
      have e2 : sortKLD (.lst ds) = some ((sortK ps).map intP) := by unfold sortKLD; dsimp only; rw [e]; rfl
      rw [e2] at h3
      obtain rfl := prsI_of e
      refine ⟨HT.tab t1, ps, r, fun p zs H2 ext tab2 n1 nP hp r2 => ?_⟩
      have k2 : Kp G H1 H2 := fun b o eb nf => ext b o eb fun z => nf (z ▸ HT.fp)
      refine h3 H2 (k1.trans k2) (HT.ext t1 ext tab2) p zs ?_ hp r2
      cases e3 : H p with
      | none => rfl
      | some o =>
        by_cases f : G.FP p
        · exact absurd n1 (G.trk t1 p f)
        · have := k1 p o e3 f
          rw [n1] at this
          cases this
  | _ => exact h3.elim
end
end DL
namespace DL
open PySem PySem.Spec PyProof.Rows L2 LamX
def spTbL (K : PySem.W.Frag) (im : Addr → Bool) (P : Addr) (nm : Str) (n : Nat) (F : List D → R Unit (List D)) : Sp := fun vs H Q Ex => vs.length = n ∧ TabS H P nm ∧ ∃ ds, RepL K im H vs ds ∧ (match F ds with
  | .ok xs _ => ∀ p zs H', ExP P H H' → TabS H' P nm → H p = none → p ≠ P → H' p = some (.lst zs) → RepL K im H' zs xs → Q (.ref p) H'
  | _ => False)
section
variable {im : Addr → Bool} {K : PySem.W.Frag} {Ω : Type} {G : Gam im Ω} {W : WX} {tr : TA} {Fr : E Ω (List D)} {P : Addr} {nm : Str}
theorem dl_TL {n : Nat} {F : List D → R Unit (List D)} (HT : HasT G P nm) (hr : DA G K W tr Fr) (hn : AN Fr n) : DL G K W (tCall (spTbL K im P nm n F) [] E0 tr) (cL F Fr) := by
  intro H0 σ H ω τ s t Q h
  have hr' := hr H0 σ H ω τ s t
  unfold cL at h
  cases e0 : Fr τ ω with
  | ok xs ω1 =>
    have hl := hn τ ω xs ω1 e0
    rw [e0] at h hr'
    refine hr' _ fun H1 k1 t1 vs r => ?_
    have h1 : Res G (nox (lift (F xs) ω1)) H _ (kX G K W σ) := h
    refine ⟨by rw [List.append_nil, r.length, hl], HT.tab t1, xs, by rw [List.append_nil]; exact r, ?_⟩
    cases e : F xs with
    | ok d u =>
      rw [e] at h1
      refine fun p zs H' ext tab hp nP hz rv => h1 H' (k1.trans fun b o eb nf => ext b o eb fun z => nf (z ▸ HT.fp)) (HT.ext t1 ext tab) p zs ?_ hz rv
      cases e2 : H p with
      | none => rfl
      | some o =>
        by_cases f : G.FP p
        · exact absurd hp (G.trk t1 p f)
        · rw [k1 p o e2 f] at hp; cases hp
    | ex x u => rw [e] at h1; exact h1.elim
    | no => rw [e] at h1; exact h1.elim
  | ex x ω1 => rw [e0] at h hr'; exact hr' _ h
  | no => rw [e0] at h; exact h.elim
end
section
variable {im : Addr → Bool} {Pg : Program} {w : World} {K : PySem.W.Frag} {mg : Str → Option Value} {base : Heap} {P : Addr} {nm : Str}
theorem fn_TLx {x qual : Str} {st : Stmt} {f : Addr} {fd : FuncData} {N ps : List Str} {k k' j : Nat} {F : SL Unit} {F' : List D → R Unit (List D)} (Fn : Fun K x qual st f fd) (Sc : FnScope N ps (defScope st))
    (ek : k' = k + 1) (ej : j = ps.length) (eF : F' = fun ds => runL F (startT N.length (ds.map .d)) ())
    (hb : ∀ (cdv : Value) (A : Around) (outer : List Env) (s : Shared) (H : Hp) (Ex : XK), fd.code = cdv → Room k (A.deeper (envOfC qual (defScope st) s.heap.objs.size f cdv)) →
      ∃ t, PSs (cxOf CX0 Pg w K mg base N qual (defScope st) f cdv A outer s H Ex).nox (defBody st) t ∧ DSL (tabG im P nm) K t F) :
    FnOk Pg w K mg base CX0 k' f fd ps (spTbL K im P nm j F') := by
  subst ek ej eF
  refine fun_okC Fn Sc (fun vs H Q Ex h => h.1) fun cdv A outer s H vs Q Ex ec hr h => ?_
  obtain ⟨hl, tab, ds, r, h⟩ := h
  obtain ⟨t, ht, hd⟩ := hb cdv A outer s H Ex ec hr
  refine ⟨t, ht, ?_⟩
  have st : STT (tabG im P nm) K H H (start N vs) (startT N.length (ds.map .d)) := stt_start (by rw [List.length_map, r.length]) (fun i v c e1 e2 => by
    rw [List.getElem?_map] at e2
    cases q : ds[i]? with
    | none => rw [q] at e2; cases e2
    | some d =>
      rw [q] at e2; cases e2
      obtain ⟨v', e3, r'⟩ := r.get q
      rw [e1] at e3; cases e3
      exact .d r') (fun c hc _ xs e => by
    obtain ⟨d, _, rfl⟩ := List.mem_map.mp hc
    cases e) _
  refine hd H (start N vs) H () _ st tab _ ?_
  unfold runL at h
  dsimp only at h
  cases q : F (startT N.length (ds.map .d)) () with
  | none => rw [q] at h; exact h.elim
  | some p =>
    obtain ⟨ds', ω'⟩ := p
    rw [q] at h
    exact fun p zs H' _ k t h0 nf h1 r => h p zs H' (fun b o e n => k b o e n) t h0 nf h1 r
end
section
variable {im : Addr → Bool}
theorem tabS_ext {H H1 : Hp} {P P2 : Addr} {nm nm2 : Str} (t2 : TabS H P2 nm2) (tt : TabS H P nm) (ne : P2 ≠ P) (ext : ExP P H H1) : TabS H1 P2 nm2 := by
  obtain ⟨ps, h1, h2, h3⟩ := t2
  refine ⟨ps, ext _ _ h1 ne, h2, fun pos cv hc => ?_⟩
  obtain ⟨c, e1, e2⟩ := h3 pos cv hc
  refine ⟨c, e1, ext _ _ e2 fun z => ?_⟩
  obtain ⟨qs, g, _⟩ := tt
  rw [z, g] at e2
  unfold CodeO at e2
  cases e2
def srcTT (im : Addr → Bool) (P : Addr) (nm : Str) (P2 : Addr) (nm2 : Str) (p : Addr × Addr) : Gam im Src where
  At := fun ω H => (srcG im p).At ω H ∧ TabS H P nm ∧ TabS H P2 nm2 ∧ P ≠ P2
  FP := fun b => (srcG im p).FP b ∨ b = P ∨ b = P2
  obj := .ref p.1
  keep := fun ⟨h1, h2, h3, ne⟩ k sb => ⟨(srcG im p).keep h1 (fun b o f e => k b o (.inl f) e) sb, tabS_keep h2 (fun o e => k _ o (.inr (.inl rfl)) e) sb, tabS_keep h3 (fun o e => k _ o (.inr (.inr rfl)) e) sb, ne⟩
  nost := fun ⟨h1, h2, h3, _⟩ b o f e s => by
    rcases f with f | rfl | rfl
    · exact (srcG im p).nost h1 b o f e s
    · obtain ⟨ps, q, _⟩ := h2
      rw [q] at e
      cases e
      exact s
    · obtain ⟨ps, q, _⟩ := h3
      rw [q] at e
      cases e
      exact s
  trk := fun ⟨h1, h2, h3, _⟩ b f e => by
    rcases f with f | rfl | rfl
    · exact (srcG im p).trk h1 b f e
    · obtain ⟨ps, q, _⟩ := h2
      rw [q] at e
      cases e
    · obtain ⟨ps, q, _⟩ := h3
      rw [q] at e
      cases e
variable {P P2 : Addr} {nm nm2 : Str} {p : Addr × Addr}
theorem sub_srcTT : SubG (srcG im p) (srcTT im P nm P2 nm2 p) where
  obj := rfl
  down := fun h => h.1
  up := fun {ω ω' H H'} h k t => by
    obtain ⟨a, b⟩ := h.1
    have off : ∀ (Q : Addr) (n : Str), TabS H Q n → ¬ (srcG im p).FP Q := fun Q n ⟨ps, q, _⟩ f => by
      rcases f with f | f
      · rw [f, a] at q; cases q
      · rw [f, b] at q; cases q
    exact ⟨t, tabS_keep h.2.1 (fun o e => k _ o e (off _ _ h.2.1)) (k.sb h.1), tabS_keep h.2.2.1 (fun o e => k _ o e (off _ _ h.2.2.1)) (k.sb h.1), h.2.2.2⟩
  fp := .inl
theorem src_ext {H H1 : Hp} {ω : Src} {Q : Addr} {n : Str} (h : (srcG im p).At ω H) (t : TabS H Q n) (ext : ExP Q H H1) : (srcG im p).At ω H1 := by
  obtain ⟨h1, h2⟩ := h
  obtain ⟨ps, q, _⟩ := t
  refine ⟨ext _ _ h1 fun z => ?_, ext _ _ h2 fun z => ?_⟩
  · rw [z, q] at h1; cases h1
  · rw [z, q] at h2; cases h2
theorem srcTT_has : HasT (srcTT im P nm P2 nm2 p) P nm :=
  ⟨fun a => a.2.1, fun a ext t => ⟨src_ext a.1 a.2.1 ext, t, tabS_ext a.2.2.1 a.2.1 (Ne.symm a.2.2.2) ext, a.2.2.2⟩, .inr (.inl rfl)⟩
theorem srcTT_has2 : HasT (srcTT im P nm P2 nm2 p) P2 nm2 :=
  ⟨fun a => a.2.2.1, fun a ext t => ⟨src_ext a.1 a.2.2.1 ext, tabS_ext a.2.1 a.2.2.1 a.2.2.2 ext, t, a.2.2.2⟩, .inr (.inr rfl)⟩
end
section
variable {im : Addr → Bool} {Ω : Type} {G : Gam im Ω} {K : PySem.W.Frag} {t : TS} {Fu : SL Ω}
def lPre (i : Nat) (F : SL Ω) : SL Ω := fun τ ω => match τ[i]? with
  | some (some (.ow k xs)) => F (τ.set i (some (.d (k.fin xs)))) ω
  | _ => F τ ω
theorem dsl_pre (i : Nat) (h : DSL G K t Fu) : DSL G K (tPre i t) (lPre i Fu) := by
  intro H0 σ H ω τ s t' D ks
  unfold lPre at ks
  split at ks
  · rename_i k xs hx
    obtain ⟨l, vs, e, h1, r, _, _, hlen⟩ := s.getW hx
    refine .inr ⟨l, _, e, h1, k.mut vs, fun o => ?_⟩
    obtain ⟨s2, t2, sb⟩ := s.fzW t' hx e h1 r hlen o
    exact h H0 σ _ ω _ s2 t2 D (ks.mono sb)
  · exact .inl (h H0 σ H ω τ s t' D ks)
end
end DL
namespace DL
open PySem PySem.Spec PyProof.Rows L2 LamX
section
variable {P : Program} {w : World} {K : PySem.W.Frag} {mg mb : Str → Option Value} {k : Nat} {fa a c Pt c2 P2 : Addr} {fd : FuncData} {x : Str} {sp : Sp} {st : Shared} {vs : List Value} {ns : List Int}
theorem enter_atT2 {T : Hp} (inK : K.In st.heap) (gl : st.heap.Ns mainGlobals mg) (bi : st.heap.Ns builtinsNs mb) (bib : ∀ y : Str, y ≠ "__name__" → mb y = bootBuiltins y) (lim : st.heap.NoLimit) (calm : st.gens = #[])
    (emptyT : st.heap.get? Pt = some { cls := .none, data := .fields #[] }) (offK : K.lookup Pt = none) (hd : PySem.W.CodeHd st.heap c Pt)
    (emptyT2 : st.heap.get? P2 = some { cls := .none, data := .fields #[] }) (offK2 : K.lookup P2 = none) (hd2 : PySem.W.CodeHd st.heap c2 P2)
    (bmain : ∃ (bm : Addr) (ob : Obj), mg "__builtins__" = some (.ref bm) ∧ bm ≠ builtinsNs ∧ st.heap.get? bm = some ob ∧ ob.cls = .type "module" ∧ ob.dict = some builtinsNs ∧ ob.data = .plain)
    (scr : st.heap.get? a = some { cls := .type "list", data := .seq vs.toArray }) (room : Room k callerA) (F : ∀ base : Heap, K.In base → base.Ns mainGlobals mg → TabB base mg c Pt → TabB base mg c2 P2 → GOk P w K mg base k fa fd [x] sp)
    (bind : ∀ (s : Shared) (u : Value), BindsTo s fd ⟨[u], []⟩ [(x, u)]) (isT : T Pt = some (.tbl #[])) (isT2 : T P2 = some (.tbl #[])) (only : ∀ b, T b = none ∨ b = Pt ∨ b = P2 ∨ ∃ o xs, T b = some (.frz o (.lst xs))) (tracked : HOk P w T st.heap) (alone : ∀ b, T b ≠ none → b = a ∨ b = Pt ∨ b = P2) (apart : T a ≠ none → K.lookup a = none)
    (want : sp [.ref a] T (fun v _ => v = .bl true) fun _ _ _ => False) :
    codeAny (model P w) callerA (.call (.ref fa) ⟨[.ref a], []⟩) (fun r s' => r = .ok (.ret (.bool true)) ∧ OldK st.heap s'.heap ∧ s'.os = st.os ∧ AllBare s'.gens) st := by
  -- what is no list and no empty table is not tracked
  have plain : ∀ {b : Addr} {o : Obj}, st.heap.get? b = some o → (∀ vs n, o.data ≠ .seq vs n) → o.data ≠ .fields #[] → T b = none := by
    intro b o there h1 h2
    apply Classical.byContradiction
    intro some'
    rcases alone b some' with rfl | rfl | rfl
    · rw [scr] at there
      cases there
      exact h1 _ _ rfl
    · rw [emptyT] at there
      cases there
      exact h2 rfl
    · rw [emptyT2] at there
      cases there
      exact h2 rfl
  have plainD : ∀ {b : Addr} {o : Obj} {es : Array DictEntry} {n : Nat}, st.heap.get? b = some o → o.data = .dict es n → T b = none := by
    intro b o es n there dict
    refine plain there (fun vs n z => ?_) (fun z => ?_)
    · rw [dict] at z; cases z
    · rw [dict] at z; cases z
  have names : ∀ {b : Addr} {m : Str → Option Value}, st.heap.Ns b m → (hidT st.heap T).Ns b m := by
    rintro b m ⟨o, es, n, there, dict, rest⟩
    exact ⟨o, es, n, hidT_get there (plainD there dict), dict, rest⟩
  have ground : K.In (hidT st.heap T) := by
    intro b o found
    apply hidT_get (inK b o found)
    apply Classical.byContradiction
    intro some'
    rcases alone b some' with rfl | rfl | rfl
    · rw [apart some'] at found
      cases found
    · rw [offK] at found
      cases found
    · rw [offK2] at found
      cases found
  obtain ⟨mc, lim1, lim2⟩ := lim
  have env : Env0 P w K mg (hidT st.heap T) callerA [] st T :=
    ⟨rfl, ⟨ground, names gl, ⟨mb, names bi, bib⟩, ⟨mc, names lim1, lim2⟩⟩, fun _ _ e => of_hidT e, Nat.le_of_eq (hidT_size _ _), trivial, fun b hb => (nomatch hb), tracked, .of_eq calm⟩
  have TB : ∀ {c Pt : Addr}, st.heap.get? Pt = some { cls := .none, data := .fields #[] } → PySem.W.CodeHd st.heap c Pt → TabB (hidT st.heap T) mg c Pt := by
    intro c Pt emptyT hd
    constructor
    · obtain ⟨o, us, file, tf, flags, tg, inF, text, tt, there, rest⟩ := hd
      refine ⟨o, us, file, tf, flags, tg, inF, text, tt, hidT_get there (plain there (fun vs n z => ?_) fun z => ?_), rest⟩
      · rw [rest.2.1] at z; cases z
      · have g := rest.2.2.1
        rw [rest.2.1] at z
        cases z
        simp at g
    · obtain ⟨bm, ob, g1, g2, g3, g4, g5, g6⟩ := bmain
      have nG : bm ≠ mainGlobals := by
        intro q
        obtain ⟨o, es, ep, e, dd, _⟩ := gl
        rw [q, e] at g3
        cases g3
        rw [dd] at g6
        cases g6
      have nP : bm ≠ Pt := by
        intro q
        rw [q, emptyT] at g3
        cases g3
        cases g6
      refine ⟨bm, ob, g1, g2, nG, nP, hidT_get g3 (plain g3 (fun vs n z => ?_) fun z => ?_), g4, g5, g6⟩
      · rw [g6] at z; cases z
      · rw [g6] at z; cases z
    · intro q
      obtain ⟨o, es, ep, e, dd, _⟩ := gl
      rw [q, emptyT] at e
      cases e
      cases dd
  refine codeAny_mono ((F _ ground (names gl) (TB emptyT hd) (TB emptyT2 hd2)).enter callerA [] st T ⟨[.ref a], []⟩ [.ref a] [V.ref a] _ _ rfl room env (bind st _) (.cons rfl .nil) want) ?_
  intro r s' out
  match r, out with
  | .error _, out => exact out.elim
  | .ok .next, out => exact out.elim
  | .ok .brk, out => exact out.elim
  | .ok .cont, out => exact out.elim
  | .ok (.ret u), ⟨v, T', sameOs, bare, un, after, rel, yes⟩ =>
    cases yes
    cases rel
    have stay : ∀ b o, b ≠ Pt → b ≠ P2 → st.heap.get? b = some o → s'.heap.get? b = some o := by
      intro b o nb nb2 there
      cases tb : T b with
      | none => exact un.keep b o there tb (fun z => by cases z) (fun z => by cases z)
      | some h =>
        rcases only b with z | z | z | ⟨ob, xs, z⟩
        · rw [tb] at z; cases z
        · exact absurd z nb
        · exact absurd z nb2
        · have was := (tracked b _ z).1
          have is := (after b _ (un.frzs b ob _ z)).1
          rw [there] at was
          cases was
          exact is
    have grew : ∀ Pt : Addr, T Pt = some (.tbl #[]) → ∃ more : Array Value, s'.heap.get? Pt = some { cls := .none, data := .fields more } := by
      intro Pt isT
      obtain ⟨more, z⟩ := un.tbls Pt #[] isT
      exact ⟨_, after Pt _ z⟩
    obtain ⟨more, grown⟩ := grew Pt isT
    obtain ⟨more2, grown2⟩ := grew P2 isT2
    refine ⟨rfl, ⟨fun b o e => ?_, fun b o e => ?_⟩, sameOs, bare⟩
    · by_cases hb : b = Pt
      · subst hb
        rw [emptyT] at e
        cases e
        exact .inr (.inl ⟨(hd.tab emptyT).isCodeTable, rfl, #[], more, rfl, by rw [Array.empty_append]; exact grown⟩)
      · by_cases hb2 : b = P2
        · subst hb2
          rw [emptyT2] at e
          cases e
          exact .inr (.inl ⟨(hd2.tab emptyT2).isCodeTable, rfl, #[], more2, rfl, by rw [Array.empty_append]; exact grown2⟩)
        · exact .inl (stay b o hb hb2 e)
    · by_cases hb : b = Pt
      · subst hb
        exact ⟨_, grown⟩
      · by_cases hb2 : b = P2
        · subst hb2
          exact ⟨_, grown2⟩
        · exact ⟨o, stay b o hb hb2 e⟩
theorem law_enterT2 (inK : K.In st.heap) (gl : st.heap.Ns mainGlobals mg) (bi : st.heap.Ns builtinsNs mb) (bib : ∀ y : Str, y ≠ "__name__" → mb y = bootBuiltins y) (lim : st.heap.NoLimit) (calm : st.gens = #[])
    (emptyT : st.heap.get? Pt = some { cls := .none, data := .fields #[] }) (offK : K.lookup Pt = none) (hd : PySem.W.CodeHd st.heap c Pt)
    (emptyT2 : st.heap.get? P2 = some { cls := .none, data := .fields #[] }) (offK2 : K.lookup P2 = none) (hd2 : PySem.W.CodeHd st.heap c2 P2) (nePP : Pt ≠ P2)
    (bmain : ∃ (bm : Addr) (ob : Obj), mg "__builtins__" = some (.ref bm) ∧ bm ≠ builtinsNs ∧ st.heap.get? bm = some ob ∧ ob.cls = .type "module" ∧ ob.dict = some builtinsNs ∧ ob.data = .plain)
    (scr : st.heap.get? a = some { cls := .type "list", data := .seq vs.toArray }) (nums : IntsAre vs ns) (short : ns.length ≤ sizeLine) (room : Room k callerA) (F : ∀ base : Heap, K.In base → base.Ns mainGlobals mg → TabB base mg c Pt → TabB base mg c2 P2 → GOk P w K mg base k fa fd [x] sp)
    (bind : ∀ (s : Shared) (u : Value), BindsTo s fd ⟨[u], []⟩ [(x, u)]) (want : ∀ H : Hp, H Pt = some (.tbl #[]) → H P2 = some (.tbl #[]) → SqL K H a (ns.map V.int) → sp [.ref a] H (fun v _ => v = .bl true) fun _ _ _ => False) :
    codeAny (model P w) callerA (.call (.ref fa) ⟨[.ref a], []⟩) (fun r s' => r = .ok (.ret (.bool true)) ∧ OldK st.heap s'.heap ∧ s'.os = st.os ∧ AllBare s'.gens) st := by
  have rels := vals_ints nums
  have many := nums.length
  have aN : ∀ Q : Addr, st.heap.get? Q = some { cls := .none, data := .fields #[] } → a ≠ Q := by
    intro Q eQ q
    rw [q, eQ] at scr
    have z : Data.fields #[] = Data.seq vs.toArray _ := congrArg Obj.data (Option.some.inj scr)
    cases z
  have aP := aN Pt emptyT
  have aP2 := aN P2 emptyT2
  cases own : K.lookup a with
  | some o =>
    have there := inK a o own
    rw [scr] at there
    cases there
    let T : Hp := fun b => if b = Pt then some (.tbl #[]) else if b = P2 then some (.tbl #[]) else none
    have at_P : T Pt = some (.tbl #[]) := if_pos rfl
    have at_P2 : T P2 = some (.tbl #[]) := (if_neg (Ne.symm nePP)).trans (if_pos rfl)
    have off : ∀ b, b ≠ Pt → b ≠ P2 → T b = none := fun b h h2 => (if_neg h).trans (if_neg h2)
    refine enter_atT2 (T := T) inK gl bi bib lim calm emptyT offK hd emptyT2 offK2 hd2 bmain scr room F bind at_P at_P2 (fun b => ?_) (fun b u z => ?_) (fun b z => ?_) (fun z => absurd (off a aP aP2) z) (want T at_P at_P2 (.inr ⟨_, vs.toArray, _, own, rfl, rfl, rfl, by rw [List.size_toArray, many]; exact short, by simpa using rels⟩))
    · by_cases h : b = Pt
      · exact .inr (.inl h)
      · by_cases h2 : b = P2
        · exact .inr (.inr (.inl h2))
        · exact .inl (off b h h2)
    · by_cases h : b = Pt
      · subst h
        rw [at_P] at z
        cases z
        exact emptyT
      · by_cases h2 : b = P2
        · subst h2
          rw [at_P2] at z
          cases z
          exact emptyT2
        · rw [off b h h2] at z; cases z
    · by_cases h : b = Pt
      · exact .inr (.inl h)
      · by_cases h2 : b = P2
        · exact .inr (.inr h2)
        · exact absurd (off b h h2) z
  | none =>
    let T : Hp := fun b => if b = a then some (.frz { cls := .type "list", data := .seq vs.toArray } (.lst (ns.map V.int))) else if b = Pt then some (.tbl #[]) else if b = P2 then some (.tbl #[]) else none
    have at_a : T a = some (.frz { cls := .type "list", data := .seq vs.toArray } (.lst (ns.map V.int))) := if_pos rfl
    have at_P : T Pt = some (.tbl #[]) := (if_neg (Ne.symm aP)).trans (if_pos rfl)
    have at_P2 : T P2 = some (.tbl #[]) := (if_neg (Ne.symm aP2)).trans ((if_neg (Ne.symm nePP)).trans (if_pos rfl))
    have off : ∀ b, b ≠ a → b ≠ Pt → b ≠ P2 → T b = none := fun b h h2 h3 => (if_neg h).trans ((if_neg h2).trans (if_neg h3))
    refine enter_atT2 (T := T) inK gl bi bib lim calm emptyT offK hd emptyT2 offK2 hd2 bmain scr room F bind at_P at_P2 (fun b => ?_) (fun b u z => ?_) (fun b z => ?_) (fun _ => own) (want T at_P at_P2 (.inl (.inr ⟨_, at_a⟩)))
    · by_cases h : b = a
      · subst h
        exact .inr (.inr (.inr ⟨_, _, at_a⟩))
      · by_cases h2 : b = Pt
        · exact .inr (.inl h2)
        · by_cases h3 : b = P2
          · exact .inr (.inr (.inl h3))
          · exact .inl (off b h h2 h3)
    · by_cases h : b = a
      · subst h
        rw [at_a] at z
        cases z
        exact ⟨scr, by rw [List.length_map]; exact short, vs, _, rels, scr⟩
      · by_cases h2 : b = Pt
        · subst h2
          rw [at_P] at z
          cases z
          exact emptyT
        · by_cases h3 : b = P2
          · subst h3
            rw [at_P2] at z
            cases z
            exact emptyT2
          · rw [off b h h2 h3] at z; cases z
    · by_cases h : b = a
      · exact .inl h
      · by_cases h2 : b = Pt
        · exact .inr (.inl h2)
        · by_cases h3 : b = P2
          · exact .inr (.inr h3)
          · exact absurd (off b h h2 h3) z
end
/-- the law's walk, with the tables of two other defs' code objects -/
theorem walk_gTT {l : PySem.W.OpenLaw} {n k : Nat} {q : Program} {loose : List Str} {XP : (Str → Option Value) → Heap → Prop} {YP : World → Heap → Prop} {d d' d2 : DefRec} {K : Params → PySem.W.Frag} {sp : World → Addr → Addr → Sp} {x y y2 : Str}
    (most : l.most = some n) (fits : n ≤ sizeLine) (bare : d.params.defaults = []) (room : Room k callerA) (inK : ∀ (w : World) (h : Heap), YP w h → (K w.params).In h) (rec : (recsOf q).find? (fun e => e.name == y) = some d') (rec2 : (recsOf q).find? (fun e => e.name == y2) = some d2)
    (F : ∀ (w : World) (mg : Str → Option Value) (fa : Addr) (h : Heap), (K w.params).In h → h.Ns mainGlobals mg → mg d.name = some (.ref fa) →
      ∃ (fd : FuncData) (c P c2 P2 : Addr), PySem.W.tabIn (K w.params) y = some (c, P) ∧ (K w.params).lookup P = none ∧ PySem.W.tabIn (K w.params) y2 = some (c2, P2) ∧ (K w.params).lookup P2 = none ∧ P ≠ P2 ∧ (∀ (s : Shared) (u : Value), BindsTo s fd ⟨[u], []⟩ [(x, u)]) ∧
        ∀ base : Heap, (K w.params).In base → base.Ns mainGlobals mg → TabB base mg c P → TabB base mg c2 P2 → GOk l.prog w (K w.params) mg base k fa fd [x] (sp w P P2))
    (want : ∀ (w : World) (H : Hp) (a P P2 : Addr) (ns : List Int), ns.length ≤ n → H P = some (.tbl #[]) → H P2 = some (.tbl #[]) → SqL (K w.params) H a (ns.map V.int) → P ≠ P2 → sp w P P2 [.ref a] H (fun v _ => v = .bl true) fun _ _ _ => False) :
    PySem.W.WalkO q loose XP YP l.row.toRowW d [] (fun f vs => PySem.call f vs) := by
  refine Att.attach_call most bare fun w s0 s1 mg mb fa o pm cd doc a vs ns G Y ho hd hcd hmg hobj hints hlen hg => ?_
  have KX := inK w _ Y
  obtain ⟨fd, c, P, c2, P2, tab, off, tab2, off2, ne, hb, hF⟩ := F w mg fa _ KX G.T.g hmg
  obtain ⟨code, empty⟩ := PySem.W.tab_of G.T KX rec tab
  obtain ⟨code2, empty2⟩ := PySem.W.tab_of G.T KX rec2 tab2
  exact law_enterT2 KX G.T.g G.T.b G.T.builtins G.T.nolimit hg empty off code empty2 off2 code2 ne G.T.bmain hobj hints (Nat.le_trans hlen fits) room hF hb fun H hO hO2 hS => want w H a P P2 ns hlen hO hO2 hS ne
end DL
namespace Lk
open PySem L2 DL
def topS (i : Nat) : Stmt := PySem.Challenge.pw_lumpplans_k23_all_lumps_listed.main.body.getD i (.Pass ⟨0, 0, 0, 0⟩)
abbrev s_wrong_shape_path : Stmt := topS 4
abbrev s_size_of : Stmt := topS 5
abbrev s_wrong_table_path : Stmt := topS 7
abbrev s_table_size : Stmt := topS 8
abbrev s_entry : Stmt := topS 9
abbrev s_stretches : Stmt := topS 11
abbrev s_note_parts : Stmt := topS 12
abbrev s_lump_parts : Stmt := topS 13
abbrev s_rounded_up : Stmt := topS 15
abbrev s_Plan_stage : Stmt := inClass (topS 26) 4
abbrev s_stages_used : Stmt := topS 16
abbrev s_tables_used : Stmt := topS 17
abbrev s_stretch_lumps : Stmt := topS 19
abbrev s_end_lumps : Stmt := topS 20
abbrev s_in_order : Stmt := topS 21
abbrev s_Plan_end : Stmt := inClass (topS 26) 3
abbrev s_all_lumps : Stmt := topS 22
abbrev s_first_wrong_table : Stmt := topS 24
abbrev s_wrong_plan_path : Stmt := topS 25
abbrev s_law_stage : Stmt := topS 28
abbrev s_law_rows : Stmt := topS 29
abbrev s_law_entry : Stmt := topS 30
abbrev s_law_size : Stmt := topS 31
abbrev s_law_lumps : Stmt := topS 32
abbrev s_law_source : Stmt := topS 33
abbrev s_law_pick : Stmt := topS 34
abbrev s_law_comb : Stmt := topS 35
abbrev s_law_halves : Stmt := topS 36
abbrev s_law_shape : Stmt := topS 37
abbrev s_law_any_table : Stmt := topS 38
abbrev s_law_of : Stmt := topS 39
abbrev s_Plan_init : Stmt := inClass (topS 26) 0
abbrev s_law_made : Stmt := topS 40
abbrev s_law_long_plan : Stmt := topS 41
abbrev s_law_filled : Stmt := topS 42
abbrev s_law_pressed : Stmt := topS 43
abbrev s_law_glue : Stmt := topS 44
abbrev s_law_table : Stmt := topS 45
abbrev s_law_plan : Stmt := topS 46
abbrev s_law_any_plan : Stmt := topS 47
abbrev s_law_told : Stmt := topS 48
abbrev s_law_wide_lumps : Stmt := topS 49
abbrev s_law : Stmt := topS 50
/-- the source's first state -/
def mixedOf (ns : List Int) : Int := ns.foldl (fun m c => (m * 69069 + c * 31 + 5) % 2147483629) 11
def srcOf (ns : List Int) : Src := { cells := ns.map fun i => if i < 0 then -i else i, left := 1, mixed := mixedOf ns, turn := 0 }
def spSource (K : PySem.W.Frag) (im : Addr → Bool) : Sp := fun vs H Q _ => ∃ (a : Addr) (ns : List Int), vs = [.ref a] ∧ SqL K H a (ns.map V.int) ∧ ns.length ≤ 100000 ∧
  ∀ p H', Same H H' → H p.1 = none → H p.2 = none → (srcG im p).At (srcOf ns) H' → Q (.ref p.1) H'
def B_wrong_shape_path (rec : List D → R Unit D) : S Unit :=
  (sSeq (sIf (bOr (bNot (eB (eUn (isiD "tuple") (eVar 0)))) (eB (eOp ninD (eCall (un1 lenD) (aCons (eVar 0) aNil)) (eTup (aCons (eC (.int 0)) (aCons (eC (.int 2)) aNil)))))) (sRet (eTup aNil)) sNx)
    (sSeq (sFor (iEn (eVar 0)) (bTup 2 (bCons (bName 1) (bCons (bName 2) bNil))) (sSeq (sAsg (cD rec (aCons (eVar 2) aNil)) (bName 3))
    (sIf (eB (eOp notND (eVar 3) (eC .non))) (sRet (eOp addD (eTup (aCons (eVar 1) aNil)) (eVar 3))) sNx)))
    (sRet (eC .non))))
def F_wrong_shape_path : Nat → List D → R Unit D
  | 0 => fun _ => .no
  | n + 1 => fun ds => nox (runS (B_wrong_shape_path (F_wrong_shape_path n)) (startT 4 (ds.map .d)) ())
def B_size_of (rec : List D → R Unit D) : S Unit :=
  (sSeq (sIf (eB (eOp eqD (eVar 0) (eTup aNil))) (sRet (eC (.int 1))) sNx)
    (sRet (eOp addD (cD rec (aCons (eOp ixD (eVar 0) (eC (.int 0))) aNil)) (cD rec (aCons (eOp ixD (eVar 0) (eC (.int 1))) aNil)))))
def F_size_of : Nat → List D → R Unit D
  | 0 => fun _ => .no
  | n + 1 => fun ds => nox (runS (B_size_of (F_size_of n)) (startT 1 (ds.map .d)) ())
def B_wrong_table_path : S Unit :=
  (sSeq (sIf (bOr (bNot (eB (eUn (isiD "tuple") (eVar 0)))) (eB (eOp eqD (eCall (un1 lenD) (aCons (eVar 0) aNil)) (eC (.int 0))))) (sRet (eTup aNil)) sNx)
    (sSeq (sFor (iEn (eVar 0)) (bTup 2 (bCons (bName 1) (bCons (bName 2) bNil))) (sSeq (sAsg (cD (F_wrong_shape_path 70) (aCons (eVar 2) aNil)) (bName 3))
    (sIf (eB (eOp notND (eVar 3) (eC .non))) (sRet (eOp addD (eTup (aCons (eVar 1) aNil)) (eVar 3))) sNx)))
    (sSeq (sFor (iEn (eVar 0)) (bTup 2 (bCons (bName 1) (bCons (bName 2) bNil))) (sIf (eB (eOp neD (cD (F_size_of 70) (aCons (eVar 2) aNil)) (eOp addD (eVar 1) (eC (.int 2))))) (sRet (eTup (aCons (eVar 1) aNil))) sNx))
    (sRet (eC .non)))))
def F_wrong_table_path : List D → R Unit D := fun ds => nox (runS B_wrong_table_path (startT 4 (ds.map .d)) ())
def B_table_size : S Unit :=
  (sRet (eOp addD (eCall (un1 lenD) (aCons (eVar 0) aNil)) (eC (.int 1))))
def F_table_size : List D → R Unit D := fun ds => nox (runS B_table_size (startT 1 (ds.map .d)) ())
def B_entry : S Unit :=
  (sSeq (sIf (eB (eOp eqD (eVar 1) (eC (.int 1)))) (sRet (eTup aNil)) sNx)
    (sRet (eOp ixD (eVar 0) (eOp subD (eVar 1) (eC (.int 2))))))
def F_entry : List D → R Unit D := fun ds => nox (runS B_entry (startT 2 (ds.map .d)) ())
def B_stretches : S Unit :=
  (sRet (eFrz (eLc [2] (iRg rg3 (aCons (eC (.int 0)) (aCons (eVar 0) (aCons (eVar 1) aNil)))) (bName 2) bYes (eTup (aCons (eVar 2) (aCons (eCall (bi2 min2D) (aCons (eOp addD (eVar 2) (eVar 1)) (aCons (eVar 0) aNil))) aNil))))))
def F_stretches : List D → R Unit D := fun ds => nox (runS B_stretches (startT 3 (ds.map .d)) ())
def B_note_parts (rec : List D → OW → R OW D) : S OW :=
  (sSeq (sAsg (eOp addD (eVar 1) (eC (.int 1))) (bName 3))
    (sSeq (sIf (eB (eOp neD (eVar 0) (eTup aNil))) (sSeq (sAsg (cW rec 2 (aCons (eOp ixD (eVar 0) (eC (.int 0))) (aCons (eVar 1) aNil))) (bName 4))
    (sAsg (cW rec 2 (aCons (eOp ixD (eVar 0) (eC (.int 1))) (aCons (eVar 4) aNil))) (bName 3))) sNx)
    (sSeq (sPutTs 2 (aCons (eVar 1) (aCons (eVar 3) aNil)) (eVar 0))
    (sRet (eVar 3)))))
def F_note_parts : Nat → List D → OW → R OW D
  | 0 => fun _ _ => .no
  | n + 1 => fun ds ω => nox (runS (B_note_parts (F_note_parts n)) (startT 5 (cellsJ 2 ds)) ω)
def B_lump_parts : S Unit :=
  (sSeq (sNewT 1)
    (sSeq (sCallW (F_note_parts 70) 1 (aCons (eVar 0) (aCons (eC (.int 0)) aNil)) fun _ τ => some τ)
    (sRetW 1)))
def F_lump_parts : List D → R Unit D := fun ds => nox (runS B_lump_parts (startT 2 (ds.map .d)) ())
def B_rounded_up : S Unit :=
  (sRet (eOp fdivD (eOp subD (eOp addD (eVar 0) (eVar 1)) (eC (.int 1))) (eVar 1)))
def F_rounded_up : List D → R Unit D := fun ds => nox (runS B_rounded_up (startT 2 (ds.map .d)) ())
def B_Plan_stage : S Unit :=
  (sSeq (sIf (eB (eOp ltD (eVar 1) (eCall (un1 lenD) (aCons (eFld "_tables" (eVar 0)) aNil)))) (sRet (eOp ixD (eFld "_tables" (eVar 0)) (eVar 1))) sNx)
    (sSeq (sIf (eB (eUn (isiD "str") (eFld "_end" (eVar 0)))) (sRet (eC .non)) sNx)
    (sRet (eOp ixD (eFld "_end" (eVar 0)) (eOp modD (eOp subD (eVar 1) (eCall (un1 lenD) (aCons (eFld "_tables" (eVar 0)) aNil))) (eCall (un1 lenD) (aCons (eFld "_end" (eVar 0)) aNil)))))))
def F_Plan_stage : List D → R Unit D := fun ds => nox (runS B_Plan_stage (startT 2 (ds.map .d)) ())
def B_stages_used : S Unit :=
  (sSeq (sSetO (eLst aNil) 2)
    (sSeq (sAsg (eVar 1) (bName 3))
    (sSeq (sAsg (eC (.int 1)) (bName 4))
    (sSeq (sAsg (cM "stage" F_Plan_stage (eVar 0) (aCons (eC (.int 0)) aNil)) (bName 5))
    (sSeq (sWhile (fun _ _ => 100) (bAnd (eB (eOp gtD (eVar 3) (eC (.int 1)))) (eB (eOp notND (eVar 5) (eC .non)))) (sSeq (sApp 2 (eTup (aCons (eVar 5) (aCons (eVar 3) (aCons (eVar 4) aNil)))))
    (sSeq (sAsg (cD F_rounded_up (aCons (eVar 3) (aCons (cD F_table_size (aCons (eVar 5) aNil)) aNil))) (bName 3))
    (sSeq (sAsg (eOp mulD (eVar 4) (cD F_table_size (aCons (eVar 5) aNil))) (bName 4))
    (sAsg (cM "stage" F_Plan_stage (eVar 0) (aCons (oLen 2) aNil)) (bName 5))))))
    (sPre 2 (sRet (eTup (aCons (eVar 2) (aCons (eVar 3) (aCons (eVar 4) aNil)))))))))))
def F_stages_used : List D → R Unit D := fun ds => nox (runS B_stages_used (startT 6 (ds.map .d)) ())
def B_tables_used : S Unit :=
  (sSeq (sAsg (cD F_stages_used (aCons (eVar 0) (aCons (eVar 1) aNil))) (bTup 3 (bCons (bName 2) (bCons (bName 3) (bCons (bName 3) bNil)))))
    (sRet (eFrz (eLc [4, 3, 3] (iSq (eVar 2)) (bTup 3 (bCons (bName 4) (bCons (bName 3) (bCons (bName 3) bNil)))) bYes (eVar 4)))))
def F_tables_used : List D → R Unit D := fun ds => nox (runS B_tables_used (startT 5 (ds.map .d)) ())
def B_stretch_lumps : S Unit :=
  (sSeq (sSetO (eLst aNil) 2)
    (sSeq (sFor (iKy (cD F_lump_parts (aCons (eVar 0) aNil))) (bTup 2 (bCons (bName 3) (bCons (bName 4) bNil))) (sIf (eB (eOp gtD (eOp subD (eVar 4) (eVar 3)) (eC (.int 1)))) (sApp 2 (eTup (aCons (eOp ixD (eOp ixD (eVar 1) (eVar 3)) (eC (.int 0))) (aCons (eOp ixD (eOp ixD (eVar 1) (eOp subD (eVar 4) (eC (.int 1)))) (eC (.int 1))) aNil)))) sNx))
    (sRetO 2)))
def F_stretch_lumps : List D → R Unit D := fun ds => nox (runS B_stretch_lumps (startT 5 (ds.map .d)) ())
def BL_stretch_lumps : SL Unit :=
  (lSeq (sSetO (eLst aNil) 2)
    (lSeq (sFor (iKy (cD F_lump_parts (aCons (eVar 0) aNil))) (bTup 2 (bCons (bName 3) (bCons (bName 4) bNil))) (sIf (eB (eOp gtD (eOp subD (eVar 4) (eVar 3)) (eC (.int 1)))) (sApp 2 (eTup (aCons (eOp ixD (eOp ixD (eVar 1) (eVar 3)) (eC (.int 0))) (aCons (eOp ixD (eOp ixD (eVar 1) (eOp subD (eVar 4) (eC (.int 1)))) (eC (.int 1))) aNil)))) sNx))
    (lRetO 2)))
def FL_stretch_lumps : List D → R Unit (List D) := fun ds => runL BL_stretch_lumps (startT 5 (ds.map .d)) ()
def B_end_lumps : S Unit :=
  (sSeq (sIf (eB (eOp eqD (eVar 0) (eC (.str "left")))) (sRet (eFrz (eLc [2] (iSq (eSl (eVar 1) (oSome (eC (.int 1))) oNone)) (bName 2) bYes (eTup (aCons (eOp ixD (eOp ixD (eVar 1) (eC (.int 0))) (eC (.int 0))) (aCons (eOp ixD (eVar 2) (eC (.int 1))) aNil)))))) sNx)
    (sRet (eFrz (eLc [2] (iSq (eSl (eVar 1) oNone (oSome (eUn negD (eC (.int 1)))))) (bName 2) bYes (eTup (aCons (eOp ixD (eVar 2) (eC (.int 0))) (aCons (eOp ixD (eOp ixD (eVar 1) (eUn negD (eC (.int 1)))) (eC (.int 1))) aNil)))))))
def F_end_lumps : List D → R Unit D := fun ds => nox (runS B_end_lumps (startT 3 (ds.map .d)) ())
def BL_end_lumps : SL Unit :=
  (lIfs (eB (eOp eqD (eVar 0) (eC (.str "left")))) (lRet (eLc [2] (iSq (eSl (eVar 1) (oSome (eC (.int 1))) oNone)) (bName 2) bYes (eTup (aCons (eOp ixD (eOp ixD (eVar 1) (eC (.int 0))) (eC (.int 0))) (aCons (eOp ixD (eVar 2) (eC (.int 1))) aNil)))))
    (lRet (eLc [2] (iSq (eSl (eVar 1) oNone (oSome (eUn negD (eC (.int 1)))))) (bName 2) bYes (eTup (aCons (eOp ixD (eVar 2) (eC (.int 0))) (aCons (eOp ixD (eOp ixD (eVar 1) (eUn negD (eC (.int 1)))) (eC (.int 1))) aNil))))))
def FL_end_lumps : List D → R Unit (List D) := fun ds => runL BL_end_lumps (startT 3 (ds.map .d)) ()
def B_in_order : S Unit :=
  (sRet (eFrz (eSortKL (eVar 0))))
def F_in_order : List D → R Unit D := fun ds => nox (runS B_in_order (startT 1 (ds.map .d)) ())
def BL_in_order : SL Unit :=
  (lRet (eSortKL (eVar 0)))
def FL_in_order : List D → R Unit (List D) := fun ds => runL BL_in_order (startT 1 (ds.map .d)) ()
def B_Plan_end : S Unit :=
  (sRet (eFld "_end" (eVar 0)))
def F_Plan_end : List D → R Unit D := fun ds => nox (runS B_Plan_end (startT 1 (ds.map .d)) ())
def B_all_lumps : S Unit :=
  (sSeq (sAsg (cD F_stretches (aCons (eVar 1) (aCons (eC (.int 1)) aNil))) (bName 2))
    (sSeq (sSetO (eLst1 (eVar 2)) 3)
    (sSeq (sFor (iSq (cD F_tables_used (aCons (eVar 0) (aCons (eVar 1) aNil)))) (bName 4) (sSeq (sSetO (eLst aNil) 5)
    (sSeq (sFor (iSq (cD F_stretches (aCons (eCall (un1 lenD) (aCons (eVar 2) aNil)) (aCons (cD F_table_size (aCons (eVar 4) aNil)) aNil)))) (bTup 2 (bCons (bName 6) (bCons (bName 7) bNil))) (sSeq (sAsg (eSl (eVar 2) (oSome (eVar 6)) (oSome (eVar 7))) (bName 8))
    (sSeq (sExt 3 (cL FL_stretch_lumps (aCons (cD F_entry (aCons (eVar 4) (aCons (eOp subD (eVar 7) (eVar 6)) aNil))) (aCons (eVar 8) aNil))))
    (sApp 5 (eTup (aCons (eOp ixD (eOp ixD (eVar 8) (eC (.int 0))) (eC (.int 0))) (aCons (eOp ixD (eOp ixD (eVar 8) (eUn negD (eC (.int 1)))) (eC (.int 1))) aNil)))))))
    (sPre 5 (sAsg (eVar 5) (bName 2))))))
    (sSeq (sExt 3 (cL FL_end_lumps (aCons (cM "end" F_Plan_end (eVar 0) aNil) (aCons (eVar 2) aNil))))
    (sPre 3 (sRet (cD F_in_order (aCons (eVar 3) aNil))))))))
def F_all_lumps : List D → R Unit D := fun ds => nox (runS B_all_lumps (startT 9 (ds.map .d)) ())
def BL_all_lumps : SL Unit :=
  (lSeq (sAsg (cD F_stretches (aCons (eVar 1) (aCons (eC (.int 1)) aNil))) (bName 2))
    (lSeq (sSetO (eLst1 (eVar 2)) 3)
    (lSeq (sFor (iSq (cD F_tables_used (aCons (eVar 0) (aCons (eVar 1) aNil)))) (bName 4) (sSeq (sSetO (eLst aNil) 5)
    (sSeq (sFor (iSq (cD F_stretches (aCons (eCall (un1 lenD) (aCons (eVar 2) aNil)) (aCons (cD F_table_size (aCons (eVar 4) aNil)) aNil)))) (bTup 2 (bCons (bName 6) (bCons (bName 7) bNil))) (sSeq (sAsg (eSl (eVar 2) (oSome (eVar 6)) (oSome (eVar 7))) (bName 8))
    (sSeq (sExt 3 (cL FL_stretch_lumps (aCons (cD F_entry (aCons (eVar 4) (aCons (eOp subD (eVar 7) (eVar 6)) aNil))) (aCons (eVar 8) aNil))))
    (sApp 5 (eTup (aCons (eOp ixD (eOp ixD (eVar 8) (eC (.int 0))) (eC (.int 0))) (aCons (eOp ixD (eOp ixD (eVar 8) (eUn negD (eC (.int 1)))) (eC (.int 1))) aNil)))))))
    (sPre 5 (sAsg (eVar 5) (bName 2))))))
    (lSeq (sExt 3 (cL FL_end_lumps (aCons (cM "end" F_Plan_end (eVar 0) aNil) (aCons (eVar 2) aNil))))
    (lPre 3 (lRet (cL FL_in_order (aCons (eVar 3) aNil))))))))
def FL_all_lumps : List D → R Unit (List D) := fun ds => runL BL_all_lumps (startT 9 (ds.map .d)) ()
def B_first_wrong_table : S Unit :=
  (sSeq (sFor (iEn (eVar 0)) (bTup 2 (bCons (bName 1) (bCons (bName 2) bNil))) (sSeq (sAsg (cD F_wrong_table_path (aCons (eVar 2) aNil)) (bName 3))
    (sIf (eB (eOp notND (eVar 3) (eC .non))) (sRet (eOp addD (eTup (aCons (eVar 1) aNil)) (eVar 3))) sNx)))
    (sRet (eC .non)))
def F_first_wrong_table : List D → R Unit D := fun ds => nox (runS B_first_wrong_table (startT 4 (ds.map .d)) ())
def B_wrong_plan_path : S Unit :=
  (sSeq (sIf (bNot (eB (eUn (isi2D "list" "tuple") (eVar 0)))) (sRet (eTup (aCons (eC (.int 0)) aNil))) sNx)
    (sSeq (sAsg (cD F_first_wrong_table (aCons (eVar 0) aNil)) (bName 2))
    (sSeq (sIf (eB (eOp notND (eVar 2) (eC .non))) (sRet (eOp addD (eTup (aCons (eC (.int 0)) aNil)) (eVar 2))) sNx)
    (sSeq (sIf (bOr (eB (eOp eqD (eVar 1) (eC (.str "left")))) (eB (eOp eqD (eVar 1) (eC (.str "right"))))) (sRet (eC .non)) sNx)
    (sSeq (sIf (bOr (bNot (eB (eUn (isiD "tuple") (eVar 1)))) (eB (eOp eqD (eCall (un1 lenD) (aCons (eVar 1) aNil)) (eC (.int 0))))) (sRet (eTup (aCons (eC (.int 1)) aNil))) sNx)
    (sSeq (sAsg (cD F_first_wrong_table (aCons (eVar 1) aNil)) (bName 2))
    (sSeq (sIf (eB (eOp notND (eVar 2) (eC .non))) (sRet (eOp addD (eTup (aCons (eC (.int 1)) aNil)) (eVar 2))) sNx)
    (sRet (eC .non)))))))))
def F_wrong_plan_path : List D → R Unit D := fun ds => nox (runS B_wrong_plan_path (startT 3 (ds.map .d)) ())
def B_law_stage : S Unit :=
  (sSeq (sIf (eB (eOp ltD (eVar 1) (eCall (un1 lenD) (aCons (eDgK (pK 0) (eC (.str "tables"))) aNil)))) (sRet (eOp ixD (eDgK (pK 0) (eC (.str "tables"))) (eVar 1))) sNx)
    (sSeq (sIf (eB (eOp inTD (eDgK (pK 0) (eC (.str "end"))) (eTup (aCons (eC (.str "left")) (aCons (eC (.str "right")) aNil))))) (sRet (eC .non)) sNx)
    (sRet (eOp ixD (eDgK (pK 0) (eC (.str "end"))) (eOp modD (eCall (un1 intD) (aCons (eOp subD (eVar 1) (eCall (un1 lenD) (aCons (eDgK (pK 0) (eC (.str "tables"))) aNil))) aNil)) (eCall (un1 lenD) (aCons (eDgK (pK 0) (eC (.str "end"))) aNil)))))))
def F_law_stage : List D → R Unit D := fun ds => nox (runS B_law_stage (startT 2 (ds.map .d)) ())
def B_law_rows : S Unit :=
  (sSeq (sSetO (eLst (aCons (eFrz (eLc [5] (iRg rg1 (aCons (eVar 1) aNil)) (bName 5) bYes (eTup (aCons (eVar 5) (aCons (eOp addD (eVar 5) (eC (.int 1))) aNil))))) aNil)) 2)
    (sSeq (sWhile (fun _ _ => 100) (bAnd (eB (eOp gtD (eCall (un1 lenD) (aCons (oIx 2 (eUn negD (eC (.int 1)))) aNil)) (eC (.int 1)))) (eB (eOp notND (cD F_law_stage (aCons (eVar 0) (aCons (eOp subD (oLen 2) (eC (.int 1))) aNil))) (eC .non)))) (sSeq (sAsg (eTup (aCons (oIx 2 (eUn negD (eC (.int 1)))) (aCons (eOp addD (eCall (un1 lenD) (aCons (cD F_law_stage (aCons (eVar 0) (aCons (eOp subD (oLen 2) (eC (.int 1))) aNil))) aNil)) (eC (.int 1))) aNil))) (bTup 2 (bCons (bName 3) (bCons (bName 4) bNil))))
    (sApp 2 (eFrz (eLc [5] (iRg rg3 (aCons (eC (.int 0)) (aCons (eCall (un1 lenD) (aCons (eVar 3) aNil)) (aCons (eVar 4) aNil)))) (bName 5) bYes (eTup (aCons (eOp ixD (eOp ixD (eVar 3) (eVar 5)) (eC (.int 0))) (aCons (eOp ixD (eOp ixD (eVar 3) (eOp subD (eCall (bi2 min2D) (aCons (eOp addD (eVar 5) (eVar 4)) (aCons (eCall (un1 lenD) (aCons (eVar 3) aNil)) aNil))) (eC (.int 1)))) (eC (.int 1))) aNil))))))))
    (sRetO 2)))
def F_law_rows : List D → R Unit D := fun ds => nox (runS B_law_rows (startT 6 (ds.map .d)) ())
def B_law_entry : S Unit :=
  (sRet (eIf (eB (eOp eqD (eVar 1) (eC (.int 1)))) (eTup aNil) (eOp ixD (eVar 0) (eOp subD (eVar 1) (eC (.int 2))))))
def F_law_entry : List D → R Unit D := fun ds => nox (runS B_law_entry (startT 2 (ds.map .d)) ())
def B_law_size (rec : List D → R Unit D) : S Unit :=
  (sRet (eIf (eB (eOp eqD (eVar 0) (eTup aNil))) (eC (.int 1)) (eOp addD (cD rec (aCons (eOp ixD (eVar 0) (eC (.int 0))) aNil)) (cD rec (aCons (eOp ixD (eVar 0) (eC (.int 1))) aNil)))))
def F_law_size : Nat → List D → R Unit D
  | 0 => fun _ => .no
  | n + 1 => fun ds => nox (runS (B_law_size (F_law_size n)) (startT 1 (ds.map .d)) ())
def B_law_lumps (rec : List D → R Unit D) : S Unit :=
  (sSeq (sAsg (cD (F_law_size 70) (aCons (eVar 0) aNil)) (bName 2))
    (sSeq (sIf (eB (eOp eqD (eVar 0) (eTup aNil))) (sRet (eFrz (eLst (aCons (eTup (aCons (eVar 1) (aCons (eOp addD (eVar 1) (eC (.int 1))) aNil))) aNil)))) sNx)
    (sSeq (sAsg (eOp addD (eVar 1) (cD (F_law_size 70) (aCons (eOp ixD (eVar 0) (eC (.int 0))) aNil))) (bName 3))
    (sRet (eOp addD (eOp addD (eFrz (eLst (aCons (eTup (aCons (eVar 1) (aCons (eOp addD (eVar 1) (eVar 2)) aNil))) aNil))) (cD rec (aCons (eOp ixD (eVar 0) (eC (.int 0))) (aCons (eVar 1) aNil)))) (cD rec (aCons (eOp ixD (eVar 0) (eC (.int 1))) (aCons (eVar 3) aNil))))))))
def F_law_lumps : Nat → List D → R Unit D
  | 0 => fun _ => .no
  | n + 1 => fun ds => nox (runS (B_law_lumps (F_law_lumps n)) (startT 4 (ds.map .d)) ())
def B_law_pick : S Src :=
  (sSeq (sWhile (fun _ ω => ω.cells.length + 2) (bAnd (eB (eOp gtD (eVar 1) (eC (.int 1)))) (bAnd (eB (eOp ltD (eSrc 0 Src.left) (eC (.int 2)))) (eB (eOp gtD (eSrcN 0) (eC (.int 0)))))) (sSrc 0 (fun ω z => { ω with left := z }) (eSrcP 0)))
    (sSeq (sAsg (eSrc 0 Src.left) (bName 2))
    (sSeq (sIf (bOr (eB (eOp ltD (eVar 1) (eC (.int 2)))) (eB (eOp gtD (eVar 2) (eC (.int 1))))) (sSeq (sSrc 0 (fun ω z => { ω with left := z }) (eOp fdivD (eVar 2) (eCall (bi2 max2D) (aCons (eC (.int 1)) (aCons (eVar 1) aNil)))))
    (sRet (eOp modD (eCall (un1 intD) (aCons (eVar 2) aNil)) (eCall (bi2 max2D) (aCons (eC (.int 1)) (aCons (eVar 1) aNil)))))) sNx)
    (sSeq (sSrc 0 (fun ω z => { ω with turn := z }) (eOp addD (eSrc 0 Src.turn) (eC (.int 1))))
    (sSeq (sAsg (eOp modD (eCall (un1 intD) (aCons (eOp addD (eSrc 0 Src.mixed) (eOp mulD (eSrc 0 Src.turn) (eC (.int 104729)))) aNil)) (eC (.int 998244353))) (bName 3))
    (sSeq (sAsg (eOp modD (eCall (un1 intD) (aCons (eOp addD (eOp mulD (eVar 3) (eVar 3)) (eOp mulD (eSrc 0 Src.turn) (eC (.int 17)))) aNil)) (eC (.int 2147483647))) (bName 3))
    (sSeq (sSrc 0 (fun ω z => { ω with mixed := z }) (eVar 3))
    (sRet (eOp modD (eCall (un1 intD) (aCons (eOp fdivD (eVar 3) (eC (.int 16))) aNil)) (eVar 1))))))))))
def F_law_pick : List D → Src → R Src D := fun ds ω => nox (runS B_law_pick (startT 4 (.src :: ds.map .d)) ω)
def B_law_comb : S Unit :=
  (sSeq (sAsg (eTup aNil) (bName 2))
    (sSeq (sFor (iRg rg1 (aCons (eOp subD (eVar 0) (eC (.int 1))) aNil)) (bName 3) (sAsg (eIf (eB (eOp eqD (eVar 1) (eC (.str "left")))) (eTup (aCons (eVar 2) (aCons (eTup aNil) aNil))) (eTup (aCons (eTup aNil) (aCons (eVar 2) aNil)))) (bName 2)))
    (sRet (eVar 2))))
def F_law_comb : List D → R Unit D := fun ds => nox (runS B_law_comb (startT 4 (ds.map .d)) ())
def B_law_halves (rec : List D → R Unit D) : S Unit :=
  (sRet (eIf (eB (eOp ltD (eVar 0) (eC (.int 2)))) (eTup aNil) (eTup (aCons (cD rec (aCons (eOp subD (eVar 0) (eOp fdivD (eVar 0) (eC (.int 2)))) aNil)) (aCons (cD rec (aCons (eOp fdivD (eVar 0) (eC (.int 2))) aNil)) aNil)))))
def F_law_halves : Nat → List D → R Unit D
  | 0 => fun _ => .no
  | n + 1 => fun ds => nox (runS (B_law_halves (F_law_halves n)) (startT 1 (ds.map .d)) ())
def B_law_shape (rec : List D → Src → R Src D) : S Src :=
  (sSeq (sAsg (cW F_law_pick 0 (aCons (eC (.int 6)) aNil)) (bName 2))
    (sSeq (sIf (bOr (eB (eOp ltD (eVar 1) (eC (.int 2)))) (eB (eOp ltD (eVar 2) (eC (.int 3))))) (sRet (eOp ixD (eFrz (eLst (aCons (cD F_law_comb (aCons (eVar 1) (aCons (eC (.str "left")) aNil))) (aCons (cD F_law_comb (aCons (eVar 1) (aCons (eC (.str "right")) aNil))) (aCons (cD (F_law_halves 70) (aCons (eVar 1) aNil)) aNil))))) (eIf (eB (eOp ltD (eVar 2) (eC (.int 3)))) (eVar 2) (eC (.int 0))))) sNx)
    (sSeq (sAsg (eOp addD (eC (.int 1)) (cW F_law_pick 0 (aCons (eOp subD (eVar 1) (eC (.int 1))) aNil))) (bName 3))
    (sRet (eTup (aCons (cW rec 0 (aCons (eVar 3) aNil)) (aCons (cW rec 0 (aCons (eOp subD (eVar 1) (eVar 3)) aNil)) aNil)))))))
def F_law_shape : Nat → List D → Src → R Src D
  | 0 => fun _ _ => .no
  | n + 1 => fun ds ω => nox (runS (B_law_shape (F_law_shape n)) (startT 4 (.src :: ds.map .d)) ω)
def B_law_any_table : S Src :=
  (sRet (eCall (un1 tupleD) (aCons (eFrz (eLc [2] (iRg rg2 (aCons (eC (.int 2)) (aCons (eOp addD (eVar 1) (eC (.int 1))) aNil))) (bName 2) bYes (cW (F_law_shape 70) 0 (aCons (eVar 2) aNil)))) aNil)))
def F_law_any_table : List D → Src → R Src D := fun ds ω => nox (runS B_law_any_table (startT 3 (.src :: ds.map .d)) ω)
def B_law_of : S Src :=
  (sRet (eOp ixD (eVar 1) (cW F_law_pick 0 (aCons (eCall (un1 lenD) (aCons (eVar 1) aNil)) aNil))))
def F_law_of : List D → Src → R Src D := fun ds ω => nox (runS B_law_of (startT 2 (.src :: ds.map .d)) ω)
def B_Plan_init : SI :=
  (siSeq (sAsg (cD F_wrong_plan_path (aCons (eVar 1) (aCons (eVar 2) aNil))) (bName 3))
    (siSeq (sIf (eB (eOp notND (eVar 3) (eC .non))) sNo sNx)
    (siTwo (eCall (un1 tupleD) (aCons (eVar 1) aNil)) (eVar 2))))
def F_Plan_init : List D → R Unit (List D) := fun ds => runI B_Plan_init (startT 4 (.src :: ds.map .d))
def B_law_made : S Unit :=
  (sRet (eDisp ["tables", "end", "plan"] (aCons (eCall (un1 tupleD) (aCons (eVar 0) aNil)) (aCons (eVar 1) (aCons (cI ["_tables", "_end"] F_Plan_init (aCons (eCall (un1 tupleD) (aCons (eVar 0) aNil)) (aCons (eVar 1) aNil))) aNil)))))
def F_law_made : List D → R Unit D := fun ds => nox (runS B_law_made (startT 2 (ds.map .d)) ())
def B_law_long_plan : S Src :=
  (sSeq (sAsg (eFrz (eLst (aCons (eC (.int 2)) (aCons (eC (.int 2)) (aCons (eC (.int 3)) (aCons (eC (.int 3)) (aCons (eC (.int 4)) (aCons (eC (.int 5)) (aCons (eC (.int 12)) (aCons (eOp addD (eC (.int 2)) (cW F_law_pick 0 (aCons (eC (.int 11)) aNil))) aNil)))))))))) (bName 1))
    (sSeq (sFz 2 (sSetO (eLc [5] (iRg rg1 (aCons (eOp addD (eC (.int 4)) (cW F_law_pick 0 (aCons (eC (.int 3)) aNil))) aNil)) (bName 5) bYes (cW F_law_any_table 0 (aCons (cW F_law_of 0 (aCons (eVar 1) aNil)) aNil))) 2))
    (sSeq (sAsg (cW F_law_of 0 (aCons (eFrz (eLst (aCons (eC (.str "left")) (aCons (eC (.str "right")) (aCons (eC (.str "round")) aNil))))) aNil)) (bName 3))
    (sSeq (sFz 4 (sSetO (eLc [5] (iRg rg1 (aCons (eOp addD (eC (.int 1)) (cW F_law_pick 0 (aCons (eC (.int 6)) aNil))) aNil)) (bName 5) bYes (cW F_law_any_table 0 (aCons (cW F_law_of 0 (aCons (eVar 1) aNil)) aNil))) 4))
    (sRet (cD F_law_made (aCons (eVar 2) (aCons (eIf (eB (eOp eqD (eVar 3) (eC (.str "round")))) (eCall (un1 tupleD) (aCons (eVar 4) aNil)) (eVar 3)) aNil))))))))
def F_law_long_plan : List D → Src → R Src D := fun ds ω => nox (runS B_law_long_plan (startT 6 (.src :: ds.map .d)) ω)
def B_law_filled (rec : List D → R Unit D) : S Unit :=
  (sSeq (sIf (eB (eOp eqD (eVar 0) (eTup aNil))) (sRet (eOp ixD (eVar 1) (eC (.int 0)))) sNx)
    (sSeq (sAsg (cD (F_law_size 70) (aCons (eOp ixD (eVar 0) (eC (.int 0))) aNil)) (bName 2))
    (sRet (eTup (aCons (cD rec (aCons (eOp ixD (eVar 0) (eC (.int 0))) (aCons (eSl (eVar 1) oNone (oSome (eVar 2))) aNil))) (aCons (cD rec (aCons (eOp ixD (eVar 0) (eC (.int 1))) (aCons (eSl (eVar 1) (oSome (eVar 2)) oNone) aNil))) aNil))))))
def F_law_filled : Nat → List D → R Unit D
  | 0 => fun _ => .no
  | n + 1 => fun ds => nox (runS (B_law_filled (F_law_filled n)) (startT 3 (ds.map .d)) ())
def B_law_pressed : S Unit :=
  (sSeq (sParO2 2 3 (eOp addD (eCall (un1 lenD) (aCons (eVar 0) aNil)) (eC (.int 1))) (eLst aNil))
    (sSeq (sFor (iRg rg3 (aCons (eC (.int 0)) (aCons (eCall (un1 lenD) (aCons (eVar 1) aNil)) (aCons (eVar 2) aNil)))) (bName 4) (sApp 3 (cD (F_law_filled 70) (aCons (cD F_law_entry (aCons (eVar 0) (aCons (eCall (un1 lenD) (aCons (eSl (eVar 1) (oSome (eVar 4)) (oSome (eOp addD (eVar 4) (eVar 2)))) aNil)) aNil))) (aCons (eSl (eVar 1) (oSome (eVar 4)) (oSome (eOp addD (eVar 4) (eVar 2)))) aNil)))))
    (sRetO 3)))
def F_law_pressed : List D → R Unit D := fun ds => nox (runS B_law_pressed (startT 5 (ds.map .d)) ())
def B_law_glue : S Unit :=
  (sSeq (sParO1 2 3 (eLst aNil) (eOp mulD (eOp addD (eCall (un1 lenD) (aCons (eVar 0) aNil)) (eC (.int 1))) (eOp addD (eCall (un1 lenD) (aCons (eVar 1) aNil)) (eC (.int 1)))))
    (sSeq (sFor (iRg rg2 (aCons (eC (.int 2)) (aCons (eOp addD (eVar 3) (eC (.int 1))) aNil))) (bName 4) (sSeq (sAsg (cD F_law_pressed (aCons (eVar 0) (aCons (eOp mulD (eFrz (eLst (aCons (eTup aNil) aNil))) (eVar 4)) aNil))) (bName 5))
    (sApp 2 (cD (F_law_filled 70) (aCons (cD F_law_entry (aCons (eVar 1) (aCons (eCall (un1 lenD) (aCons (eVar 5) aNil)) aNil))) (aCons (eVar 5) aNil))))))
    (sRet (oTuple 2))))
def F_law_glue : List D → R Unit D := fun ds => nox (runS B_law_glue (startT 6 (ds.map .d)) ())
def B_law_table : S Src :=
  (sSeq (sIf (eB (eOp eqD (cW F_law_pick 0 (aCons (eC (.int 4)) aNil)) (eC (.int 0)))) (sSeq (sPar 1 2 (cW F_law_any_table 0 (aCons (eOp addD (eC (.int 2)) (cW F_law_pick 0 (aCons (eC (.int 2)) aNil))) aNil)) (cW F_law_any_table 0 (aCons (eOp addD (eC (.int 2)) (cW F_law_pick 0 (aCons (eC (.int 2)) aNil))) aNil)))
    (sRet (cD F_law_glue (aCons (eVar 1) (aCons (eVar 2) aNil))))) sNx)
    (sRet (cW F_law_any_table 0 (aCons (cW F_law_of 0 (aCons (eFrz (eLst (aCons (eC (.int 2)) (aCons (eC (.int 2)) (aCons (eC (.int 3)) (aCons (eC (.int 3)) (aCons (eC (.int 4)) (aCons (eC (.int 4)) (aCons (eC (.int 5)) (aCons (eC (.int 6)) aNil)))))))))) aNil)) aNil))))
def F_law_table : List D → Src → R Src D := fun ds ω => nox (runS B_law_table (startT 3 (.src :: ds.map .d)) ω)
def B_law_plan : S Src :=
  (sSeq (sFz 1 (sSetO (eLc [4] (iRg rg1 (aCons (cW F_law_of 0 (aCons (eFrz (eLst (aCons (eC (.int 0)) (aCons (eC (.int 1)) (aCons (eC (.int 1)) (aCons (eC (.int 2)) (aCons (eC (.int 3)) aNil))))))) aNil)) aNil)) (bName 4) bYes (cW F_law_table 0 aNil)) 1))
    (sSeq (sPar 2 3 (cW F_law_of 0 (aCons (eFrz (eLst (aCons (eC (.str "left")) (aCons (eC (.str "right")) (aCons (eC (.str "round")) (aCons (eC (.str "round")) aNil)))))) aNil)) (eOp addD (eC (.int 1)) (cW F_law_pick 0 (aCons (eC (.int 2)) aNil))))
    (sRet (cD F_law_made (aCons (eVar 1) (aCons (eIf (eB (eOp eqD (eVar 2) (eC (.str "round")))) (eCall (un1 tupleD) (aCons (eFrz (eLc [4] (iRg rg1 (aCons (eVar 3) aNil)) (bName 4) bYes (cW F_law_table 0 aNil))) aNil)) (eVar 2)) aNil))))))
def F_law_plan : List D → Src → R Src D := fun ds ω => nox (runS B_law_plan (startT 5 (.src :: ds.map .d)) ω)
def B_law_any_plan : S Src :=
  (sRet (eIf (eB (eOp eqD (cW F_law_pick 0 (aCons (eC (.int 4)) aNil)) (eC (.int 0)))) (cW F_law_long_plan 0 aNil) (cW F_law_plan 0 aNil)))
def F_law_any_plan : List D → Src → R Src D := fun ds ω => nox (runS B_law_any_plan (startT 1 (.src :: ds.map .d)) ω)
def B_law_told : S Unit :=
  (sSeq (sPar 2 3 (eOp mulD (eFrz (eLst (aCons (eTup aNil) aNil))) (eVar 1)) (eC (.int 0)))
    (sSeq (sWhile (fun _ _ => 100) (bAnd (eB (eOp gtD (eCall (un1 lenD) (aCons (eVar 2) aNil)) (eC (.int 1)))) (eB (eOp notND (cD F_law_stage (aCons (eVar 0) (aCons (eVar 3) aNil))) (eC .non)))) (sPar 2 3 (cD F_law_pressed (aCons (cD F_law_stage (aCons (eVar 0) (aCons (eVar 3) aNil))) (aCons (eVar 2) aNil))) (eOp addD (eVar 3) (eC (.int 1)))))
    (sRet (eIf (eB (eOp gtD (eCall (un1 lenD) (aCons (eVar 2) aNil)) (eC (.int 1)))) (cD (F_law_filled 70) (aCons (cD F_law_comb (aCons (eCall (un1 lenD) (aCons (eVar 2) aNil)) (aCons (eDgK (pK 0) (eC (.str "end"))) aNil))) (aCons (eVar 2) aNil))) (eOp ixD (eVar 2) (eC (.int 0)))))))
def F_law_told : List D → R Unit D := fun ds => nox (runS B_law_told (startT 4 (ds.map .d)) ())
def B_law_wide_lumps : S Unit :=
  (sSeq (sAsg (cD F_law_rows (aCons (eVar 0) (aCons (eVar 1) aNil))) (bName 2))
    (sSeq (sParO1 3 4 (eLst1 (eOp ixD (eVar 2) (eC (.int 0)))) (eOp ixD (eVar 2) (eUn negD (eC (.int 1)))))
    (sSeq (sFor (iRg rg1 (aCons (eOp subD (eCall (un1 lenD) (aCons (eVar 2) aNil)) (eC (.int 1))) aNil)) (bName 5) (sSeq (sAsg (eTup (aCons (cD F_law_stage (aCons (eVar 0) (aCons (eVar 5) aNil))) (aCons (eOp ixD (eVar 2) (eVar 5)) aNil))) (bTup 2 (bCons (bName 6) (bCons (bName 7) bNil))))
    (sFor (iRg rg3 (aCons (eC (.int 0)) (aCons (eCall (un1 lenD) (aCons (eVar 7) aNil)) (aCons (eOp addD (eCall (un1 lenD) (aCons (eVar 6) aNil)) (eC (.int 1))) aNil)))) (bName 8) (sSeq (sAsg (cD F_law_entry (aCons (eVar 6) (aCons (eCall (bi2 min2D) (aCons (eOp addD (eCall (un1 lenD) (aCons (eVar 6) aNil)) (eC (.int 1))) (aCons (eOp subD (eCall (un1 lenD) (aCons (eVar 7) aNil)) (eVar 8)) aNil))) aNil))) (bName 9))
    (sPre 3 (sSetO (eAddL (eVar 3) (eFrz (eLc [10, 11] (iSq (cD (F_law_lumps 70) (aCons (eVar 9) (aCons (eVar 8) aNil)))) (bTup 2 (bCons (bName 10) (bCons (bName 11) bNil))) (eB (eOp gtD (eOp subD (eVar 11) (eVar 10)) (eC (.int 1)))) (eTup (aCons (eOp ixD (eOp ixD (eVar 7) (eVar 10)) (eC (.int 0))) (aCons (eOp ixD (eOp ixD (eVar 7) (eOp subD (eVar 11) (eC (.int 1)))) (eC (.int 1))) aNil)))))) 3))))))
    (sSeq (sFor (iRg rg2 (aCons (eC (.int 1)) (aCons (eCall (un1 lenD) (aCons (eVar 4) aNil)) aNil))) (bName 5) (sApp 3 (eIf (eB (eOp eqD (eDgK (pK 0) (eC (.str "end"))) (eC (.str "left")))) (eTup (aCons (eC (.int 0)) (aCons (eOp ixD (eOp ixD (eVar 4) (eVar 5)) (eC (.int 1))) aNil))) (eTup (aCons (eOp ixD (eOp ixD (eVar 4) (eOp subD (eVar 5) (eC (.int 1)))) (eC (.int 0))) (aCons (eVar 1) aNil))))))
    (sPre 3 (sRet (eFrz (eSortKL (eVar 3)))))))))
def F_law_wide_lumps : List D → R Unit D := fun ds => nox (runS B_law_wide_lumps (startT 12 (ds.map .d)) ())
def B_law : S Src :=
  (sSeq (sFor (iRg rg1 (aCons (eC (.int 3)) aNil)) (bName 2) (sSeq (sPar3 3 4 5 (cW F_law_any_plan 1 aNil) (eOp addD (eC (.int 1)) (cW F_law_pick 1 (aCons (eC (.int 60)) aNil))) (eOp addD (eC (.int 1)) (cW F_law_pick 1 (aCons (eC (.int 200)) aNil))))
    (sSeq (sIf (eB (eOp neD (eCall (un1 reprD) (aCons (cD F_all_lumps (aCons (eDgK (pK 3) (eC (.str "plan"))) (aCons (eVar 4) aNil))) aNil)) (eCall (un1 reprD) (aCons (cD (F_law_lumps 70) (aCons (cD F_law_told (aCons (eVar 3) (aCons (eVar 4) aNil))) (aCons (eC (.int 0)) aNil))) aNil)))) (sRet (eC (.bl false))) sNx)
    (sSeq (sParO1 6 7 (cL FL_all_lumps (aCons (eDgK (pK 3) (eC (.str "plan"))) (aCons (eVar 5) aNil))) (cD F_law_wide_lumps (aCons (eVar 3) (aCons (eVar 5) aNil))))
    (sSeq (sIf (eB (eOp neD (oRepr 6) (eCall (un1 reprD) (aCons (eVar 7) aNil)))) (sRet (eC (.bl false))) sNx)
    (sSeq (sApp 6 (eC .non))
    (sIf (eB (eOp neD (cD F_all_lumps (aCons (eDgK (pK 3) (eC (.str "plan"))) (aCons (eVar 5) aNil))) (eVar 7))) (sRet (eC (.bl false))) sNx)))))))
    (sRet (eAnd (eOp eqD (cD F_all_lumps (aCons (eDgK (pK 3) (eC (.str "plan"))) (aCons (eC (.int 1)) aNil))) (eFrz (eLst (aCons (eTup (aCons (eC (.int 0)) (aCons (eC (.int 1)) aNil))) aNil)))) (eOp eqD (cD F_all_lumps (aCons (eDgK (pK 3) (eC (.str "plan"))) (aCons (eC (.int 2)) aNil))) (eFrz (eLst (aCons (eTup (aCons (eC (.int 0)) (aCons (eC (.int 2)) aNil))) (aCons (eTup (aCons (eC (.int 0)) (aCons (eC (.int 1)) aNil))) (aCons (eTup (aCons (eC (.int 1)) (aCons (eC (.int 2)) aNil))) aNil)))))))))
def tau0 : Tau := (List.replicate 8 none).set 1 (some .src)
structure Defs (K : PySem.W.Frag) (mg : Str → Option Value) (im : Addr → Bool) where
  cP : Addr
  hi : ∀ a, im a = true ↔ a = cP
  clP : Cls K cP
  gP : mg "Plan" = some (.ref cP)
  na_end : NoAttr K cP "_end"
  na_tables : NoAttr K cP "_tables"
  cT : Addr
  pT : Addr
  cT2 : Addr
  pT2 : Addr
  d_wrong_shape_path : DefOk K mg "wrong_shape_path" s_wrong_shape_path ["value"]
  d_size_of : DefOk K mg "size_of" s_size_of ["shape"]
  d_wrong_table_path : DefOk K mg "wrong_table_path" s_wrong_table_path ["value"]
  d_table_size : DefOk K mg "table_size" s_table_size ["table"]
  d_entry : DefOk K mg "entry" s_entry ["table", "m"]
  d_stretches : DefOk K mg "stretches" s_stretches ["m", "b"]
  d_note_parts : DefOk K mg "_note_parts" s_note_parts ["shape", "place", "parts"]
  d_lump_parts : DefOk K mg "lump_parts" s_lump_parts ["shape"]
  d_rounded_up : DefOk K mg "rounded_up" s_rounded_up ["many", "size"]
  d_Plan_stage : MethOk K cP "stage" "Plan.stage" s_Plan_stage ["self", "k"]
  d_stages_used : DefOk K mg "stages_used" s_stages_used ["plan", "n"]
  d_tables_used : DefOk K mg "tables_used" s_tables_used ["plan", "n"]
  d_stretch_lumps : DefOk K mg "_stretch_lumps" s_stretch_lumps ["shape", "stretch"]
  d_end_lumps : DefOk K mg "_end_lumps" s_end_lumps ["end", "row"]
  d_in_order : DefOk K mg "in_order" s_in_order ["lumps"]
  d_Plan_end : MethOk K cP "end" "Plan.end" s_Plan_end ["self"]
  d_all_lumps : DefOk K mg "all_lumps" s_all_lumps ["plan", "n"]
  d_first_wrong_table : DefOk K mg "_first_wrong_table" s_first_wrong_table ["tables"]
  d_wrong_plan_path : DefOk K mg "wrong_plan_path" s_wrong_plan_path ["tables", "end"]
  d_law_stage : DefOk K mg "_law_stage" s_law_stage ["_law_world", "_law_k"]
  d_law_rows : DefOk K mg "_law_rows" s_law_rows ["_law_world", "_law_n"]
  d_law_entry : DefOk K mg "_law_entry" s_law_entry ["_law_table_here", "_law_m"]
  d_law_size : DefOk K mg "_law_size" s_law_size ["_law_form"]
  d_law_lumps : DefOk K mg "_law_lumps" s_law_lumps ["_law_form", "_law_start"]
  d_law_source : DefOk K mg "_law_source" s_law_source ["_law_script"]
  d_law_pick : DefOk K mg "_law_pick" s_law_pick ["_law_source_here", "_law_many"]
  d_law_comb : DefOk K mg "_law_comb" s_law_comb ["_law_n", "_law_side"]
  d_law_halves : DefOk K mg "_law_halves" s_law_halves ["_law_n"]
  d_law_shape : DefOk K mg "_law_shape" s_law_shape ["_law_source_here", "_law_n"]
  d_law_any_table : DefOk K mg "_law_any_table" s_law_any_table ["_law_source_here", "_law_size_here"]
  d_law_of : DefOk K mg "_law_of" s_law_of ["_law_source_here", "_law_some"]
  d_Plan_init : InitOk K cP "Plan.__init__" s_Plan_init ["self", "tables", "end"]
  d_law_made : DefOk K mg "_law_made" s_law_made ["_law_tables", "_law_end"]
  d_law_long_plan : DefOk K mg "_law_long_plan" s_law_long_plan ["_law_source_here"]
  d_law_filled : DefOk K mg "_law_filled" s_law_filled ["_law_form", "_law_lumps_here"]
  d_law_pressed : DefOk K mg "_law_pressed" s_law_pressed ["_law_table_here", "_law_row"]
  d_law_glue : DefOk K mg "_law_glue" s_law_glue ["_law_one", "_law_other"]
  d_law_table : DefOk K mg "_law_table" s_law_table ["_law_source_here"]
  d_law_plan : DefOk K mg "_law_plan" s_law_plan ["_law_source_here"]
  d_law_any_plan : DefOk K mg "_law_any_plan" s_law_any_plan ["_law_source_here"]
  d_law_told : DefOk K mg "_law_told" s_law_told ["_law_world", "_law_n"]
  d_law_wide_lumps : DefOk K mg "_law_wide_lumps" s_law_wide_lumps ["_law_world", "_law_n"]
  d_law : DefOk K mg "law" s_law ["_law_script"]
  n_tuple : mg "tuple" = none
  n_isinstance : mg "isinstance" = none
  n_len : mg "len" = none
  n_enumerate : mg "enumerate" = none
  n_range : mg "range" = none
  n_min : mg "min" = none
  n_str : mg "str" = none
  n_sorted : mg "sorted" = none
  n_list : mg "list" = none
  n_int : mg "int" = none
  n_abs : mg "abs" = none
  n_max : mg "max" = none
  n_repr : mg "repr" = none
  hcT : d_in_order.fd.code = .ref cT
  hcT2 : d_law_wide_lumps.fd.code = .ref cT2
section
variable {P : Program} {w : World} {K : PySem.W.Frag} {mg : Str → Option Value} {base : Heap} {im : Addr → Bool}
theorem ok_law_source (T : Defs K mg im) : FnOk P w K mg base CX0 1 T.d_law_source.f T.d_law_source.fd ["_law_script"] (spSource K im) := by
  have Sc : FnScope ["_law_script", "_law_mixed", "_law_cell"] ["_law_script"] (defScope s_law_source) := ⟨rfl, rfl, rfl, by decide +kernel, rfl, by decide +kernel, by decide +kernel⟩
  refine T.d_law_source.F.ok Sc (fun vs H Q E h => ?_) (fun cdv A outer s H vs Q E hr h => ?_)
  · obtain ⟨a, ns, rfl, _⟩ := h
    rfl
  obtain ⟨a, ns, rfl, hS, hlen, k⟩ := h
  refine ⟨_, pss_cons (ps_set (i := 1) Sc.nd rfl (Or.inl rfl) pe_int)
    (pss_cons (ps_for PassesOwn.never rfl (pi_list (pv 0)) (pg_name (i := 2) Sc.nd rfl (Or.inl rfl))
      (pss_one (ps_set (i := 1) Sc.nd rfl (Or.inl rfl) (pe_op op_mod (pe_callTy call_int1 (by rfl) T.n_int (by decide +kernel) (pa_cons (pe_op op_add (pe_op op_add (pe_op op_mul (pv 1) pe_int) (pe_op op_mul (pv 2) pe_int)) pe_int) pa_nil)) pe_int))))
    (pss_one (ps_ret (pe_disp (pps_cons pe_str (pe_revL (pe_lc (own := [("_law_cell", 2)]) rfl Sc.nd (pi_list (pv 0)) (blkOk_by (own := [("_law_cell", 2)]) (N := ["_law_script", "_law_mixed", "_law_cell"]) (sc := defScope s_law_source) (by decide +kernel)) (fun _ _ _ _ _ => (pg_name (i := 2) Sc.nd rfl (Or.inl rfl))) (fun _ _ _ _ _ => pts_nil) (fun _ _ _ _ _ => (pe_callB call_abs (by rfl) T.n_abs (by decide +kernel) (pa_cons (pv 2) pa_nil)))))
      (pps_cons pe_str pe_int (pps_cons pe_str (pv 1) (pps_cons pe_str pe_int pps_nil)))) (by rfl) (by rfl) (fun z => by cases z) (by decide))))), ?_⟩
  refine ⟨_, rfl, a, rfl, ⟨_, hS⟩, for_list (K := K) (a := a) (xs := ns.map V.int) (fun i σ H' => H' = H ∧ ∃ v, σ = [some (.ref a), some (.int (mixedOf (ns.take i))), v]) ⟨rfl, none, rfl⟩ (fun i σ H' _ q => by rw [q.1]; exact hS) ?_ ?_⟩
  · rintro i y σ H' hi ⟨rfl, v, rfl⟩
    obtain ⟨u, hu, rfl⟩ : ∃ u, ns[i]? = some u ∧ y = V.int u := by
      rw [List.getElem?_map] at hi
      cases e : ns[i]? with
      | none => rw [e] at hi; cases hi
      | some u => rw [e] at hi; exact ⟨u, rfl, (Option.some.inj hi).symm⟩
    refine ⟨_, rfl, _, _, rfl, rfl, .inr ⟨by decide, by decide⟩, _, rfl, _, _, rfl, rfl, .inr ⟨by decide, by decide⟩, _, _, rfl, rfl, _, _, rfl, rfl, .inl ⟨_, rfl, _, _, rfl, rfl, (by show (0 : Int) < 2147483629; decide), ?_⟩⟩
    refine ⟨rfl, some (.int u), ?_⟩
    have e : mixedOf (ns.take (i + 1)) = (mixedOf (ns.take i) * 69069 + u * 31 + 5) % 2147483629 := by
      unfold mixedOf
      have hlt : i < ns.length := (List.getElem?_eq_some_iff.mp hu).1
      rw [List.take_succ_eq_append_getElem hlt, List.foldl_append, List.foldl_cons, List.foldl_nil, (List.getElem?_eq_some_iff.mp hu).2]
    rw [e]
    rfl
  · rintro σ H' ⟨rfl, v, rfl⟩
    rw [List.length_map, List.take_length]
    intro p hp
    have sm1 : Same H' (upd H' p (.dK [])) := Same.new hp
    refine ⟨_, rfl, a, rfl, ⟨_, Same.seq sm1 hS⟩, fun D hD => lc_list (K := K) (a := a) (xs := ns.map V.int) (fun i H'' => Same (upd H' p (.dK [])) H'' ∧ H'' D = some (.lst ((ns.take i).map fun z => V.int (if z < 0 then -z else z)))) ⟨Same.new hD, upd_same⟩ (fun i H'' _ q => Same.seq q.1 (Same.seq sm1 hS)) ?_ ?_⟩
    · rintro i y H'' hi ⟨q1, q2⟩
      obtain ⟨u, hu, rfl⟩ : ∃ u, ns[i]? = some u ∧ y = V.int u := by
        rw [List.getElem?_map] at hi
        cases e : ns[i]? with
        | none => rw [e] at hi; cases hi
        | some u => rw [e] at hi; exact ⟨u, rfl, (Option.some.inj hi).symm⟩
      have hlt : i < ns.length := (List.getElem?_eq_some_iff.mp hu).1
      refine ⟨rfl, ?_⟩
      refine ⟨_, rfl, u, rfl, _, q2, ?_, ?_, ?_⟩
      · rw [List.length_map, List.length_take, sizeLine_eq]; omega
      · intro b o e
        have ne : b ≠ D := fun q => by subst q; rw [e] at hD; cases hD
        rw [upd_ne ne]; exact q1 b o e
      · rw [upd_same, List.take_succ_eq_append_getElem hlt, List.map_append, List.map_singleton, (List.getElem?_eq_some_iff.mp hu).2]
    · rintro H'' ⟨q1, q2⟩
      rw [List.length_map, List.take_length] at q2
      refine ⟨D, _, rfl, SqL.of q2, fun c hc => ?_⟩
      refine ⟨_, rfl, ?_⟩
      have hp2 : H'' p = some (.dK []) := q1 p _ upd_same
      have npc : p ≠ c := ne_of_none hp2 hc
      have hcH : H' c = none := by
        cases e : H' c with
        | none => rfl
        | some o => have := q1 c o (sm1 c o e); rw [hc] at this; cases this
      refine ⟨by rw [upd_ne npc]; exact hp2, [(.inr "cells", .ref c), (.inr "left", .int 1), (.inr "mixed", .int (mixedOf ns)), (.inr "turn", .int 0)], rfl, (by show 4 ≤ 15; decide), ?_⟩
      have em : mergeK [] [((.inr "cells" : Key), V.ref c), (.inr "left", .int 1), (.inr "mixed", .int (mixedOf ns)), (.inr "turn", .int 0)] = srcKvs c (srcOf ns) := by
        have h1 : ¬ (("cells" : Str) = "left") := by decide +kernel
        have h2 : ¬ (("cells" : Str) = "mixed") := by decide +kernel
        have h3 : ¬ (("left" : Str) = "mixed") := by decide +kernel
        have h4 : ¬ (("cells" : Str) = "turn") := by decide +kernel
        have h5 : ¬ (("left" : Str) = "turn") := by decide +kernel
        have h6 : ¬ (("mixed" : Str) = "turn") := by decide +kernel
        simp [mergeK, putK, srcKvs, srcOf, h1, h2, h3, h4, h5, h6]
      rw [em]
      refine k (p, c) _ (fun b o e => ?_) hp hcH ⟨upd_same, ?_⟩
      · have n1 : b ≠ p := fun q => by subst q; rw [hp] at e; cases e
        have n2 : b ≠ c := fun q => by subst q; rw [hcH] at e; cases e
        rw [upd_ne n1, upd_ne n2]
        exact q1 b o (sm1 b o e)
      · rw [upd_ne npc.symm, upd_same]
        simp [srcOf, List.map_reverse, List.map_map, Function.comp_def]
theorem ok_wrong_shape_path (T : Defs K mg im) : ∀ n, FnOk P w K mg base CX0 (0 + n) T.d_wrong_shape_path.f T.d_wrong_shape_path.fd ["value"] (spD K im 1 (F_wrong_shape_path n))
  | 0 => FnOk.no fun _ _ _ _ => spD_no
  | n + 1 => by
    have ih := ok_wrong_shape_path T n
    have Sc : FnScope ["value", "step", "part", "path"] ["value"] (defScope s_wrong_shape_path) := ⟨rfl, rfl, rfl, by decide +kernel, rfl, by decide +kernel, by decide +kernel⟩
    refine fn_Dx (k := 0 + n) (N := ["value", "step", "part", "path"]) (ps := ["value"]) (F := B_wrong_shape_path (F_wrong_shape_path n)) T.d_wrong_shape_path.F Sc rfl rfl rfl fun cdv A outer s H Ex hr => ?_
    have hu := room_hu hr
    exact ⟨_, (pss_cons (ps_if (PW.pt (pw_or (pt_not (pt_val (pe_callB call_isi (by rfl) T.n_isinstance (by decide +kernel) (pa_cons (pv 0) (pa_cons (pe_bltn rfl T.n_tuple (by rfl) (show RelV (.ty "tuple") (.type "tuple") from rfl)) pa_nil))))) (pw_or1 (pt_cmpR (op_ninDD hu) (pe_callB call_lenDD (by rfl) T.n_len (by decide +kernel) (pa_cons (pv 0) pa_nil)) (pe_tup (pa_cons pe_int (pa_cons pe_int pa_nil))) (by rfl))))) (pss_one (ps_ret (pe_tup pa_nil))) pss_nil)
      (pss_cons (ps_for PassesOwn.never rfl (pi_enumS rfl T.n_enumerate (pa_cons (pv 0) pa_nil)) (pg_sq rfl (pgs_cons (pg_name (i := 1) Sc.nd rfl (by first | exact Or.inl rfl | exact Or.inr rfl)) (pgs_cons (pg_name (i := 2) Sc.nd rfl (by first | exact Or.inl rfl | exact Or.inr rfl)) pgs_nil))) (pss_cons (ps_set (i := 3) Sc.nd rfl (by first | exact Or.inl rfl | exact Or.inr rfl) (pe_call ih hr rfl T.d_wrong_shape_path.g T.d_wrong_shape_path.F.kp T.d_wrong_shape_path.b .nil pass0 (pa_cons (pv 2) pa_nil)))
      (pss_one (ps_if (pt_cmpR op_notND (pv 3) pe_non (nomark _)) (pss_one (ps_ret (pe_op op_addD (pe_tup (pa_cons (pv 1) pa_nil)) (pv 3)))) pss_nil))))
      (pss_one (ps_ret pe_non)))),
      (ds_seq (ds_if (dt_or (dt_not (dt_B (de_isi (de_var 0)))) (dt_test (de_op (de_callN (da_cons (de_var 0) da_nil)) (de_tup (da_cons de_int (da_cons de_int da_nil)))))) (ds_ret (de_tup da_nil)) ds_nx)
      (ds_seq (ds_for (di_enum (de_var 0)) (dg_tup (dgs_cons (dg_name (i := 1)) (dgs_cons (dg_name (i := 2)) dgs_nil))) (ds_seq (ds_asg (dc_D (da_cons (de_var 2) da_nil) (an_cons an_nil)) dg_name)
      (ds_if (dt_test (de_op (de_var 3) de_non)) (ds_ret (de_op (de_tup (da_cons (de_var 1) da_nil)) (de_var 3))) ds_nx)))
      (ds_ret de_non)))⟩
theorem ok_size_of (T : Defs K mg im) : ∀ n, FnOk P w K mg base CX0 (0 + n) T.d_size_of.f T.d_size_of.fd ["shape"] (spD K im 1 (F_size_of n))
  | 0 => FnOk.no fun _ _ _ _ => spD_no
  | n + 1 => by
    have ih := ok_size_of T n
    have Sc : FnScope ["shape"] ["shape"] (defScope s_size_of) := ⟨rfl, rfl, rfl, by decide +kernel, rfl, by decide +kernel, by decide +kernel⟩
    refine fn_Dx (k := 0 + n) (N := ["shape"]) (ps := ["shape"]) (F := B_size_of (F_size_of n)) T.d_size_of.F Sc rfl rfl rfl fun cdv A outer s H Ex hr => ?_
    have hu := room_hu hr
    exact ⟨_, (pss_cons (ps_if (pt_cmpR (op_eqDD hu) (pv 0) (pe_tup pa_nil) (nomark _)) (pss_one (ps_ret pe_int)) pss_nil)
      (pss_one (ps_ret (pe_op op_addD (pe_call ih hr rfl T.d_size_of.g T.d_size_of.F.kp T.d_size_of.b .nil pass0 (pa_cons (pe_ix ix_D (pv 0) pe_int (fun _ _ => rfl)) pa_nil)) (pe_call ih hr rfl T.d_size_of.g T.d_size_of.F.kp T.d_size_of.b .nil pass0 (pa_cons (pe_ix ix_D (pv 0) pe_int (fun _ _ => rfl)) pa_nil)))))),
      (ds_seq (ds_if (dt_test (de_op (de_var 0) (de_tup da_nil))) (ds_ret de_int) ds_nx)
      (ds_ret (de_op (dc_D (da_cons (de_op (de_var 0) de_int) da_nil) (an_cons an_nil)) (dc_D (da_cons (de_op (de_var 0) de_int) da_nil) (an_cons an_nil)))))⟩
theorem ok_wrong_table_path (T : Defs K mg im) : FnOk P w K mg base CX0 71 T.d_wrong_table_path.f T.d_wrong_table_path.fd ["value"] (spD K im 1 F_wrong_table_path) := by
  have G_wrong_shape_path := ok_wrong_shape_path (P := P) (w := w) (base := base) (im := im) T
  have G_size_of := ok_size_of (P := P) (w := w) (base := base) (im := im) T
  have Sc : FnScope ["value", "k", "member", "path"] ["value"] (defScope s_wrong_table_path) := ⟨rfl, rfl, rfl, by decide +kernel, rfl, by decide +kernel, by decide +kernel⟩
  refine fn_Dx (N := ["value", "k", "member", "path"]) (ps := ["value"]) (F := B_wrong_table_path) T.d_wrong_table_path.F Sc rfl rfl rfl fun cdv A outer s H Ex hr => ?_
  have hu := room_hu hr
  exact ⟨_, (pss_cons (ps_if (PW.pt (pw_or (pt_not (pt_val (pe_callB call_isi (by rfl) T.n_isinstance (by decide +kernel) (pa_cons (pv 0) (pa_cons (pe_bltn rfl T.n_tuple (by rfl) (show RelV (.ty "tuple") (.type "tuple") from rfl)) pa_nil))))) (pw_or1 (pt_cmpR (op_eqDD hu) (pe_callB call_lenDD (by rfl) T.n_len (by decide +kernel) (pa_cons (pv 0) pa_nil)) pe_int (nomark _))))) (pss_one (ps_ret (pe_tup pa_nil))) pss_nil)
      (pss_cons (ps_for PassesOwn.never rfl (pi_enumS rfl T.n_enumerate (pa_cons (pv 0) pa_nil)) (pg_sq rfl (pgs_cons (pg_name (i := 1) Sc.nd rfl (by first | exact Or.inl rfl | exact Or.inr rfl)) (pgs_cons (pg_name (i := 2) Sc.nd rfl (by first | exact Or.inl rfl | exact Or.inr rfl)) pgs_nil))) (pss_cons (ps_set (i := 3) Sc.nd rfl (by first | exact Or.inl rfl | exact Or.inr rfl) (pe_call (G_wrong_shape_path 70) (hr.mono (by first | decide | omega)) rfl T.d_wrong_shape_path.g T.d_wrong_shape_path.F.kp T.d_wrong_shape_path.b .nil pass0 (pa_cons (pv 2) pa_nil)))
      (pss_one (ps_if (pt_cmpR op_notND (pv 3) pe_non (nomark _)) (pss_one (ps_ret (pe_op op_addD (pe_tup (pa_cons (pv 1) pa_nil)) (pv 3)))) pss_nil))))
      (pss_cons (ps_for PassesOwn.never rfl (pi_enumS rfl T.n_enumerate (pa_cons (pv 0) pa_nil)) (pg_sq rfl (pgs_cons (pg_name (i := 1) Sc.nd rfl (by first | exact Or.inl rfl | exact Or.inr rfl)) (pgs_cons (pg_name (i := 2) Sc.nd rfl (by first | exact Or.inl rfl | exact Or.inr rfl)) pgs_nil))) (pss_one (ps_if (pt_cmpR (op_neDD hu) (pe_call (G_size_of 70) (hr.mono (by first | decide | omega)) rfl T.d_size_of.g T.d_size_of.F.kp T.d_size_of.b .nil pass0 (pa_cons (pv 2) pa_nil)) (pe_op op_addD (pv 1) pe_int) (nomark _)) (pss_one (ps_ret (pe_tup (pa_cons (pv 1) pa_nil)))) pss_nil)))
      (pss_one (ps_ret pe_non))))),
      (ds_seq (ds_if (dt_or (dt_not (dt_B (de_isi (de_var 0)))) (dt_test (de_op (de_callN (da_cons (de_var 0) da_nil)) de_int))) (ds_ret (de_tup da_nil)) ds_nx)
      (ds_seq (ds_for (di_enum (de_var 0)) (dg_tup (dgs_cons (dg_name (i := 1)) (dgs_cons (dg_name (i := 2)) dgs_nil))) (ds_seq (ds_asg (dc_D (da_cons (de_var 2) da_nil) (an_cons an_nil)) dg_name)
      (ds_if (dt_test (de_op (de_var 3) de_non)) (ds_ret (de_op (de_tup (da_cons (de_var 1) da_nil)) (de_var 3))) ds_nx)))
      (ds_seq (ds_for (di_enum (de_var 0)) (dg_tup (dgs_cons (dg_name (i := 1)) (dgs_cons (dg_name (i := 2)) dgs_nil))) (ds_if (dt_test (de_op (dc_D (da_cons (de_var 2) da_nil) (an_cons an_nil)) (de_op (de_var 1) de_int))) (ds_ret (de_tup (da_cons (de_var 1) da_nil))) ds_nx))
      (ds_ret de_non))))⟩
theorem ok_table_size (T : Defs K mg im) : FnOk P w K mg base CX0 1 T.d_table_size.f T.d_table_size.fd ["table"] (spD K im 1 F_table_size) := by
  have Sc : FnScope ["table"] ["table"] (defScope s_table_size) := ⟨rfl, rfl, rfl, by decide +kernel, rfl, by decide +kernel, by decide +kernel⟩
  refine fn_Dx (N := ["table"]) (ps := ["table"]) (F := B_table_size) T.d_table_size.F Sc rfl rfl rfl fun cdv A outer s H Ex hr => ?_
  have hu := room_hu hr
  exact ⟨_, (pss_one (ps_ret (pe_op op_addD (pe_callB call_lenDD (by rfl) T.n_len (by decide +kernel) (pa_cons (pv 0) pa_nil)) pe_int))),
      (ds_ret (de_op (de_callN (da_cons (de_var 0) da_nil)) de_int))⟩
theorem ok_entry (T : Defs K mg im) : FnOk P w K mg base CX0 1 T.d_entry.f T.d_entry.fd ["table", "m"] (spD K im 2 F_entry) := by
  have Sc : FnScope ["table", "m"] ["table", "m"] (defScope s_entry) := ⟨rfl, rfl, rfl, by decide +kernel, rfl, by decide +kernel, by decide +kernel⟩
  refine fn_Dx (N := ["table", "m"]) (ps := ["table", "m"]) (F := B_entry) T.d_entry.F Sc rfl rfl rfl fun cdv A outer s H Ex hr => ?_
  have hu := room_hu hr
  exact ⟨_, (pss_cons (ps_if (pt_cmpR (op_eqDD hu) (pv 1) pe_int (nomark _)) (pss_one (ps_ret (pe_tup pa_nil))) pss_nil)
      (pss_one (ps_ret (pe_ix ix_D (pv 0) (pe_op op_subD (pv 1) pe_int) (fun _ _ => rfl))))),
      (ds_seq (ds_if (dt_test (de_op (de_var 1) de_int)) (ds_ret (de_tup da_nil)) ds_nx)
      (ds_ret (de_op (de_var 0) (de_op (de_var 1) de_int))))⟩
theorem ok_stretches (T : Defs K mg im) : FnOk P w K mg base CX0 1 T.d_stretches.f T.d_stretches.fd ["m", "b"] (spD K im 2 F_stretches) := by
  have Sc : FnScope ["m", "b", "i"] ["m", "b"] (defScope s_stretches) := ⟨rfl, rfl, rfl, by decide +kernel, rfl, by decide +kernel, by decide +kernel⟩
  refine fn_Dx (N := ["m", "b", "i"]) (ps := ["m", "b"]) (F := B_stretches) T.d_stretches.F Sc rfl rfl rfl fun cdv A outer s H Ex hr => ?_
  have hu := room_hu hr
  exact ⟨_, (pss_one (ps_ret (pe_frz (pe_lc (own := [("i", 2)]) rfl Sc.nd (pi_range3 rfl T.n_range (pa_cons pe_int (pa_cons (pv 0) (pa_cons (pv 1) pa_nil)))) (blkOk_by (own := [("i", 2)]) (N := ["m", "b", "i"]) (sc := defScope s_stretches) (by decide +kernel)) (fun _ _ _ _ _ => (pg_name (i := 2) Sc.nd rfl (by first | exact Or.inl rfl | exact Or.inr rfl))) (fun _ _ _ _ _ => pts_nil) (fun _ _ _ _ _ => (pe_tup (pa_cons (pv 2) (pa_cons (pe_callB (call_min2DD rfl) (by rfl) T.n_min (by decide +kernel) (pa_cons (pe_op op_addD (pv 2) (pv 1)) (pa_cons (pv 0) pa_nil))) pa_nil)))))))),
      (ds_ret (de_frz (dl_lc (W' := fun _ _ _ _ => False) (vs := [2]) (di_rg3 (da_cons de_int (da_cons (de_var 0) (da_cons (de_var 1) da_nil)))) (dg_name (i := 2)) dt_yes (de_tup (da_cons (de_var 2) (da_cons (de_callN (da_cons (de_op (de_var 2) (de_var 1)) (da_cons (de_var 0) da_nil))) da_nil))) (fun _ h => h))))⟩
theorem ok_note_parts (T : Defs K mg im) : ∀ n, FnOk P w K mg base CX0 (0 + n) T.d_note_parts.f T.d_note_parts.fd ["shape", "place", "parts"] (spW K (owG im K) 3 2 (F_note_parts n))
  | 0 => FnOk.no fun _ _ _ _ => spWJ_no
  | n + 1 => by
    have ih := ok_note_parts T n
    have Sc : FnScope ["shape", "place", "parts", "end", "middle"] ["shape", "place", "parts"] (defScope s_note_parts) := ⟨rfl, rfl, rfl, by decide +kernel, rfl, by decide +kernel, by decide +kernel⟩
    refine fn_WxJ (Γ := owG im K) (hj := by decide) (k := 0 + n) (N := ["shape", "place", "parts", "end", "middle"]) (ps := ["shape", "place", "parts"]) (F := B_note_parts (F_note_parts n)) T.d_note_parts.F Sc rfl rfl rfl fun cdv A outer s H Ex hr => ?_
    have hu := room_hu hr
    exact ⟨_, (pss_cons (ps_set (i := 3) Sc.nd rfl (by first | exact Or.inl rfl | exact Or.inr rfl) (pe_op op_addD (pv 1) pe_int))
      (pss_cons (ps_if (pt_cmpR (op_neDD hu) (pv 0) (pe_tup pa_nil) (nomark _)) (pss_cons (ps_set (i := 4) Sc.nd rfl (by first | exact Or.inl rfl | exact Or.inr rfl) (pe_call ih hr rfl T.d_note_parts.g T.d_note_parts.F.kp T.d_note_parts.b .nil pass0 (pa_cons (pe_ix ix_D (pv 0) pe_int (fun _ _ => rfl)) (pa_cons (pv 1) (pa_cons (pv 2) pa_nil)))))
      (pss_one (ps_set (i := 3) Sc.nd rfl (by first | exact Or.inl rfl | exact Or.inr rfl) (pe_call ih hr rfl T.d_note_parts.g T.d_note_parts.F.kp T.d_note_parts.b .nil pass0 (pa_cons (pe_ix ix_D (pv 0) pe_int (fun _ _ => rfl)) (pa_cons (pv 4) (pa_cons (pv 2) pa_nil))))))) pss_nil)
      (pss_cons (ps_dput (hu1 hu) (pv 2) (pe_tup (pa_cons (pv 1) (pa_cons (pv 3) pa_nil))) (pv 0) (by rfl))
      (pss_one (ps_ret (pv 3)))))),
      fun p => (ds_seq (ds_asg (de_op (de_var 1) de_int) dg_name)
      (ds_seq (ds_if (dt_test (de_op (de_var 0) (de_tup da_nil))) (ds_seq (ds_asg (dc_WJ (daj_next (de_op (de_var 0) de_int) (daj_next (de_var 1) (daj_here da_nil))) (an_cons (an_cons an_nil))) dg_name)
      (ds_asg (dc_WJ (daj_next (de_op (de_var 0) de_int) (daj_next (de_var 4) (daj_here da_nil))) (an_cons (an_cons an_nil))) dg_name)) ds_nx)
      (ds_seq (ds_putTs (da_cons (de_var 1) (da_cons (de_var 3) da_nil)) (de_var 0))
      (ds_ret (de_var 3)))))⟩
theorem ok_lump_parts (T : Defs K mg im) : FnOk P w K mg base CX0 71 T.d_lump_parts.f T.d_lump_parts.fd ["shape"] (spD K im 1 F_lump_parts) := by
  have G_note_parts := ok_note_parts (P := P) (w := w) (base := base) (im := im) T
  have Sc : FnScope ["shape", "parts"] ["shape"] (defScope s_lump_parts) := ⟨rfl, rfl, rfl, by decide +kernel, rfl, by decide +kernel, by decide +kernel⟩
  refine fn_Dx (N := ["shape", "parts"]) (ps := ["shape"]) (F := B_lump_parts) T.d_lump_parts.F Sc rfl rfl rfl fun cdv A outer s H Ex hr => ?_
  have hu := room_hu hr
  exact ⟨_, (pss_cons (ps_set (i := 1) Sc.nd rfl (by first | exact Or.inl rfl | exact Or.inr rfl) pe_dnewT)
      (pss_cons (ps_expr (pe_call (G_note_parts 70) (hr.mono (by first | decide | omega)) rfl T.d_note_parts.g T.d_note_parts.F.kp T.d_note_parts.b .nil pass0 (pa_cons (pv 0) (pa_cons pe_int (pa_cons (pv 1) pa_nil)))))
      (pss_one (ps_ret (pe_frzW (pv 1)))))),
      (ds_seq ds_newT
      (ds_seq (ds_callW (daj_next (de_var 0) (daj_next de_int (daj_here da_nil))) (an_cons (an_cons an_nil)))
      ds_retW))⟩
theorem ok_rounded_up (T : Defs K mg im) : FnOk P w K mg base CX0 1 T.d_rounded_up.f T.d_rounded_up.fd ["many", "size"] (spD K im 2 F_rounded_up) := by
  have Sc : FnScope ["many", "size"] ["many", "size"] (defScope s_rounded_up) := ⟨rfl, rfl, rfl, by decide +kernel, rfl, by decide +kernel, by decide +kernel⟩
  refine fn_Dx (N := ["many", "size"]) (ps := ["many", "size"]) (F := B_rounded_up) T.d_rounded_up.F Sc rfl rfl rfl fun cdv A outer s H Ex hr => ?_
  have hu := room_hu hr
  exact ⟨_, (pss_one (ps_ret (pe_op op_fdivD (pe_op op_subD (pe_op op_addD (pv 0) (pv 1)) pe_int) (pv 1)))),
      (ds_ret (de_op (de_op (de_op (de_var 0) (de_var 1)) de_int) (de_var 1)))⟩
theorem ok_Plan_stage (T : Defs K mg im) : FnOk P w K mg base CX0 1 T.d_Plan_stage.f T.d_Plan_stage.fd ["self", "k"] (spD K im 2 F_Plan_stage) := by
  have Sc : FnScope ["self", "k"] ["self", "k"] (defScope s_Plan_stage) := ⟨rfl, rfl, rfl, by decide +kernel, rfl, by decide +kernel, by decide +kernel⟩
  refine fn_Dx (N := ["self", "k"]) (ps := ["self", "k"]) (F := B_Plan_stage) T.d_Plan_stage.F Sc rfl rfl rfl fun cdv A outer s H Ex hr => ?_
  have hu := room_hu hr
  exact ⟨_, (pss_cons (ps_if (pt_cmpR op_ltD (pv 1) (pe_callB call_lenDD (by rfl) T.n_len (by decide +kernel) (pa_cons (pe_fld (pv 0) rfl) pa_nil)) (nomark _)) (pss_one (ps_ret (pe_ix ix_D (pe_fld (pv 0) rfl) (pv 1) (fun _ _ => rfl)))) pss_nil)
      (pss_cons (ps_if (pt_val (pe_callB call_isi (by rfl) T.n_isinstance (by decide +kernel) (pa_cons (pe_fld (pv 0) rfl) (pa_cons (pe_bltn rfl T.n_str (by rfl) (show RelV (.ty "str") (.type "str") from rfl)) pa_nil)))) (pss_one (ps_ret pe_non)) pss_nil)
      (pss_one (ps_ret (pe_ix ix_D (pe_fld (pv 0) rfl) (pe_op op_modD (pe_op op_subD (pv 1) (pe_callB call_lenDD (by rfl) T.n_len (by decide +kernel) (pa_cons (pe_fld (pv 0) rfl) pa_nil))) (pe_callB call_lenDD (by rfl) T.n_len (by decide +kernel) (pa_cons (pe_fld (pv 0) rfl) pa_nil))) (fun _ _ => rfl)))))),
      (ds_seq (ds_if (dt_test (de_op (de_var 1) (de_callN (da_cons (de_fld (hcls T.hi T.clP T.na_tables) (de_var 0)) da_nil)))) (ds_ret (de_op (de_fld (hcls T.hi T.clP T.na_tables) (de_var 0)) (de_var 1))) ds_nx)
      (ds_seq (ds_if (dt_B (de_isi (de_fld (hcls T.hi T.clP T.na_end) (de_var 0)))) (ds_ret de_non) ds_nx)
      (ds_ret (de_op (de_fld (hcls T.hi T.clP T.na_end) (de_var 0)) (de_op (de_op (de_var 1) (de_callN (da_cons (de_fld (hcls T.hi T.clP T.na_tables) (de_var 0)) da_nil))) (de_callN (da_cons (de_fld (hcls T.hi T.clP T.na_end) (de_var 0)) da_nil)))))))⟩
theorem ok_stages_used (T : Defs K mg im) : FnOk P w K mg base CX0 2 T.d_stages_used.f T.d_stages_used.fd ["plan", "n"] (spD K im 2 F_stages_used) := by
  have G_Plan_stage := ok_Plan_stage (P := P) (w := w) (base := base) (im := im) T
  have G_rounded_up := ok_rounded_up (P := P) (w := w) (base := base) (im := im) T
  have G_table_size := ok_table_size (P := P) (w := w) (base := base) (im := im) T
  have Sc : FnScope ["plan", "n", "used", "many", "width", "table"] ["plan", "n"] (defScope s_stages_used) := ⟨rfl, rfl, rfl, by decide +kernel, rfl, by decide +kernel, by decide +kernel⟩
  refine fn_Dx (N := ["plan", "n", "used", "many", "width", "table"]) (ps := ["plan", "n"]) (F := B_stages_used) T.d_stages_used.F Sc rfl rfl rfl fun cdv A outer s H Ex hr => ?_
  have hu := room_hu hr
  exact ⟨_, (pss_cons (ps_set (i := 2) Sc.nd rfl (by first | exact Or.inl rfl | exact Or.inr rfl) (pe_lst pa_nil))
      (pss_cons (ps_set (i := 3) Sc.nd rfl (by first | exact Or.inl rfl | exact Or.inr rfl) (pv 1))
      (pss_cons (ps_set (i := 4) Sc.nd rfl (by first | exact Or.inl rfl | exact Or.inr rfl) pe_int)
      (pss_cons (ps_set (i := 5) Sc.nd rfl (by first | exact Or.inl rfl | exact Or.inr rfl) (pe_meth (pv 0) T.clP T.d_Plan_stage.m G_Plan_stage (hr.mono (by first | decide | omega)) T.d_Plan_stage.b .nil pass0 (pa_cons pe_int pa_nil)))
      (pss_cons (ps_while PassesOwn.never (PW.pt (pw_and (pt_cmpR op_gtD (pv 3) pe_int (nomark _)) (pw_and1 (pt_cmpR op_notND (pv 5) pe_non (nomark _))))) (pss_cons (ps_expr (pe_bm PySem.F.plainAttrs_list PySem.F.slot_list_append PySem.F.type_list_append mt_append (pv 2) (pa_cons (pe_tup (pa_cons (pv 5) (pa_cons (pv 3) (pa_cons (pv 4) pa_nil)))) pa_nil)))
      (pss_cons (ps_set (i := 3) Sc.nd rfl (by first | exact Or.inl rfl | exact Or.inr rfl) (pe_call G_rounded_up (hr.mono (by first | decide | omega)) rfl T.d_rounded_up.g T.d_rounded_up.F.kp T.d_rounded_up.b .nil pass0 (pa_cons (pv 3) (pa_cons (pe_call G_table_size (hr.mono (by first | decide | omega)) rfl T.d_table_size.g T.d_table_size.F.kp T.d_table_size.b .nil pass0 (pa_cons (pv 5) pa_nil)) pa_nil))))
      (pss_cons (ps_set (i := 4) Sc.nd rfl (by first | exact Or.inl rfl | exact Or.inr rfl) (pe_op op_mulD (pv 4) (pe_call G_table_size (hr.mono (by first | decide | omega)) rfl T.d_table_size.g T.d_table_size.F.kp T.d_table_size.b .nil pass0 (pa_cons (pv 5) pa_nil))))
      (pss_one (ps_set (i := 5) Sc.nd rfl (by first | exact Or.inl rfl | exact Or.inr rfl) (pe_meth (pv 0) T.clP T.d_Plan_stage.m G_Plan_stage (hr.mono (by first | decide | omega)) T.d_Plan_stage.b .nil pass0 (pa_cons (pe_callB call_len_seq (by rfl) T.n_len (by decide +kernel) (pa_cons (pv 2) pa_nil)) pa_nil))))))))
      (pss_one (ps_pre 2 (ps_ret (pe_tup (pa_cons (pv 2) (pa_cons (pv 3) (pa_cons (pv 4) pa_nil)))))))))))),
      (ds_seq (ds_setO (dl_lst da_nil))
      (ds_seq (ds_asg (de_var 1) dg_name)
      (ds_seq (ds_asg de_int dg_name)
      (ds_seq (ds_asg (dc_M (fun a h => (T.hi a).mp h) (de_var 0) (da_cons de_int da_nil) (an_cons an_nil)) dg_name)
      (ds_seq (ds_while (n := (fun _ _ => 100)) (dt_and (dt_test (de_op (de_var 3) de_int)) (dt_test (de_op (de_var 5) de_non))) (ds_seq (ds_app (de_tup (da_cons (de_var 5) (da_cons (de_var 3) (da_cons (de_var 4) da_nil)))))
      (ds_seq (ds_asg (dc_D (da_cons (de_var 3) (da_cons (dc_D (da_cons (de_var 5) da_nil) (an_cons an_nil)) da_nil)) (an_cons (an_cons an_nil))) dg_name)
      (ds_seq (ds_asg (de_op (de_var 4) (dc_D (da_cons (de_var 5) da_nil) (an_cons an_nil))) dg_name)
      (ds_asg (dc_M (fun a h => (T.hi a).mp h) (de_var 0) (da_cons de_oLen da_nil) (an_cons an_nil)) dg_name)))))
      (ds_pre 2 (ds_ret (de_tup (da_cons (de_var 2) (da_cons (de_var 3) (da_cons (de_var 4) da_nil)))))))))))⟩
theorem ok_tables_used (T : Defs K mg im) : FnOk P w K mg base CX0 3 T.d_tables_used.f T.d_tables_used.fd ["plan", "n"] (spD K im 2 F_tables_used) := by
  have G_stages_used := ok_stages_used (P := P) (w := w) (base := base) (im := im) T
  have Sc : FnScope ["plan", "n", "used", "_", "table"] ["plan", "n"] (defScope s_tables_used) := ⟨rfl, rfl, rfl, by decide +kernel, rfl, by decide +kernel, by decide +kernel⟩
  refine fn_Dx (N := ["plan", "n", "used", "_", "table"]) (ps := ["plan", "n"]) (F := B_tables_used) T.d_tables_used.F Sc rfl rfl rfl fun cdv A outer s H Ex hr => ?_
  have hu := room_hu hr
  exact ⟨_, (pss_cons (ps_asg (pe_call G_stages_used (hr.mono (by first | decide | omega)) rfl T.d_stages_used.g T.d_stages_used.F.kp T.d_stages_used.b .nil pass0 (pa_cons (pv 0) (pa_cons (pv 1) pa_nil))) (pg_sq rfl (pgs_cons (pg_name (i := 2) Sc.nd rfl (by first | exact Or.inl rfl | exact Or.inr rfl)) (pgs_cons (pg_name (i := 3) Sc.nd rfl (by first | exact Or.inl rfl | exact Or.inr rfl)) (pgs_cons (pg_name (i := 3) Sc.nd rfl (by first | exact Or.inl rfl | exact Or.inr rfl)) pgs_nil)))))
      (pss_one (ps_ret (pe_frz (pe_lc (own := [("table", 4), ("_", 3), ("_", 3)]) rfl Sc.nd (pi_seq (pv 2)) (blkOk_by (own := [("table", 4), ("_", 3), ("_", 3)]) (N := ["plan", "n", "used", "_", "table"]) (sc := defScope s_tables_used) (by decide +kernel)) (fun _ _ _ _ _ => (pg_sq rfl (pgs_cons (pg_name (i := 4) Sc.nd rfl (by first | exact Or.inl rfl | exact Or.inr rfl)) (pgs_cons (pg_name (i := 3) Sc.nd rfl (by first | exact Or.inl rfl | exact Or.inr rfl)) (pgs_cons (pg_name (i := 3) Sc.nd rfl (by first | exact Or.inl rfl | exact Or.inr rfl)) pgs_nil))))) (fun _ _ _ _ _ => pts_nil) (fun _ _ _ _ _ => (pv 4))))))),
      (ds_seq (ds_asg (dc_D (da_cons (de_var 0) (da_cons (de_var 1) da_nil)) (an_cons (an_cons an_nil))) (dg_tup (dgs_cons (dg_name (i := 2)) (dgs_cons (dg_name (i := 3)) (dgs_cons (dg_name (i := 3)) dgs_nil)))))
      (ds_ret (de_frz (dl_lc (W' := fun _ _ _ _ => False) (vs := [4, 3, 3]) (di_seq (de_var 2)) (dg_tup (dgs_cons (dg_name (i := 4)) (dgs_cons (dg_name (i := 3)) (dgs_cons (dg_name (i := 3)) dgs_nil)))) dt_yes (de_var 4) (fun _ h => h)))))⟩
theorem ok_stretch_lumps (T : Defs K mg im) : FnOk P w K mg base CX0 72 T.d_stretch_lumps.f T.d_stretch_lumps.fd ["shape", "stretch"] (spD K im 2 F_stretch_lumps) := by
  have G_lump_parts := ok_lump_parts (P := P) (w := w) (base := base) (im := im) T
  have Sc : FnScope ["shape", "stretch", "found", "i", "j"] ["shape", "stretch"] (defScope s_stretch_lumps) := ⟨rfl, rfl, rfl, by decide +kernel, rfl, by decide +kernel, by decide +kernel⟩
  refine fn_Dx (N := ["shape", "stretch", "found", "i", "j"]) (ps := ["shape", "stretch"]) (F := B_stretch_lumps) T.d_stretch_lumps.F Sc rfl rfl rfl fun cdv A outer s H Ex hr => ?_
  have hu := room_hu hr
  exact ⟨_, (pss_cons (ps_set (i := 2) Sc.nd rfl (by first | exact Or.inl rfl | exact Or.inr rfl) (pe_lst pa_nil))
      (pss_cons (ps_for PassesOwn.never rfl (pi_keys (pe_call G_lump_parts (hr.mono (by first | decide | omega)) rfl T.d_lump_parts.g T.d_lump_parts.F.kp T.d_lump_parts.b .nil pass0 (pa_cons (pv 0) pa_nil))) (pg_sq rfl (pgs_cons (pg_name (i := 3) Sc.nd rfl (by first | exact Or.inl rfl | exact Or.inr rfl)) (pgs_cons (pg_name (i := 4) Sc.nd rfl (by first | exact Or.inl rfl | exact Or.inr rfl)) pgs_nil))) (pss_one (ps_if (pt_cmpR op_gtD (pe_op op_subD (pv 4) (pv 3)) pe_int (nomark _)) (pss_one (ps_expr (pe_bm PySem.F.plainAttrs_list PySem.F.slot_list_append PySem.F.type_list_append mt_append (pv 2) (pa_cons (pe_tup (pa_cons (pe_ix ix_D (pe_ix ix_D (pv 1) (pv 3) (fun _ _ => rfl)) pe_int (fun _ _ => rfl)) (pa_cons (pe_ix ix_D (pe_ix ix_D (pv 1) (pe_op op_subD (pv 4) pe_int) (fun _ _ => rfl)) pe_int (fun _ _ => rfl)) pa_nil))) pa_nil)))) pss_nil)))
      (pss_one (ps_ret (pe_frz (pv 2)))))),
      (ds_seq (ds_setO (dl_lst da_nil))
      (ds_seq (ds_for (di_keys (dc_D (da_cons (de_var 0) da_nil) (an_cons an_nil))) (dg_tup (dgs_cons (dg_name (i := 3)) (dgs_cons (dg_name (i := 4)) dgs_nil))) (ds_if (dt_test (de_op (de_op (de_var 4) (de_var 3)) de_int)) (ds_app (de_tup (da_cons (de_op (de_op (de_var 1) (de_var 3)) de_int) (da_cons (de_op (de_op (de_var 1) (de_op (de_var 4) de_int)) de_int) da_nil)))) ds_nx))
      ds_retO))⟩
theorem okL_stretch_lumps (T : Defs K mg im) : FnOk P w K mg base CX0 72 T.d_stretch_lumps.f T.d_stretch_lumps.fd ["shape", "stretch"] (spL K im 2 FL_stretch_lumps) := by
  have G_lump_parts := ok_lump_parts (P := P) (w := w) (base := base) (im := im) T
  have Sc : FnScope ["shape", "stretch", "found", "i", "j"] ["shape", "stretch"] (defScope s_stretch_lumps) := ⟨rfl, rfl, rfl, by decide +kernel, rfl, by decide +kernel, by decide +kernel⟩
  refine fn_L (N := ["shape", "stretch", "found", "i", "j"]) (ps := ["shape", "stretch"]) (F := BL_stretch_lumps) T.d_stretch_lumps.F Sc rfl rfl rfl fun cdv A outer s H Ex hr => ?_
  have hu := room_hu hr
  exact ⟨_, (pss_cons (ps_set (i := 2) Sc.nd rfl (by first | exact Or.inl rfl | exact Or.inr rfl) (pe_lst pa_nil))
      (pss_cons (ps_for PassesOwn.never rfl (pi_keys (pe_call G_lump_parts (hr.mono (by first | decide | omega)) rfl T.d_lump_parts.g T.d_lump_parts.F.kp T.d_lump_parts.b .nil pass0 (pa_cons (pv 0) pa_nil))) (pg_sq rfl (pgs_cons (pg_name (i := 3) Sc.nd rfl (by first | exact Or.inl rfl | exact Or.inr rfl)) (pgs_cons (pg_name (i := 4) Sc.nd rfl (by first | exact Or.inl rfl | exact Or.inr rfl)) pgs_nil))) (pss_one (ps_if (pt_cmpR op_gtD (pe_op op_subD (pv 4) (pv 3)) pe_int (nomark _)) (pss_one (ps_expr (pe_bm PySem.F.plainAttrs_list PySem.F.slot_list_append PySem.F.type_list_append mt_append (pv 2) (pa_cons (pe_tup (pa_cons (pe_ix ix_D (pe_ix ix_D (pv 1) (pv 3) (fun _ _ => rfl)) pe_int (fun _ _ => rfl)) (pa_cons (pe_ix ix_D (pe_ix ix_D (pv 1) (pe_op op_subD (pv 4) pe_int) (fun _ _ => rfl)) pe_int (fun _ _ => rfl)) pa_nil))) pa_nil)))) pss_nil)))
      (pss_one (ps_ret (pv 2))))),
      (dsl_seq (W := fun _ _ _ _ => False) (ds_setO (dl_lst da_nil))
      (dsl_seq (W := fun _ _ _ _ => False) (ds_for (di_keys (dc_D (da_cons (de_var 0) da_nil) (an_cons an_nil))) (dg_tup (dgs_cons (dg_name (i := 3)) (dgs_cons (dg_name (i := 4)) dgs_nil))) (ds_if (dt_test (de_op (de_op (de_var 4) (de_var 3)) de_int)) (ds_app (de_tup (da_cons (de_op (de_op (de_var 1) (de_var 3)) de_int) (da_cons (de_op (de_op (de_var 1) (de_op (de_var 4) de_int)) de_int) da_nil)))) ds_nx))
      dsl_retO))⟩
theorem ok_end_lumps (T : Defs K mg im) : FnOk P w K mg base CX0 1 T.d_end_lumps.f T.d_end_lumps.fd ["end", "row"] (spD K im 2 F_end_lumps) := by
  have Sc : FnScope ["end", "row", "lump"] ["end", "row"] (defScope s_end_lumps) := ⟨rfl, rfl, rfl, by decide +kernel, rfl, by decide +kernel, by decide +kernel⟩
  refine fn_Dx (N := ["end", "row", "lump"]) (ps := ["end", "row"]) (F := B_end_lumps) T.d_end_lumps.F Sc rfl rfl rfl fun cdv A outer s H Ex hr => ?_
  have hu := room_hu hr
  exact ⟨_, (pss_cons (ps_if (pt_cmpR (op_eqDD hu) (pv 0) pe_str (nomark _)) (pss_one (ps_ret (pe_frz (pe_lc (own := [("lump", 2)]) rfl Sc.nd (pi_seq (pe_slice sl_D (pv 1) (po_some pe_int) po_none)) (blkOk_by (own := [("lump", 2)]) (N := ["end", "row", "lump"]) (sc := defScope s_end_lumps) (by decide +kernel)) (fun _ _ _ _ _ => (pg_name (i := 2) Sc.nd rfl (by first | exact Or.inl rfl | exact Or.inr rfl))) (fun _ _ _ _ _ => pts_nil) (fun _ _ _ _ _ => (pe_tup (pa_cons (pe_ix ix_D (pe_ix ix_D (pv 1) pe_int (fun _ _ => rfl)) pe_int (fun _ _ => rfl)) (pa_cons (pe_ix ix_D (pv 2) pe_int (fun _ _ => rfl)) pa_nil)))))))) pss_nil)
      (pss_one (ps_ret (pe_frz (pe_lc (own := [("lump", 2)]) rfl Sc.nd (pi_seq (pe_slice sl_D (pv 1) po_none (po_some (pe_un un_negD pe_int)))) (blkOk_by (own := [("lump", 2)]) (N := ["end", "row", "lump"]) (sc := defScope s_end_lumps) (by decide +kernel)) (fun _ _ _ _ _ => (pg_name (i := 2) Sc.nd rfl (by first | exact Or.inl rfl | exact Or.inr rfl))) (fun _ _ _ _ _ => pts_nil) (fun _ _ _ _ _ => (pe_tup (pa_cons (pe_ix ix_D (pv 2) pe_int (fun _ _ => rfl)) (pa_cons (pe_ix ix_D (pe_ix ix_D (pv 1) (pe_un un_negD pe_int) (fun _ _ => rfl)) pe_int (fun _ _ => rfl)) pa_nil))))))))),
      (ds_seq (ds_if (dt_test (de_op (de_var 0) de_str)) (ds_ret (de_frz (dl_lc (W' := fun _ _ _ _ => False) (vs := [2]) (di_seq (de_sl (de_var 1) (do_some de_int) do_none)) (dg_name (i := 2)) dt_yes (de_tup (da_cons (de_op (de_op (de_var 1) de_int) de_int) (da_cons (de_op (de_var 2) de_int) da_nil))) (fun _ h => h)))) ds_nx)
      (ds_ret (de_frz (dl_lc (W' := fun _ _ _ _ => False) (vs := [2]) (di_seq (de_sl (de_var 1) do_none (do_some (de_un de_int)))) (dg_name (i := 2)) dt_yes (de_tup (da_cons (de_op (de_var 2) de_int) (da_cons (de_op (de_op (de_var 1) (de_un de_int)) de_int) da_nil))) (fun _ h => h)))))⟩
theorem okL_end_lumps (T : Defs K mg im) : FnOk P w K mg base CX0 1 T.d_end_lumps.f T.d_end_lumps.fd ["end", "row"] (spL K im 2 FL_end_lumps) := by
  have Sc : FnScope ["end", "row", "lump"] ["end", "row"] (defScope s_end_lumps) := ⟨rfl, rfl, rfl, by decide +kernel, rfl, by decide +kernel, by decide +kernel⟩
  refine fn_L (N := ["end", "row", "lump"]) (ps := ["end", "row"]) (F := BL_end_lumps) T.d_end_lumps.F Sc rfl rfl rfl fun cdv A outer s H Ex hr => ?_
  have hu := room_hu hr
  exact ⟨_, (pss_cons (ps_if (pt_cmpR (op_eqDD hu) (pv 0) pe_str (nomark _)) (pss_one (ps_ret (pe_lc (own := [("lump", 2)]) rfl Sc.nd (pi_seq (pe_slice sl_D (pv 1) (po_some pe_int) po_none)) (blkOk_by (own := [("lump", 2)]) (N := ["end", "row", "lump"]) (sc := defScope s_end_lumps) (by decide +kernel)) (fun _ _ _ _ _ => (pg_name (i := 2) Sc.nd rfl (by first | exact Or.inl rfl | exact Or.inr rfl))) (fun _ _ _ _ _ => pts_nil) (fun _ _ _ _ _ => (pe_tup (pa_cons (pe_ix ix_D (pe_ix ix_D (pv 1) pe_int (fun _ _ => rfl)) pe_int (fun _ _ => rfl)) (pa_cons (pe_ix ix_D (pv 2) pe_int (fun _ _ => rfl)) pa_nil))))))) pss_nil)
      (pss_one (ps_ret (pe_lc (own := [("lump", 2)]) rfl Sc.nd (pi_seq (pe_slice sl_D (pv 1) po_none (po_some (pe_un un_negD pe_int)))) (blkOk_by (own := [("lump", 2)]) (N := ["end", "row", "lump"]) (sc := defScope s_end_lumps) (by decide +kernel)) (fun _ _ _ _ _ => (pg_name (i := 2) Sc.nd rfl (by first | exact Or.inl rfl | exact Or.inr rfl))) (fun _ _ _ _ _ => pts_nil) (fun _ _ _ _ _ => (pe_tup (pa_cons (pe_ix ix_D (pv 2) pe_int (fun _ _ => rfl)) (pa_cons (pe_ix ix_D (pe_ix ix_D (pv 1) (pe_un un_negD pe_int) (fun _ _ => rfl)) pe_int (fun _ _ => rfl)) pa_nil)))))))),
      (dsl_ifs (W := fun _ _ _ _ => False) (dt_test (de_op (de_var 0) de_str)) (dsl_ret (W := fun _ _ _ _ => False) (dl_lc (W' := fun _ _ _ _ => False) (vs := [2]) (di_seq (de_sl (de_var 1) (do_some de_int) do_none)) (dg_name (i := 2)) dt_yes (de_tup (da_cons (de_op (de_op (de_var 1) de_int) de_int) (da_cons (de_op (de_var 2) de_int) da_nil))) (fun _ h => h)))
      (dsl_ret (W := fun _ _ _ _ => False) (dl_lc (W' := fun _ _ _ _ => False) (vs := [2]) (di_seq (de_sl (de_var 1) do_none (do_some (de_un de_int)))) (dg_name (i := 2)) dt_yes (de_tup (da_cons (de_op (de_var 2) de_int) (da_cons (de_op (de_op (de_var 1) (de_un de_int)) de_int) da_nil))) (fun _ h => h))))⟩
theorem ok_in_order (T : Defs K mg im) (TB : LamX.TabB base mg T.cT T.pT) : FnOk P w K mg base CX0 1 T.d_in_order.f T.d_in_order.fd ["lumps"] (spTb K im T.pT "in_order.<locals>.<lambda>" 1 F_in_order) := by
  have Sc : FnScope ["lumps"] ["lumps"] (defScope s_in_order) := ⟨rfl, rfl, rfl, by decide +kernel, rfl, by decide +kernel, by decide +kernel⟩
  refine fn_Tx (P := T.pT) (nm := "in_order.<locals>.<lambda>") (N := ["lumps"]) (ps := ["lumps"]) (F := B_in_order) T.d_in_order.F Sc rfl rfl rfl fun cdv A outer s H Ex ec hr => ?_
  have ec2 : cdv = .ref T.cT := ec.symm.trans T.hcT
  subst ec2
  have hu := room_hu hr
  exact ⟨_, (pss_one (ps_ret (pe_frz (pe_sortKL (keyB_neg (by decide)) (pv 0) (by rfl) T.n_sorted (by decide +kernel) TB rfl (show (("in_order" : Str) ++ ".<locals>." ++ "<lambda>" = ("in_order.<locals>.<lambda>" : Str)) from by decide +kernel) hr rfl rfl rfl rfl rfl (by decide) rfl (fun _ _ _ _ _ => rfl))))),
      (ds_ret (de_frz (dl_sortK tabG_has (de_var 0))))⟩
theorem okL_in_order (T : Defs K mg im) (TB : LamX.TabB base mg T.cT T.pT) : FnOk P w K mg base CX0 1 T.d_in_order.f T.d_in_order.fd ["lumps"] (spTbL K im T.pT "in_order.<locals>.<lambda>" 1 FL_in_order) := by
  have Sc : FnScope ["lumps"] ["lumps"] (defScope s_in_order) := ⟨rfl, rfl, rfl, by decide +kernel, rfl, by decide +kernel, by decide +kernel⟩
  refine fn_TLx (P := T.pT) (nm := "in_order.<locals>.<lambda>") (N := ["lumps"]) (ps := ["lumps"]) (F := BL_in_order) T.d_in_order.F Sc rfl rfl rfl fun cdv A outer s H Ex ec hr => ?_
  have ec2 : cdv = .ref T.cT := ec.symm.trans T.hcT
  subst ec2
  have hu := room_hu hr
  exact ⟨_, (pss_one (ps_ret (pe_sortKL (keyB_neg (by decide)) (pv 0) (by rfl) T.n_sorted (by decide +kernel) TB rfl (show (("in_order" : Str) ++ ".<locals>." ++ "<lambda>" = ("in_order.<locals>.<lambda>" : Str)) from by decide +kernel) hr rfl rfl rfl rfl rfl (by decide) rfl (fun _ _ _ _ _ => rfl)))),
      (dsl_ret (W := fun _ _ _ _ => False) (dl_sortK tabG_has (de_var 0)))⟩
theorem ok_Plan_end (T : Defs K mg im) : FnOk P w K mg base CX0 1 T.d_Plan_end.f T.d_Plan_end.fd ["self"] (spD K im 1 F_Plan_end) := by
  have Sc : FnScope ["self"] ["self"] (defScope s_Plan_end) := ⟨rfl, rfl, rfl, by decide +kernel, rfl, by decide +kernel, by decide +kernel⟩
  refine fn_Dx (N := ["self"]) (ps := ["self"]) (F := B_Plan_end) T.d_Plan_end.F Sc rfl rfl rfl fun cdv A outer s H Ex hr => ?_
  have hu := room_hu hr
  exact ⟨_, (pss_one (ps_ret (pe_fld (pv 0) rfl))),
      (ds_ret (de_fld (hcls T.hi T.clP T.na_end) (de_var 0)))⟩
theorem ok_all_lumps (T : Defs K mg im) (TB : LamX.TabB base mg T.cT T.pT) : FnOk P w K mg base CX0 73 T.d_all_lumps.f T.d_all_lumps.fd ["plan", "n"] (spTb K im T.pT "in_order.<locals>.<lambda>" 2 F_all_lumps) := by
  have G_stretches := ok_stretches (P := P) (w := w) (base := base) (im := im) T
  have G_tables_used := ok_tables_used (P := P) (w := w) (base := base) (im := im) T
  have G_in_order := ok_in_order (P := P) (w := w) (base := base) (im := im) T TB
  have GL_in_order := okL_in_order (P := P) (w := w) (base := base) (im := im) T TB
  have G_end_lumps := ok_end_lumps (P := P) (w := w) (base := base) (im := im) T
  have GL_end_lumps := okL_end_lumps (P := P) (w := w) (base := base) (im := im) T
  have G_table_size := ok_table_size (P := P) (w := w) (base := base) (im := im) T
  have G_Plan_end := ok_Plan_end (P := P) (w := w) (base := base) (im := im) T
  have G_stretch_lumps := ok_stretch_lumps (P := P) (w := w) (base := base) (im := im) T
  have GL_stretch_lumps := okL_stretch_lumps (P := P) (w := w) (base := base) (im := im) T
  have G_entry := ok_entry (P := P) (w := w) (base := base) (im := im) T
  have Sc : FnScope ["plan", "n", "row", "found", "table", "behind", "i", "j", "stretch"] ["plan", "n"] (defScope s_all_lumps) := ⟨rfl, rfl, rfl, by decide +kernel, rfl, by decide +kernel, by decide +kernel⟩
  refine fn_Tx (P := T.pT) (nm := "in_order.<locals>.<lambda>") (N := ["plan", "n", "row", "found", "table", "behind", "i", "j", "stretch"]) (ps := ["plan", "n"]) (F := B_all_lumps) T.d_all_lumps.F Sc rfl rfl rfl fun cdv A outer s H Ex ec hr => ?_
  have hu := room_hu hr
  exact ⟨_, (pss_cons (ps_set (i := 2) Sc.nd rfl (by first | exact Or.inl rfl | exact Or.inr rfl) (pe_call G_stretches (hr.mono (by first | decide | omega)) rfl T.d_stretches.g T.d_stretches.F.kp T.d_stretches.b .nil pass0 (pa_cons (pv 1) (pa_cons pe_int pa_nil))))
      (pss_cons (ps_set (i := 3) Sc.nd rfl (by first | exact Or.inl rfl | exact Or.inr rfl) (pe_callTy call_list_of (by rfl) T.n_list (by decide +kernel) (pa_cons (pv 2) pa_nil)))
      (pss_cons (ps_for PassesOwn.never rfl (pi_seq (pe_call G_tables_used (hr.mono (by first | decide | omega)) rfl T.d_tables_used.g T.d_tables_used.F.kp T.d_tables_used.b .nil pass0 (pa_cons (pv 0) (pa_cons (pv 1) pa_nil)))) (pg_name (i := 4) Sc.nd rfl (by first | exact Or.inl rfl | exact Or.inr rfl)) (pss_cons (ps_set (i := 5) Sc.nd rfl (by first | exact Or.inl rfl | exact Or.inr rfl) (pe_lst pa_nil))
      (pss_cons (ps_for PassesOwn.never rfl (pi_seq (pe_call G_stretches (hr.mono (by first | decide | omega)) rfl T.d_stretches.g T.d_stretches.F.kp T.d_stretches.b .nil pass0 (pa_cons (pe_callB call_lenDD (by rfl) T.n_len (by decide +kernel) (pa_cons (pv 2) pa_nil)) (pa_cons (pe_call G_table_size (hr.mono (by first | decide | omega)) rfl T.d_table_size.g T.d_table_size.F.kp T.d_table_size.b .nil pass0 (pa_cons (pv 4) pa_nil)) pa_nil)))) (pg_sq rfl (pgs_cons (pg_name (i := 6) Sc.nd rfl (by first | exact Or.inl rfl | exact Or.inr rfl)) (pgs_cons (pg_name (i := 7) Sc.nd rfl (by first | exact Or.inl rfl | exact Or.inr rfl)) pgs_nil))) (pss_cons (ps_set (i := 8) Sc.nd rfl (by first | exact Or.inl rfl | exact Or.inr rfl) (pe_slice sl_D (pv 2) (po_some (pv 6)) (po_some (pv 7))))
      (pss_cons (ps_expr (pe_bm PySem.F.plainAttrs_list PySem.F.slot_list_extend PySem.F.type_list_extend mt_extend (pv 3) (pa_cons (pe_call GL_stretch_lumps (hr.mono (by first | decide | omega)) rfl T.d_stretch_lumps.g T.d_stretch_lumps.F.kp T.d_stretch_lumps.b .nil pass0 (pa_cons (pe_call G_entry (hr.mono (by first | decide | omega)) rfl T.d_entry.g T.d_entry.F.kp T.d_entry.b .nil pass0 (pa_cons (pv 4) (pa_cons (pe_op op_subD (pv 7) (pv 6)) pa_nil))) (pa_cons (pv 8) pa_nil))) pa_nil)))
      (pss_one (ps_expr (pe_bm PySem.F.plainAttrs_list PySem.F.slot_list_append PySem.F.type_list_append mt_append (pv 5) (pa_cons (pe_tup (pa_cons (pe_ix ix_D (pe_ix ix_D (pv 8) pe_int (fun _ _ => rfl)) pe_int (fun _ _ => rfl)) (pa_cons (pe_ix ix_D (pe_ix ix_D (pv 8) (pe_un un_negD pe_int) (fun _ _ => rfl)) pe_int (fun _ _ => rfl)) pa_nil))) pa_nil)))))))
      (pss_one (ps_pre 5 (ps_set (i := 2) Sc.nd rfl (by first | exact Or.inl rfl | exact Or.inr rfl) (pv 5)))))))
      (pss_cons (ps_expr (pe_bm PySem.F.plainAttrs_list PySem.F.slot_list_extend PySem.F.type_list_extend mt_extend (pv 3) (pa_cons (pe_call GL_end_lumps (hr.mono (by first | decide | omega)) rfl T.d_end_lumps.g T.d_end_lumps.F.kp T.d_end_lumps.b .nil pass0 (pa_cons (pe_meth0 (pv 0) T.clP T.d_Plan_end.m G_Plan_end (hr.mono (by first | decide | omega)) T.d_Plan_end.b .nil pass0) (pa_cons (pv 2) pa_nil))) pa_nil)))
      (pss_one (ps_pre 3 (ps_ret (pe_call G_in_order (hr.mono (by first | decide | omega)) rfl T.d_in_order.g T.d_in_order.F.kp T.d_in_order.b .nil pass0 (pa_cons (pv 3) pa_nil))))))))),
      (ds_seq (ds_asg (dc_D (da_cons (de_var 1) (da_cons de_int da_nil)) (an_cons (an_cons an_nil))) dg_name)
      (ds_seq (ds_setO (dl_list1 (de_var 2)))
      (ds_seq (ds_for (di_seq (dc_D (da_cons (de_var 0) (da_cons (de_var 1) da_nil)) (an_cons (an_cons an_nil)))) (dg_name (i := 4)) (ds_seq (ds_setO (dl_lst da_nil))
      (ds_seq (ds_for (di_seq (dc_D (da_cons (de_callN (da_cons (de_var 2) da_nil)) (da_cons (dc_D (da_cons (de_var 4) da_nil) (an_cons an_nil)) da_nil)) (an_cons (an_cons an_nil)))) (dg_tup (dgs_cons (dg_name (i := 6)) (dgs_cons (dg_name (i := 7)) dgs_nil))) (ds_seq (ds_asg (de_sl (de_var 2) (do_some (de_var 6)) (do_some (de_var 7))) dg_name)
      (ds_seq (ds_ext (dc_L (da_cons (dc_D (da_cons (de_var 4) (da_cons (de_op (de_var 7) (de_var 6)) da_nil)) (an_cons (an_cons an_nil))) (da_cons (de_var 8) da_nil)) (an_cons (an_cons an_nil))))
      (ds_app (de_tup (da_cons (de_op (de_op (de_var 8) de_int) de_int) (da_cons (de_op (de_op (de_var 8) (de_un de_int)) de_int) da_nil)))))))
      (ds_pre 5 (ds_asg (de_var 5) dg_name)))))
      (ds_seq (ds_ext (dc_L (da_cons (dc_M (fun a h => (T.hi a).mp h) (de_var 0) da_nil an_nil) (da_cons (de_var 2) da_nil)) (an_cons (an_cons an_nil))))
      (ds_pre 3 (ds_ret (dc_T (P := T.pT) (nm := "in_order.<locals>.<lambda>") tabG_has (da_cons (de_var 3) da_nil) (an_cons an_nil))))))))⟩
theorem okL_all_lumps (T : Defs K mg im) (TB : LamX.TabB base mg T.cT T.pT) : FnOk P w K mg base CX0 73 T.d_all_lumps.f T.d_all_lumps.fd ["plan", "n"] (spTbL K im T.pT "in_order.<locals>.<lambda>" 2 FL_all_lumps) := by
  have G_stretches := ok_stretches (P := P) (w := w) (base := base) (im := im) T
  have G_tables_used := ok_tables_used (P := P) (w := w) (base := base) (im := im) T
  have G_in_order := ok_in_order (P := P) (w := w) (base := base) (im := im) T TB
  have GL_in_order := okL_in_order (P := P) (w := w) (base := base) (im := im) T TB
  have G_end_lumps := ok_end_lumps (P := P) (w := w) (base := base) (im := im) T
  have GL_end_lumps := okL_end_lumps (P := P) (w := w) (base := base) (im := im) T
  have G_table_size := ok_table_size (P := P) (w := w) (base := base) (im := im) T
  have G_Plan_end := ok_Plan_end (P := P) (w := w) (base := base) (im := im) T
  have G_stretch_lumps := ok_stretch_lumps (P := P) (w := w) (base := base) (im := im) T
  have GL_stretch_lumps := okL_stretch_lumps (P := P) (w := w) (base := base) (im := im) T
  have G_entry := ok_entry (P := P) (w := w) (base := base) (im := im) T
  have Sc : FnScope ["plan", "n", "row", "found", "table", "behind", "i", "j", "stretch"] ["plan", "n"] (defScope s_all_lumps) := ⟨rfl, rfl, rfl, by decide +kernel, rfl, by decide +kernel, by decide +kernel⟩
  refine fn_TLx (P := T.pT) (nm := "in_order.<locals>.<lambda>") (N := ["plan", "n", "row", "found", "table", "behind", "i", "j", "stretch"]) (ps := ["plan", "n"]) (F := BL_all_lumps) T.d_all_lumps.F Sc rfl rfl rfl fun cdv A outer s H Ex ec hr => ?_
  have hu := room_hu hr
  exact ⟨_, (pss_cons (ps_set (i := 2) Sc.nd rfl (by first | exact Or.inl rfl | exact Or.inr rfl) (pe_call G_stretches (hr.mono (by first | decide | omega)) rfl T.d_stretches.g T.d_stretches.F.kp T.d_stretches.b .nil pass0 (pa_cons (pv 1) (pa_cons pe_int pa_nil))))
      (pss_cons (ps_set (i := 3) Sc.nd rfl (by first | exact Or.inl rfl | exact Or.inr rfl) (pe_callTy call_list_of (by rfl) T.n_list (by decide +kernel) (pa_cons (pv 2) pa_nil)))
      (pss_cons (ps_for PassesOwn.never rfl (pi_seq (pe_call G_tables_used (hr.mono (by first | decide | omega)) rfl T.d_tables_used.g T.d_tables_used.F.kp T.d_tables_used.b .nil pass0 (pa_cons (pv 0) (pa_cons (pv 1) pa_nil)))) (pg_name (i := 4) Sc.nd rfl (by first | exact Or.inl rfl | exact Or.inr rfl)) (pss_cons (ps_set (i := 5) Sc.nd rfl (by first | exact Or.inl rfl | exact Or.inr rfl) (pe_lst pa_nil))
      (pss_cons (ps_for PassesOwn.never rfl (pi_seq (pe_call G_stretches (hr.mono (by first | decide | omega)) rfl T.d_stretches.g T.d_stretches.F.kp T.d_stretches.b .nil pass0 (pa_cons (pe_callB call_lenDD (by rfl) T.n_len (by decide +kernel) (pa_cons (pv 2) pa_nil)) (pa_cons (pe_call G_table_size (hr.mono (by first | decide | omega)) rfl T.d_table_size.g T.d_table_size.F.kp T.d_table_size.b .nil pass0 (pa_cons (pv 4) pa_nil)) pa_nil)))) (pg_sq rfl (pgs_cons (pg_name (i := 6) Sc.nd rfl (by first | exact Or.inl rfl | exact Or.inr rfl)) (pgs_cons (pg_name (i := 7) Sc.nd rfl (by first | exact Or.inl rfl | exact Or.inr rfl)) pgs_nil))) (pss_cons (ps_set (i := 8) Sc.nd rfl (by first | exact Or.inl rfl | exact Or.inr rfl) (pe_slice sl_D (pv 2) (po_some (pv 6)) (po_some (pv 7))))
      (pss_cons (ps_expr (pe_bm PySem.F.plainAttrs_list PySem.F.slot_list_extend PySem.F.type_list_extend mt_extend (pv 3) (pa_cons (pe_call GL_stretch_lumps (hr.mono (by first | decide | omega)) rfl T.d_stretch_lumps.g T.d_stretch_lumps.F.kp T.d_stretch_lumps.b .nil pass0 (pa_cons (pe_call G_entry (hr.mono (by first | decide | omega)) rfl T.d_entry.g T.d_entry.F.kp T.d_entry.b .nil pass0 (pa_cons (pv 4) (pa_cons (pe_op op_subD (pv 7) (pv 6)) pa_nil))) (pa_cons (pv 8) pa_nil))) pa_nil)))
      (pss_one (ps_expr (pe_bm PySem.F.plainAttrs_list PySem.F.slot_list_append PySem.F.type_list_append mt_append (pv 5) (pa_cons (pe_tup (pa_cons (pe_ix ix_D (pe_ix ix_D (pv 8) pe_int (fun _ _ => rfl)) pe_int (fun _ _ => rfl)) (pa_cons (pe_ix ix_D (pe_ix ix_D (pv 8) (pe_un un_negD pe_int) (fun _ _ => rfl)) pe_int (fun _ _ => rfl)) pa_nil))) pa_nil)))))))
      (pss_one (ps_pre 5 (ps_set (i := 2) Sc.nd rfl (by first | exact Or.inl rfl | exact Or.inr rfl) (pv 5)))))))
      (pss_cons (ps_expr (pe_bm PySem.F.plainAttrs_list PySem.F.slot_list_extend PySem.F.type_list_extend mt_extend (pv 3) (pa_cons (pe_call GL_end_lumps (hr.mono (by first | decide | omega)) rfl T.d_end_lumps.g T.d_end_lumps.F.kp T.d_end_lumps.b .nil pass0 (pa_cons (pe_meth0 (pv 0) T.clP T.d_Plan_end.m G_Plan_end (hr.mono (by first | decide | omega)) T.d_Plan_end.b .nil pass0) (pa_cons (pv 2) pa_nil))) pa_nil)))
      (pss_one (ps_pre 3 (ps_ret (pe_call GL_in_order (hr.mono (by first | decide | omega)) rfl T.d_in_order.g T.d_in_order.F.kp T.d_in_order.b .nil pass0 (pa_cons (pv 3) pa_nil))))))))),
      (dsl_seq (W := fun _ _ _ _ => False) (ds_asg (dc_D (da_cons (de_var 1) (da_cons de_int da_nil)) (an_cons (an_cons an_nil))) dg_name)
      (dsl_seq (W := fun _ _ _ _ => False) (ds_setO (dl_list1 (de_var 2)))
      (dsl_seq (W := fun _ _ _ _ => False) (ds_for (di_seq (dc_D (da_cons (de_var 0) (da_cons (de_var 1) da_nil)) (an_cons (an_cons an_nil)))) (dg_name (i := 4)) (ds_seq (ds_setO (dl_lst da_nil))
      (ds_seq (ds_for (di_seq (dc_D (da_cons (de_callN (da_cons (de_var 2) da_nil)) (da_cons (dc_D (da_cons (de_var 4) da_nil) (an_cons an_nil)) da_nil)) (an_cons (an_cons an_nil)))) (dg_tup (dgs_cons (dg_name (i := 6)) (dgs_cons (dg_name (i := 7)) dgs_nil))) (ds_seq (ds_asg (de_sl (de_var 2) (do_some (de_var 6)) (do_some (de_var 7))) dg_name)
      (ds_seq (ds_ext (dc_L (da_cons (dc_D (da_cons (de_var 4) (da_cons (de_op (de_var 7) (de_var 6)) da_nil)) (an_cons (an_cons an_nil))) (da_cons (de_var 8) da_nil)) (an_cons (an_cons an_nil))))
      (ds_app (de_tup (da_cons (de_op (de_op (de_var 8) de_int) de_int) (da_cons (de_op (de_op (de_var 8) (de_un de_int)) de_int) da_nil)))))))
      (ds_pre 5 (ds_asg (de_var 5) dg_name)))))
      (dsl_seq (W := fun _ _ _ _ => False) (ds_ext (dc_L (da_cons (dc_M (fun a h => (T.hi a).mp h) (de_var 0) da_nil an_nil) (da_cons (de_var 2) da_nil)) (an_cons (an_cons an_nil))))
      (dsl_pre 3 (dsl_ret (W := fun _ _ _ _ => False) (dl_TL (P := T.pT) (nm := "in_order.<locals>.<lambda>") tabG_has (da_cons (de_var 3) da_nil) (an_cons an_nil))))))))⟩
theorem ok_first_wrong_table (T : Defs K mg im) : FnOk P w K mg base CX0 72 T.d_first_wrong_table.f T.d_first_wrong_table.fd ["tables"] (spD K im 1 F_first_wrong_table) := by
  have G_wrong_table_path := ok_wrong_table_path (P := P) (w := w) (base := base) (im := im) T
  have Sc : FnScope ["tables", "k", "member", "path"] ["tables"] (defScope s_first_wrong_table) := ⟨rfl, rfl, rfl, by decide +kernel, rfl, by decide +kernel, by decide +kernel⟩
  refine fn_Dx (N := ["tables", "k", "member", "path"]) (ps := ["tables"]) (F := B_first_wrong_table) T.d_first_wrong_table.F Sc rfl rfl rfl fun cdv A outer s H Ex hr => ?_
  have hu := room_hu hr
  exact ⟨_, (pss_cons (ps_for PassesOwn.never rfl (pi_enumS rfl T.n_enumerate (pa_cons (pv 0) pa_nil)) (pg_sq rfl (pgs_cons (pg_name (i := 1) Sc.nd rfl (by first | exact Or.inl rfl | exact Or.inr rfl)) (pgs_cons (pg_name (i := 2) Sc.nd rfl (by first | exact Or.inl rfl | exact Or.inr rfl)) pgs_nil))) (pss_cons (ps_set (i := 3) Sc.nd rfl (by first | exact Or.inl rfl | exact Or.inr rfl) (pe_call G_wrong_table_path (hr.mono (by first | decide | omega)) rfl T.d_wrong_table_path.g T.d_wrong_table_path.F.kp T.d_wrong_table_path.b .nil pass0 (pa_cons (pv 2) pa_nil)))
      (pss_one (ps_if (pt_cmpR op_notND (pv 3) pe_non (nomark _)) (pss_one (ps_ret (pe_op op_addD (pe_tup (pa_cons (pv 1) pa_nil)) (pv 3)))) pss_nil))))
      (pss_one (ps_ret pe_non))),
      (ds_seq (ds_for (di_enum (de_var 0)) (dg_tup (dgs_cons (dg_name (i := 1)) (dgs_cons (dg_name (i := 2)) dgs_nil))) (ds_seq (ds_asg (dc_D (da_cons (de_var 2) da_nil) (an_cons an_nil)) dg_name)
      (ds_if (dt_test (de_op (de_var 3) de_non)) (ds_ret (de_op (de_tup (da_cons (de_var 1) da_nil)) (de_var 3))) ds_nx)))
      (ds_ret de_non))⟩
theorem ok_wrong_plan_path (T : Defs K mg im) : FnOk P w K mg base CX0 73 T.d_wrong_plan_path.f T.d_wrong_plan_path.fd ["tables", "end"] (spD K im 2 F_wrong_plan_path) := by
  have G_first_wrong_table := ok_first_wrong_table (P := P) (w := w) (base := base) (im := im) T
  have Sc : FnScope ["tables", "end", "path"] ["tables", "end"] (defScope s_wrong_plan_path) := ⟨rfl, rfl, rfl, by decide +kernel, rfl, by decide +kernel, by decide +kernel⟩
  refine fn_Dx (N := ["tables", "end", "path"]) (ps := ["tables", "end"]) (F := B_wrong_plan_path) T.d_wrong_plan_path.F Sc rfl rfl rfl fun cdv A outer s H Ex hr => ?_
  have hu := room_hu hr
  exact ⟨_, (pss_cons (ps_if (pt_not (pt_val (pe_callB call_isiT (by rfl) T.n_isinstance (by decide +kernel) (pa_cons (pv 0) (pa_cons (pe_tup (pa_cons (pe_bltn rfl T.n_list (by rfl) (show RelV (.ty "list") (.type "list") from rfl)) (pa_cons (pe_bltn rfl T.n_tuple (by rfl) (show RelV (.ty "tuple") (.type "tuple") from rfl)) pa_nil))) pa_nil))))) (pss_one (ps_ret (pe_tup (pa_cons pe_int pa_nil)))) pss_nil)
      (pss_cons (ps_set (i := 2) Sc.nd rfl (by first | exact Or.inl rfl | exact Or.inr rfl) (pe_call G_first_wrong_table (hr.mono (by first | decide | omega)) rfl T.d_first_wrong_table.g T.d_first_wrong_table.F.kp T.d_first_wrong_table.b .nil pass0 (pa_cons (pv 0) pa_nil)))
      (pss_cons (ps_if (pt_cmpR op_notND (pv 2) pe_non (nomark _)) (pss_one (ps_ret (pe_op op_addD (pe_tup (pa_cons pe_int pa_nil)) (pv 2)))) pss_nil)
      (pss_cons (ps_if (PW.pt (pw_or (pt_cmpR (op_eqDD hu) (pv 1) pe_str (nomark _)) (pw_or1 (pt_cmpR (op_eqDD hu) (pv 1) pe_str (nomark _))))) (pss_one (ps_ret pe_non)) pss_nil)
      (pss_cons (ps_if (PW.pt (pw_or (pt_not (pt_val (pe_callB call_isi (by rfl) T.n_isinstance (by decide +kernel) (pa_cons (pv 1) (pa_cons (pe_bltn rfl T.n_tuple (by rfl) (show RelV (.ty "tuple") (.type "tuple") from rfl)) pa_nil))))) (pw_or1 (pt_cmpR (op_eqDD hu) (pe_callB call_lenDD (by rfl) T.n_len (by decide +kernel) (pa_cons (pv 1) pa_nil)) pe_int (nomark _))))) (pss_one (ps_ret (pe_tup (pa_cons pe_int pa_nil)))) pss_nil)
      (pss_cons (ps_set (i := 2) Sc.nd rfl (by first | exact Or.inl rfl | exact Or.inr rfl) (pe_call G_first_wrong_table (hr.mono (by first | decide | omega)) rfl T.d_first_wrong_table.g T.d_first_wrong_table.F.kp T.d_first_wrong_table.b .nil pass0 (pa_cons (pv 1) pa_nil)))
      (pss_cons (ps_if (pt_cmpR op_notND (pv 2) pe_non (nomark _)) (pss_one (ps_ret (pe_op op_addD (pe_tup (pa_cons pe_int pa_nil)) (pv 2)))) pss_nil)
      (pss_one (ps_ret pe_non))))))))),
      (ds_seq (ds_if (dt_not (dt_B (de_isi2 (de_var 0)))) (ds_ret (de_tup (da_cons de_int da_nil))) ds_nx)
      (ds_seq (ds_asg (dc_D (da_cons (de_var 0) da_nil) (an_cons an_nil)) dg_name)
      (ds_seq (ds_if (dt_test (de_op (de_var 2) de_non)) (ds_ret (de_op (de_tup (da_cons de_int da_nil)) (de_var 2))) ds_nx)
      (ds_seq (ds_if (dt_or (dt_test (de_op (de_var 1) de_str)) (dt_test (de_op (de_var 1) de_str))) (ds_ret de_non) ds_nx)
      (ds_seq (ds_if (dt_or (dt_not (dt_B (de_isi (de_var 1)))) (dt_test (de_op (de_callN (da_cons (de_var 1) da_nil)) de_int))) (ds_ret (de_tup (da_cons de_int da_nil))) ds_nx)
      (ds_seq (ds_asg (dc_D (da_cons (de_var 1) da_nil) (an_cons an_nil)) dg_name)
      (ds_seq (ds_if (dt_test (de_op (de_var 2) de_non)) (ds_ret (de_op (de_tup (da_cons de_int da_nil)) (de_var 2))) ds_nx)
      (ds_ret de_non))))))))⟩
theorem ok_law_stage (T : Defs K mg im) : FnOk P w K mg base CX0 1 T.d_law_stage.f T.d_law_stage.fd ["_law_world", "_law_k"] (spD K im 2 F_law_stage) := by
  have Sc : FnScope ["_law_world", "_law_k"] ["_law_world", "_law_k"] (defScope s_law_stage) := ⟨rfl, rfl, rfl, by decide +kernel, rfl, by decide +kernel, by decide +kernel⟩
  refine fn_Dx (N := ["_law_world", "_law_k"]) (ps := ["_law_world", "_law_k"]) (F := B_law_stage) T.d_law_stage.F Sc rfl rfl rfl fun cdv A outer s H Ex hr => ?_
  have hu := room_hu hr
  exact ⟨_, (pss_cons (ps_if (pt_cmpR op_ltD (pv 1) (pe_callB call_lenDD (by rfl) T.n_len (by decide +kernel) (pa_cons (pe_dget (hu1 hu) (pv 0) pe_str (fun _ _ => rfl)) pa_nil)) (nomark _)) (pss_one (ps_ret (pe_ix ix_D (pe_dget (hu1 hu) (pv 0) pe_str (fun _ _ => rfl)) (pv 1) (fun _ _ => rfl)))) pss_nil)
      (pss_cons (ps_if (pt_cmpR (op_inTD hu) (pe_dget (hu1 hu) (pv 0) pe_str (fun _ _ => rfl)) (pe_tup (pa_cons pe_str (pa_cons pe_str pa_nil))) (by rfl)) (pss_one (ps_ret pe_non)) pss_nil)
      (pss_one (ps_ret (pe_ix ix_D (pe_dget (hu1 hu) (pv 0) pe_str (fun _ _ => rfl)) (pe_op op_modD (pe_callTy call_intDD (by rfl) T.n_int (by decide +kernel) (pa_cons (pe_op op_subD (pv 1) (pe_callB call_lenDD (by rfl) T.n_len (by decide +kernel) (pa_cons (pe_dget (hu1 hu) (pv 0) pe_str (fun _ _ => rfl)) pa_nil))) pa_nil)) (pe_callB call_lenDD (by rfl) T.n_len (by decide +kernel) (pa_cons (pe_dget (hu1 hu) (pv 0) pe_str (fun _ _ => rfl)) pa_nil))) (fun _ _ => rfl)))))),
      (ds_seq (ds_if (dt_test (de_op (de_var 1) (de_callN (da_cons (de_dgK (plK 0) de_str) da_nil)))) (ds_ret (de_op (de_dgK (plK 0) de_str) (de_var 1))) ds_nx)
      (ds_seq (ds_if (dt_test (de_op (de_dgK (plK 0) de_str) (de_tup (da_cons de_str (da_cons de_str da_nil))))) (ds_ret de_non) ds_nx)
      (ds_ret (de_op (de_dgK (plK 0) de_str) (de_op (de_callN (da_cons (de_op (de_var 1) (de_callN (da_cons (de_dgK (plK 0) de_str) da_nil))) da_nil)) (de_callN (da_cons (de_dgK (plK 0) de_str) da_nil)))))))⟩
theorem ok_law_rows (T : Defs K mg im) : FnOk P w K mg base CX0 2 T.d_law_rows.f T.d_law_rows.fd ["_law_world", "_law_n"] (spD K im 2 F_law_rows) := by
  have G_law_stage := ok_law_stage (P := P) (w := w) (base := base) (im := im) T
  have Sc : FnScope ["_law_world", "_law_n", "_law_rows_here", "_law_here", "_law_size_here", "_law_i"] ["_law_world", "_law_n"] (defScope s_law_rows) := ⟨rfl, rfl, rfl, by decide +kernel, rfl, by decide +kernel, by decide +kernel⟩
  refine fn_Dx (N := ["_law_world", "_law_n", "_law_rows_here", "_law_here", "_law_size_here", "_law_i"]) (ps := ["_law_world", "_law_n"]) (F := B_law_rows) T.d_law_rows.F Sc rfl rfl rfl fun cdv A outer s H Ex hr => ?_
  have hu := room_hu hr
  exact ⟨_, (pss_cons (ps_set (i := 2) Sc.nd rfl (by first | exact Or.inl rfl | exact Or.inr rfl) (pe_lst (pa_cons (pe_frz (pe_lc (own := [("_law_i", 5)]) rfl Sc.nd (pi_range1 rfl T.n_range (pa_cons (pv 1) pa_nil)) (blkOk_by (own := [("_law_i", 5)]) (N := ["_law_world", "_law_n", "_law_rows_here", "_law_here", "_law_size_here", "_law_i"]) (sc := defScope s_law_rows) (by decide +kernel)) (fun _ _ _ _ _ => (pg_name (i := 5) Sc.nd rfl (by first | exact Or.inl rfl | exact Or.inr rfl))) (fun _ _ _ _ _ => pts_nil) (fun _ _ _ _ _ => (pe_tup (pa_cons (pv 5) (pa_cons (pe_op op_addD (pv 5) pe_int) pa_nil)))))) pa_nil)))
      (pss_cons (ps_while PassesOwn.never (PW.pt (pw_and (pt_cmpR op_gtD (pe_callB call_lenDD (by rfl) T.n_len (by decide +kernel) (pa_cons (pe_ix ix_list (pv 2) (pe_un un_negD pe_int) (fun _ _ => rfl)) pa_nil)) pe_int (nomark _)) (pw_and1 (pt_cmpR op_notND (pe_call G_law_stage (hr.mono (by first | decide | omega)) rfl T.d_law_stage.g T.d_law_stage.F.kp T.d_law_stage.b .nil pass0 (pa_cons (pv 0) (pa_cons (pe_op op_subD (pe_callB call_len_seq (by rfl) T.n_len (by decide +kernel) (pa_cons (pv 2) pa_nil)) pe_int) pa_nil))) pe_non (nomark _))))) (pss_cons (ps_asg (pe_tup (pa_cons (pe_ix ix_list (pv 2) (pe_un un_negD pe_int) (fun _ _ => rfl)) (pa_cons (pe_op op_addD (pe_callB call_lenDD (by rfl) T.n_len (by decide +kernel) (pa_cons (pe_call G_law_stage (hr.mono (by first | decide | omega)) rfl T.d_law_stage.g T.d_law_stage.F.kp T.d_law_stage.b .nil pass0 (pa_cons (pv 0) (pa_cons (pe_op op_subD (pe_callB call_len_seq (by rfl) T.n_len (by decide +kernel) (pa_cons (pv 2) pa_nil)) pe_int) pa_nil))) pa_nil)) pe_int) pa_nil))) (pg_sq rfl (pgs_cons (pg_name (i := 3) Sc.nd rfl (by first | exact Or.inl rfl | exact Or.inr rfl)) (pgs_cons (pg_name (i := 4) Sc.nd rfl (by first | exact Or.inl rfl | exact Or.inr rfl)) pgs_nil))))
      (pss_one (ps_expr (pe_bm PySem.F.plainAttrs_list PySem.F.slot_list_append PySem.F.type_list_append mt_append (pv 2) (pa_cons (pe_frz (pe_lc (own := [("_law_i", 5)]) rfl Sc.nd (pi_range3 rfl T.n_range (pa_cons pe_int (pa_cons (pe_callB call_lenDD (by rfl) T.n_len (by decide +kernel) (pa_cons (pv 3) pa_nil)) (pa_cons (pv 4) pa_nil)))) (blkOk_by (own := [("_law_i", 5)]) (N := ["_law_world", "_law_n", "_law_rows_here", "_law_here", "_law_size_here", "_law_i"]) (sc := defScope s_law_rows) (by decide +kernel)) (fun _ _ _ _ _ => (pg_name (i := 5) Sc.nd rfl (by first | exact Or.inl rfl | exact Or.inr rfl))) (fun _ _ _ _ _ => pts_nil) (fun _ _ _ _ _ => (pe_tup (pa_cons (pe_ix ix_D (pe_ix ix_D (pv 3) (pv 5) (fun _ _ => rfl)) pe_int (fun _ _ => rfl)) (pa_cons (pe_ix ix_D (pe_ix ix_D (pv 3) (pe_op op_subD (pe_callB (call_min2DD rfl) (by rfl) T.n_min (by decide +kernel) (pa_cons (pe_op op_addD (pv 5) (pv 4)) (pa_cons (pe_callB call_lenDD (by rfl) T.n_len (by decide +kernel) (pa_cons (pv 3) pa_nil)) pa_nil))) pe_int) (fun _ _ => rfl)) pe_int (fun _ _ => rfl)) pa_nil)))))) pa_nil))))))
      (pss_one (ps_ret (pe_frz (pv 2)))))),
      (ds_seq (ds_setO (dl_lst (da_cons (de_frz (dl_lc (W' := fun _ _ _ _ => False) (vs := [5]) (di_rg1 (da_cons (de_var 1) da_nil)) (dg_name (i := 5)) dt_yes (de_tup (da_cons (de_var 5) (da_cons (de_op (de_var 5) de_int) da_nil))) (fun _ h => h))) da_nil)))
      (ds_seq (ds_while (n := (fun _ _ => 100)) (dt_and (dt_test (de_op (de_callN (da_cons (de_oIx (de_un de_int)) da_nil)) de_int)) (dt_test (de_op (dc_D (da_cons (de_var 0) (da_cons (de_op de_oLen de_int) da_nil)) (an_cons (an_cons an_nil))) de_non))) (ds_seq (ds_asg (de_tup (da_cons (de_oIx (de_un de_int)) (da_cons (de_op (de_callN (da_cons (dc_D (da_cons (de_var 0) (da_cons (de_op de_oLen de_int) da_nil)) (an_cons (an_cons an_nil))) da_nil)) de_int) da_nil))) (dg_tup (dgs_cons (dg_name (i := 3)) (dgs_cons (dg_name (i := 4)) dgs_nil))))
      (ds_app (de_frz (dl_lc (W' := fun _ _ _ _ => False) (vs := [5]) (di_rg3 (da_cons de_int (da_cons (de_callN (da_cons (de_var 3) da_nil)) (da_cons (de_var 4) da_nil)))) (dg_name (i := 5)) dt_yes (de_tup (da_cons (de_op (de_op (de_var 3) (de_var 5)) de_int) (da_cons (de_op (de_op (de_var 3) (de_op (de_callN (da_cons (de_op (de_var 5) (de_var 4)) (da_cons (de_callN (da_cons (de_var 3) da_nil)) da_nil))) de_int)) de_int) da_nil))) (fun _ h => h))))))
      ds_retO))⟩
theorem ok_law_entry (T : Defs K mg im) : FnOk P w K mg base CX0 1 T.d_law_entry.f T.d_law_entry.fd ["_law_table_here", "_law_m"] (spD K im 2 F_law_entry) := by
  have Sc : FnScope ["_law_table_here", "_law_m"] ["_law_table_here", "_law_m"] (defScope s_law_entry) := ⟨rfl, rfl, rfl, by decide +kernel, rfl, by decide +kernel, by decide +kernel⟩
  refine fn_Dx (N := ["_law_table_here", "_law_m"]) (ps := ["_law_table_here", "_law_m"]) (F := B_law_entry) T.d_law_entry.F Sc rfl rfl rfl fun cdv A outer s H Ex hr => ?_
  have hu := room_hu hr
  exact ⟨_, (pss_one (ps_ret (pe_ifExp (pt_cmpR (op_eqDD hu) (pv 1) pe_int (nomark _)) (pe_tup pa_nil) (pe_ix ix_D (pv 0) (pe_op op_subD (pv 1) pe_int) (fun _ _ => rfl))))),
      (ds_ret (de_if (dt_test (de_op (de_var 1) de_int)) (de_tup da_nil) (de_op (de_var 0) (de_op (de_var 1) de_int))))⟩
theorem ok_law_size (T : Defs K mg im) : ∀ n, FnOk P w K mg base CX0 (0 + n) T.d_law_size.f T.d_law_size.fd ["_law_form"] (spD K im 1 (F_law_size n))
  | 0 => FnOk.no fun _ _ _ _ => spD_no
  | n + 1 => by
    have ih := ok_law_size T n
    have Sc : FnScope ["_law_form"] ["_law_form"] (defScope s_law_size) := ⟨rfl, rfl, rfl, by decide +kernel, rfl, by decide +kernel, by decide +kernel⟩
    refine fn_Dx (k := 0 + n) (N := ["_law_form"]) (ps := ["_law_form"]) (F := B_law_size (F_law_size n)) T.d_law_size.F Sc rfl rfl rfl fun cdv A outer s H Ex hr => ?_
    have hu := room_hu hr
    exact ⟨_, (pss_one (ps_ret (pe_ifExp (pt_cmpR (op_eqDD hu) (pv 0) (pe_tup pa_nil) (nomark _)) pe_int (pe_op op_addD (pe_call ih hr rfl T.d_law_size.g T.d_law_size.F.kp T.d_law_size.b .nil pass0 (pa_cons (pe_ix ix_D (pv 0) pe_int (fun _ _ => rfl)) pa_nil)) (pe_call ih hr rfl T.d_law_size.g T.d_law_size.F.kp T.d_law_size.b .nil pass0 (pa_cons (pe_ix ix_D (pv 0) pe_int (fun _ _ => rfl)) pa_nil)))))),
      (ds_ret (de_if (dt_test (de_op (de_var 0) (de_tup da_nil))) de_int (de_op (dc_D (da_cons (de_op (de_var 0) de_int) da_nil) (an_cons an_nil)) (dc_D (da_cons (de_op (de_var 0) de_int) da_nil) (an_cons an_nil)))))⟩
theorem ok_law_lumps (T : Defs K mg im) : ∀ n, FnOk P w K mg base CX0 (70 + n) T.d_law_lumps.f T.d_law_lumps.fd ["_law_form", "_law_start"] (spD K im 2 (F_law_lumps n))
  | 0 => FnOk.no fun _ _ _ _ => spD_no
  | n + 1 => by
    have ih := ok_law_lumps T n
    have G_law_size := ok_law_size (P := P) (w := w) (base := base) (im := im) T
    have Sc : FnScope ["_law_form", "_law_start", "_law_size_here", "_law_at"] ["_law_form", "_law_start"] (defScope s_law_lumps) := ⟨rfl, rfl, rfl, by decide +kernel, rfl, by decide +kernel, by decide +kernel⟩
    refine fn_Dx (k := 70 + n) (N := ["_law_form", "_law_start", "_law_size_here", "_law_at"]) (ps := ["_law_form", "_law_start"]) (F := B_law_lumps (F_law_lumps n)) T.d_law_lumps.F Sc rfl rfl rfl fun cdv A outer s H Ex hr => ?_
    have hu := room_hu hr
    exact ⟨_, (pss_cons (ps_set (i := 2) Sc.nd rfl (by first | exact Or.inl rfl | exact Or.inr rfl) (pe_call (G_law_size 70) (hr.mono (by first | decide | omega)) rfl T.d_law_size.g T.d_law_size.F.kp T.d_law_size.b .nil pass0 (pa_cons (pv 0) pa_nil)))
      (pss_cons (ps_if (pt_cmpR (op_eqDD hu) (pv 0) (pe_tup pa_nil) (nomark _)) (pss_one (ps_ret (pe_frz (pe_lst (pa_cons (pe_tup (pa_cons (pv 1) (pa_cons (pe_op op_addD (pv 1) pe_int) pa_nil))) pa_nil))))) pss_nil)
      (pss_cons (ps_set (i := 3) Sc.nd rfl (by first | exact Or.inl rfl | exact Or.inr rfl) (pe_op op_addD (pv 1) (pe_call (G_law_size 70) (hr.mono (by first | decide | omega)) rfl T.d_law_size.g T.d_law_size.F.kp T.d_law_size.b .nil pass0 (pa_cons (pe_ix ix_D (pv 0) pe_int (fun _ _ => rfl)) pa_nil))))
      (pss_one (ps_ret (pe_op op_addD (pe_op op_addD (pe_frz (pe_lst (pa_cons (pe_tup (pa_cons (pv 1) (pa_cons (pe_op op_addD (pv 1) (pv 2)) pa_nil))) pa_nil))) (pe_call ih hr rfl T.d_law_lumps.g T.d_law_lumps.F.kp T.d_law_lumps.b .nil pass0 (pa_cons (pe_ix ix_D (pv 0) pe_int (fun _ _ => rfl)) (pa_cons (pv 1) pa_nil)))) (pe_call ih hr rfl T.d_law_lumps.g T.d_law_lumps.F.kp T.d_law_lumps.b .nil pass0 (pa_cons (pe_ix ix_D (pv 0) pe_int (fun _ _ => rfl)) (pa_cons (pv 3) pa_nil))))))))),
      (ds_seq (ds_asg (dc_D (da_cons (de_var 0) da_nil) (an_cons an_nil)) dg_name)
      (ds_seq (ds_if (dt_test (de_op (de_var 0) (de_tup da_nil))) (ds_ret (de_frz (dl_lst (da_cons (de_tup (da_cons (de_var 1) (da_cons (de_op (de_var 1) de_int) da_nil))) da_nil)))) ds_nx)
      (ds_seq (ds_asg (de_op (de_var 1) (dc_D (da_cons (de_op (de_var 0) de_int) da_nil) (an_cons an_nil))) dg_name)
      (ds_ret (de_op (de_op (de_frz (dl_lst (da_cons (de_tup (da_cons (de_var 1) (da_cons (de_op (de_var 1) (de_var 2)) da_nil))) da_nil))) (dc_D (da_cons (de_op (de_var 0) de_int) (da_cons (de_var 1) da_nil)) (an_cons (an_cons an_nil)))) (dc_D (da_cons (de_op (de_var 0) de_int) (da_cons (de_var 3) da_nil)) (an_cons (an_cons an_nil))))))))⟩
theorem ok_law_pick (T : Defs K mg im) : FnOk P w K mg base CX0 1 T.d_law_pick.f T.d_law_pick.fd ["_law_source_here", "_law_many"] (spW K (srcG im) 2 0 F_law_pick) := by
  have Sc : FnScope ["_law_source_here", "_law_many", "_law_left", "_law_mixed"] ["_law_source_here", "_law_many"] (defScope s_law_pick) := ⟨rfl, rfl, rfl, by decide +kernel, rfl, by decide +kernel, by decide +kernel⟩
  refine fn_Wx (Γ := srcG im) (N := ["_law_source_here", "_law_many", "_law_left", "_law_mixed"]) (ps := ["_law_source_here", "_law_many"]) (F := B_law_pick) T.d_law_pick.F Sc rfl rfl rfl fun p cdv A outer s H Ex hr => ?_
  have hu := room_hu hr
  exact ⟨_, (pss_cons (ps_while PassesOwn.never (PW.pt (pw_and (pt_cmpR op_gtD (pv 1) pe_int (nomark _)) (pw_and (pt_cmpR op_ltD (pe_dget (hu1 hu) (pv 0) pe_str (fun _ _ => rfl)) pe_int (nomark _)) (pw_and1 (pt_cmpR op_gtD (pe_callB call_len_seq (by rfl) T.n_len (by decide +kernel) (pa_cons (pe_dget (hu1 hu) (pv 0) pe_str (fun _ _ => rfl)) pa_nil)) pe_int (nomark _)))))) (pss_one (ps_dput (hu1 hu) (pv 0) pe_str (pe_bm0 PySem.F.plainAttrs_list PySem.F.slot_list_pop PySem.F.type_list_pop mt_pop (pe_dget (hu1 hu) (pv 0) pe_str (fun _ _ => rfl))) (by rfl))))
      (pss_cons (ps_set (i := 2) Sc.nd rfl (by first | exact Or.inl rfl | exact Or.inr rfl) (pe_dget (hu1 hu) (pv 0) pe_str (fun _ _ => rfl)))
      (pss_cons (ps_if (PW.pt (pw_or (pt_cmpR op_ltD (pv 1) pe_int (nomark _)) (pw_or1 (pt_cmpR op_gtD (pv 2) pe_int (nomark _))))) (pss_cons (ps_dput (hu1 hu) (pv 0) pe_str (pe_op op_fdivD (pv 2) (pe_callB (call_max2DD rfl) (by rfl) T.n_max (by decide +kernel) (pa_cons pe_int (pa_cons (pv 1) pa_nil)))) (by rfl))
      (pss_one (ps_ret (pe_op op_modD (pe_callTy call_intDD (by rfl) T.n_int (by decide +kernel) (pa_cons (pv 2) pa_nil)) (pe_callB (call_max2DD rfl) (by rfl) T.n_max (by decide +kernel) (pa_cons pe_int (pa_cons (pv 1) pa_nil))))))) pss_nil)
      (pss_cons (ps_dput (hu1 hu) (pv 0) pe_str (pe_op op_addD (pe_dget (hu1 hu) (pv 0) pe_str (fun _ _ => rfl)) pe_int) (by rfl))
      (pss_cons (ps_set (i := 3) Sc.nd rfl (by first | exact Or.inl rfl | exact Or.inr rfl) (pe_op op_modD (pe_callTy call_intDD (by rfl) T.n_int (by decide +kernel) (pa_cons (pe_op op_addD (pe_dget (hu1 hu) (pv 0) pe_str (fun _ _ => rfl)) (pe_op op_mulD (pe_dget (hu1 hu) (pv 0) pe_str (fun _ _ => rfl)) pe_int)) pa_nil)) pe_int))
      (pss_cons (ps_set (i := 3) Sc.nd rfl (by first | exact Or.inl rfl | exact Or.inr rfl) (pe_op op_modD (pe_callTy call_intDD (by rfl) T.n_int (by decide +kernel) (pa_cons (pe_op op_addD (pe_op op_mulD (pv 3) (pv 3)) (pe_op op_mulD (pe_dget (hu1 hu) (pv 0) pe_str (fun _ _ => rfl)) pe_int)) pa_nil)) pe_int))
      (pss_cons (ps_dput (hu1 hu) (pv 0) pe_str (pv 3) (by rfl))
      (pss_one (ps_ret (pe_op op_modD (pe_callTy call_intDD (by rfl) T.n_int (by decide +kernel) (pa_cons (pe_op op_fdivD (pv 3) pe_int) pa_nil)) (pv 1))))))))))),
      (ds_seq (ds_while (n := (fun _ ω => ω.cells.length + 2)) (dt_and (dt_test (de_op (de_var 1) de_int)) (dt_and (dt_test (de_op de_srcL de_int)) (dt_test (de_op de_srcN de_int)))) (ds_srcL de_srcP))
      (ds_seq (ds_asg de_srcL dg_name)
      (ds_seq (ds_if (dt_or (dt_test (de_op (de_var 1) de_int)) (dt_test (de_op (de_var 2) de_int))) (ds_seq (ds_srcL (de_op (de_var 2) (de_callN (da_cons de_int (da_cons (de_var 1) da_nil)))))
      (ds_ret (de_op (de_callN (da_cons (de_var 2) da_nil)) (de_callN (da_cons de_int (da_cons (de_var 1) da_nil)))))) ds_nx)
      (ds_seq (ds_srcT (de_op de_srcT de_int))
      (ds_seq (ds_asg (de_op (de_callN (da_cons (de_op de_srcM (de_op de_srcT de_int)) da_nil)) de_int) dg_name)
      (ds_seq (ds_asg (de_op (de_callN (da_cons (de_op (de_op (de_var 3) (de_var 3)) (de_op de_srcT de_int)) da_nil)) de_int) dg_name)
      (ds_seq (ds_srcM (de_var 3))
      (ds_ret (de_op (de_callN (da_cons (de_op (de_var 3) de_int) da_nil)) (de_var 1))))))))))⟩
theorem ok_law_comb (T : Defs K mg im) : FnOk P w K mg base CX0 1 T.d_law_comb.f T.d_law_comb.fd ["_law_n", "_law_side"] (spD K im 2 F_law_comb) := by
  have Sc : FnScope ["_law_n", "_law_side", "_law_found", "_law_lap"] ["_law_n", "_law_side"] (defScope s_law_comb) := ⟨rfl, rfl, rfl, by decide +kernel, rfl, by decide +kernel, by decide +kernel⟩
  refine fn_Dx (N := ["_law_n", "_law_side", "_law_found", "_law_lap"]) (ps := ["_law_n", "_law_side"]) (F := B_law_comb) T.d_law_comb.F Sc rfl rfl rfl fun cdv A outer s H Ex hr => ?_
  have hu := room_hu hr
  exact ⟨_, (pss_cons (ps_set (i := 2) Sc.nd rfl (by first | exact Or.inl rfl | exact Or.inr rfl) (pe_tup pa_nil))
      (pss_cons (ps_for PassesOwn.never rfl (pi_range1 rfl T.n_range (pa_cons (pe_op op_subD (pv 0) pe_int) pa_nil)) (pg_name (i := 3) Sc.nd rfl (by first | exact Or.inl rfl | exact Or.inr rfl)) (pss_one (ps_set (i := 2) Sc.nd rfl (by first | exact Or.inl rfl | exact Or.inr rfl) (pe_ifExp (pt_cmpR (op_eqDD hu) (pv 1) pe_str (nomark _)) (pe_tup (pa_cons (pv 2) (pa_cons (pe_tup pa_nil) pa_nil))) (pe_tup (pa_cons (pe_tup pa_nil) (pa_cons (pv 2) pa_nil)))))))
      (pss_one (ps_ret (pv 2))))),
      (ds_seq (ds_asg (de_tup da_nil) dg_name)
      (ds_seq (ds_for (di_rg1 (da_cons (de_op (de_var 0) de_int) da_nil)) (dg_name (i := 3)) (ds_asg (de_if (dt_test (de_op (de_var 1) de_str)) (de_tup (da_cons (de_var 2) (da_cons (de_tup da_nil) da_nil))) (de_tup (da_cons (de_tup da_nil) (da_cons (de_var 2) da_nil)))) dg_name))
      (ds_ret (de_var 2))))⟩
theorem ok_law_halves (T : Defs K mg im) : ∀ n, FnOk P w K mg base CX0 (0 + n) T.d_law_halves.f T.d_law_halves.fd ["_law_n"] (spD K im 1 (F_law_halves n))
  | 0 => FnOk.no fun _ _ _ _ => spD_no
  | n + 1 => by
    have ih := ok_law_halves T n
    have Sc : FnScope ["_law_n"] ["_law_n"] (defScope s_law_halves) := ⟨rfl, rfl, rfl, by decide +kernel, rfl, by decide +kernel, by decide +kernel⟩
    refine fn_Dx (k := 0 + n) (N := ["_law_n"]) (ps := ["_law_n"]) (F := B_law_halves (F_law_halves n)) T.d_law_halves.F Sc rfl rfl rfl fun cdv A outer s H Ex hr => ?_
    have hu := room_hu hr
    exact ⟨_, (pss_one (ps_ret (pe_ifExp (pt_cmpR op_ltD (pv 0) pe_int (nomark _)) (pe_tup pa_nil) (pe_tup (pa_cons (pe_call ih hr rfl T.d_law_halves.g T.d_law_halves.F.kp T.d_law_halves.b .nil pass0 (pa_cons (pe_op op_subD (pv 0) (pe_op op_fdivD (pv 0) pe_int)) pa_nil)) (pa_cons (pe_call ih hr rfl T.d_law_halves.g T.d_law_halves.F.kp T.d_law_halves.b .nil pass0 (pa_cons (pe_op op_fdivD (pv 0) pe_int) pa_nil)) pa_nil)))))),
      (ds_ret (de_if (dt_test (de_op (de_var 0) de_int)) (de_tup da_nil) (de_tup (da_cons (dc_D (da_cons (de_op (de_var 0) (de_op (de_var 0) de_int)) da_nil) (an_cons an_nil)) (da_cons (dc_D (da_cons (de_op (de_var 0) de_int) da_nil) (an_cons an_nil)) da_nil)))))⟩
theorem ok_law_shape (T : Defs K mg im) : ∀ n, FnOk P w K mg base CX0 (70 + n) T.d_law_shape.f T.d_law_shape.fd ["_law_source_here", "_law_n"] (spW K (srcG im) 2 0 (F_law_shape n))
  | 0 => FnOk.no fun _ _ _ _ => spW_no
  | n + 1 => by
    have ih := ok_law_shape T n
    have G_law_pick := ok_law_pick (P := P) (w := w) (base := base) (im := im) T
    have G_law_comb := ok_law_comb (P := P) (w := w) (base := base) (im := im) T
    have G_law_halves := ok_law_halves (P := P) (w := w) (base := base) (im := im) T
    have Sc : FnScope ["_law_source_here", "_law_n", "_law_way", "_law_at"] ["_law_source_here", "_law_n"] (defScope s_law_shape) := ⟨rfl, rfl, rfl, by decide +kernel, rfl, by decide +kernel, by decide +kernel⟩
    refine fn_Wx (Γ := srcG im) (k := 70 + n) (N := ["_law_source_here", "_law_n", "_law_way", "_law_at"]) (ps := ["_law_source_here", "_law_n"]) (F := B_law_shape (F_law_shape n)) T.d_law_shape.F Sc rfl rfl rfl fun p cdv A outer s H Ex hr => ?_
    have hu := room_hu hr
    exact ⟨_, (pss_cons (ps_set (i := 2) Sc.nd rfl (by first | exact Or.inl rfl | exact Or.inr rfl) (pe_call G_law_pick (hr.mono (by first | decide | omega)) rfl T.d_law_pick.g T.d_law_pick.F.kp T.d_law_pick.b .nil pass0 (pa_cons (pv 0) (pa_cons pe_int pa_nil))))
      (pss_cons (ps_if (PW.pt (pw_or (pt_cmpR op_ltD (pv 1) pe_int (nomark _)) (pw_or1 (pt_cmpR op_ltD (pv 2) pe_int (nomark _))))) (pss_one (ps_ret (pe_ix ix_D (pe_frz (pe_lst (pa_cons (pe_call G_law_comb (hr.mono (by first | decide | omega)) rfl T.d_law_comb.g T.d_law_comb.F.kp T.d_law_comb.b .nil pass0 (pa_cons (pv 1) (pa_cons pe_str pa_nil))) (pa_cons (pe_call G_law_comb (hr.mono (by first | decide | omega)) rfl T.d_law_comb.g T.d_law_comb.F.kp T.d_law_comb.b .nil pass0 (pa_cons (pv 1) (pa_cons pe_str pa_nil))) (pa_cons (pe_call (G_law_halves 70) (hr.mono (by first | decide | omega)) rfl T.d_law_halves.g T.d_law_halves.F.kp T.d_law_halves.b .nil pass0 (pa_cons (pv 1) pa_nil)) pa_nil))))) (pe_ifExp (pt_cmpR op_ltD (pv 2) pe_int (nomark _)) (pv 2) pe_int) (fun _ _ => rfl)))) pss_nil)
      (pss_cons (ps_set (i := 3) Sc.nd rfl (by first | exact Or.inl rfl | exact Or.inr rfl) (pe_op op_addD pe_int (pe_call G_law_pick (hr.mono (by first | decide | omega)) rfl T.d_law_pick.g T.d_law_pick.F.kp T.d_law_pick.b .nil pass0 (pa_cons (pv 0) (pa_cons (pe_op op_subD (pv 1) pe_int) pa_nil)))))
      (pss_one (ps_ret (pe_tup (pa_cons (pe_call ih hr rfl T.d_law_shape.g T.d_law_shape.F.kp T.d_law_shape.b .nil pass0 (pa_cons (pv 0) (pa_cons (pv 3) pa_nil))) (pa_cons (pe_call ih hr rfl T.d_law_shape.g T.d_law_shape.F.kp T.d_law_shape.b .nil pass0 (pa_cons (pv 0) (pa_cons (pe_op op_subD (pv 1) (pv 3)) pa_nil))) pa_nil)))))))),
      (ds_seq (ds_asg (dc_W (da_cons de_int da_nil) (an_cons an_nil)) dg_name)
      (ds_seq (ds_if (dt_or (dt_test (de_op (de_var 1) de_int)) (dt_test (de_op (de_var 2) de_int))) (ds_ret (de_op (de_frz (dl_lst (da_cons (dc_D (da_cons (de_var 1) (da_cons de_str da_nil)) (an_cons (an_cons an_nil))) (da_cons (dc_D (da_cons (de_var 1) (da_cons de_str da_nil)) (an_cons (an_cons an_nil))) (da_cons (dc_D (da_cons (de_var 1) da_nil) (an_cons an_nil)) da_nil))))) (de_if (dt_test (de_op (de_var 2) de_int)) (de_var 2) de_int))) ds_nx)
      (ds_seq (ds_asg (de_op de_int (dc_W (da_cons (de_op (de_var 1) de_int) da_nil) (an_cons an_nil))) dg_name)
      (ds_ret (de_tup (da_cons (dc_W (da_cons (de_var 3) da_nil) (an_cons an_nil)) (da_cons (dc_W (da_cons (de_op (de_var 1) (de_var 3)) da_nil) (an_cons an_nil)) da_nil)))))))⟩
theorem ok_law_any_table (T : Defs K mg im) : FnOk P w K mg base CX0 141 T.d_law_any_table.f T.d_law_any_table.fd ["_law_source_here", "_law_size_here"] (spW K (srcG im) 2 0 F_law_any_table) := by
  have G_law_shape := ok_law_shape (P := P) (w := w) (base := base) (im := im) T
  have Sc : FnScope ["_law_source_here", "_law_size_here", "_law_m"] ["_law_source_here", "_law_size_here"] (defScope s_law_any_table) := ⟨rfl, rfl, rfl, by decide +kernel, rfl, by decide +kernel, by decide +kernel⟩
  refine fn_Wx (Γ := srcG im) (N := ["_law_source_here", "_law_size_here", "_law_m"]) (ps := ["_law_source_here", "_law_size_here"]) (F := B_law_any_table) T.d_law_any_table.F Sc rfl rfl rfl fun p cdv A outer s H Ex hr => ?_
  have hu := room_hu hr
  exact ⟨_, (pss_one (ps_ret (pe_callTy call_tupleDD (by rfl) T.n_tuple (by decide +kernel) (pa_cons (pe_frz (pe_lc (own := [("_law_m", 2)]) rfl Sc.nd (pi_range2 rfl T.n_range (pa_cons pe_int (pa_cons (pe_op op_addD (pv 1) pe_int) pa_nil))) (blkOk_by (own := [("_law_m", 2)]) (N := ["_law_source_here", "_law_size_here", "_law_m"]) (sc := defScope s_law_any_table) (by decide +kernel)) (fun _ _ _ _ _ => (pg_name (i := 2) Sc.nd rfl (by first | exact Or.inl rfl | exact Or.inr rfl))) (fun _ _ _ _ _ => pts_nil) (fun _ _ _ _ _ => (pe_call (G_law_shape 70) (hr.mono (by first | decide | omega)) rfl T.d_law_shape.g T.d_law_shape.F.kp T.d_law_shape.b .nil pass0 (pa_cons (pv 0) (pa_cons (pv 2) pa_nil)))))) pa_nil)))),
      (ds_ret (de_callN (da_cons (de_frz (dl_lc (W' := fun _ _ _ _ => False) (vs := [2]) (di_rg2 (da_cons de_int (da_cons (de_op (de_var 1) de_int) da_nil))) (dg_name (i := 2)) dt_yes (dc_W (da_cons (de_var 2) da_nil) (an_cons an_nil)) (fun _ h => h))) da_nil)))⟩
theorem ok_law_of (T : Defs K mg im) : FnOk P w K mg base CX0 2 T.d_law_of.f T.d_law_of.fd ["_law_source_here", "_law_some"] (spW K (srcG im) 2 0 F_law_of) := by
  have G_law_pick := ok_law_pick (P := P) (w := w) (base := base) (im := im) T
  have Sc : FnScope ["_law_source_here", "_law_some"] ["_law_source_here", "_law_some"] (defScope s_law_of) := ⟨rfl, rfl, rfl, by decide +kernel, rfl, by decide +kernel, by decide +kernel⟩
  refine fn_Wx (Γ := srcG im) (N := ["_law_source_here", "_law_some"]) (ps := ["_law_source_here", "_law_some"]) (F := B_law_of) T.d_law_of.F Sc rfl rfl rfl fun p cdv A outer s H Ex hr => ?_
  have hu := room_hu hr
  exact ⟨_, (pss_one (ps_ret (pe_ix ix_D (pv 1) (pe_call G_law_pick (hr.mono (by first | decide | omega)) rfl T.d_law_pick.g T.d_law_pick.F.kp T.d_law_pick.b .nil pass0 (pa_cons (pv 0) (pa_cons (pe_callB call_lenDD (by rfl) T.n_len (by decide +kernel) (pa_cons (pv 1) pa_nil)) pa_nil))) (fun _ _ => rfl)))),
      (ds_ret (de_op (de_var 1) (dc_W (da_cons (de_callN (da_cons (de_var 1) da_nil)) da_nil) (an_cons an_nil))))⟩
theorem ok_Plan_init (T : Defs K mg im) : FnOk P w K mg base CX0 74 T.d_Plan_init.f T.d_Plan_init.fd ["self", "tables", "end"] (spI K im T.cP 3 ["_tables", "_end"] F_Plan_init) := by
  have G_wrong_plan_path := ok_wrong_plan_path (P := P) (w := w) (base := base) (im := im) T
  have Sc : FnScope ["self", "tables", "end", "path"] ["self", "tables", "end"] (defScope s_Plan_init) := ⟨rfl, rfl, rfl, by decide +kernel, rfl, by decide +kernel, by decide +kernel⟩
  refine fn_I (N := ["self", "tables", "end", "path"]) (ps := ["self", "tables", "end"]) (F := B_Plan_init) T.d_Plan_init.F Sc rfl rfl (by decide) rfl fun cdv A outer s H Ex hr => ?_
  have hu := room_hu hr
  exact ⟨_, (pss_cons (ps_set (i := 3) Sc.nd rfl (by first | exact Or.inl rfl | exact Or.inr rfl) (pe_call G_wrong_plan_path (hr.mono (by first | decide | omega)) rfl T.d_wrong_plan_path.g T.d_wrong_plan_path.F.kp T.d_wrong_plan_path.b .nil pass0 (pa_cons (pv 1) (pa_cons (pv 2) pa_nil))))
      (pss_cons (ps_if (pt_cmpR op_notND (pv 3) pe_non (nomark _)) (pss_one DL.ps_never) pss_nil)
      (pss_cons (ps_fld (pv 0) (pe_callTy call_tupleDD (by rfl) T.n_tuple (by decide +kernel) (pa_cons (pv 1) pa_nil)) rfl)
      (pss_one (ps_fld (pv 0) (pv 2) rfl))))),
      (dsi_seq (W := fun _ _ _ _ => False) (fun _ _ _ _ => (ds_asg (dc_D (da_cons (de_var 1) (da_cons (de_var 2) da_nil)) (an_cons (an_cons an_nil))) dg_name))
      (dsi_seq (W := fun _ _ _ _ => False) (fun _ _ _ _ => (ds_if (dt_test (de_op (de_var 3) de_non)) DL.ds_never ds_nx))
      (dsi_two (by decide +kernel) T.clP T.na_tables T.na_end (fun _ _ _ _ => (de_callN (da_cons (de_var 1) da_nil))) (fun _ _ _ _ => (de_var 2)))))⟩
theorem ok_law_made (T : Defs K mg im) : FnOk P w K mg base CX0 76 T.d_law_made.f T.d_law_made.fd ["_law_tables", "_law_end"] (spD K im 2 F_law_made) := by
  have G_Plan_init := ok_Plan_init (P := P) (w := w) (base := base) (im := im) T
  have Sc : FnScope ["_law_tables", "_law_end"] ["_law_tables", "_law_end"] (defScope s_law_made) := ⟨rfl, rfl, rfl, by decide +kernel, rfl, by decide +kernel, by decide +kernel⟩
  refine fn_Dx (N := ["_law_tables", "_law_end"]) (ps := ["_law_tables", "_law_end"]) (F := B_law_made) T.d_law_made.F Sc rfl rfl rfl fun cdv A outer s H Ex hr => ?_
  have hu := room_hu hr
  exact ⟨_, (pss_one (ps_ret (pe_frzW (pe_disp (pps_cons pe_str (pe_callTy call_tupleDD (by rfl) T.n_tuple (by decide +kernel) (pa_cons (pv 0) pa_nil)) (pps_cons pe_str (pv 1) (pps_cons pe_str (pe_make T.d_Plan_init.m G_Plan_init (hr.mono (by first | decide | omega)) rfl T.gP T.d_Plan_init.b .nil pass0 (pa_cons (pe_callTy call_tupleDD (by rfl) T.n_tuple (by decide +kernel) (pa_cons (pv 0) pa_nil)) (pa_cons (pv 1) pa_nil))) pps_nil))) (by rfl) (by rfl) (fun z => by cases z) (by decide))))),
      (ds_ret (de_disp (ks := ["tables", "end", "plan"]) (by decide +kernel) (by decide) (dps_cons (de_callN (da_cons (de_var 0) da_nil)) (dps_cons (de_var 1) (dps_cons (dc_I ((T.hi _).mpr rfl) (by decide) (da_cons (de_callN (da_cons (de_var 0) da_nil)) (da_cons (de_var 1) da_nil)) (an_cons (an_cons an_nil))) dps_nil)))))⟩
theorem ok_law_long_plan (T : Defs K mg im) : FnOk P w K mg base CX0 142 T.d_law_long_plan.f T.d_law_long_plan.fd ["_law_source_here"] (spW K (srcG im) 1 0 F_law_long_plan) := by
  have G_law_of := ok_law_of (P := P) (w := w) (base := base) (im := im) T
  have G_law_made := ok_law_made (P := P) (w := w) (base := base) (im := im) T
  have G_law_any_table := ok_law_any_table (P := P) (w := w) (base := base) (im := im) T
  have G_law_pick := ok_law_pick (P := P) (w := w) (base := base) (im := im) T
  have Sc : FnScope ["_law_source_here", "_law_menu", "_law_tables", "_law_end", "_law_row", "_law_lap"] ["_law_source_here"] (defScope s_law_long_plan) := ⟨rfl, rfl, rfl, by decide +kernel, rfl, by decide +kernel, by decide +kernel⟩
  refine fn_Wx (Γ := srcG im) (N := ["_law_source_here", "_law_menu", "_law_tables", "_law_end", "_law_row", "_law_lap"]) (ps := ["_law_source_here"]) (F := B_law_long_plan) T.d_law_long_plan.F Sc rfl rfl rfl fun p cdv A outer s H Ex hr => ?_
  have hu := room_hu hr
  exact ⟨_, (pss_cons (ps_set (i := 1) Sc.nd rfl (by first | exact Or.inl rfl | exact Or.inr rfl) (pe_frz (pe_lst (pa_cons pe_int (pa_cons pe_int (pa_cons pe_int (pa_cons pe_int (pa_cons pe_int (pa_cons pe_int (pa_cons pe_int (pa_cons (pe_op op_addD pe_int (pe_call G_law_pick (hr.mono (by first | decide | omega)) rfl T.d_law_pick.g T.d_law_pick.F.kp T.d_law_pick.b .nil pass0 (pa_cons (pv 0) (pa_cons pe_int pa_nil)))) pa_nil)))))))))))
      (pss_cons (ps_fz 2 (ps_setLc (i := 2) (own := [("_law_lap", 5)]) rfl Sc.nd rfl rfl (sw_true rfl rfl rfl (by decide +kernel)) (pi_range1 rfl T.n_range (pa_cons (pe_op op_addD pe_int (pe_call G_law_pick (hr.mono (by first | decide | omega)) rfl T.d_law_pick.g T.d_law_pick.F.kp T.d_law_pick.b .nil pass0 (pa_cons (pv 0) (pa_cons pe_int pa_nil)))) pa_nil)) (blkOk_by (own := [("_law_lap", 5)]) (N := ["_law_source_here", "_law_menu", "_law_tables", "_law_end", "_law_row", "_law_lap"]) (sc := defScope s_law_long_plan) (by decide +kernel)) (fun _ _ _ _ _ => (pg_name (i := 5) Sc.nd rfl (by first | exact Or.inl rfl | exact Or.inr rfl))) (fun _ _ _ _ _ => pts_nil) (fun _ _ _ _ _ => (pe_call G_law_any_table (hr.mono (by first | decide | omega)) rfl T.d_law_any_table.g T.d_law_any_table.F.kp T.d_law_any_table.b .nil pass0 (pa_cons (pv 0) (pa_cons (pe_call G_law_of (hr.mono (by first | decide | omega)) rfl T.d_law_of.g T.d_law_of.F.kp T.d_law_of.b .nil pass0 (pa_cons (pv 0) (pa_cons (pv 1) pa_nil))) pa_nil))))))
      (pss_cons (ps_set (i := 3) Sc.nd rfl (by first | exact Or.inl rfl | exact Or.inr rfl) (pe_call G_law_of (hr.mono (by first | decide | omega)) rfl T.d_law_of.g T.d_law_of.F.kp T.d_law_of.b .nil pass0 (pa_cons (pv 0) (pa_cons (pe_frz (pe_lst (pa_cons pe_str (pa_cons pe_str (pa_cons pe_str pa_nil))))) pa_nil))))
      (pss_cons (ps_fz 4 (ps_setLc (i := 4) (own := [("_law_lap", 5)]) rfl Sc.nd rfl rfl (sw_true rfl rfl rfl (by decide +kernel)) (pi_range1 rfl T.n_range (pa_cons (pe_op op_addD pe_int (pe_call G_law_pick (hr.mono (by first | decide | omega)) rfl T.d_law_pick.g T.d_law_pick.F.kp T.d_law_pick.b .nil pass0 (pa_cons (pv 0) (pa_cons pe_int pa_nil)))) pa_nil)) (blkOk_by (own := [("_law_lap", 5)]) (N := ["_law_source_here", "_law_menu", "_law_tables", "_law_end", "_law_row", "_law_lap"]) (sc := defScope s_law_long_plan) (by decide +kernel)) (fun _ _ _ _ _ => (pg_name (i := 5) Sc.nd rfl (by first | exact Or.inl rfl | exact Or.inr rfl))) (fun _ _ _ _ _ => pts_nil) (fun _ _ _ _ _ => (pe_call G_law_any_table (hr.mono (by first | decide | omega)) rfl T.d_law_any_table.g T.d_law_any_table.F.kp T.d_law_any_table.b .nil pass0 (pa_cons (pv 0) (pa_cons (pe_call G_law_of (hr.mono (by first | decide | omega)) rfl T.d_law_of.g T.d_law_of.F.kp T.d_law_of.b .nil pass0 (pa_cons (pv 0) (pa_cons (pv 1) pa_nil))) pa_nil))))))
      (pss_one (ps_ret (pe_call G_law_made (hr.mono (by first | decide | omega)) rfl T.d_law_made.g T.d_law_made.F.kp T.d_law_made.b .nil pass0 (pa_cons (pv 2) (pa_cons (pe_ifExp (pt_cmpR (op_eqDD hu) (pv 3) pe_str (nomark _)) (pe_callTy call_tupleDD (by rfl) T.n_tuple (by decide +kernel) (pa_cons (pv 4) pa_nil)) (pv 3)) pa_nil))))))))),
      (ds_seq (ds_asg (de_frz (dl_lst (da_cons de_int (da_cons de_int (da_cons de_int (da_cons de_int (da_cons de_int (da_cons de_int (da_cons de_int (da_cons (de_op de_int (dc_W (da_cons de_int da_nil) (an_cons an_nil))) da_nil)))))))))) dg_name)
      (ds_seq (ds_fz (ds_setO (dl_lc (W' := fun _ _ _ _ => False) (vs := [5]) (di_rg1 (da_cons (de_op de_int (dc_W (da_cons de_int da_nil) (an_cons an_nil))) da_nil)) (dg_name (i := 5)) dt_yes (dc_W (da_cons (dc_W (da_cons (de_var 1) da_nil) (an_cons an_nil)) da_nil) (an_cons an_nil)) (fun _ h => h))))
      (ds_seq (ds_asg (dc_W (da_cons (de_frz (dl_lst (da_cons de_str (da_cons de_str (da_cons de_str da_nil))))) da_nil) (an_cons an_nil)) dg_name)
      (ds_seq (ds_fz (ds_setO (dl_lc (W' := fun _ _ _ _ => False) (vs := [5]) (di_rg1 (da_cons (de_op de_int (dc_W (da_cons de_int da_nil) (an_cons an_nil))) da_nil)) (dg_name (i := 5)) dt_yes (dc_W (da_cons (dc_W (da_cons (de_var 1) da_nil) (an_cons an_nil)) da_nil) (an_cons an_nil)) (fun _ h => h))))
      (ds_ret (dc_D (da_cons (de_var 2) (da_cons (de_if (dt_test (de_op (de_var 3) de_str)) (de_callN (da_cons (de_var 4) da_nil)) (de_var 3)) da_nil)) (an_cons (an_cons an_nil))))))))⟩
theorem ok_law_filled (T : Defs K mg im) : ∀ n, FnOk P w K mg base CX0 (70 + n) T.d_law_filled.f T.d_law_filled.fd ["_law_form", "_law_lumps_here"] (spD K im 2 (F_law_filled n))
  | 0 => FnOk.no fun _ _ _ _ => spD_no
  | n + 1 => by
    have ih := ok_law_filled T n
    have G_law_size := ok_law_size (P := P) (w := w) (base := base) (im := im) T
    have Sc : FnScope ["_law_form", "_law_lumps_here", "_law_size_here"] ["_law_form", "_law_lumps_here"] (defScope s_law_filled) := ⟨rfl, rfl, rfl, by decide +kernel, rfl, by decide +kernel, by decide +kernel⟩
    refine fn_Dx (k := 70 + n) (N := ["_law_form", "_law_lumps_here", "_law_size_here"]) (ps := ["_law_form", "_law_lumps_here"]) (F := B_law_filled (F_law_filled n)) T.d_law_filled.F Sc rfl rfl rfl fun cdv A outer s H Ex hr => ?_
    have hu := room_hu hr
    exact ⟨_, (pss_cons (ps_if (pt_cmpR (op_eqDD hu) (pv 0) (pe_tup pa_nil) (nomark _)) (pss_one (ps_ret (pe_ix ix_D (pv 1) pe_int (fun _ _ => rfl)))) pss_nil)
      (pss_cons (ps_set (i := 2) Sc.nd rfl (by first | exact Or.inl rfl | exact Or.inr rfl) (pe_call (G_law_size 70) (hr.mono (by first | decide | omega)) rfl T.d_law_size.g T.d_law_size.F.kp T.d_law_size.b .nil pass0 (pa_cons (pe_ix ix_D (pv 0) pe_int (fun _ _ => rfl)) pa_nil)))
      (pss_one (ps_ret (pe_tup (pa_cons (pe_call ih hr rfl T.d_law_filled.g T.d_law_filled.F.kp T.d_law_filled.b .nil pass0 (pa_cons (pe_ix ix_D (pv 0) pe_int (fun _ _ => rfl)) (pa_cons (pe_slice sl_D (pv 1) po_none (po_some (pv 2))) pa_nil))) (pa_cons (pe_call ih hr rfl T.d_law_filled.g T.d_law_filled.F.kp T.d_law_filled.b .nil pass0 (pa_cons (pe_ix ix_D (pv 0) pe_int (fun _ _ => rfl)) (pa_cons (pe_slice sl_D (pv 1) (po_some (pv 2)) po_none) pa_nil))) pa_nil))))))),
      (ds_seq (ds_if (dt_test (de_op (de_var 0) (de_tup da_nil))) (ds_ret (de_op (de_var 1) de_int)) ds_nx)
      (ds_seq (ds_asg (dc_D (da_cons (de_op (de_var 0) de_int) da_nil) (an_cons an_nil)) dg_name)
      (ds_ret (de_tup (da_cons (dc_D (da_cons (de_op (de_var 0) de_int) (da_cons (de_sl (de_var 1) do_none (do_some (de_var 2))) da_nil)) (an_cons (an_cons an_nil))) (da_cons (dc_D (da_cons (de_op (de_var 0) de_int) (da_cons (de_sl (de_var 1) (do_some (de_var 2)) do_none) da_nil)) (an_cons (an_cons an_nil))) da_nil))))))⟩
theorem ok_law_pressed (T : Defs K mg im) : FnOk P w K mg base CX0 141 T.d_law_pressed.f T.d_law_pressed.fd ["_law_table_here", "_law_row"] (spD K im 2 F_law_pressed) := by
  have G_law_filled := ok_law_filled (P := P) (w := w) (base := base) (im := im) T
  have G_law_entry := ok_law_entry (P := P) (w := w) (base := base) (im := im) T
  have Sc : FnScope ["_law_table_here", "_law_row", "_law_size_here", "_law_found", "_law_k"] ["_law_table_here", "_law_row"] (defScope s_law_pressed) := ⟨rfl, rfl, rfl, by decide +kernel, rfl, by decide +kernel, by decide +kernel⟩
  refine fn_Dx (N := ["_law_table_here", "_law_row", "_law_size_here", "_law_found", "_law_k"]) (ps := ["_law_table_here", "_law_row"]) (F := B_law_pressed) T.d_law_pressed.F Sc rfl rfl rfl fun cdv A outer s H Ex hr => ?_
  have hu := room_hu hr
  exact ⟨_, (pss_cons (ps_par (i := 2) (j := 3) rfl Sc.nd rfl rfl (by decide) rfl rfl (pa_cons (pe_op op_addD (pe_callB call_lenDD (by rfl) T.n_len (by decide +kernel) (pa_cons (pv 0) pa_nil)) pe_int) (pa_cons (pe_lst pa_nil) pa_nil)) (by rfl))
      (pss_cons (ps_for PassesOwn.never rfl (pi_range3 rfl T.n_range (pa_cons pe_int (pa_cons (pe_callB call_lenDD (by rfl) T.n_len (by decide +kernel) (pa_cons (pv 1) pa_nil)) (pa_cons (pv 2) pa_nil)))) (pg_name (i := 4) Sc.nd rfl (by first | exact Or.inl rfl | exact Or.inr rfl)) (pss_one (ps_expr (pe_bm PySem.F.plainAttrs_list PySem.F.slot_list_append PySem.F.type_list_append mt_append (pv 3) (pa_cons (pe_call (G_law_filled 70) (hr.mono (by first | decide | omega)) rfl T.d_law_filled.g T.d_law_filled.F.kp T.d_law_filled.b .nil pass0 (pa_cons (pe_call G_law_entry (hr.mono (by first | decide | omega)) rfl T.d_law_entry.g T.d_law_entry.F.kp T.d_law_entry.b .nil pass0 (pa_cons (pv 0) (pa_cons (pe_callB call_lenDD (by rfl) T.n_len (by decide +kernel) (pa_cons (pe_slice sl_D (pv 1) (po_some (pv 4)) (po_some (pe_op op_addD (pv 4) (pv 2)))) pa_nil)) pa_nil))) (pa_cons (pe_slice sl_D (pv 1) (po_some (pv 4)) (po_some (pe_op op_addD (pv 4) (pv 2)))) pa_nil))) pa_nil)))))
      (pss_one (ps_ret (pe_frz (pv 3)))))),
      (ds_seq (ds_parO2 (de_op (de_callN (da_cons (de_var 0) da_nil)) de_int) (dl_lst da_nil))
      (ds_seq (ds_for (di_rg3 (da_cons de_int (da_cons (de_callN (da_cons (de_var 1) da_nil)) (da_cons (de_var 2) da_nil)))) (dg_name (i := 4)) (ds_app (dc_D (da_cons (dc_D (da_cons (de_var 0) (da_cons (de_callN (da_cons (de_sl (de_var 1) (do_some (de_var 4)) (do_some (de_op (de_var 4) (de_var 2)))) da_nil)) da_nil)) (an_cons (an_cons an_nil))) (da_cons (de_sl (de_var 1) (do_some (de_var 4)) (do_some (de_op (de_var 4) (de_var 2)))) da_nil)) (an_cons (an_cons an_nil)))))
      ds_retO))⟩
theorem ok_law_glue (T : Defs K mg im) : FnOk P w K mg base CX0 142 T.d_law_glue.f T.d_law_glue.fd ["_law_one", "_law_other"] (spD K im 2 F_law_glue) := by
  have G_law_pressed := ok_law_pressed (P := P) (w := w) (base := base) (im := im) T
  have G_law_filled := ok_law_filled (P := P) (w := w) (base := base) (im := im) T
  have G_law_entry := ok_law_entry (P := P) (w := w) (base := base) (im := im) T
  have Sc : FnScope ["_law_one", "_law_other", "_law_found", "_law_size_here", "_law_m", "_law_row"] ["_law_one", "_law_other"] (defScope s_law_glue) := ⟨rfl, rfl, rfl, by decide +kernel, rfl, by decide +kernel, by decide +kernel⟩
  refine fn_Dx (N := ["_law_one", "_law_other", "_law_found", "_law_size_here", "_law_m", "_law_row"]) (ps := ["_law_one", "_law_other"]) (F := B_law_glue) T.d_law_glue.F Sc rfl rfl rfl fun cdv A outer s H Ex hr => ?_
  have hu := room_hu hr
  exact ⟨_, (pss_cons (ps_par (i := 2) (j := 3) rfl Sc.nd rfl rfl (by decide) rfl rfl (pa_cons (pe_lst pa_nil) (pa_cons (pe_op op_mulD (pe_op op_addD (pe_callB call_lenDD (by rfl) T.n_len (by decide +kernel) (pa_cons (pv 0) pa_nil)) pe_int) (pe_op op_addD (pe_callB call_lenDD (by rfl) T.n_len (by decide +kernel) (pa_cons (pv 1) pa_nil)) pe_int)) pa_nil)) (by rfl))
      (pss_cons (ps_for PassesOwn.never rfl (pi_range2 rfl T.n_range (pa_cons pe_int (pa_cons (pe_op op_addD (pv 3) pe_int) pa_nil))) (pg_name (i := 4) Sc.nd rfl (by first | exact Or.inl rfl | exact Or.inr rfl)) (pss_cons (ps_set (i := 5) Sc.nd rfl (by first | exact Or.inl rfl | exact Or.inr rfl) (pe_call G_law_pressed (hr.mono (by first | decide | omega)) rfl T.d_law_pressed.g T.d_law_pressed.F.kp T.d_law_pressed.b .nil pass0 (pa_cons (pv 0) (pa_cons (pe_op op_mulD (pe_frz (pe_lst (pa_cons (pe_tup pa_nil) pa_nil))) (pv 4)) pa_nil))))
      (pss_one (ps_expr (pe_bm PySem.F.plainAttrs_list PySem.F.slot_list_append PySem.F.type_list_append mt_append (pv 2) (pa_cons (pe_call (G_law_filled 70) (hr.mono (by first | decide | omega)) rfl T.d_law_filled.g T.d_law_filled.F.kp T.d_law_filled.b .nil pass0 (pa_cons (pe_call G_law_entry (hr.mono (by first | decide | omega)) rfl T.d_law_entry.g T.d_law_entry.F.kp T.d_law_entry.b .nil pass0 (pa_cons (pv 1) (pa_cons (pe_callB call_lenDD (by rfl) T.n_len (by decide +kernel) (pa_cons (pv 5) pa_nil)) pa_nil))) (pa_cons (pv 5) pa_nil))) pa_nil))))))
      (pss_one (ps_ret (pe_callTy call_tuple_of (by rfl) T.n_tuple (by decide +kernel) (pa_cons (pv 2) pa_nil)))))),
      (ds_seq (ds_parO1 (dl_lst da_nil) (de_op (de_op (de_callN (da_cons (de_var 0) da_nil)) de_int) (de_op (de_callN (da_cons (de_var 1) da_nil)) de_int)))
      (ds_seq (ds_for (di_rg2 (da_cons de_int (da_cons (de_op (de_var 3) de_int) da_nil))) (dg_name (i := 4)) (ds_seq (ds_asg (dc_D (da_cons (de_var 0) (da_cons (de_op (de_frz (dl_lst (da_cons (de_tup da_nil) da_nil))) (de_var 4)) da_nil)) (an_cons (an_cons an_nil))) dg_name)
      (ds_app (dc_D (da_cons (dc_D (da_cons (de_var 1) (da_cons (de_callN (da_cons (de_var 5) da_nil)) da_nil)) (an_cons (an_cons an_nil))) (da_cons (de_var 5) da_nil)) (an_cons (an_cons an_nil))))))
      (ds_ret de_oTuple)))⟩
theorem ok_law_table (T : Defs K mg im) : FnOk P w K mg base CX0 143 T.d_law_table.f T.d_law_table.fd ["_law_source_here"] (spW K (srcG im) 1 0 F_law_table) := by
  have G_law_any_table := ok_law_any_table (P := P) (w := w) (base := base) (im := im) T
  have G_law_pick := ok_law_pick (P := P) (w := w) (base := base) (im := im) T
  have G_law_glue := ok_law_glue (P := P) (w := w) (base := base) (im := im) T
  have G_law_of := ok_law_of (P := P) (w := w) (base := base) (im := im) T
  have Sc : FnScope ["_law_source_here", "_law_one", "_law_other"] ["_law_source_here"] (defScope s_law_table) := ⟨rfl, rfl, rfl, by decide +kernel, rfl, by decide +kernel, by decide +kernel⟩
  refine fn_Wx (Γ := srcG im) (N := ["_law_source_here", "_law_one", "_law_other"]) (ps := ["_law_source_here"]) (F := B_law_table) T.d_law_table.F Sc rfl rfl rfl fun p cdv A outer s H Ex hr => ?_
  have hu := room_hu hr
  exact ⟨_, (pss_cons (ps_if (pt_cmpR (op_eqDD hu) (pe_call G_law_pick (hr.mono (by first | decide | omega)) rfl T.d_law_pick.g T.d_law_pick.F.kp T.d_law_pick.b .nil pass0 (pa_cons (pv 0) (pa_cons pe_int pa_nil))) pe_int (nomark _)) (pss_cons (ps_par (i := 1) (j := 2) rfl Sc.nd rfl rfl (by decide) rfl rfl (pa_cons (pe_call G_law_any_table (hr.mono (by first | decide | omega)) rfl T.d_law_any_table.g T.d_law_any_table.F.kp T.d_law_any_table.b .nil pass0 (pa_cons (pv 0) (pa_cons (pe_op op_addD pe_int (pe_call G_law_pick (hr.mono (by first | decide | omega)) rfl T.d_law_pick.g T.d_law_pick.F.kp T.d_law_pick.b .nil pass0 (pa_cons (pv 0) (pa_cons pe_int pa_nil)))) pa_nil))) (pa_cons (pe_call G_law_any_table (hr.mono (by first | decide | omega)) rfl T.d_law_any_table.g T.d_law_any_table.F.kp T.d_law_any_table.b .nil pass0 (pa_cons (pv 0) (pa_cons (pe_op op_addD pe_int (pe_call G_law_pick (hr.mono (by first | decide | omega)) rfl T.d_law_pick.g T.d_law_pick.F.kp T.d_law_pick.b .nil pass0 (pa_cons (pv 0) (pa_cons pe_int pa_nil)))) pa_nil))) pa_nil)) (by rfl))
      (pss_one (ps_ret (pe_call G_law_glue (hr.mono (by first | decide | omega)) rfl T.d_law_glue.g T.d_law_glue.F.kp T.d_law_glue.b .nil pass0 (pa_cons (pv 1) (pa_cons (pv 2) pa_nil)))))) pss_nil)
      (pss_one (ps_ret (pe_call G_law_any_table (hr.mono (by first | decide | omega)) rfl T.d_law_any_table.g T.d_law_any_table.F.kp T.d_law_any_table.b .nil pass0 (pa_cons (pv 0) (pa_cons (pe_call G_law_of (hr.mono (by first | decide | omega)) rfl T.d_law_of.g T.d_law_of.F.kp T.d_law_of.b .nil pass0 (pa_cons (pv 0) (pa_cons (pe_frz (pe_lst (pa_cons pe_int (pa_cons pe_int (pa_cons pe_int (pa_cons pe_int (pa_cons pe_int (pa_cons pe_int (pa_cons pe_int (pa_cons pe_int pa_nil)))))))))) pa_nil))) pa_nil)))))),
      (ds_seq (ds_if (dt_test (de_op (dc_W (da_cons de_int da_nil) (an_cons an_nil)) de_int)) (ds_seq (ds_par (dc_W (da_cons (de_op de_int (dc_W (da_cons de_int da_nil) (an_cons an_nil))) da_nil) (an_cons an_nil)) (dc_W (da_cons (de_op de_int (dc_W (da_cons de_int da_nil) (an_cons an_nil))) da_nil) (an_cons an_nil)))
      (ds_ret (dc_D (da_cons (de_var 1) (da_cons (de_var 2) da_nil)) (an_cons (an_cons an_nil))))) ds_nx)
      (ds_ret (dc_W (da_cons (dc_W (da_cons (de_frz (dl_lst (da_cons de_int (da_cons de_int (da_cons de_int (da_cons de_int (da_cons de_int (da_cons de_int (da_cons de_int (da_cons de_int da_nil)))))))))) da_nil) (an_cons an_nil)) da_nil) (an_cons an_nil))))⟩
theorem ok_law_plan (T : Defs K mg im) : FnOk P w K mg base CX0 144 T.d_law_plan.f T.d_law_plan.fd ["_law_source_here"] (spW K (srcG im) 1 0 F_law_plan) := by
  have G_law_made := ok_law_made (P := P) (w := w) (base := base) (im := im) T
  have G_law_table := ok_law_table (P := P) (w := w) (base := base) (im := im) T
  have G_law_of := ok_law_of (P := P) (w := w) (base := base) (im := im) T
  have G_law_pick := ok_law_pick (P := P) (w := w) (base := base) (im := im) T
  have Sc : FnScope ["_law_source_here", "_law_tables", "_law_end", "_law_many", "_law_lap"] ["_law_source_here"] (defScope s_law_plan) := ⟨rfl, rfl, rfl, by decide +kernel, rfl, by decide +kernel, by decide +kernel⟩
  refine fn_Wx (Γ := srcG im) (N := ["_law_source_here", "_law_tables", "_law_end", "_law_many", "_law_lap"]) (ps := ["_law_source_here"]) (F := B_law_plan) T.d_law_plan.F Sc rfl rfl rfl fun p cdv A outer s H Ex hr => ?_
  have hu := room_hu hr
  exact ⟨_, (pss_cons (ps_fz 1 (ps_setLc (i := 1) (own := [("_law_lap", 4)]) rfl Sc.nd rfl rfl (sw_true rfl rfl rfl (by decide +kernel)) (pi_range1 rfl T.n_range (pa_cons (pe_call G_law_of (hr.mono (by first | decide | omega)) rfl T.d_law_of.g T.d_law_of.F.kp T.d_law_of.b .nil pass0 (pa_cons (pv 0) (pa_cons (pe_frz (pe_lst (pa_cons pe_int (pa_cons pe_int (pa_cons pe_int (pa_cons pe_int (pa_cons pe_int pa_nil))))))) pa_nil))) pa_nil)) (blkOk_by (own := [("_law_lap", 4)]) (N := ["_law_source_here", "_law_tables", "_law_end", "_law_many", "_law_lap"]) (sc := defScope s_law_plan) (by decide +kernel)) (fun _ _ _ _ _ => (pg_name (i := 4) Sc.nd rfl (by first | exact Or.inl rfl | exact Or.inr rfl))) (fun _ _ _ _ _ => pts_nil) (fun _ _ _ _ _ => (pe_call G_law_table (hr.mono (by first | decide | omega)) rfl T.d_law_table.g T.d_law_table.F.kp T.d_law_table.b .nil pass0 (pa_cons (pv 0) pa_nil)))))
      (pss_cons (ps_par (i := 2) (j := 3) rfl Sc.nd rfl rfl (by decide) rfl rfl (pa_cons (pe_call G_law_of (hr.mono (by first | decide | omega)) rfl T.d_law_of.g T.d_law_of.F.kp T.d_law_of.b .nil pass0 (pa_cons (pv 0) (pa_cons (pe_frz (pe_lst (pa_cons pe_str (pa_cons pe_str (pa_cons pe_str (pa_cons pe_str pa_nil)))))) pa_nil))) (pa_cons (pe_op op_addD pe_int (pe_call G_law_pick (hr.mono (by first | decide | omega)) rfl T.d_law_pick.g T.d_law_pick.F.kp T.d_law_pick.b .nil pass0 (pa_cons (pv 0) (pa_cons pe_int pa_nil)))) pa_nil)) (by rfl))
      (pss_one (ps_ret (pe_call G_law_made (hr.mono (by first | decide | omega)) rfl T.d_law_made.g T.d_law_made.F.kp T.d_law_made.b .nil pass0 (pa_cons (pv 1) (pa_cons (pe_ifExp (pt_cmpR (op_eqDD hu) (pv 2) pe_str (nomark _)) (pe_callTy call_tupleDD (by rfl) T.n_tuple (by decide +kernel) (pa_cons (pe_frz (pe_lc (own := [("_law_lap", 4)]) rfl Sc.nd (pi_range1 rfl T.n_range (pa_cons (pv 3) pa_nil)) (blkOk_by (own := [("_law_lap", 4)]) (N := ["_law_source_here", "_law_tables", "_law_end", "_law_many", "_law_lap"]) (sc := defScope s_law_plan) (by decide +kernel)) (fun _ _ _ _ _ => (pg_name (i := 4) Sc.nd rfl (by first | exact Or.inl rfl | exact Or.inr rfl))) (fun _ _ _ _ _ => pts_nil) (fun _ _ _ _ _ => (pe_call G_law_table (hr.mono (by first | decide | omega)) rfl T.d_law_table.g T.d_law_table.F.kp T.d_law_table.b .nil pass0 (pa_cons (pv 0) pa_nil))))) pa_nil)) (pv 2)) pa_nil))))))),
      (ds_seq (ds_fz (ds_setO (dl_lc (W' := fun _ _ _ _ => False) (vs := [4]) (di_rg1 (da_cons (dc_W (da_cons (de_frz (dl_lst (da_cons de_int (da_cons de_int (da_cons de_int (da_cons de_int (da_cons de_int da_nil))))))) da_nil) (an_cons an_nil)) da_nil)) (dg_name (i := 4)) dt_yes (dc_W da_nil an_nil) (fun _ h => h))))
      (ds_seq (ds_par (dc_W (da_cons (de_frz (dl_lst (da_cons de_str (da_cons de_str (da_cons de_str (da_cons de_str da_nil)))))) da_nil) (an_cons an_nil)) (de_op de_int (dc_W (da_cons de_int da_nil) (an_cons an_nil))))
      (ds_ret (dc_D (da_cons (de_var 1) (da_cons (de_if (dt_test (de_op (de_var 2) de_str)) (de_callN (da_cons (de_frz (dl_lc (W' := fun _ _ _ _ => False) (vs := [4]) (di_rg1 (da_cons (de_var 3) da_nil)) (dg_name (i := 4)) dt_yes (dc_W da_nil an_nil) (fun _ h => h))) da_nil)) (de_var 2)) da_nil)) (an_cons (an_cons an_nil))))))⟩
theorem ok_law_any_plan (T : Defs K mg im) : FnOk P w K mg base CX0 145 T.d_law_any_plan.f T.d_law_any_plan.fd ["_law_source_here"] (spW K (srcG im) 1 0 F_law_any_plan) := by
  have G_law_long_plan := ok_law_long_plan (P := P) (w := w) (base := base) (im := im) T
  have G_law_plan := ok_law_plan (P := P) (w := w) (base := base) (im := im) T
  have G_law_pick := ok_law_pick (P := P) (w := w) (base := base) (im := im) T
  have Sc : FnScope ["_law_source_here"] ["_law_source_here"] (defScope s_law_any_plan) := ⟨rfl, rfl, rfl, by decide +kernel, rfl, by decide +kernel, by decide +kernel⟩
  refine fn_Wx (Γ := srcG im) (N := ["_law_source_here"]) (ps := ["_law_source_here"]) (F := B_law_any_plan) T.d_law_any_plan.F Sc rfl rfl rfl fun p cdv A outer s H Ex hr => ?_
  have hu := room_hu hr
  exact ⟨_, (pss_one (ps_ret (pe_ifExp (pt_cmpR (op_eqDD hu) (pe_call G_law_pick (hr.mono (by first | decide | omega)) rfl T.d_law_pick.g T.d_law_pick.F.kp T.d_law_pick.b .nil pass0 (pa_cons (pv 0) (pa_cons pe_int pa_nil))) pe_int (nomark _)) (pe_call G_law_long_plan (hr.mono (by first | decide | omega)) rfl T.d_law_long_plan.g T.d_law_long_plan.F.kp T.d_law_long_plan.b .nil pass0 (pa_cons (pv 0) pa_nil)) (pe_call G_law_plan (hr.mono (by first | decide | omega)) rfl T.d_law_plan.g T.d_law_plan.F.kp T.d_law_plan.b .nil pass0 (pa_cons (pv 0) pa_nil))))),
      (ds_ret (de_if (dt_test (de_op (dc_W (da_cons de_int da_nil) (an_cons an_nil)) de_int)) (dc_W da_nil an_nil) (dc_W da_nil an_nil)))⟩
theorem ok_law_told (T : Defs K mg im) : FnOk P w K mg base CX0 142 T.d_law_told.f T.d_law_told.fd ["_law_world", "_law_n"] (spD K im 2 F_law_told) := by
  have G_law_filled := ok_law_filled (P := P) (w := w) (base := base) (im := im) T
  have G_law_stage := ok_law_stage (P := P) (w := w) (base := base) (im := im) T
  have G_law_pressed := ok_law_pressed (P := P) (w := w) (base := base) (im := im) T
  have G_law_comb := ok_law_comb (P := P) (w := w) (base := base) (im := im) T
  have Sc : FnScope ["_law_world", "_law_n", "_law_row", "_law_k"] ["_law_world", "_law_n"] (defScope s_law_told) := ⟨rfl, rfl, rfl, by decide +kernel, rfl, by decide +kernel, by decide +kernel⟩
  refine fn_Dx (N := ["_law_world", "_law_n", "_law_row", "_law_k"]) (ps := ["_law_world", "_law_n"]) (F := B_law_told) T.d_law_told.F Sc rfl rfl rfl fun cdv A outer s H Ex hr => ?_
  have hu := room_hu hr
  exact ⟨_, (pss_cons (ps_par (i := 2) (j := 3) rfl Sc.nd rfl rfl (by decide) rfl rfl (pa_cons (pe_op op_mulD (pe_frz (pe_lst (pa_cons (pe_tup pa_nil) pa_nil))) (pv 1)) (pa_cons pe_int pa_nil)) (by rfl))
      (pss_cons (ps_while PassesOwn.never (PW.pt (pw_and (pt_cmpR op_gtD (pe_callB call_lenDD (by rfl) T.n_len (by decide +kernel) (pa_cons (pv 2) pa_nil)) pe_int (nomark _)) (pw_and1 (pt_cmpR op_notND (pe_call G_law_stage (hr.mono (by first | decide | omega)) rfl T.d_law_stage.g T.d_law_stage.F.kp T.d_law_stage.b .nil pass0 (pa_cons (pv 0) (pa_cons (pv 3) pa_nil))) pe_non (nomark _))))) (pss_one (ps_par (i := 2) (j := 3) rfl Sc.nd rfl rfl (by decide) rfl rfl (pa_cons (pe_call G_law_pressed (hr.mono (by first | decide | omega)) rfl T.d_law_pressed.g T.d_law_pressed.F.kp T.d_law_pressed.b .nil pass0 (pa_cons (pe_call G_law_stage (hr.mono (by first | decide | omega)) rfl T.d_law_stage.g T.d_law_stage.F.kp T.d_law_stage.b .nil pass0 (pa_cons (pv 0) (pa_cons (pv 3) pa_nil))) (pa_cons (pv 2) pa_nil))) (pa_cons (pe_op op_addD (pv 3) pe_int) pa_nil)) (by rfl))))
      (pss_one (ps_ret (pe_ifExp (pt_cmpR op_gtD (pe_callB call_lenDD (by rfl) T.n_len (by decide +kernel) (pa_cons (pv 2) pa_nil)) pe_int (nomark _)) (pe_call (G_law_filled 70) (hr.mono (by first | decide | omega)) rfl T.d_law_filled.g T.d_law_filled.F.kp T.d_law_filled.b .nil pass0 (pa_cons (pe_call G_law_comb (hr.mono (by first | decide | omega)) rfl T.d_law_comb.g T.d_law_comb.F.kp T.d_law_comb.b .nil pass0 (pa_cons (pe_callB call_lenDD (by rfl) T.n_len (by decide +kernel) (pa_cons (pv 2) pa_nil)) (pa_cons (pe_dget (hu1 hu) (pv 0) pe_str (fun _ _ => rfl)) pa_nil))) (pa_cons (pv 2) pa_nil))) (pe_ix ix_D (pv 2) pe_int (fun _ _ => rfl))))))),
      (ds_seq (ds_par (de_op (de_frz (dl_lst (da_cons (de_tup da_nil) da_nil))) (de_var 1)) de_int)
      (ds_seq (ds_while (n := (fun _ _ => 100)) (dt_and (dt_test (de_op (de_callN (da_cons (de_var 2) da_nil)) de_int)) (dt_test (de_op (dc_D (da_cons (de_var 0) (da_cons (de_var 3) da_nil)) (an_cons (an_cons an_nil))) de_non))) (ds_par (dc_D (da_cons (dc_D (da_cons (de_var 0) (da_cons (de_var 3) da_nil)) (an_cons (an_cons an_nil))) (da_cons (de_var 2) da_nil)) (an_cons (an_cons an_nil))) (de_op (de_var 3) de_int)))
      (ds_ret (de_if (dt_test (de_op (de_callN (da_cons (de_var 2) da_nil)) de_int)) (dc_D (da_cons (dc_D (da_cons (de_callN (da_cons (de_var 2) da_nil)) (da_cons (de_dgK (plK 0) de_str) da_nil)) (an_cons (an_cons an_nil))) (da_cons (de_var 2) da_nil)) (an_cons (an_cons an_nil))) (de_op (de_var 2) de_int)))))⟩
theorem ok_law_wide_lumps (T : Defs K mg im) (TB2 : LamX.TabB base mg T.cT2 T.pT2) : FnOk P w K mg base CX0 141 T.d_law_wide_lumps.f T.d_law_wide_lumps.fd ["_law_world", "_law_n"] (spTb K im T.pT2 "_law_wide_lumps.<locals>.<lambda>" 2 F_law_wide_lumps) := by
  have G_law_rows := ok_law_rows (P := P) (w := w) (base := base) (im := im) T
  have G_law_stage := ok_law_stage (P := P) (w := w) (base := base) (im := im) T
  have G_law_entry := ok_law_entry (P := P) (w := w) (base := base) (im := im) T
  have G_law_lumps := ok_law_lumps (P := P) (w := w) (base := base) (im := im) T
  have Sc : FnScope ["_law_world", "_law_n", "_law_rows_here", "_law_found", "_law_last", "_law_k", "_law_table_here", "_law_here", "_law_first", "_law_entry_here", "_law_i", "_law_j"] ["_law_world", "_law_n"] (defScope s_law_wide_lumps) := ⟨rfl, rfl, rfl, by decide +kernel, rfl, by decide +kernel, by decide +kernel⟩
  refine fn_Tx (P := T.pT2) (nm := "_law_wide_lumps.<locals>.<lambda>") (N := ["_law_world", "_law_n", "_law_rows_here", "_law_found", "_law_last", "_law_k", "_law_table_here", "_law_here", "_law_first", "_law_entry_here", "_law_i", "_law_j"]) (ps := ["_law_world", "_law_n"]) (F := B_law_wide_lumps) T.d_law_wide_lumps.F Sc rfl rfl rfl fun cdv A outer s H Ex ec hr => ?_
  have ec2 : cdv = .ref T.cT2 := ec.symm.trans T.hcT2
  subst ec2
  have hu := room_hu hr
  exact ⟨_, (pss_cons (ps_set (i := 2) Sc.nd rfl (by first | exact Or.inl rfl | exact Or.inr rfl) (pe_call G_law_rows (hr.mono (by first | decide | omega)) rfl T.d_law_rows.g T.d_law_rows.F.kp T.d_law_rows.b .nil pass0 (pa_cons (pv 0) (pa_cons (pv 1) pa_nil))))
      (pss_cons (ps_par (i := 3) (j := 4) rfl Sc.nd rfl rfl (by decide) rfl rfl (pa_cons (pe_callTy call_list_of (by rfl) T.n_list (by decide +kernel) (pa_cons (pe_ix ix_D (pv 2) pe_int (fun _ _ => rfl)) pa_nil)) (pa_cons (pe_ix ix_D (pv 2) (pe_un un_negD pe_int) (fun _ _ => rfl)) pa_nil)) (by rfl))
      (pss_cons (ps_for PassesOwn.never rfl (pi_range1 rfl T.n_range (pa_cons (pe_op op_subD (pe_callB call_lenDD (by rfl) T.n_len (by decide +kernel) (pa_cons (pv 2) pa_nil)) pe_int) pa_nil)) (pg_name (i := 5) Sc.nd rfl (by first | exact Or.inl rfl | exact Or.inr rfl)) (pss_cons (ps_asg (pe_tup (pa_cons (pe_call G_law_stage (hr.mono (by first | decide | omega)) rfl T.d_law_stage.g T.d_law_stage.F.kp T.d_law_stage.b .nil pass0 (pa_cons (pv 0) (pa_cons (pv 5) pa_nil))) (pa_cons (pe_ix ix_D (pv 2) (pv 5) (fun _ _ => rfl)) pa_nil))) (pg_sq rfl (pgs_cons (pg_name (i := 6) Sc.nd rfl (by first | exact Or.inl rfl | exact Or.inr rfl)) (pgs_cons (pg_name (i := 7) Sc.nd rfl (by first | exact Or.inl rfl | exact Or.inr rfl)) pgs_nil))))
      (pss_one (ps_for PassesOwn.never rfl (pi_range3 rfl T.n_range (pa_cons pe_int (pa_cons (pe_callB call_lenDD (by rfl) T.n_len (by decide +kernel) (pa_cons (pv 7) pa_nil)) (pa_cons (pe_op op_addD (pe_callB call_lenDD (by rfl) T.n_len (by decide +kernel) (pa_cons (pv 6) pa_nil)) pe_int) pa_nil)))) (pg_name (i := 8) Sc.nd rfl (by first | exact Or.inl rfl | exact Or.inr rfl)) (pss_cons (ps_set (i := 9) Sc.nd rfl (by first | exact Or.inl rfl | exact Or.inr rfl) (pe_call G_law_entry (hr.mono (by first | decide | omega)) rfl T.d_law_entry.g T.d_law_entry.F.kp T.d_law_entry.b .nil pass0 (pa_cons (pv 6) (pa_cons (pe_callB (call_min2DD rfl) (by rfl) T.n_min (by decide +kernel) (pa_cons (pe_op op_addD (pe_callB call_lenDD (by rfl) T.n_len (by decide +kernel) (pa_cons (pv 6) pa_nil)) pe_int) (pa_cons (pe_op op_subD (pe_callB call_lenDD (by rfl) T.n_len (by decide +kernel) (pa_cons (pv 7) pa_nil)) (pv 8)) pa_nil))) pa_nil))))
      (pss_one (ps_pre 3 (ps_set (i := 3) Sc.nd rfl (by first | exact Or.inl rfl | exact Or.inr rfl) (pe_op op_addLL (pv 3) (pe_frz (pe_lc (own := [("_law_i", 10), ("_law_j", 11)]) rfl Sc.nd (pi_seq (pe_call (G_law_lumps 70) (hr.mono (by first | decide | omega)) rfl T.d_law_lumps.g T.d_law_lumps.F.kp T.d_law_lumps.b .nil pass0 (pa_cons (pv 9) (pa_cons (pv 8) pa_nil)))) (blkOk_by (own := [("_law_i", 10), ("_law_j", 11)]) (N := ["_law_world", "_law_n", "_law_rows_here", "_law_found", "_law_last", "_law_k", "_law_table_here", "_law_here", "_law_first", "_law_entry_here", "_law_i", "_law_j"]) (sc := defScope s_law_wide_lumps) (by decide +kernel)) (fun _ _ _ _ _ => (pg_sq rfl (pgs_cons (pg_name (i := 10) Sc.nd rfl (by first | exact Or.inl rfl | exact Or.inr rfl)) (pgs_cons (pg_name (i := 11) Sc.nd rfl (by first | exact Or.inl rfl | exact Or.inr rfl)) pgs_nil)))) (fun _ _ _ _ _ => (pts_one (pt_cmpR op_gtD (pe_op op_subD (pv 11) (pv 10)) pe_int (nomark _)))) (fun _ _ _ _ _ => (pe_tup (pa_cons (pe_ix ix_D (pe_ix ix_D (pv 7) (pv 10) (fun _ _ => rfl)) pe_int (fun _ _ => rfl)) (pa_cons (pe_ix ix_D (pe_ix ix_D (pv 7) (pe_op op_subD (pv 11) pe_int) (fun _ _ => rfl)) pe_int (fun _ _ => rfl)) pa_nil)))))))))))))))
      (pss_cons (ps_for PassesOwn.never rfl (pi_range2 rfl T.n_range (pa_cons pe_int (pa_cons (pe_callB call_lenDD (by rfl) T.n_len (by decide +kernel) (pa_cons (pv 4) pa_nil)) pa_nil))) (pg_name (i := 5) Sc.nd rfl (by first | exact Or.inl rfl | exact Or.inr rfl)) (pss_one (ps_expr (pe_bm PySem.F.plainAttrs_list PySem.F.slot_list_append PySem.F.type_list_append mt_append (pv 3) (pa_cons (pe_ifExp (pt_cmpR (op_eqDD hu) (pe_dget (hu1 hu) (pv 0) pe_str (fun _ _ => rfl)) pe_str (nomark _)) (pe_tup (pa_cons pe_int (pa_cons (pe_ix ix_D (pe_ix ix_D (pv 4) (pv 5) (fun _ _ => rfl)) pe_int (fun _ _ => rfl)) pa_nil))) (pe_tup (pa_cons (pe_ix ix_D (pe_ix ix_D (pv 4) (pe_op op_subD (pv 5) pe_int) (fun _ _ => rfl)) pe_int (fun _ _ => rfl)) (pa_cons (pv 1) pa_nil)))) pa_nil)))))
      (pss_one (ps_pre 3 (ps_ret (pe_frz (pe_sortKL (keyB_sub (by decide)) (pv 3) (by rfl) T.n_sorted (by decide +kernel) TB2 rfl (show (("_law_wide_lumps" : Str) ++ ".<locals>." ++ "<lambda>" = ("_law_wide_lumps.<locals>.<lambda>" : Str)) from by decide +kernel) hr rfl rfl rfl rfl rfl (by decide) rfl (fun _ _ _ _ _ => rfl)))))))))),
      (ds_seq (ds_asg (dc_D (da_cons (de_var 0) (da_cons (de_var 1) da_nil)) (an_cons (an_cons an_nil))) dg_name)
      (ds_seq (ds_parO1 (dl_list1 (de_op (de_var 2) de_int)) (de_op (de_var 2) (de_un de_int)))
      (ds_seq (ds_for (di_rg1 (da_cons (de_op (de_callN (da_cons (de_var 2) da_nil)) de_int) da_nil)) (dg_name (i := 5)) (ds_seq (ds_asg (de_tup (da_cons (dc_D (da_cons (de_var 0) (da_cons (de_var 5) da_nil)) (an_cons (an_cons an_nil))) (da_cons (de_op (de_var 2) (de_var 5)) da_nil))) (dg_tup (dgs_cons (dg_name (i := 6)) (dgs_cons (dg_name (i := 7)) dgs_nil))))
      (ds_for (di_rg3 (da_cons de_int (da_cons (de_callN (da_cons (de_var 7) da_nil)) (da_cons (de_op (de_callN (da_cons (de_var 6) da_nil)) de_int) da_nil)))) (dg_name (i := 8)) (ds_seq (ds_asg (dc_D (da_cons (de_var 6) (da_cons (de_callN (da_cons (de_op (de_callN (da_cons (de_var 6) da_nil)) de_int) (da_cons (de_op (de_callN (da_cons (de_var 7) da_nil)) (de_var 8)) da_nil))) da_nil)) (an_cons (an_cons an_nil))) dg_name)
      (ds_pre 3 (ds_setO (dl_add (de_var 3) (de_frz (dl_lc (W' := fun _ _ _ _ => False) (vs := [10, 11]) (di_seq (dc_D (da_cons (de_var 9) (da_cons (de_var 8) da_nil)) (an_cons (an_cons an_nil)))) (dg_tup (dgs_cons (dg_name (i := 10)) (dgs_cons (dg_name (i := 11)) dgs_nil))) (dt_test (de_op (de_op (de_var 11) (de_var 10)) de_int)) (de_tup (da_cons (de_op (de_op (de_var 7) (de_var 10)) de_int) (da_cons (de_op (de_op (de_var 7) (de_op (de_var 11) de_int)) de_int) da_nil))) (fun _ h => h))))))))))
      (ds_seq (ds_for (di_rg2 (da_cons de_int (da_cons (de_callN (da_cons (de_var 4) da_nil)) da_nil))) (dg_name (i := 5)) (ds_app (de_if (dt_test (de_op (de_dgK (plK 0) de_str) de_str)) (de_tup (da_cons de_int (da_cons (de_op (de_op (de_var 4) (de_var 5)) de_int) da_nil))) (de_tup (da_cons (de_op (de_op (de_var 4) (de_op (de_var 5) de_int)) de_int) (da_cons (de_var 1) da_nil))))))
      (ds_pre 3 (ds_ret (de_frz (dl_sortK tabG_has (de_var 3)))))))))⟩
def spLawT (K : PySem.W.Frag) (Pt P2 : Addr) : Sp := fun vs H Q _ => ∃ (a : Addr) (ns : List Int), vs = [.ref a] ∧ H Pt = some (.tbl #[]) ∧ H P2 = some (.tbl #[]) ∧ Pt ≠ P2 ∧ SqL K H a (ns.map V.int) ∧ ns.length ≤ 63 ∧ ∀ v H', v = .bl true → Q v H'
theorem ok_law (LT : ∀ ns : List Int, ns.length ≤ 63 → ∃ ω', runS B_law tau0 (srcOf ns) = .ok (.bl true) ω') (T : Defs K mg im) (TB : LamX.TabB base mg T.cT T.pT) (TB2 : LamX.TabB base mg T.cT2 T.pT2) : GOk P w K mg base 148 T.d_law.f T.d_law.fd ["_law_script"] (spLawT K T.pT T.pT2) := by
  have G_law_source := ok_law_source (P := P) (w := w) (base := base) (im := im) T
  have G_law_any_plan := ok_law_any_plan (P := P) (w := w) (base := base) (im := im) T
  have G_all_lumps := ok_all_lumps (P := P) (w := w) (base := base) (im := im) T TB
  have G_law_wide_lumps := ok_law_wide_lumps (P := P) (w := w) (base := base) (im := im) T TB2
  have G_law_pick := ok_law_pick (P := P) (w := w) (base := base) (im := im) T
  have G_law_lumps := ok_law_lumps (P := P) (w := w) (base := base) (im := im) T
  have G_law_told := ok_law_told (P := P) (w := w) (base := base) (im := im) T
  have GL_all_lumps := okL_all_lumps (P := P) (w := w) (base := base) (im := im) T TB
  have Sc : FnScope ["_law_script", "_law_source_here", "_law_lap", "_law_world", "_law_few", "_law_many", "_law_told_here", "_law_due"] ["_law_script"] (defScope s_law) := ⟨rfl, rfl, rfl, by decide +kernel, rfl, by decide +kernel, by decide +kernel⟩
  refine GOk.ofBodyC T.d_law.F Sc (fun vs H Q E h => ?_) (fun cdv A outer s H vs Q E ec gu hr h => ?_)
  · obtain ⟨a, ns, rfl, _⟩ := h
    rfl
  obtain ⟨a, ns, rfl, hT, hT2, hne, hS, hlen, k⟩ := h
  have hu := room_hu hr
  obtain ⟨tB, pB, dB⟩ : ∃ t, PSs (cxOf CX0 P w K mg base ["_law_script", "_law_source_here", "_law_lap", "_law_world", "_law_few", "_law_many", "_law_told_here", "_law_due"] "law" (defScope s_law) T.d_law.f cdv A outer s H E).nox (defBody s_law).tail t ∧ ∀ p : Addr × Addr, DS (srcTT im T.pT "in_order.<locals>.<lambda>" T.pT2 "_law_wide_lumps.<locals>.<lambda>" p) K (fun _ _ _ _ => False) t B_law := ⟨_, (pss_cons (ps_for PassesOwn.never rfl (pi_range1 rfl T.n_range (pa_cons pe_int pa_nil)) (pg_name (i := 2) Sc.nd rfl (by first | exact Or.inl rfl | exact Or.inr rfl)) (pss_cons (ps_par3 (i := 3) (j := 4) (l := 5) rfl Sc.nd rfl rfl rfl (by decide) (by decide) (by decide) rfl rfl rfl (pa_cons (pe_call G_law_any_plan (hr.mono (by first | decide | omega)) rfl T.d_law_any_plan.g T.d_law_any_plan.F.kp T.d_law_any_plan.b .nil pass0 (pa_cons (pv 1) pa_nil)) (pa_cons (pe_op op_addD pe_int (pe_call G_law_pick (hr.mono (by first | decide | omega)) rfl T.d_law_pick.g T.d_law_pick.F.kp T.d_law_pick.b .nil pass0 (pa_cons (pv 1) (pa_cons pe_int pa_nil)))) (pa_cons (pe_op op_addD pe_int (pe_call G_law_pick (hr.mono (by first | decide | omega)) rfl T.d_law_pick.g T.d_law_pick.F.kp T.d_law_pick.b .nil pass0 (pa_cons (pv 1) (pa_cons pe_int pa_nil)))) pa_nil))) (by rfl))
      (pss_cons (ps_if (pt_cmpR (op_neDD hu) (pe_callB (call_reprDD hu gu) (by rfl) T.n_repr (by decide +kernel) (pa_cons (pe_call G_all_lumps (hr.mono (by first | decide | omega)) rfl T.d_all_lumps.g T.d_all_lumps.F.kp T.d_all_lumps.b .nil pass0 (pa_cons (pe_dget (hu1 hu) (pv 3) pe_str (fun _ _ => rfl)) (pa_cons (pv 4) pa_nil))) pa_nil)) (pe_callB (call_reprDD hu gu) (by rfl) T.n_repr (by decide +kernel) (pa_cons (pe_call (G_law_lumps 70) (hr.mono (by first | decide | omega)) rfl T.d_law_lumps.g T.d_law_lumps.F.kp T.d_law_lumps.b .nil pass0 (pa_cons (pe_call G_law_told (hr.mono (by first | decide | omega)) rfl T.d_law_told.g T.d_law_told.F.kp T.d_law_told.b .nil pass0 (pa_cons (pv 3) (pa_cons (pv 4) pa_nil))) (pa_cons pe_int pa_nil))) pa_nil)) (nomark _)) (pss_one (ps_ret pe_bl)) pss_nil)
      (pss_cons (ps_par (i := 6) (j := 7) rfl Sc.nd rfl rfl (by decide) rfl rfl (pa_cons (pe_call GL_all_lumps (hr.mono (by first | decide | omega)) rfl T.d_all_lumps.g T.d_all_lumps.F.kp T.d_all_lumps.b .nil pass0 (pa_cons (pe_dget (hu1 hu) (pv 3) pe_str (fun _ _ => rfl)) (pa_cons (pv 5) pa_nil))) (pa_cons (pe_call G_law_wide_lumps (hr.mono (by first | decide | omega)) rfl T.d_law_wide_lumps.g T.d_law_wide_lumps.F.kp T.d_law_wide_lumps.b .nil pass0 (pa_cons (pv 3) (pa_cons (pv 5) pa_nil))) pa_nil)) (by rfl))
      (pss_cons (ps_if (pt_cmpR (op_neDD hu) (pe_callB (call_reprO hu gu) (by rfl) T.n_repr (by decide +kernel) (pa_cons (pv 6) pa_nil)) (pe_callB (call_reprDD hu gu) (by rfl) T.n_repr (by decide +kernel) (pa_cons (pv 7) pa_nil)) (nomark _)) (pss_one (ps_ret pe_bl)) pss_nil)
      (pss_cons (ps_expr (pe_bm PySem.F.plainAttrs_list PySem.F.slot_list_append PySem.F.type_list_append mt_append (pv 6) (pa_cons pe_non pa_nil)))
      (pss_one (ps_if (pt_cmpR (op_neDD hu) (pe_call G_all_lumps (hr.mono (by first | decide | omega)) rfl T.d_all_lumps.g T.d_all_lumps.F.kp T.d_all_lumps.b .nil pass0 (pa_cons (pe_dget (hu1 hu) (pv 3) pe_str (fun _ _ => rfl)) (pa_cons (pv 5) pa_nil))) (pv 7) (nomark _)) (pss_one (ps_ret pe_bl)) pss_nil))))))))
      (pss_one (ps_ret (pe_and (pe_cmpR (op_eqDD hu) (pe_call G_all_lumps (hr.mono (by first | decide | omega)) rfl T.d_all_lumps.g T.d_all_lumps.F.kp T.d_all_lumps.b .nil pass0 (pa_cons (pe_dget (hu1 hu) (pv 3) pe_str (fun _ _ => rfl)) (pa_cons pe_int pa_nil))) (pe_frz (pe_lst (pa_cons (pe_tup (pa_cons pe_int (pa_cons pe_int pa_nil))) pa_nil))) (nomark _)) (pe_one (pe_cmpR (op_eqDD hu) (pe_call G_all_lumps (hr.mono (by first | decide | omega)) rfl T.d_all_lumps.g T.d_all_lumps.F.kp T.d_all_lumps.b .nil pass0 (pa_cons (pe_dget (hu1 hu) (pv 3) pe_str (fun _ _ => rfl)) (pa_cons pe_int pa_nil))) (pe_frz (pe_lst (pa_cons (pe_tup (pa_cons pe_int (pa_cons pe_int pa_nil))) (pa_cons (pe_tup (pa_cons pe_int (pa_cons pe_int pa_nil))) (pa_cons (pe_tup (pa_cons pe_int (pa_cons pe_int pa_nil))) pa_nil))))) (nomark _))))))), fun p => (ds_seq (ds_for (di_rg1 (da_cons de_int da_nil)) (dg_name (i := 2)) (ds_seq (ds_par3 (dc_WS (Γ := srcG im) (p := p) sub_srcTT da_nil an_nil) (de_op de_int (dc_WS (Γ := srcG im) (p := p) sub_srcTT (da_cons de_int da_nil) (an_cons an_nil))) (de_op de_int (dc_WS (Γ := srcG im) (p := p) sub_srcTT (da_cons de_int da_nil) (an_cons an_nil))))
      (ds_seq (ds_if (dt_test (de_op (de_callN (da_cons (dc_T (P := T.pT) (nm := "in_order.<locals>.<lambda>") srcTT_has (da_cons (de_dgK (plK 3) de_str) (da_cons (de_var 4) da_nil)) (an_cons (an_cons an_nil))) da_nil)) (de_callN (da_cons (dc_D (da_cons (dc_D (da_cons (de_var 3) (da_cons (de_var 4) da_nil)) (an_cons (an_cons an_nil))) (da_cons de_int da_nil)) (an_cons (an_cons an_nil))) da_nil)))) (ds_ret de_bl) ds_nx)
      (ds_seq (ds_parO1 (dl_TL (P := T.pT) (nm := "in_order.<locals>.<lambda>") srcTT_has (da_cons (de_dgK (plK 3) de_str) (da_cons (de_var 5) da_nil)) (an_cons (an_cons an_nil))) (dc_T (P := T.pT2) (nm := "_law_wide_lumps.<locals>.<lambda>") srcTT_has2 (da_cons (de_var 3) (da_cons (de_var 5) da_nil)) (an_cons (an_cons an_nil))))
      (ds_seq (ds_if (dt_test (de_op de_oRepr (de_callN (da_cons (de_var 7) da_nil)))) (ds_ret de_bl) ds_nx)
      (ds_seq (ds_app de_non)
      (ds_if (dt_test (de_op (dc_T (P := T.pT) (nm := "in_order.<locals>.<lambda>") srcTT_has (da_cons (de_dgK (plK 3) de_str) (da_cons (de_var 5) da_nil)) (an_cons (an_cons an_nil))) (de_var 7))) (ds_ret de_bl) ds_nx)))))))
      (ds_ret (de_and (de_op (dc_T (P := T.pT) (nm := "in_order.<locals>.<lambda>") srcTT_has (da_cons (de_dgK (plK 3) de_str) (da_cons de_int da_nil)) (an_cons (an_cons an_nil))) (de_frz (dl_lst (da_cons (de_tup (da_cons de_int (da_cons de_int da_nil))) da_nil)))) (de_op (dc_T (P := T.pT) (nm := "in_order.<locals>.<lambda>") srcTT_has (da_cons (de_dgK (plK 3) de_str) (da_cons de_int da_nil)) (an_cons (an_cons an_nil))) (de_frz (dl_lst (da_cons (de_tup (da_cons de_int (da_cons de_int da_nil))) (da_cons (de_tup (da_cons de_int (da_cons de_int da_nil))) (da_cons (de_tup (da_cons de_int (da_cons de_int da_nil))) da_nil)))))))))⟩
  refine ⟨_, pss_cons (ps_set (i := 1) Sc.nd rfl (by first | exact Or.inl rfl | exact Or.inr rfl) (pe_call G_law_source (hr.mono (by first | decide | omega)) rfl T.d_law_source.g T.d_law_source.F.kp T.d_law_source.b .nil pass0 (pa_cons (pv 0) pa_nil))) pB, ?_⟩
  refine ⟨_, rfl, a, ns, rfl, hS, by omega, fun p H' sm h1 h2 at' => ?_⟩
  obtain ⟨ω', hF⟩ := LT ns hlen
  clear LT
  generalize B_law = Bl at dB hF
  have tab2 : LamX.TabS H' T.pT "in_order.<locals>.<lambda>" := LamX.TabS.nil (sm _ _ hT)
  have tab3 : LamX.TabS H' T.pT2 "_law_wide_lumps.<locals>.<lambda>" := LamX.TabS.nil (sm _ _ hT2)
  have at2 : (srcTT im T.pT "in_order.<locals>.<lambda>" T.pT2 "_law_wide_lumps.<locals>.<lambda>" p).At (srcOf ns) H' := ⟨at', tab2, tab3, hne⟩
  have D0 := dB p
  refine D0 H' _ H' (srcOf ns) tau0 ⟨rfl, fun i v c e1 e2 => ?_, fun i j l _ _ xs ys _ _ e2 _ _ => ?_, .refl⟩ at2 _ ?_
  · by_cases hi : i = 1
    · subst hi
      cases e1; cases e2
      exact .src
    · have e3 : c = none := by
        unfold tau0 at e2
        rw [List.getElem?_set_ne (Ne.symm hi), List.getElem?_replicate] at e2
        split at e2 <;> cases e2
        rfl
      subst e3
      exact .un
  · by_cases hi : i = 1
    · subst hi
      cases e2
    · unfold tau0 at e2
      rw [List.getElem?_set_ne (Ne.symm hi), List.getElem?_replicate] at e2
      split at e2 <;> cases e2
  · exact ks_law hF (fun v H2 e => k _ _ e)
end
theorem all_mk {l : PySem.W.OpenLaw} {w : World} {K : PySem.W.Frag} {h : Heap} {mg : Str → Option Value} {fa : Addr} (LT : ∀ ns : List Int, ns.length ≤ 63 → ∃ ω', runS B_law tau0 (srcOf ns) = .ok (.bl true) ω') (X : K.In h) (G : h.Ns mainGlobals mg) (hfa : mg "law" = some (.ref fa))
    {C : Addr} (aC : PySem.W.nsIn K mainGlobals "Plan" = some (some (.ref C))) (pg : PySem.W.plainGet K C Str.empty = true) (hd : PySem.W.hasDictIn K C = true) (po : PySem.W.plainOver K C = true) (sa : PySem.W.findIn K (.ref C) "__setattr__" = some (some (.builtin "object.__setattr__"))) (mk : PySem.W.makesIn K C = true) (kc : PySem.W.keepIn K (.ref C) = true)
    (n_end : PySem.W.findIn K (.ref C) "_end" = some none)
    (n_tables : PySem.W.findIn K (.ref C) "_tables" = some none)
    {f0 : Addr} {od0 an0 : Option Addr} {sl0 : Array (Option Value)} {oc0 kV0 dc0 pm0 cd0 ct0 : Value}
    (a0 : PySem.W.nsIn K mainGlobals "wrong_shape_path" = some (some (.ref f0))) (l0 : K.lookup f0 = some ⟨oc0, od0, .func (PySem.W.fnOf "wrong_shape_path" "wrong_shape_path" (defArgs s_wrong_shape_path) (defBody s_wrong_shape_path) (defScope s_wrong_shape_path) .none kV0 dc0 pm0 an0 cd0 ct0), sl0⟩) (c0 : PySem.W.codeIn K cd0 "wrong_shape_path" = true) (k0 : PySem.W.keepIn K (.ref f0) = true)
    {f1 : Addr} {od1 an1 : Option Addr} {sl1 : Array (Option Value)} {oc1 kV1 dc1 pm1 cd1 ct1 : Value}
    (a1 : PySem.W.nsIn K mainGlobals "size_of" = some (some (.ref f1))) (l1 : K.lookup f1 = some ⟨oc1, od1, .func (PySem.W.fnOf "size_of" "size_of" (defArgs s_size_of) (defBody s_size_of) (defScope s_size_of) .none kV1 dc1 pm1 an1 cd1 ct1), sl1⟩) (c1 : PySem.W.codeIn K cd1 "size_of" = true) (k1 : PySem.W.keepIn K (.ref f1) = true)
    {f2 : Addr} {od2 an2 : Option Addr} {sl2 : Array (Option Value)} {oc2 kV2 dc2 pm2 cd2 ct2 : Value}
    (a2 : PySem.W.nsIn K mainGlobals "wrong_table_path" = some (some (.ref f2))) (l2 : K.lookup f2 = some ⟨oc2, od2, .func (PySem.W.fnOf "wrong_table_path" "wrong_table_path" (defArgs s_wrong_table_path) (defBody s_wrong_table_path) (defScope s_wrong_table_path) .none kV2 dc2 pm2 an2 cd2 ct2), sl2⟩) (c2 : PySem.W.codeIn K cd2 "wrong_table_path" = true) (k2 : PySem.W.keepIn K (.ref f2) = true)
    {f3 : Addr} {od3 an3 : Option Addr} {sl3 : Array (Option Value)} {oc3 kV3 dc3 pm3 cd3 ct3 : Value}
    (a3 : PySem.W.nsIn K mainGlobals "table_size" = some (some (.ref f3))) (l3 : K.lookup f3 = some ⟨oc3, od3, .func (PySem.W.fnOf "table_size" "table_size" (defArgs s_table_size) (defBody s_table_size) (defScope s_table_size) .none kV3 dc3 pm3 an3 cd3 ct3), sl3⟩) (c3 : PySem.W.codeIn K cd3 "table_size" = true) (k3 : PySem.W.keepIn K (.ref f3) = true)
    {f4 : Addr} {od4 an4 : Option Addr} {sl4 : Array (Option Value)} {oc4 kV4 dc4 pm4 cd4 ct4 : Value}
    (a4 : PySem.W.nsIn K mainGlobals "entry" = some (some (.ref f4))) (l4 : K.lookup f4 = some ⟨oc4, od4, .func (PySem.W.fnOf "entry" "entry" (defArgs s_entry) (defBody s_entry) (defScope s_entry) .none kV4 dc4 pm4 an4 cd4 ct4), sl4⟩) (c4 : PySem.W.codeIn K cd4 "entry" = true) (k4 : PySem.W.keepIn K (.ref f4) = true)
    {f5 : Addr} {od5 an5 : Option Addr} {sl5 : Array (Option Value)} {oc5 kV5 dc5 pm5 cd5 ct5 : Value}
    (a5 : PySem.W.nsIn K mainGlobals "stretches" = some (some (.ref f5))) (l5 : K.lookup f5 = some ⟨oc5, od5, .func (PySem.W.fnOf "stretches" "stretches" (defArgs s_stretches) (defBody s_stretches) (defScope s_stretches) .none kV5 dc5 pm5 an5 cd5 ct5), sl5⟩) (c5 : PySem.W.codeIn K cd5 "stretches" = true) (k5 : PySem.W.keepIn K (.ref f5) = true)
    {f6 : Addr} {od6 an6 : Option Addr} {sl6 : Array (Option Value)} {oc6 kV6 dc6 pm6 cd6 ct6 : Value}
    (a6 : PySem.W.nsIn K mainGlobals "_note_parts" = some (some (.ref f6))) (l6 : K.lookup f6 = some ⟨oc6, od6, .func (PySem.W.fnOf "_note_parts" "_note_parts" (defArgs s_note_parts) (defBody s_note_parts) (defScope s_note_parts) .none kV6 dc6 pm6 an6 cd6 ct6), sl6⟩) (c6 : PySem.W.codeIn K cd6 "_note_parts" = true) (k6 : PySem.W.keepIn K (.ref f6) = true)
    {f7 : Addr} {od7 an7 : Option Addr} {sl7 : Array (Option Value)} {oc7 kV7 dc7 pm7 cd7 ct7 : Value}
    (a7 : PySem.W.nsIn K mainGlobals "lump_parts" = some (some (.ref f7))) (l7 : K.lookup f7 = some ⟨oc7, od7, .func (PySem.W.fnOf "lump_parts" "lump_parts" (defArgs s_lump_parts) (defBody s_lump_parts) (defScope s_lump_parts) .none kV7 dc7 pm7 an7 cd7 ct7), sl7⟩) (c7 : PySem.W.codeIn K cd7 "lump_parts" = true) (k7 : PySem.W.keepIn K (.ref f7) = true)
    {f8 : Addr} {od8 an8 : Option Addr} {sl8 : Array (Option Value)} {oc8 kV8 dc8 pm8 cd8 ct8 : Value}
    (a8 : PySem.W.nsIn K mainGlobals "rounded_up" = some (some (.ref f8))) (l8 : K.lookup f8 = some ⟨oc8, od8, .func (PySem.W.fnOf "rounded_up" "rounded_up" (defArgs s_rounded_up) (defBody s_rounded_up) (defScope s_rounded_up) .none kV8 dc8 pm8 an8 cd8 ct8), sl8⟩) (c8 : PySem.W.codeIn K cd8 "rounded_up" = true) (k8 : PySem.W.keepIn K (.ref f8) = true)
    {f9 : Addr} {od9 an9 : Option Addr} {sl9 : Array (Option Value)} {oc9 kV9 dc9 pm9 cd9 ct9 : Value}
    (a9 : PySem.W.findIn K (.ref C) "stage" = some (some (.ref f9))) (i9 : PySem.W.isFn K (.ref f9) = true) (l9 : K.lookup f9 = some ⟨oc9, od9, .func (PySem.W.fnOf "stage" "Plan.stage" (defArgs s_Plan_stage) (defBody s_Plan_stage) (defScope s_Plan_stage) .none kV9 dc9 pm9 an9 cd9 ct9), sl9⟩) (c9 : PySem.W.codeIn K cd9 "Plan.stage" = true) (k9 : PySem.W.keepIn K (.ref f9) = true)
    {f10 : Addr} {od10 an10 : Option Addr} {sl10 : Array (Option Value)} {oc10 kV10 dc10 pm10 cd10 ct10 : Value}
    (a10 : PySem.W.nsIn K mainGlobals "stages_used" = some (some (.ref f10))) (l10 : K.lookup f10 = some ⟨oc10, od10, .func (PySem.W.fnOf "stages_used" "stages_used" (defArgs s_stages_used) (defBody s_stages_used) (defScope s_stages_used) .none kV10 dc10 pm10 an10 cd10 ct10), sl10⟩) (c10 : PySem.W.codeIn K cd10 "stages_used" = true) (k10 : PySem.W.keepIn K (.ref f10) = true)
    {f11 : Addr} {od11 an11 : Option Addr} {sl11 : Array (Option Value)} {oc11 kV11 dc11 pm11 cd11 ct11 : Value}
    (a11 : PySem.W.nsIn K mainGlobals "tables_used" = some (some (.ref f11))) (l11 : K.lookup f11 = some ⟨oc11, od11, .func (PySem.W.fnOf "tables_used" "tables_used" (defArgs s_tables_used) (defBody s_tables_used) (defScope s_tables_used) .none kV11 dc11 pm11 an11 cd11 ct11), sl11⟩) (c11 : PySem.W.codeIn K cd11 "tables_used" = true) (k11 : PySem.W.keepIn K (.ref f11) = true)
    {f12 : Addr} {od12 an12 : Option Addr} {sl12 : Array (Option Value)} {oc12 kV12 dc12 pm12 cd12 ct12 : Value}
    (a12 : PySem.W.nsIn K mainGlobals "_stretch_lumps" = some (some (.ref f12))) (l12 : K.lookup f12 = some ⟨oc12, od12, .func (PySem.W.fnOf "_stretch_lumps" "_stretch_lumps" (defArgs s_stretch_lumps) (defBody s_stretch_lumps) (defScope s_stretch_lumps) .none kV12 dc12 pm12 an12 cd12 ct12), sl12⟩) (c12 : PySem.W.codeIn K cd12 "_stretch_lumps" = true) (k12 : PySem.W.keepIn K (.ref f12) = true)
    {f13 : Addr} {od13 an13 : Option Addr} {sl13 : Array (Option Value)} {oc13 kV13 dc13 pm13 cd13 ct13 : Value}
    (a13 : PySem.W.nsIn K mainGlobals "_end_lumps" = some (some (.ref f13))) (l13 : K.lookup f13 = some ⟨oc13, od13, .func (PySem.W.fnOf "_end_lumps" "_end_lumps" (defArgs s_end_lumps) (defBody s_end_lumps) (defScope s_end_lumps) .none kV13 dc13 pm13 an13 cd13 ct13), sl13⟩) (c13 : PySem.W.codeIn K cd13 "_end_lumps" = true) (k13 : PySem.W.keepIn K (.ref f13) = true)
    {f14 : Addr} {od14 an14 : Option Addr} {sl14 : Array (Option Value)} {oc14 kV14 dc14 pm14 cd14 ct14 : Value}
    (a14 : PySem.W.nsIn K mainGlobals "in_order" = some (some (.ref f14))) (l14 : K.lookup f14 = some ⟨oc14, od14, .func (PySem.W.fnOf "in_order" "in_order" (defArgs s_in_order) (defBody s_in_order) (defScope s_in_order) .none kV14 dc14 pm14 an14 cd14 ct14), sl14⟩) (c14 : PySem.W.codeIn K cd14 "in_order" = true) (k14 : PySem.W.keepIn K (.ref f14) = true)
    {f15 : Addr} {od15 an15 : Option Addr} {sl15 : Array (Option Value)} {oc15 kV15 dc15 pm15 cd15 ct15 : Value}
    (a15 : PySem.W.findIn K (.ref C) "end" = some (some (.ref f15))) (i15 : PySem.W.isFn K (.ref f15) = true) (l15 : K.lookup f15 = some ⟨oc15, od15, .func (PySem.W.fnOf "end" "Plan.end" (defArgs s_Plan_end) (defBody s_Plan_end) (defScope s_Plan_end) .none kV15 dc15 pm15 an15 cd15 ct15), sl15⟩) (c15 : PySem.W.codeIn K cd15 "Plan.end" = true) (k15 : PySem.W.keepIn K (.ref f15) = true)
    {f16 : Addr} {od16 an16 : Option Addr} {sl16 : Array (Option Value)} {oc16 kV16 dc16 pm16 cd16 ct16 : Value}
    (a16 : PySem.W.nsIn K mainGlobals "all_lumps" = some (some (.ref f16))) (l16 : K.lookup f16 = some ⟨oc16, od16, .func (PySem.W.fnOf "all_lumps" "all_lumps" (defArgs s_all_lumps) (defBody s_all_lumps) (defScope s_all_lumps) .none kV16 dc16 pm16 an16 cd16 ct16), sl16⟩) (c16 : PySem.W.codeIn K cd16 "all_lumps" = true) (k16 : PySem.W.keepIn K (.ref f16) = true)
    {f17 : Addr} {od17 an17 : Option Addr} {sl17 : Array (Option Value)} {oc17 kV17 dc17 pm17 cd17 ct17 : Value}
    (a17 : PySem.W.nsIn K mainGlobals "_first_wrong_table" = some (some (.ref f17))) (l17 : K.lookup f17 = some ⟨oc17, od17, .func (PySem.W.fnOf "_first_wrong_table" "_first_wrong_table" (defArgs s_first_wrong_table) (defBody s_first_wrong_table) (defScope s_first_wrong_table) .none kV17 dc17 pm17 an17 cd17 ct17), sl17⟩) (c17 : PySem.W.codeIn K cd17 "_first_wrong_table" = true) (k17 : PySem.W.keepIn K (.ref f17) = true)
    {f18 : Addr} {od18 an18 : Option Addr} {sl18 : Array (Option Value)} {oc18 kV18 dc18 pm18 cd18 ct18 : Value}
    (a18 : PySem.W.nsIn K mainGlobals "wrong_plan_path" = some (some (.ref f18))) (l18 : K.lookup f18 = some ⟨oc18, od18, .func (PySem.W.fnOf "wrong_plan_path" "wrong_plan_path" (defArgs s_wrong_plan_path) (defBody s_wrong_plan_path) (defScope s_wrong_plan_path) .none kV18 dc18 pm18 an18 cd18 ct18), sl18⟩) (c18 : PySem.W.codeIn K cd18 "wrong_plan_path" = true) (k18 : PySem.W.keepIn K (.ref f18) = true)
    {f19 : Addr} {od19 an19 : Option Addr} {sl19 : Array (Option Value)} {oc19 kV19 dc19 pm19 cd19 ct19 : Value}
    (a19 : PySem.W.nsIn K mainGlobals "_law_stage" = some (some (.ref f19))) (l19 : K.lookup f19 = some ⟨oc19, od19, .func (PySem.W.fnOf "_law_stage" "_law_stage" (defArgs s_law_stage) (defBody s_law_stage) (defScope s_law_stage) .none kV19 dc19 pm19 an19 cd19 ct19), sl19⟩) (c19 : PySem.W.codeIn K cd19 "_law_stage" = true) (k19 : PySem.W.keepIn K (.ref f19) = true)
    {f20 : Addr} {od20 an20 : Option Addr} {sl20 : Array (Option Value)} {oc20 kV20 dc20 pm20 cd20 ct20 : Value}
    (a20 : PySem.W.nsIn K mainGlobals "_law_rows" = some (some (.ref f20))) (l20 : K.lookup f20 = some ⟨oc20, od20, .func (PySem.W.fnOf "_law_rows" "_law_rows" (defArgs s_law_rows) (defBody s_law_rows) (defScope s_law_rows) .none kV20 dc20 pm20 an20 cd20 ct20), sl20⟩) (c20 : PySem.W.codeIn K cd20 "_law_rows" = true) (k20 : PySem.W.keepIn K (.ref f20) = true)
    {f21 : Addr} {od21 an21 : Option Addr} {sl21 : Array (Option Value)} {oc21 kV21 dc21 pm21 cd21 ct21 : Value}
    (a21 : PySem.W.nsIn K mainGlobals "_law_entry" = some (some (.ref f21))) (l21 : K.lookup f21 = some ⟨oc21, od21, .func (PySem.W.fnOf "_law_entry" "_law_entry" (defArgs s_law_entry) (defBody s_law_entry) (defScope s_law_entry) .none kV21 dc21 pm21 an21 cd21 ct21), sl21⟩) (c21 : PySem.W.codeIn K cd21 "_law_entry" = true) (k21 : PySem.W.keepIn K (.ref f21) = true)
    {f22 : Addr} {od22 an22 : Option Addr} {sl22 : Array (Option Value)} {oc22 kV22 dc22 pm22 cd22 ct22 : Value}
    (a22 : PySem.W.nsIn K mainGlobals "_law_size" = some (some (.ref f22))) (l22 : K.lookup f22 = some ⟨oc22, od22, .func (PySem.W.fnOf "_law_size" "_law_size" (defArgs s_law_size) (defBody s_law_size) (defScope s_law_size) .none kV22 dc22 pm22 an22 cd22 ct22), sl22⟩) (c22 : PySem.W.codeIn K cd22 "_law_size" = true) (k22 : PySem.W.keepIn K (.ref f22) = true)
    {f23 : Addr} {od23 an23 : Option Addr} {sl23 : Array (Option Value)} {oc23 kV23 dc23 pm23 cd23 ct23 : Value}
    (a23 : PySem.W.nsIn K mainGlobals "_law_lumps" = some (some (.ref f23))) (l23 : K.lookup f23 = some ⟨oc23, od23, .func (PySem.W.fnOf "_law_lumps" "_law_lumps" (defArgs s_law_lumps) (defBody s_law_lumps) (defScope s_law_lumps) .none kV23 dc23 pm23 an23 cd23 ct23), sl23⟩) (c23 : PySem.W.codeIn K cd23 "_law_lumps" = true) (k23 : PySem.W.keepIn K (.ref f23) = true)
    {f24 : Addr} {od24 an24 : Option Addr} {sl24 : Array (Option Value)} {oc24 kV24 dc24 pm24 cd24 ct24 : Value}
    (a24 : PySem.W.nsIn K mainGlobals "_law_source" = some (some (.ref f24))) (l24 : K.lookup f24 = some ⟨oc24, od24, .func (PySem.W.fnOf "_law_source" "_law_source" (defArgs s_law_source) (defBody s_law_source) (defScope s_law_source) .none kV24 dc24 pm24 an24 cd24 ct24), sl24⟩) (c24 : PySem.W.codeIn K cd24 "_law_source" = true) (k24 : PySem.W.keepIn K (.ref f24) = true)
    {f25 : Addr} {od25 an25 : Option Addr} {sl25 : Array (Option Value)} {oc25 kV25 dc25 pm25 cd25 ct25 : Value}
    (a25 : PySem.W.nsIn K mainGlobals "_law_pick" = some (some (.ref f25))) (l25 : K.lookup f25 = some ⟨oc25, od25, .func (PySem.W.fnOf "_law_pick" "_law_pick" (defArgs s_law_pick) (defBody s_law_pick) (defScope s_law_pick) .none kV25 dc25 pm25 an25 cd25 ct25), sl25⟩) (c25 : PySem.W.codeIn K cd25 "_law_pick" = true) (k25 : PySem.W.keepIn K (.ref f25) = true)
    {f26 : Addr} {od26 an26 : Option Addr} {sl26 : Array (Option Value)} {oc26 kV26 dc26 pm26 cd26 ct26 : Value}
    (a26 : PySem.W.nsIn K mainGlobals "_law_comb" = some (some (.ref f26))) (l26 : K.lookup f26 = some ⟨oc26, od26, .func (PySem.W.fnOf "_law_comb" "_law_comb" (defArgs s_law_comb) (defBody s_law_comb) (defScope s_law_comb) .none kV26 dc26 pm26 an26 cd26 ct26), sl26⟩) (c26 : PySem.W.codeIn K cd26 "_law_comb" = true) (k26 : PySem.W.keepIn K (.ref f26) = true)
    {f27 : Addr} {od27 an27 : Option Addr} {sl27 : Array (Option Value)} {oc27 kV27 dc27 pm27 cd27 ct27 : Value}
    (a27 : PySem.W.nsIn K mainGlobals "_law_halves" = some (some (.ref f27))) (l27 : K.lookup f27 = some ⟨oc27, od27, .func (PySem.W.fnOf "_law_halves" "_law_halves" (defArgs s_law_halves) (defBody s_law_halves) (defScope s_law_halves) .none kV27 dc27 pm27 an27 cd27 ct27), sl27⟩) (c27 : PySem.W.codeIn K cd27 "_law_halves" = true) (k27 : PySem.W.keepIn K (.ref f27) = true)
    {f28 : Addr} {od28 an28 : Option Addr} {sl28 : Array (Option Value)} {oc28 kV28 dc28 pm28 cd28 ct28 : Value}
    (a28 : PySem.W.nsIn K mainGlobals "_law_shape" = some (some (.ref f28))) (l28 : K.lookup f28 = some ⟨oc28, od28, .func (PySem.W.fnOf "_law_shape" "_law_shape" (defArgs s_law_shape) (defBody s_law_shape) (defScope s_law_shape) .none kV28 dc28 pm28 an28 cd28 ct28), sl28⟩) (c28 : PySem.W.codeIn K cd28 "_law_shape" = true) (k28 : PySem.W.keepIn K (.ref f28) = true)
    {f29 : Addr} {od29 an29 : Option Addr} {sl29 : Array (Option Value)} {oc29 kV29 dc29 pm29 cd29 ct29 : Value}
    (a29 : PySem.W.nsIn K mainGlobals "_law_any_table" = some (some (.ref f29))) (l29 : K.lookup f29 = some ⟨oc29, od29, .func (PySem.W.fnOf "_law_any_table" "_law_any_table" (defArgs s_law_any_table) (defBody s_law_any_table) (defScope s_law_any_table) .none kV29 dc29 pm29 an29 cd29 ct29), sl29⟩) (c29 : PySem.W.codeIn K cd29 "_law_any_table" = true) (k29 : PySem.W.keepIn K (.ref f29) = true)
    {f30 : Addr} {od30 an30 : Option Addr} {sl30 : Array (Option Value)} {oc30 kV30 dc30 pm30 cd30 ct30 : Value}
    (a30 : PySem.W.nsIn K mainGlobals "_law_of" = some (some (.ref f30))) (l30 : K.lookup f30 = some ⟨oc30, od30, .func (PySem.W.fnOf "_law_of" "_law_of" (defArgs s_law_of) (defBody s_law_of) (defScope s_law_of) .none kV30 dc30 pm30 an30 cd30 ct30), sl30⟩) (c30 : PySem.W.codeIn K cd30 "_law_of" = true) (k30 : PySem.W.keepIn K (.ref f30) = true)
    {f31 : Addr} {od31 an31 : Option Addr} {sl31 : Array (Option Value)} {oc31 kV31 dc31 pm31 cd31 ct31 : Value}
    (a31 : PySem.W.findIn K (.ref C) "__init__" = some (some (.ref f31))) (i31 : PySem.W.isFn K (.ref f31) = true) (l31 : K.lookup f31 = some ⟨oc31, od31, .func (PySem.W.fnOf "__init__" "Plan.__init__" (defArgs s_Plan_init) (defBody s_Plan_init) (defScope s_Plan_init) .none kV31 dc31 pm31 an31 cd31 ct31), sl31⟩) (c31 : PySem.W.codeIn K cd31 "Plan.__init__" = true) (k31 : PySem.W.keepIn K (.ref f31) = true)
    {f32 : Addr} {od32 an32 : Option Addr} {sl32 : Array (Option Value)} {oc32 kV32 dc32 pm32 cd32 ct32 : Value}
    (a32 : PySem.W.nsIn K mainGlobals "_law_made" = some (some (.ref f32))) (l32 : K.lookup f32 = some ⟨oc32, od32, .func (PySem.W.fnOf "_law_made" "_law_made" (defArgs s_law_made) (defBody s_law_made) (defScope s_law_made) .none kV32 dc32 pm32 an32 cd32 ct32), sl32⟩) (c32 : PySem.W.codeIn K cd32 "_law_made" = true) (k32 : PySem.W.keepIn K (.ref f32) = true)
    {f33 : Addr} {od33 an33 : Option Addr} {sl33 : Array (Option Value)} {oc33 kV33 dc33 pm33 cd33 ct33 : Value}
    (a33 : PySem.W.nsIn K mainGlobals "_law_long_plan" = some (some (.ref f33))) (l33 : K.lookup f33 = some ⟨oc33, od33, .func (PySem.W.fnOf "_law_long_plan" "_law_long_plan" (defArgs s_law_long_plan) (defBody s_law_long_plan) (defScope s_law_long_plan) .none kV33 dc33 pm33 an33 cd33 ct33), sl33⟩) (c33 : PySem.W.codeIn K cd33 "_law_long_plan" = true) (k33 : PySem.W.keepIn K (.ref f33) = true)
    {f34 : Addr} {od34 an34 : Option Addr} {sl34 : Array (Option Value)} {oc34 kV34 dc34 pm34 cd34 ct34 : Value}
    (a34 : PySem.W.nsIn K mainGlobals "_law_filled" = some (some (.ref f34))) (l34 : K.lookup f34 = some ⟨oc34, od34, .func (PySem.W.fnOf "_law_filled" "_law_filled" (defArgs s_law_filled) (defBody s_law_filled) (defScope s_law_filled) .none kV34 dc34 pm34 an34 cd34 ct34), sl34⟩) (c34 : PySem.W.codeIn K cd34 "_law_filled" = true) (k34 : PySem.W.keepIn K (.ref f34) = true)
    {f35 : Addr} {od35 an35 : Option Addr} {sl35 : Array (Option Value)} {oc35 kV35 dc35 pm35 cd35 ct35 : Value}
    (a35 : PySem.W.nsIn K mainGlobals "_law_pressed" = some (some (.ref f35))) (l35 : K.lookup f35 = some ⟨oc35, od35, .func (PySem.W.fnOf "_law_pressed" "_law_pressed" (defArgs s_law_pressed) (defBody s_law_pressed) (defScope s_law_pressed) .none kV35 dc35 pm35 an35 cd35 ct35), sl35⟩) (c35 : PySem.W.codeIn K cd35 "_law_pressed" = true) (k35 : PySem.W.keepIn K (.ref f35) = true)
    {f36 : Addr} {od36 an36 : Option Addr} {sl36 : Array (Option Value)} {oc36 kV36 dc36 pm36 cd36 ct36 : Value}
    (a36 : PySem.W.nsIn K mainGlobals "_law_glue" = some (some (.ref f36))) (l36 : K.lookup f36 = some ⟨oc36, od36, .func (PySem.W.fnOf "_law_glue" "_law_glue" (defArgs s_law_glue) (defBody s_law_glue) (defScope s_law_glue) .none kV36 dc36 pm36 an36 cd36 ct36), sl36⟩) (c36 : PySem.W.codeIn K cd36 "_law_glue" = true) (k36 : PySem.W.keepIn K (.ref f36) = true)
    {f37 : Addr} {od37 an37 : Option Addr} {sl37 : Array (Option Value)} {oc37 kV37 dc37 pm37 cd37 ct37 : Value}
    (a37 : PySem.W.nsIn K mainGlobals "_law_table" = some (some (.ref f37))) (l37 : K.lookup f37 = some ⟨oc37, od37, .func (PySem.W.fnOf "_law_table" "_law_table" (defArgs s_law_table) (defBody s_law_table) (defScope s_law_table) .none kV37 dc37 pm37 an37 cd37 ct37), sl37⟩) (c37 : PySem.W.codeIn K cd37 "_law_table" = true) (k37 : PySem.W.keepIn K (.ref f37) = true)
    {f38 : Addr} {od38 an38 : Option Addr} {sl38 : Array (Option Value)} {oc38 kV38 dc38 pm38 cd38 ct38 : Value}
    (a38 : PySem.W.nsIn K mainGlobals "_law_plan" = some (some (.ref f38))) (l38 : K.lookup f38 = some ⟨oc38, od38, .func (PySem.W.fnOf "_law_plan" "_law_plan" (defArgs s_law_plan) (defBody s_law_plan) (defScope s_law_plan) .none kV38 dc38 pm38 an38 cd38 ct38), sl38⟩) (c38 : PySem.W.codeIn K cd38 "_law_plan" = true) (k38 : PySem.W.keepIn K (.ref f38) = true)
    {f39 : Addr} {od39 an39 : Option Addr} {sl39 : Array (Option Value)} {oc39 kV39 dc39 pm39 cd39 ct39 : Value}
    (a39 : PySem.W.nsIn K mainGlobals "_law_any_plan" = some (some (.ref f39))) (l39 : K.lookup f39 = some ⟨oc39, od39, .func (PySem.W.fnOf "_law_any_plan" "_law_any_plan" (defArgs s_law_any_plan) (defBody s_law_any_plan) (defScope s_law_any_plan) .none kV39 dc39 pm39 an39 cd39 ct39), sl39⟩) (c39 : PySem.W.codeIn K cd39 "_law_any_plan" = true) (k39 : PySem.W.keepIn K (.ref f39) = true)
    {f40 : Addr} {od40 an40 : Option Addr} {sl40 : Array (Option Value)} {oc40 kV40 dc40 pm40 cd40 ct40 : Value}
    (a40 : PySem.W.nsIn K mainGlobals "_law_told" = some (some (.ref f40))) (l40 : K.lookup f40 = some ⟨oc40, od40, .func (PySem.W.fnOf "_law_told" "_law_told" (defArgs s_law_told) (defBody s_law_told) (defScope s_law_told) .none kV40 dc40 pm40 an40 cd40 ct40), sl40⟩) (c40 : PySem.W.codeIn K cd40 "_law_told" = true) (k40 : PySem.W.keepIn K (.ref f40) = true)
    {f41 : Addr} {od41 an41 : Option Addr} {sl41 : Array (Option Value)} {oc41 kV41 dc41 pm41 cd41 ct41 : Value}
    (a41 : PySem.W.nsIn K mainGlobals "_law_wide_lumps" = some (some (.ref f41))) (l41 : K.lookup f41 = some ⟨oc41, od41, .func (PySem.W.fnOf "_law_wide_lumps" "_law_wide_lumps" (defArgs s_law_wide_lumps) (defBody s_law_wide_lumps) (defScope s_law_wide_lumps) .none kV41 dc41 pm41 an41 cd41 ct41), sl41⟩) (c41 : PySem.W.codeIn K cd41 "_law_wide_lumps" = true) (k41 : PySem.W.keepIn K (.ref f41) = true)
    {f42 : Addr} {od42 an42 : Option Addr} {sl42 : Array (Option Value)} {oc42 kV42 dc42 pm42 cd42 ct42 : Value}
    (a42 : PySem.W.nsIn K mainGlobals "law" = some (some (.ref f42))) (l42 : K.lookup f42 = some ⟨oc42, od42, .func (PySem.W.fnOf "law" "law" (defArgs s_law) (defBody s_law) (defScope s_law) .none kV42 dc42 pm42 an42 cd42 ct42), sl42⟩) (c42 : PySem.W.codeIn K cd42 "law" = true) (k42 : PySem.W.keepIn K (.ref f42) = true)
    (z_tuple : PySem.W.nsIn K mainGlobals "tuple" = some none)
    (z_isinstance : PySem.W.nsIn K mainGlobals "isinstance" = some none)
    (z_len : PySem.W.nsIn K mainGlobals "len" = some none)
    (z_enumerate : PySem.W.nsIn K mainGlobals "enumerate" = some none)
    (z_range : PySem.W.nsIn K mainGlobals "range" = some none)
    (z_min : PySem.W.nsIn K mainGlobals "min" = some none)
    (z_str : PySem.W.nsIn K mainGlobals "str" = some none)
    (z_sorted : PySem.W.nsIn K mainGlobals "sorted" = some none)
    (z_list : PySem.W.nsIn K mainGlobals "list" = some none)
    (z_int : PySem.W.nsIn K mainGlobals "int" = some none)
    (z_abs : PySem.W.nsIn K mainGlobals "abs" = some none)
    (z_max : PySem.W.nsIn K mainGlobals "max" = some none)
    (z_repr : PySem.W.nsIn K mainGlobals "repr" = some none)
    {cr pr : Addr} {ocr : Value} {odr : Option Addr} {slr : Array (Option Value)} {usr : Array Value} (cuE : cd41 = .ref cr) (cuL : K.lookup cr = some ⟨ocr, odr, .fields usr, slr⟩) (cuV : usr[11]? = some (.ref pr)) (cuN : K.lookup pr = none)
    {cq pq : Addr} {ocq : Value} {odq : Option Addr} {slq : Array (Option Value)} {usq : Array Value} (ctE : cd14 = .ref cq) (ctL : K.lookup cq = some ⟨ocq, odq, .fields usq, slq⟩) (ctV : usq[11]? = some (.ref pq)) (ctN : K.lookup pq = none)
    (ctD : pq ≠ pr)
    : ∃ (fd : FuncData) (c P c2 P2 : Addr), PySem.W.tabIn K "in_order" = some (c, P) ∧ K.lookup P = none ∧ PySem.W.tabIn K "_law_wide_lumps" = some (c2, P2) ∧ K.lookup P2 = none ∧ P ≠ P2 ∧ (∀ (s : Shared) (v : Value), BindsTo s fd ⟨[v], []⟩ [("_law_script", v)]) ∧ ∀ base : Heap, K.In base → base.Ns mainGlobals mg → LamX.TabB base mg c P → LamX.TabB base mg c2 P2 → GOk l.prog w K mg base 148 fa fd ["_law_script"] (spLawT K P P2) := by
  have e := hfa.symm.trans (PySem.W.mg_of X G a42)
  cases e
  have F0 := fun_mk (st := s_wrong_shape_path) l0 c0 k0
  have F1 := fun_mk (st := s_size_of) l1 c1 k1
  have F2 := fun_mk (st := s_wrong_table_path) l2 c2 k2
  have F3 := fun_mk (st := s_table_size) l3 c3 k3
  have F4 := fun_mk (st := s_entry) l4 c4 k4
  have F5 := fun_mk (st := s_stretches) l5 c5 k5
  have F6 := fun_mk (st := s_note_parts) l6 c6 k6
  have F7 := fun_mk (st := s_lump_parts) l7 c7 k7
  have F8 := fun_mk (st := s_rounded_up) l8 c8 k8
  have F9 := fun_mk (st := s_Plan_stage) l9 c9 k9
  have F10 := fun_mk (st := s_stages_used) l10 c10 k10
  have F11 := fun_mk (st := s_tables_used) l11 c11 k11
  have F12 := fun_mk (st := s_stretch_lumps) l12 c12 k12
  have F13 := fun_mk (st := s_end_lumps) l13 c13 k13
  have F14 := fun_mk (st := s_in_order) l14 c14 k14
  have F15 := fun_mk (st := s_Plan_end) l15 c15 k15
  have F16 := fun_mk (st := s_all_lumps) l16 c16 k16
  have F17 := fun_mk (st := s_first_wrong_table) l17 c17 k17
  have F18 := fun_mk (st := s_wrong_plan_path) l18 c18 k18
  have F19 := fun_mk (st := s_law_stage) l19 c19 k19
  have F20 := fun_mk (st := s_law_rows) l20 c20 k20
  have F21 := fun_mk (st := s_law_entry) l21 c21 k21
  have F22 := fun_mk (st := s_law_size) l22 c22 k22
  have F23 := fun_mk (st := s_law_lumps) l23 c23 k23
  have F24 := fun_mk (st := s_law_source) l24 c24 k24
  have F25 := fun_mk (st := s_law_pick) l25 c25 k25
  have F26 := fun_mk (st := s_law_comb) l26 c26 k26
  have F27 := fun_mk (st := s_law_halves) l27 c27 k27
  have F28 := fun_mk (st := s_law_shape) l28 c28 k28
  have F29 := fun_mk (st := s_law_any_table) l29 c29 k29
  have F30 := fun_mk (st := s_law_of) l30 c30 k30
  have F31 := fun_mk (st := s_Plan_init) l31 c31 k31
  have F32 := fun_mk (st := s_law_made) l32 c32 k32
  have F33 := fun_mk (st := s_law_long_plan) l33 c33 k33
  have F34 := fun_mk (st := s_law_filled) l34 c34 k34
  have F35 := fun_mk (st := s_law_pressed) l35 c35 k35
  have F36 := fun_mk (st := s_law_glue) l36 c36 k36
  have F37 := fun_mk (st := s_law_table) l37 c37 k37
  have F38 := fun_mk (st := s_law_plan) l38 c38 k38
  have F39 := fun_mk (st := s_law_any_plan) l39 c39 k39
  have F40 := fun_mk (st := s_law_told) l40 c40 k40
  have F41 := fun_mk (st := s_law_wide_lumps) l41 c41 k41
  have F42 := fun_mk (st := s_law) l42 c42 k42
  let T : Defs K mg (fun a => decide (a = C)) := {
    cT2 := cr,
    pT2 := pr,
    hcT2 := cuE,
    cT := cq,
    pT := pq,
    hcT := ctE,
    cP := C,
    hi := fun a => ⟨fun h => of_decide_eq_true h, fun h => decide_eq_true h⟩,
    clP := ⟨pg, hd, po, sa⟩,
    gP := PySem.W.mg_of X G aC,
    na_end := n_end,
    na_tables := n_tables,
    d_wrong_shape_path := ⟨_, _, F0, PySem.W.mg_of X G a0, F0.binds (ps := ["value"]) fun _ _ _ _ _ _ us hl => match us, hl with | [_], _ => rfl⟩,
    d_size_of := ⟨_, _, F1, PySem.W.mg_of X G a1, F1.binds (ps := ["shape"]) fun _ _ _ _ _ _ us hl => match us, hl with | [_], _ => rfl⟩,
    d_wrong_table_path := ⟨_, _, F2, PySem.W.mg_of X G a2, F2.binds (ps := ["value"]) fun _ _ _ _ _ _ us hl => match us, hl with | [_], _ => rfl⟩,
    d_table_size := ⟨_, _, F3, PySem.W.mg_of X G a3, F3.binds (ps := ["table"]) fun _ _ _ _ _ _ us hl => match us, hl with | [_], _ => rfl⟩,
    d_entry := ⟨_, _, F4, PySem.W.mg_of X G a4, F4.binds (ps := ["table", "m"]) fun _ _ _ _ _ _ us hl => match us, hl with | [_, _], _ => rfl⟩,
    d_stretches := ⟨_, _, F5, PySem.W.mg_of X G a5, F5.binds (ps := ["m", "b"]) fun _ _ _ _ _ _ us hl => match us, hl with | [_, _], _ => rfl⟩,
    d_note_parts := ⟨_, _, F6, PySem.W.mg_of X G a6, F6.binds (ps := ["shape", "place", "parts"]) fun _ _ _ _ _ _ us hl => match us, hl with | [_, _, _], _ => rfl⟩,
    d_lump_parts := ⟨_, _, F7, PySem.W.mg_of X G a7, F7.binds (ps := ["shape"]) fun _ _ _ _ _ _ us hl => match us, hl with | [_], _ => rfl⟩,
    d_rounded_up := ⟨_, _, F8, PySem.W.mg_of X G a8, F8.binds (ps := ["many", "size"]) fun _ _ _ _ _ _ us hl => match us, hl with | [_, _], _ => rfl⟩,
    d_Plan_stage := ⟨_, _, F9, F9.binds (ps := ["self", "k"]) fun _ _ _ _ _ _ us hl => match us, hl with | [_, _], _ => rfl, ⟨a9, i9, k9⟩⟩,
    d_stages_used := ⟨_, _, F10, PySem.W.mg_of X G a10, F10.binds (ps := ["plan", "n"]) fun _ _ _ _ _ _ us hl => match us, hl with | [_, _], _ => rfl⟩,
    d_tables_used := ⟨_, _, F11, PySem.W.mg_of X G a11, F11.binds (ps := ["plan", "n"]) fun _ _ _ _ _ _ us hl => match us, hl with | [_, _], _ => rfl⟩,
    d_stretch_lumps := ⟨_, _, F12, PySem.W.mg_of X G a12, F12.binds (ps := ["shape", "stretch"]) fun _ _ _ _ _ _ us hl => match us, hl with | [_, _], _ => rfl⟩,
    d_end_lumps := ⟨_, _, F13, PySem.W.mg_of X G a13, F13.binds (ps := ["end", "row"]) fun _ _ _ _ _ _ us hl => match us, hl with | [_, _], _ => rfl⟩,
    d_in_order := ⟨_, _, F14, PySem.W.mg_of X G a14, F14.binds (ps := ["lumps"]) fun _ _ _ _ _ _ us hl => match us, hl with | [_], _ => rfl⟩,
    d_Plan_end := ⟨_, _, F15, F15.binds (ps := ["self"]) fun _ _ _ _ _ _ us hl => match us, hl with | [_], _ => rfl, ⟨a15, i15, k15⟩⟩,
    d_all_lumps := ⟨_, _, F16, PySem.W.mg_of X G a16, F16.binds (ps := ["plan", "n"]) fun _ _ _ _ _ _ us hl => match us, hl with | [_, _], _ => rfl⟩,
    d_first_wrong_table := ⟨_, _, F17, PySem.W.mg_of X G a17, F17.binds (ps := ["tables"]) fun _ _ _ _ _ _ us hl => match us, hl with | [_], _ => rfl⟩,
    d_wrong_plan_path := ⟨_, _, F18, PySem.W.mg_of X G a18, F18.binds (ps := ["tables", "end"]) fun _ _ _ _ _ _ us hl => match us, hl with | [_, _], _ => rfl⟩,
    d_law_stage := ⟨_, _, F19, PySem.W.mg_of X G a19, F19.binds (ps := ["_law_world", "_law_k"]) fun _ _ _ _ _ _ us hl => match us, hl with | [_, _], _ => rfl⟩,
    d_law_rows := ⟨_, _, F20, PySem.W.mg_of X G a20, F20.binds (ps := ["_law_world", "_law_n"]) fun _ _ _ _ _ _ us hl => match us, hl with | [_, _], _ => rfl⟩,
    d_law_entry := ⟨_, _, F21, PySem.W.mg_of X G a21, F21.binds (ps := ["_law_table_here", "_law_m"]) fun _ _ _ _ _ _ us hl => match us, hl with | [_, _], _ => rfl⟩,
    d_law_size := ⟨_, _, F22, PySem.W.mg_of X G a22, F22.binds (ps := ["_law_form"]) fun _ _ _ _ _ _ us hl => match us, hl with | [_], _ => rfl⟩,
    d_law_lumps := ⟨_, _, F23, PySem.W.mg_of X G a23, F23.binds (ps := ["_law_form", "_law_start"]) fun _ _ _ _ _ _ us hl => match us, hl with | [_, _], _ => rfl⟩,
    d_law_source := ⟨_, _, F24, PySem.W.mg_of X G a24, F24.binds (ps := ["_law_script"]) fun _ _ _ _ _ _ us hl => match us, hl with | [_], _ => rfl⟩,
    d_law_pick := ⟨_, _, F25, PySem.W.mg_of X G a25, F25.binds (ps := ["_law_source_here", "_law_many"]) fun _ _ _ _ _ _ us hl => match us, hl with | [_, _], _ => rfl⟩,
    d_law_comb := ⟨_, _, F26, PySem.W.mg_of X G a26, F26.binds (ps := ["_law_n", "_law_side"]) fun _ _ _ _ _ _ us hl => match us, hl with | [_, _], _ => rfl⟩,
    d_law_halves := ⟨_, _, F27, PySem.W.mg_of X G a27, F27.binds (ps := ["_law_n"]) fun _ _ _ _ _ _ us hl => match us, hl with | [_], _ => rfl⟩,
    d_law_shape := ⟨_, _, F28, PySem.W.mg_of X G a28, F28.binds (ps := ["_law_source_here", "_law_n"]) fun _ _ _ _ _ _ us hl => match us, hl with | [_, _], _ => rfl⟩,
    d_law_any_table := ⟨_, _, F29, PySem.W.mg_of X G a29, F29.binds (ps := ["_law_source_here", "_law_size_here"]) fun _ _ _ _ _ _ us hl => match us, hl with | [_, _], _ => rfl⟩,
    d_law_of := ⟨_, _, F30, PySem.W.mg_of X G a30, F30.binds (ps := ["_law_source_here", "_law_some"]) fun _ _ _ _ _ _ us hl => match us, hl with | [_, _], _ => rfl⟩,
    d_Plan_init := ⟨_, _, F31, F31.binds (ps := ["self", "tables", "end"]) fun _ _ _ _ _ _ us hl => match us, hl with | [_, _, _], _ => rfl, ⟨mk, a31, i31, kc⟩⟩,
    d_law_made := ⟨_, _, F32, PySem.W.mg_of X G a32, F32.binds (ps := ["_law_tables", "_law_end"]) fun _ _ _ _ _ _ us hl => match us, hl with | [_, _], _ => rfl⟩,
    d_law_long_plan := ⟨_, _, F33, PySem.W.mg_of X G a33, F33.binds (ps := ["_law_source_here"]) fun _ _ _ _ _ _ us hl => match us, hl with | [_], _ => rfl⟩,
    d_law_filled := ⟨_, _, F34, PySem.W.mg_of X G a34, F34.binds (ps := ["_law_form", "_law_lumps_here"]) fun _ _ _ _ _ _ us hl => match us, hl with | [_, _], _ => rfl⟩,
    d_law_pressed := ⟨_, _, F35, PySem.W.mg_of X G a35, F35.binds (ps := ["_law_table_here", "_law_row"]) fun _ _ _ _ _ _ us hl => match us, hl with | [_, _], _ => rfl⟩,
    d_law_glue := ⟨_, _, F36, PySem.W.mg_of X G a36, F36.binds (ps := ["_law_one", "_law_other"]) fun _ _ _ _ _ _ us hl => match us, hl with | [_, _], _ => rfl⟩,
    d_law_table := ⟨_, _, F37, PySem.W.mg_of X G a37, F37.binds (ps := ["_law_source_here"]) fun _ _ _ _ _ _ us hl => match us, hl with | [_], _ => rfl⟩,
    d_law_plan := ⟨_, _, F38, PySem.W.mg_of X G a38, F38.binds (ps := ["_law_source_here"]) fun _ _ _ _ _ _ us hl => match us, hl with | [_], _ => rfl⟩,
    d_law_any_plan := ⟨_, _, F39, PySem.W.mg_of X G a39, F39.binds (ps := ["_law_source_here"]) fun _ _ _ _ _ _ us hl => match us, hl with | [_], _ => rfl⟩,
    d_law_told := ⟨_, _, F40, PySem.W.mg_of X G a40, F40.binds (ps := ["_law_world", "_law_n"]) fun _ _ _ _ _ _ us hl => match us, hl with | [_, _], _ => rfl⟩,
    d_law_wide_lumps := ⟨_, _, F41, PySem.W.mg_of X G a41, F41.binds (ps := ["_law_world", "_law_n"]) fun _ _ _ _ _ _ us hl => match us, hl with | [_, _], _ => rfl⟩,
    d_law := ⟨_, _, F42, PySem.W.mg_of X G a42, F42.binds (ps := ["_law_script"]) fun _ _ _ _ _ _ us hl => match us, hl with | [_], _ => rfl⟩,
    n_tuple := PySem.W.mg_none_of X G z_tuple,
    n_isinstance := PySem.W.mg_none_of X G z_isinstance,
    n_len := PySem.W.mg_none_of X G z_len,
    n_enumerate := PySem.W.mg_none_of X G z_enumerate,
    n_range := PySem.W.mg_none_of X G z_range,
    n_min := PySem.W.mg_none_of X G z_min,
    n_str := PySem.W.mg_none_of X G z_str,
    n_sorted := PySem.W.mg_none_of X G z_sorted,
    n_list := PySem.W.mg_none_of X G z_list,
    n_int := PySem.W.mg_none_of X G z_int,
    n_abs := PySem.W.mg_none_of X G z_abs,
    n_max := PySem.W.mg_none_of X G z_max,
    n_repr := PySem.W.mg_none_of X G z_repr }
  exact ⟨_, cq, pq, cr, pr, tab_mk a14 l14 ctE ctL ctV, ctN, tab_mk a41 l41 cuE cuL cuV, cuN, ctD, fun s v => .of_eq rfl, fun base _ _ TB TB2 => ok_law LT T TB TB2⟩
theorem walk {l : PySem.W.OpenLaw} {q : Program} {loose : List Str} {XP : (Str → Option Value) → Heap → Prop} {YP : World → Heap → Prop} {d d' d2 : DefRec} {K : Params → PySem.W.Frag} (hn : l.most = some 63) (hdf : d.params.defaults = [])
    (rec : (PyProof.Rows.recsOf q).find? (fun e => e.name == ("in_order" : Str)) = some d') (rec2 : (PyProof.Rows.recsOf q).find? (fun e => e.name == ("_law_wide_lumps" : Str)) = some d2) (hY : ∀ (w : World) (h : Heap), YP w h → (K w.params).In h)
    (F : ∀ (w : World) (mg : Str → Option Value) (fa : Addr) (h : Heap), (K w.params).In h → h.Ns mainGlobals mg → mg d.name = some (.ref fa) →
      ∃ (fd : FuncData) (c P c2 P2 : Addr), PySem.W.tabIn (K w.params) "in_order" = some (c, P) ∧ (K w.params).lookup P = none ∧ PySem.W.tabIn (K w.params) "_law_wide_lumps" = some (c2, P2) ∧ (K w.params).lookup P2 = none ∧ P ≠ P2 ∧ (∀ (s : Shared) (u : Value), BindsTo s fd ⟨[u], []⟩ [("_law_script", u)]) ∧ ∀ base : Heap, (K w.params).In base → base.Ns mainGlobals mg → LamX.TabB base mg c P → LamX.TabB base mg c2 P2 → GOk l.prog w (K w.params) mg base 148 fa fd ["_law_script"] (spLawT (K w.params) P P2)) :
    PySem.W.WalkO q loose XP YP l.row.toRowW d [] (fun f vs => PySem.call f vs) :=
  DL.walk_gTT (n := 63) (k := 148) (x := "_law_script") (y := "in_order") (y2 := "_law_wide_lumps") (sp := fun w P P2 => spLawT (K w.params) P P2) hn (by decide) hdf ⟨rfl, by decide, by decide⟩ hY rec rec2 F (fun _ _ a P P2 ns hl hT hT2 hS hne => ⟨a, ns, rfl, hT, hT2, hne, hS, hl, fun _ _ e => e⟩)
end Lk
namespace Lk
open PySem L2 DL
theorem pick_wp (ω : Src) (many : Int) (h1 : 1 ≤ many) (h2 : many < 2 ^ 60) : (F_law_pick [.int many] ω).wp (fun d _ => ∃ r : Int, d = .int r ∧ 0 ≤ r ∧ r < many) X0 := by
  unfold F_law_pick B_law_pick
  refine Eq.mpr wp_nox ?_
  refine Eq.mpr wp_runS ?_
  refine Eq.mpr sw_seq ?_
  refine sw.mono (P := fun f _ => f = .nx (startT 4 (.src :: [D.int many].map .d))) (while_inv (fun m τ ω => ω.cells.length < m ∧ τ = startT 4 (.src :: [D.int many].map .d)) ⟨by show _ < _ + 2; omega, rfl⟩ ?_) ?_
  · rintro m τ ω ⟨hm, rfl⟩
    refine ⟨by omega, ?_⟩
    repeat walk_at "ev1"
    split
    · repeat walk_at "ev1"
      split
      · repeat walk_at "ev1"
        split
        · rename_i hl
          cases ec : ω.cells with
          | nil => rw [ec] at hl; simp at hl
          | cons z r =>
            refine Eq.mpr (sw_src rfl) ?_
            refine Eq.mpr (wp_srcP rfl ec) ?_
            exact ⟨_, rfl, by rw [ec] at hm; simp at hm ⊢; omega, rfl⟩
        · rfl
      · repeat walk_at "ev1"
        rfl
    · repeat walk_at "ev1"
      rfl
  · rintro f ω1 rfl
    repeat walk_at "ev1"
    have hc : ∀ a : Int, 0 ≤ a % many ∧ a % many < many := fun a => ⟨Int.emod_nonneg _ (by omega), Int.emod_lt_of_pos _ (by omega)⟩
    have hlg : many.natAbs.log2 < 9000 := by
      have : many.natAbs.log2 < 60 := (Nat.log2_lt (by omega)).mpr (by omega)
      omega
    have hd : ∀ x : Int, fdivD (.int x) (.int many) = some (.int (x / many)) := fun x => if_pos ⟨by omega, hlg⟩
    have hm : ∀ x : Int, modD (.int x) (.int many) = some (.int (x % many)) := fun x => if_pos (by omega)
    have hx : bi2 max2D [.int 1, .int many] = some (.int many) := by
      show some (D.int (if many > 1 then many else 1)) = _
      by_cases e : many > 1
      · rw [if_pos e]
      · rw [if_neg e, show many = 1 from by omega]
    have h16 : ∀ x : Int, fdivD (.int x) (.int 16) = some (.int (x / 16)) := fun x => by unfold fdivD; exact if_pos (show (0:Int) < 16 ∧ Nat.log2 16 < 9000 from ⟨by omega, (Nat.log2_lt (by omega)).mpr (by omega)⟩)
    have hk1 : ∀ x : Int, mulD (.int x) (.int 104729) = some (.int (x * 104729)) := fun x => if_pos (.inl (.inr ⟨by omega, by omega⟩))
    have hk2 : ∀ x : Int, mulD (.int x) (.int 17) = some (.int (x * 17)) := fun x => if_pos (.inl (.inr ⟨by omega, by omega⟩))
    have hk3 : ∀ x : Int, mulD (.int (x % 998244353)) (.int (x % 998244353)) = some (.int (x % 998244353 * (x % 998244353))) := fun x => if_pos (.inl (.inr ⟨by omega, by omega⟩))
    have hq1 : ∀ x : Int, modD (.int x) (.int 998244353) = some (.int (x % 998244353)) := fun x => by unfold modD; exact if_pos (show (0:Int) < 998244353 by omega)
    have hq2 : ∀ x : Int, modD (.int x) (.int 2147483647) = some (.int (x % 2147483647)) := fun x => by unfold modD; exact if_pos (show (0:Int) < 2147483647 by omega)
    split
    · repeat (first | with_reducible refine Eq.mpr (DL.wp_eqn (hx)) ?_ | with_reducible refine Eq.mpr (DL.wp_ofOs (hx)) ?_ | with_reducible refine Eq.mpr (DL.wp_eqn (hd _)) ?_ | with_reducible refine Eq.mpr (DL.wp_ofOs (hd _)) ?_ | with_reducible refine Eq.mpr (DL.wp_eqn (hm _)) ?_ | with_reducible refine Eq.mpr (DL.wp_ofOs (hm _)) ?_ | walk_at "ev1")
      exact hc _
    · repeat walk_at "ev1"
      split
      · repeat (first | with_reducible refine Eq.mpr (DL.wp_eqn (hx)) ?_ | with_reducible refine Eq.mpr (DL.wp_ofOs (hx)) ?_ | with_reducible refine Eq.mpr (DL.wp_eqn (hd _)) ?_ | with_reducible refine Eq.mpr (DL.wp_ofOs (hd _)) ?_ | with_reducible refine Eq.mpr (DL.wp_eqn (hm _)) ?_ | with_reducible refine Eq.mpr (DL.wp_ofOs (hm _)) ?_ | walk_at "ev1")
        exact hc _
      · repeat (first | with_reducible refine Eq.mpr (DL.wp_eqn (h16 _)) ?_ | with_reducible refine Eq.mpr (DL.wp_ofOs (h16 _)) ?_ | with_reducible refine Eq.mpr (DL.wp_eqn (hk1 _)) ?_ | with_reducible refine Eq.mpr (DL.wp_ofOs (hk1 _)) ?_ | with_reducible refine Eq.mpr (DL.wp_eqn (hk2 _)) ?_ | with_reducible refine Eq.mpr (DL.wp_ofOs (hk2 _)) ?_ | with_reducible refine Eq.mpr (DL.wp_eqn (hk3 _)) ?_ | with_reducible refine Eq.mpr (DL.wp_ofOs (hk3 _)) ?_ | with_reducible refine Eq.mpr (DL.wp_eqn (hq1 _)) ?_ | with_reducible refine Eq.mpr (DL.wp_ofOs (hq1 _)) ?_ | with_reducible refine Eq.mpr (DL.wp_eqn (hq2 _)) ?_ | with_reducible refine Eq.mpr (DL.wp_ofOs (hq2 _)) ?_ | with_reducible refine Eq.mpr (DL.wp_eqn (hm _)) ?_ | with_reducible refine Eq.mpr (DL.wp_ofOs (hm _)) ?_ | walk_at "ev1")
        exact hc _
theorem pick_ok (ω : Src) (many : Int) (h1 : 1 ≤ many) (h2 : many < 2 ^ 60) : ∃ (r : Int) (ω' : Src), F_law_pick [.int many] ω = .ok (.int r) ω' ∧ 0 ≤ r ∧ r < many := by
  obtain ⟨d, ω', e, r, rfl, h⟩ := (pick_wp ω many h1 h2).ex
  exact ⟨r, ω', e, h⟩
theorem pick_nat (ω : Src) (many : Nat) (h1 : 1 ≤ many) (h2 : many < 1000000) : ∃ (r : Nat) (ω' : Src), F_law_pick [.int (many : Nat)] ω = .ok (.int (r : Nat)) ω' ∧ r < many := by
  obtain ⟨r, ω', e, h3, h4⟩ := pick_ok ω (many : Int) (by omega) (by omega)
  exact ⟨r.toNat, ω', by rw [e]; congr 2; omega, by omega⟩
def hgt : Sh → Nat
  | .o => 0
  | .n l r => 1 + max (hgt l) (hgt r)
theorem hgt_lt : ∀ s : Sh, hgt s < s.size
  | .o => by simp [hgt, Sh.size]
  | .n l r => by
    have h1 := hgt_lt l; have h2 := hgt_lt r; have h3 := Sh.size_pos l; have h4 := Sh.size_pos r
    simp only [hgt, Sh.size]; omega
theorem eqO (s : Sh) : eqD s.enc (.tup []) = some (.bl (decide (s = .o))) := eqD_sh s .o (.inr (by simp [Sh.size]))
theorem eqO_o : eqD (.tup []) (.tup []) = some (.bl true) := eqO .o
theorem eqO_n (l r : Sh) : eqD (.tup [l.enc, r.enc]) (.tup []) = some (.bl false) := eqO (.n l r)
theorem isi_tup (ds : List D) : isiD "tuple" (.tup ds) = some (.bl true) := by kernel_rfl
theorem nin02_0 : ninD (.int ((([] : List D).length : Nat) : Int)) (.tup [.int 0, .int 2]) = some (.bl false) := by kernel_rfl
theorem nin02_2 (a b : D) : ninD (.int (([a, b].length : Nat) : Int)) (.tup [.int 0, .int 2]) = some (.bl false) := by kernel_rfl
theorem notN : notND .non .non = some (.bl false) := rfl
theorem wp_en {Ω : Type} {a : E Ω D} {τ : Tau} {ω : Ω} {P X} : (iEn a τ ω).wp P X = (a τ ω).wp (fun x ω1 => (R.ofO (x.itemsS.map (enumL 0)) ω1).wp P X) X := by unfold iEn; rw [wp_bind]
theorem lp_nil {Ω : Type} {B : D → Tau → Option Tau} {F : S Ω} {τ : Tau} {ω : Ω} {P} : sw (loop B F [] τ ω) P = P (.nx τ) ω := by unfold loop; exact sw_some
theorem lp_cons {Ω : Type} {B : D → Tau → Option Tau} {F : S Ω} {d : D} {ds : List D} {τ τ1 : Tau} {ω : Ω} {P : Fl → Ω → Prop} (h : B d τ = some τ1) (k : sw (F τ1 ω) (fun f ω' => match f with | .nx τ' => sw (loop B F ds τ' ω') P | .ct τ' => sw (loop B F ds τ' ω') P | .bk τ' => P (.nx τ') ω' | f => P f ω')) : sw (loop B F (d :: ds) τ ω) P := by
  unfold loop
  rw [h]
  dsimp only
  revert k
  rcases F τ1 ω with _ | ⟨fl, ω2⟩
  · rw [sw_none]; exact False.elim
  · rw [sw_some]
    cases fl with
    | nx τ2 => exact id
    | ct τ2 => exact id
    | bk τ2 => dsimp only; rw [sw_some]; exact id
    | rt d => dsimp only; rw [sw_some]; exact id
    | rs x τ => dsimp only; rw [sw_some]; exact id
    | rl d => dsimp only; rw [sw_some]; exact id
theorem wsp_ok : ∀ (n : Nat) (s : Sh), hgt s < n → F_wrong_shape_path n [s.enc] = .ok .non ()
  | 0, _, h => by omega
  | n + 1, .o, _ => by
    refine R.wp.equ ?_
    show (F_wrong_shape_path (n + 1) [.tup []]).wp _ _
    unfold F_wrong_shape_path B_wrong_shape_path
    have h3 : (D.tup []).itemsS.map (enumL 0) = some [] := rfl
    repeat (first | with_reducible refine Eq.mpr (DL.wp_eqn (isi_tup [])) ?_ | with_reducible refine Eq.mpr (DL.wp_ofOs (isi_tup [])) ?_ | with_reducible refine Eq.mpr (DL.wp_eqn (nin02_0)) ?_ | with_reducible refine Eq.mpr (DL.wp_ofOs (nin02_0)) ?_ | walk_at "ev1")
    refine Eq.mpr wp_en ?_
    repeat (first | with_reducible refine Eq.mpr (DL.wp_eqn (h3)) ?_ | with_reducible refine Eq.mpr (DL.wp_ofOs (h3)) ?_ | walk_at "ev1")
    refine Eq.mpr lp_nil ?_
    repeat walk_at "ev1"
    rfl
  | n + 1, .n l r, h => by
    simp only [hgt] at h
    have e1 := wsp_ok n l (by omega)
    have e2 := wsp_ok n r (by omega)
    refine R.wp.equ ?_
    show (F_wrong_shape_path (n + 1) [.tup [l.enc, r.enc]]).wp _ _
    unfold F_wrong_shape_path B_wrong_shape_path
    have h3 : (D.tup [l.enc, r.enc]).itemsS.map (enumL 0) = some [.tup [.int ((0 : Nat) : Int), l.enc], .tup [.int ((1 : Nat) : Int), r.enc]] := rfl
    repeat (first | with_reducible refine Eq.mpr (DL.wp_eqn (isi_tup _)) ?_ | with_reducible refine Eq.mpr (DL.wp_ofOs (isi_tup _)) ?_ | with_reducible refine Eq.mpr (DL.wp_eqn (nin02_2 l.enc r.enc)) ?_ | with_reducible refine Eq.mpr (DL.wp_ofOs (nin02_2 l.enc r.enc)) ?_ | walk_at "ev1")
    refine Eq.mpr wp_en ?_
    repeat (first | with_reducible refine Eq.mpr (DL.wp_eqn (h3)) ?_ | with_reducible refine Eq.mpr (DL.wp_ofOs (h3)) ?_ | walk_at "ev1")
    refine lp_cons rfl ?_
    repeat (first | with_reducible refine Eq.mpr (DL.wp_eqn (e1)) ?_ | with_reducible refine Eq.mpr (DL.wp_ofOs (e1)) ?_ | with_reducible refine Eq.mpr (DL.wp_eqn (notN)) ?_ | with_reducible refine Eq.mpr (DL.wp_ofOs (notN)) ?_ | walk_at "ev1")
    refine lp_cons rfl ?_
    repeat (first | with_reducible refine Eq.mpr (DL.wp_eqn (e2)) ?_ | with_reducible refine Eq.mpr (DL.wp_ofOs (e2)) ?_ | with_reducible refine Eq.mpr (DL.wp_eqn (notN)) ?_ | with_reducible refine Eq.mpr (DL.wp_ofOs (notN)) ?_ | walk_at "ev1")
    refine Eq.mpr lp_nil ?_
    repeat walk_at "ev1"
    rfl
abbrev tb (t : Tab) : D := .tup (t.map Sh.enc)
abbrev rowD (r : List Sh) : D := .lst (r.map Sh.enc)
theorem table_size_ok (t : Tab) : F_table_size [tb t] = .ok (.int (bsz t)) () := by
  apply R.wp.equ
  unfold F_table_size B_table_size
  repeat walk_at "ev1"
  simp [bsz]
theorem map_get {t : List Sh} {i : Nat} {s : Sh} (h : t[i]? = some s) : (t.map Sh.enc)[i]? = some s.enc := by rw [List.getElem?_map, h]; rfl
theorem entry_ok (t : Tab) (m : Nat) (h1 : 1 ≤ m) (h2 : m ≤ bsz t) : F_entry [tb t, .int m] = .ok (ent t m).enc () := by
  apply R.wp.equ
  unfold F_entry B_entry
  repeat (first | with_reducible refine Eq.mpr (DL.wp_eqn (eqD_int _ _)) ?_ | with_reducible refine Eq.mpr (DL.wp_ofOs (eqD_int _ _)) ?_ | walk_at "ev1")
  split
  · rename_i h
    simp at h
    repeat walk_at "ev1"
    have : m = 1 := by omega
    subst this
    rfl
  · rename_i h
    simp at h
    have hlt : m - 2 < t.length := by unfold bsz at h2; omega
    have e : ixD (.tup (t.map Sh.enc)) (.int ((m : Int) - 2)) = some (ent t m).enc := by
      refine ix_tup (k := m - 2) (by omega) (map_get ?_)
      unfold ent
      rw [if_neg (by omega), List.getD_eq_getElem?_getD, List.getElem?_eq_getElem hlt]
      rfl
    repeat (first | with_reducible refine Eq.mpr (DL.wp_eqn (e)) ?_ | with_reducible refine Eq.mpr (DL.wp_ofOs (e)) ?_ | walk_at "ev1")
    rfl
theorem rg3_nat (m b : Nat) (hb : 1 ≤ b) (h1 : b < 100000) (h2 : m < 100000) : rg3 [.int 0, .int m, .int b] = some (rangeL 0 b ((m + b - 1) / b)) := by
  unfold rg3
  dsimp only
  rw [if_pos (by refine ⟨?_, ?_, ?_, ?_, ?_, ?_⟩ <;> omega)]
  congr 2
  have : ((m : Int) - 0 + b - 1) = ((m + b - 1 : Nat) : Int) := by omega
  rw [this]
  exact_mod_cast Int.toNat_natCast _
theorem rg2_nat (a b : Nat) (h1 : a < 100000) (h2 : b < 100000) : rg2 [.int a, .int b] = some (rangeL a 1 (b - a)) := by
  unfold rg2
  dsimp only
  rw [if_pos (by omega)]
  congr 2
  omega
theorem rg1_nat (b : Nat) (h2 : b < 100000) : rg1 [.int b] = some (rangeL 0 1 b) := by
  unfold rg1
  dsimp only
  rw [if_pos (by omega)]
  simp
def cmb (b : Bool) : Nat → Sh
  | 0 => .o
  | k + 1 => if b then .n (cmb b k) .o else .n .o (cmb b k)
def sideS (b : Bool) : D := if b then .str "left" else .str "right"
theorem cmb_size (b : Bool) : ∀ k, (cmb b k).size = k + 1
  | 0 => rfl
  | k + 1 => by
    have := cmb_size b k
    cases b <;> simp [cmb, Sh.size] at * <;> omega
theorem cmb_hgt (b : Bool) : ∀ k, hgt (cmb b k) = k
  | 0 => rfl
  | k + 1 => by
    have := cmb_hgt b k
    cases b <;> simp [cmb, hgt] at * <;> omega
theorem eq_left : ∀ b : Bool, eqD (sideS b) (.str "left") = some (.bl b)
  | true => by kernel_rfl
  | false => by kernel_rfl
abbrev CT (n : Nat) (b : Bool) (x : D) (c : Option Cell) : Tau := [some (.d (.int n)), some (.d (sideS b)), some (.d x), c]
theorem comb_ok (b : Bool) (n : Nat) (h1 : 1 ≤ n) (h2 : n ≤ 1000) : F_law_comb [.int n, sideS b] = .ok (cmb b (n - 1)).enc () := by
  refine R.wp.equ ?_
  unfold F_law_comb B_law_comb
  have hs : startT 4 ([D.int n, sideS b].map Cell.d) = [some (.d (.int n)), some (.d (sideS b)), none, none] := rfl
  rw [hs]
  have h3 : subD (.int (n : Int)) (.int 1) = some (.int ((n - 1 : Nat) : Int)) := subN n 1 h1
  repeat (first | with_reducible refine Eq.mpr (DL.wp_eqn (h3)) ?_ | with_reducible refine Eq.mpr (DL.wp_ofOs (h3)) ?_ | with_reducible refine Eq.mpr (DL.wp_eqn (rg1_nat (n - 1) (by omega))) ?_ | with_reducible refine Eq.mpr (DL.wp_ofOs (rg1_nat (n - 1) (by omega))) ?_ | walk_at "ev1")
  refine loop_inv (fun i τ _ => ∃ c, τ = CT n b (cmb b i).enc c) ⟨none, rfl⟩ ?_ ?_
  · rintro i d τ ω hd ⟨c, rfl⟩
    refine ⟨_, rfl, ?_⟩
    repeat (first | with_reducible refine Eq.mpr (DL.wp_eqn (eq_left b)) ?_ | with_reducible refine Eq.mpr (DL.wp_ofOs (eq_left b)) ?_ | walk_at "ev1")
    cases b with
    | true =>
      repeat walk_at "ev1"
      exact ⟨_, rfl⟩
    | false =>
      repeat walk_at "ev1"
      exact ⟨_, rfl⟩
  · rintro τ ω ⟨c, rfl⟩
    rw [rangeL_len]
    repeat walk_at "ev1"
    rfl
theorem small_line {n : Nat} (h : n ≤ 1000000) : n ≤ sizeLine := by rw [sizeLine_eq]; omega
theorem addLL (xs ys : List D) (h : xs.length + ys.length ≤ 1000000) : addD (.lst xs) (.lst ys) = some (.lst (xs ++ ys)) := by
  unfold addD
  dsimp only
  rw [if_pos (small_line h)]
def AW (ts : List Tab) : Prop := ∀ t ∈ ts, WT t
theorem AW.left {x y : List Tab} (h : AW (x ++ y)) : AW x := fun t ht => h t (by simp [ht])
theorem dep_tab {t : Tab} (h : WT t) : Enc.dep t ≤ bsz t + 1 := by
  show depL t + 1 ≤ bsz t + 1
  refine Nat.succ_le_succ (depL_le fun x hx => ?_)
  obtain ⟨i, hi, e⟩ := List.mem_iff_getElem.mp hx
  have := h.2 i x (by rw [List.getElem?_eq_getElem hi, e])
  show x.size ≤ _
  unfold bsz
  omega
theorem len_tb (t : Tab) : un1 lenD [tb t] = some (.int (t.length : Nat)) := by
  show some (D.int ((t.map Sh.enc).length : Nat)) = _
  rw [List.length_map]
theorem lc_filt {Ω α : Type} {B : D → Tau → Option Tau} {Ft : E Ω Bool} {Fe : E Ω D} {τ : Tau} {ω : Ω} {P : List D → Ω → Prop} (f : α → D) (xs : List α) (p : α → Bool) (g : α → D)
    (step : ∀ k ∈ xs, ∃ τ1, B (f k) τ = some τ1 ∧ (Ft τ1 ω).wp (fun b ω1 => b = p k ∧ ω1 = ω ∧ (p k = true → (Fe τ1 ω).wp (fun x ω2 => x = g k ∧ ω2 = ω) X0)) X0)
    (fin : P ((xs.filter p).map g) ω) : (lcL B Ft Fe τ (xs.map f) ω).wp P X0 := by
  refine lc_inv (fun i acc ω' => acc = ((xs.take i).filter p).map g ∧ ω' = ω) ⟨by simp, rfl⟩ ?_ ?_
  · rintro i d acc ω' hd ⟨rfl, rfl⟩
    have hi : i < xs.length := by have := (List.getElem?_eq_some_iff.mp hd).1; simpa using this
    rw [List.getElem?_map, List.getElem?_eq_getElem hi] at hd
    cases hd
    obtain ⟨τ1, e, h⟩ := step xs[i] (List.getElem_mem hi)
    refine ⟨τ1, e, h.mono fun b ω1 ⟨hb, hw, hk⟩ => ?_⟩
    subst hb hw
    rw [List.take_succ_eq_append_getElem hi, List.filter_append]
    cases hp : p xs[i] with
    | true =>
      rw [if_pos rfl]
      refine (hk hp).mono fun x ω2 ⟨hx, hw⟩ => ?_
      subst hx hw
      simp [hp]
    | false =>
      rw [if_neg (by simp)]
      simp [hp]
  · rintro acc ω' ⟨rfl, rfl⟩
    rw [List.length_map, List.take_length]
    exact fin
theorem lc_all {Ω α : Type} {B : D → Tau → Option Tau} {Fe : E Ω D} {τ : Tau} {ω : Ω} {P : List D → Ω → Prop} (f : α → D) (xs : List α) (g : α → D)
    (step : ∀ k ∈ xs, ∃ τ1, B (f k) τ = some τ1 ∧ (Fe τ1 ω).wp (fun x ω2 => x = g k ∧ ω2 = ω) X0)
    (fin : P (xs.map g) ω) : (lcL B bYes Fe τ (xs.map f) ω).wp P X0 := by
  refine lc_filt f xs (fun _ => true) g (fun k hk => ?_) (by rw [List.filter_eq_self.mpr fun _ _ => rfl]; exact fin)
  obtain ⟨τ1, e, h⟩ := step k hk
  refine ⟨τ1, e, ?_⟩
  show R.wp (R.ok true ω) _ _
  rw [wp_ok]
  exact ⟨rfl, rfl, fun _ => h⟩
theorem halves_ok : ∀ (n m : Nat), 1 ≤ m → m ≤ n → m < 100000 → ∃ s : Sh, F_law_halves n [.int m] = .ok s.enc () ∧ s.size = m
  | 0, m, h1, h2, _ => by omega
  | n + 1, m, h1, h2, h3 => by
    have hlt : ltD (.int (m : Int)) (.int 2) = some (.bl (decide (m < 2))) := by
      show some (D.bl (decide ((m : Int) < 2))) = _
      congr 2
      by_cases c : m < 2 <;> simp <;> omega
    suffices h : (F_law_halves (n + 1) [.int m]).wp (fun d _ => ∃ s : Sh, d = s.enc ∧ s.size = m) X0 by
      obtain ⟨d, ω', e, s, rfl, hs⟩ := h.ex
      exact ⟨s, e, hs⟩
    unfold F_law_halves B_law_halves
    by_cases c : m < 2
    · rw [decide_eq_true c] at hlt
      repeat (first | with_reducible refine Eq.mpr (DL.wp_eqn (hlt)) ?_ | with_reducible refine Eq.mpr (DL.wp_ofOs (hlt)) ?_ | walk_at "ev1")
      exact ⟨.o, rfl, by simp [Sh.size]; omega⟩
    · rw [decide_eq_false c] at hlt
      have hd : fdivD (.int (m : Int)) (.int 2) = some (.int ((m / 2 : Nat) : Int)) := fdivN m 2 (by omega) (by omega)
      have hs : subD (.int (m : Int)) (.int ((m / 2 : Nat) : Int)) = some (.int ((m - m / 2 : Nat) : Int)) := subN m (m / 2) (by omega)
      obtain ⟨a, ea, za⟩ := halves_ok n (m - m / 2) (by omega) (by omega) (by omega)
      obtain ⟨b, eb, zb⟩ := halves_ok n (m / 2) (by omega) (by omega) (by omega)
      repeat (first | with_reducible refine Eq.mpr (DL.wp_eqn (hlt)) ?_ | with_reducible refine Eq.mpr (DL.wp_ofOs (hlt)) ?_ | with_reducible refine Eq.mpr (DL.wp_eqn (hd)) ?_ | with_reducible refine Eq.mpr (DL.wp_ofOs (hd)) ?_ | with_reducible refine Eq.mpr (DL.wp_eqn (hs)) ?_ | with_reducible refine Eq.mpr (DL.wp_ofOs (hs)) ?_ | with_reducible refine Eq.mpr (DL.wp_eqn (ea)) ?_ | with_reducible refine Eq.mpr (DL.wp_ofOs (ea)) ?_ | with_reducible refine Eq.mpr (DL.wp_eqn (eb)) ?_ | with_reducible refine Eq.mpr (DL.wp_ofOs (eb)) ?_ | walk_at "ev1")
      exact ⟨.n a b, rfl, by simp only [Sh.size]; omega⟩
theorem shape_ok : ∀ (n m : Nat) (ω : Src), 1 ≤ m → m ≤ n → m ≤ 60 → ∃ (s : Sh) (ω' : Src), F_law_shape n [.int m] ω = .ok s.enc ω' ∧ s.size = m
  | 0, m, ω, h1, h2, _ => by omega
  | n + 1, m, ω, h1, h2, h3 => by
    suffices h : (F_law_shape (n + 1) [.int m] ω).wp (fun d _ => ∃ s : Sh, d = s.enc ∧ s.size = m) X0 by
      obtain ⟨d, ω', e, s, rfl, hs⟩ := h.ex
      exact ⟨s, ω', e, hs⟩
    obtain ⟨r1, ω1, e1, a1, b1⟩ := pick_ok ω 6 (by omega) (by omega)
    have l1 : ltD (.int (m : Int)) (.int 2) = some (.bl (decide (m < 2))) := by
      show some (D.bl (decide ((m : Int) < 2))) = _
      congr 2
      by_cases c : m < 2 <;> simp <;> omega
    have l2 : ltD (.int r1) (.int 3) = some (.bl (decide (r1 < 3))) := rfl
    have c1 : F_law_comb [.int m, .str "left"] = .ok (cmb true (m - 1)).enc () := comb_ok true m h1 (by omega)
    have c2 : F_law_comb [.int m, .str "right"] = .ok (cmb false (m - 1)).enc () := comb_ok false m h1 (by omega)
    obtain ⟨hs, c3, hz⟩ := halves_ok 70 m h1 (by omega) (by omega)
    have low : ∀ (x : Int), 0 ≤ x → x < 3 → ∃ s : Sh, ixD (.lst [(cmb true (m - 1)).enc, (cmb false (m - 1)).enc, hs.enc]) (.int x) = some s.enc ∧ s.size = m := by
      intro x x0 x3
      have : x = 0 ∨ x = 1 ∨ x = 2 := by omega
      rcases this with rfl | rfl | rfl
      · exact ⟨_, rfl, by rw [cmb_size]; omega⟩
      · exact ⟨_, rfl, by rw [cmb_size]; omega⟩
      · exact ⟨_, rfl, hz⟩
    unfold F_law_shape B_law_shape
    by_cases ch : m < 2 ∨ r1 < 3
    · by_cases q : r1 < 3
      · obtain ⟨s, es, zs⟩ := low r1 a1 q
        rw [decide_eq_true q] at l2
        by_cases q1 : m < 2
        · rw [decide_eq_true q1] at l1
          repeat (first | with_reducible refine Eq.mpr (DL.wp_eqn (e1)) ?_ | with_reducible refine Eq.mpr (DL.wp_ofOs (e1)) ?_ | with_reducible refine Eq.mpr (DL.wp_eqn (l1)) ?_ | with_reducible refine Eq.mpr (DL.wp_ofOs (l1)) ?_ | with_reducible refine Eq.mpr (DL.wp_eqn (c1)) ?_ | with_reducible refine Eq.mpr (DL.wp_ofOs (c1)) ?_ | with_reducible refine Eq.mpr (DL.wp_eqn (c2)) ?_ | with_reducible refine Eq.mpr (DL.wp_ofOs (c2)) ?_ | with_reducible refine Eq.mpr (DL.wp_eqn (c3)) ?_ | with_reducible refine Eq.mpr (DL.wp_ofOs (c3)) ?_ | with_reducible refine Eq.mpr (DL.wp_eqn (l2)) ?_ | with_reducible refine Eq.mpr (DL.wp_ofOs (l2)) ?_ | with_reducible refine Eq.mpr (DL.wp_eqn (es)) ?_ | with_reducible refine Eq.mpr (DL.wp_ofOs (es)) ?_ | walk_at "ev1")
          exact ⟨s, rfl, zs⟩
        · rw [decide_eq_false q1] at l1
          repeat (first | with_reducible refine Eq.mpr (DL.wp_eqn (e1)) ?_ | with_reducible refine Eq.mpr (DL.wp_ofOs (e1)) ?_ | with_reducible refine Eq.mpr (DL.wp_eqn (l1)) ?_ | with_reducible refine Eq.mpr (DL.wp_ofOs (l1)) ?_ | with_reducible refine Eq.mpr (DL.wp_eqn (c1)) ?_ | with_reducible refine Eq.mpr (DL.wp_ofOs (c1)) ?_ | with_reducible refine Eq.mpr (DL.wp_eqn (c2)) ?_ | with_reducible refine Eq.mpr (DL.wp_ofOs (c2)) ?_ | with_reducible refine Eq.mpr (DL.wp_eqn (c3)) ?_ | with_reducible refine Eq.mpr (DL.wp_ofOs (c3)) ?_ | with_reducible refine Eq.mpr (DL.wp_eqn (l2)) ?_ | with_reducible refine Eq.mpr (DL.wp_ofOs (l2)) ?_ | with_reducible refine Eq.mpr (DL.wp_eqn (es)) ?_ | with_reducible refine Eq.mpr (DL.wp_ofOs (es)) ?_ | walk_at "ev1")
          exact ⟨s, rfl, zs⟩
      · obtain ⟨s, es, zs⟩ := low 0 (by omega) (by omega)
        rw [decide_eq_false q] at l2
        rw [decide_eq_true (show m < 2 by omega)] at l1
        repeat (first | with_reducible refine Eq.mpr (DL.wp_eqn (e1)) ?_ | with_reducible refine Eq.mpr (DL.wp_ofOs (e1)) ?_ | with_reducible refine Eq.mpr (DL.wp_eqn (l1)) ?_ | with_reducible refine Eq.mpr (DL.wp_ofOs (l1)) ?_ | with_reducible refine Eq.mpr (DL.wp_eqn (c1)) ?_ | with_reducible refine Eq.mpr (DL.wp_ofOs (c1)) ?_ | with_reducible refine Eq.mpr (DL.wp_eqn (c2)) ?_ | with_reducible refine Eq.mpr (DL.wp_ofOs (c2)) ?_ | with_reducible refine Eq.mpr (DL.wp_eqn (c3)) ?_ | with_reducible refine Eq.mpr (DL.wp_ofOs (c3)) ?_ | with_reducible refine Eq.mpr (DL.wp_eqn (l2)) ?_ | with_reducible refine Eq.mpr (DL.wp_ofOs (l2)) ?_ | with_reducible refine Eq.mpr (DL.wp_eqn (es)) ?_ | with_reducible refine Eq.mpr (DL.wp_ofOs (es)) ?_ | walk_at "ev1")
        exact ⟨s, rfl, zs⟩
    · have n1 : ¬ m < 2 := fun q => ch (.inl q)
      have n2 : ¬ r1 < 3 := fun q => ch (.inr q)
      rw [decide_eq_false n1] at l1
      rw [decide_eq_false n2] at l2
      have hsb : subD (.int (m : Int)) (.int 1) = some (.int ((m - 1 : Nat) : Int)) := subN m 1 h1
      obtain ⟨r2, ω2, e2, a2, b2⟩ := pick_ok ω1 ((m - 1 : Nat) : Int) (by omega) (by omega)
      have hk : addD (.int 1) (.int r2) = some (.int (((1 + r2).toNat : Nat) : Int)) := by
        show some (D.int (1 + r2)) = _
        congr 2; omega
      obtain ⟨l, ω3, e3, hl⟩ := shape_ok n (1 + r2).toNat ω2 (by omega) (by omega) (by omega)
      have hs2 : subD (.int (m : Int)) (.int (((1 + r2).toNat : Nat) : Int)) = some (.int ((m - (1 + r2).toNat : Nat) : Int)) := subN m _ (by omega)
      obtain ⟨r, ω4, e4, hr⟩ := shape_ok n (m - (1 + r2).toNat) ω3 (by omega) (by omega) (by omega)
      repeat (first | with_reducible refine Eq.mpr (DL.wp_eqn (e1)) ?_ | with_reducible refine Eq.mpr (DL.wp_ofOs (e1)) ?_ | with_reducible refine Eq.mpr (DL.wp_eqn (l1)) ?_ | with_reducible refine Eq.mpr (DL.wp_ofOs (l1)) ?_ | with_reducible refine Eq.mpr (DL.wp_eqn (l2)) ?_ | with_reducible refine Eq.mpr (DL.wp_ofOs (l2)) ?_ | with_reducible refine Eq.mpr (DL.wp_eqn (hsb)) ?_ | with_reducible refine Eq.mpr (DL.wp_ofOs (hsb)) ?_ | with_reducible refine Eq.mpr (DL.wp_eqn (e2)) ?_ | with_reducible refine Eq.mpr (DL.wp_ofOs (e2)) ?_ | with_reducible refine Eq.mpr (DL.wp_eqn (hk)) ?_ | with_reducible refine Eq.mpr (DL.wp_ofOs (hk)) ?_ | with_reducible refine Eq.mpr (DL.wp_eqn (e3)) ?_ | with_reducible refine Eq.mpr (DL.wp_ofOs (e3)) ?_ | with_reducible refine Eq.mpr (DL.wp_eqn (hs2)) ?_ | with_reducible refine Eq.mpr (DL.wp_ofOs (hs2)) ?_ | with_reducible refine Eq.mpr (DL.wp_eqn (e4)) ?_ | with_reducible refine Eq.mpr (DL.wp_ofOs (e4)) ?_ | walk_at "ev1")
      exact ⟨.n l r, rfl, by simp only [Sh.size]; omega⟩
theorem any_ok (m : Nat) (ω : Src) (h1 : 2 ≤ m) (h2 : m ≤ 60) : ∃ (t : Tab) (ω' : Src), F_law_any_table [.int m] ω = .ok (tb t) ω' ∧ WT t ∧ bsz t = m := by
  suffices h : (F_law_any_table [.int m] ω).wp (fun d _ => ∃ t : Tab, d = tb t ∧ WT t ∧ bsz t = m) X0 by
    obtain ⟨d, ω', e, t, rfl, hs⟩ := h.ex
    exact ⟨t, ω', e, hs⟩
  unfold F_law_any_table B_law_any_table
  have ha : addD (.int (m : Int)) (.int 1) = some (.int ((m + 1 : Nat) : Int)) := addN m 1
  have hr : rg2 [.int 2, .int ((m + 1 : Nat) : Int)] = some (rangeL 2 1 (m + 1 - 2)) := rg2_nat 2 (m + 1) (by omega) (by omega)
  repeat (first | with_reducible refine Eq.mpr (DL.wp_eqn (ha)) ?_ | with_reducible refine Eq.mpr (DL.wp_ofOs (ha)) ?_ | with_reducible refine Eq.mpr (DL.wp_eqn (hr)) ?_ | with_reducible refine Eq.mpr (DL.wp_ofOs (hr)) ?_ | walk_at "ev1")
  refine ⟨small_line (by rw [rangeL_len]; omega), ?_⟩
  refine lc_inv (fun i acc _ => ∃ t : Tab, acc = t.map Sh.enc ∧ t.length = i ∧ ∀ j s, t[j]? = some s → s.size = j + 2) ⟨[], rfl, rfl, by simp⟩ ?_ ?_
  · rintro i d acc ω hd ⟨t, rfl, hl, ht⟩
    obtain ⟨rfl, hi⟩ := rangeL_get _ _ _ _ _ hd
    refine ⟨_, rfl, ?_⟩
    obtain ⟨s, ω1, e1, hs⟩ := shape_ok 70 (i + 2) ω (by omega) (by omega) (by omega)
    have ei : (2 : Int) + (i : Int) * 1 = ((i + 2 : Nat) : Int) := by push_cast; omega
    rw [ei]
    repeat (first | with_reducible refine Eq.mpr (DL.wp_eqn (e1)) ?_ | with_reducible refine Eq.mpr (DL.wp_ofOs (e1)) ?_ | walk_at "ev1")
    refine ⟨t ++ [s], by simp, by simp [hl], fun j s' hj => ?_⟩
    by_cases hjl : j < t.length
    · rw [List.getElem?_append_left hjl] at hj
      exact ht j s' hj
    · rw [List.getElem?_append_right (by omega)] at hj
      have : j - t.length = 0 := by
        by_cases z : j - t.length = 0
        · exact z
        · rw [List.getElem?_eq_none (by simp; omega)] at hj; cases hj
      rw [this] at hj
      simp at hj
      subst hj
      omega
  · rintro acc ω ⟨t, rfl, hl, ht⟩
    rw [rangeL_len] at hl
    repeat walk_at "ev1"
    exact ⟨t, rfl, ⟨by omega, ht⟩, by unfold bsz; omega⟩
theorem law_size_ok : ∀ (n : Nat) (s : Sh), hgt s < n → F_law_size n [s.enc] = .ok (.int s.size) ()
  | 0, _, h => by omega
  | n + 1, .o, _ => by
    refine R.wp.equ ?_
    show (F_law_size (n + 1) [.tup []]).wp _ _
    unfold F_law_size B_law_size
    repeat (first | with_reducible refine Eq.mpr (DL.wp_eqn (eqO_o)) ?_ | with_reducible refine Eq.mpr (DL.wp_ofOs (eqO_o)) ?_ | walk_at "ev1")
    rfl
  | n + 1, .n l r, h => by
    simp only [hgt] at h
    have e1 := law_size_ok n l (by omega)
    have e2 := law_size_ok n r (by omega)
    refine R.wp.equ ?_
    show (F_law_size (n + 1) [.tup [l.enc, r.enc]]).wp _ _
    unfold F_law_size B_law_size
    repeat (first | with_reducible refine Eq.mpr (DL.wp_eqn (eqO_n l r)) ?_ | with_reducible refine Eq.mpr (DL.wp_ofOs (eqO_n l r)) ?_ | with_reducible refine Eq.mpr (DL.wp_eqn (e1)) ?_ | with_reducible refine Eq.mpr (DL.wp_ofOs (e1)) ?_ | with_reducible refine Eq.mpr (DL.wp_eqn (e2)) ?_ | with_reducible refine Eq.mpr (DL.wp_ofOs (e2)) ?_ | with_reducible refine Eq.mpr (DL.wp_eqn (addN _ _)) ?_ | with_reducible refine Eq.mpr (DL.wp_ofOs (addN _ _)) ?_ | walk_at "ev1")
    rfl
theorem law_entry_ok (t : Tab) (m : Nat) (h1 : 1 ≤ m) (h2 : m ≤ bsz t) : F_law_entry [tb t, .int m] = .ok (ent t m).enc () := by
  apply R.wp.equ
  unfold F_law_entry B_law_entry
  by_cases h : m = 1
  · subst h
    have e0 : eqD (.int ((1 : Nat) : Int)) (.int 1) = some (.bl true) := eqD_int 1 1
    repeat (first | with_reducible refine Eq.mpr (DL.wp_eqn (e0)) ?_ | with_reducible refine Eq.mpr (DL.wp_ofOs (e0)) ?_ | walk_at "ev1")
    rfl
  · have e0 : eqD (.int (m : Int)) (.int 1) = some (.bl false) := by
      rw [eqD_int]; congr 2; simp; omega
    have hlt : m - 2 < t.length := by unfold bsz at h2; omega
    have es : subD (.int (m : Int)) (.int 2) = some (.int ((m - 2 : Nat) : Int)) := subN m 2 (by omega)
    have e : ixD (.tup (t.map Sh.enc)) (.int ((m - 2 : Nat) : Int)) = some (ent t m).enc := by
      refine ix_tup (k := m - 2) rfl (map_get ?_)
      unfold ent
      rw [if_neg (by omega), List.getD_eq_getElem?_getD, List.getElem?_eq_getElem hlt]
      rfl
    repeat (first | with_reducible refine Eq.mpr (DL.wp_eqn (e0)) ?_ | with_reducible refine Eq.mpr (DL.wp_ofOs (e0)) ?_ | with_reducible refine Eq.mpr (DL.wp_eqn (es)) ?_ | with_reducible refine Eq.mpr (DL.wp_ofOs (es)) ?_ | with_reducible refine Eq.mpr (DL.wp_eqn (e)) ?_ | with_reducible refine Eq.mpr (DL.wp_ofOs (e)) ?_ | walk_at "ev1")
    rfl
theorem sl_to (row : List Sh) (j : Nat) : sliceD (rowD row) none (some (j : Int)) = some (rowD (row.take j)) := by
  show some (D.lst (cutL (row.map Sh.enc) none (some (j : Int)))) = _
  rw [cut_to, ← List.map_take]
theorem sl_from (row : List Sh) (j : Nat) : sliceD (rowD row) (some (j : Int)) none = some (rowD (row.drop j)) := by
  show some (D.lst (cutL (row.map Sh.enc) (some (j : Int)) none)) = _
  rw [cut_from, ← List.map_drop]
theorem law_filled_ok : ∀ (n : Nat) (s : Sh) (ps : List Sh), hgt s < n → s.size ≤ 70 → s.size ≤ ps.length → F_law_filled n [s.enc, rowD ps] = .ok (fill s ps).enc ()
  | 0, _, _, h, _, _ => by omega
  | n + 1, .o, ps, _, _, hl => by
    refine R.wp.equ ?_
    show (F_law_filled (n + 1) [.tup [], rowD ps]).wp _ _
    unfold F_law_filled B_law_filled
    cases ps with
    | nil => simp [Sh.size] at hl
    | cons p ps =>
      have e : ixD (rowD (p :: ps)) (.int 0) = some p.enc := ix_lst (k := 0) rfl rfl
      repeat (first | with_reducible refine Eq.mpr (DL.wp_eqn (eqO_o)) ?_ | with_reducible refine Eq.mpr (DL.wp_ofOs (eqO_o)) ?_ | with_reducible refine Eq.mpr (DL.wp_eqn (e)) ?_ | with_reducible refine Eq.mpr (DL.wp_ofOs (e)) ?_ | walk_at "ev1")
      rfl
  | n + 1, .n l r, ps, h, hz, hl => by
    simp only [hgt] at h
    simp only [Sh.size] at hz hl
    have h1 := hgt_lt l
    have e0 := law_size_ok 70 l (by omega)
    have e1 := law_filled_ok n l (ps.take l.size) (by omega) (by omega) (by rw [List.length_take]; omega)
    have e2 := law_filled_ok n r (ps.drop l.size) (by omega) (by omega) (by rw [List.length_drop]; omega)
    refine R.wp.equ ?_
    show (F_law_filled (n + 1) [.tup [l.enc, r.enc], rowD ps]).wp _ _
    unfold F_law_filled B_law_filled
    repeat (first | with_reducible refine Eq.mpr (DL.wp_eqn (eqO_n l r)) ?_ | with_reducible refine Eq.mpr (DL.wp_ofOs (eqO_n l r)) ?_ | with_reducible refine Eq.mpr (DL.wp_eqn (e0)) ?_ | with_reducible refine Eq.mpr (DL.wp_ofOs (e0)) ?_ | with_reducible refine Eq.mpr (DL.wp_eqn (sl_to ps l.size)) ?_ | with_reducible refine Eq.mpr (DL.wp_ofOs (sl_to ps l.size)) ?_ | with_reducible refine Eq.mpr (DL.wp_eqn (sl_from ps l.size)) ?_ | with_reducible refine Eq.mpr (DL.wp_ofOs (sl_from ps l.size)) ?_ | with_reducible refine Eq.mpr (DL.wp_eqn (e1)) ?_ | with_reducible refine Eq.mpr (DL.wp_ofOs (e1)) ?_ | with_reducible refine Eq.mpr (DL.wp_eqn (e2)) ?_ | with_reducible refine Eq.mpr (DL.wp_ofOs (e2)) ?_ | walk_at "ev1")
    rw [fill_take l ps l.size (Nat.le_refl _)]
    rfl
theorem len_row (r : List Sh) : un1 lenD [rowD r] = some (.int (r.length : Nat)) := by
  show some (D.int ((r.map Sh.enc).length : Nat)) = _
  rw [List.length_map]
theorem cut_row (row : List Sh) (i j : Nat) : sliceD (rowD row) (some (i : Int)) (some (j : Int)) = some (rowD ((row.drop i).take (j - i))) := by
  show some (D.lst (cutL (row.map Sh.enc) (some (i : Int)) (some (j : Int)))) = _
  rw [cut_nat, ← List.map_drop, ← List.map_take]
theorem law_pressed_ok (t : Tab) (row : List Sh) (hw : WT t) (hb : bsz t ≤ 60) (hr : row.length ≤ 10000) : F_law_pressed [tb t, rowD row] = .ok (rowD (prs t row)) () := by
  have hsz : addD (.int ((t.length : Nat) : Int)) (.int 1) = some (.int ((bsz t : Nat) : Int)) := addN t.length 1
  have hb1 : 1 ≤ bsz t := by unfold bsz; omega
  have hrg := rg3_nat row.length (bsz t) hb1 (by omega) (by omega)
  refine R.wp.equ ?_
  unfold F_law_pressed B_law_pressed
  have hs : startT 5 ([tb t, rowD row].map Cell.d) = [some (.d (tb t)), some (.d (rowD row)), none, none, none] := rfl
  rw [hs]
  repeat (first | with_reducible refine Eq.mpr (DL.wp_eqn (len_tb t)) ?_ | with_reducible refine Eq.mpr (DL.wp_ofOs (len_tb t)) ?_ | with_reducible refine Eq.mpr (DL.wp_eqn (hsz)) ?_ | with_reducible refine Eq.mpr (DL.wp_ofOs (hsz)) ?_ | with_reducible refine Eq.mpr (DL.wp_eqn (len_row row)) ?_ | with_reducible refine Eq.mpr (DL.wp_ofOs (len_row row)) ?_ | with_reducible refine Eq.mpr (DL.wp_eqn (hrg)) ?_ | with_reducible refine Eq.mpr (DL.wp_ofOs (hrg)) ?_ | walk_at "ev1")
  refine loop_inv (fun i τ _ => ∃ c, τ = [some (.d (tb t)), some (.d (rowD row)), some (.d (.int (bsz t))), some (.ow .L (((prs t row).take i).map Sh.enc)), c]) ⟨none, rfl⟩ ?_ ?_
  · rintro i d τ ω hd ⟨c, rfl⟩
    obtain ⟨rfl, hi⟩ := rangeL_get _ _ _ _ _ hd
    refine ⟨_, rfl, ?_⟩
    have ek : (0 : Int) + (i : Int) * ((bsz t : Nat) : Int) = ((i * bsz t : Nat) : Int) := by push_cast; omega
    rw [ek]
    have hkl : i * bsz t < row.length := by
      have h2 : (i + 1) * bsz t ≤ row.length + bsz t - 1 := by
        have := Nat.mul_le_mul_right (bsz t) (show i + 1 ≤ (row.length + bsz t - 1) / bsz t by omega)
        exact Nat.le_trans this (Nat.div_mul_le_self _ _)
      rw [Nat.succ_mul] at h2
      omega
    have ha : addD (.int ((i * bsz t : Nat) : Int)) (.int ((bsz t : Nat) : Int)) = some (.int ((i * bsz t + bsz t : Nat) : Int)) := addN _ _
    have hc : sliceD (rowD row) (some ((i * bsz t : Nat) : Int)) (some ((i * bsz t + bsz t : Nat) : Int)) = some (rowD ((row.drop (i * bsz t)).take (bsz t))) := by
      rw [cut_row]; congr 3; omega
    have hlen : ((row.drop (i * bsz t)).take (bsz t)).length = min (bsz t) (row.length - i * bsz t) := by rw [List.length_take, List.length_drop]
    have hll := len_row ((row.drop (i * bsz t)).take (bsz t))
    rw [hlen] at hll
    have hm1 : 1 ≤ min (bsz t) (row.length - i * bsz t) := by omega
    have he := law_entry_ok t (min (bsz t) (row.length - i * bsz t)) hm1 (by omega)
    have hes := hw.ent hm1 (show min (bsz t) (row.length - i * bsz t) ≤ bsz t by omega)
    have hh := hgt_lt (ent t (min (bsz t) (row.length - i * bsz t)))
    have hf := law_filled_ok 70 (ent t (min (bsz t) (row.length - i * bsz t))) ((row.drop (i * bsz t)).take (bsz t)) (by omega) (by omega) (by rw [hlen]; omega)
    rw [fill_take _ _ _ (by rw [hes]; omega)] at hf
    have hp : (prs t row)[i]? = some (fill (ent t (min (bsz t) (row.length - i * bsz t))) (row.drop (i * bsz t))) := by
      rw [prs_range t row.length row rfl, List.getElem?_map, List.getElem?_range hi]; rfl
    have hil : i < (prs t row).length := (List.getElem?_eq_some_iff.mp hp).1
    have hpl : (prs t row).length ≤ 10000 := by
      rw [prs_range t row.length row rfl, List.length_map, List.length_range]
      have : (row.length + bsz t - 1) / bsz t ≤ row.length := by
        apply Nat.le_of_lt_succ
        rw [Nat.div_lt_iff_lt_mul (by omega)]
        rw [Nat.succ_mul]
        have : row.length ≤ row.length * bsz t := Nat.le_mul_of_pos_right _ (by omega)
        omega
      omega
    refine (sw_app (xs := ((prs t row).take i).map Sh.enc) rfl (by rw [List.length_map, List.length_take]; omega)).mpr ?_
    repeat (first | with_reducible refine Eq.mpr (DL.wp_eqn (ha)) ?_ | with_reducible refine Eq.mpr (DL.wp_ofOs (ha)) ?_ | with_reducible refine Eq.mpr (DL.wp_eqn (hc)) ?_ | with_reducible refine Eq.mpr (DL.wp_ofOs (hc)) ?_ | with_reducible refine Eq.mpr (DL.wp_eqn (hll)) ?_ | with_reducible refine Eq.mpr (DL.wp_ofOs (hll)) ?_ | with_reducible refine Eq.mpr (DL.wp_eqn (he)) ?_ | with_reducible refine Eq.mpr (DL.wp_ofOs (he)) ?_ | with_reducible refine Eq.mpr (DL.wp_eqn (hf)) ?_ | with_reducible refine Eq.mpr (DL.wp_ofOs (hf)) ?_ | walk_at "ev1")
    have htk : (prs t row).take (i + 1) = (prs t row).take i ++ [fill (ent t (min (bsz t) (row.length - i * bsz t))) (row.drop (i * bsz t))] := by
      rw [List.take_succ, hp]; rfl
    rw [htk, List.map_append]
    exact ⟨_, rfl⟩
  · rintro τ ω ⟨c, rfl⟩
    rw [rangeL_len]
    have : (prs t row).take ((row.length + bsz t - 1) / bsz t) = prs t row := by
      refine List.take_of_length_le ?_
      rw [prs_range t row.length row rfl, List.length_map, List.length_range]
      exact Nat.le_refl _
    rw [this]
    repeat walk_at "ev1"
    rfl
theorem law_glue_ok (s t : Tab) (hs : WT s) (ht : WT t) (h1 : bsz s ≤ 60) (h2 : bsz t ≤ 60) (h3 : bsz s * bsz t ≤ 1000) : F_law_glue [tb s, tb t] = .ok (tb (glu s t)) () := by
  have a1 : addD (.int ((s.length : Nat) : Int)) (.int 1) = some (.int ((bsz s : Nat) : Int)) := addN s.length 1
  have a2 : addD (.int ((t.length : Nat) : Int)) (.int 1) = some (.int ((bsz t : Nat) : Int)) := addN t.length 1
  have a3 : mulD (.int ((bsz s : Nat) : Int)) (.int ((bsz t : Nat) : Int)) = some (.int ((bsz s * bsz t : Nat) : Int)) := mulN _ _ (by omega)
  have a4 : addD (.int ((bsz s * bsz t : Nat) : Int)) (.int 1) = some (.int ((bsz s * bsz t + 1 : Nat) : Int)) := addN _ 1
  have hr : rg2 [.int 2, .int ((bsz s * bsz t + 1 : Nat) : Int)] = some (rangeL 2 1 (bsz s * bsz t + 1 - 2)) := rg2_nat 2 _ (by omega) (by omega)
  have hg : glu s t = (List.range (bsz s * bsz t - 1)).map fun i => (prs t (prs s (osh (i + 2)))).headD .o := rfl
  refine R.wp.equ ?_
  unfold F_law_glue B_law_glue
  have hst : startT 6 ([tb s, tb t].map Cell.d) = [some (.d (tb s)), some (.d (tb t)), none, none, none, none] := rfl
  rw [hst]
  repeat (first | with_reducible refine Eq.mpr (DL.wp_eqn (len_tb s)) ?_ | with_reducible refine Eq.mpr (DL.wp_ofOs (len_tb s)) ?_ | with_reducible refine Eq.mpr (DL.wp_eqn (len_tb t)) ?_ | with_reducible refine Eq.mpr (DL.wp_ofOs (len_tb t)) ?_ | with_reducible refine Eq.mpr (DL.wp_eqn (a1)) ?_ | with_reducible refine Eq.mpr (DL.wp_ofOs (a1)) ?_ | with_reducible refine Eq.mpr (DL.wp_eqn (a2)) ?_ | with_reducible refine Eq.mpr (DL.wp_ofOs (a2)) ?_ | with_reducible refine Eq.mpr (DL.wp_eqn (a3)) ?_ | with_reducible refine Eq.mpr (DL.wp_ofOs (a3)) ?_ | with_reducible refine Eq.mpr (DL.wp_eqn (a4)) ?_ | with_reducible refine Eq.mpr (DL.wp_ofOs (a4)) ?_ | with_reducible refine Eq.mpr (DL.wp_eqn (hr)) ?_ | with_reducible refine Eq.mpr (DL.wp_ofOs (hr)) ?_ | walk_at "ev1")
  refine loop_inv (fun i τ _ => ∃ c4 c5, τ = [some (.d (tb s)), some (.d (tb t)), some (.ow .L (((glu s t).take i).map Sh.enc)), some (.d (.int (bsz s * bsz t : Nat))), c4, c5]) ⟨none, none, rfl⟩ ?_ ?_
  · rintro i d τ ω hd ⟨c4, c5, rfl⟩
    obtain ⟨rfl, hi⟩ := rangeL_get _ _ _ _ _ hd
    refine ⟨_, rfl, ?_⟩
    have ek : (2 : Int) + (i : Int) * 1 = ((i + 2 : Nat) : Int) := by push_cast; omega
    rw [ek]
    have hm : mulD (.lst [.tup []]) (.int ((i + 2 : Nat) : Int)) = some (rowD (osh (i + 2))) := by
      rw [mulL (.tup []) _ (i + 2) rfl (by omega)]
      unfold rowD osh
      rw [List.map_replicate]; rfl
    have hp := law_pressed_ok s (osh (i + 2)) hs h1 (by simp [osh]; omega)
    have hne : prs s (osh (i + 2)) ≠ [] := prs_ne_nil s (osh_ne (by omega))
    have hlen : (prs s (osh (i + 2))).length ≤ bsz t := prs_le s (bsz t) _ (by simp [osh]; rw [Nat.mul_comm]; omega)
    have hpos : 1 ≤ (prs s (osh (i + 2))).length := List.length_pos_iff.mpr hne
    have he := law_entry_ok t _ hpos hlen
    have hes := ht.ent hpos hlen
    have hh := hgt_lt (ent t (prs s (osh (i + 2))).length)
    have hf := law_filled_ok 70 (ent t (prs s (osh (i + 2))).length) (prs s (osh (i + 2))) (by omega) (by omega) (by omega)
    have hgi : (glu s t)[i]? = some (fill (ent t (prs s (osh (i + 2))).length) (prs s (osh (i + 2)))) := by
      rw [hg, List.getElem?_map, List.getElem?_range (by omega)]
      show some ((prs t (prs s (osh (i + 2)))).headD .o) = _
      rw [prs_small t hne hlen]; rfl
    have hgl : (glu s t).length ≤ 1000 := by rw [hg, List.length_map, List.length_range]; omega
    repeat (first | with_reducible refine Eq.mpr (DL.wp_eqn (hm)) ?_ | with_reducible refine Eq.mpr (DL.wp_ofOs (hm)) ?_ | with_reducible refine Eq.mpr (DL.wp_eqn (hp)) ?_ | with_reducible refine Eq.mpr (DL.wp_ofOs (hp)) ?_ | with_reducible refine Eq.mpr (DL.wp_eqn (len_row (prs s (osh (i + 2))))) ?_ | with_reducible refine Eq.mpr (DL.wp_ofOs (len_row (prs s (osh (i + 2))))) ?_ | with_reducible refine Eq.mpr (DL.wp_eqn (he)) ?_ | with_reducible refine Eq.mpr (DL.wp_ofOs (he)) ?_ | with_reducible refine Eq.mpr (DL.wp_eqn (hf)) ?_ | with_reducible refine Eq.mpr (DL.wp_ofOs (hf)) ?_ | walk_at "ev1")
    case hl => rw [List.length_map, List.length_take]; omega
    have htk : (glu s t).take (i + 1) = (glu s t).take i ++ [fill (ent t (prs s (osh (i + 2))).length) (prs s (osh (i + 2)))] := by
      rw [List.take_succ, hgi]; rfl
    rw [htk, List.map_append]
    exact ⟨_, _, rfl⟩
  · rintro τ ω ⟨c4, c5, rfl⟩
    rw [rangeL_len]
    have : (glu s t).take (bsz s * bsz t + 1 - 2) = glu s t := by
      refine List.take_of_length_le ?_
      rw [hg, List.length_map, List.length_range]
      omega
    rw [this]
    repeat walk_at "ev1"
    rfl
theorem of_ok (ω : Src) (xs : List D) (h0 : xs ≠ []) (hl : xs.length < 2 ^ 50) : ∃ d ω', F_law_of [.lst xs] ω = .ok d ω' ∧ d ∈ xs := by
  have hp : 1 ≤ xs.length := List.length_pos_iff.mpr h0
  obtain ⟨r, ω1, e, h1, h2⟩ := pick_ok ω (xs.length : Nat) (by omega) (by omega)
  have hr : r = ((r.toNat : Nat) : Int) := by omega
  have hlt : r.toNat < xs.length := by omega
  have e2 : ixD (.lst xs) (.int r) = some xs[r.toNat] := ix_lst hr (List.getElem?_eq_getElem hlt)
  refine R.wp.ex ?_
  unfold F_law_of B_law_of
  have el : un1 lenD [.lst xs] = some (.int (xs.length : Nat)) := rfl
  repeat (first | with_reducible refine Eq.mpr (DL.wp_eqn (el)) ?_ | with_reducible refine Eq.mpr (DL.wp_ofOs (el)) ?_ | with_reducible refine Eq.mpr (DL.wp_eqn (e)) ?_ | with_reducible refine Eq.mpr (DL.wp_ofOs (e)) ?_ | with_reducible refine Eq.mpr (DL.wp_eqn (e2)) ?_ | with_reducible refine Eq.mpr (DL.wp_ofOs (e2)) ?_ | walk_at "ev1")
  exact List.getElem_mem hlt
theorem size_of_ok : ∀ (n : Nat) (s : Sh), hgt s < n → F_size_of n [s.enc] = .ok (.int s.size) ()
  | 0, _, h => by omega
  | n + 1, .o, _ => by
    refine R.wp.equ ?_
    show (F_size_of (n + 1) [.tup []]).wp _ _
    unfold F_size_of B_size_of
    repeat (first | with_reducible refine Eq.mpr (DL.wp_eqn (eqO_o)) ?_ | with_reducible refine Eq.mpr (DL.wp_ofOs (eqO_o)) ?_ | walk_at "ev1")
    rfl
  | n + 1, .n l r, h => by
    simp only [hgt] at h
    have e1 := size_of_ok n l (by omega)
    have e2 := size_of_ok n r (by omega)
    refine R.wp.equ ?_
    show (F_size_of (n + 1) [.tup [l.enc, r.enc]]).wp _ _
    unfold F_size_of B_size_of
    repeat (first | with_reducible refine Eq.mpr (DL.wp_eqn (eqO_n l r)) ?_ | with_reducible refine Eq.mpr (DL.wp_ofOs (eqO_n l r)) ?_ | with_reducible refine Eq.mpr (DL.wp_eqn (e1)) ?_ | with_reducible refine Eq.mpr (DL.wp_ofOs (e1)) ?_ | with_reducible refine Eq.mpr (DL.wp_eqn (e2)) ?_ | with_reducible refine Eq.mpr (DL.wp_ofOs (e2)) ?_ | with_reducible refine Eq.mpr (DL.wp_eqn (addN _ _)) ?_ | with_reducible refine Eq.mpr (DL.wp_ofOs (addN _ _)) ?_ | walk_at "ev1")
    rfl
/-- a walk through a list, step by step -/
theorem lpD {Ω : Type} {B : D → Tau → Option Tau} {F : S Ω} {P : Fl → Ω → Prop} {ds : List D} {τ : Tau} {ω : Ω} (I : Tau → Ω → Prop) (h0 : I τ ω)
    (step : ∀ d τ ω, d ∈ ds → I τ ω → ∃ τ1, B d τ = some τ1 ∧ sw (F τ1 ω) (fun f ω' => match f with | .nx τ' => I τ' ω' | .ct τ' => I τ' ω' | .bk τ' => P (.nx τ') ω' | f => P f ω')) (fin : ∀ τ ω, I τ ω → P (.nx τ) ω) : sw (loop B F ds τ ω) P :=
  loop_inv (fun _ τ ω => I τ ω) h0 (fun _ d τ ω hd hi => step d τ ω (List.mem_of_getElem? hd) hi) fin
theorem enum_map (t : Tab) : (tb t).itemsS.map (enumL 0) = some ((List.range t.length).map fun i => .tup [.int ((i : Nat) : Int), (t.getD i .o).enc]) := by
  show some (enumL 0 (t.map Sh.enc)) = _
  congr 1
  apply List.ext_getElem?
  intro i
  rw [List.getElem?_map]
  by_cases h : i < t.length
  · rw [List.getElem?_range h]
    have hlt : i < (enumL 0 (t.map Sh.enc)).length := by rw [enumL_len, List.length_map]; exact h
    obtain ⟨d, e1, e2⟩ := enumL_get _ _ _ _ (List.getElem?_eq_getElem hlt)
    rw [List.getElem?_eq_getElem hlt, e2]
    rw [List.getElem?_map, List.getElem?_eq_getElem h] at e1
    cases e1
    simp [List.getD_eq_getElem?_getD, h]
  · rw [List.getElem?_eq_none (by rw [enumL_len, List.length_map]; omega), List.getElem?_eq_none (by simp; omega)]
    rfl
theorem wt_at {t : Tab} (h : WT t) {i : Nat} (hi : i < t.length) : (t.getD i .o).size = i + 2 := by
  rw [List.getD_eq_getElem?_getD, List.getElem?_eq_getElem hi]
  exact h.2 i _ (List.getElem?_eq_getElem hi)
theorem wtp_ok (t : Tab) (hw : WT t) (hb : bsz t ≤ 60) : F_wrong_table_path [tb t] = .ok .non () := by
  refine R.wp.equ ?_
  unfold F_wrong_table_path B_wrong_table_path
  have hl : un1 lenD [tb t] = some (.int (t.length : Nat)) := by
    show some (D.int ((t.map Sh.enc).length : Nat)) = _
    rw [List.length_map]
  have h0 : eqD (.int ((t.length : Nat) : Int)) (.int 0) = some (.bl false) := by
    rw [eqD_int]; congr 2; simp; have := hw.1; intro q; subst q; simp at this
  have hs : startT 4 ([tb t].map Cell.d) = [some (.d (tb t)), none, none, none] := rfl
  unfold bsz at hb
  rw [hs]
  repeat (first | with_reducible refine Eq.mpr (DL.wp_eqn (isi_tup _)) ?_ | with_reducible refine Eq.mpr (DL.wp_ofOs (isi_tup _)) ?_ | with_reducible refine Eq.mpr (DL.wp_eqn (hl)) ?_ | with_reducible refine Eq.mpr (DL.wp_ofOs (hl)) ?_ | with_reducible refine Eq.mpr (DL.wp_eqn (h0)) ?_ | with_reducible refine Eq.mpr (DL.wp_ofOs (h0)) ?_ | walk_at "ev1")
  refine Eq.mpr wp_en ?_
  repeat (first | with_reducible refine Eq.mpr (DL.wp_eqn (enum_map t)) ?_ | with_reducible refine Eq.mpr (DL.wp_ofOs (enum_map t)) ?_ | walk_at "ev1")
  refine lpD (fun τ _ => ∃ a b c, τ = [some (.d (tb t)), a, b, c]) ⟨_, _, _, rfl⟩ ?_ ?_
  · rintro d τ ω hd ⟨a, b, c, rfl⟩
    obtain ⟨i, hi, rfl⟩ := List.mem_map.mp hd
    have hi := List.mem_range.mp hi
    refine ⟨_, rfl, ?_⟩
    have hz := wt_at hw hi
    have e1 := wsp_ok 70 (t.getD i .o) (by have := hgt_lt (t.getD i .o); omega)
    repeat (first | with_reducible refine Eq.mpr (DL.wp_eqn (e1)) ?_ | with_reducible refine Eq.mpr (DL.wp_ofOs (e1)) ?_ | with_reducible refine Eq.mpr (DL.wp_eqn (notN)) ?_ | with_reducible refine Eq.mpr (DL.wp_ofOs (notN)) ?_ | walk_at "ev1")
    exact ⟨_, _, _, rfl⟩
  · rintro τ ω ⟨a, b, c, rfl⟩
    repeat walk_at "ev1"
    refine Eq.mpr wp_en ?_
    repeat (first | with_reducible refine Eq.mpr (DL.wp_eqn (enum_map t)) ?_ | with_reducible refine Eq.mpr (DL.wp_ofOs (enum_map t)) ?_ | walk_at "ev1")
    refine lpD (fun τ _ => ∃ a b c, τ = [some (.d (tb t)), a, b, c]) ⟨_, _, _, rfl⟩ ?_ ?_
    · rintro d τ ω hd ⟨a, b, c, rfl⟩
      obtain ⟨i, hi, rfl⟩ := List.mem_map.mp hd
      have hi := List.mem_range.mp hi
      refine ⟨_, rfl, ?_⟩
      have hz := wt_at hw hi
      have e1 := size_of_ok 70 (t.getD i .o) (by have := hgt_lt (t.getD i .o); omega)
      rw [hz] at e1
      have e2 : addD (.int (i : Int)) (.int 2) = some (.int ((i + 2 : Nat) : Int)) := addN i 2
      repeat (first | with_reducible refine Eq.mpr (DL.wp_eqn (e1)) ?_ | with_reducible refine Eq.mpr (DL.wp_ofOs (e1)) ?_ | with_reducible refine Eq.mpr (DL.wp_eqn (e2)) ?_ | with_reducible refine Eq.mpr (DL.wp_ofOs (e2)) ?_ | with_reducible refine Eq.mpr (DL.wp_eqn (ne_int _)) ?_ | with_reducible refine Eq.mpr (DL.wp_ofOs (ne_int _)) ?_ | walk_at "ev1")
      exact ⟨_, _, _, rfl⟩
    · rintro τ ω ⟨a, b, c, rfl⟩
      repeat walk_at "ev1"
      rfl
theorem iteP {c : Prop} [Decidable c] {a b : Prop} (h : c) (k : a) : if c then a else b := by rw [if_pos h]; exact k
theorem iteN {c : Prop} [Decidable c] {a b : Prop} (h : ¬ c) (k : b) : if c then a else b := by rw [if_neg h]; exact k
theorem items_t (ts : List Tab) : (D.tup (ts.map tb)).itemsS.map (enumL 0) = some (enumL 0 (ts.map tb)) := rfl
theorem fwt_ok (ts : List Tab) (h : ∀ t ∈ ts, WT t ∧ bsz t ≤ 60) : F_first_wrong_table [.tup (ts.map tb)] = .ok .non () := by
  apply R.wp.equ
  unfold F_first_wrong_table B_first_wrong_table
  have hs0 : startT 4 ([D.tup (ts.map tb)].map Cell.d) = [some (.d (.tup (ts.map tb))), none, none, none] := rfl
  rw [hs0]
  repeat walk_at "ev1"
  refine Eq.mpr wp_en ?_
  repeat (first | with_reducible refine Eq.mpr (DL.wp_eqn (items_t ts)) ?_ | with_reducible refine Eq.mpr (DL.wp_ofOs (items_t ts)) ?_ | walk_at "ev1")
  refine loop_inv (fun i τ _ => ∃ a b c, τ = [some (.d (.tup (ts.map tb))), a, b, c]) ⟨_, _, _, rfl⟩ ?_ ?_
  · rintro i d τ ω hd ⟨a, b, c, rfl⟩
    obtain ⟨x, hx, rfl⟩ := enumL_get _ _ _ _ hd
    obtain ⟨t, ht, rfl⟩ := List.mem_map.mp (List.mem_of_getElem? hx)
    refine ⟨_, rfl, ?_⟩
    repeat (first | with_reducible refine Eq.mpr (DL.wp_eqn (wtp_ok t (h t ht).1 (h t ht).2)) ?_ | with_reducible refine Eq.mpr (DL.wp_ofOs (wtp_ok t (h t ht).1 (h t ht).2)) ?_ | with_reducible refine Eq.mpr (DL.wp_eqn (notN)) ?_ | with_reducible refine Eq.mpr (DL.wp_ofOs (notN)) ?_ | walk_at "ev1")
    exact ⟨_, _, _, rfl⟩
  · rintro τ ω ⟨a, b, c, rfl⟩
    repeat walk_at "ev1"
    rfl
/-- what ends a plan: a side, or a row of tables -/
inductive PEnd where
  | side (b : Bool)
  | rnd (rs : List Tab)
def endD : PEnd → D
  | .side b => sideS b
  | .rnd rs => .tup (rs.map tb)
def GT (ts : List Tab) : Prop := ∀ t ∈ ts, WT t ∧ bsz t ≤ 16
def PEnd.ok : PEnd → Prop
  | .side _ => True
  | .rnd rs => rs ≠ [] ∧ rs.length ≤ 20 ∧ GT rs
theorem GT.le {ts : List Tab} (h : GT ts) : ∀ t ∈ ts, WT t ∧ bsz t ≤ 60 := fun t ht => ⟨(h t ht).1, Nat.le_trans (h t ht).2 (by omega)⟩
theorem isi_lt (ds : List D) : isi2D "list" "tuple" (.tup ds) = some (.bl true) := by kernel_rfl
theorem eq_rt (b : Bool) : eqD (sideS b) (.str "right") = some (.bl (!b)) := by cases b <;> kernel_rfl
theorem eq_ts (ts : List Tab) (x : Str) (hx : PyData.strOk x = true) : eqD (.tup (ts.map tb)) (.str x) = some (.bl false) := by
  have e : (D.tup (ts.map tb)).py = some (.tuple (ts.map Enc.py)) := Enc.e1 ts
  have l : (PyData.tuple (ts.map Enc.py)).canLay0 = true := Enc.e3 ts
  unfold eqD eqB
  rw [e]
  simp only [D.py]
  rw [if_pos ⟨l, by simp only [PyData.canLay0]; exact hx, by simp only [PyData.depth]; omega⟩]
  simp only [PyData.eqv, Option.map_some]
theorem len_tp (ts : List Tab) : un1 lenD [.tup (ts.map tb)] = some (.int (ts.length : Nat)) := by
  show some (D.int ((ts.map tb).length : Nat)) = _
  rw [List.length_map]
theorem wpp_ok (ts : List Tab) (e : PEnd) (h : GT ts) (he : e.ok) : F_wrong_plan_path [.tup (ts.map tb), endD e] = .ok .non () := by
  apply R.wp.equ
  unfold F_wrong_plan_path B_wrong_plan_path
  have hs0 : startT 3 ([D.tup (ts.map tb), endD e].map Cell.d) = [some (.d (.tup (ts.map tb))), some (.d (endD e)), none] := rfl
  rw [hs0]
  cases e with
  | side b =>
    have e1 : eqD (endD (.side b)) (.str "left") = some (.bl b) := eq_left b
    have e2 : eqD (endD (.side b)) (.str "right") = some (.bl (!b)) := eq_rt b
    cases b with
    | true =>
      repeat (first | with_reducible refine Eq.mpr (DL.wp_eqn (isi_lt _)) ?_ | with_reducible refine Eq.mpr (DL.wp_ofOs (isi_lt _)) ?_ | with_reducible refine Eq.mpr (DL.wp_eqn (fwt_ok ts h.le)) ?_ | with_reducible refine Eq.mpr (DL.wp_ofOs (fwt_ok ts h.le)) ?_ | with_reducible refine Eq.mpr (DL.wp_eqn (notN)) ?_ | with_reducible refine Eq.mpr (DL.wp_ofOs (notN)) ?_ | with_reducible refine Eq.mpr (DL.wp_eqn (e1)) ?_ | with_reducible refine Eq.mpr (DL.wp_ofOs (e1)) ?_ | walk_at "ev1")
      rfl
    | false =>
      repeat (first | with_reducible refine Eq.mpr (DL.wp_eqn (isi_lt _)) ?_ | with_reducible refine Eq.mpr (DL.wp_ofOs (isi_lt _)) ?_ | with_reducible refine Eq.mpr (DL.wp_eqn (fwt_ok ts h.le)) ?_ | with_reducible refine Eq.mpr (DL.wp_ofOs (fwt_ok ts h.le)) ?_ | with_reducible refine Eq.mpr (DL.wp_eqn (notN)) ?_ | with_reducible refine Eq.mpr (DL.wp_ofOs (notN)) ?_ | with_reducible refine Eq.mpr (DL.wp_eqn (e1)) ?_ | with_reducible refine Eq.mpr (DL.wp_ofOs (e1)) ?_ | with_reducible refine Eq.mpr (DL.wp_eqn (e2)) ?_ | with_reducible refine Eq.mpr (DL.wp_ofOs (e2)) ?_ | walk_at "ev1")
      rfl
  | rnd rs =>
    obtain ⟨r0, r1, r2⟩ := he
    have e1 : eqD (endD (.rnd rs)) (.str "left") = some (.bl false) := eq_ts rs _ (strOk_ofString _)
    have e2 : eqD (endD (.rnd rs)) (.str "right") = some (.bl false) := eq_ts rs _ (strOk_ofString _)
    have e3 : isiD "tuple" (endD (.rnd rs)) = some (.bl true) := isi_tup _
    have e4 : un1 lenD [endD (.rnd rs)] = some (.int (rs.length : Nat)) := len_tp rs
    have hp := List.length_pos_iff.mpr r0
    have e5 : eqD (.int (rs.length : Nat)) (.int 0) = some (.bl false) := by
      rw [eqD_int]; exact congrArg (fun b => some (D.bl b)) (decide_eq_false (by omega))
    have e6 : F_first_wrong_table [endD (.rnd rs)] = .ok .non () := fwt_ok rs r2.le
    repeat (first | with_reducible refine Eq.mpr (DL.wp_eqn (isi_lt _)) ?_ | with_reducible refine Eq.mpr (DL.wp_ofOs (isi_lt _)) ?_ | with_reducible refine Eq.mpr (DL.wp_eqn (fwt_ok ts h.le)) ?_ | with_reducible refine Eq.mpr (DL.wp_ofOs (fwt_ok ts h.le)) ?_ | with_reducible refine Eq.mpr (DL.wp_eqn (notN)) ?_ | with_reducible refine Eq.mpr (DL.wp_ofOs (notN)) ?_ | with_reducible refine Eq.mpr (DL.wp_eqn (e1)) ?_ | with_reducible refine Eq.mpr (DL.wp_ofOs (e1)) ?_ | with_reducible refine Eq.mpr (DL.wp_eqn (e2)) ?_ | with_reducible refine Eq.mpr (DL.wp_ofOs (e2)) ?_ | with_reducible refine Eq.mpr (DL.wp_eqn (e3)) ?_ | with_reducible refine Eq.mpr (DL.wp_ofOs (e3)) ?_ | with_reducible refine Eq.mpr (DL.wp_eqn (e4)) ?_ | with_reducible refine Eq.mpr (DL.wp_ofOs (e4)) ?_ | with_reducible refine Eq.mpr (DL.wp_eqn (e5)) ?_ | with_reducible refine Eq.mpr (DL.wp_ofOs (e5)) ?_ | with_reducible refine Eq.mpr (DL.wp_eqn (e6)) ?_ | with_reducible refine Eq.mpr (DL.wp_ofOs (e6)) ?_ | walk_at "ev1")
    rfl
abbrev plnD (a b : D) : D := .ins ["_tables", "_end"] [a, b]
abbrev plD (ts : List Tab) (e : PEnd) : D := plnD (.tup (ts.map tb)) (endD e)
theorem plan_ok (ts : List Tab) (e : PEnd) (h : GT ts) (he : e.ok) : F_Plan_init [.tup (ts.map tb), endD e] = .ok [.tup (ts.map tb), endD e] () := by
  apply R.wp.equ
  unfold F_Plan_init B_Plan_init
  refine Eq.mpr wp_runI ?_
  have hs0 : startT 4 (.src :: [D.tup (ts.map tb), endD e].map Cell.d) = [some .src, some (.d (.tup (ts.map tb))), some (.d (endD e)), none] := rfl
  rw [hs0]
  refine si_seq ?_
  repeat (first | with_reducible refine Eq.mpr (DL.wp_eqn (wpp_ok ts e h he)) ?_ | with_reducible refine Eq.mpr (DL.wp_ofOs (wpp_ok ts e h he)) ?_ | walk_at "ev1")
  refine ⟨_, rfl, rfl, ?_⟩
  refine si_seq ?_
  repeat (first | with_reducible refine Eq.mpr (DL.wp_eqn (notN)) ?_ | with_reducible refine Eq.mpr (DL.wp_ofOs (notN)) ?_ | walk_at "ev1")
  refine ⟨_, rfl, rfl, ?_⟩
  refine si_two ?_
  have ht : un1 tupleD [.tup (ts.map tb)] = some (.tup (ts.map tb)) := rfl
  repeat (first | with_reducible refine Eq.mpr (DL.wp_eqn (ht)) ?_ | with_reducible refine Eq.mpr (DL.wp_ofOs (ht)) ?_ | walk_at "ev1")
  rfl
def optT : Option Tab → D
  | none => .non
  | some t => tb t
theorem nin_opt (A : Option Tab) : notND (optT A) .non = some (.bl (decide (A ≠ none))) := by
  cases A <;> rfl
/-- the table of a stage -/
def stg (ts : List Tab) (e : PEnd) (k : Nat) : Option Tab := if k < ts.length then ts[k]? else match e with
  | .side _ => none
  | .rnd rs => rs[(k - ts.length) % rs.length]?
theorem stg_gt {ts : List Tab} {e : PEnd} (h : GT ts) (he : e.ok) {k : Nat} {t : Tab} (q : stg ts e k = some t) : WT t ∧ bsz t ≤ 16 := by
  unfold stg at q
  split at q
  · exact h t (List.mem_of_getElem? q)
  · cases e with
    | side b => cases q
    | rnd rs => exact he.2.2 t (List.mem_of_getElem? q)
theorem fld1 (a b : D) (c : Option Cell) : (eFld "_tables" (eVar 0) : E Unit D) [some (.d (plnD a b)), c] () = .ok a () := by kernel_rfl
theorem fld2 (a b : D) (c : Option Cell) : (eFld "_end" (eVar 0) : E Unit D) [some (.d (plnD a b)), c] () = .ok b () := by kernel_rfl
theorem ix_tp {ts : List Tab} {k : Nat} {t : Tab} (h : ts[k]? = some t) : ixD (.tup (ts.map tb)) (.int (k : Nat)) = some (tb t) := by
  have : L2.atI (ts.map tb) ((k : Nat) : Int) = some (tb t) := atI_of (k := k) rfl (by rw [List.getElem?_map, h]; rfl)
  exact this
theorem isi_side (b : Bool) : isiD "str" (sideS b) = some (.bl true) := by cases b <;> kernel_rfl
theorem isi_notstr (ds : List D) : isiD "str" (.tup ds) = some (.bl false) := by kernel_rfl
theorem plan_stage_ok (ts : List Tab) (e : PEnd) (he : e.ok) (k : Nat) (hk : k ≤ 10000) : F_Plan_stage [plD ts e, .int (k : Nat)] = .ok (optT (stg ts e k)) () := by
  apply R.wp.equ
  unfold F_Plan_stage B_Plan_stage
  have hs0 : startT 2 ([plD ts e, D.int (k : Nat)].map Cell.d) = [some (.d (plD ts e)), some (.d (.int (k : Nat)))] := rfl
  rw [hs0]
  have f1 := fld1 (.tup (ts.map tb)) (endD e) (some (.d (.int (k : Nat))))
  have f2 := fld2 (.tup (ts.map tb)) (endD e) (some (.d (.int (k : Nat))))
  have hl := len_tp ts
  repeat (first | with_reducible refine Eq.mpr (DL.wp_eqn (f1)) ?_ | with_reducible refine Eq.mpr (DL.wp_ofOs (f1)) ?_ | with_reducible refine Eq.mpr (DL.wp_eqn (hl)) ?_ | with_reducible refine Eq.mpr (DL.wp_ofOs (hl)) ?_ | walk_at "ev1")
  by_cases h : k < ts.length
  · refine iteP (decide_eq_true (Int.ofNat_lt.mpr h)) ?_
    have hx := ix_tp (List.getElem?_eq_getElem h)
    repeat (first | with_reducible refine Eq.mpr (DL.wp_eqn (f1)) ?_ | with_reducible refine Eq.mpr (DL.wp_ofOs (f1)) ?_ | with_reducible refine Eq.mpr (DL.wp_eqn (hx)) ?_ | with_reducible refine Eq.mpr (DL.wp_ofOs (hx)) ?_ | walk_at "ev1")
    unfold stg
    rw [if_pos h, List.getElem?_eq_getElem h]
    rfl
  · refine iteN (by rw [decide_eq_true_eq]; omega) ?_
    cases e with
    | side b =>
      have hs : isiD "str" (endD (.side b)) = some (.bl true) := isi_side b
      repeat (first | with_reducible refine Eq.mpr (DL.wp_eqn (f2)) ?_ | with_reducible refine Eq.mpr (DL.wp_ofOs (f2)) ?_ | with_reducible refine Eq.mpr (DL.wp_eqn (hs)) ?_ | with_reducible refine Eq.mpr (DL.wp_ofOs (hs)) ?_ | walk_at "ev1")
      unfold stg
      rw [if_neg h]
      rfl
    | rnd rs =>
      have hp := List.length_pos_iff.mpr he.1
      have hs : isiD "str" (endD (.rnd rs)) = some (.bl false) := isi_notstr _
      have s1 := subN k ts.length (by omega)
      have l2 : un1 lenD [endD (.rnd rs)] = some (.int (rs.length : Nat)) := len_tp rs
      have m1 := modN (k - ts.length) rs.length hp
      have hlt : (k - ts.length) % rs.length < rs.length := Nat.mod_lt _ hp
      have hx : ixD (endD (.rnd rs)) (.int ((k - ts.length) % rs.length : Nat)) = some (tb rs[(k - ts.length) % rs.length]) := ix_tp (List.getElem?_eq_getElem hlt)
      repeat (first | with_reducible refine Eq.mpr (DL.wp_eqn (f2)) ?_ | with_reducible refine Eq.mpr (DL.wp_ofOs (f2)) ?_ | with_reducible refine Eq.mpr (DL.wp_eqn (hs)) ?_ | with_reducible refine Eq.mpr (DL.wp_ofOs (hs)) ?_ | with_reducible refine Eq.mpr (DL.wp_eqn (f1)) ?_ | with_reducible refine Eq.mpr (DL.wp_ofOs (f1)) ?_ | with_reducible refine Eq.mpr (DL.wp_eqn (hl)) ?_ | with_reducible refine Eq.mpr (DL.wp_ofOs (hl)) ?_ | with_reducible refine Eq.mpr (DL.wp_eqn (s1)) ?_ | with_reducible refine Eq.mpr (DL.wp_ofOs (s1)) ?_ | with_reducible refine Eq.mpr (DL.wp_eqn (l2)) ?_ | with_reducible refine Eq.mpr (DL.wp_ofOs (l2)) ?_ | with_reducible refine Eq.mpr (DL.wp_eqn (m1)) ?_ | with_reducible refine Eq.mpr (DL.wp_ofOs (m1)) ?_ | with_reducible refine Eq.mpr (DL.wp_eqn (hx)) ?_ | with_reducible refine Eq.mpr (DL.wp_ofOs (hx)) ?_ | walk_at "ev1")
      unfold stg
      rw [if_neg h]
      show _ = optT rs[(k - ts.length) % rs.length]?
      rw [List.getElem?_eq_getElem hlt]
      rfl
theorem sw_preLL {Ω : Type} {i : Nat} {F : S Ω} {τ : Tau} {ω : Ω} {P : Fl → Ω → Prop} {xs : List D} (h : τ[i]? = some (some (.ow .L xs))) : sw (sPre i F τ ω) P = sw (F (τ.set i (some (.d (.lst xs)))) ω) P := sw_pre h
def szS : Option Tab → Nat
  | none => 1
  | some t => bsz t
def wd (st : Nat → Option Tab) : Nat → Nat
  | 0 => 1
  | j + 1 => wd st j * szS (st j)
def upn (n w : Nat) : Nat := (n + w - 1) / w
def Cnd (st : Nat → Option Tab) (n j : Nat) : Prop := 1 < upn n (wd st j) ∧ st j ≠ none
theorem upn_one (n : Nat) : upn n 1 = n := by unfold upn; rw [Nat.div_one]; omega
theorem upn_gt {n w : Nat} (hw : 1 ≤ w) (h : 1 < upn n w) : w < n := by
  unfold upn at h
  have h2 : 2 * w ≤ n + w - 1 := by
    have := (Nat.le_div_iff_mul_le (by omega)).mp h
    omega
  omega
theorem upn_mul {n w s : Nat} (hw : 1 ≤ w) (hs : 1 ≤ s) (hn : 1 ≤ n) : (upn n w + s - 1) / s = upn n (w * s) := by
  unfold upn
  have e1 : (n + w - 1) / w + s - 1 = (n + w - 1 + (s - 1) * w) / w := by
    rw [Nat.add_mul_div_right _ _ (by omega)]
    generalize (n + w - 1) / w = q
    omega
  have hws : w * s = (s - 1) * w + w := by
    obtain ⟨q, rfl⟩ : ∃ q, s = q + 1 := ⟨s - 1, by omega⟩
    rw [Nat.mul_comm, Nat.succ_mul]; rfl
  rw [e1, Nat.div_div_eq_div_mul]
  congr 1
  omega
structure Sg (st : Nat → Option Tab) : Prop where
  two : ∀ j t, st j = some t → 2 ≤ bsz t ∧ bsz t ≤ 16
theorem Sg.sz {st : Nat → Option Tab} (h : Sg st) (j : Nat) : 1 ≤ szS (st j) ∧ szS (st j) ≤ 16 := by
  cases e : st j with
  | none => exact ⟨Nat.le_refl _, by show 1 ≤ 16; omega⟩
  | some t => have := h.two j t e; exact ⟨by show 1 ≤ bsz t; omega, this.2⟩
theorem Sg.pos {st : Nat → Option Tab} (h : Sg st) : ∀ j, 1 ≤ wd st j
  | 0 => Nat.le_refl _
  | j + 1 => Nat.mul_pos (h.pos j) (h.sz j).1
theorem Sg.pow {st : Nat → Option Tab} (h : Sg st) : ∀ J, (∀ j, j < J → st j ≠ none) → 2 ^ J ≤ wd st J
  | 0, _ => Nat.le_refl _
  | J + 1, hj => by
    have ih := h.pow J fun j hl => hj j (by omega)
    have hs : 2 ≤ szS (st J) := by
      cases e : st J with
      | none => exact absurd e (hj J (by omega))
      | some t => exact (h.two J t e).1
    rw [Nat.pow_succ]
    exact Nat.mul_le_mul ih hs
/-- where the stages stop -/
structure Stop (st : Nat → Option Tab) (n J : Nat) : Prop where
  go : ∀ j, j < J → Cnd st n j
  no : ¬ Cnd st n J
  le : J ≤ 8
theorem Sg.stop {st : Nat → Option Tab} (h : Sg st) {n : Nat} (hn : n ≤ 200) : ∃ J, Stop st n J := by
  classical
  suffices H : ∀ m k, k + m = 9 → (∀ j, j < k → Cnd st n j) → ∃ J, Stop st n J from H 9 0 rfl fun j hj => absurd hj (by omega)
  intro m
  induction m with
  | zero =>
    intro k hk hc
    exfalso
    have h8 := hc 8 (by omega)
    have hp := h.pow 8 fun j hj => (hc j (by omega)).2
    have := upn_gt (h.pos 8) h8.1
    have : (2 : Nat) ^ 8 = 256 := rfl
    omega
  | succ m ih =>
    intro k hk hc
    by_cases hck : Cnd st n k
    · refine ih (k + 1) (by omega) fun j hj => ?_
      by_cases e : j = k
      · subst e; exact hck
      · exact hc j (by omega)
    · exact ⟨k, hc, hck, by omega⟩
theorem Stop.wd_le {st : Nat → Option Tab} {n J : Nat} (s : Stop st n J) (h : Sg st) (hn : n ≤ 200) : ∀ j, j ≤ J → wd st j ≤ 3200
  | 0, _ => by show 1 ≤ 3200; omega
  | j + 1, hj => by
    have h1 := upn_gt (h.pos j) (s.go j (by omega)).1
    have h2 : wd st j * szS (st j) ≤ 200 * 16 := Nat.mul_le_mul (by omega) (h.sz j).2
    exact h2
theorem Stop.wd_lt {st : Nat → Option Tab} {n J : Nat} (s : Stop st n J) (h : Sg st) {j : Nat} (hj : j < J) : wd st j < n := upn_gt (h.pos j) (s.go j hj).1
theorem rounded_ok (m s : Nat) (h1 : 1 ≤ s) (h2 : s ≤ 1000) (hm : m ≤ 100000) : F_rounded_up [.int (m : Nat), .int (s : Nat)] = .ok (.int ((m + s - 1) / s : Nat)) () := by
  apply R.wp.equ
  unfold F_rounded_up B_rounded_up
  have a1 := addN m s
  have s1 : subD (.int ((m + s : Nat) : Int)) (.int 1) = some (.int ((m + s - 1 : Nat) : Int)) := subN (m + s) 1 (by omega)
  have d1 := fdivN (m + s - 1) s (by omega) (by omega)
  repeat (first | with_reducible refine Eq.mpr (DL.wp_eqn (a1)) ?_ | with_reducible refine Eq.mpr (DL.wp_ofOs (a1)) ?_ | with_reducible refine Eq.mpr (DL.wp_eqn (s1)) ?_ | with_reducible refine Eq.mpr (DL.wp_ofOs (s1)) ?_ | with_reducible refine Eq.mpr (DL.wp_eqn (d1)) ?_ | with_reducible refine Eq.mpr (DL.wp_ofOs (d1)) ?_ | walk_at "ev1")
  rfl
abbrev usedD (st : Nat → Option Tab) (n j : Nat) : D := .tup [optT (st j), .int (upn n (wd st j) : Nat), .int (wd st j : Nat)]
theorem upn_le {n w : Nat} (hw : 1 ≤ w) (hn : 1 ≤ n) : upn n w ≤ n := by
  unfold upn
  refine Nat.div_le_of_le_mul ?_
  obtain ⟨q, rfl⟩ : ∃ q, w = q + 1 := ⟨w - 1, by omega⟩
  obtain ⟨m, rfl⟩ : ∃ m, n = m + 1 := ⟨n - 1, by omega⟩
  rw [Nat.mul_succ, Nat.succ_mul]
  omega
theorem stages_used_ok {ts : List Tab} {e : PEnd} (he : e.ok) (hg : Sg (stg ts e)) {n J : Nat} (hn1 : 1 ≤ n) (hn : n ≤ 200) (s : Stop (stg ts e) n J) :
    F_stages_used [plD ts e, .int (n : Nat)] = .ok (.tup [.lst ((List.range J).map (usedD (stg ts e) n)), .int (upn n (wd (stg ts e) J) : Nat), .int (wd (stg ts e) J : Nat)]) () := by
  have hJ := s.le
  generalize hst : stg ts e = st at *
  have hps : ∀ k, k ≤ 100 → F_Plan_stage [plD ts e, .int (k : Nat)] = .ok (optT (st k)) () := fun k hk => by
    rw [← hst]; exact plan_stage_ok ts e he k (by omega)
  apply R.wp.equ
  unfold F_stages_used B_stages_used
  have hs0 : startT 6 ([plD ts e, D.int (n : Nat)].map Cell.d) = [some (.d (plD ts e)), some (.d (.int (n : Nat))), none, none, none, none] := rfl
  rw [hs0]
  have hlk : List.lookup ("stage" : Str) ((["_tables", "_end"] : List Str).zip [D.tup (ts.map tb), endD e]) = none := by kernel_rfl
  refine Eq.mpr wp_nox ?_
  refine Eq.mpr wp_runS ?_
  refine Eq.mpr sw_seq ?_
  refine sw.mono (P := fun f _ => f = .nx [some (.d (plD ts e)), some (.d (.int (n : Nat))), some (.ow .L []), none, none, none]) (by
    repeat walk_at "ev1"
    rfl) ?_
  rintro f _ rfl
  refine Eq.mpr sw_seq ?_
  refine sw.mono (P := fun f _ => f = .nx [some (.d (plD ts e)), some (.d (.int (n : Nat))), some (.ow .L []), some (.d (.int (n : Nat))), none, none]) (by
    repeat walk_at "ev1"
    rfl) ?_
  rintro f _ rfl
  refine Eq.mpr sw_seq ?_
  refine sw.mono (P := fun f _ => f = .nx [some (.d (plD ts e)), some (.d (.int (n : Nat))), some (.ow .L []), some (.d (.int (n : Nat))), some (.d (.int ((1 : Nat) : Int))), none]) (by
    repeat walk_at "ev1"
    rfl) ?_
  rintro f _ rfl
  refine Eq.mpr sw_seq ?_
  refine sw.mono (P := fun f _ => f = .nx [some (.d (plD ts e)), some (.d (.int (n : Nat))), some (.ow .L []), some (.d (.int (n : Nat))), some (.d (.int ((1 : Nat) : Int))), some (.d (optT (st 0)))]) (by
    refine Eq.mpr sw_asgN ?_
    refine Eq.mpr wp_cM ?_
    repeat walk_at "ev1"
    refine ⟨_, _, rfl, hlk, ?_⟩
    have h0 : F_Plan_stage [plD ts e, .int 0] = .ok (optT (st 0)) () := hps 0 (by omega)
    repeat (first | with_reducible refine Eq.mpr (DL.wp_eqn (h0)) ?_ | with_reducible refine Eq.mpr (DL.wp_ofOs (h0)) ?_ | walk_at "ev1")
    rfl) ?_
  rintro f _ rfl
  refine Eq.mpr sw_seq ?_
  refine sw.mono (P := fun f _ => f = .nx [some (.d (plD ts e)), some (.d (.int (n : Nat))), some (.ow .L ((List.range J).map (usedD st n))), some (.d (.int (upn n (wd st J) : Nat))), some (.d (.int (wd st J : Nat))), some (.d (optT (st J)))]) (while_inv (fun m τ _ => ∃ j : Nat, j ≤ J ∧ m = 100 - j ∧ τ = [some (.d (plD ts e)), some (.d (.int (n : Nat))), some (.ow .L ((List.range j).map (usedD st n))), some (.d (.int (upn n (wd st j) : Nat))), some (.d (.int (wd st j : Nat))), some (.d (optT (st j)))]) ⟨0, by omega, rfl, by rw [show wd st 0 = 1 from rfl, upn_one]; rfl⟩ ?_) ?_
  · rintro m τ ω ⟨j, hj, rfl, rfl⟩
    refine ⟨by omega, ?_⟩
    have hno := nin_opt (st j)
    by_cases hc : Cnd st n j
    · have hjJ : j < J := by
        rcases Nat.lt_or_ge j J with l | l
        · exact l
        · exact absurd hc (by rw [show j = J by omega]; exact s.no)
      obtain ⟨t, ht⟩ : ∃ t, st j = some t := by
        cases q : st j with
        | none => exact absurd q hc.2
        | some t => exact ⟨t, rfl⟩
      have h2 := hg.two j t ht
      have hpos := hg.pos j
      have hwl := s.wd_lt hg hjJ
      have ets : F_table_size [optT (st j)] = .ok (.int (bsz t : Nat)) () := by rw [ht]; exact table_size_ok t
      have hul := upn_le hpos hn1
      have er := rounded_ok (upn n (wd st j)) (bsz t) (by omega) (by omega) (by omega)
      have hsz : szS (st j) = bsz t := by rw [ht]; rfl
      rw [upn_mul hpos (by omega) hn1, ← hsz] at er
      have er' : F_rounded_up [.int (upn n (wd st j) : Nat), .int (bsz t : Nat)] = .ok (.int (upn n (wd st (j + 1)) : Nat)) () := by rw [hsz] at er; rw [show wd st (j + 1) = wd st j * szS (st j) from rfl, hsz]; exact er
      have em : mulD (.int (wd st j : Nat)) (.int (bsz t : Nat)) = some (.int (wd st (j + 1) : Nat)) := by
        have := mulN (wd st j) (bsz t) (by omega)
        rw [show wd st (j + 1) = wd st j * szS (st j) from rfl, hsz]; exact this
      have hlen : ((List.range j).map (usedD st n) ++ [usedD st n j]).length = j + 1 := by simp
      have hp1 : F_Plan_stage [plD ts e, .int (((List.range j).map (usedD st n) ++ [usedD st n j]).length : Nat)] = .ok (optT (st (j + 1))) () := by rw [hlen]; exact hps (j + 1) (by omega)
      repeat walk_at "ev1"
      refine iteP (decide_eq_true (by have := hc.1; omega)) ?_
      rw [decide_eq_true hc.2] at hno
      repeat (first | with_reducible refine Eq.mpr (DL.wp_eqn (hno)) ?_ | with_reducible refine Eq.mpr (DL.wp_ofOs (hno)) ?_ | with_reducible refine Eq.mpr (DL.wp_eqn (ets)) ?_ | with_reducible refine Eq.mpr (DL.wp_ofOs (ets)) ?_ | with_reducible refine Eq.mpr (DL.wp_eqn (er')) ?_ | with_reducible refine Eq.mpr (DL.wp_ofOs (er')) ?_ | with_reducible refine Eq.mpr (DL.wp_eqn (em)) ?_ | with_reducible refine Eq.mpr (DL.wp_ofOs (em)) ?_ | walk_at "ev1")
      · refine Eq.mpr wp_cM ?_
        repeat walk_at "ev1"
        refine ⟨_, _, rfl, hlk, ?_⟩
        repeat (first | with_reducible refine Eq.mpr (DL.wp_eqn (hp1)) ?_ | with_reducible refine Eq.mpr (DL.wp_ofOs (hp1)) ?_ | walk_at "ev1")
        refine ⟨j + 1, by omega, by omega, ?_⟩
        rw [List.range_succ, List.map_append]
        rfl
      · simp; omega
    · have hjJ : j = J := by
        rcases Nat.lt_or_ge j J with l | l
        · exact absurd (s.go j l) hc
        · omega
      subst hjJ
      repeat walk_at "ev1"
      by_cases h1 : 1 < upn n (wd st j)
      · refine iteP (decide_eq_true (by omega)) ?_
        have h2 : ¬ st j ≠ none := fun h => hc ⟨h1, h⟩
        rw [decide_eq_false h2] at hno
        repeat (first | with_reducible refine Eq.mpr (DL.wp_eqn (hno)) ?_ | with_reducible refine Eq.mpr (DL.wp_ofOs (hno)) ?_ | walk_at "ev1")
        rfl
      · refine iteN (by rw [decide_eq_true_eq]; omega) ?_
        repeat walk_at "ev1"
        rfl
  · rintro f _ rfl
    refine Eq.mpr (sw_preLL rfl) ?_
    repeat walk_at "ev1"
    rfl
theorem tables_used_ok {ts : List Tab} {e : PEnd} (he : e.ok) (hg : Sg (stg ts e)) {n J : Nat} (hn1 : 1 ≤ n) (hn : n ≤ 200) (s : Stop (stg ts e) n J) :
    F_tables_used [plD ts e, .int (n : Nat)] = .ok (.lst ((List.range J).map fun j => optT (stg ts e j))) () := by
  have hJ := s.le
  apply R.wp.equ
  unfold F_tables_used B_tables_used
  have hs0 : startT 5 ([plD ts e, D.int (n : Nat)].map Cell.d) = [some (.d (plD ts e)), some (.d (.int (n : Nat))), none, none, none] := rfl
  rw [hs0]
  have h1 := stages_used_ok he hg hn1 hn s
  generalize stg ts e = st at *
  refine Eq.mpr wp_nox ?_
  refine Eq.mpr wp_runS ?_
  refine Eq.mpr sw_seq ?_
  refine sw.mono (P := fun f _ => f = .nx [some (.d (plD ts e)), some (.d (.int (n : Nat))), some (.d (.lst ((List.range J).map (usedD st n)))), some (.d (.int (wd st J : Nat))), none]) (by
    refine sw_asgI ?_
    repeat (first | with_reducible refine Eq.mpr (DL.wp_eqn (h1)) ?_ | with_reducible refine Eq.mpr (DL.wp_ofOs (h1)) ?_ | walk_at "ev1")
    rfl) ?_
  rintro f _ rfl
  repeat walk_at "ev1"
  refine ⟨by rw [List.length_map, List.length_range]; have := sizeLine_eq; omega, ?_⟩
  refine lc_all (usedD st n) (List.range J) (fun j => optT (st j)) (fun j hj => ⟨_, rfl, ?_⟩) ?_
  · repeat walk_at "ev1"
    exact ⟨rfl, rfl⟩
  · rfl
theorem w_sh : ∀ s : Sh, s.py.weight + 2 ≤ 2 * s.size
  | .o => by simp [Sh.py, PyData.weight, PyData.weightAll, Sh.size]
  | .n l r => by
    have h1 := w_sh l
    have h2 := w_sh r
    simp only [Sh.py, PyData.weight, PyData.weightAll, Sh.size]
    omega
theorem w_all {α : Type} (f : α → PyData) (b : Nat) : ∀ xs : List α, (∀ x ∈ xs, (f x).weight ≤ b) → PyData.weightAll (xs.map f) ≤ xs.length * (b + 1)
  | [], _ => by simp [PyData.weightAll]
  | x :: xs, h => by
    have h1 := h x (List.mem_cons_self ..)
    have h2 := w_all f b xs fun y hy => h y (List.mem_cons_of_mem _ hy)
    simp only [List.map_cons, PyData.weightAll, List.length_cons]
    rw [Nat.succ_mul]
    omega
theorem w_tab {t : Tab} (hw : WT t) (hz : bsz t ≤ 16) : (Enc.py t).weight ≤ 2000 := by
  show PyData.weight (.tuple (t.map Sh.py)) ≤ _
  simp only [PyData.weight]
  have h := w_all Sh.py 64 t fun s hs => by
    obtain ⟨i, hi, e⟩ := List.mem_iff_getElem.mp hs
    have h1 := hw.2 i s (by rw [List.getElem?_eq_getElem hi, e])
    have h2 := w_sh s
    unfold bsz at hz
    omega
  have : t.length * (64 + 1) ≤ 16 * (64 + 1) := Nat.mul_le_mul_right _ (by unfold bsz at hz; omega)
  omega
theorem inT_side (b : Bool) : inTD (sideS b) (.tup [.str "left", .str "right"]) = some (.bl true) := by cases b <;> kernel_rfl
theorem inT_rnd {rs : List Tab} (h : GT rs) (hl : rs.length ≤ 20) : inTD (.tup (rs.map tb)) (.tup [.str "left", .str "right"]) = some (.bl false) := by
  have e1 : (D.tup (rs.map tb)).py = some (.tuple (rs.map Enc.py)) := Enc.e1 rs
  have e2 : (D.tup [.str "left", .str "right"]).py = some (.tuple [.str "left", .str "right"]) := by kernel_rfl
  have l : (PyData.tuple (rs.map Enc.py)).canLay0 = true := Enc.e3 rs
  have hd : (PyData.tuple (rs.map Enc.py)).depth ≤ 64 := by
    have h1 : (PyData.tuple (rs.map Enc.py)).depth ≤ depL rs + 1 := Enc.e4 rs
    have h2 : depL rs ≤ 20 := depL_le fun t ht => by
      have := dep_tab (h t ht).1
      have := (h t ht).2
      omega
    omega
  have hw : (PyData.tuple (rs.map Enc.py)).weight ≤ 2 ^ 20 := by
    simp only [PyData.weight]
    have h1 : PyData.weightAll (rs.map Enc.py) ≤ rs.length * (2000 + 1) := w_all (Enc.py (α := Tab)) 2000 rs fun t ht => w_tab (h t ht).1 (h t ht).2
    have h2 : rs.length * (2000 + 1) ≤ 20 * (2000 + 1) := Nat.mul_le_mul_right _ hl
    omega
  have ly : (PyData.tuple (rs.map Enc.py)).layable0 = true := by
    unfold PyData.layable0
    rw [l, decide_eq_true hd, decide_eq_true hw]
    rfl
  unfold inTD
  rw [e1, e2]
  dsimp only
  rw [if_pos ⟨by kernel_rfl, ly, by simp [SeqAt.noMix]⟩]
  kernel_rfl
abbrev wD (ts : List Tab) (e : PEnd) : D := .dic [.inr "tables", .inr "end", .inr "plan"] [.tup (ts.map tb), endD e, plD ts e]
theorem dg1 (a b p : D) (c : Option Cell) : (eDgK (pK 0) (eC (.str "tables")) : E Unit D) [some (.d (.dic [.inr "tables", .inr "end", .inr "plan"] [a, b, p])), c] () = .ok a () := by kernel_rfl
theorem dg2 (a b p : D) (c : Option Cell) : (eDgK (pK 0) (eC (.str "end")) : E Unit D) [some (.d (.dic [.inr "tables", .inr "end", .inr "plan"] [a, b, p])), c] () = .ok b () := by kernel_rfl
theorem law_stage_ok (ts : List Tab) (e : PEnd) (he : e.ok) (k : Nat) (hk : k ≤ 10000) : F_law_stage [wD ts e, .int (k : Nat)] = .ok (optT (stg ts e k)) () := by
  apply R.wp.equ
  unfold F_law_stage B_law_stage
  have hs0 : startT 2 ([wD ts e, D.int (k : Nat)].map Cell.d) = [some (.d (wD ts e)), some (.d (.int (k : Nat)))] := rfl
  rw [hs0]
  have f1 := dg1 (.tup (ts.map tb)) (endD e) (plD ts e) (some (.d (.int (k : Nat))))
  have f2 := dg2 (.tup (ts.map tb)) (endD e) (plD ts e) (some (.d (.int (k : Nat))))
  have hl := len_tp ts
  repeat (first | with_reducible refine Eq.mpr (DL.wp_eqn (f1)) ?_ | with_reducible refine Eq.mpr (DL.wp_ofOs (f1)) ?_ | with_reducible refine Eq.mpr (DL.wp_eqn (hl)) ?_ | with_reducible refine Eq.mpr (DL.wp_ofOs (hl)) ?_ | walk_at "ev1")
  by_cases h : k < ts.length
  · refine iteP (decide_eq_true (Int.ofNat_lt.mpr h)) ?_
    have hx := ix_tp (List.getElem?_eq_getElem h)
    repeat (first | with_reducible refine Eq.mpr (DL.wp_eqn (f1)) ?_ | with_reducible refine Eq.mpr (DL.wp_ofOs (f1)) ?_ | with_reducible refine Eq.mpr (DL.wp_eqn (hx)) ?_ | with_reducible refine Eq.mpr (DL.wp_ofOs (hx)) ?_ | walk_at "ev1")
    unfold stg
    rw [if_pos h, List.getElem?_eq_getElem h]
    rfl
  · refine iteN (by rw [decide_eq_true_eq]; omega) ?_
    cases e with
    | side b =>
      have hs : inTD (endD (.side b)) (.tup [.str "left", .str "right"]) = some (.bl true) := inT_side b
      repeat (first | with_reducible refine Eq.mpr (DL.wp_eqn (f2)) ?_ | with_reducible refine Eq.mpr (DL.wp_ofOs (f2)) ?_ | with_reducible refine Eq.mpr (DL.wp_eqn (hs)) ?_ | with_reducible refine Eq.mpr (DL.wp_ofOs (hs)) ?_ | walk_at "ev1")
      unfold stg
      rw [if_neg h]
      rfl
    | rnd rs =>
      have hp := List.length_pos_iff.mpr he.1
      have hs : inTD (endD (.rnd rs)) (.tup [.str "left", .str "right"]) = some (.bl false) := inT_rnd he.2.2 he.2.1
      have s1 := subN k ts.length (by omega)
      have l2 : un1 lenD [endD (.rnd rs)] = some (.int (rs.length : Nat)) := len_tp rs
      have m1 := modN (k - ts.length) rs.length hp
      have hlt : (k - ts.length) % rs.length < rs.length := Nat.mod_lt _ hp
      have hx : ixD (endD (.rnd rs)) (.int ((k - ts.length) % rs.length : Nat)) = some (tb rs[(k - ts.length) % rs.length]) := ix_tp (List.getElem?_eq_getElem hlt)
      have hi : un1 intD [.int ((k - ts.length : Nat) : Int)] = some (.int ((k - ts.length : Nat) : Int)) := rfl
      repeat (first | with_reducible refine Eq.mpr (DL.wp_eqn (f2)) ?_ | with_reducible refine Eq.mpr (DL.wp_ofOs (f2)) ?_ | with_reducible refine Eq.mpr (DL.wp_eqn (hs)) ?_ | with_reducible refine Eq.mpr (DL.wp_ofOs (hs)) ?_ | with_reducible refine Eq.mpr (DL.wp_eqn (f1)) ?_ | with_reducible refine Eq.mpr (DL.wp_ofOs (f1)) ?_ | with_reducible refine Eq.mpr (DL.wp_eqn (hl)) ?_ | with_reducible refine Eq.mpr (DL.wp_ofOs (hl)) ?_ | with_reducible refine Eq.mpr (DL.wp_eqn (s1)) ?_ | with_reducible refine Eq.mpr (DL.wp_ofOs (s1)) ?_ | with_reducible refine Eq.mpr (DL.wp_eqn (hi)) ?_ | with_reducible refine Eq.mpr (DL.wp_ofOs (hi)) ?_ | with_reducible refine Eq.mpr (DL.wp_eqn (l2)) ?_ | with_reducible refine Eq.mpr (DL.wp_ofOs (l2)) ?_ | with_reducible refine Eq.mpr (DL.wp_eqn (m1)) ?_ | with_reducible refine Eq.mpr (DL.wp_ofOs (m1)) ?_ | with_reducible refine Eq.mpr (DL.wp_eqn (hx)) ?_ | with_reducible refine Eq.mpr (DL.wp_ofOs (hx)) ?_ | walk_at "ev1")
      unfold stg
      rw [if_neg h]
      show _ = optT rs[(k - ts.length) % rs.length]?
      rw [List.getElem?_eq_getElem hlt]
      rfl
theorem stP_len (n w : Nat) : (stP n w).length = upn n w := by unfold stP; rw [List.length_map, List.length_range]; rfl
theorem st_get {n w i : Nat} (hi : i < upn n w) : (stP n w)[i]? = some (i * w, min (i * w + w) n) := by
  unfold stP
  have hi' : i < (n + w - 1) / w := hi
  rw [List.getElem?_map, List.getElem?_range hi']
  rfl
abbrev rowP (n w : Nat) : D := .lst ((stP n w).map pD)
theorem len_rowP (n w : Nat) : un1 lenD [rowP n w] = some (.int (upn n w : Nat)) := by
  show some (D.int (((stP n w).map pD).length : Nat)) = _
  rw [List.length_map, stP_len]
theorem ix_rowP {n w i : Nat} (hi : i < upn n w) : ixD (rowP n w) (.int (i : Nat)) = some (pD (i * w, min (i * w + w) n)) := ix_lst (k := i) rfl (by rw [List.getElem?_map, st_get hi]; rfl)
theorem upn_ge {n w : Nat} (hw : 1 ≤ w) : n ≤ upn n w * w := by
  unfold upn
  have h := Nat.div_add_mod (n + w - 1) w
  have h2 := Nat.mod_lt (n + w - 1) (show 0 < w by omega)
  rw [Nat.mul_comm] at h
  omega
theorem row_step {n w s q : Nat} (hw : 1 ≤ w) (hs : 1 ≤ s) (hq : q * s < upn n w) : q * s * w = q * (w * s) ∧ min ((min (q * s + s) (upn n w) - 1) * w + w) n = min (q * (w * s) + w * s) n := by
  have e1 : q * s * w = q * (w * s) := by rw [Nat.mul_assoc, Nat.mul_comm s w]
  refine ⟨e1, ?_⟩
  have hM : 1 ≤ min (q * s + s) (upn n w) := by omega
  obtain ⟨M, hM2⟩ : ∃ M, min (q * s + s) (upn n w) = M + 1 := ⟨min (q * s + s) (upn n w) - 1, by omega⟩
  rw [hM2, Nat.add_sub_cancel]
  have e2 : M * w + w = min ((q * s + s) * w) (upn n w * w) := by
    rw [Nat.mul_min_mul_right, hM2, Nat.succ_mul]
  rw [e2, Nat.add_mul, e1, Nat.mul_comm s w]
  have := upn_ge (n := n) hw
  omega
theorem law_rows_ok {ts : List Tab} {e : PEnd} (he : e.ok) (hg : Sg (stg ts e)) {n J : Nat} (hn1 : 1 ≤ n) (hn : n ≤ 200) (s : Stop (stg ts e) n J) :
    F_law_rows [wD ts e, .int (n : Nat)] = .ok (.lst ((List.range (J + 1)).map fun j => rowP n (wd (stg ts e) j))) () := by
  have hJ := s.le
  have hps : ∀ k, k ≤ 100 → F_law_stage [wD ts e, .int (k : Nat)] = .ok (optT (stg ts e k)) () := fun k hk => law_stage_ok ts e he k (by omega)
  have hwl := s.wd_le hg hn
  generalize hst : stg ts e = st at *
  generalize hR : (fun j => rowP n (wd st j)) = RW at *
  have hRj : ∀ j, RW j = rowP n (wd st j) := fun j => by rw [← hR]
  apply R.wp.equ
  unfold F_law_rows B_law_rows
  generalize hwd : wD ts e = W at *
  have hs0 : startT 6 ([W, D.int (n : Nat)].map Cell.d) = [some (.d W), some (.d (.int (n : Nat))), none, none, none, none] := rfl
  rw [hs0]
  have hrn : rg1 [.int (n : Nat)] = some (rangeL 0 1 n) := rg1_nat n (by omega)
  refine Eq.mpr wp_nox ?_
  refine Eq.mpr wp_runS ?_
  refine Eq.mpr sw_seq ?_
  refine sw.mono (P := fun f _ => f = .nx [some (.d W), some (.d (.int (n : Nat))), some (.ow .L [rowP n 1]), none, none, none]) (by
    repeat (first | with_reducible refine Eq.mpr (DL.wp_eqn (hrn)) ?_ | with_reducible refine Eq.mpr (DL.wp_ofOs (hrn)) ?_ | walk_at "ev1")
    refine ⟨by rw [rangeL_len]; have := sizeLine_eq; omega, lc_map (fun i => pD (i * 1, min (i * 1 + 1) n)) (fun i d hd => ?_) ?_⟩
    · obtain ⟨rfl, hi⟩ := rangeL_get _ _ _ _ _ hd
      refine ⟨_, rfl, ?_⟩
      repeat walk_at "ev1"
      refine ⟨?_, rfl⟩
      show D.tup [.int _, .int _] = D.tup [.int _, .int _]
      rw [show ((0 : Int) + (i : Int) * 1) = ((i * 1 : Nat) : Int) by omega, show ((i * 1 : Nat) : Int) + 1 = ((min (i * 1 + 1) n : Nat) : Int) by omega]
    · rw [rangeL_len]
      repeat walk_at "ev1"
      have e1 : rowP n 1 = .lst ((List.range n).map fun i => pD (i * 1, min (i * 1 + 1) n)) := by
        show D.lst ((stP n 1).map pD) = _
        unfold stP
        rw [List.map_map, show (n + 1 - 1) / 1 = n by rw [Nat.div_one]; omega]
        rfl
      rw [e1]
      rfl) ?_
  rintro f _ rfl
  refine Eq.mpr sw_seq ?_
  refine sw.mono (P := fun f _ => ∃ c3 c4 c5, f = .nx [some (.d W), some (.d (.int (n : Nat))), some (.ow .L ((List.range (J + 1)).map RW)), c3, c4, c5]) (while_inv (fun m τ _ => ∃ j : Nat, j ≤ J ∧ m = 100 - j ∧ ∃ c3 c4 c5, τ = [some (.d W), some (.d (.int (n : Nat))), some (.ow .L ((List.range (j + 1)).map RW)), c3, c4, c5]) ⟨0, by omega, rfl, none, none, none, by
      rw [show (List.range (0 + 1)).map RW = [rowP n 1] by show [RW 0] = _; rw [hRj]; rfl]⟩ ?_) ?_
  · rintro m τ ω ⟨j, hj, rfl, c3, c4, c5, rfl⟩
    refine ⟨by omega, ?_⟩
    have hno := nin_opt (st j)
    have hneg : negD (.int 1) = some (.int (-1)) := rfl
    have hix : ixD (.lst ((List.range (j + 1)).map RW)) (.int (-1)) = some (rowP n (wd st j)) := by
      rw [List.range_succ, List.map_append, ← hRj]
      exact atI_last
    have hlr := len_rowP n (wd st j)
    have s1 : subD (.int (((List.range (j + 1)).map RW).length : Nat)) (.int 1) = some (.int (j : Nat)) := by
      rw [List.length_map, List.length_range]; exact subN (j + 1) 1 (by omega)
    have hp := hps j (by omega)
    by_cases hc : Cnd st n j
    · have hjJ : j < J := by
        rcases Nat.lt_or_ge j J with l | l
        · exact l
        · exact absurd hc (by rw [show j = J by omega]; exact s.no)
      obtain ⟨t, ht⟩ : ∃ t, st j = some t := by
        cases q : st j with
        | none => exact absurd q hc.2
        | some t => exact ⟨t, rfl⟩
      have h2 := hg.two j t ht
      have hpos := hg.pos j
      have hwn := s.wd_lt hg hjJ
      have hul := upn_le hpos hn1
      have hsz : szS (st j) = bsz t := by rw [ht]; rfl
      have hwd1 : wd st (j + 1) = wd st j * bsz t := by show wd st j * szS (st j) = _; rw [hsz]
      have lt : un1 lenD [optT (st j)] = some (.int (t.length : Nat)) := by
        rw [ht]
        show some (D.int ((t.map Sh.enc).length : Nat)) = _
        rw [List.length_map]
      have a1 : addD (.int (t.length : Nat)) (.int 1) = some (.int (bsz t : Nat)) := addN t.length 1
      have hrg := rg3_nat (upn n (wd st j)) (bsz t) (by omega) (by omega) (by omega)
      repeat (first | with_reducible refine Eq.mpr (DL.wp_eqn (hneg)) ?_ | with_reducible refine Eq.mpr (DL.wp_ofOs (hneg)) ?_ | with_reducible refine Eq.mpr (DL.wp_eqn (hix)) ?_ | with_reducible refine Eq.mpr (DL.wp_ofOs (hix)) ?_ | with_reducible refine Eq.mpr (DL.wp_eqn (hlr)) ?_ | with_reducible refine Eq.mpr (DL.wp_ofOs (hlr)) ?_ | walk_at "ev1")
      refine iteP (decide_eq_true (by have := hc.1; omega)) ?_
      rw [decide_eq_true hc.2] at hno
      refine R.wp.mono (P := fun b _ => b = true) (X := X0) (by
        repeat (first | with_reducible refine Eq.mpr (DL.wp_eqn (s1)) ?_ | with_reducible refine Eq.mpr (DL.wp_ofOs (s1)) ?_ | with_reducible refine Eq.mpr (DL.wp_eqn (hp)) ?_ | with_reducible refine Eq.mpr (DL.wp_ofOs (hp)) ?_ | with_reducible refine Eq.mpr (DL.wp_eqn (hno)) ?_ | with_reducible refine Eq.mpr (DL.wp_ofOs (hno)) ?_ | walk_at "ev1")
        rfl) (fun b ω' hb => ?_) (fun _ _ h => h.elim)
      subst hb
      refine iteP rfl ?_
      refine Eq.mpr sw_seq ?_
      refine sw.mono (P := fun f _ => f = .nx [some (.d W), some (.d (.int (n : Nat))), some (.ow .L ((List.range (j + 1)).map RW)), some (.d (rowP n (wd st j))), some (.d (.int (bsz t : Nat))), c5]) (by
        refine sw_asgI ?_
        repeat (first | with_reducible refine Eq.mpr (DL.wp_eqn (hneg)) ?_ | with_reducible refine Eq.mpr (DL.wp_ofOs (hneg)) ?_ | with_reducible refine Eq.mpr (DL.wp_eqn (hix)) ?_ | with_reducible refine Eq.mpr (DL.wp_ofOs (hix)) ?_ | with_reducible refine Eq.mpr (DL.wp_eqn (s1)) ?_ | with_reducible refine Eq.mpr (DL.wp_ofOs (s1)) ?_ | with_reducible refine Eq.mpr (DL.wp_eqn (hp)) ?_ | with_reducible refine Eq.mpr (DL.wp_ofOs (hp)) ?_ | with_reducible refine Eq.mpr (DL.wp_eqn (lt)) ?_ | with_reducible refine Eq.mpr (DL.wp_ofOs (lt)) ?_ | with_reducible refine Eq.mpr (DL.wp_eqn (a1)) ?_ | with_reducible refine Eq.mpr (DL.wp_ofOs (a1)) ?_ | walk_at "ev1")
        rfl) ?_
      rintro f _ rfl
      repeat (first | with_reducible refine Eq.mpr (DL.wp_eqn (hlr)) ?_ | with_reducible refine Eq.mpr (DL.wp_ofOs (hlr)) ?_ | with_reducible refine Eq.mpr (DL.wp_eqn (hrg)) ?_ | with_reducible refine Eq.mpr (DL.wp_ofOs (hrg)) ?_ | walk_at "ev1")
      · refine ⟨?_, lc_map (fun q => pD (q * wd st (j + 1), min (q * wd st (j + 1) + wd st (j + 1)) n)) (fun q d hd => ?_) ?_⟩
        · rw [rangeL_len]
          have h3 : (upn n (wd st j) + bsz t - 1) / bsz t ≤ upn n (wd st j) + bsz t - 1 := Nat.div_le_self _ _
          have := sizeLine_eq
          omega
        · obtain ⟨rfl, hq⟩ := rangeL_get _ _ _ _ _ hd
          refine ⟨_, rfl, ?_⟩
          have hqs : q * bsz t < upn n (wd st j) := up_lt (by omega) hq
          have ei : ((0 : Int) + (q : Int) * ((bsz t : Nat) : Int)) = ((q * bsz t : Nat) : Int) := by push_cast; omega
          rw [ei]
          obtain ⟨r1, r2⟩ := row_step hpos (show 1 ≤ bsz t by omega) hqs
          have ix1 := ix_rowP hqs
          have a2 := addN (q * bsz t) (bsz t)
          have mn : bi2 min2D [.int ((q * bsz t + bsz t : Nat) : Int), .int (upn n (wd st j) : Nat)] = some (.int (min (q * bsz t + bsz t) (upn n (wd st j)) : Nat)) := min2N _ _
          have s2 : subD (.int (min (q * bsz t + bsz t) (upn n (wd st j)) : Nat)) (.int 1) = some (.int ((min (q * bsz t + bsz t) (upn n (wd st j)) - 1 : Nat) : Int)) := subN _ 1 (by omega)
          have ix2 := ix_rowP (n := n) (w := wd st j) (i := min (q * bsz t + bsz t) (upn n (wd st j)) - 1) (by omega)
          have p0 : ∀ p : Nat × Nat, ixD (pD p) (.int 0) = some (.int (p.1 : Nat)) := fun p => rfl
          have p1 : ∀ p : Nat × Nat, ixD (pD p) (.int 1) = some (.int (p.2 : Nat)) := fun p => rfl
          repeat (first | with_reducible refine Eq.mpr (DL.wp_eqn (ix1)) ?_ | with_reducible refine Eq.mpr (DL.wp_ofOs (ix1)) ?_ | with_reducible refine Eq.mpr (DL.wp_eqn (p0 _)) ?_ | with_reducible refine Eq.mpr (DL.wp_ofOs (p0 _)) ?_ | with_reducible refine Eq.mpr (DL.wp_eqn (hlr)) ?_ | with_reducible refine Eq.mpr (DL.wp_ofOs (hlr)) ?_ | with_reducible refine Eq.mpr (DL.wp_eqn (a2)) ?_ | with_reducible refine Eq.mpr (DL.wp_ofOs (a2)) ?_ | with_reducible refine Eq.mpr (DL.wp_eqn (mn)) ?_ | with_reducible refine Eq.mpr (DL.wp_ofOs (mn)) ?_ | with_reducible refine Eq.mpr (DL.wp_eqn (s2)) ?_ | with_reducible refine Eq.mpr (DL.wp_ofOs (s2)) ?_ | with_reducible refine Eq.mpr (DL.wp_eqn (ix2)) ?_ | with_reducible refine Eq.mpr (DL.wp_ofOs (ix2)) ?_ | with_reducible refine Eq.mpr (DL.wp_eqn (p1 _)) ?_ | with_reducible refine Eq.mpr (DL.wp_ofOs (p1 _)) ?_ | walk_at "ev1")
          refine ⟨?_, rfl⟩
          show D.tup [.int _, .int _] = D.tup [.int _, .int _]
          rw [r2, r1, hwd1]
        · rw [rangeL_len]
          repeat walk_at "ev1"
          refine ⟨j + 1, by omega, by omega, some (.d (rowP n (wd st j))), some (.d (.int (bsz t : Nat))), c5, ?_⟩
          have e1 : RW (j + 1) = .lst ((List.range ((upn n (wd st j) + bsz t - 1) / bsz t)).map fun q => pD (q * wd st (j + 1), min (q * wd st (j + 1) + wd st (j + 1)) n)) := by
            rw [hRj]
            show D.lst ((stP n (wd st (j + 1))).map pD) = _
            unfold stP
            rw [List.map_map, upn_mul hpos (by omega) hn1, ← hwd1]
            rfl
          rw [List.range_succ (n := j + 1), List.map_append, List.map_singleton, e1]
          rfl
      · simp; omega
    · have hjJ : j = J := by
        rcases Nat.lt_or_ge j J with l | l
        · exact absurd (s.go j l) hc
        · omega
      subst hjJ
      repeat (first | with_reducible refine Eq.mpr (DL.wp_eqn (hneg)) ?_ | with_reducible refine Eq.mpr (DL.wp_ofOs (hneg)) ?_ | with_reducible refine Eq.mpr (DL.wp_eqn (hix)) ?_ | with_reducible refine Eq.mpr (DL.wp_ofOs (hix)) ?_ | with_reducible refine Eq.mpr (DL.wp_eqn (hlr)) ?_ | with_reducible refine Eq.mpr (DL.wp_ofOs (hlr)) ?_ | walk_at "ev1")
      by_cases h1 : 1 < upn n (wd st j)
      · refine iteP (decide_eq_true (by omega)) ?_
        have h2 : ¬ st j ≠ none := fun h => hc ⟨h1, h⟩
        rw [decide_eq_false h2] at hno
        repeat (first | with_reducible refine Eq.mpr (DL.wp_eqn (s1)) ?_ | with_reducible refine Eq.mpr (DL.wp_ofOs (s1)) ?_ | with_reducible refine Eq.mpr (DL.wp_eqn (hp)) ?_ | with_reducible refine Eq.mpr (DL.wp_ofOs (hp)) ?_ | with_reducible refine Eq.mpr (DL.wp_eqn (hno)) ?_ | with_reducible refine Eq.mpr (DL.wp_ofOs (hno)) ?_ | walk_at "ev1")
        exact ⟨_, _, _, rfl⟩
      · refine iteN (by rw [decide_eq_true_eq]; omega) ?_
        repeat walk_at "ev1"
        exact ⟨_, _, _, rfl⟩
  · rintro f _ ⟨c3, c4, c5, rfl⟩
    repeat walk_at "ev1"
    rfl
theorem law_made_ok (ts : List Tab) (e : PEnd) (h : GT ts) (he : e.ok) : F_law_made [.lst (ts.map tb), endD e] = .ok (wD ts e) () := by
  apply R.wp.equ
  unfold F_law_made B_law_made
  have ht : un1 tupleD [.lst (ts.map tb)] = some (.tup (ts.map tb)) := rfl
  repeat walk_at "ev1"
  refine Eq.mpr wp_eDisp ?_
  repeat (first | with_reducible refine Eq.mpr (DL.wp_eqn (ht)) ?_ | with_reducible refine Eq.mpr (DL.wp_ofOs (ht)) ?_ | walk_at "ev1")
  refine Eq.mpr wp_cI ?_
  repeat (first | with_reducible refine Eq.mpr (DL.wp_eqn (ht)) ?_ | with_reducible refine Eq.mpr (DL.wp_ofOs (ht)) ?_ | with_reducible refine Eq.mpr (DL.wp_eqn (plan_ok ts e h he)) ?_ | with_reducible refine Eq.mpr (DL.wp_ofOs (plan_ok ts e h he)) ?_ | walk_at "ev1")
  refine ⟨rfl, ?_⟩
  repeat walk_at "ev1"
  exact ⟨rfl, rfl⟩
theorem law_table_ok (ω : Src) : ∃ (t : Tab) (ω' : Src), F_law_table [] ω = .ok (tb t) ω' ∧ WT t ∧ bsz t ≤ 16 := by
  suffices h : (F_law_table [] ω).wp (fun d _ => ∃ t : Tab, d = tb t ∧ WT t ∧ bsz t ≤ 16) X0 by
    obtain ⟨d, ω', e, t, rfl, h⟩ := h.ex
    exact ⟨t, ω', e, h⟩
  unfold F_law_table B_law_table
  have hs0 : startT 3 (.src :: ([] : List D).map .d) = [some .src, none, none] := rfl
  rw [hs0]
  obtain ⟨r, ω1, e1', hr⟩ := pick_nat ω 4 (by omega) (by omega)
  have e1 : F_law_pick [.int 4] ω = .ok (.int (r : Nat)) ω1 := e1'
  repeat (first | with_reducible refine Eq.mpr (DL.wp_eqn (e1)) ?_ | with_reducible refine Eq.mpr (DL.wp_ofOs (e1)) ?_ | with_reducible refine Eq.mpr (DL.wp_eqn (eqD_int _ _)) ?_ | with_reducible refine Eq.mpr (DL.wp_ofOs (eqD_int _ _)) ?_ | walk_at "ev1")
  by_cases h0 : r = 0
  · refine iteP (decide_eq_true (by omega)) ?_
    obtain ⟨a, ω2, e2', ha⟩ := pick_nat ω1 2 (by omega) (by omega)
    have e2 : F_law_pick [.int 2] ω1 = .ok (.int (a : Nat)) ω2 := e2'
    have h2 : addD (.int 2) (.int (a : Nat)) = some (.int ((2 + a : Nat) : Int)) := addN 2 a
    obtain ⟨s, ω3, e3, ws, zs⟩ := any_ok (2 + a) ω2 (by omega) (by omega)
    obtain ⟨b, ω4, e4', hb⟩ := pick_nat ω3 2 (by omega) (by omega)
    have e4 : F_law_pick [.int 2] ω3 = .ok (.int (b : Nat)) ω4 := e4'
    have h4 : addD (.int 2) (.int (b : Nat)) = some (.int ((2 + b : Nat) : Int)) := addN 2 b
    obtain ⟨t, ω5, e5, wt, zt⟩ := any_ok (2 + b) ω4 (by omega) (by omega)
    have hm : bsz s * bsz t ≤ 3 * 3 := Nat.mul_le_mul (by omega) (by omega)
    repeat (first | with_reducible refine Eq.mpr (DL.wp_eqn (e2)) ?_ | with_reducible refine Eq.mpr (DL.wp_ofOs (e2)) ?_ | with_reducible refine Eq.mpr (DL.wp_eqn (h2)) ?_ | with_reducible refine Eq.mpr (DL.wp_ofOs (h2)) ?_ | with_reducible refine Eq.mpr (DL.wp_eqn (e3)) ?_ | with_reducible refine Eq.mpr (DL.wp_ofOs (e3)) ?_ | with_reducible refine Eq.mpr (DL.wp_eqn (e4)) ?_ | with_reducible refine Eq.mpr (DL.wp_ofOs (e4)) ?_ | with_reducible refine Eq.mpr (DL.wp_eqn (h4)) ?_ | with_reducible refine Eq.mpr (DL.wp_ofOs (h4)) ?_ | with_reducible refine Eq.mpr (DL.wp_eqn (e5)) ?_ | with_reducible refine Eq.mpr (DL.wp_ofOs (e5)) ?_ | with_reducible refine Eq.mpr (DL.wp_eqn (law_glue_ok s t ws wt (by omega) (by omega) (by omega))) ?_ | with_reducible refine Eq.mpr (DL.wp_ofOs (law_glue_ok s t ws wt (by omega) (by omega) (by omega))) ?_ | walk_at "ev1")
    exact ⟨glu s t, rfl, glu_wt s t ws wt, by rw [glu_len]; omega⟩
  · refine iteN (by rw [decide_eq_true_eq]; omega) ?_
    obtain ⟨d, ω2, e2, hd⟩ := of_ok ω1 [.int 2, .int 2, .int 3, .int 3, .int 4, .int 4, .int 5, .int 6] (by simp) (by simp)
    obtain ⟨m, rfl, m1, m2⟩ : ∃ m : Nat, d = .int (m : Nat) ∧ 2 ≤ m ∧ m ≤ 6 := by
      simp only [List.mem_cons, List.not_mem_nil, or_false] at hd
      rcases hd with h | h | h | h | h | h | h | h <;> subst h
      · exact ⟨2, rfl, by omega, by omega⟩
      · exact ⟨2, rfl, by omega, by omega⟩
      · exact ⟨3, rfl, by omega, by omega⟩
      · exact ⟨3, rfl, by omega, by omega⟩
      · exact ⟨4, rfl, by omega, by omega⟩
      · exact ⟨4, rfl, by omega, by omega⟩
      · exact ⟨5, rfl, by omega, by omega⟩
      · exact ⟨6, rfl, by omega, by omega⟩
    obtain ⟨t, ω3, e3, wt, zt⟩ := any_ok m ω2 (by omega) (by omega)
    repeat (first | with_reducible refine Eq.mpr (DL.wp_eqn (e2)) ?_ | with_reducible refine Eq.mpr (DL.wp_ofOs (e2)) ?_ | with_reducible refine Eq.mpr (DL.wp_eqn (e3)) ?_ | with_reducible refine Eq.mpr (DL.wp_ofOs (e3)) ?_ | walk_at "ev1")
    exact ⟨t, rfl, wt, by omega⟩
theorem GT.snoc {ts : List Tab} {t : Tab} (h : GT ts) (ht : WT t ∧ bsz t ≤ 16) : GT (ts ++ [t]) := fun x hx => by
  rw [List.mem_append] at hx
  rcases hx with hx | hx
  · exact h x hx
  · simp at hx; subst hx; exact ht
theorem GT.nil : GT [] := fun _ h => absurd h (by simp)
theorem law_plan_ok (ω : Src) : ∃ (ts : List Tab) (e : PEnd) (ω' : Src), F_law_plan [] ω = .ok (wD ts e) ω' ∧ GT ts ∧ e.ok ∧ ts.length ≤ 20 := by
  suffices h : (F_law_plan [] ω).wp (fun d _ => ∃ (ts : List Tab) (e : PEnd), d = wD ts e ∧ GT ts ∧ e.ok ∧ ts.length ≤ 20) X0 by
    obtain ⟨d, ω', e, ts, e2, rfl, h⟩ := h.ex
    exact ⟨ts, e2, ω', e, h⟩
  unfold F_law_plan B_law_plan
  have hs0 : startT 5 (.src :: ([] : List D).map .d) = [some .src, none, none, none, none] := rfl
  rw [hs0]
  obtain ⟨d, ω1, e1, hd⟩ := of_ok ω [.int 0, .int 1, .int 1, .int 2, .int 3] (by simp) (by simp)
  obtain ⟨m, rfl, m2⟩ : ∃ m : Nat, d = .int (m : Nat) ∧ m ≤ 3 := by
    simp only [List.mem_cons, List.not_mem_nil, or_false] at hd
    rcases hd with h | h | h | h | h <;> subst h
    · exact ⟨0, rfl, by omega⟩
    · exact ⟨1, rfl, by omega⟩
    · exact ⟨1, rfl, by omega⟩
    · exact ⟨2, rfl, by omega⟩
    · exact ⟨3, rfl, by omega⟩
  have hr1 := rg1_nat m (by omega)
  refine Eq.mpr wp_nox ?_
  refine Eq.mpr wp_runS ?_
  refine Eq.mpr sw_seq ?_
  refine sw.mono (P := fun f _ => ∃ ts : List Tab, GT ts ∧ ts.length ≤ 3 ∧ f = .nx [some .src, some (.d (.lst (ts.map tb))), none, none, none]) (by
    repeat (first | with_reducible refine Eq.mpr (DL.wp_eqn (e1)) ?_ | with_reducible refine Eq.mpr (DL.wp_ofOs (e1)) ?_ | with_reducible refine Eq.mpr (DL.wp_eqn (hr1)) ?_ | with_reducible refine Eq.mpr (DL.wp_ofOs (hr1)) ?_ | walk_at "ev1")
    refine ⟨by rw [rangeL_len]; have := sizeLine_eq; omega, ?_⟩
    refine lc_inv (fun i acc _ => ∃ ts : List Tab, acc = ts.map tb ∧ GT ts ∧ ts.length = i) ⟨[], rfl, .nil, rfl⟩ ?_ ?_
    · rintro i d acc ω2 hd ⟨ts, rfl, h1, h2⟩
      obtain ⟨t, ω3, e3, ht⟩ := law_table_ok ω2
      refine ⟨_, rfl, ?_⟩
      repeat (first | with_reducible refine Eq.mpr (DL.wp_eqn (e3)) ?_ | with_reducible refine Eq.mpr (DL.wp_ofOs (e3)) ?_ | walk_at "ev1")
      exact ⟨ts ++ [t], by simp, h1.snoc ht, by simp [h2]⟩
    · rintro acc ω2 ⟨ts, rfl, h1, h2⟩
      rw [rangeL_len] at h2
      exact ⟨_, rfl, ts, h1, by omega, rfl⟩) ?_
  rintro f ω2 ⟨ts, h1, h2, rfl⟩
  refine Eq.mpr sw_seq ?_
  obtain ⟨d3, ω3, e3, hd3⟩ := of_ok ω2 [.str "left", .str "right", .str "round", .str "round"] (by simp) (by simp)
  obtain ⟨q, ω4, e4', hq⟩ := pick_nat ω3 2 (by omega) (by omega)
  have e4 : F_law_pick [.int 2] ω3 = .ok (.int (q : Nat)) ω4 := e4'
  have a4 : addD (.int 1) (.int (q : Nat)) = some (.int ((1 + q : Nat) : Int)) := addN 1 q
  refine sw.mono (P := fun f ω' => f = .nx [some .src, some (.d (.lst (ts.map tb))), some (.d d3), some (.d (.int (1 + q : Nat))), none] ∧ ω' = ω4) (by
    repeat (first | with_reducible refine Eq.mpr (DL.wp_eqn (e3)) ?_ | with_reducible refine Eq.mpr (DL.wp_ofOs (e3)) ?_ | with_reducible refine Eq.mpr (DL.wp_eqn (e4)) ?_ | with_reducible refine Eq.mpr (DL.wp_ofOs (e4)) ?_ | with_reducible refine Eq.mpr (DL.wp_eqn (a4)) ?_ | with_reducible refine Eq.mpr (DL.wp_ofOs (a4)) ?_ | walk_at "ev1")
    exact ⟨rfl, rfl⟩) ?_
  rintro f ω' ⟨rfl, rfl⟩
  have hb : d3 = sideS true ∨ d3 = sideS false ∨ d3 = .str "round" := by
    simp only [List.mem_cons, List.not_mem_nil, or_false] at hd3
    rcases hd3 with h | h | h | h
    · exact .inl h
    · exact .inr (.inl h)
    · exact .inr (.inr h)
    · exact .inr (.inr h)
  have side : ∀ b : Bool, eqD (sideS b) (.str "round") = some (.bl false) := fun b => by cases b <;> kernel_rfl
  have rnd : eqD (.str "round") (.str "round") = some (.bl true) := by kernel_rfl
  rcases hb with rfl | rfl | rfl
  · have lm : F_law_made [.lst (ts.map tb), sideS true] = .ok (wD ts (.side true)) () := law_made_ok ts (.side true) h1 trivial
    repeat (first | with_reducible refine Eq.mpr (DL.wp_eqn (side true)) ?_ | with_reducible refine Eq.mpr (DL.wp_ofOs (side true)) ?_ | with_reducible refine Eq.mpr (DL.wp_eqn (lm)) ?_ | with_reducible refine Eq.mpr (DL.wp_ofOs (lm)) ?_ | walk_at "ev1")
    exact ⟨ts, .side true, rfl, h1, trivial, by omega⟩
  · have lm : F_law_made [.lst (ts.map tb), sideS false] = .ok (wD ts (.side false)) () := law_made_ok ts (.side false) h1 trivial
    repeat (first | with_reducible refine Eq.mpr (DL.wp_eqn (side false)) ?_ | with_reducible refine Eq.mpr (DL.wp_ofOs (side false)) ?_ | with_reducible refine Eq.mpr (DL.wp_eqn (lm)) ?_ | with_reducible refine Eq.mpr (DL.wp_ofOs (lm)) ?_ | walk_at "ev1")
    exact ⟨ts, .side false, rfl, h1, trivial, by omega⟩
  · have hr := rg1_nat (1 + q) (by omega)
    repeat (first | with_reducible refine Eq.mpr (DL.wp_eqn (rnd)) ?_ | with_reducible refine Eq.mpr (DL.wp_ofOs (rnd)) ?_ | with_reducible refine Eq.mpr (DL.wp_eqn (hr)) ?_ | with_reducible refine Eq.mpr (DL.wp_ofOs (hr)) ?_ | walk_at "ev1")
    refine ⟨by rw [rangeL_len]; have := sizeLine_eq; omega, ?_⟩
    refine lc_inv (fun i acc _ => ∃ rs : List Tab, acc = rs.map tb ∧ GT rs ∧ rs.length = i) ⟨[], rfl, .nil, rfl⟩ ?_ ?_
    · rintro i d acc ω2 hd ⟨rs, rfl, g1, g2⟩
      obtain ⟨t, ω3, e3, ht⟩ := law_table_ok ω2
      refine ⟨_, rfl, ?_⟩
      repeat (first | with_reducible refine Eq.mpr (DL.wp_eqn (e3)) ?_ | with_reducible refine Eq.mpr (DL.wp_ofOs (e3)) ?_ | walk_at "ev1")
      exact ⟨rs ++ [t], by simp, g1.snoc ht, by simp [g2]⟩
    · rintro acc ω2 ⟨rs, rfl, g1, g2⟩
      rw [rangeL_len] at g2
      have ok : (PEnd.rnd rs).ok := ⟨fun z => by rw [z] at g2; simp at g2; omega, by omega, g1⟩
      have tp : un1 tupleD [.lst (rs.map tb)] = some (endD (.rnd rs)) := rfl
      repeat (first | with_reducible refine Eq.mpr (DL.wp_eqn (tp)) ?_ | with_reducible refine Eq.mpr (DL.wp_ofOs (tp)) ?_ | with_reducible refine Eq.mpr (DL.wp_eqn (law_made_ok ts (.rnd rs) h1 ok)) ?_ | with_reducible refine Eq.mpr (DL.wp_ofOs (law_made_ok ts (.rnd rs) h1 ok)) ?_ | walk_at "ev1")
      exact ⟨ts, .rnd rs, rfl, h1, ok, by omega⟩
theorem law_long_ok (ω : Src) : ∃ (ts : List Tab) (e : PEnd) (ω' : Src), F_law_long_plan [] ω = .ok (wD ts e) ω' ∧ GT ts ∧ e.ok ∧ ts.length ≤ 20 := by
  suffices h : (F_law_long_plan [] ω).wp (fun d _ => ∃ (ts : List Tab) (e : PEnd), d = wD ts e ∧ GT ts ∧ e.ok ∧ ts.length ≤ 20) X0 by
    obtain ⟨d, ω', e, ts, e2, rfl, h⟩ := h.ex
    exact ⟨ts, e2, ω', e, h⟩
  unfold F_law_long_plan B_law_long_plan
  have hs0 : startT 6 (.src :: ([] : List D).map .d) = [some .src, none, none, none, none, none] := rfl
  rw [hs0]
  obtain ⟨p, ω1, e1', hp⟩ := pick_nat ω 11 (by omega) (by omega)
  have e1 : F_law_pick [.int 11] ω = .ok (.int (p : Nat)) ω1 := e1'
  have a1 : addD (.int 2) (.int (p : Nat)) = some (.int ((2 + p : Nat) : Int)) := addN 2 p
  generalize hmn : D.lst [.int 2, .int 2, .int 3, .int 3, .int 4, .int 5, .int 12, .int (2 + p : Nat)] = menu
  have draw : ∀ ω : Src, ∃ (t : Tab) (ω1 ω2 : Src) (m : D), F_law_of [menu] ω = .ok m ω1 ∧ F_law_any_table [m] ω1 = .ok (tb t) ω2 ∧ WT t ∧ bsz t ≤ 16 := fun ω => by
    obtain ⟨d, ω1, e1, hd⟩ := of_ok ω [.int 2, .int 2, .int 3, .int 3, .int 4, .int 5, .int 12, .int (2 + p : Nat)] (by simp) (by simp)
    obtain ⟨m, rfl, m1, m2⟩ : ∃ m : Nat, d = .int (m : Nat) ∧ 2 ≤ m ∧ m ≤ 12 := by
      simp only [List.mem_cons, List.not_mem_nil, or_false] at hd
      rcases hd with h | h | h | h | h | h | h | h <;> subst h
      · exact ⟨2, rfl, by omega, by omega⟩
      · exact ⟨2, rfl, by omega, by omega⟩
      · exact ⟨3, rfl, by omega, by omega⟩
      · exact ⟨3, rfl, by omega, by omega⟩
      · exact ⟨4, rfl, by omega, by omega⟩
      · exact ⟨5, rfl, by omega, by omega⟩
      · exact ⟨12, rfl, by omega, by omega⟩
      · exact ⟨2 + p, rfl, by omega, by omega⟩
    obtain ⟨t, ω2, e2, wt, zt⟩ := any_ok m ω1 (by omega) (by omega)
    rw [hmn] at e1
    exact ⟨t, ω1, ω2, _, e1, e2, wt, by omega⟩
  refine Eq.mpr wp_nox ?_
  refine Eq.mpr wp_runS ?_
  refine Eq.mpr sw_seq ?_
  refine sw.mono (P := fun f ω' => f = .nx [some .src, some (.d menu), none, none, none, none] ∧ ω' = ω1) (by
    repeat (first | with_reducible refine Eq.mpr (DL.wp_eqn (e1)) ?_ | with_reducible refine Eq.mpr (DL.wp_ofOs (e1)) ?_ | with_reducible refine Eq.mpr (DL.wp_eqn (a1)) ?_ | with_reducible refine Eq.mpr (DL.wp_ofOs (a1)) ?_ | walk_at "ev1")
    rw [← hmn]
    exact ⟨rfl, rfl⟩) ?_
  rintro f ω' ⟨rfl, rfl⟩
  obtain ⟨q, ω2, e2', hq⟩ := pick_nat ω' 3 (by omega) (by omega)
  have e2 : F_law_pick [.int 3] ω' = .ok (.int (q : Nat)) ω2 := e2'
  have a2 : addD (.int 4) (.int (q : Nat)) = some (.int ((4 + q : Nat) : Int)) := addN 4 q
  have hr1 := rg1_nat (4 + q) (by omega)
  refine Eq.mpr sw_seq ?_
  refine sw.mono (P := fun f _ => ∃ ts : List Tab, GT ts ∧ ts.length ≤ 6 ∧ f = .nx [some .src, some (.d menu), some (.d (.lst (ts.map tb))), none, none, none]) (by
    repeat (first | with_reducible refine Eq.mpr (DL.wp_eqn (e2)) ?_ | with_reducible refine Eq.mpr (DL.wp_ofOs (e2)) ?_ | with_reducible refine Eq.mpr (DL.wp_eqn (a2)) ?_ | with_reducible refine Eq.mpr (DL.wp_ofOs (a2)) ?_ | with_reducible refine Eq.mpr (DL.wp_eqn (hr1)) ?_ | with_reducible refine Eq.mpr (DL.wp_ofOs (hr1)) ?_ | walk_at "ev1")
    refine ⟨by rw [rangeL_len]; have := sizeLine_eq; omega, ?_⟩
    refine lc_inv (fun i acc _ => ∃ ts : List Tab, acc = ts.map tb ∧ GT ts ∧ ts.length = i) ⟨[], rfl, .nil, rfl⟩ ?_ ?_
    · rintro i d acc ω2 hd ⟨ts, rfl, h1, h2⟩
      obtain ⟨t, ω3, ω4, m, e3, e4, ht⟩ := draw ω2
      refine ⟨_, rfl, ?_⟩
      repeat (first | with_reducible refine Eq.mpr (DL.wp_eqn (e3)) ?_ | with_reducible refine Eq.mpr (DL.wp_ofOs (e3)) ?_ | with_reducible refine Eq.mpr (DL.wp_eqn (e4)) ?_ | with_reducible refine Eq.mpr (DL.wp_ofOs (e4)) ?_ | walk_at "ev1")
      exact ⟨ts ++ [t], by simp, h1.snoc ht, by simp [h2]⟩
    · rintro acc ω2 ⟨ts, rfl, h1, h2⟩
      rw [rangeL_len] at h2
      exact ⟨_, rfl, ts, h1, by omega, rfl⟩) ?_
  rintro f ω3 ⟨ts, h1, h2, rfl⟩
  obtain ⟨d3, ω4, e4, hd3⟩ := of_ok ω3 [.str "left", .str "right", .str "round"] (by simp) (by simp)
  refine Eq.mpr sw_seq ?_
  refine sw.mono (P := fun f ω' => f = .nx [some .src, some (.d menu), some (.d (.lst (ts.map tb))), some (.d d3), none, none] ∧ ω' = ω4) (by
    repeat (first | with_reducible refine Eq.mpr (DL.wp_eqn (e4)) ?_ | with_reducible refine Eq.mpr (DL.wp_ofOs (e4)) ?_ | walk_at "ev1")
    exact ⟨rfl, rfl⟩) ?_
  rintro f ω5 ⟨rfl, rfl⟩
  obtain ⟨r, ω6, e6', hr⟩ := pick_nat ω5 6 (by omega) (by omega)
  have e6 : F_law_pick [.int 6] ω5 = .ok (.int (r : Nat)) ω6 := e6'
  have a6 : addD (.int 1) (.int (r : Nat)) = some (.int ((1 + r : Nat) : Int)) := addN 1 r
  have hr6 := rg1_nat (1 + r) (by omega)
  refine Eq.mpr sw_seq ?_
  refine sw.mono (P := fun f _ => ∃ rs : List Tab, GT rs ∧ rs.length = 1 + r ∧ f = .nx [some .src, some (.d menu), some (.d (.lst (ts.map tb))), some (.d d3), some (.d (.lst (rs.map tb))), none]) (by
    repeat (first | with_reducible refine Eq.mpr (DL.wp_eqn (e6)) ?_ | with_reducible refine Eq.mpr (DL.wp_ofOs (e6)) ?_ | with_reducible refine Eq.mpr (DL.wp_eqn (a6)) ?_ | with_reducible refine Eq.mpr (DL.wp_ofOs (a6)) ?_ | with_reducible refine Eq.mpr (DL.wp_eqn (hr6)) ?_ | with_reducible refine Eq.mpr (DL.wp_ofOs (hr6)) ?_ | walk_at "ev1")
    refine ⟨by rw [rangeL_len]; have := sizeLine_eq; omega, ?_⟩
    refine lc_inv (fun i acc _ => ∃ ts : List Tab, acc = ts.map tb ∧ GT ts ∧ ts.length = i) ⟨[], rfl, .nil, rfl⟩ ?_ ?_
    · rintro i d acc ω2 hd ⟨ts, rfl, h1, h2⟩
      obtain ⟨t, ω3, ω4, m, e3, e4, ht⟩ := draw ω2
      refine ⟨_, rfl, ?_⟩
      repeat (first | with_reducible refine Eq.mpr (DL.wp_eqn (e3)) ?_ | with_reducible refine Eq.mpr (DL.wp_ofOs (e3)) ?_ | with_reducible refine Eq.mpr (DL.wp_eqn (e4)) ?_ | with_reducible refine Eq.mpr (DL.wp_ofOs (e4)) ?_ | walk_at "ev1")
      exact ⟨ts ++ [t], by simp, h1.snoc ht, by simp [h2]⟩
    · rintro acc ω2 ⟨ts, rfl, h1, h2⟩
      rw [rangeL_len] at h2
      exact ⟨_, rfl, ts, h1, by omega, rfl⟩) ?_
  rintro f ω7 ⟨rs, g1, g2, rfl⟩
  have hb : d3 = sideS true ∨ d3 = sideS false ∨ d3 = .str "round" := by
    simp only [List.mem_cons, List.not_mem_nil, or_false] at hd3
    exact hd3
  have side : ∀ b : Bool, eqD (sideS b) (.str "round") = some (.bl false) := fun b => by cases b <;> kernel_rfl
  have rnd : eqD (.str "round") (.str "round") = some (.bl true) := by kernel_rfl
  rcases hb with rfl | rfl | rfl
  · have lm : F_law_made [.lst (ts.map tb), sideS true] = .ok (wD ts (.side true)) () := law_made_ok ts (.side true) h1 trivial
    repeat (first | with_reducible refine Eq.mpr (DL.wp_eqn (side true)) ?_ | with_reducible refine Eq.mpr (DL.wp_ofOs (side true)) ?_ | with_reducible refine Eq.mpr (DL.wp_eqn (lm)) ?_ | with_reducible refine Eq.mpr (DL.wp_ofOs (lm)) ?_ | walk_at "ev1")
    exact ⟨ts, .side true, rfl, h1, trivial, by omega⟩
  · have lm : F_law_made [.lst (ts.map tb), sideS false] = .ok (wD ts (.side false)) () := law_made_ok ts (.side false) h1 trivial
    repeat (first | with_reducible refine Eq.mpr (DL.wp_eqn (side false)) ?_ | with_reducible refine Eq.mpr (DL.wp_ofOs (side false)) ?_ | with_reducible refine Eq.mpr (DL.wp_eqn (lm)) ?_ | with_reducible refine Eq.mpr (DL.wp_ofOs (lm)) ?_ | walk_at "ev1")
    exact ⟨ts, .side false, rfl, h1, trivial, by omega⟩
  · have ok : (PEnd.rnd rs).ok := ⟨fun z => by rw [z] at g2; simp at g2; omega, by omega, g1⟩
    have tp : un1 tupleD [.lst (rs.map tb)] = some (endD (.rnd rs)) := rfl
    repeat (first | with_reducible refine Eq.mpr (DL.wp_eqn (rnd)) ?_ | with_reducible refine Eq.mpr (DL.wp_ofOs (rnd)) ?_ | with_reducible refine Eq.mpr (DL.wp_eqn (tp)) ?_ | with_reducible refine Eq.mpr (DL.wp_ofOs (tp)) ?_ | with_reducible refine Eq.mpr (DL.wp_eqn (law_made_ok ts (.rnd rs) h1 ok)) ?_ | with_reducible refine Eq.mpr (DL.wp_ofOs (law_made_ok ts (.rnd rs) h1 ok)) ?_ | walk_at "ev1")
    exact ⟨ts, .rnd rs, rfl, h1, ok, by omega⟩
theorem any_plan_ok (ω : Src) : ∃ (ts : List Tab) (e : PEnd) (ω' : Src), F_law_any_plan [] ω = .ok (wD ts e) ω' ∧ GT ts ∧ e.ok ∧ ts.length ≤ 20 := by
  suffices h : (F_law_any_plan [] ω).wp (fun d _ => ∃ (ts : List Tab) (e : PEnd), d = wD ts e ∧ GT ts ∧ e.ok ∧ ts.length ≤ 20) X0 by
    obtain ⟨d, ω', e, ts, e2, rfl, h⟩ := h.ex
    exact ⟨ts, e2, ω', e, h⟩
  unfold F_law_any_plan B_law_any_plan
  have hs0 : startT 1 (.src :: ([] : List D).map .d) = [some .src] := rfl
  rw [hs0]
  obtain ⟨r, ω1, e1', hr⟩ := pick_nat ω 4 (by omega) (by omega)
  have e1 : F_law_pick [.int 4] ω = .ok (.int (r : Nat)) ω1 := e1'
  repeat (first | with_reducible refine Eq.mpr (DL.wp_eqn (e1)) ?_ | with_reducible refine Eq.mpr (DL.wp_ofOs (e1)) ?_ | with_reducible refine Eq.mpr (DL.wp_eqn (eqD_int _ _)) ?_ | with_reducible refine Eq.mpr (DL.wp_ofOs (eqD_int _ _)) ?_ | walk_at "ev1")
  by_cases h0 : r = 0
  · refine iteP (decide_eq_true (by omega)) ?_
    obtain ⟨ts, e, ω2, e2, h⟩ := law_long_ok ω1
    repeat (first | with_reducible refine Eq.mpr (DL.wp_eqn (e2)) ?_ | with_reducible refine Eq.mpr (DL.wp_ofOs (e2)) ?_ | walk_at "ev1")
    exact ⟨ts, e, rfl, h⟩
  · refine iteN (by rw [decide_eq_true_eq]; omega) ?_
    obtain ⟨ts, e, ω2, e2, h⟩ := law_plan_ok ω1
    repeat (first | with_reducible refine Eq.mpr (DL.wp_eqn (e2)) ?_ | with_reducible refine Eq.mpr (DL.wp_ofOs (e2)) ?_ | walk_at "ev1")
    exact ⟨ts, e, rfl, h⟩
def rws (st : Nat → Option Tab) (n : Nat) : Nat → List Sh
  | 0 => osh n
  | j + 1 => match st j with
    | none => rws st n j
    | some t => prs t (rws st n j)
theorem prs_len (t : Tab) (row : List Sh) : (prs t row).length = (row.length + bsz t - 1) / bsz t := by
  rw [prs_range t _ row rfl, List.length_map, List.length_range]
theorem rws_len {st : Nat → Option Tab} (hg : Sg st) {n : Nat} (hn : 1 ≤ n) : ∀ j, (rws st n j).length = upn n (wd st j)
  | 0 => by
    rw [show wd st 0 = 1 from rfl, upn_one]
    exact List.length_replicate
  | j + 1 => by
    have ih := rws_len hg hn j
    rw [show wd st (j + 1) = wd st j * szS (st j) from rfl]
    unfold rws
    cases e : st j with
    | none => show (rws st n j).length = upn n (wd st j * 1); rw [Nat.mul_one]; exact ih
    | some t =>
      show (prs t (rws st n j)).length = upn n (wd st j * bsz t)
      have := (hg.two j t e).1
      rw [prs_len, ih, upn_mul (hg.pos j) (by omega) hn]
theorem upn_pos {n w : Nat} (hn : 1 ≤ n) (hw : 1 ≤ w) : 1 ≤ upn n w := by
  unfold upn
  exact (Nat.le_div_iff_mul_le (by omega)).mpr (by omega)
theorem rws_ne {st : Nat → Option Tab} (hg : Sg st) {n : Nat} (hn : 1 ≤ n) (j : Nat) : rws st n j ≠ [] := fun e => by
  have h := rws_len hg hn j
  have := upn_pos hn (hg.pos j)
  rw [e] at h
  simp at h
  omega
theorem rws_sum {st : Nat → Option Tab} (hw : ∀ j t, st j = some t → WT t) (n : Nat) : ∀ j, sumS (rws st n j) = n
  | 0 => sumS_os n
  | j + 1 => by
    have ih := rws_sum hw n j
    unfold rws
    cases e : st j with
    | none => exact ih
    | some t => exact (prs_size t (hw j t e) _ _ rfl).trans ih
def endS : Bool → List Sh → Sh
  | true, row => row.tail.foldl Sh.n (row.headD .o)
  | false, row => row.dropLast.foldr Sh.n (row.getLastD .o)
theorem foldl_size : ∀ (xs : List Sh) (x : Sh), (xs.foldl Sh.n x).size = x.size + sumS xs
  | [], x => by simp [sumS]
  | y :: xs, x => by
    rw [List.foldl_cons, foldl_size xs]
    simp [Sh.size, sumS]
    omega
theorem foldr_size : ∀ (xs : List Sh) (x : Sh), (xs.foldr Sh.n x).size = sumS xs + x.size
  | [], x => by simp [sumS]
  | y :: xs, x => by
    rw [List.foldr_cons]
    show y.size + (xs.foldr Sh.n x).size = _
    rw [foldr_size xs]
    simp [sumS]
    omega
theorem endS_size (b : Bool) {row : List Sh} (h : row ≠ []) : (endS b row).size = sumS row := by
  cases b with
  | true =>
    cases row with
    | nil => exact absurd rfl h
    | cons x xs =>
      show (xs.foldl Sh.n x).size = _
      rw [foldl_size]
      simp [sumS]
  | false =>
    obtain ⟨xs, x, rfl⟩ : ∃ xs x, row = xs ++ [x] := ⟨row.dropLast, row.getLast h, (List.dropLast_concat_getLast h).symm⟩
    show ((xs ++ [x]).dropLast.foldr Sh.n ((xs ++ [x]).getLastD .o)).size = _
    rw [List.dropLast_concat, List.getLastD_concat, foldr_size]
    simp [sumS]
theorem endS_one (b : Bool) (x : Sh) : endS b [x] = x := by cases b <;> rfl
theorem fill_cmb_l : ∀ (k : Nat) (x : Sh) (xs : List Sh), k ≤ xs.length → fill (cmb true k) (x :: xs) = (xs.take k).foldl Sh.n x
  | 0, x, xs, _ => rfl
  | k + 1, x, xs, h => by
    show Sh.n (fill (cmb true k) (x :: xs)) (fill .o ((x :: xs).drop (cmb true k).size)) = _
    rw [fill_cmb_l k x xs (by omega), cmb_size, List.drop_succ_cons]
    have e : xs.take (k + 1) = xs.take k ++ [xs[k]] := by
      rw [List.take_add_one, List.getElem?_eq_getElem (by omega)]; rfl
    rw [e, List.foldl_append]
    show Sh.n _ ((xs.drop k).headD .o) = Sh.n _ xs[k]
    rw [List.drop_eq_getElem_cons (by omega)]
    rfl
theorem fill_cmb_r : ∀ (xs : List Sh) (x : Sh), fill (cmb false xs.length) (xs ++ [x]) = xs.foldr Sh.n x
  | [], x => rfl
  | y :: xs, x => by
    show Sh.n y (fill (cmb false xs.length) (xs ++ [x])) = Sh.n y (xs.foldr Sh.n x)
    rw [fill_cmb_r xs x]
theorem fill_cmb (b : Bool) {row : List Sh} (h : row ≠ []) : fill (cmb b (row.length - 1)) row = endS b row := by
  cases b with
  | true =>
    cases row with
    | nil => exact absurd rfl h
    | cons x xs =>
      show fill (cmb true (xs.length + 1 - 1)) (x :: xs) = xs.foldl Sh.n x
      rw [Nat.add_sub_cancel, fill_cmb_l _ x xs (Nat.le_refl _), List.take_length]
  | false =>
    obtain ⟨xs, x, rfl⟩ : ∃ xs x, row = xs ++ [x] := ⟨row.dropLast, row.getLast h, (List.dropLast_concat_getLast h).symm⟩
    rw [List.length_append, List.length_singleton, Nat.add_sub_cancel, fill_cmb_r]
    show _ = (xs ++ [x]).dropLast.foldr Sh.n ((xs ++ [x]).getLastD .o)
    rw [List.dropLast_concat, List.getLastD_concat]
def isL : PEnd → Bool
  | .side b => b
  | .rnd _ => false
theorem stg_wt {ts : List Tab} {e : PEnd} (h : GT ts) (he : e.ok) (j : Nat) (t : Tab) (q : stg ts e j = some t) : WT t := (stg_gt h he q).1
theorem stg_sg {ts : List Tab} {e : PEnd} (h1 : GT ts) (he : e.ok) : Sg (stg ts e) := ⟨fun j t ht => by
  obtain ⟨w1, w2⟩ := stg_gt h1 he ht
  have := w1.1
  exact ⟨by unfold bsz; omega, w2⟩⟩
theorem mul_row (n : Nat) (hn : n ≤ 1000) : mulD (.lst [.tup []]) (.int (n : Nat)) = some (rowD (osh n)) := by
  rw [mulL (.tup []) n n rfl (by omega)]
  show _ = some (D.lst ((List.replicate n Sh.o).map Sh.enc))
  rw [List.map_replicate]
  rfl
theorem wp_dgF {Ω : Type} {i : Nat} {τ : Tau} {ω : Ω} {P : D → Ω → Prop} {X : Exn → Ω → Prop} {a b p : D} (h : τ[i]? = some (some (.d (.dic [.inr "tables", .inr "end", .inr "plan"] [a, b, p])))) :
    (P a ω → (eDgK (pK i) (eC (.str "tables")) τ ω).wp P X) ∧ (P b ω → (eDgK (pK i) (eC (.str "end")) τ ω).wp P X) ∧ (P p ω → (eDgK (pK i) (eC (.str "plan")) τ ω).wp P X) := by
  refine ⟨fun k => ?_, fun k => ?_, fun k => ?_⟩
  · refine wp_dgK (ks := [.inr "tables", .inr "end", .inr "plan"]) (ds := [a, b, p]) (fun ω => by unfold pK; rw [h]) ?_
    repeat walk_at "ev1"
    exact ⟨.inr "tables", a, rfl, by kernel_rfl, k⟩
  · refine wp_dgK (ks := [.inr "tables", .inr "end", .inr "plan"]) (ds := [a, b, p]) (fun ω => by unfold pK; rw [h]) ?_
    repeat walk_at "ev1"
    exact ⟨.inr "end", b, rfl, by kernel_rfl, k⟩
  · refine wp_dgK (ks := [.inr "tables", .inr "end", .inr "plan"]) (ds := [a, b, p]) (fun ω => by unfold pK; rw [h]) ?_
    repeat walk_at "ev1"
    exact ⟨.inr "plan", p, rfl, by kernel_rfl, k⟩
theorem stg_none {ts : List Tab} {e : PEnd} (he : e.ok) {k : Nat} (q : stg ts e k = none) : ts.length ≤ k ∧ ∃ b, e = .side b := by
  unfold stg at q
  by_cases h : k < ts.length
  · rw [if_pos h, List.getElem?_eq_getElem h] at q; cases q
  · rw [if_neg h] at q
    refine ⟨by omega, ?_⟩
    cases e with
    | side b => exact ⟨b, rfl⟩
    | rnd rs =>
      have hp := List.length_pos_iff.mpr he.1
      have hlt : (k - ts.length) % rs.length < rs.length := Nat.mod_lt _ hp
      have q' : rs[(k - ts.length) % rs.length]? = none := q
      rw [List.getElem?_eq_getElem hlt] at q'
      cases q'
theorem told_ok {ts : List Tab} {e : PEnd} (h : GT ts) (he : e.ok) {n J : Nat} (hn1 : 1 ≤ n) (hn : n ≤ 60) (s : Stop (stg ts e) n J) :
    F_law_told [wD ts e, .int (n : Nat)] = .ok (endS (isL e) (rws (stg ts e) n J)).enc () := by
  have hg := stg_sg h he
  have hJ := s.le
  have hwt := stg_wt h he
  have hlen := rws_len hg hn1
  have hne := rws_ne hg hn1
  have hpos := hg.pos
  have hnone : ∀ j, stg ts e j = none → ∃ b, e = .side b := fun j q => (stg_none he q).2
  have hb : ∀ j t, stg ts e j = some t → bsz t ≤ 16 := fun j t q => (stg_gt h he q).2
  have hls : ∀ j : Nat, j ≤ 100 → F_law_stage [wD ts e, .int (j : Nat)] = .ok (optT (stg ts e j)) () := fun j hj => law_stage_ok ts e he j (by omega)
  generalize stg ts e = st at *
  apply R.wp.equ
  unfold F_law_told B_law_told
  have hs0 : startT 4 ([wD ts e, D.int (n : Nat)].map Cell.d) = [some (.d (wD ts e)), some (.d (.int (n : Nat))), none, none] := rfl
  rw [hs0]
  have hm := mul_row n (by omega)
  refine Eq.mpr wp_nox ?_
  refine Eq.mpr wp_runS ?_
  refine Eq.mpr sw_seq ?_
  refine sw.mono (P := fun f _ => f = .nx [some (.d (wD ts e)), some (.d (.int (n : Nat))), some (.d (rowD (osh n))), some (.d (.int ((0 : Nat) : Int)))]) (by
    repeat (first | with_reducible refine Eq.mpr (DL.wp_eqn (hm)) ?_ | with_reducible refine Eq.mpr (DL.wp_ofOs (hm)) ?_ | walk_at "ev1")
    rfl) ?_
  rintro f _ rfl
  refine Eq.mpr sw_seq ?_
  have hl : ∀ j, un1 lenD [rowD (rws st n j)] = some (.int (upn n (wd st j) : Nat)) := fun j => by rw [← hlen j]; exact len_row _
  refine sw.mono (P := fun f _ => f = .nx [some (.d (wD ts e)), some (.d (.int (n : Nat))), some (.d (rowD (rws st n J))), some (.d (.int (J : Nat)))]) (while_inv (fun m τ _ => ∃ j : Nat, j ≤ J ∧ m = 100 - j ∧ τ = [some (.d (wD ts e)), some (.d (.int (n : Nat))), some (.d (rowD (rws st n j))), some (.d (.int (j : Nat)))]) ⟨0, by omega, rfl, rfl⟩ ?_) ?_
  · rintro m τ ω ⟨j, hj, rfl, rfl⟩
    refine ⟨by omega, ?_⟩
    have hno := nin_opt (st j)
    have e1 := hls j (by omega)
    by_cases hc : Cnd st n j
    · have hjJ : j < J := by
        rcases Nat.lt_or_ge j J with l | l
        · exact l
        · exact absurd hc (by rw [show j = J by omega]; exact s.no)
      obtain ⟨t, ht⟩ : ∃ t, st j = some t := by
        cases q : st j with
        | none => exact absurd q hc.2
        | some t => exact ⟨t, rfl⟩
      have hle : (rws st n j).length ≤ n := by rw [hlen j]; exact upn_le (hpos j) hn1
      have ep : F_law_pressed [optT (st j), rowD (rws st n j)] = .ok (rowD (rws st n (j + 1))) () := by
        show _ = R.ok (rowD (match st j with | none => rws st n j | some t => prs t (rws st n j))) ()
        rw [ht]
        have := hb j t ht
        exact law_pressed_ok t _ (hwt j t ht) (by omega) (by omega)
      have ha : addD (.int (j : Nat)) (.int 1) = some (.int ((j + 1 : Nat) : Int)) := addN j 1
      repeat (first | with_reducible refine Eq.mpr (DL.wp_eqn (hl j)) ?_ | with_reducible refine Eq.mpr (DL.wp_ofOs (hl j)) ?_ | walk_at "ev1")
      refine iteP (decide_eq_true (by have := hc.1; omega)) ?_
      rw [decide_eq_true hc.2] at hno
      repeat (first | with_reducible refine Eq.mpr (DL.wp_eqn (e1)) ?_ | with_reducible refine Eq.mpr (DL.wp_ofOs (e1)) ?_ | with_reducible refine Eq.mpr (DL.wp_eqn (hno)) ?_ | with_reducible refine Eq.mpr (DL.wp_ofOs (hno)) ?_ | with_reducible refine Eq.mpr (DL.wp_eqn (ep)) ?_ | with_reducible refine Eq.mpr (DL.wp_ofOs (ep)) ?_ | with_reducible refine Eq.mpr (DL.wp_eqn (ha)) ?_ | with_reducible refine Eq.mpr (DL.wp_ofOs (ha)) ?_ | walk_at "ev1")
      exact ⟨j + 1, by omega, by omega, rfl⟩
    · have hjJ : j = J := by
        rcases Nat.lt_or_ge j J with l | l
        · exact absurd (s.go j l) hc
        · omega
      subst hjJ
      repeat (first | with_reducible refine Eq.mpr (DL.wp_eqn (hl j)) ?_ | with_reducible refine Eq.mpr (DL.wp_ofOs (hl j)) ?_ | walk_at "ev1")
      by_cases h1 : 1 < upn n (wd st j)
      · refine iteP (decide_eq_true (by omega)) ?_
        have h2 : ¬ st j ≠ none := fun h => hc ⟨h1, h⟩
        rw [decide_eq_false h2] at hno
        repeat (first | with_reducible refine Eq.mpr (DL.wp_eqn (e1)) ?_ | with_reducible refine Eq.mpr (DL.wp_ofOs (e1)) ?_ | with_reducible refine Eq.mpr (DL.wp_eqn (hno)) ?_ | with_reducible refine Eq.mpr (DL.wp_ofOs (hno)) ?_ | walk_at "ev1")
        rfl
      · refine iteN (by rw [decide_eq_true_eq]; omega) ?_
        repeat walk_at "ev1"
        rfl
  · rintro f _ rfl
    have hup := upn_pos hn1 (hpos J)
    have hle : (rws st n J).length ≤ n := by rw [hlen J]; exact upn_le (hpos J) hn1
    repeat (first | with_reducible refine Eq.mpr (DL.wp_eqn (hl J)) ?_ | with_reducible refine Eq.mpr (DL.wp_ofOs (hl J)) ?_ | walk_at "ev1")
    by_cases h1 : 1 < upn n (wd st J)
    · refine iteP (decide_eq_true (by omega)) ?_
      have h2 : st J = none := by
        cases q : st J with
        | none => rfl
        | some t => exact absurd ⟨h1, by rw [q]; exact Option.some_ne_none t⟩ s.no
      obtain ⟨b, rfl⟩ := hnone J h2
      have hlr := hlen J
      have ec : F_law_comb [.int (upn n (wd st J) : Nat), endD (.side b)] = .ok (cmb b ((rws st n J).length - 1)).enc () := by
        rw [hlr]; exact comb_ok b _ (by omega) (by omega)
      have ef := law_filled_ok 70 (cmb b ((rws st n J).length - 1)) (rws st n J) (by rw [cmb_hgt]; omega) (by rw [cmb_size]; omega) (by rw [cmb_size]; omega)
      rw [fill_cmb b (hne J)] at ef
      repeat (first | with_reducible refine Eq.mpr (DL.wp_eqn (hl J)) ?_ | with_reducible refine Eq.mpr (DL.wp_ofOs (hl J)) ?_ | walk_at "ev1")
      refine (wp_dgF rfl).2.1 ?_
      repeat (first | with_reducible refine Eq.mpr (DL.wp_eqn (ec)) ?_ | with_reducible refine Eq.mpr (DL.wp_ofOs (ec)) ?_ | with_reducible refine Eq.mpr (DL.wp_eqn (ef)) ?_ | with_reducible refine Eq.mpr (DL.wp_ofOs (ef)) ?_ | walk_at "ev1")
      rfl
    · refine iteN (by rw [decide_eq_true_eq]; omega) ?_
      obtain ⟨x, hx⟩ : ∃ x, rws st n J = [x] := List.length_eq_one_iff.mp (by rw [hlen J]; omega)
      rw [hx, endS_one]
      have hi : ixD (rowD [x]) (.int 0) = some x.enc := ix_lst (k := 0) rfl rfl
      repeat (first | with_reducible refine Eq.mpr (DL.wp_eqn (hi)) ?_ | with_reducible refine Eq.mpr (DL.wp_ofOs (hi)) ?_ | walk_at "ev1")
      rfl
theorem end_ok (a b : D) : F_Plan_end [plnD a b] = .ok b () := by kernel_rfl
theorem eq_endL (e : PEnd) : eqD (endD e) (.str "left") = some (.bl (isL e)) := by
  cases e with
  | side b => exact eq_left b
  | rnd rs => exact eq_ts rs _ (strOk_ofString _)
def lms : Sh → Nat → List (Nat × Nat)
  | .o, a => [(a, a + 1)]
  | .n l r, a => (a, a + (l.size + r.size)) :: (lms l a ++ lms r (a + l.size))
/-- the parts in the order in which they are noted -/
def pms : Sh → Nat → List (Nat × Nat)
  | .o, a => [(a, a + 1)]
  | .n l r, a => pms l a ++ pms r (a + l.size) ++ [(a, a + (l.size + r.size))]
def posL : Nat → List Sh → List (Nat × Nat)
  | _, [] => []
  | a, x :: xs => (a, a + x.size) :: posL (a + x.size) xs
def rl : Nat → List Sh → List (Nat × Nat)
  | _, [] => []
  | a, x :: xs => lms x a ++ rl (a + x.size) xs
abbrev big (q : Nat × Nat) : Bool := decide (1 < q.2 - q.1)
theorem lms_len : ∀ (s : Sh) (a : Nat), (lms s a).length + 1 = 2 * s.size
  | .o, _ => rfl
  | .n l r, a => by
    have h1 := lms_len l a
    have h2 := lms_len r (a + l.size)
    simp only [lms, List.length_cons, List.length_append, Sh.size]
    omega
theorem pms_perm : ∀ (s : Sh) (a : Nat), (pms s a).Perm (lms s a)
  | .o, _ => .refl _
  | .n l r, a => by
    have h1 := List.perm_iff_count.mp (pms_perm l a)
    have h2 := List.perm_iff_count.mp (pms_perm r (a + l.size))
    refine List.perm_iff_count.mpr fun x => ?_
    simp only [pms, lms, List.count_append, List.count_cons, List.count_nil, h1 x, h2 x]
    omega
theorem lms_bd2 : ∀ (s : Sh) (a : Nat) (q : Nat × Nat), q ∈ lms s a → a ≤ q.1 ∧ q.1 < q.2 ∧ q.2 ≤ a + s.size
  | .o, a, q, h => by simp [lms] at h; subst h; simp [Sh.size]
  | .n l r, a, q, h => by
    have lp := l.size_pos
    have rp := r.size_pos
    simp only [lms, List.mem_cons, List.mem_append] at h
    simp only [Sh.size]
    rcases h with rfl | h | h
    · dsimp only; omega
    · have := lms_bd2 l a q h; omega
    · have := lms_bd2 r (a + l.size) q h; omega
theorem sumS_app (x y : List Sh) : sumS (x ++ y) = sumS x + sumS y := by unfold sumS; rw [List.map_append, List.sum_append]
theorem rl_app : ∀ (x y : List Sh) (a : Nat), rl a (x ++ y) = rl a x ++ rl (a + sumS x) y
  | [], y, a => by simp [rl, sumS]
  | s :: x, y, a => by
    rw [List.cons_append, rl, rl, rl_app x y, List.append_assoc]
    simp only [sumS, List.map_cons, List.sum_cons, Nat.add_assoc]
theorem take_sum (ps : List Sh) (i k : Nat) : sumS (ps.take (i + k)) = sumS (ps.take i) + sumS ((ps.drop i).take k) := by
  rw [← sumS_app, List.take_add]
theorem lms_fill : ∀ (e : Sh) (c : Nat) (ps : List Sh) (a : Nat) (W : Nat → Nat), e.size ≤ ps.length → (∀ k, k ≤ e.size → W (c + k) = a + sumS (ps.take k)) →
    (lms (fill e ps) a).Perm (rl a (ps.take e.size) ++ ((lms e c).filter big).map fun q => (W q.1, W q.2))
  | .o, c, ps, a, W, h, hW => by
    cases ps with
    | nil => simp [Sh.size] at h
    | cons p ps =>
      have h1 : (lms .o c).filter big = [] := by simp [lms, big]
      rw [h1]
      simp [fill, Sh.size, rl]
  | .n l r, c, ps, a, W, h, hW => by
    simp only [Sh.size] at h hW
    have lp := l.size_pos
    have rp := r.size_pos
    have i1 := List.perm_iff_count.mp (lms_fill l c ps a W (by omega) fun k hk => hW k (by omega))
    have i2 := List.perm_iff_count.mp (lms_fill r (c + l.size) (ps.drop l.size) (a + sumS (ps.take l.size)) W (by rw [List.length_drop]; omega) fun k hk => by
      rw [Nat.add_assoc, hW (l.size + k) (by omega), take_sum, Nat.add_assoc])
    have f1 := fill_size l ps (by omega)
    have f2 := fill_size r (ps.drop l.size) (by rw [List.length_drop]; omega)
    have w0 := hW 0 (by omega)
    have w1 := hW (l.size + r.size) (by omega)
    rw [List.take_zero] at w0
    rw [take_sum] at w1
    have hr : rl a (ps.take (l.size + r.size)) = rl a (ps.take l.size) ++ rl (a + sumS (ps.take l.size)) ((ps.drop l.size).take r.size) := by
      rw [List.take_add, rl_app]
    have hb : big (c, c + (l.size + r.size)) = true := decide_eq_true (by dsimp only; omega)
    refine List.perm_iff_count.mpr fun x => ?_
    have e1 := i1 x
    have e2 := i2 x
    rw [List.count_append] at e1 e2
    show List.count x (lms (.n (fill l ps) (fill r (ps.drop l.size))) a) = _
    simp only [Sh.size]
    rw [hr]
    rw [lms, lms, List.filter_cons_of_pos hb, List.filter_append, List.map_cons, List.map_append]
    simp only [List.count_append, List.count_cons, f1, f2]
    rw [f1] at *
    rw [e1, e2]
    have hw : ((W c, W (c + (l.size + r.size))) : Nat × Nat) = (a, a + (sumS (ps.take l.size) + sumS ((ps.drop l.size).take r.size))) := by
      rw [← Nat.add_zero c, w0, Nat.add_zero c, w1]
      simp [sumS]
    rw [hw]
    omega
theorem posL_len : ∀ (xs : List Sh) (a : Nat), (posL a xs).length = xs.length
  | [], _ => rfl
  | x :: xs, a => by rw [posL, List.length_cons, List.length_cons, posL_len xs]
theorem posL_get : ∀ (xs : List Sh) (a i : Nat), i < xs.length → (posL a xs)[i]? = some (a + sumS (xs.take i), a + sumS (xs.take (i + 1)))
  | [], _, i, h => by simp at h
  | x :: xs, a, 0, _ => by simp [posL, sumS]
  | x :: xs, a, i + 1, h => by
    rw [posL, List.getElem?_cons_succ, posL_get xs (a + x.size) i (by simpa using h)]
    simp only [List.take_succ_cons, sumS, List.map_cons, List.sum_cons, Nat.add_assoc]
theorem posL_app : ∀ (x y : List Sh) (a : Nat), posL a (x ++ y) = posL a x ++ posL (a + sumS x) y
  | [], y, a => by simp [posL, sumS]
  | s :: x, y, a => by
    rw [List.cons_append, posL, posL, posL_app x y, List.cons_append]
    simp only [sumS, List.map_cons, List.sum_cons, Nat.add_assoc]
theorem osh_rl : ∀ (n a : Nat), rl a (osh n) = posL a (osh n)
  | 0, _ => rfl
  | n + 1, a => by
    have ih := osh_rl n (a + 1)
    show lms .o a ++ rl (a + 1) (osh n) = (a, a + 1) :: posL (a + 1) (osh n)
    rw [ih]; rfl
theorem osh_take (n k : Nat) (h : k ≤ n) : sumS ((osh n).take k) = k := by
  have : (osh n).take k = osh k := by show (List.replicate n Sh.o).take k = List.replicate k Sh.o; rw [List.take_replicate, Nat.min_eq_left h]
  rw [this, sumS_os]
/-- the lumps of an end -/
theorem big_right : ∀ (q c : Nat), (lms (cmb false q) c).filter big = (List.range q).map fun k => (c + k, c + q + 1)
  | 0, c => by simp [cmb, lms, big]
  | q + 1, c => by
    have ih := big_right q (c + 1)
    have hz := cmb_size false q
    show (lms (.n .o (cmb false q)) c).filter big = _
    have hb : big (c, c + (Sh.o.size + (cmb false q).size)) = true := decide_eq_true (by simp only [Sh.size]; omega)
    have ho : (lms .o c).filter big = [] := by simp [lms, big]
    rw [lms, List.filter_cons_of_pos hb, List.filter_append, ho, List.nil_append, show Sh.o.size = 1 from rfl, ih, List.range_succ_eq_map, List.map_cons, List.map_map, hz]
    have h0 : ((c, c + (1 + (q + 1))) : Nat × Nat) = (c + 0, c + (q + 1) + 1) := Prod.ext (by simp) (by dsimp only; omega)
    rw [h0]
    congr 1
    exact List.map_congr_left fun k _ => Prod.ext (by simp; omega) (by simp; omega)
theorem big_left : ∀ (q c : Nat), ((lms (cmb true q) c).filter big).Perm ((List.range q).map fun k => (c, c + k + 2))
  | 0, c => by simp [cmb, lms, big]
  | q + 1, c => by
    have ih := List.perm_iff_count.mp (big_left q c)
    have hz := cmb_size true q
    show ((lms (.n (cmb true q) .o) c).filter big).Perm _
    have hb : big (c, c + ((cmb true q).size + Sh.o.size)) = true := decide_eq_true (by simp only [Sh.size]; have := (cmb true q).size_pos; omega)
    have ho : (lms .o (c + (cmb true q).size)).filter big = [] := by simp [lms, big]
    rw [lms, List.filter_cons_of_pos hb, List.filter_append, ho, List.append_nil, List.range_succ, List.map_append]
    refine List.perm_iff_count.mpr fun x => ?_
    rw [List.count_cons, ih x, List.count_append, show Sh.o.size = 1 from rfl, hz]
    simp only [List.map_cons, List.map_nil, List.count_cons, List.count_nil]
    rw [show c + (q + 1 + 1) = c + q + 2 by omega]
    omega
/-- in order -/
def ltO (p q : Nat × Nat) : Prop := p.1 < q.1 ∨ (p.1 = q.1 ∧ q.2 < p.2)
theorem lms_sorted : ∀ (s : Sh) (a : Nat), (lms s a).Pairwise ltO
  | .o, a => by simp [lms]
  | .n l r, a => by
    have lp := l.size_pos
    have rp := r.size_pos
    rw [lms, List.pairwise_cons, List.pairwise_append]
    refine ⟨fun q hq => ?_, lms_sorted l a, lms_sorted r _, fun p hp q hq => ?_⟩
    · unfold ltO
      rcases List.mem_append.mp hq with h | h
      · have := lms_bd2 l a q h; dsimp only; omega
      · have := lms_bd2 r _ q h; dsimp only; omega
    · have := lms_bd2 l a p hp
      have := lms_bd2 r _ q hq
      unfold ltO
      omega
abbrev toI (q : Nat × Nat) : Int × Int := ((q.1 : Int), (q.2 : Int))
theorem sortK_lms (s : Sh) {L : List (Nat × Nat)} (h : L.Perm (lms s 0)) : sortK (L.map toI) = (lms s 0).map toI := by
  have hp : (sortK (L.map toI)).Perm ((lms s 0).map toI) := (sortK_perm _).trans (h.map _)
  refine permK hp (sortK_sorted _) (List.pairwise_map.mpr (List.Pairwise.imp (fun {p q} hpq => ?_) (lms_sorted s 0)))
  unfold ltO at hpq
  unfold leK
  rw [decide_eq_true_eq]
  show (p.1 : Int) < q.1 ∨ ((p.1 : Int) = q.1 ∧ -(p.2 : Int) ≤ -(q.2 : Int))
  omega
theorem lc_each {Ω α : Type} {B : D → Tau → Option Tau} {Fe : E Ω D} {τ : Tau} {ω : Ω} {P : List D → Ω → Prop} (f g : α → D) (xs : List α)
    (step : ∀ k ∈ xs, ∃ τ1, B (f k) τ = some τ1 ∧ (Fe τ1 ω).wp (fun x ω2 => x = g k ∧ ω2 = ω) X0) (fin : P (xs.map g) ω) : (lcL B bYes Fe τ (xs.map f) ω).wp P X0 := by
  refine lc_inv (fun i acc ω' => acc = (xs.take i).map g ∧ ω' = ω) ⟨rfl, rfl⟩ ?_ ?_
  · rintro i d acc ω' hd ⟨rfl, rfl⟩
    rw [List.getElem?_map] at hd
    obtain ⟨k, hk, rfl⟩ := Option.map_eq_some_iff.mp hd
    obtain ⟨τ1, e, h⟩ := step k (List.mem_of_getElem? hk)
    refine ⟨τ1, e, ?_⟩
    repeat walk_at "ev1"
    refine h.mono ?_
    rintro x ω2 ⟨rfl, rfl⟩
    refine ⟨?_, rfl⟩
    rw [List.take_add_one, hk, List.map_append]
    rfl
  · rintro acc ω' ⟨rfl, rfl⟩
    rw [List.length_map, List.take_length]
    exact fin
theorem cut_m1y {α : Type} (xs : List α) : cutL xs none (some (-1)) = xs.dropLast := by
  have a : HT.sIx xs.length 0 none = 0 := rfl
  have b : HT.sIx xs.length xs.length (some (-1)) = xs.length - 1 := by
    unfold HT.sIx
    by_cases c : xs.length = 0
    · rw [c]; rfl
    · simp only
      split <;> omega
  rw [List.dropLast_eq_take]
  unfold cutL
  rw [a, b]
  simp
abbrev kk (i j : Nat) : List Key := [.inl (i : Int), .inl (j : Int)]
abbrev kN (q : Nat × Nat) : List Key := kk q.1 q.2
theorem kk_inj {i j i' j' : Nat} : kk i j = kk i' j' ↔ i = i' ∧ j = j' := by
  unfold kk; constructor
  · intro h; injection h with h1 h2; injection h2 with h2; injection h1 with h1; injection h2 with h2; omega
  · rintro ⟨rfl, rfl⟩; rfl
theorem putKs_new {ks : List (List Key)} {k : List Key} (h : k ∉ ks) : putKs ks k = ks ++ [k] := by
  unfold putKs
  rw [if_neg]
  intro e
  obtain ⟨x, hx, hk⟩ := List.any_eq_true.mp e
  exact h (of_decide_eq_true hk ▸ hx)
theorem pms_bd {s : Sh} {a : Nat} {q : Nat × Nat} (h : q ∈ pms s a) : a ≤ q.1 ∧ q.1 < q.2 ∧ q.2 ≤ a + s.size := lms_bd2 s a q ((pms_perm s a).mem_iff.mp h)
theorem note_keys : ∀ (n : Nat) (s : Sh) (p : Nat) (ks : List (List Key)) (ds : List D), hgt s < n → ks.length = ds.length → ks.length + 2 * s.size ≤ 1000 → (∀ k ∈ ks, ∃ q : Nat × Nat, k = kN q ∧ q.2 ≤ p) →
    (F_note_parts n [s.enc, .int p] (.T ks, ds)).wp (fun d o => d = .int (p + s.size : Nat) ∧ ∃ ds', o = (.T (ks ++ (pms s p).map kN), ds') ∧ (ks ++ (pms s p).map kN).length = ds'.length) X0
  | 0, s, _, _, _, h, _, _, _ => by omega
  | n + 1, .o, p, ks, ds, h, hl, hz, hb => by
    show (F_note_parts (n + 1) [.tup [], .int p] (.T ks, ds)).wp _ _
    unfold F_note_parts B_note_parts
    have e0 : neD (.tup []) (.tup []) = some (.bl false) := ne_same Sh.o (by decide)
    have hn : kk p (p + 1) ∉ ks := fun hm => by
      obtain ⟨q, e, hq⟩ := hb _ hm
      have := kk_inj.mp e
      omega
    have hp := putKs_new hn
    repeat (first | with_reducible refine Eq.mpr (DL.wp_eqn (e0)) ?_ | with_reducible refine Eq.mpr (DL.wp_ofOs (e0)) ?_ | with_reducible refine Eq.mpr (DL.wp_eqn (addN p 1)) ?_ | with_reducible refine Eq.mpr (DL.wp_ofOs (addN p 1)) ?_ | walk_at "ev1")
    refine sw_putTs rfl ?_
    repeat walk_at "ev1"
    refine ⟨_, ks, ds, rfl, rfl, by simp [Sh.size] at hz; omega, Nat.le_of_ble_eq_true rfl, ?_⟩
    repeat walk_at "ev1"
    have hpl := put_len (kk p (p + 1)) (.tup []) hl
    have hp' : putKs ks (kk p (p + 1)) = ks ++ (pms .o p).map kN := hp
    refine ⟨rfl, putDs ks ds (kk p (p + 1)) (.tup []), ?_, ?_⟩
    · exact Prod.ext (congrArg OKd.T hp') rfl
    · rw [← hp']; exact hpl
  | n + 1, .n l r, p, ks, ds, h, hl, hz, hb => by
    simp only [hgt] at h
    simp only [Sh.size] at hz
    have l1 := Sh.size_pos l
    have r1 := Sh.size_pos r
    obtain ⟨d1, o1, e1, rfl, ds1, rfl, a1⟩ := (note_keys n l p ks ds (by omega) hl (by omega) hb).ex
    have hb1 : ∀ k ∈ ks ++ (pms l p).map kN, ∃ q : Nat × Nat, k = kN q ∧ q.2 ≤ p + l.size := fun k hk => by
      rcases List.mem_append.mp hk with hk | hk
      · obtain ⟨q, e, hq⟩ := hb k hk
        exact ⟨q, e, by omega⟩
      · obtain ⟨q, hq, rfl⟩ := List.mem_map.mp hk
        exact ⟨q, rfl, (pms_bd hq).2.2⟩
    have ll := lms_len l p
    have lr := lms_len r (p + l.size)
    have pl := (pms_perm l p).length_eq
    have pr := (pms_perm r (p + l.size)).length_eq
    obtain ⟨d2, o2, e2, rfl, ds2, rfl, b1⟩ := (note_keys n r (p + l.size) _ ds1 (by omega) a1 (by rw [List.length_append, List.length_map]; omega) hb1).ex
    have hn : kk p (p + l.size + r.size) ∉ ks ++ (pms l p).map kN ++ (pms r (p + l.size)).map kN := fun hm => by
      rcases List.mem_append.mp hm with hm | hm
      · obtain ⟨q, e, hq⟩ := hb1 _ hm
        have := kk_inj.mp e
        omega
      · obtain ⟨q, hq, e⟩ := List.mem_map.mp hm
        have := kk_inj.mp e
        have := pms_bd hq
        omega
    have hp := putKs_new hn
    show (F_note_parts (n + 1) [.tup [l.enc, r.enc], .int p] (.T ks, ds)).wp _ _
    unfold F_note_parts B_note_parts
    have e0 : neD (.tup [l.enc, r.enc]) (.tup []) = some (.bl true) := neD_sh (.n l r) .o (.inr (by decide))
    repeat (first | with_reducible refine Eq.mpr (DL.wp_eqn (e0)) ?_ | with_reducible refine Eq.mpr (DL.wp_ofOs (e0)) ?_ | with_reducible refine Eq.mpr (DL.wp_eqn (addN p 1)) ?_ | with_reducible refine Eq.mpr (DL.wp_ofOs (addN p 1)) ?_ | with_reducible refine Eq.mpr (DL.wp_eqn (e1)) ?_ | with_reducible refine Eq.mpr (DL.wp_ofOs (e1)) ?_ | with_reducible refine Eq.mpr (DL.wp_eqn (e2)) ?_ | with_reducible refine Eq.mpr (DL.wp_ofOs (e2)) ?_ | walk_at "ev1")
    refine sw_putTs rfl ?_
    repeat walk_at "ev1"
    refine ⟨_, _, ds2, rfl, rfl, by simp only [List.length_append, List.length_map]; omega, Nat.le_of_ble_eq_true rfl, ?_⟩
    repeat walk_at "ev1"
    have hpl := put_len (kk p (p + l.size + r.size)) (.tup [l.enc, r.enc]) b1
    have hp' : putKs (ks ++ (pms l p).map kN ++ (pms r (p + l.size)).map kN) (kk p (p + l.size + r.size)) = ks ++ (pms (.n l r) p).map kN := by
      rw [hp, pms, List.map_append, List.map_append, List.map_cons, List.map_nil, List.append_assoc, List.append_assoc, List.append_assoc, Nat.add_assoc]
    refine ⟨by simp only [Sh.size, Nat.add_assoc], putDs (ks ++ (pms l p).map kN ++ (pms r (p + l.size)).map kN) ds2 (kk p (p + l.size + r.size)) (.tup [l.enc, r.enc]), ?_, ?_⟩
    · exact Prod.ext (congrArg OKd.T hp') rfl
    · rw [← hp']; exact hpl
theorem lump_keys (s : Sh) (h : s.size ≤ 70) : ∃ ds, F_lump_parts [s.enc] = .ok (.dit ((pms s 0).map kN) ds) () := by
  suffices h : (F_lump_parts [s.enc]).wp (fun d _ => ∃ ds, d = .dit ((pms s 0).map kN) ds) X0 by
    obtain ⟨d, _, e, ds, rfl⟩ := h.ex
    exact ⟨ds, e⟩
  have hh := hgt_lt s
  obtain ⟨d1, o1, e1, rfl, ds1, rfl, a1⟩ := (note_keys 70 s 0 [] [] (by omega) rfl (by simp; omega) (fun _ h => absurd h (by simp))).ex
  unfold F_lump_parts B_lump_parts
  repeat walk_at "ev1"
  refine Eq.mpr sw_newT ?_
  repeat walk_at "ev1"
  refine sw_callW rfl ?_
  repeat (first | with_reducible refine Eq.mpr (DL.wp_eqn (e1)) ?_ | with_reducible refine Eq.mpr (DL.wp_ofOs (e1)) ?_ | walk_at "ev1")
  show sw (sRetW 1 [some (.d s.enc), some (.ow (.T ([] ++ (pms s 0).map kN)) ds1)] ()) _
  refine Eq.mpr (sw_retW (k := .T ([] ++ (pms s 0).map kN)) (xs := ds1) rfl) ?_
  exact ⟨ds1, rfl⟩
def pr2 (q : Nat × Nat) : D := .tup [.int (q.1 : Nat), .int (q.2 : Nat)]
theorem wp_iKy {Ω : Type} {τ : Tau} {ω : Ω} {a : E Ω D} {P : List D → Ω → Prop} {X} : (iKy a τ ω).wp P X = (a τ ω).wp (fun x ω1 => (R.ofO x.keysOf ω1).wp P X) X := by
  unfold iKy
  rw [wp_bind]
theorem keys_of (L : List (Nat × Nat)) (ds : List D) : (D.dit (L.map kN) ds).keysOf = some (L.map pr2) := by
  show some ((L.map kN).map fun k => D.tup (k.map kD')) = _
  rw [List.map_map]
  rfl
/-- the lumps of a stretch -/
theorem stretch_lumps_ok (s : Sh) (h : s.size ≤ 60) (R : List (Nat × Nat)) (W : Nat → Nat) (hR : ∀ k, k < s.size → R[k]? = some (W k, W (k + 1))) :
    FL_stretch_lumps [s.enc, .lst (R.map pr2)] = .ok (((pms s 0).filter big).map fun q => pr2 (W q.1, W q.2)) () := by
  obtain ⟨ds, e1⟩ := lump_keys s (by omega)
  have hpl := (pms_perm s 0).length_eq
  have hll := lms_len s 0
  suffices hh : (FL_stretch_lumps [s.enc, .lst (R.map pr2)]).wp (fun d _ => d = ((pms s 0).filter big).map fun q => pr2 (W q.1, W q.2)) X0 by
    obtain ⟨d, _, e, rfl⟩ := hh.ex
    exact e
  unfold FL_stretch_lumps BL_stretch_lumps
  have hs0 : startT 5 ([s.enc, D.lst (R.map pr2)].map Cell.d) = [some (.d s.enc), some (.d (.lst (R.map pr2))), none, none, none] := rfl
  rw [hs0]
  have hk := keys_of (pms s 0) ds
  refine Eq.mpr wp_runL ?_
  refine Eq.mpr slw_seq ?_
  repeat walk_at "ev1"
  refine Eq.mpr slw_seq ?_
  repeat walk_at "ev1"
  refine Eq.mpr wp_iKy ?_
  repeat (first | with_reducible refine Eq.mpr (DL.wp_eqn (e1)) ?_ | with_reducible refine Eq.mpr (DL.wp_ofOs (e1)) ?_ | with_reducible refine Eq.mpr (DL.wp_eqn (hk)) ?_ | with_reducible refine Eq.mpr (DL.wp_ofOs (hk)) ?_ | walk_at "ev1")
  refine loop_inv (fun i τ _ => ∃ c3 c4, τ = [some (.d s.enc), some (.d (.lst (R.map pr2))), some (.ow .L ((((pms s 0).take i).filter big).map fun q => pr2 (W q.1, W q.2))), c3, c4]) ⟨_, _, rfl⟩ ?_ ?_
  · rintro i d τ ω hd ⟨c3, c4, rfl⟩
    rw [List.getElem?_map] at hd
    obtain ⟨q, hq, rfl⟩ := Option.map_eq_some_iff.mp hd
    have hb := pms_bd (List.mem_of_getElem? hq)
    have hi := (List.getElem?_eq_some_iff.mp hq).1
    have ht : (pms s 0).take (i + 1) = (pms s 0).take i ++ [q] := by rw [List.take_add_one, hq]; rfl
    have s1 : subD (.int (q.2 : Nat)) (.int (q.1 : Nat)) = some (.int (q.2 - q.1 : Nat)) := subN _ _ (by omega)
    have g1 : gtD (.int (q.2 - q.1 : Nat)) (.int 1) = some (.bl (big q)) := congrArg (fun b => some (D.bl b)) (decide_eq_decide.mpr (by omega))
    refine ⟨_, rfl, ?_⟩
    repeat (first | with_reducible refine Eq.mpr (DL.wp_eqn (s1)) ?_ | with_reducible refine Eq.mpr (DL.wp_ofOs (s1)) ?_ | with_reducible refine Eq.mpr (DL.wp_eqn (g1)) ?_ | with_reducible refine Eq.mpr (DL.wp_ofOs (g1)) ?_ | walk_at "ev1")
    by_cases hc : big q = true
    · refine iteP hc ?_
      have ix1 : ixD (.lst (R.map pr2)) (.int (q.1 : Nat)) = some (pr2 (W q.1, W (q.1 + 1))) := ix_lst (k := q.1) rfl (by rw [List.getElem?_map, hR q.1 (by omega)]; rfl)
      have s2 : subD (.int (q.2 : Nat)) (.int 1) = some (.int (q.2 - 1 : Nat)) := subN _ 1 (by omega)
      have ix2 : ixD (.lst (R.map pr2)) (.int (q.2 - 1 : Nat)) = some (pr2 (W (q.2 - 1), W q.2)) := ix_lst (k := q.2 - 1) rfl (by rw [List.getElem?_map, hR (q.2 - 1) (by omega), show q.2 - 1 + 1 = q.2 by omega]; rfl)
      have x0 : ∀ r : Nat × Nat, ixD (pr2 r) (.int 0) = some (.int (r.1 : Nat)) := fun _ => rfl
      have x1 : ∀ r : Nat × Nat, ixD (pr2 r) (.int 1) = some (.int (r.2 : Nat)) := fun _ => rfl
      refine sw_appI rfl ?_ (by rw [List.length_map]; exact Nat.le_trans (List.length_filter_le _ _) (by rw [List.length_take]; omega))
      repeat (first | with_reducible refine Eq.mpr (DL.wp_eqn (ix1)) ?_ | with_reducible refine Eq.mpr (DL.wp_ofOs (ix1)) ?_ | with_reducible refine Eq.mpr (DL.wp_eqn (x0 (W q.1, W (q.1 + 1)))) ?_ | with_reducible refine Eq.mpr (DL.wp_ofOs (x0 (W q.1, W (q.1 + 1)))) ?_ | with_reducible refine Eq.mpr (DL.wp_eqn (s2)) ?_ | with_reducible refine Eq.mpr (DL.wp_ofOs (s2)) ?_ | with_reducible refine Eq.mpr (DL.wp_eqn (ix2)) ?_ | with_reducible refine Eq.mpr (DL.wp_ofOs (ix2)) ?_ | with_reducible refine Eq.mpr (DL.wp_eqn (x1 (W (q.2 - 1), W q.2))) ?_ | with_reducible refine Eq.mpr (DL.wp_ofOs (x1 (W (q.2 - 1), W q.2))) ?_ | walk_at "ev1")
      refine ⟨some (.d (.int (q.1 : Nat))), some (.d (.int (q.2 : Nat))), ?_⟩
      rw [ht, List.filter_append, List.map_append, List.filter_cons_of_pos hc]
      rfl
    · refine iteN hc ?_
      repeat walk_at "ev1"
      refine ⟨some (.d (.int (q.1 : Nat))), some (.d (.int (q.2 : Nat))), ?_⟩
      rw [ht, List.filter_append, List.filter_cons_of_neg hc, List.filter_nil, List.append_nil]
      rfl
  · rintro τ ω ⟨c3, c4, rfl⟩
    rw [List.length_map, List.take_length]
    refine Eq.mpr (slw_retO rfl) ?_
    rfl
/-- the lumps of an end -/
theorem end_lumps_ok (b : Bool) (R : List Sh) (hR : R ≠ []) (hl : R.length ≤ 200) (e : D) (he : eqD e (.str "left") = some (.bl b)) :
    ∃ L : List (Nat × Nat), FL_end_lumps [e, .lst ((posL 0 R).map pr2)] = .ok (L.map pr2) () ∧ L.Perm (((lms (cmb b (R.length - 1)) 0).filter big).map fun q => (sumS (R.take q.1), sumS (R.take q.2))) ∧ L.length ≤ 200 := by
  have hm := List.length_pos_iff.mpr hR
  have hp := posL_len R 0
  have hg := posL_get R 0
  suffices hh : (FL_end_lumps [e, .lst ((posL 0 R).map pr2)]).wp (fun d _ => ∃ L : List (Nat × Nat), d = L.map pr2 ∧ L.Perm (((lms (cmb b (R.length - 1)) 0).filter big).map fun q => (sumS (R.take q.1), sumS (R.take q.2))) ∧ L.length ≤ 200) X0 by
    obtain ⟨d, _, e, L, rfl, h⟩ := hh.ex
    exact ⟨L, e, h⟩
  unfold FL_end_lumps BL_end_lumps
  have hs0 : startT 3 ([e, D.lst ((posL 0 R).map pr2)].map Cell.d) = [some (.d e), some (.d (.lst ((posL 0 R).map pr2))), none] := rfl
  rw [hs0]
  have x0 : ∀ r : Nat × Nat, ixD (pr2 r) (.int 0) = some (.int (r.1 : Nat)) := fun _ => rfl
  have x1 : ∀ r : Nat × Nat, ixD (pr2 r) (.int 1) = some (.int (r.2 : Nat)) := fun _ => rfl
  refine Eq.mpr wp_runL ?_
  refine Eq.mpr slw_ifs ?_
  repeat (first | with_reducible refine Eq.mpr (DL.wp_eqn (he)) ?_ | with_reducible refine Eq.mpr (DL.wp_ofOs (he)) ?_ | walk_at "ev1")
  cases b with
  | true =>
    have hsl : sliceD (.lst ((posL 0 R).map pr2)) (some (1 : Int)) none = some (.lst (((posL 0 R).drop 1).map pr2)) := by
      show some (D.lst (cutL ((posL 0 R).map pr2) (some ((1 : Nat) : Int)) none)) = _
      rw [cut_from, ← List.map_drop]
    have ixh : ixD (.lst ((posL 0 R).map pr2)) (.int 0) = some (pr2 (0, sumS (R.take 1))) := ix_lst (k := 0) rfl (by rw [List.getElem?_map, hg 0 hm]; simp [sumS])
    have itl : (D.lst (((posL 0 R).drop 1).map pr2)).itemsS = some (((posL 0 R).drop 1).map pr2) := rfl
    refine Eq.mpr slw_ret ?_
    repeat (first | with_reducible refine Eq.mpr (DL.wp_eqn (hsl)) ?_ | with_reducible refine Eq.mpr (DL.wp_ofOs (hsl)) ?_ | with_reducible refine Eq.mpr (DL.wp_eqn (itl)) ?_ | with_reducible refine Eq.mpr (DL.wp_ofOs (itl)) ?_ | walk_at "ev1")
    refine ⟨by rw [List.length_map, List.length_drop, sizeLine_eq]; omega, ?_⟩
    refine lc_each pr2 (fun q => pr2 (0, q.2)) ((posL 0 R).drop 1) (fun q hq => ⟨_, rfl, ?_⟩) ?_
    · repeat (first | with_reducible refine Eq.mpr (DL.wp_eqn (ixh)) ?_ | with_reducible refine Eq.mpr (DL.wp_ofOs (ixh)) ?_ | with_reducible refine Eq.mpr (DL.wp_eqn (x0 (0, sumS (R.take 1)))) ?_ | with_reducible refine Eq.mpr (DL.wp_ofOs (x0 (0, sumS (R.take 1)))) ?_ | with_reducible refine Eq.mpr (DL.wp_eqn (x1 q)) ?_ | with_reducible refine Eq.mpr (DL.wp_ofOs (x1 q)) ?_ | walk_at "ev1")
      exact ⟨rfl, rfl⟩
    · refine ⟨((posL 0 R).drop 1).map fun q => (0, q.2), by rw [List.map_map]; rfl, ?_, by rw [List.length_map, List.length_drop]; omega⟩
      refine List.Perm.trans (List.Perm.of_eq ?_) ((big_left (R.length - 1) 0).map _).symm
      apply List.ext_getElem?
      intro i
      rw [List.getElem?_map, List.getElem?_map, List.getElem?_map, List.getElem?_drop]
      by_cases hi : i < R.length - 1
      · rw [hg (1 + i) (by omega), List.getElem?_range hi]
        simp only [Option.map_some, Nat.zero_add]
        rw [show 1 + i + 1 = i + 2 by omega, List.take_zero]
        rfl
      · rw [List.getElem?_eq_none (by rw [hp]; omega), List.getElem?_eq_none (by rw [List.length_range]; omega)]
        rfl
  | false =>
    have ng : negD (.int 1) = some (.int (-1)) := rfl
    have hsl : sliceD (.lst ((posL 0 R).map pr2)) none (some (-1 : Int)) = some (.lst (((posL 0 R).dropLast).map pr2)) := by
      show some (D.lst (cutL ((posL 0 R).map pr2) none (some (-1)))) = _
      rw [cut_m1y, List.map_dropLast]
    have ixh : ixD (.lst ((posL 0 R).map pr2)) (.int (-1)) = some (pr2 (sumS (R.take (R.length - 1)), sumS R)) := by
      have e1 : (posL 0 R).map pr2 = ((posL 0 R).dropLast).map pr2 ++ [pr2 (sumS (R.take (R.length - 1)), sumS R)] := by
        have hl := List.dropLast_concat_getLast (l := posL 0 R) (by intro z; rw [z] at hp; simp at hp; omega)
        conv => lhs; rw [← hl]
        rw [List.map_append]
        congr 2
        have hz := hg (R.length - 1) (by omega)
        rw [← hp, ← List.getLast?_eq_getElem?, List.getLast?_eq_getLast (by intro z; rw [z] at hp; simp at hp; omega)] at hz
        rw [Option.some.inj hz, hp, show R.length - 1 + 1 = R.length by omega, List.take_length]
        simp
      rw [e1]
      show L2.atI _ (-1) = _
      exact atI_last
    have itl : (D.lst (((posL 0 R).dropLast).map pr2)).itemsS = some (((posL 0 R).dropLast).map pr2) := rfl
    refine Eq.mpr slw_ret ?_
    repeat (first | with_reducible refine Eq.mpr (DL.wp_eqn (ng)) ?_ | with_reducible refine Eq.mpr (DL.wp_ofOs (ng)) ?_ | with_reducible refine Eq.mpr (DL.wp_eqn (hsl)) ?_ | with_reducible refine Eq.mpr (DL.wp_ofOs (hsl)) ?_ | with_reducible refine Eq.mpr (DL.wp_eqn (itl)) ?_ | with_reducible refine Eq.mpr (DL.wp_ofOs (itl)) ?_ | walk_at "ev1")
    refine ⟨by rw [List.length_map, List.length_dropLast, sizeLine_eq]; omega, ?_⟩
    refine lc_each pr2 (fun q => pr2 (q.1, sumS R)) ((posL 0 R).dropLast) (fun q hq => ⟨_, rfl, ?_⟩) ?_
    · repeat (first | with_reducible refine Eq.mpr (DL.wp_eqn (x0 q)) ?_ | with_reducible refine Eq.mpr (DL.wp_ofOs (x0 q)) ?_ | with_reducible refine Eq.mpr (DL.wp_eqn (ng)) ?_ | with_reducible refine Eq.mpr (DL.wp_ofOs (ng)) ?_ | with_reducible refine Eq.mpr (DL.wp_eqn (ixh)) ?_ | with_reducible refine Eq.mpr (DL.wp_ofOs (ixh)) ?_ | with_reducible refine Eq.mpr (DL.wp_eqn (x1 (sumS (R.take (R.length - 1)), sumS R))) ?_ | with_reducible refine Eq.mpr (DL.wp_ofOs (x1 (sumS (R.take (R.length - 1)), sumS R))) ?_ | walk_at "ev1")
      exact ⟨rfl, rfl⟩
    · refine ⟨((posL 0 R).dropLast).map fun q => (q.1, sumS R), by rw [List.map_map]; rfl, ?_, by rw [List.length_map, List.length_dropLast]; omega⟩
      rw [big_right]
      refine List.Perm.of_eq ?_
      apply List.ext_getElem?
      intro i
      rw [List.getElem?_map, List.getElem?_map, List.getElem?_map, List.getElem?_dropLast]
      by_cases hi : i < R.length - 1
      · rw [if_pos (by rw [hp]; exact hi), hg i (by omega), List.getElem?_range hi]
        simp only [Option.map_some, Nat.zero_add]
        rw [show R.length - 1 + 1 = R.length by omega, List.take_length]
      · rw [if_neg (by rw [hp]; exact hi), List.getElem?_eq_none (by rw [List.length_range]; omega)]
        rfl
theorem stretches_ok (m b : Nat) (hb : 1 ≤ b) (h1 : b < 100000) (h2 : m < 100000) :
    F_stretches [.int m, .int b] = .ok (.lst ((List.range ((m + b - 1) / b)).map fun i => .tup [.int (i * b : Nat), .int (min (i * b + b) m : Nat)])) () := by
  apply R.wp.equ
  unfold F_stretches B_stretches
  repeat (first | with_reducible refine Eq.mpr (DL.wp_eqn (rg3_nat m b hb h1 h2)) ?_ | with_reducible refine Eq.mpr (DL.wp_ofOs (rg3_nat m b hb h1 h2)) ?_ | walk_at "ev1")
  refine ⟨?_, lc_map (fun i => .tup [.int (i * b : Nat), .int (min (i * b + b) m : Nat)]) (fun i d hd => ?_) ?_⟩
  · rw [rangeL_len]
    have : (m + b - 1) / b ≤ m + b - 1 := Nat.div_le_self _ _
    have := sizeLine_eq
    omega
  · obtain ⟨rfl, hi⟩ := rangeL_get _ _ _ _ _ hd
    refine ⟨_, rfl, ?_⟩
    repeat walk_at "ev1"
    refine ⟨?_, rfl⟩
    congr 2
    · congr 1; push_cast; omega
    · congr 2
      push_cast
      split <;> omega
  · repeat walk_at "ev1"
    rw [rangeL_len]
def Ain : S Unit := (sSeq (sAsg (eSl (eVar 2) (oSome (eVar 6)) (oSome (eVar 7))) (bName 8)) (sSeq (sExt 3 (cL FL_stretch_lumps (aCons (cD F_entry (aCons (eVar 4) (aCons (eOp subD (eVar 7) (eVar 6)) aNil))) (aCons (eVar 8) aNil)))) (sApp 5 (eTup (aCons (eOp ixD (eOp ixD (eVar 8) (eC (.int 0))) (eC (.int 0))) (aCons (eOp ixD (eOp ixD (eVar 8) (eUn negD (eC (.int 1)))) (eC (.int 1))) aNil))))))
def Ast : S Unit := (sSeq (sSetO (eLst aNil) 5) (sSeq (sFor (iSq (cD F_stretches (aCons (eCall (un1 lenD) (aCons (eVar 2) aNil)) (aCons (cD F_table_size (aCons (eVar 4) aNil)) aNil)))) (bTup 2 (bCons (bName 6) (bCons (bName 7) bNil))) Ain) (sPre 5 (sAsg (eVar 5) (bName 2)))))
theorem rl_len : ∀ (xs : List Sh) (a : Nat), (rl a xs).length + xs.length = 2 * sumS xs
  | [], _ => rfl
  | x :: xs, a => by
    have h1 := rl_len xs (a + x.size)
    have h2 := lms_len x a
    rw [rl, List.length_append, List.length_cons]
    show _ = 2 * (x.size + sumS xs)
    omega
theorem prs_at (t : Tab) (row : List Sh) {i : Nat} (h : i < (prs t row).length) : (prs t row)[i]? = some (fill (ent t (min (bsz t) (row.length - i * bsz t))) (row.drop (i * bsz t))) := by
  have e := prs_range t _ row rfl
  rw [e] at h ⊢
  rw [List.length_map, List.length_range] at h
  rw [List.getElem?_map, List.getElem?_range h]
  rfl
theorem prs_sum (t : Tab) (hw : WT t) : ∀ (i : Nat) (row : List Sh), sumS ((prs t row).take i) = sumS (row.take (i * bsz t))
  | 0, row => by simp [sumS]
  | i + 1, row => by
    by_cases h : row = []
    · subst h; rw [prs_nil]; simp
    · rw [prs_ne t h, List.take_succ_cons]
      show (fill (ent t (min (bsz t) row.length)) row).size + sumS ((prs t (row.drop (bsz t))).take i) = _
      have hl : 1 ≤ row.length := List.length_pos_iff.mpr h
      have hb : 1 ≤ bsz t := by unfold bsz; omega
      have hs := hw.ent (m := min (bsz t) row.length) (by omega) (by omega)
      rw [fill_size _ _ (by omega), prs_sum t hw i, hs, Nat.succ_mul, Nat.add_comm (i * bsz t), take_sum]
      congr 1
      by_cases hc : bsz t ≤ row.length
      · rw [Nat.min_eq_left hc]
      · rw [Nat.min_eq_right (by omega), List.take_length, List.take_of_length_le (by omega)]
abbrev A9 (ts : List Tab) (e : PEnd) (n : Nat) (row : List Sh) (F : List (Nat × Nat)) (c4 c5 c6 c7 c8 : Option Cell) : Tau :=
  [some (.d (plD ts e)), some (.d (.int (n : Nat))), some (.d (.lst ((posL 0 row).map pr2))), some (.ow .L (F.map pr2)), c4, c5, c6, c7, c8]
theorem stage_ok (ts : List Tab) (e : PEnd) (n : Nat) {t : Tab} (hw : WT t) (hb16 : bsz t ≤ 16) (row : List Sh) (hrow : row.length ≤ 200) (hsum : sumS row ≤ 200) (F : List (Nat × Nat)) (hF : F.Perm (rl 0 row)) (c5 c6 c7 c8 : Option Cell) {P : Fl → Unit → Prop}
    (k : ∀ (F' : List (Nat × Nat)) (c5 c6 c7 c8 : Option Cell), F'.Perm (rl 0 (prs t row)) → P (.nx (A9 ts e n (prs t row) F' (some (.d (tb t))) c5 c6 c7 c8)) ()) :
    sw (Ast (A9 ts e n row F (some (.d (tb t))) c5 c6 c7 c8) ()) P := by
  have hb1 : 1 ≤ bsz t := by unfold bsz; omega
  have hpl := posL_len row 0
  have el : un1 lenD [.lst ((posL 0 row).map pr2)] = some (.int (row.length : Nat)) := by
    show some (D.int (((posL 0 row).map pr2).length : Nat)) = _
    rw [List.length_map, hpl]
  have ets := table_size_ok t
  have est := stretches_ok row.length (bsz t) hb1 (by omega) (by omega)
  have hK : (prs t row).length = (row.length + bsz t - 1) / bsz t := prs_len t row
  unfold Ast
  refine Eq.mpr sw_seq ?_
  have itl : (D.lst ((List.range ((row.length + bsz t - 1) / bsz t)).map fun i => D.tup [.int (i * bsz t : Nat), .int (min (i * bsz t + bsz t) row.length : Nat)])).itemsS = some ((List.range ((row.length + bsz t - 1) / bsz t)).map fun i => D.tup [.int (i * bsz t : Nat), .int (min (i * bsz t + bsz t) row.length : Nat)]) := rfl
  repeat (first | with_reducible refine Eq.mpr (DL.wp_eqn (el)) ?_ | with_reducible refine Eq.mpr (DL.wp_ofOs (el)) ?_ | with_reducible refine Eq.mpr (DL.wp_eqn (ets)) ?_ | with_reducible refine Eq.mpr (DL.wp_ofOs (ets)) ?_ | with_reducible refine Eq.mpr (DL.wp_eqn (est)) ?_ | with_reducible refine Eq.mpr (DL.wp_ofOs (est)) ?_ | with_reducible refine Eq.mpr (DL.wp_eqn (itl)) ?_ | with_reducible refine Eq.mpr (DL.wp_ofOs (itl)) ?_ | walk_at "ev1")
  refine loop_inv (fun k τ _ => ∃ (G : List (Nat × Nat)) (c6 c7 c8 : Option Cell), G.Perm (rl 0 ((prs t row).take k) ++ rl (sumS (row.take (k * bsz t))) (row.drop (k * bsz t))) ∧
    τ = A9 ts e n row G (some (.d (tb t))) (some (.ow .L ((posL 0 ((prs t row).take k)).map pr2))) c6 c7 c8) ⟨F, c6, c7, c8, by simpa [rl, sumS] using hF, rfl⟩ ?_ ?_
  · rintro k d τ ω hd ⟨G, c6, c7, c8, hG, rfl⟩
    have hk : k < (row.length + bsz t - 1) / bsz t := by
      have := (List.getElem?_eq_some_iff.mp hd).1
      simpa using this
    rw [List.getElem?_map, List.getElem?_range hk] at hd
    have hd2 : d = D.tup [.int (k * bsz t : Nat), .int (min (k * bsz t + bsz t) row.length : Nat)] := (Option.some.inj hd).symm
    clear hd
    have hkm : k * bsz t < row.length := by
      have := (Nat.le_div_iff_mul_le (show 0 < bsz t by omega)).mp (show k + 1 ≤ _ from hk)
      rw [Nat.succ_mul] at this
      omega
    obtain ⟨i, hi⟩ : ∃ i, i = k * bsz t := ⟨_, rfl⟩
    obtain ⟨m, hm⟩ : ∃ m, m = min (bsz t) (row.length - i) := ⟨_, rfl⟩
    have hj : min (k * bsz t + bsz t) row.length = i + m := by omega
    rw [hj, ← hi] at hd2
    subst hd2
    rw [← hi] at hG hkm
    have hz := hw.ent (m := m) (by omega) (by omega)
    have hent := entry_ok t m (by omega) (by omega)
    have s1 : subD (.int (i + m : Nat)) (.int (i : Nat)) = some (.int (m : Nat)) := by
      have := subN (i + m) i (by omega)
      rw [Nat.add_sub_cancel_left] at this
      exact this
    have hsl : sliceD (.lst ((posL 0 row).map pr2)) (some (i : Int)) (some ((i + m : Nat) : Int)) = some (.lst ((((posL 0 row).drop i).take m).map pr2)) := by
      show some (D.lst (cutL ((posL 0 row).map pr2) (some (i : Int)) (some ((i + m : Nat) : Int)))) = _
      rw [cut_nat, Nat.add_sub_cancel_left, ← List.map_drop, ← List.map_take]
    have hR : ∀ x, x < m → (((posL 0 row).drop i).take m)[x]? = some (sumS (row.take (i + x)), sumS (row.take (i + x + 1))) := fun x hx => by
      rw [List.getElem?_take_of_lt hx, List.getElem?_drop, posL_get row 0 (i + x) (by omega), Nat.zero_add, Nat.zero_add]
    have hst := stretch_lumps_ok (ent t m) (by omega) (((posL 0 row).drop i).take m) (fun x => sumS (row.take (i + x))) (fun x hx => by rw [hR x (by omega)]; rfl)
    have hRl : (((posL 0 row).drop i).take m).length = m := by rw [List.length_take, List.length_drop, hpl]; omega
    have ix0 : ixD (.lst ((((posL 0 row).drop i).take m).map pr2)) (.int 0) = some (pr2 (sumS (row.take i), sumS (row.take (i + 1)))) := ix_lst (k := 0) rfl (by rw [List.getElem?_map, hR 0 (by omega)]; rfl)
    have ixl : ixD (.lst ((((posL 0 row).drop i).take m).map pr2)) (.int (-1)) = some (pr2 (sumS (row.take (i + (m - 1))), sumS (row.take (i + m)))) := by
      have hne : ((posL 0 row).drop i).take m ≠ [] := by intro z; rw [z] at hRl; simp at hRl; omega
      have hl := List.dropLast_concat_getLast hne
      have hz2 := hR (m - 1) (by omega)
      rw [show (((posL 0 row).drop i).take m)[m - 1]? = (((posL 0 row).drop i).take m).getLast? by rw [List.getLast?_eq_getElem?, hRl], List.getLast?_eq_getLast hne] at hz2
      rw [← hl, List.map_append, Option.some.inj hz2, show i + (m - 1) + 1 = i + m by omega]
      show L2.atI _ (-1) = _
      exact atI_last
    have x0 : ∀ r : Nat × Nat, ixD (pr2 r) (.int 0) = some (.int (r.1 : Nat)) := fun _ => rfl
    have x1 : ∀ r : Nat × Nat, ixD (pr2 r) (.int 1) = some (.int (r.2 : Nat)) := fun _ => rfl
    have ng : negD (.int 1) = some (.int (-1)) := rfl
    have hkK : k < (prs t row).length := by rw [hK]; exact hk
    have hat := prs_at t row hkK
    rw [← hi, ← hm] at hat
    have htk : (prs t row).take (k + 1) = (prs t row).take k ++ [fill (ent t m) (row.drop i)] := by rw [List.take_add_one, hat]; rfl
    have hsk := prs_sum t hw k row
    rw [← hi] at hsk
    have hfs : (fill (ent t m) (row.drop i)).size = sumS ((row.drop i).take m) := by rw [fill_size _ _ (by rw [List.length_drop]; omega), hz]
    have hk1 : row.take ((k + 1) * bsz t) = row.take (i + m) := by
      rw [Nat.succ_mul, ← hi]
      by_cases hc : bsz t ≤ row.length - i
      · rw [hm, Nat.min_eq_left hc]
      · rw [List.take_of_length_le (by omega), List.take_of_length_le (by omega)]
    have hk2 : row.drop ((k + 1) * bsz t) = (row.drop i).drop m := by
      rw [List.drop_drop, Nat.succ_mul, ← hi]
      by_cases hc : bsz t ≤ row.length - i
      · rw [hm, Nat.min_eq_left hc]
      · rw [List.drop_eq_nil_of_le (by omega), List.drop_eq_nil_of_le (by omega)]
    have hgl := hG.length_eq
    have hr1 := rl_len ((prs t row).take k) 0
    have hr2 := rl_len (row.drop i) (sumS (row.take i))
    have hdr := sumS_app (row.take i) (row.drop i)
    rw [List.take_append_drop] at hdr
    rw [List.length_append] at hgl
    have hGl : G.length ≤ 900 := by omega
    have hpl2 := (pms_perm (ent t m) 0).length_eq
    have hll := lms_len (ent t m) 0
    have hfl := List.length_filter_le big (pms (ent t m) 0)
    refine ⟨_, rfl, ?_⟩
    unfold Ain
    refine Eq.mpr sw_seq ?_
    refine sw.mono (P := fun f ω' => f = .nx (A9 ts e n row G (some (.d (tb t))) (some (.ow .L ((posL 0 ((prs t row).take k)).map pr2))) (some (.d (.int (i : Nat)))) (some (.d (.int (i + m : Nat)))) (some (.d (.lst ((((posL 0 row).drop i).take m).map pr2)))))) (by
      repeat (first | with_reducible refine Eq.mpr (DL.wp_eqn (hsl)) ?_ | with_reducible refine Eq.mpr (DL.wp_ofOs (hsl)) ?_ | walk_at "ev1")
      rfl) ?_
    rintro f ω1 rfl
    refine Eq.mpr sw_seq ?_
    refine sw.mono (P := fun f ω' => f = .nx (A9 ts e n row (G ++ ((pms (ent t m) 0).filter big).map fun q => (sumS (row.take (i + q.1)), sumS (row.take (i + q.2)))) (some (.d (tb t))) (some (.ow .L ((posL 0 ((prs t row).take k)).map pr2))) (some (.d (.int (i : Nat)))) (some (.d (.int (i + m : Nat)))) (some (.d (.lst ((((posL 0 row).drop i).take m).map pr2)))))) (by
      refine sw_ext rfl ?_
      refine Eq.mpr wp_cL ?_
      repeat (first | with_reducible refine Eq.mpr (DL.wp_eqn (s1)) ?_ | with_reducible refine Eq.mpr (DL.wp_ofOs (s1)) ?_ | with_reducible refine Eq.mpr (DL.wp_eqn (hent)) ?_ | with_reducible refine Eq.mpr (DL.wp_ofOs (hent)) ?_ | with_reducible refine Eq.mpr (DL.wp_eqn (hst)) ?_ | with_reducible refine Eq.mpr (DL.wp_ofOs (hst)) ?_ | walk_at "ev1")
      refine ⟨by rw [List.length_map, List.length_map]; omega, ?_⟩
      show Fl.nx _ = Fl.nx (A9 _ _ _ _ _ _ _ _ _ _)
      unfold A9
      rw [List.map_append, List.map_map]
      rfl) ?_
    rintro f ω2 rfl
    have hpk := posL_len ((prs t row).take k) 0
    have htl : ((prs t row).take k).length ≤ (prs t row).length := by rw [List.length_take]; omega
    have hK200 : (prs t row).length ≤ 200 := by
      rw [hK]
      refine Nat.le_trans (Nat.div_le_of_le_mul ?_) hrow
      have h1 : 1 * (bsz t - 1) ≤ row.length * (bsz t - 1) := Nat.mul_le_mul_right _ (by omega)
      have h2 : bsz t * row.length = row.length * (bsz t - 1) + row.length := by
        obtain ⟨c, hc⟩ : ∃ c, bsz t = c + 1 := ⟨bsz t - 1, by omega⟩
        rw [hc, Nat.add_sub_cancel, Nat.succ_mul, Nat.mul_comm c]
      omega
    refine sw_appI rfl ?_ (by rw [List.length_map, hpk]; omega)
    repeat (first | with_reducible refine Eq.mpr (DL.wp_eqn (ix0)) ?_ | with_reducible refine Eq.mpr (DL.wp_ofOs (ix0)) ?_ | with_reducible refine Eq.mpr (DL.wp_eqn (x0 (sumS (row.take i), sumS (row.take (i + 1))))) ?_ | with_reducible refine Eq.mpr (DL.wp_ofOs (x0 (sumS (row.take i), sumS (row.take (i + 1))))) ?_ | with_reducible refine Eq.mpr (DL.wp_eqn (ng)) ?_ | with_reducible refine Eq.mpr (DL.wp_ofOs (ng)) ?_ | with_reducible refine Eq.mpr (DL.wp_eqn (ixl)) ?_ | with_reducible refine Eq.mpr (DL.wp_ofOs (ixl)) ?_ | with_reducible refine Eq.mpr (DL.wp_eqn (x1 (sumS (row.take (i + (m - 1))), sumS (row.take (i + m))))) ?_ | with_reducible refine Eq.mpr (DL.wp_ofOs (x1 (sumS (row.take (i + (m - 1))), sumS (row.take (i + m))))) ?_ | walk_at "ev1")
    refine ⟨G ++ ((pms (ent t m) 0).filter big).map fun q => (sumS (row.take (i + q.1)), sumS (row.take (i + q.2))), some (.d (.int (i : Nat))), some (.d (.int (i + m : Nat))), some (.d (.lst ((((posL 0 row).drop i).take m).map pr2))), ?_, ?_⟩
    · have lf := List.perm_iff_count.mp (lms_fill (ent t m) 0 (row.drop i) (sumS (row.take i)) (fun x => sumS (row.take (i + x))) (by rw [List.length_drop]; omega) fun x hx => by
        rw [Nat.zero_add, take_sum])
      rw [hz] at lf
      have pf := List.perm_iff_count.mp (((pms_perm (ent t m) 0).filter big).map fun q : Nat × Nat => (sumS (row.take (i + q.1)), sumS (row.take (i + q.2))))
      have gf := List.perm_iff_count.mp hG
      have hsp : rl (sumS (row.take i)) (row.drop i) = rl (sumS (row.take i)) ((row.drop i).take m) ++ rl (sumS (row.take i) + sumS ((row.drop i).take m)) ((row.drop i).drop m) := by
        rw [← rl_app, List.take_append_drop]
      refine List.perm_iff_count.mpr fun x => ?_
      have g1 := gf x
      have l1 := lf x
      have p1 := pf x
      rw [hsp] at g1
      simp only [List.count_append] at g1 l1
      rw [htk, rl_app, hk1, hk2, take_sum]
      simp only [List.count_append, Nat.zero_add]
      rw [p1, g1, hsk]
      show _ = _ + List.count x (rl (sumS (row.take i)) [fill (ent t m) (row.drop i)]) + _
      rw [rl, rl, List.append_nil, l1]
      omega
    · show List.set _ _ _ = A9 _ _ _ _ _ _ _ _ _ _
      have hpb : (posL 0 ((prs t row).take k)).map pr2 ++ [.tup [.int (sumS (row.take i) : Nat), .int (sumS (row.take (i + m)) : Nat)]] = (posL 0 ((prs t row).take (k + 1))).map pr2 := by
        rw [htk, posL_app, List.map_append, Nat.zero_add, hsk, posL, posL, hfs, ← take_sum]
        rfl
      unfold A9
      rw [← hpb]
      rfl
  · rintro τ ω ⟨G, c6, c7, c8, hG, rfl⟩
    rw [List.length_map, List.length_range, ← hK, List.take_length] at hG ⊢
    have hdl : row.drop ((prs t row).length * bsz t) = [] := List.drop_eq_nil_of_le (by
      rw [hK]
      have e1 := Nat.div_add_mod (row.length + bsz t - 1) (bsz t)
      have e2 := Nat.mod_lt (row.length + bsz t - 1) (show 0 < bsz t by omega)
      rw [Nat.mul_comm ((row.length + bsz t - 1) / bsz t)]
      omega)
    rw [hdl] at hG
    refine Eq.mpr (sw_pre (xs := (posL 0 (prs t row)).map pr2) rfl) ?_
    repeat walk_at "ev1"
    refine k G _ _ _ _ ?_
    have h0 : rl (sumS (row.take ((prs t row).length * bsz t))) [] = [] := rfl
    rw [h0, List.append_nil] at hG
    exact hG
theorem prsI_of_pr2 : ∀ L : List (Nat × Nat), prsI (L.map pr2) = some (L.map toI)
  | [] => rfl
  | q :: L => by
    show (prsI (L.map pr2)).map (((q.1 : Int), (q.2 : Int)) :: ·) = _
    rw [prsI_of_pr2 L]; rfl
theorem wp_sortKL {Ω : Type} {Fe : E Ω D} {τ : Tau} {ω : Ω} {P : List D → Ω → Prop} {X : Exn → Ω → Prop} : (eSortKL Fe τ ω).wp P X = (Fe τ ω).wp (fun d ω1 => (R.ofO (sortKLD d) ω1).wp P X) X := by
  unfold eSortKL
  rw [wp_bind]
theorem sortKL_pr2 (L : List (Nat × Nat)) : sortKLD (.lst (L.map pr2)) = some ((sortK (L.map toI)).map DL.intP) := by
  unfold sortKLD
  dsimp only
  rw [prsI_of_pr2]
  rfl
theorem in_order_ok (L : List (Nat × Nat)) : F_in_order [.lst (L.map pr2)] = .ok (.lst ((sortK (L.map toI)).map DL.intP)) () := by
  apply R.wp.equ
  unfold F_in_order B_in_order
  have hs0 : startT 1 ([D.lst (L.map pr2)].map Cell.d) = [some (.d (.lst (L.map pr2)))] := rfl
  rw [hs0]
  have e := sortKL_pr2 L
  repeat walk_at "ev1"
  refine Eq.mpr wp_sortKL ?_
  repeat (first | with_reducible refine Eq.mpr (DL.wp_eqn (e)) ?_ | with_reducible refine Eq.mpr (DL.wp_ofOs (e)) ?_ | walk_at "ev1")
  rfl
theorem in_orderL_ok (L : List (Nat × Nat)) : FL_in_order [.lst (L.map pr2)] = .ok ((sortK (L.map toI)).map DL.intP) () := by
  suffices hh : (FL_in_order [.lst (L.map pr2)]).wp (fun d _ => d = (sortK (L.map toI)).map DL.intP) X0 by
    obtain ⟨d, _, e, rfl⟩ := hh.ex
    exact e
  unfold FL_in_order BL_in_order
  have hs0 : startT 1 ([D.lst (L.map pr2)].map Cell.d) = [some (.d (.lst (L.map pr2)))] := rfl
  rw [hs0]
  have e := sortKL_pr2 L
  refine Eq.mpr wp_runL ?_
  refine Eq.mpr slw_ret ?_
  refine Eq.mpr wp_sortKL ?_
  repeat (first | with_reducible refine Eq.mpr (DL.wp_eqn (e)) ?_ | with_reducible refine Eq.mpr (DL.wp_ofOs (e)) ?_ | walk_at "ev1")
  rfl
theorem all_lumps_ok {ts : List Tab} {e : PEnd} (h : GT ts) (he : e.ok) {n J : Nat} (hn1 : 1 ≤ n) (hn : n ≤ 200) (s : Stop (stg ts e) n J) :
    F_all_lumps [plD ts e, .int (n : Nat)] = .ok (.lst ((lms (endS (isL e) (rws (stg ts e) n J)) 0).map pr2)) () := by
  have hg := stg_sg h he
  have htu := tables_used_ok he hg hn1 (by omega) s
  have hwt := stg_wt h he
  have hlen := rws_len hg hn1
  have hne := rws_ne hg hn1
  have hsum := rws_sum hwt n
  have hpos := hg.pos
  have hgo : ∀ j, j < J → stg ts e j ≠ none := fun j hj => (s.go j hj).2
  have hb : ∀ j t, stg ts e j = some t → bsz t ≤ 16 := fun j t q => (stg_gt h he q).2
  have heq : eqD (endD e) (.str "left") = some (.bl (isL e)) := eq_endL e
  have he0 : F_Plan_end [plD ts e] = .ok (endD e) () := end_ok _ _
  have hlk : List.lookup ("end" : Str) ((["_tables", "_end"] : List Str).zip [D.tup (ts.map tb), endD e]) = none := by kernel_rfl
  generalize stg ts e = st at *
  have hrl : ∀ j, (rws st n j).length ≤ 200 := fun j => by rw [hlen j]; exact Nat.le_trans (upn_le (hpos j) hn1) hn
  have est := stretches_ok n 1 (by omega) (by omega) (by omega)
  have hst0 : ((List.range ((n + 1 - 1) / 1)).map fun i => D.tup [.int (i * 1 : Nat), .int (min (i * 1 + 1) n : Nat)]) = (posL 0 (osh n)).map pr2 := by
    have hol : (osh n).length = n := List.length_replicate
    apply List.ext_getElem?
    intro i
    rw [List.getElem?_map, List.getElem?_map]
    by_cases hi : i < n
    · rw [List.getElem?_range (by omega), posL_get (osh n) 0 i (by omega), osh_take n i (by omega), osh_take n (i + 1) (by omega)]
      show some (D.tup [.int (i * 1 : Nat), .int (min (i * 1 + 1) n : Nat)]) = some (D.tup [.int (0 + i : Nat), .int (0 + (i + 1) : Nat)])
      rw [Nat.mul_one, Nat.min_eq_left (by omega), Nat.zero_add, Nat.zero_add]
    · rw [List.getElem?_eq_none (by rw [List.length_range]; omega), List.getElem?_eq_none (by rw [posL_len, hol]; omega)]
      rfl
  rw [hst0] at est
  have it0 : (D.lst ((posL 0 (osh n)).map pr2)).itemsS = some ((posL 0 (osh n)).map pr2) := rfl
  apply R.wp.equ
  unfold F_all_lumps B_all_lumps
  have hs0 : startT 9 ([plD ts e, D.int (n : Nat)].map Cell.d) = [some (.d (plD ts e)), some (.d (.int (n : Nat))), none, none, none, none, none, none, none] := rfl
  rw [hs0]
  refine Eq.mpr wp_nox ?_
  refine Eq.mpr wp_runS ?_
  refine Eq.mpr sw_seq ?_
  refine sw.mono (P := fun f _ => f = .nx [some (.d (plD ts e)), some (.d (.int (n : Nat))), some (.d (.lst ((posL 0 (osh n)).map pr2))), none, none, none, none, none, none]) (by
    repeat (first | with_reducible refine Eq.mpr (DL.wp_eqn (est)) ?_ | with_reducible refine Eq.mpr (DL.wp_ofOs (est)) ?_ | walk_at "ev1")
    rfl) ?_
  rintro f _ rfl
  refine Eq.mpr sw_seq ?_
  refine sw.mono (P := fun f _ => f = .nx (A9 ts e n (osh n) (posL 0 (osh n)) none none none none none)) (by
    refine Eq.mpr sw_setO ?_
    unfold eLst1
    rw [wp_bind]
    repeat (first | with_reducible refine Eq.mpr (DL.wp_eqn (it0)) ?_ | with_reducible refine Eq.mpr (DL.wp_ofOs (it0)) ?_ | walk_at "ev1")
    rfl) ?_
  rintro f _ rfl
  refine Eq.mpr sw_seq ?_
  have itT : (D.lst ((List.range J).map fun j => optT (st j))).itemsS = some ((List.range J).map fun j => optT (st j)) := rfl
  refine sw.mono (P := fun f _ => ∃ (F : List (Nat × Nat)) (c4 c5 c6 c7 c8 : Option Cell), F.Perm (rl 0 (rws st n J)) ∧ f = .nx (A9 ts e n (rws st n J) F c4 c5 c6 c7 c8)) (by
    repeat (first | with_reducible refine Eq.mpr (DL.wp_eqn (htu)) ?_ | with_reducible refine Eq.mpr (DL.wp_ofOs (htu)) ?_ | with_reducible refine Eq.mpr (DL.wp_eqn (itT)) ?_ | with_reducible refine Eq.mpr (DL.wp_ofOs (itT)) ?_ | walk_at "ev1")
    refine loop_inv (fun i τ _ => ∃ (F : List (Nat × Nat)) (c4 c5 c6 c7 c8 : Option Cell), F.Perm (rl 0 (rws st n i)) ∧ τ = A9 ts e n (rws st n i) F c4 c5 c6 c7 c8) ⟨posL 0 (osh n), _, _, _, _, _, by rw [← osh_rl]; exact .refl _, rfl⟩ ?_ ?_
    · rintro i d τ ω hd ⟨F, c4, c5, c6, c7, c8, hF, rfl⟩
      rw [List.getElem?_map] at hd
      have hiJ : i < J := by
        rcases Nat.lt_or_ge i J with l | l
        · exact l
        · rw [List.getElem?_eq_none (by rw [List.length_range]; exact l)] at hd; cases hd
      rw [List.getElem?_range hiJ] at hd
      cases hd
      obtain ⟨t, ht⟩ : ∃ t, st i = some t := by
        cases q : st i with
        | none => exact absurd q (hgo i hiJ)
        | some t => exact ⟨t, rfl⟩
      have hr : rws st n (i + 1) = prs t (rws st n i) := by rw [rws, ht]
      rw [hr]
      refine ⟨A9 ts e n (rws st n i) F (some (.d (tb t))) c5 c6 c7 c8, by show bName 4 (optT (st i)) _ = _; rw [ht]; rfl, ?_⟩
      refine stage_ok ts e n (hwt i t ht) (hb i t ht) (rws st n i) (hrl i) (by rw [hsum i]; exact hn) F hF c5 c6 c7 c8 fun F' c5 c6 c7 c8 hF' => ?_
      exact ⟨F', _, _, _, _, _, hF', rfl⟩
    · rintro τ ω ⟨F, c4, c5, c6, c7, c8, hF, rfl⟩
      rw [List.length_map, List.length_range] at *
      exact ⟨F, _, _, _, _, _, hF, rfl⟩) ?_
  rintro f _ ⟨F, c4, c5, c6, c7, c8, hF, rfl⟩
  obtain ⟨L, eL, pL, lL⟩ := end_lumps_ok (isL e) (rws st n J) (hne J) (hrl J) (endD e) heq
  have hfl := hF.length_eq
  have hrn := rl_len (rws st n J) 0
  have hfin : (F ++ L).Perm (lms (endS (isL e) (rws st n J)) 0) := by
    have hm := List.length_pos_iff.mpr (hne J)
    have hcz := cmb_size (isL e) ((rws st n J).length - 1)
    have hf := lms_fill (cmb (isL e) ((rws st n J).length - 1)) 0 (rws st n J) 0 (fun k => sumS ((rws st n J).take k)) (by rw [hcz]; omega) fun k _ => by rw [Nat.zero_add, Nat.zero_add]
    rw [fill_cmb (isL e) (hne J), hcz, show (rws st n J).length - 1 + 1 = (rws st n J).length by omega, List.take_length] at hf
    exact (hF.append pL).trans hf.symm
  have hord := in_order_ok (F ++ L)
  rw [sortK_lms _ hfin] at hord
  have hmm : ((lms (endS (isL e) (rws st n J)) 0).map toI).map DL.intP = (lms (endS (isL e) (rws st n J)) 0).map pr2 := by rw [List.map_map]; rfl
  rw [hmm] at hord
  refine Eq.mpr sw_seq ?_
  refine sw.mono (P := fun f _ => f = .nx (A9 ts e n (rws st n J) (F ++ L) c4 c5 c6 c7 c8)) (by
    refine sw_ext rfl ?_
    refine Eq.mpr wp_cL ?_
    repeat walk_at "ev1"
    refine Eq.mpr wp_cM ?_
    repeat walk_at "ev1"
    refine ⟨_, _, rfl, hlk, ?_⟩
    repeat (first | with_reducible refine Eq.mpr (DL.wp_eqn (he0)) ?_ | with_reducible refine Eq.mpr (DL.wp_ofOs (he0)) ?_ | with_reducible refine Eq.mpr (DL.wp_eqn (eL)) ?_ | with_reducible refine Eq.mpr (DL.wp_ofOs (eL)) ?_ | walk_at "ev1")
    have := hsum J
    refine ⟨by rw [List.length_map, List.length_map]; omega, ?_⟩
    show Fl.nx _ = Fl.nx (A9 _ _ _ _ _ _ _ _ _ _)
    unfold A9
    rw [List.map_append]
    rfl) ?_
  rintro f _ rfl
  refine Eq.mpr (sw_pre (xs := (F ++ L).map pr2) rfl) ?_
  have hord2 : F_in_order [OKd.L.fin ((F ++ L).map pr2)] = .ok (.lst ((lms (endS (isL e) (rws st n J)) 0).map pr2)) () := hord
  repeat (first | with_reducible refine Eq.mpr (DL.wp_eqn (hord2)) ?_ | with_reducible refine Eq.mpr (DL.wp_ofOs (hord2)) ?_ | walk_at "ev1")
  rfl
theorem slw_preI {Ω : Type} {i : Nat} {F : SL Ω} {τ : Tau} {ω : Ω} {P : List D → Ω → Prop} {xs : List D} (h : τ[i]? = some (some (.ow .L xs))) (k : slw (F (τ.set i (some (.d (.lst xs)))) ω) P) : slw (lPre i F τ ω) P := by
  unfold lPre
  rw [h]
  exact k
theorem all_lumpsL_ok {ts : List Tab} {e : PEnd} (h : GT ts) (he : e.ok) {n J : Nat} (hn1 : 1 ≤ n) (hn : n ≤ 200) (s : Stop (stg ts e) n J) :
    FL_all_lumps [plD ts e, .int (n : Nat)] = .ok ((lms (endS (isL e) (rws (stg ts e) n J)) 0).map pr2) () := by
  have hg := stg_sg h he
  have htu := tables_used_ok he hg hn1 (by omega) s
  have hwt := stg_wt h he
  have hlen := rws_len hg hn1
  have hne := rws_ne hg hn1
  have hsum := rws_sum hwt n
  have hpos := hg.pos
  have hgo : ∀ j, j < J → stg ts e j ≠ none := fun j hj => (s.go j hj).2
  have hb : ∀ j t, stg ts e j = some t → bsz t ≤ 16 := fun j t q => (stg_gt h he q).2
  have heq : eqD (endD e) (.str "left") = some (.bl (isL e)) := eq_endL e
  have he0 : F_Plan_end [plD ts e] = .ok (endD e) () := end_ok _ _
  have hlk : List.lookup ("end" : Str) ((["_tables", "_end"] : List Str).zip [D.tup (ts.map tb), endD e]) = none := by kernel_rfl
  generalize stg ts e = st at *
  have hrl : ∀ j, (rws st n j).length ≤ 200 := fun j => by rw [hlen j]; exact Nat.le_trans (upn_le (hpos j) hn1) hn
  have est := stretches_ok n 1 (by omega) (by omega) (by omega)
  have hst0 : ((List.range ((n + 1 - 1) / 1)).map fun i => D.tup [.int (i * 1 : Nat), .int (min (i * 1 + 1) n : Nat)]) = (posL 0 (osh n)).map pr2 := by
    have hol : (osh n).length = n := List.length_replicate
    apply List.ext_getElem?
    intro i
    rw [List.getElem?_map, List.getElem?_map]
    by_cases hi : i < n
    · rw [List.getElem?_range (by omega), posL_get (osh n) 0 i (by omega), osh_take n i (by omega), osh_take n (i + 1) (by omega)]
      show some (D.tup [.int (i * 1 : Nat), .int (min (i * 1 + 1) n : Nat)]) = some (D.tup [.int (0 + i : Nat), .int (0 + (i + 1) : Nat)])
      rw [Nat.mul_one, Nat.min_eq_left (by omega), Nat.zero_add, Nat.zero_add]
    · rw [List.getElem?_eq_none (by rw [List.length_range]; omega), List.getElem?_eq_none (by rw [posL_len, hol]; omega)]
      rfl
  rw [hst0] at est
  have it0 : (D.lst ((posL 0 (osh n)).map pr2)).itemsS = some ((posL 0 (osh n)).map pr2) := rfl
  suffices hh : (FL_all_lumps [plD ts e, .int (n : Nat)]).wp (fun d _ => d = (lms (endS (isL e) (rws st n J)) 0).map pr2) X0 by
    obtain ⟨d, _, e, rfl⟩ := hh.ex
    exact e
  unfold FL_all_lumps BL_all_lumps
  have hs0 : startT 9 ([plD ts e, D.int (n : Nat)].map Cell.d) = [some (.d (plD ts e)), some (.d (.int (n : Nat))), none, none, none, none, none, none, none] := rfl
  rw [hs0]
  refine Eq.mpr wp_runL ?_
  refine Eq.mpr slw_seq ?_
  refine sw.mono (P := fun f _ => f = .nx [some (.d (plD ts e)), some (.d (.int (n : Nat))), some (.d (.lst ((posL 0 (osh n)).map pr2))), none, none, none, none, none, none]) (by
    repeat (first | with_reducible refine Eq.mpr (DL.wp_eqn (est)) ?_ | with_reducible refine Eq.mpr (DL.wp_ofOs (est)) ?_ | walk_at "ev1")
    rfl) ?_
  rintro f _ rfl
  refine Eq.mpr slw_seq ?_
  refine sw.mono (P := fun f _ => f = .nx (A9 ts e n (osh n) (posL 0 (osh n)) none none none none none)) (by
    refine Eq.mpr sw_setO ?_
    unfold eLst1
    rw [wp_bind]
    repeat (first | with_reducible refine Eq.mpr (DL.wp_eqn (it0)) ?_ | with_reducible refine Eq.mpr (DL.wp_ofOs (it0)) ?_ | walk_at "ev1")
    rfl) ?_
  rintro f _ rfl
  refine Eq.mpr slw_seq ?_
  have itT : (D.lst ((List.range J).map fun j => optT (st j))).itemsS = some ((List.range J).map fun j => optT (st j)) := rfl
  refine sw.mono (P := fun f _ => ∃ (F : List (Nat × Nat)) (c4 c5 c6 c7 c8 : Option Cell), F.Perm (rl 0 (rws st n J)) ∧ f = .nx (A9 ts e n (rws st n J) F c4 c5 c6 c7 c8)) (by
    repeat (first | with_reducible refine Eq.mpr (DL.wp_eqn (htu)) ?_ | with_reducible refine Eq.mpr (DL.wp_ofOs (htu)) ?_ | with_reducible refine Eq.mpr (DL.wp_eqn (itT)) ?_ | with_reducible refine Eq.mpr (DL.wp_ofOs (itT)) ?_ | walk_at "ev1")
    refine loop_inv (fun i τ _ => ∃ (F : List (Nat × Nat)) (c4 c5 c6 c7 c8 : Option Cell), F.Perm (rl 0 (rws st n i)) ∧ τ = A9 ts e n (rws st n i) F c4 c5 c6 c7 c8) ⟨posL 0 (osh n), _, _, _, _, _, by rw [← osh_rl]; exact .refl _, rfl⟩ ?_ ?_
    · rintro i d τ ω hd ⟨F, c4, c5, c6, c7, c8, hF, rfl⟩
      rw [List.getElem?_map] at hd
      have hiJ : i < J := by
        rcases Nat.lt_or_ge i J with l | l
        · exact l
        · rw [List.getElem?_eq_none (by rw [List.length_range]; exact l)] at hd; cases hd
      rw [List.getElem?_range hiJ] at hd
      cases hd
      obtain ⟨t, ht⟩ : ∃ t, st i = some t := by
        cases q : st i with
        | none => exact absurd q (hgo i hiJ)
        | some t => exact ⟨t, rfl⟩
      have hr : rws st n (i + 1) = prs t (rws st n i) := by rw [rws, ht]
      rw [hr]
      refine ⟨A9 ts e n (rws st n i) F (some (.d (tb t))) c5 c6 c7 c8, by show bName 4 (optT (st i)) _ = _; rw [ht]; rfl, ?_⟩
      refine stage_ok ts e n (hwt i t ht) (hb i t ht) (rws st n i) (hrl i) (by rw [hsum i]; exact hn) F hF c5 c6 c7 c8 fun F' c5 c6 c7 c8 hF' => ?_
      exact ⟨F', _, _, _, _, _, hF', rfl⟩
    · rintro τ ω ⟨F, c4, c5, c6, c7, c8, hF, rfl⟩
      rw [List.length_map, List.length_range] at *
      exact ⟨F, _, _, _, _, _, hF, rfl⟩) ?_
  rintro f _ ⟨F, c4, c5, c6, c7, c8, hF, rfl⟩
  obtain ⟨L, eL, pL, lL⟩ := end_lumps_ok (isL e) (rws st n J) (hne J) (hrl J) (endD e) heq
  have hfl := hF.length_eq
  have hrn := rl_len (rws st n J) 0
  have hfin : (F ++ L).Perm (lms (endS (isL e) (rws st n J)) 0) := by
    have hm := List.length_pos_iff.mpr (hne J)
    have hcz := cmb_size (isL e) ((rws st n J).length - 1)
    have hf := lms_fill (cmb (isL e) ((rws st n J).length - 1)) 0 (rws st n J) 0 (fun k => sumS ((rws st n J).take k)) (by rw [hcz]; omega) fun k _ => by rw [Nat.zero_add, Nat.zero_add]
    rw [fill_cmb (isL e) (hne J), hcz, show (rws st n J).length - 1 + 1 = (rws st n J).length by omega, List.take_length] at hf
    exact (hF.append pL).trans hf.symm
  have hord := in_orderL_ok (F ++ L)
  rw [sortK_lms _ hfin] at hord
  have hmm : ((lms (endS (isL e) (rws st n J)) 0).map toI).map DL.intP = (lms (endS (isL e) (rws st n J)) 0).map pr2 := by rw [List.map_map]; rfl
  rw [hmm] at hord
  refine Eq.mpr slw_seq ?_
  refine sw.mono (P := fun f _ => f = .nx (A9 ts e n (rws st n J) (F ++ L) c4 c5 c6 c7 c8)) (by
    refine sw_ext rfl ?_
    refine Eq.mpr wp_cL ?_
    repeat walk_at "ev1"
    refine Eq.mpr wp_cM ?_
    repeat walk_at "ev1"
    refine ⟨_, _, rfl, hlk, ?_⟩
    repeat (first | with_reducible refine Eq.mpr (DL.wp_eqn (he0)) ?_ | with_reducible refine Eq.mpr (DL.wp_ofOs (he0)) ?_ | with_reducible refine Eq.mpr (DL.wp_eqn (eL)) ?_ | with_reducible refine Eq.mpr (DL.wp_ofOs (eL)) ?_ | walk_at "ev1")
    have := hsum J
    refine ⟨by rw [List.length_map, List.length_map]; omega, ?_⟩
    show Fl.nx _ = Fl.nx (A9 _ _ _ _ _ _ _ _ _ _)
    unfold A9
    rw [List.map_append]
    rfl) ?_
  rintro f _ rfl
  refine slw_preI rfl ?_
  refine Eq.mpr slw_ret ?_
  refine Eq.mpr wp_cL ?_
  repeat (first | with_reducible refine Eq.mpr (DL.wp_eqn (hord)) ?_ | with_reducible refine Eq.mpr (DL.wp_ofOs (hord)) ?_ | walk_at "ev1")
  rfl
theorem wp_eAndI {Ω : Type} {a b : E Ω D} {τ : Tau} {ω : Ω} {P : D → Ω → Prop} {X} (h : (a τ ω).wp (fun x ω1 => (x = .bl true ∧ (b τ ω1).wp P X) ∨ (x = .bl false ∧ P (.bl false) ω1)) X) : (eAnd a b τ ω).wp P X := by
  unfold eAnd
  rw [wp_bind]
  refine h.mono fun x ω1 hx => ?_
  rcases hx with ⟨rfl, hx⟩ | ⟨rfl, hx⟩
  · exact hx
  · with_unfolding_all exact hx
def Win : S Unit := (sSeq (sAsg (cD F_law_entry (aCons (eVar 6) (aCons (eCall (bi2 min2D) (aCons (eOp addD (eCall (un1 lenD) (aCons (eVar 6) aNil)) (eC (.int 1))) (aCons (eOp subD (eCall (un1 lenD) (aCons (eVar 7) aNil)) (eVar 8)) aNil))) aNil))) (bName 9)) (sPre 3 (sSetO (eAddL (eVar 3) (eFrz (eLc [10, 11] (iSq (cD (F_law_lumps 70) (aCons (eVar 9) (aCons (eVar 8) aNil)))) (bTup 2 (bCons (bName 10) (bCons (bName 11) bNil))) (eB (eOp gtD (eOp subD (eVar 11) (eVar 10)) (eC (.int 1)))) (eTup (aCons (eOp ixD (eOp ixD (eVar 7) (eVar 10)) (eC (.int 0))) (aCons (eOp ixD (eOp ixD (eVar 7) (eOp subD (eVar 11) (eC (.int 1)))) (eC (.int 1))) aNil)))))) 3)))
def Wst : S Unit := (sSeq (sAsg (eTup (aCons (cD F_law_stage (aCons (eVar 0) (aCons (eVar 5) aNil))) (aCons (eOp ixD (eVar 2) (eVar 5)) aNil))) (bTup 2 (bCons (bName 6) (bCons (bName 7) bNil)))) (sFor (iRg rg3 (aCons (eC (.int 0)) (aCons (eCall (un1 lenD) (aCons (eVar 7) aNil)) (aCons (eOp addD (eCall (un1 lenD) (aCons (eVar 6) aNil)) (eC (.int 1))) aNil)))) (bName 8) Win))
def Blap : S Src := (sSeq (sPar3 3 4 5 (cW F_law_any_plan 1 aNil) (eOp addD (eC (.int 1)) (cW F_law_pick 1 (aCons (eC (.int 60)) aNil))) (eOp addD (eC (.int 1)) (cW F_law_pick 1 (aCons (eC (.int 200)) aNil)))) (sSeq (sIf (eB (eOp neD (eCall (un1 reprD) (aCons (cD F_all_lumps (aCons (eDgK (pK 3) (eC (.str "plan"))) (aCons (eVar 4) aNil))) aNil)) (eCall (un1 reprD) (aCons (cD (F_law_lumps 70) (aCons (cD F_law_told (aCons (eVar 3) (aCons (eVar 4) aNil))) (aCons (eC (.int 0)) aNil))) aNil)))) (sRet (eC (.bl false))) sNx) (sSeq (sParO1 6 7 (cL FL_all_lumps (aCons (eDgK (pK 3) (eC (.str "plan"))) (aCons (eVar 5) aNil))) (cD F_law_wide_lumps (aCons (eVar 3) (aCons (eVar 5) aNil)))) (sSeq (sIf (eB (eOp neD (oRepr 6) (eCall (un1 reprD) (aCons (eVar 7) aNil)))) (sRet (eC (.bl false))) sNx) (sSeq (sApp 6 (eC .non)) (sIf (eB (eOp neD (cD F_all_lumps (aCons (eDgK (pK 3) (eC (.str "plan"))) (aCons (eVar 5) aNil))) (eVar 7))) (sRet (eC (.bl false))) sNx))))))
theorem ix0_n (l r : Sh) : ixD (Sh.enc (.n l r)) (.int 0) = some l.enc := rfl
theorem ix1_n (l r : Sh) : ixD (Sh.enc (.n l r)) (.int 1) = some r.enc := rfl
theorem law_lumps_ok : ∀ (n : Nat) (s : Sh) (a : Nat), hgt s < n → s.size ≤ 60 → n ≤ 70 → F_law_lumps n [s.enc, .int (a : Nat)] = .ok (.lst ((lms s a).map pr2)) ()
  | 0, _, _, h, _, _ => by omega
  | n + 1, .o, a, _, _, _ => by
    refine R.wp.equ ?_
    show (F_law_lumps (n + 1) [Sh.enc .o, .int (a : Nat)]).wp _ _
    unfold F_law_lumps B_law_lumps
    have e0 : F_law_size 70 [Sh.enc .o] = .ok (.int (1 : Nat)) () := law_size_ok 70 .o (by decide)
    have e1 : eqD (Sh.enc .o) (.tup []) = some (.bl true) := eqO .o
    have e2 : addD (.int (a : Nat)) (.int 1) = some (.int (a + 1 : Nat)) := addN a 1
    repeat (first | with_reducible refine Eq.mpr (DL.wp_eqn (e0)) ?_ | with_reducible refine Eq.mpr (DL.wp_ofOs (e0)) ?_ | with_reducible refine Eq.mpr (DL.wp_eqn (e1)) ?_ | with_reducible refine Eq.mpr (DL.wp_ofOs (e1)) ?_ | with_reducible refine Eq.mpr (DL.wp_eqn (e2)) ?_ | with_reducible refine Eq.mpr (DL.wp_ofOs (e2)) ?_ | walk_at "ev1")
    rfl
  | n + 1, .n l r, a, h, hz, hn => by
    simp only [hgt] at h
    simp only [Sh.size] at hz
    have h1 := hgt_lt l
    have h2 := hgt_lt r
    have n1 := lms_len l a
    have n2 := lms_len r (a + l.size)
    have e1 := law_lumps_ok n l a (by omega) (by omega) (by omega)
    have e2 := law_lumps_ok n r (a + l.size) (by omega) (by omega) (by omega)
    have e3 : F_law_size 70 [Sh.enc (.n l r)] = .ok (.int (l.size + r.size : Nat)) () := law_size_ok 70 (.n l r) (by simp only [hgt]; omega)
    have e4 : eqD (Sh.enc (.n l r)) (.tup []) = some (.bl false) := eqO (.n l r)
    have e5 := law_size_ok 70 l (by omega)
    have e6 : addD (.int (a : Nat)) (.int (l.size : Nat)) = some (.int (a + l.size : Nat)) := addN _ _
    have e7 : addD (.int (a : Nat)) (.int (l.size + r.size : Nat)) = some (.int (a + (l.size + r.size) : Nat)) := addN _ _
    have a2 : addD (.lst [.tup [.int (a : Nat), .int (a + (l.size + r.size) : Nat)]]) (.lst ((lms l a).map pr2)) = some (.lst (pr2 (a, a + (l.size + r.size)) :: (lms l a).map pr2)) := addLL [pr2 (a, a + (l.size + r.size))] _ (by simp; omega)
    have a3 : addD (.lst (pr2 (a, a + (l.size + r.size)) :: (lms l a).map pr2)) (.lst ((lms r (a + l.size)).map pr2)) = some (.lst ((lms (.n l r) a).map pr2)) := by
      rw [addLL _ _ (by simp; omega)]
      simp only [lms, List.map_cons, List.map_append, List.cons_append]
    refine R.wp.equ ?_
    show (F_law_lumps (n + 1) [Sh.enc (.n l r), .int (a : Nat)]).wp _ _
    unfold F_law_lumps B_law_lumps
    repeat (first | with_reducible refine Eq.mpr (DL.wp_eqn (e3)) ?_ | with_reducible refine Eq.mpr (DL.wp_ofOs (e3)) ?_ | with_reducible refine Eq.mpr (DL.wp_eqn (e4)) ?_ | with_reducible refine Eq.mpr (DL.wp_ofOs (e4)) ?_ | with_reducible refine Eq.mpr (DL.wp_eqn (ix0_n l r)) ?_ | with_reducible refine Eq.mpr (DL.wp_ofOs (ix0_n l r)) ?_ | with_reducible refine Eq.mpr (DL.wp_eqn (ix1_n l r)) ?_ | with_reducible refine Eq.mpr (DL.wp_ofOs (ix1_n l r)) ?_ | with_reducible refine Eq.mpr (DL.wp_eqn (e5)) ?_ | with_reducible refine Eq.mpr (DL.wp_ofOs (e5)) ?_ | with_reducible refine Eq.mpr (DL.wp_eqn (e6)) ?_ | with_reducible refine Eq.mpr (DL.wp_ofOs (e6)) ?_ | with_reducible refine Eq.mpr (DL.wp_eqn (e7)) ?_ | with_reducible refine Eq.mpr (DL.wp_ofOs (e7)) ?_ | with_reducible refine Eq.mpr (DL.wp_eqn (e1)) ?_ | with_reducible refine Eq.mpr (DL.wp_ofOs (e1)) ?_ | with_reducible refine Eq.mpr (DL.wp_eqn (a2)) ?_ | with_reducible refine Eq.mpr (DL.wp_ofOs (a2)) ?_ | with_reducible refine Eq.mpr (DL.wp_eqn (e2)) ?_ | with_reducible refine Eq.mpr (DL.wp_ofOs (e2)) ?_ | with_reducible refine Eq.mpr (DL.wp_eqn (a3)) ?_ | with_reducible refine Eq.mpr (DL.wp_ofOs (a3)) ?_ | walk_at "ev1")
    rfl
theorem rws_take {st : Nat → Option Tab} (hwt : ∀ j t, st j = some t → WT t) (n : Nat) : ∀ j i, sumS ((rws st n j).take i) = min (i * wd st j) n
  | 0, i => by
    have hol : (osh n).length = n := List.length_replicate
    show sumS ((osh n).take i) = min (i * 1) n
    rw [Nat.mul_one]
    rcases Nat.lt_or_ge n i with h | h
    · have e : (osh n).take i = (osh n).take n := by rw [List.take_of_length_le (by omega), List.take_of_length_le (by omega)]
      rw [e, osh_take n n (Nat.le_refl _), Nat.min_eq_right (by omega)]
    · rw [osh_take n i h, Nat.min_eq_left h]
  | j + 1, i => by
    cases q : st j with
    | none =>
      have e : rws st n (j + 1) = rws st n j := by rw [rws, q]
      have e2 : wd st (j + 1) = wd st j := by show wd st j * szS (st j) = _; rw [q]; exact Nat.mul_one _
      rw [e, e2]
      exact rws_take hwt n j i
    | some t =>
      have e : rws st n (j + 1) = prs t (rws st n j) := by rw [rws, q]
      have e2 : wd st (j + 1) = wd st j * bsz t := by show wd st j * szS (st j) = _; rw [q]; rfl
      rw [e, e2, prs_sum t (hwt j t q), rws_take hwt n j, Nat.mul_comm (wd st j), Nat.mul_assoc]
theorem row_eq {st : Nat → Option Tab} (hwt : ∀ j t, st j = some t → WT t) (hg : Sg st) {n : Nat} (hn : 1 ≤ n) (j : Nat) : rowP n (wd st j) = .lst ((posL 0 (rws st n j)).map pr2) := by
  have hl := rws_len hg hn j
  show D.lst ((stP n (wd st j)).map pD) = _
  congr 1
  apply List.ext_getElem?
  intro i
  rw [List.getElem?_map, List.getElem?_map]
  by_cases hi : i < upn n (wd st j)
  · rw [st_get hi, posL_get _ 0 i (by rw [hl]; exact hi), rws_take hwt, rws_take hwt, Nat.succ_mul]
    have h1 : i * wd st j ≤ n := by
      have h2 : i + 1 ≤ (n + wd st j - 1) / wd st j := hi
      have hp := hg.pos j
      have := (Nat.le_div_iff_mul_le (show 0 < wd st j by omega)).mp h2
      rw [Nat.succ_mul] at this
      omega
    rw [Nat.min_eq_left h1, Nat.zero_add, Nat.zero_add]
    rfl
  · rw [List.getElem?_eq_none (by rw [stP_len]; omega), List.getElem?_eq_none (by rw [posL_len, hl]; omega)]
    rfl
abbrev A12 (ts : List Tab) (e : PEnd) (n : Nat) (rows : D) (F : List (Nat × Nat)) (c4 c5 c6 c7 c8 c9 c10 c11 : Option Cell) : Tau :=
  [some (.d (wD ts e)), some (.d (.int (n : Nat))), some (.d rows), some (.ow .L (F.map pr2)), c4, c5, c6, c7, c8, c9, c10, c11]
theorem x0p (r : Nat × Nat) : ixD (pr2 r) (.int 0) = some (.int (r.1 : Nat)) := rfl
theorem x1p (r : Nat × Nat) : ixD (pr2 r) (.int 1) = some (.int (r.2 : Nat)) := rfl
/-- one stretch of one stage -/
theorem win_ok (ts : List Tab) (e : PEnd) (n : Nat) (rows : D) {t : Tab} (hw : WT t) (hb16 : bsz t ≤ 16) (row : List Sh) (hrow : row.length ≤ 200) (G : List (Nat × Nat)) (hGl : G.length ≤ 900) {i m : Nat} (hi : i < row.length) (hm : m = min (bsz t) (row.length - i))
    (c4 c5 c9 c10 c11 : Option Cell) {P : Fl → Unit → Prop}
    (k : ∀ c9 c10 c11, P (.nx (A12 ts e n rows (G ++ ((lms (ent t m) i).filter big).map fun q => (sumS (row.take q.1), sumS (row.take q.2))) c4 c5 (some (.d (tb t))) (some (.d (.lst ((posL 0 row).map pr2)))) (some (.d (.int (i : Nat)))) c9 c10 c11)) ()) :
    sw (Win (A12 ts e n rows G c4 c5 (some (.d (tb t))) (some (.d (.lst ((posL 0 row).map pr2)))) (some (.d (.int (i : Nat)))) c9 c10 c11) ()) P := by
  have hb1 : 1 ≤ bsz t := by unfold bsz; omega
  have hz := hw.ent (m := m) (by omega) (by omega)
  have hpl := posL_len row 0
  have el : un1 lenD [.lst ((posL 0 row).map pr2)] = some (.int (row.length : Nat)) := by
    show some (D.int (((posL 0 row).map pr2).length : Nat)) = _
    rw [List.length_map, hpl]
  have l1 := len_tb t
  have a1 : addD (.int (t.length : Nat)) (.int 1) = some (.int (bsz t : Nat)) := addN t.length 1
  have s1 := subN row.length i (by omega)
  have hmin : bi2 min2D [.int (bsz t : Nat), .int (row.length - i : Nat)] = some (.int (m : Nat)) := by rw [hm]; exact min2N _ _
  have hent := law_entry_ok t m (by omega) (by omega)
  have hlm := law_lumps_ok 70 (ent t m) i (by have := hgt_lt (ent t m); omega) (by omega) (Nat.le_refl _)
  have hll := lms_len (ent t m) i
  have hfl := List.length_filter_le big (lms (ent t m) i)
  unfold Win
  refine Eq.mpr sw_seq ?_
  refine sw.mono (P := fun f _ => f = .nx (A12 ts e n rows G c4 c5 (some (.d (tb t))) (some (.d (.lst ((posL 0 row).map pr2)))) (some (.d (.int (i : Nat)))) (some (.d (ent t m).enc)) c10 c11)) (by
    repeat (first | with_reducible refine Eq.mpr (DL.wp_eqn (l1)) ?_ | with_reducible refine Eq.mpr (DL.wp_ofOs (l1)) ?_ | with_reducible refine Eq.mpr (DL.wp_eqn (a1)) ?_ | with_reducible refine Eq.mpr (DL.wp_ofOs (a1)) ?_ | with_reducible refine Eq.mpr (DL.wp_eqn (el)) ?_ | with_reducible refine Eq.mpr (DL.wp_ofOs (el)) ?_ | with_reducible refine Eq.mpr (DL.wp_eqn (s1)) ?_ | with_reducible refine Eq.mpr (DL.wp_ofOs (s1)) ?_ | with_reducible refine Eq.mpr (DL.wp_eqn (hmin)) ?_ | with_reducible refine Eq.mpr (DL.wp_ofOs (hmin)) ?_ | with_reducible refine Eq.mpr (DL.wp_eqn (hent)) ?_ | with_reducible refine Eq.mpr (DL.wp_ofOs (hent)) ?_ | walk_at "ev1")
    rfl) ?_
  rintro f _ rfl
  have itl : (D.lst ((lms (ent t m) i).map pr2)).itemsS = some ((lms (ent t m) i).map pr2) := rfl
  refine Eq.mpr (sw_pre (xs := G.map pr2) rfl) ?_
  refine Eq.mpr sw_setO ?_
  refine Eq.mpr wp_eAddL ?_
  repeat (first | with_reducible refine Eq.mpr (DL.wp_eqn (hlm)) ?_ | with_reducible refine Eq.mpr (DL.wp_ofOs (hlm)) ?_ | with_reducible refine Eq.mpr (DL.wp_eqn (itl)) ?_ | with_reducible refine Eq.mpr (DL.wp_ofOs (itl)) ?_ | walk_at "ev1")
  refine ⟨by rw [List.length_map, sizeLine_eq]; omega, ?_⟩
  refine lc_filt pr2 (lms (ent t m) i) big (fun q => pr2 (sumS (row.take q.1), sumS (row.take q.2))) (fun q hq => ⟨_, rfl, ?_⟩) ?_
  · have hb := lms_bd2 (ent t m) i q hq
    have s2 : subD (.int (q.2 : Nat)) (.int (q.1 : Nat)) = some (.int (q.2 - q.1 : Nat)) := subN _ _ (by omega)
    have g1 : gtD (.int (q.2 - q.1 : Nat)) (.int 1) = some (.bl (big q)) := congrArg (fun b => some (D.bl b)) (decide_eq_decide.mpr (by omega))
    have s3 : subD (.int (q.2 : Nat)) (.int 1) = some (.int (q.2 - 1 : Nat)) := subN _ 1 (by omega)
    have ix1 : ixD (.lst ((posL 0 row).map pr2)) (.int (q.1 : Nat)) = some (pr2 (0 + sumS (row.take q.1), 0 + sumS (row.take (q.1 + 1)))) := ix_lst (k := q.1) rfl (by rw [List.getElem?_map, posL_get row 0 q.1 (by omega)]; rfl)
    have ix2 : ixD (.lst ((posL 0 row).map pr2)) (.int (q.2 - 1 : Nat)) = some (pr2 (0 + sumS (row.take (q.2 - 1)), 0 + sumS (row.take q.2))) := ix_lst (k := q.2 - 1) rfl (by rw [List.getElem?_map, posL_get row 0 (q.2 - 1) (by omega), show q.2 - 1 + 1 = q.2 by omega]; rfl)
    repeat (first | with_reducible refine Eq.mpr (DL.wp_eqn (s2)) ?_ | with_reducible refine Eq.mpr (DL.wp_ofOs (s2)) ?_ | with_reducible refine Eq.mpr (DL.wp_eqn (g1)) ?_ | with_reducible refine Eq.mpr (DL.wp_ofOs (g1)) ?_ | walk_at "ev1")
    refine ⟨rfl, rfl, fun _ => ?_⟩
    repeat (first | with_reducible refine Eq.mpr (DL.wp_eqn (ix1)) ?_ | with_reducible refine Eq.mpr (DL.wp_ofOs (ix1)) ?_ | with_reducible refine Eq.mpr (DL.wp_eqn (x0p (0 + sumS (row.take q.1), 0 + sumS (row.take (q.1 + 1))))) ?_ | with_reducible refine Eq.mpr (DL.wp_ofOs (x0p (0 + sumS (row.take q.1), 0 + sumS (row.take (q.1 + 1))))) ?_ | with_reducible refine Eq.mpr (DL.wp_eqn (s3)) ?_ | with_reducible refine Eq.mpr (DL.wp_ofOs (s3)) ?_ | with_reducible refine Eq.mpr (DL.wp_eqn (ix2)) ?_ | with_reducible refine Eq.mpr (DL.wp_ofOs (ix2)) ?_ | with_reducible refine Eq.mpr (DL.wp_eqn (x1p (0 + sumS (row.take (q.2 - 1)), 0 + sumS (row.take q.2)))) ?_ | with_reducible refine Eq.mpr (DL.wp_ofOs (x1p (0 + sumS (row.take (q.2 - 1)), 0 + sumS (row.take q.2)))) ?_ | walk_at "ev1")
    refine ⟨?_, rfl⟩
    unfold pr2
    simp only [Nat.zero_add]
  · refine ⟨_, _, rfl, rfl, by rw [List.length_map, List.length_map, sizeLine_eq]; omega, ?_⟩
    have := k (some (.d (ent t m).enc)) c10 c11
    unfold A12 at this
    rw [List.map_append, List.map_map] at this
    exact this
/-- one stage of the law's wide lumps -/
theorem wst_ok (ts : List Tab) (e : PEnd) (n : Nat) (rows : D) {t : Tab} (hw : WT t) (hb16 : bsz t ≤ 16) (row : List Sh) (hrow : row.length ≤ 200) (hsum : sumS row ≤ 200) (F : List (Nat × Nat)) (hF : F.Perm (rl 0 row)) (j : Nat)
    (hst : F_law_stage [wD ts e, .int (j : Nat)] = .ok (tb t) ()) (hix : ixD rows (.int (j : Nat)) = some (.lst ((posL 0 row).map pr2))) (c4 c6 c7 c8 c9 c10 c11 : Option Cell) {P : Fl → Unit → Prop}
    (k : ∀ (F' : List (Nat × Nat)) (c6 c7 c8 c9 c10 c11 : Option Cell), F'.Perm (rl 0 (prs t row)) → P (.nx (A12 ts e n rows F' c4 (some (.d (.int (j : Nat)))) c6 c7 c8 c9 c10 c11)) ()) :
    sw (Wst (A12 ts e n rows F c4 (some (.d (.int (j : Nat)))) c6 c7 c8 c9 c10 c11) ()) P := by
  have hb1 : 1 ≤ bsz t := by unfold bsz; omega
  have hpl := posL_len row 0
  have el : un1 lenD [.lst ((posL 0 row).map pr2)] = some (.int (row.length : Nat)) := by
    show some (D.int (((posL 0 row).map pr2).length : Nat)) = _
    rw [List.length_map, hpl]
  have l1 := len_tb t
  have a1 : addD (.int (t.length : Nat)) (.int 1) = some (.int (bsz t : Nat)) := addN t.length 1
  have hrg := rg3_nat row.length (bsz t) hb1 (by omega) (by omega)
  have hK : (prs t row).length = (row.length + bsz t - 1) / bsz t := prs_len t row
  unfold Wst
  refine Eq.mpr sw_seq ?_
  refine sw.mono (P := fun f _ => f = .nx (A12 ts e n rows F c4 (some (.d (.int (j : Nat)))) (some (.d (tb t))) (some (.d (.lst ((posL 0 row).map pr2)))) c8 c9 c10 c11)) (by
    repeat (first | with_reducible refine Eq.mpr (DL.wp_eqn (hst)) ?_ | with_reducible refine Eq.mpr (DL.wp_ofOs (hst)) ?_ | with_reducible refine Eq.mpr (DL.wp_eqn (hix)) ?_ | with_reducible refine Eq.mpr (DL.wp_ofOs (hix)) ?_ | walk_at "ev1")
    rfl) ?_
  rintro f _ rfl
  repeat (first | with_reducible refine Eq.mpr (DL.wp_eqn (el)) ?_ | with_reducible refine Eq.mpr (DL.wp_ofOs (el)) ?_ | with_reducible refine Eq.mpr (DL.wp_eqn (l1)) ?_ | with_reducible refine Eq.mpr (DL.wp_ofOs (l1)) ?_ | with_reducible refine Eq.mpr (DL.wp_eqn (a1)) ?_ | with_reducible refine Eq.mpr (DL.wp_ofOs (a1)) ?_ | with_reducible refine Eq.mpr (DL.wp_eqn (hrg)) ?_ | with_reducible refine Eq.mpr (DL.wp_ofOs (hrg)) ?_ | walk_at "ev1")
  refine loop_inv (fun k τ _ => ∃ (G : List (Nat × Nat)) (c8 c9 c10 c11 : Option Cell), G.Perm (rl 0 ((prs t row).take k) ++ rl (sumS (row.take (k * bsz t))) (row.drop (k * bsz t))) ∧
    τ = A12 ts e n rows G c4 (some (.d (.int (j : Nat)))) (some (.d (tb t))) (some (.d (.lst ((posL 0 row).map pr2)))) c8 c9 c10 c11) ⟨F, c8, c9, c10, c11, by simpa [rl, sumS] using hF, rfl⟩ ?_ ?_
  · rintro k d τ ω hd ⟨G, c8, c9, c10, c11, hG, rfl⟩
    obtain ⟨rfl, hk⟩ := rangeL_get _ _ _ _ _ hd
    have hkm : k * bsz t < row.length := by
      have := (Nat.le_div_iff_mul_le (show 0 < bsz t by omega)).mp (show k + 1 ≤ _ from hk)
      rw [Nat.succ_mul] at this
      omega
    obtain ⟨i, hi⟩ : ∃ i, i = k * bsz t := ⟨_, rfl⟩
    have ek : (0 : Int) + (k : Int) * ((bsz t : Nat) : Int) = ((i : Nat) : Int) := by rw [hi]; push_cast; omega
    rw [ek]
    obtain ⟨m, hm⟩ : ∃ m, m = min (bsz t) (row.length - i) := ⟨_, rfl⟩
    rw [← hi] at hG hkm
    have hz := hw.ent (m := m) (by omega) (by omega)
    have hgl := hG.length_eq
    have hr1 := rl_len ((prs t row).take k) 0
    have hr2 := rl_len (row.drop i) (sumS (row.take i))
    have hdr := sumS_app (row.take i) (row.drop i)
    rw [List.take_append_drop] at hdr
    rw [List.length_append] at hgl
    have hsk := prs_sum t hw k row
    rw [← hi] at hsk
    have hGl : G.length ≤ 900 := by omega
    have hkK : k < (prs t row).length := by rw [hK]; exact hk
    have hat := prs_at t row hkK
    rw [← hi, ← hm] at hat
    have htk : (prs t row).take (k + 1) = (prs t row).take k ++ [fill (ent t m) (row.drop i)] := by rw [List.take_add_one, hat]; rfl
    have hk1 : row.take ((k + 1) * bsz t) = row.take (i + m) := by
      rw [Nat.succ_mul, ← hi]
      by_cases hc : bsz t ≤ row.length - i
      · rw [hm, Nat.min_eq_left hc]
      · rw [List.take_of_length_le (by omega), List.take_of_length_le (by omega)]
    have hk2 : row.drop ((k + 1) * bsz t) = (row.drop i).drop m := by
      rw [List.drop_drop, Nat.succ_mul, ← hi]
      by_cases hc : bsz t ≤ row.length - i
      · rw [hm, Nat.min_eq_left hc]
      · rw [List.drop_eq_nil_of_le (by omega), List.drop_eq_nil_of_le (by omega)]
    refine ⟨_, rfl, ?_⟩
    refine win_ok ts e n rows hw hb16 row hrow G hGl hkm hm c4 _ c9 c10 c11 fun c9 c10 c11 => ?_
    refine ⟨_, _, _, _, _, ?_, rfl⟩
    have lf := List.perm_iff_count.mp (lms_fill (ent t m) i (row.drop i) (sumS (row.take i)) (fun x => sumS (row.take x)) (by rw [List.length_drop]; omega) fun x hx => take_sum row i x)
    rw [hz] at lf
    have gf := List.perm_iff_count.mp hG
    have hsp : rl (sumS (row.take i)) (row.drop i) = rl (sumS (row.take i)) ((row.drop i).take m) ++ rl (sumS (row.take i) + sumS ((row.drop i).take m)) ((row.drop i).drop m) := by
      rw [← rl_app, List.take_append_drop]
    refine List.perm_iff_count.mpr fun x => ?_
    have g1 := gf x
    have l1 := lf x
    rw [hsp] at g1
    simp only [List.count_append] at g1 l1
    rw [htk, rl_app, hk1, hk2, take_sum]
    simp only [List.count_append, Nat.zero_add]
    rw [g1, hsk]
    show _ = _ + List.count x (rl (sumS (row.take i)) [fill (ent t m) (row.drop i)]) + _
    rw [rl, rl, List.append_nil, l1]
    omega
  · rintro τ ω ⟨G, c8, c9, c10, c11, hG, rfl⟩
    rw [rangeL_len, ← hK, List.take_length] at hG
    have hdl : row.drop ((prs t row).length * bsz t) = [] := List.drop_eq_nil_of_le (by
      rw [hK]
      have e1 := Nat.div_add_mod (row.length + bsz t - 1) (bsz t)
      have e2 := Nat.mod_lt (row.length + bsz t - 1) (show 0 < bsz t by omega)
      rw [Nat.mul_comm ((row.length + bsz t - 1) / bsz t)]
      omega)
    rw [hdl] at hG
    have h0 : rl (sumS (row.take ((prs t row).length * bsz t))) [] = [] := rfl
    rw [h0, List.append_nil] at hG
    exact k G _ _ _ _ _ _ hG
def fnl (b : Bool) (R : List Sh) (n k : Nat) : Nat × Nat := if b then (0, sumS (R.take (k + 2))) else (sumS (R.take k), n)
theorem fnl_perm (b : Bool) (R : List Sh) (hR : R ≠ []) (n : Nat) (hn : sumS R = n) :
    ((List.range (R.length - 1)).map (fnl b R n)).Perm (((lms (cmb b (R.length - 1)) 0).filter big).map fun q => (sumS (R.take q.1), sumS (R.take q.2))) := by
  have hm := List.length_pos_iff.mpr hR
  cases b with
  | true =>
    refine List.Perm.trans (List.Perm.of_eq ?_) ((big_left (R.length - 1) 0).map _).symm
    rw [List.map_map]
    refine List.map_congr_left fun k _ => ?_
    show (0, sumS (R.take (k + 2))) = (sumS (R.take 0), sumS (R.take (0 + k + 2)))
    rw [List.take_zero, Nat.zero_add]
    rfl
  | false =>
    rw [big_right, List.map_map]
    refine List.Perm.of_eq (List.map_congr_left fun k _ => ?_)
    show (sumS (R.take k), n) = (sumS (R.take (0 + k)), sumS (R.take (0 + (R.length - 1) + 1)))
    rw [Nat.zero_add, Nat.zero_add, show R.length - 1 + 1 = R.length by omega, List.take_length, hn]
theorem wide_ok {ts : List Tab} {e : PEnd} (h : GT ts) (he : e.ok) {n J : Nat} (hn1 : 1 ≤ n) (hn : n ≤ 200) (s : Stop (stg ts e) n J) :
    F_law_wide_lumps [wD ts e, .int (n : Nat)] = .ok (.lst ((lms (endS (isL e) (rws (stg ts e) n J)) 0).map pr2)) () := by
  have hg := stg_sg h he
  have hJ := s.le
  have hrows := law_rows_ok he hg hn1 hn s
  have hwt := stg_wt h he
  have hlen := rws_len hg hn1
  have hne := rws_ne hg hn1
  have hsum := rws_sum hwt n
  have hpos := hg.pos
  have hgo : ∀ j, j < J → stg ts e j ≠ none := fun j hj => (s.go j hj).2
  have hb : ∀ j t, stg ts e j = some t → bsz t ≤ 16 := fun j t q => (stg_gt h he q).2
  have hps : ∀ k, k ≤ 100 → F_law_stage [wD ts e, .int (k : Nat)] = .ok (optT (stg ts e k)) () := fun k hk => law_stage_ok ts e he k (by omega)
  have heq : eqD (endD e) (.str "left") = some (.bl (isL e)) := eq_endL e
  have hre : ((List.range (J + 1)).map fun j => rowP n (wd (stg ts e) j)) = (List.range (J + 1)).map fun j => D.lst ((posL 0 (rws (stg ts e) n j)).map pr2) := List.map_congr_left fun j _ => row_eq hwt hg hn1 j
  rw [hre] at hrows
  generalize stg ts e = st at *
  have hrl : ∀ j, (rws st n j).length ≤ 200 := fun j => by rw [hlen j]; exact Nat.le_trans (upn_le (hpos j) hn1) hn
  obtain ⟨Z, hR⟩ : ∃ Z, Z = rws st n J := ⟨_, rfl⟩
  have hRne : Z ≠ [] := by rw [hR]; exact hne J
  have hRl : Z.length ≤ 200 := by rw [hR]; exact hrl J
  have hRs : sumS Z = n := by rw [hR]; exact hsum J
  have hRm := List.length_pos_iff.mpr hRne
  obtain ⟨rows, hrw⟩ : ∃ r, r = D.lst ((List.range (J + 1)).map fun j => D.lst ((posL 0 (rws st n j)).map pr2)) := ⟨_, rfl⟩
  rw [← hrw] at hrows
  have hix : ∀ j, j ≤ J → ixD rows (.int (j : Nat)) = some (.lst ((posL 0 (rws st n j)).map pr2)) := fun j hj => by
    rw [hrw]
    refine ix_lst (k := j) rfl ?_
    rw [List.getElem?_map, List.getElem?_range (by omega)]
    rfl
  have hix0 : ixD rows (.int 0) = some (.lst ((posL 0 (osh n)).map pr2)) := hix 0 (by omega)
  have hixl : ixD rows (.int (-1)) = some (.lst ((posL 0 Z).map pr2)) := by
    rw [hrw, List.range_succ, List.map_append, hR]
    show L2.atI _ (-1) = _
    exact atI_last
  have hlr : un1 lenD [rows] = some (.int (J + 1 : Nat)) := by
    rw [hrw]
    show some (D.int (((List.range (J + 1)).map fun j => D.lst ((posL 0 (rws st n j)).map pr2)).length : Nat)) = _
    rw [List.length_map, List.length_range]
  have s1 : subD (.int (J + 1 : Nat)) (.int 1) = some (.int (J : Nat)) := subN (J + 1) 1 (by omega)
  have hrg := rg1_nat J (by omega)
  have ng : negD (.int 1) = some (.int (-1)) := rfl
  have it0 : (D.lst ((posL 0 (osh n)).map pr2)).itemsS = some ((posL 0 (osh n)).map pr2) := rfl
  have hlast : un1 lenD [.lst ((posL 0 Z).map pr2)] = some (.int (Z.length : Nat)) := by
    show some (D.int (((posL 0 Z).map pr2).length : Nat)) = _
    rw [List.length_map, posL_len]
  have hrg2 : rg2 [.int 1, .int (Z.length : Nat)] = some (rangeL (1 : Nat) 1 (Z.length - 1)) := rg2_nat 1 Z.length (by omega) (by omega)
  apply R.wp.equ
  unfold F_law_wide_lumps B_law_wide_lumps
  have hs0 : startT 12 ([wD ts e, D.int (n : Nat)].map Cell.d) = [some (.d (wD ts e)), some (.d (.int (n : Nat))), none, none, none, none, none, none, none, none, none, none] := rfl
  rw [hs0]
  refine Eq.mpr wp_nox ?_
  refine Eq.mpr wp_runS ?_
  refine Eq.mpr sw_seq ?_
  refine sw.mono (P := fun f _ => f = .nx [some (.d (wD ts e)), some (.d (.int (n : Nat))), some (.d rows), none, none, none, none, none, none, none, none, none]) (by
    repeat (first | with_reducible refine Eq.mpr (DL.wp_eqn (hrows)) ?_ | with_reducible refine Eq.mpr (DL.wp_ofOs (hrows)) ?_ | walk_at "ev1")
    rfl) ?_
  rintro f _ rfl
  refine Eq.mpr sw_seq ?_
  refine sw.mono (P := fun f _ => f = .nx (A12 ts e n rows (posL 0 (osh n)) (some (.d (.lst ((posL 0 Z).map pr2)))) none none none none none none none)) (by
    refine Eq.mpr sw_parO1 ?_
    unfold eLst1
    rw [wp_bind]
    repeat (first | with_reducible refine Eq.mpr (DL.wp_eqn (hix0)) ?_ | with_reducible refine Eq.mpr (DL.wp_ofOs (hix0)) ?_ | with_reducible refine Eq.mpr (DL.wp_eqn (it0)) ?_ | with_reducible refine Eq.mpr (DL.wp_ofOs (it0)) ?_ | with_reducible refine Eq.mpr (DL.wp_eqn (ng)) ?_ | with_reducible refine Eq.mpr (DL.wp_ofOs (ng)) ?_ | with_reducible refine Eq.mpr (DL.wp_eqn (hixl)) ?_ | with_reducible refine Eq.mpr (DL.wp_ofOs (hixl)) ?_ | walk_at "ev1")
    rfl) ?_
  rintro f _ rfl
  refine Eq.mpr sw_seq ?_
  refine sw.mono (P := fun f _ => ∃ (F : List (Nat × Nat)) (c5 c6 c7 c8 c9 c10 c11 : Option Cell), F.Perm (rl 0 Z) ∧ f = .nx (A12 ts e n rows F (some (.d (.lst ((posL 0 Z).map pr2)))) c5 c6 c7 c8 c9 c10 c11)) (by
    repeat (first | with_reducible refine Eq.mpr (DL.wp_eqn (hlr)) ?_ | with_reducible refine Eq.mpr (DL.wp_ofOs (hlr)) ?_ | with_reducible refine Eq.mpr (DL.wp_eqn (s1)) ?_ | with_reducible refine Eq.mpr (DL.wp_ofOs (s1)) ?_ | with_reducible refine Eq.mpr (DL.wp_eqn (hrg)) ?_ | with_reducible refine Eq.mpr (DL.wp_ofOs (hrg)) ?_ | walk_at "ev1")
    refine loop_inv (fun i τ _ => ∃ (F : List (Nat × Nat)) (c5 c6 c7 c8 c9 c10 c11 : Option Cell), F.Perm (rl 0 (rws st n i)) ∧ τ = A12 ts e n rows F (some (.d (.lst ((posL 0 Z).map pr2)))) c5 c6 c7 c8 c9 c10 c11) ⟨posL 0 (osh n), _, _, _, _, _, _, _, by rw [← osh_rl]; exact .refl _, rfl⟩ ?_ ?_
    · rintro i d τ ω hd ⟨F, c5, c6, c7, c8, c9, c10, c11, hF, rfl⟩
      obtain ⟨rfl, hiJ⟩ := rangeL_get _ _ _ _ _ hd
      obtain ⟨t, ht⟩ : ∃ t, st i = some t := by
        cases q : st i with
        | none => exact absurd q (hgo i hiJ)
        | some t => exact ⟨t, rfl⟩
      have ek : (0 : Int) + (i : Int) * 1 = ((i : Nat) : Int) := by omega
      rw [ek]
      have hr : rws st n (i + 1) = prs t (rws st n i) := by rw [rws, ht]
      rw [hr]
      have hst := hps i (by omega)
      rw [ht] at hst
      refine ⟨_, rfl, ?_⟩
      refine wst_ok ts e n rows (hwt i t ht) (hb i t ht) (rws st n i) (hrl i) (by rw [hsum i]; exact hn) F hF i hst (hix i (by omega)) _ _ _ _ _ _ _ fun F' c6 c7 c8 c9 c10 c11 hF' => ?_
      exact ⟨F', _, _, _, _, _, _, _, hF', rfl⟩
    · rintro τ ω ⟨F, c5, c6, c7, c8, c9, c10, c11, hF, rfl⟩
      rw [rangeL_len, ← hR] at hF
      exact ⟨F, _, _, _, _, _, _, _, hF, rfl⟩) ?_
  rintro f _ ⟨F, c5, c6, c7, c8, c9, c10, c11, hF, rfl⟩
  have hfl := hF.length_eq
  have hrn := rl_len Z 0
  refine Eq.mpr sw_seq ?_
  refine sw.mono (P := fun f _ => ∃ (c5 : Option Cell), f = .nx (A12 ts e n rows (F ++ (List.range (Z.length - 1)).map (fnl (isL e) Z n)) (some (.d (.lst ((posL 0 Z).map pr2)))) c5 c6 c7 c8 c9 c10 c11)) (by
    repeat (first | with_reducible refine Eq.mpr (DL.wp_eqn (hlast)) ?_ | with_reducible refine Eq.mpr (DL.wp_ofOs (hlast)) ?_ | with_reducible refine Eq.mpr (DL.wp_eqn (hrg2)) ?_ | with_reducible refine Eq.mpr (DL.wp_ofOs (hrg2)) ?_ | walk_at "ev1")
    refine loop_inv (fun i τ _ => ∃ (c5 : Option Cell), τ = A12 ts e n rows (F ++ (List.range i).map (fnl (isL e) Z n)) (some (.d (.lst ((posL 0 Z).map pr2)))) c5 c6 c7 c8 c9 c10 c11) ⟨c5, by rw [List.range_zero, List.map_nil, List.append_nil]⟩ ?_ ?_
    · rintro i d τ ω hd ⟨c5, rfl⟩
      obtain ⟨rfl, hi⟩ := rangeL_get _ _ _ _ _ hd
      have ek : ((1 : Nat) : Int) + (i : Int) * 1 = ((i + 1 : Nat) : Int) := by push_cast; omega
      rw [ek]
      refine ⟨_, rfl, ?_⟩
      have s2 : subD (.int (i + 1 : Nat)) (.int 1) = some (.int (i : Nat)) := subN (i + 1) 1 (by omega)
      have hp1 := posL_get Z 0 (i + 1) (by omega)
      have hp0 := posL_get Z 0 i (by omega)
      have ix1 : ixD (.lst ((posL 0 Z).map pr2)) (.int (i + 1 : Nat)) = some (pr2 (0 + sumS (Z.take (i + 1)), 0 + sumS (Z.take (i + 1 + 1)))) := ix_lst (k := i + 1) rfl (by rw [List.getElem?_map, hp1]; rfl)
      have ix0 : ixD (.lst ((posL 0 Z).map pr2)) (.int (i : Nat)) = some (pr2 (0 + sumS (Z.take i), 0 + sumS (Z.take (i + 1)))) := ix_lst (k := i) rfl (by rw [List.getElem?_map, hp0]; rfl)
      refine sw_appI rfl ?_ (by rw [List.length_map, List.length_append, List.length_map, List.length_range]; omega)
      repeat walk_at "ev1"
      refine (wp_dgF rfl).2.1 ?_
      repeat (first | with_reducible refine Eq.mpr (DL.wp_eqn (heq)) ?_ | with_reducible refine Eq.mpr (DL.wp_ofOs (heq)) ?_ | walk_at "ev1")
      cases hL : isL e with
      | true =>
        rw [hL] at *
        refine iteP rfl ?_
        repeat (first | with_reducible refine Eq.mpr (DL.wp_eqn (ix1)) ?_ | with_reducible refine Eq.mpr (DL.wp_ofOs (ix1)) ?_ | with_reducible refine Eq.mpr (DL.wp_eqn (x1p (0 + sumS (Z.take (i + 1)), 0 + sumS (Z.take (i + 1 + 1))))) ?_ | with_reducible refine Eq.mpr (DL.wp_ofOs (x1p (0 + sumS (Z.take (i + 1)), 0 + sumS (Z.take (i + 1 + 1))))) ?_ | walk_at "ev1")
        have ee : ((F ++ (List.range i).map (fnl true Z n)).map pr2) ++ [.tup [.int 0, .int (0 + sumS (Z.take (i + 1 + 1)) : Nat)]] = (F ++ (List.range (i + 1)).map (fnl true Z n)).map pr2 := by
          rw [List.range_succ, List.map_append (l₁ := List.range i), ← List.append_assoc, List.map_append (l₁ := F ++ _)]
          simp [fnl, pr2]
        refine ⟨some (.d (.int (i + 1 : Nat))), ?_⟩
        unfold A12
        rw [← ee]
        rfl
      | false =>
        rw [hL] at *
        refine iteN (by decide) ?_
        repeat (first | with_reducible refine Eq.mpr (DL.wp_eqn (s2)) ?_ | with_reducible refine Eq.mpr (DL.wp_ofOs (s2)) ?_ | with_reducible refine Eq.mpr (DL.wp_eqn (ix0)) ?_ | with_reducible refine Eq.mpr (DL.wp_ofOs (ix0)) ?_ | with_reducible refine Eq.mpr (DL.wp_eqn (x0p (0 + sumS (Z.take i), 0 + sumS (Z.take (i + 1))))) ?_ | with_reducible refine Eq.mpr (DL.wp_ofOs (x0p (0 + sumS (Z.take i), 0 + sumS (Z.take (i + 1))))) ?_ | walk_at "ev1")
        have ee : ((F ++ (List.range i).map (fnl false Z n)).map pr2) ++ [.tup [.int (0 + sumS (Z.take i) : Nat), .int (n : Nat)]] = (F ++ (List.range (i + 1)).map (fnl false Z n)).map pr2 := by
          rw [List.range_succ, List.map_append (l₁ := List.range i), ← List.append_assoc, List.map_append (l₁ := F ++ _)]
          simp [fnl, pr2]
        refine ⟨some (.d (.int (i + 1 : Nat))), ?_⟩
        unfold A12
        rw [← ee]
        rfl
    · rintro τ ω ⟨c5, rfl⟩
      rw [rangeL_len]
      exact ⟨_, rfl⟩) ?_
  rintro f _ ⟨c5, rfl⟩
  have hfin : (F ++ (List.range (Z.length - 1)).map (fnl (isL e) Z n)).Perm (lms (endS (isL e) Z) 0) := by
    have hcz := cmb_size (isL e) (Z.length - 1)
    have hf := lms_fill (cmb (isL e) (Z.length - 1)) 0 Z 0 (fun k => sumS (Z.take k)) (by rw [hcz]; omega) fun k _ => by rw [Nat.zero_add, Nat.zero_add]
    rw [fill_cmb (isL e) hRne, hcz, show Z.length - 1 + 1 = Z.length by omega, List.take_length] at hf
    exact (hF.append (fnl_perm (isL e) Z hRne n hRs)).trans hf.symm
  have hord := sortKL_pr2 (F ++ (List.range (Z.length - 1)).map (fnl (isL e) Z n))
  rw [sortK_lms _ hfin] at hord
  have hmm : ((lms (endS (isL e) Z) 0).map toI).map DL.intP = (lms (endS (isL e) Z) 0).map pr2 := by rw [List.map_map]; rfl
  rw [hmm] at hord
  refine Eq.mpr (sw_pre (xs := (F ++ (List.range (Z.length - 1)).map (fnl (isL e) Z n)).map pr2) rfl) ?_
  repeat walk_at "ev1"
  refine Eq.mpr wp_sortKL ?_
  have hord2 : sortKLD (OKd.L.fin ((F ++ (List.range (Z.length - 1)).map (fnl (isL e) Z n)).map pr2)) = some ((lms (endS (isL e) Z) 0).map pr2) := hord
  repeat (first | with_reducible refine Eq.mpr (DL.wp_eqn (hord2)) ?_ | with_reducible refine Eq.mpr (DL.wp_ofOs (hord2)) ?_ | walk_at "ev1")
  rw [hR]
structure Sf (p : PyData) (k : Nat) : Prop where
  l : p.canLay0 = true
  d : p.depth ≤ k
  e : PyData.eqv p p = true
theorem Sf.all {ps : List PyData} {k : Nat} (h : ∀ p ∈ ps, Sf p k) : PyData.canLayAll0 ps = true ∧ PyData.depthAll ps ≤ k ∧ PyData.eqvAll ps ps = true := by
  induction ps with
  | nil => exact ⟨by simp only [PyData.canLayAll0], by simp only [PyData.depthAll]; omega, by simp only [PyData.eqvAll]⟩
  | cons p ps ih =>
    obtain ⟨h1, h2, h3⟩ := ih fun x hx => h x (List.mem_cons_of_mem _ hx)
    have hp := h p (List.mem_cons_self ..)
    refine ⟨by simp only [PyData.canLayAll0, hp.l, h1]; rfl, ?_, by simp only [PyData.eqvAll, hp.e, h3]; rfl⟩
    have := hp.d
    simp only [PyData.depthAll]
    omega
theorem Sf.tup {ps : List PyData} {k : Nat} (h : ∀ p ∈ ps, Sf p k) : Sf (.tuple ps) (k + 1) := by
  obtain ⟨h1, h2, h3⟩ := Sf.all h
  exact ⟨by simp only [PyData.canLay0, h1], by simp only [PyData.depth]; omega, by simp only [PyData.eqv, h3]⟩
theorem Sf.lst {ps : List PyData} {k : Nat} (h : ∀ p ∈ ps, Sf p k) : Sf (.list ps) (k + 1) := by
  obtain ⟨h1, h2, h3⟩ := Sf.all h
  exact ⟨by simp only [PyData.canLay0, h1], by simp only [PyData.depth]; omega, by simp only [PyData.eqv, h3]⟩
theorem Sf.enc {α : Type} [DecidableEq α] [Enc α] (a : α) : Sf (Enc.py a) (Enc.dep a) := ⟨Enc.e3 a, Enc.e4 a, by rw [Enc.e2]; exact decide_eq_true rfl⟩
theorem Sf.le {p : PyData} {k m : Nat} (h : Sf p k) (hk : k ≤ m) : Sf p m := ⟨h.l, Nat.le_trans h.d hk, h.e⟩
theorem Sf.non : Sf .none 0 := ⟨by simp only [PyData.canLay0], by simp only [PyData.depth]; omega, by simp only [PyData.eqv]⟩
theorem Sf.ne {d : D} {p : PyData} {k : Nat} (h : Sf p k) (e : d.py = some p) (hk : k ≤ 150) : neD d d = some (.bl false) := by
  unfold neD eqB
  rw [e]
  dsimp only
  rw [if_pos ⟨h.l, h.l, by have := h.d; omega⟩]
  show some (D.bl (!(PyData.eqv p p))) = _
  rw [h.e]
  rfl
def PYb (x : D) (b d : Nat) : Prop := ∃ p, x.py = some p ∧ Gd p b d
theorem pyL_gb {b d : Nat} : ∀ {ds : List D}, (∀ x ∈ ds, PYb x b d) → ∃ ps, D.pyL ds = some ps ∧ ps.length = ds.length ∧ ∀ p ∈ ps, Gd p b d
  | [], _ => ⟨[], rfl, rfl, by simp⟩
  | x :: ds, h => by
    obtain ⟨p, e1, g1⟩ := h x (List.mem_cons_self ..)
    obtain ⟨ps, e2, l, g2⟩ := pyL_gb (ds := ds) fun y hy => h y (List.mem_cons_of_mem _ hy)
    refine ⟨p :: ps, by simp [D.pyL, e1, e2], by simp [l], fun q hq => ?_⟩
    rcases List.mem_cons.mp hq with rfl | hq
    · exact g1
    · exact g2 q hq
theorem PYb.tup {ds : List D} {b d : Nat} (h : ∀ x ∈ ds, PYb x b d) : PYb (.tup ds) (ds.length * (b + 2) + 3) (d + 1) := by
  obtain ⟨ps, e, l, g⟩ := pyL_gb h
  have := Gd.tup (f := fun p : PyData => p) (xs := ps) g
  rw [List.map_id', l] at this
  exact ⟨_, by simp [D.py, e], this⟩
theorem PYb.lst {ds : List D} {b d : Nat} (h : ∀ x ∈ ds, PYb x b d) : PYb (.lst ds) (ds.length * (b + 2) + 3) (d + 1) := by
  obtain ⟨ps, e, l, g⟩ := pyL_gb h
  have := Gd.lst (f := fun p : PyData => p) (xs := ps) g
  rw [List.map_id', l] at this
  exact ⟨_, by simp [D.py, e], this⟩
theorem PYb.le {x : D} {b d b' d' : Nat} (h : PYb x b d) (h1 : b ≤ b') (h2 : d ≤ d') : PYb x b' d' := by
  obtain ⟨p, e, g⟩ := h
  exact ⟨p, e, g.le h1 h2⟩
theorem pyb_int {i : Int} (h : i.natAbs < 2 ^ 301) : PYb (.int i) 302 0 := ⟨_, rfl, Gd.int h (by omega) (by omega)⟩
theorem prs_py : ∀ L : List (Nat × Nat), D.pyL (L.map pr2) = some (L.map fun q => PyData.tuple [.int (q.1 : Nat), .int (q.2 : Nat)])
  | [] => rfl
  | q :: L => by
    have h := prs_py L
    simp [D.pyL, D.py, pr2, h]
theorem prs_ne (L : List (Nat × Nat)) : neD (.lst (L.map pr2)) (.lst (L.map pr2)) = some (.bl false) := by
  refine Sf.ne (k := 2) (p := .list (L.map fun q => PyData.tuple [.int (q.1 : Nat), .int (q.2 : Nat)])) (Sf.lst fun p hp => ?_) (by simp [D.py, prs_py]) (by omega)
  obtain ⟨q, _, rfl⟩ := List.mem_map.mp hp
  refine Sf.tup fun x hx => ?_
  simp only [List.mem_cons, List.not_mem_nil, or_false] at hx
  rcases hx with rfl | rfl
  · exact ⟨by simp only [PyData.canLay0], by simp only [PyData.depth]; omega, by simp [PyData.eqv]⟩
  · exact ⟨by simp only [PyData.canLay0], by simp only [PyData.depth]; omega, by simp [PyData.eqv]⟩
theorem prs_rep {L : List (Nat × Nat)} (hl : L.length ≤ 1000) (hq : ∀ q ∈ L, q.1 ≤ 1000 ∧ q.2 ≤ 1000) : ∃ z, reprD (.lst (L.map pr2)) = some (.str z) ∧ neD (.str z) (.str z) = some (.bl false) := by
  have big : 1000 < 2 ^ 301 := by decide
  obtain ⟨p, e, g⟩ := PYb.lst (ds := L.map pr2) (b := 2 * (302 + 2) + 3) (d := 1) (fun x hx => by
    obtain ⟨q, hm, rfl⟩ := List.mem_map.mp hx
    obtain ⟨h1, h2⟩ := hq q hm
    exact PYb.tup (ds := [.int (q.1 : Nat), .int (q.2 : Nat)]) (b := 302) (d := 0) (fun y hy => by
      simp only [List.mem_cons, List.not_mem_nil, or_false] at hy
      rcases hy with rfl | rfl
      · exact pyb_int (by omega)
      · exact pyb_int (by omega)))
  have hb : (L.map pr2).length * (2 * (302 + 2) + 3 + 2) + 3 ≤ 1000000 := by
    rw [List.length_map]
    have := Nat.mul_le_mul_right (2 * (302 + 2) + 3 + 2) hl
    omega
  exact ⟨_, g.reprD (.inr ⟨_, rfl⟩) e hb (by omega), str_ne_same _ g.ok⟩
def E8 (c2 c3 c4 c5 c6 c7 : Option Cell) : Tau := [none, some .src, c2, c3, c4, c5, c6, c7]
theorem lap_ok (c2 c3 c4 c5 c6 c7 : Option Cell) (ω : Src) :
    sw (Blap (E8 c2 c3 c4 c5 c6 c7) ω) (fun f _ => ∃ (ts : List Tab) (e : PEnd) (c4 c5 c6 c7 : Option Cell), GT ts ∧ e.ok ∧ f = .nx (E8 c2 (some (.d (wD ts e))) c4 c5 c6 c7)) := by
  obtain ⟨ts, e, ω1, e1, hg, he, _⟩ := any_plan_ok ω
  obtain ⟨r, ω2, e2', hr⟩ := pick_nat ω1 60 (by omega) (by omega)
  have e2 : F_law_pick [.int 60] ω1 = .ok (.int (r : Nat)) ω2 := e2'
  obtain ⟨q, ω3, e3', hq⟩ := pick_nat ω2 200 (by omega) (by omega)
  have e3 : F_law_pick [.int 200] ω2 = .ok (.int (q : Nat)) ω3 := e3'
  have a1 : addD (.int 1) (.int (r : Nat)) = some (.int (1 + r : Nat)) := addN 1 r
  have a2 : addD (.int 1) (.int (q : Nat)) = some (.int (1 + q : Nat)) := addN 1 q
  obtain ⟨n, hn⟩ : ∃ n, n = 1 + r := ⟨_, rfl⟩
  obtain ⟨m, hm⟩ : ∃ m, m = 1 + q := ⟨_, rfl⟩
  rw [← hn] at a1
  rw [← hm] at a2
  obtain ⟨J, s⟩ := (stg_sg hg he).stop (n := n) (by omega)
  obtain ⟨I, u⟩ := (stg_sg hg he).stop (n := m) (by omega)
  have f1 := all_lumps_ok hg he (by omega) (by omega) s
  have f2 := told_ok hg he (by omega) (by omega) s
  have f3 := all_lumpsL_ok hg he (by omega) (by omega) u
  have f4 := wide_ok hg he (by omega) (by omega) u
  have f5 := all_lumps_ok hg he (by omega) (by omega) u
  have z1 : (endS (isL e) (rws (stg ts e) n J)).size = n := by rw [endS_size (isL e) (rws_ne (stg_sg hg he) (by omega) J), rws_sum (stg_wt hg he)]
  have z2 : (endS (isL e) (rws (stg ts e) m I)).size = m := by rw [endS_size (isL e) (rws_ne (stg_sg hg he) (by omega) I), rws_sum (stg_wt hg he)]
  generalize endS (isL e) (rws (stg ts e) n J) = S at *
  generalize endS (isL e) (rws (stg ts e) m I) = T at *
  have f6 := law_lumps_ok 70 S 0 (by have := hgt_lt S; omega) (by omega) (Nat.le_refl _)
  have f6' : F_law_lumps 70 [S.enc, .int 0] = .ok (.lst ((lms S 0).map pr2)) () := f6
  have l1 := lms_len S 0
  have l2 := lms_len T 0
  obtain ⟨y, ey, ny⟩ := prs_rep (L := lms S 0) (by omega) (fun p hp => by have := lms_bd2 S 0 p hp; omega)
  obtain ⟨z, ez, nz⟩ := prs_rep (L := lms T 0) (by omega) (fun p hp => by have := lms_bd2 T 0 p hp; omega)
  have ey' : un1 reprD [.lst ((lms S 0).map pr2)] = some (.str y) := ey
  have ez' : un1 reprD [.lst ((lms T 0).map pr2)] = some (.str z) := ez
  have nT := prs_ne (lms T 0)
  unfold Blap
  refine Eq.mpr sw_seq ?_
  refine sw.mono (P := fun f _ => f = .nx (E8 c2 (some (.d (wD ts e))) (some (.d (.int (n : Nat)))) (some (.d (.int (m : Nat)))) c6 c7)) (by
    refine Eq.mpr sw_par3 ?_
    unfold E8
    repeat (first | with_reducible refine Eq.mpr (DL.wp_eqn (e1)) ?_ | with_reducible refine Eq.mpr (DL.wp_ofOs (e1)) ?_ | with_reducible refine Eq.mpr (DL.wp_eqn (e2)) ?_ | with_reducible refine Eq.mpr (DL.wp_ofOs (e2)) ?_ | with_reducible refine Eq.mpr (DL.wp_eqn (a1)) ?_ | with_reducible refine Eq.mpr (DL.wp_ofOs (a1)) ?_ | with_reducible refine Eq.mpr (DL.wp_eqn (e3)) ?_ | with_reducible refine Eq.mpr (DL.wp_ofOs (e3)) ?_ | with_reducible refine Eq.mpr (DL.wp_eqn (a2)) ?_ | with_reducible refine Eq.mpr (DL.wp_ofOs (a2)) ?_ | walk_at "ev1")
    rfl) ?_
  rintro f ω4 rfl
  refine Eq.mpr sw_seq ?_
  refine sw.mono (P := fun f _ => f = .nx (E8 c2 (some (.d (wD ts e))) (some (.d (.int (n : Nat)))) (some (.d (.int (m : Nat)))) c6 c7)) (by
    unfold E8
    repeat walk_at "ev1"
    refine (wp_dgF rfl).2.2 ?_
    repeat (first | with_reducible refine Eq.mpr (DL.wp_eqn (f1)) ?_ | with_reducible refine Eq.mpr (DL.wp_ofOs (f1)) ?_ | with_reducible refine Eq.mpr (DL.wp_eqn (ey')) ?_ | with_reducible refine Eq.mpr (DL.wp_ofOs (ey')) ?_ | with_reducible refine Eq.mpr (DL.wp_eqn (f2)) ?_ | with_reducible refine Eq.mpr (DL.wp_ofOs (f2)) ?_ | with_reducible refine Eq.mpr (DL.wp_eqn (f6')) ?_ | with_reducible refine Eq.mpr (DL.wp_ofOs (f6')) ?_ | with_reducible refine Eq.mpr (DL.wp_eqn (ny)) ?_ | with_reducible refine Eq.mpr (DL.wp_ofOs (ny)) ?_ | walk_at "ev1")
    rfl) ?_
  rintro f ω5 rfl
  refine Eq.mpr sw_seq ?_
  refine sw.mono (P := fun f _ => f = .nx (E8 c2 (some (.d (wD ts e))) (some (.d (.int (n : Nat)))) (some (.d (.int (m : Nat)))) (some (.ow .L ((lms T 0).map pr2))) (some (.d (.lst ((lms T 0).map pr2)))))) (by
    refine Eq.mpr sw_parO1 ?_
    refine Eq.mpr wp_cL ?_
    unfold E8
    repeat walk_at "ev1"
    refine (wp_dgF rfl).2.2 ?_
    repeat (first | with_reducible refine Eq.mpr (DL.wp_eqn (f3)) ?_ | with_reducible refine Eq.mpr (DL.wp_ofOs (f3)) ?_ | with_reducible refine Eq.mpr (DL.wp_eqn (f4)) ?_ | with_reducible refine Eq.mpr (DL.wp_ofOs (f4)) ?_ | walk_at "ev1")
    rfl) ?_
  rintro f ω6 rfl
  refine Eq.mpr sw_seq ?_
  refine sw.mono (P := fun f _ => f = .nx (E8 c2 (some (.d (wD ts e))) (some (.d (.int (n : Nat)))) (some (.d (.int (m : Nat)))) (some (.ow .L ((lms T 0).map pr2))) (some (.d (.lst ((lms T 0).map pr2)))))) (by
    unfold E8
    repeat walk_at "ev1"
    refine Eq.mpr (wp_oRepr rfl) ?_
    repeat (first | with_reducible refine Eq.mpr (DL.wp_eqn (ez)) ?_ | with_reducible refine Eq.mpr (DL.wp_ofOs (ez)) ?_ | with_reducible refine Eq.mpr (DL.wp_eqn (ez')) ?_ | with_reducible refine Eq.mpr (DL.wp_ofOs (ez')) ?_ | with_reducible refine Eq.mpr (DL.wp_eqn (nz)) ?_ | with_reducible refine Eq.mpr (DL.wp_ofOs (nz)) ?_ | walk_at "ev1")
    rfl) ?_
  rintro f ω7 rfl
  refine Eq.mpr sw_seq ?_
  refine sw.mono (P := fun f _ => ∃ c6, f = .nx (E8 c2 (some (.d (wD ts e))) (some (.d (.int (n : Nat)))) (some (.d (.int (m : Nat)))) c6 (some (.d (.lst ((lms T 0).map pr2)))))) (by
    unfold E8
    refine sw_appI rfl ?_ (by rw [List.length_map]; omega)
    repeat walk_at "ev1"
    exact ⟨_, rfl⟩) ?_
  rintro f ω8 ⟨c6', rfl⟩
  unfold E8
  repeat walk_at "ev1"
  refine (wp_dgF rfl).2.2 ?_
  repeat (first | with_reducible refine Eq.mpr (DL.wp_eqn (f5)) ?_ | with_reducible refine Eq.mpr (DL.wp_ofOs (f5)) ?_ | with_reducible refine Eq.mpr (DL.wp_eqn (nT)) ?_ | with_reducible refine Eq.mpr (DL.wp_ofOs (nT)) ?_ | walk_at "ev1")
  exact ⟨ts, e, _, _, _, _, hg, he, rfl⟩
theorem sz1 {s : Sh} (h : s.size = 1) : s = .o := by
  cases s with
  | o => rfl
  | n l r =>
    have := Sh.size_pos l
    have := Sh.size_pos r
    simp only [Sh.size] at h
    omega
theorem sz2 {s : Sh} (h : s.size = 2) : s = .n .o .o := by
  cases s with
  | o => simp [Sh.size] at h
  | n l r =>
    have h1 := Sh.size_pos l
    have h2 := Sh.size_pos r
    simp only [Sh.size] at h
    rw [sz1 (s := l) (by omega), sz1 (s := r) (by omega)]
theorem law_wp (ns : List Int) : (runS B_law tau0 (srcOf ns)).wp (fun d _ => d = .bl true) X0 := by
  unfold B_law
  refine Eq.mpr wp_runS ?_
  refine Eq.mpr sw_seq ?_
  have hrg : rg1 [.int 3] = some (rangeL 0 1 3) := rg1_nat 3 (by omega)
  refine sw.mono (P := fun f _ => ∃ (ts : List Tab) (e : PEnd) (c2 c4 c5 c6 c7 : Option Cell), GT ts ∧ e.ok ∧ f = .nx (E8 c2 (some (.d (wD ts e))) c4 c5 c6 c7)) (by
    unfold tau0
    repeat (first | with_reducible refine Eq.mpr (DL.wp_eqn (hrg)) ?_ | with_reducible refine Eq.mpr (DL.wp_ofOs (hrg)) ?_ | walk_at "ev1")
    refine loop_inv (fun i τ _ => ∃ (c2 c3 c4 c5 c6 c7 : Option Cell), τ = E8 c2 c3 c4 c5 c6 c7 ∧ (i = 0 ∨ ∃ (ts : List Tab) (e : PEnd), GT ts ∧ e.ok ∧ c3 = some (.d (wD ts e)))) ⟨none, none, none, none, none, none, rfl, .inl rfl⟩ ?_ ?_
    · rintro i d τ ω hd ⟨c2, c3, c4, c5, c6, c7, rfl, _⟩
      refine ⟨_, rfl, ?_⟩
      refine sw.mono (lap_ok (some (.d d)) c3 c4 c5 c6 c7 ω) ?_
      rintro f ω1 ⟨ts, e, c4, c5, c6, c7, hg, he, rfl⟩
      exact ⟨_, _, _, _, _, _, rfl, .inr ⟨ts, e, hg, he, rfl⟩⟩
    · rintro τ ω ⟨c2, c3, c4, c5, c6, c7, rfl, h | ⟨ts, e, hg, he, rfl⟩⟩
      · rw [rangeL_len] at h; omega
      · exact ⟨ts, e, _, _, _, _, _, hg, he, rfl⟩) ?_
  rintro f ω ⟨ts, e, c2, c4, c5, c6, c7, hg, he, rfl⟩
  obtain ⟨J, s⟩ := (stg_sg hg he).stop (n := 1) (by omega)
  obtain ⟨I, u⟩ := (stg_sg hg he).stop (n := 2) (by omega)
  have f1 := all_lumps_ok hg he (by omega) (by omega) s
  have f2 := all_lumps_ok hg he (by omega) (by omega) u
  have z1 : (endS (isL e) (rws (stg ts e) 1 J)).size = 1 := by rw [endS_size (isL e) (rws_ne (stg_sg hg he) (by omega) J), rws_sum (stg_wt hg he)]
  have z2 : (endS (isL e) (rws (stg ts e) 2 I)).size = 2 := by rw [endS_size (isL e) (rws_ne (stg_sg hg he) (by omega) I), rws_sum (stg_wt hg he)]
  rw [sz1 z1] at f1
  rw [sz2 z2] at f2
  have f1' : F_all_lumps [plD ts e, .int 1] = .ok (.lst [.tup [.int 0, .int 1]]) () := f1
  have f2' : F_all_lumps [plD ts e, .int 2] = .ok (.lst [.tup [.int 0, .int 2], .tup [.int 0, .int 1], .tup [.int 1, .int 2]]) () := f2
  have q1 : eqD (.lst [.tup [.int 0, .int 1]]) (.lst [.tup [.int 0, .int 1]]) = some (.bl true) := by kernel_rfl
  have q2 : eqD (.lst [.tup [.int 0, .int 2], .tup [.int 0, .int 1], .tup [.int 1, .int 2]]) (.lst [.tup [.int 0, .int 2], .tup [.int 0, .int 1], .tup [.int 1, .int 2]]) = some (.bl true) := by kernel_rfl
  unfold E8
  repeat walk_at "ev1"
  refine wp_eAndI ?_
  repeat walk_at "ev1"
  refine (wp_dgF rfl).2.2 ?_
  repeat (first | with_reducible refine Eq.mpr (DL.wp_eqn (f1')) ?_ | with_reducible refine Eq.mpr (DL.wp_ofOs (f1')) ?_ | with_reducible refine Eq.mpr (DL.wp_eqn (q1)) ?_ | with_reducible refine Eq.mpr (DL.wp_ofOs (q1)) ?_ | walk_at "ev1")
  refine .inl ⟨rfl, ?_⟩
  repeat walk_at "ev1"
  refine (wp_dgF rfl).2.2 ?_
  repeat (first | with_reducible refine Eq.mpr (DL.wp_eqn (f2')) ?_ | with_reducible refine Eq.mpr (DL.wp_ofOs (f2')) ?_ | with_reducible refine Eq.mpr (DL.wp_eqn (q2)) ?_ | with_reducible refine Eq.mpr (DL.wp_ofOs (q2)) ?_ | walk_at "ev1")
  rfl
theorem law_true : ∀ ns : List Int, ns.length ≤ 63 → ∃ ω', runS B_law tau0 (srcOf ns) = .ok (.bl true) ω' := by
  intro ns _
  obtain ⟨d, ω', e, rfl⟩ := (law_wp ns).ex
  exact ⟨ω', e⟩
end Lk
open PySem PySem.W PyProof.Rows in
set_option maxRecDepth 100000 in
set_option maxHeartbeats 0 in
theorem PySem.Challenge.cw_lumpplans_k23_all_lumps_listed_holds : PySem.Challenge.rw_lumpplans_k23_all_lumps_listed.Holds := by
  w_on; o_law; k_head; (case hw => w_witness2)
  k_fill
  refine Lk.walk (l := PySem.Challenge.rw_lumpplans_k23_all_lumps_listed) rfl rfl rfl rfl (fun w h Y => PySem.W.km_in_of Y) ?F
  case F =>
    intro w mg fa h KX G hmg
    refine' Lk.all_mk Lk.law_true KX G hmg ?aC ?pg ?hd ?po ?sa ?mk ?kc ?n_end ?n_tables ?a0 ?l0 ?c0 ?k0 ?a1 ?l1 ?c1 ?k1 ?a2 ?l2 ?c2 ?k2 ?a3 ?l3 ?c3 ?k3 ?a4 ?l4 ?c4 ?k4 ?a5 ?l5 ?c5 ?k5 ?a6 ?l6 ?c6 ?k6 ?a7 ?l7 ?c7 ?k7 ?a8 ?l8 ?c8 ?k8 ?a9 ?i9 ?l9 ?c9 ?k9 ?a10 ?l10 ?c10 ?k10 ?a11 ?l11 ?c11 ?k11 ?a12 ?l12 ?c12 ?k12 ?a13 ?l13 ?c13 ?k13 ?a14 ?l14 ?c14 ?k14 ?a15 ?i15 ?l15 ?c15 ?k15 ?a16 ?l16 ?c16 ?k16 ?a17 ?l17 ?c17 ?k17 ?a18 ?l18 ?c18 ?k18 ?a19 ?l19 ?c19 ?k19 ?a20 ?l20 ?c20 ?k20 ?a21 ?l21 ?c21 ?k21 ?a22 ?l22 ?c22 ?k22 ?a23 ?l23 ?c23 ?k23 ?a24 ?l24 ?c24 ?k24 ?a25 ?l25 ?c25 ?k25 ?a26 ?l26 ?c26 ?k26 ?a27 ?l27 ?c27 ?k27 ?a28 ?l28 ?c28 ?k28 ?a29 ?l29 ?c29 ?k29 ?a30 ?l30 ?c30 ?k30 ?a31 ?i31 ?l31 ?c31 ?k31 ?a32 ?l32 ?c32 ?k32 ?a33 ?l33 ?c33 ?k33 ?a34 ?l34 ?c34 ?k34 ?a35 ?l35 ?c35 ?k35 ?a36 ?l36 ?c36 ?k36 ?a37 ?l37 ?c37 ?k37 ?a38 ?l38 ?c38 ?k38 ?a39 ?l39 ?c39 ?k39 ?a40 ?l40 ?c40 ?k40 ?a41 ?l41 ?c41 ?k41 ?a42 ?l42 ?c42 ?k42 ?z_tuple ?z_isinstance ?z_len ?z_enumerate ?z_range ?z_min ?z_str ?z_sorted ?z_list ?z_int ?z_abs ?z_max ?z_repr ?cuE ?cuL ?cuV ?cuN ?ctE ?ctL ?ctV ?ctN ?ctD
    (case aC => k_is)
    (case pg => k_is)
    (case hd => k_is)
    (case po => k_is)
    (case sa => k_is)
    (case mk => k_is)
    (case kc => k_is)
    (case n_end => k_is)
    (case n_tables => k_is)
    (case a0 => k_is)
    (case l0 => k_is)
    (case c0 => k_is)
    (case k0 => k_is)
    (case a1 => k_is)
    (case l1 => k_is)
    (case c1 => k_is)
    (case k1 => k_is)
    (case a2 => k_is)
    (case l2 => k_is)
    (case c2 => k_is)
    (case k2 => k_is)
    (case a3 => k_is)
    (case l3 => k_is)
    (case c3 => k_is)
    (case k3 => k_is)
    (case a4 => k_is)
    (case l4 => k_is)
    (case c4 => k_is)
    (case k4 => k_is)
    (case a5 => k_is)
    (case l5 => k_is)
    (case c5 => k_is)
    (case k5 => k_is)
    (case a6 => k_is)
    (case l6 => k_is)
    (case c6 => k_is)
    (case k6 => k_is)
    (case a7 => k_is)
    (case l7 => k_is)
    (case c7 => k_is)
    (case k7 => k_is)
    (case a8 => k_is)
    (case l8 => k_is)
    (case c8 => k_is)
    (case k8 => k_is)
    (case a9 => k_is)
    (case i9 => k_is)
    (case l9 => k_is)
    (case c9 => k_is)
    (case k9 => k_is)
    (case a10 => k_is)
    (case l10 => k_is)
    (case c10 => k_is)
    (case k10 => k_is)
    (case a11 => k_is)
    (case l11 => k_is)
    (case c11 => k_is)
    (case k11 => k_is)
    (case a12 => k_is)
    (case l12 => k_is)
    (case c12 => k_is)
    (case k12 => k_is)
    (case a13 => k_is)
    (case l13 => k_is)
    (case c13 => k_is)
    (case k13 => k_is)
    (case a14 => k_is)
    (case l14 => k_is)
    (case c14 => k_is)
    (case k14 => k_is)
    (case a15 => k_is)
    (case i15 => k_is)
    (case l15 => k_is)
    (case c15 => k_is)
    (case k15 => k_is)
    (case a16 => k_is)
    (case l16 => k_is)
    (case c16 => k_is)
    (case k16 => k_is)
    (case a17 => k_is)
    (case l17 => k_is)
    (case c17 => k_is)
    (case k17 => k_is)
    (case a18 => k_is)
    (case l18 => k_is)
    (case c18 => k_is)
    (case k18 => k_is)
    (case a19 => k_is)
    (case l19 => k_is)
    (case c19 => k_is)
    (case k19 => k_is)
    (case a20 => k_is)
    (case l20 => k_is)
    (case c20 => k_is)
    (case k20 => k_is)
    (case a21 => k_is)
    (case l21 => k_is)
    (case c21 => k_is)
    (case k21 => k_is)
    (case a22 => k_is)
    (case l22 => k_is)
    (case c22 => k_is)
    (case k22 => k_is)
    (case a23 => k_is)
    (case l23 => k_is)
    (case c23 => k_is)
    (case k23 => k_is)
    (case a24 => k_is)
    (case l24 => k_is)
    (case c24 => k_is)
    (case k24 => k_is)
    (case a25 => k_is)
    (case l25 => k_is)
    (case c25 => k_is)
    (case k25 => k_is)
    (case a26 => k_is)
    (case l26 => k_is)
    (case c26 => k_is)
    (case k26 => k_is)
    (case a27 => k_is)
    (case l27 => k_is)
    (case c27 => k_is)
    (case k27 => k_is)
    (case a28 => k_is)
    (case l28 => k_is)
    (case c28 => k_is)
    (case k28 => k_is)
    (case a29 => k_is)
    (case l29 => k_is)
    (case c29 => k_is)
    (case k29 => k_is)
    (case a30 => k_is)
    (case l30 => k_is)
    (case c30 => k_is)
    (case k30 => k_is)
    (case a31 => k_is)
    (case i31 => k_is)
    (case l31 => k_is)
    (case c31 => k_is)
    (case k31 => k_is)
    (case a32 => k_is)
    (case l32 => k_is)
    (case c32 => k_is)
    (case k32 => k_is)
    (case a33 => k_is)
    (case l33 => k_is)
    (case c33 => k_is)
    (case k33 => k_is)
    (case a34 => k_is)
    (case l34 => k_is)
    (case c34 => k_is)
    (case k34 => k_is)
    (case a35 => k_is)
    (case l35 => k_is)
    (case c35 => k_is)
    (case k35 => k_is)
    (case a36 => k_is)
    (case l36 => k_is)
    (case c36 => k_is)
    (case k36 => k_is)
    (case a37 => k_is)
    (case l37 => k_is)
    (case c37 => k_is)
    (case k37 => k_is)
    (case a38 => k_is)
    (case l38 => k_is)
    (case c38 => k_is)
    (case k38 => k_is)
    (case a39 => k_is)
    (case l39 => k_is)
    (case c39 => k_is)
    (case k39 => k_is)
    (case a40 => k_is)
    (case l40 => k_is)
    (case c40 => k_is)
    (case k40 => k_is)
    (case a41 => k_is)
    (case l41 => k_is)
    (case c41 => k_is)
    (case k41 => k_is)
    (case a42 => k_is)
    (case l42 => k_is)
    (case c42 => k_is)
    (case k42 => k_is)
    (case z_tuple => k_is)
    (case z_isinstance => k_is)
    (case z_len => k_is)
    (case z_enumerate => k_is)
    (case z_range => k_is)
    (case z_min => k_is)
    (case z_str => k_is)
    (case z_sorted => k_is)
    (case z_list => k_is)
    (case z_int => k_is)
    (case z_abs => k_is)
    (case z_max => k_is)
    (case z_repr => k_is)
    (case cuE => exact rfl)
    (case cuL => k_is)
    (case cuV => exact rfl)
    (case cuN => kernel_rfl)
    (case ctE => exact rfl)
    (case ctL => k_is)
    (case ctV => exact rfl)
    (case ctN => kernel_rfl)
    (case ctD => decide)
