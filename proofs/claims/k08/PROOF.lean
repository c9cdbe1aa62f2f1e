import PyProof.Rows.All
import Wide.All
import OpenK.AllK
import Wide.FinOn
import HandS.ForMost
import HandS.Evl
import HandS.IsInst
import HandS.TupAny
import HandS.SortInts
import HandS.Conv
import HandS.TupLen
import HandS.TupMul
import HandS.Steps
import PySem.Challenge.RW_onlythedirt_k08_points_held
set_option Elab.async false
set_option linter.all false
set_option maxRecDepth 100000
set_option maxHeartbeats 4000000
namespace Od
open PySem L2 Evl

/-! ### an object under another description -/
/-- the same objects, the one at a told otherwise -/
structure Swp (P : Program) (w : World) (H' H'' : Hp) (a : Addr) (o u : HO) : Prop where
  at1 : H' a = some o
  eq : H'' = upd H' a u
  nt : ∀ xs, o ≠ .tup xs
  nf : ∀ x y, o ≠ .frz x y
  nb : ∀ ps, o ≠ .tbl ps
  nw : ∀ x, o ≠ .own x
  to : ∀ h, HOk P w H' h → ObjOk P w H'' h a u
theorem Swp.ne {P : Program} {w : World} {H' H'' : Hp} {a b : Addr} {o u x : HO} (S : Swp P w H' H'' a o u) (h : H' b = some x) (d : o ≠ x) : b ≠ a := by
  intro e
  rw [e, S.at1] at h
  exact d (Option.some.inj h)
theorem Swp.hok {P : Program} {w : World} {H' H'' : Hp} {a : Addr} {o u : HO} {h : Heap} (S : Swp P w H' H'' a o u) (k : HOk P w H' h) : HOk P w H'' h := by
  intro b x e
  by_cases hb : b = a
  · subst hb
    have e2 := e
    rw [S.eq, upd_same] at e2
    cases e2
    exact S.to h k
  · have e1 : H' b = some x := by
      rw [S.eq, upd_ne hb] at e
      exact e
    refine (k b x e1).stay (fun c v _ q => q) (fun c q => ?_) (fun c xs q => ?_)
    · rw [S.eq, upd_ne (S.ne q (S.nw _))]
      exact q
    · rw [S.eq, upd_ne (S.ne q (S.nt _))]
      exact q
theorem Swp.unR {P : Program} {w : World} {H H' H'' : Hp} {a : Addr} {o u : HO} {h h' : Heap} {fs ex : List Addr} (S : Swp P w H' H'' a o u) (k : Un fs ex H H' h h') : Un fs ex H H'' h h' := by
  refine ⟨k.keep, k.slot, fun b x q n hx => ?_, k.there, fun b xs q => ?_, fun b x y q => ?_, fun b ps q => ?_⟩
  · have e := k.free b x q n hx
    rw [S.eq, upd_ne ?_]
    · exact e
    · intro z
      rw [z, S.at1] at e
      cases e
  · have e := k.tups b xs q
    rw [S.eq, upd_ne (S.ne e (S.nt _))]
    exact e
  · have e := k.frzs b x y q
    rw [S.eq, upd_ne (S.ne e (S.nf _ _))]
    exact e
  · obtain ⟨m, e⟩ := k.tbls b ps q
    refine ⟨m, ?_⟩
    rw [S.eq, upd_ne (S.ne e (S.nb _))]
    exact e
theorem Swp.unL {P : Program} {w : World} {H H1 H2 : Hp} {a : Addr} {o u : HO} {h h' : Heap} {fs ex : List Addr} (S : Swp P w H H1 a o u) (k : Un fs ex H1 H2 h h') : Un fs ex H H2 h h' := by
  have z : ∀ b, H b = none → H1 b = none := fun b n => by
    rw [S.eq, upd_ne ?_]
    · exact n
    · intro z
      rw [z, S.at1] at n
      cases n
  refine ⟨fun b x q n => k.keep b x q (z b n), fun b x q n => k.slot b x q (z b n), fun b x q n => k.free b x q (z b n), k.there, fun b xs q => k.tups b xs ?_, fun b x y q => k.frzs b x y ?_, fun b ps q => k.tbls b ps ?_⟩
  · rw [S.eq, upd_ne (S.ne q (S.nt _))]
    exact q
  · rw [S.eq, upd_ne (S.ne q (S.nf _ _))]
    exact q
  · rw [S.eq, upd_ne (S.ne q (S.nb _))]
    exact q
theorem Swp.env {P : Program} {w : World} {K : PySem.W.Frag} {mg : Str → Option Value} {base : Heap} {A : Around} {outer : List Env} {s : Shared} {H H1 : Hp} {a : Addr} {o u : HO}
    (S : Swp P w H H1 a o u) (e : Env0 P w K mg base A outer s H) : Env0 P w K mg base A outer s H1 := by
  have z : ∀ b, H b = none → H1 b = none := fun b n => by
    rw [S.eq, upd_ne ?_]
    · exact n
    · intro z
      rw [z, S.at1] at n
      cases n
  exact ⟨e.frames, e.mod, fun b x q => ⟨(e.bs b x q).1, z b (e.bs b x q).2⟩, e.bsz, e.funs, fun b hb => z b (e.frf b hb), S.hok e.hok, e.bare⟩

/-- behind a call the object at a is told otherwise -/
theorem CE.swp {P : Program} {w : World} {outer : List Env} {H : Hp} {s s' : Shared} {Q : VK} {u : Value}
    (h : CE outer P w H s (fun v H' => ∃ H'' a o x, Swp P w H' H'' a o x ∧ Q v H'') u s') : CE outer P w H s Q u s' := by
  obtain ⟨v, H', h1, h2, h3, h4, h5, H'', a, o, x, S, q⟩ := h
  exact ⟨v, H'', h1, h2, S.unR h3, S.hok h4, h5, q⟩
/-- a def's promise, its answer's object told otherwise -/
theorem FnOk.out {P : Program} {w : World} {K : PySem.W.Frag} {mg : Str → Option Value} {base : Heap} {k : Nat} {f : Addr} {fd : FuncData} {ps : List Str} {sp sp' : Sp} (F : FnOk P w K mg base CX0 k f fd ps sp)
    (hl : ∀ vs H Q E, sp' vs H Q E → vs.length = ps.length)
    (h : ∀ vs H Q E, sp' vs H Q E → sp vs H (fun v H' => ∃ H'' a o x, Swp P w H' H'' a o x ∧ Q v H'') E) : FnOk P w K mg base CX0 k f fd ps sp' := by
  refine ⟨hl, fun A outer s H args us vs Q E hr he hb hv hs => ?_⟩
  refine codeAny_mono (F.run A outer s H args us vs _ E hr he hb hv (h _ _ _ _ hs)) ?_
  intro r s' q
  match r, q with
  | .ok (.ret u), q => exact CE.swp q
  | .error e, q => exact q
end Od

namespace Od
open PySem L2 Evl

/-! ### the law's deck: a list whose state is not told -/
def deckV (n k seed : Int) (l : Addr) (c : Int) : List V := [.int n, .int k, .int seed, .ref l, .int c]
def IsDeck (l : Addr) (xs : List V) : Prop := ∃ n k seed c, xs = deckV n k seed l c ∧ 0 ≤ n ∧ 0 ≤ k ∧ 0 ≤ seed ∧ seed < 2147483647
def deckO (a l : Addr) : HO := .ext fun h => ∃ xs, IsDeck l xs ∧ ∃ (its : List Value) (n : Nat), Vals xs its ∧ h.get? a = some { cls := .type "list", data := .seq its.toArray n }
def DeckAt (K : PySem.W.Frag) (H : Hp) (a : Addr) : Prop := ∃ (l : Addr) (ns : List Int), H a = some (deckO a l) ∧ H l = some (.lst (ns.map V.int))
theorem DeckAt.mono {K : PySem.W.Frag} {H H' : Hp} {a : Addr} (e : Ex H H') (h : DeckAt K H a) : DeckAt K H' a := by
  obtain ⟨l, ns, h1, h2⟩ := h
  exact ⟨l, ns, e _ _ h1, e _ _ h2⟩
theorem isDeck_len {l : Addr} {xs : List V} (h : IsDeck l xs) : xs.length ≤ sizeLine := by
  obtain ⟨n, k, seed, c, rfl, _⟩ := h
  show 5 ≤ sizeLine
  decide
theorem deck_ok {P : Program} {w : World} {H : Hp} {h : Heap} {a l : Addr} {xs : List V} (d : IsDeck l xs) (k : ∃ (its : List Value) (n : Nat), Vals xs its ∧ h.get? a = some { cls := .type "list", data := .seq its.toArray n }) :
    ObjOk P w H h a (deckO a l) := by
  obtain ⟨its, n, r, e⟩ := k
  refine ⟨⟨xs, d, its, n, r, e⟩, ⟨_, e⟩, fun h1 h2 p q => ?_⟩
  obtain ⟨ys, d1, its1, n1, r1, e1⟩ := p
  exact ⟨ys, d1, its1, n1, r1, q _ e1⟩
/-- an open deck is closed -/
theorem swp_close {P : Program} {w : World} {H : Hp} {a l : Addr} {xs : List V} (h : H a = some (.lst xs)) (d : IsDeck l xs) : Swp P w H (upd H a (deckO a l)) a (.lst xs) (deckO a l) := by
  refine ⟨h, rfl, fun _ e => (nomatch e), fun _ _ e => (nomatch e), fun _ e => (nomatch e), fun _ e => (nomatch e), fun hp k => ?_⟩
  obtain ⟨_, its, n, r, e⟩ := k a _ h
  exact deck_ok d ⟨its, n, r, e⟩
/-- a closed deck is opened -/
theorem swp_open {P : Program} {w : World} {H : Hp} {h : Heap} {a l : Addr} (ha : H a = some (deckO a l)) (k : HOk P w H h) :
    ∃ xs, IsDeck l xs ∧ HOk P w (upd H a (.lst xs)) h := by
  obtain ⟨⟨xs, d, its, n, r, e⟩, _, _⟩ := k a _ ha
  refine ⟨xs, d, fun b x q => ?_⟩
  by_cases hb : b = a
  · subst hb
    rw [upd_same] at q
    cases q
    exact ⟨isDeck_len d, its, n, r, e⟩
  · rw [upd_ne hb] at q
    refine (k b x q).stay (fun c v _ q => q) (fun c q => ?_) (fun c xs q => ?_)
    · rw [upd_ne ?_]
      · exact q
      · intro z
        rw [z, ha] at q
        cases q
    · rw [upd_ne ?_]
      · exact q
      · intro z
        rw [z, ha] at q
        cases q
theorem un_open {H H2 : Hp} {a l : Addr} {xs : List V} {h h' : Heap} {fs ex : List Addr} (ha : H a = some (deckO a l)) (k : Un fs ex (upd H a (.lst xs)) H2 h h') : Un fs ex H H2 h h' := by
  have z : ∀ b, H b = none → upd H a (.lst xs) b = none := fun b n => by
    rw [upd_ne ?_]
    · exact n
    · intro z
      rw [z, ha] at n
      cases n
  refine ⟨fun b x q n => k.keep b x q (z b n), fun b x q n => k.slot b x q (z b n), fun b x q n => k.free b x q (z b n), k.there, fun b xs q => k.tups b xs ?_, fun b x y q => k.frzs b x y ?_, fun b ps q => k.tbls b ps ?_⟩
  · rw [upd_ne (ne_of q ha (fun e => nomatch e))]
    exact q
  · rw [upd_ne (ne_of q ha (fun e => nomatch e))]
    exact q
  · rw [upd_ne (ne_of q ha (fun e => nomatch e))]
    exact q
theorem env_open {P : Program} {w : World} {K : PySem.W.Frag} {mg : Str → Option Value} {base : Heap} {A : Around} {outer : List Env} {s : Shared} {H : Hp} {a l : Addr} {xs : List V} (ha : H a = some (deckO a l))
    (e : Env0 P w K mg base A outer s H) (hok : HOk P w (upd H a (.lst xs)) s.heap) : Env0 P w K mg base A outer s (upd H a (.lst xs)) := by
  have z : ∀ b, H b = none → upd H a (.lst xs) b = none := fun b n => by
    rw [upd_ne ?_]
    · exact n
    · intro z
      rw [z, ha] at n
      cases n
  exact ⟨e.frames, e.mod, fun b x q => ⟨(e.bs b x q).1, z b (e.bs b x q).2⟩, e.bsz, e.funs, fun b hb => z b (e.frf b hb), hok, e.bare⟩

/-- how a def that changes the open deck is told: n with 0 ≤ n < b -/
def spDrawO : Sp := fun vs H Q _ => ∃ (a : Addr) (b : Int) (l : Addr) (ns : List Int) (xs : List V), vs = [.ref a, .int b] ∧ H a = some (.lst xs) ∧ IsDeck l xs ∧ H l = some (.lst (ns.map V.int)) ∧ l ≠ a ∧ 0 < b ∧ b < 1073741824 ∧
  ∀ n ys, 0 ≤ n → n < b → IsDeck l ys → Q (.int n) (upd H a (.lst ys))
/-- .. the closed one -/
def spDraw (K : PySem.W.Frag) : Sp := fun vs H Q _ => ∃ a b, vs = [.ref a, .int b] ∧ DeckAt K H a ∧ 0 < b ∧ b < 1073741824 ∧ ∀ n, 0 ≤ n → n < b → Q (.int n) H
theorem upd_back {H : Hp} {a : Addr} {o u : HO} (h : H a = some o) : upd (upd H a u) a o = H := by
  funext b
  unfold upd
  by_cases e : b = a
  · simp [e, h]
  · simp [e]
theorem draw_closed {P : Program} {w : World} {K : PySem.W.Frag} {mg : Str → Option Value} {base : Heap} {k : Nat} {f : Addr} {fd : FuncData} {ps : List Str} (F : FnOk P w K mg base CX0 k f fd ps spDrawO) (hp : ps.length = 2) :
    FnOk P w K mg base CX0 k f fd ps (spDraw K) := by
  refine ⟨fun vs H Q E h => ?_, fun A outer s H args us vs Q E hr he hb hv hs => ?_⟩
  · obtain ⟨a, b, rfl, _⟩ := h
    exact hp.symm
  · obtain ⟨a, b, rfl, ⟨l, ns, h1, h2⟩, b0, b1, q⟩ := hs
    obtain ⟨xs, d, hok⟩ := swp_open h1 he.hok
    have hla : l ≠ a := ne_of h2 h1 (fun e => nomatch e)
    refine codeAny_mono (F.run A outer s (upd H a (.lst xs)) args us _ (fun v H' => ∃ ys, H' = upd H a (.lst ys) ∧ IsDeck l ys ∧ Q v H) E hr (env_open h1 he hok) hb hv ?_) ?_
    · refine ⟨a, b, l, ns, xs, rfl, upd_same, d, by rw [upd_ne hla]; exact h2, hla, b0, b1, fun n ys n0 n1 d2 => ⟨ys, ?_, d2, q n n0 n1⟩⟩
      rw [upd_upd]
    · intro r s' q2
      match r, q2 with
      | .ok (.ret u), q2 =>
        obtain ⟨v, H', c1, c2, c3, c4, c5, ys, rfl, d2, q3⟩ := q2
        have S := swp_close (P := P) (w := w) (H := upd H a (.lst ys)) (a := a) (l := l) upd_same d2
        have e := upd_back (u := .lst ys) h1
        rw [e] at S
        exact ⟨v, H, c1, c2, un_open h1 (S.unR c3), S.hok c4, c5, q3⟩
      | .error e, q2 => exact q2
/-- the def that makes the deck: open, closed -/
def spDeckO (K : PySem.W.Frag) : Sp := fun vs H Q _ => ∃ (a : Addr) (ns : List Int), vs = [.ref a] ∧ SqL K H a (ns.map V.int) ∧ ns.length ≤ 63 ∧ ∀ p l ys H', H p = none → Ex H H' → H' p = some (.lst ys) → IsDeck l ys → l ≠ p → H' l = some (.lst (ns.map V.int)) → Q (.ref p) H'
def spDeck (K : PySem.W.Frag) : Sp := fun vs H Q _ => ∃ (a : Addr) (ns : List Int), vs = [.ref a] ∧ SqL K H a (ns.map V.int) ∧ ns.length ≤ 63 ∧ ∀ p H', Ex H H' → DeckAt K H' p → Q (.ref p) H'
theorem deck_closed {P : Program} {w : World} {K : PySem.W.Frag} {mg : Str → Option Value} {base : Heap} {k : Nat} {f : Addr} {fd : FuncData} {ps : List Str} (F : FnOk P w K mg base CX0 k f fd ps (spDeckO K)) (hp : ps.length = 1) :
    FnOk P w K mg base CX0 k f fd ps (spDeck K) := by
  refine FnOk.out F (fun vs H Q E h => ?_) fun vs H Q E h => ?_
  · obtain ⟨a, ns, rfl, _⟩ := h
    exact hp.symm
  · obtain ⟨a, ns, rfl, h1, h2, q⟩ := h
    refine ⟨a, ns, rfl, h1, h2, fun p l ys H' hp e hy d hl h3 => ⟨upd H' p (deckO p l), p, .lst ys, deckO p l, swp_close hy d, q p _ ?_ ⟨l, ns, upd_same, by rw [upd_ne hl]; exact h3⟩⟩⟩
    exact Ex.mut e hp
end Od

namespace Od
open PySem L2 Evl

/-! ### what kind a value is -/
inductive Kn (H : Hp) : V → String → Prop
  | non : Kn H .non "NoneType"
  | bl (b : Bool) : Kn H (.bl b) "bool"
  | int (i : Int) : Kn H (.int i) "int"
  | str (x : Str) : Kn H (.str x) "str"
  | tup {a : Addr} {xs : List V} (h : H a = some (.tup xs)) : Kn H (.ref a) "tuple"
  | lst {a : Addr} {xs : List V} (h : H a = some (.lst xs)) : Kn H (.ref a) "list"
theorem Kn.mono {H H' : Hp} {v : V} {T : String} (e : Ex H H') (k : Kn H v T) : Kn H' v T := by
  cases k with
  | non => exact .non
  | bl b => exact .bl b
  | int i => exact .int i
  | str x => exact .str x
  | tup h => exact .tup (e _ _ h)
  | lst h => exact .lst (e _ _ h)
theorem Kn.ty {K : PySem.W.Frag} {H : Hp} {v : V} {T : String} (k : Kn H v T) : TyX K H v (.type T) := by
  cases k with
  | non => exact .base .non
  | bl b => exact .base (.bl b)
  | int i => exact .base (.int i)
  | str x => exact .base (.str x)
  | tup h => exact .base (.tup h)
  | lst h => exact .base (.lst h)
/-- isinstance of such a value -/
def isA (T n : String) : Bool := T == n || (T == "bool" && n == "int")
theorem kit_int {H : Hp} {v : V} {T : String} (k : Kn H v T) : kitB T "int" = some (isA T "int") := by
  cases k <;> decide +kernel
theorem kit_bool {H : Hp} {v : V} {T : String} (k : Kn H v T) : kitB T "bool" = some (isA T "bool") := by
  cases k <;> decide +kernel
theorem kit_tuple {H : Hp} {v : V} {T : String} (k : Kn H v T) : kitB T "tuple" = some (isA T "tuple") := by
  cases k <;> decide +kernel
theorem kit_list {H : Hp} {v : V} {T : String} (k : Kn H v T) : kitB T "list" = some (isA T "list") := by
  cases k <;> decide +kernel
theorem kit_str {H : Hp} {v : V} {T : String} (k : Kn H v T) : kitB T "str" = some (isA T "str") := by
  cases k <;> decide +kernel
theorem isi {K : PySem.W.Frag} {H : Hp} {v : V} {T n : String} {b : Bool} {Q : VK} (k : Kn H v T) (h : kitB T n = some b) (q : Q (.bl b) H) : rIsi K [v, .ty n] H Q :=
  ⟨v, _, _, _, b, rfl, .ty n, k.ty, kit_ty h, q⟩
def isI : V → Bool
  | .int _ => true
  | _ => false
theorem Kn.whole {H : Hp} {v : V} {T : String} (k : Kn H v T) : (isA T "int" && !isA T "bool") = isI v := by
  have h1 : (isA "NoneType" "int" && !isA "NoneType" "bool") = false := by decide +kernel
  have h2 : (isA "bool" "int" && !isA "bool" "bool") = false := by decide +kernel
  have h3 : (isA "int" "int" && !isA "int" "bool") = true := by decide +kernel
  have h4 : (isA "str" "int" && !isA "str" "bool") = false := by decide +kernel
  have h5 : (isA "tuple" "int" && !isA "tuple" "bool") = false := by decide +kernel
  have h6 : (isA "list" "int" && !isA "list" "bool") = false := by decide +kernel
  cases k with
  | non => exact h1
  | bl b => exact h2
  | int i => exact h3
  | str x => exact h4
  | tup h => exact h5
  | lst h => exact h6

/-- a comprehension's turn without a test -/
theorem lcY {σ : L2.St} {H : Hp} {A B : Hp → Prop} (h : A H) : tYes σ H (fun b H3 => if b = true then A H3 else B H3) := by
  show if true = true then A H else B H
  exact iteT h
/-- a def that is called: where it stands, what it promises -/
structure Def (P : Program) (w : World) (K : PySem.W.Frag) (mg : Str → Option Value) (base : Heap) (CX : CXT) (x : Str) (k : Nat) (ps : List Str) (sp : Sp) where
  f : Addr
  fd : FuncData
  ok : FnOk P w K mg base CX k f fd ps sp
  mgf : mg x = some (.ref f)
  kp : PySem.W.keepIn K (.ref f) = true
  b : L2.Binds K fd ps []
end Od

namespace Od
open PySem L2 Evl

theorem bt_isinstance : bootBuiltins "isinstance" = some (.builtin "isinstance") := by decide +kernel
theorem bt_len : bootBuiltins "len" = some (.builtin "len") := by decide +kernel
theorem bt_abs : bootBuiltins "abs" = some (.builtin "abs") := by decide +kernel
theorem bt_all : bootBuiltins "all" = some (.builtin "all") := by decide +kernel
theorem bt_any : bootBuiltins "any" = some (.builtin "any") := by decide +kernel
theorem bt_sorted : bootBuiltins "sorted" = some (.builtin "sorted") := by decide +kernel
theorem bt_min : bootBuiltins "min" = some (.builtin "min") := by decide +kernel
theorem bt_max : bootBuiltins "max" = some (.builtin "max") := by decide +kernel
theorem bt_sum : bootBuiltins "sum" = some (.builtin "sum") := by decide +kernel
theorem bt_repr : bootBuiltins "repr" = some (.builtin "repr") := by decide +kernel
theorem bt_int : bootBuiltins "int" = some (.type "int") := by decide +kernel
theorem bt_bool : bootBuiltins "bool" = some (.type "bool") := by decide +kernel
theorem bt_tuple : bootBuiltins "tuple" = some (.type "tuple") := by decide +kernel
theorem bt_list : bootBuiltins "list" = some (.type "list") := by decide +kernel
theorem bt_str : bootBuiltins "str" = some (.type "str") := by decide +kernel
theorem bt_range : bootBuiltins "range" = some (.type "range") := by decide +kernel
theorem bt_enumerate : bootBuiltins "enumerate" = some (.type "enumerate") := by decide +kernel
theorem bt_zip : bootBuiltins "zip" = some (.type "zip") := by decide +kernel
theorem bt_ValueError : bootBuiltins "ValueError" = some (.type "ValueError") := by decide +kernel
theorem pickV {xs : List V} {i : Int} (h0 : 0 ≤ i) (h1 : i < xs.length) : ∃ v, v ∈ xs ∧ atI xs i = some v := by
  obtain ⟨m, rfl⟩ := Int.eq_ofNat_of_zero_le h0
  have hm : m < xs.length := by omega
  exact ⟨xs[m], List.getElem_mem hm, atI_nat (List.getElem?_eq_getElem hm)⟩
theorem pickI {ns : List Int} {i : Int} (h0 : 0 ≤ i) (h1 : i < ns.length) : ∃ w, w ∈ ns ∧ atI (ns.map V.int) i = some (.int w) := by
  obtain ⟨m, rfl⟩ := Int.eq_ofNat_of_zero_le h0
  have hm : m < ns.length := by omega
  exact ⟨ns[m], List.getElem_mem hm, atI_nat (by rw [List.getElem?_map, List.getElem?_eq_getElem hm]; rfl)⟩
theorem ex_free {H H' : Hp} {p : Addr} (e : Ex H H') (h : H' p = none) : H p = none := fresh_back e h
/-- a rectangle of ints stands at p -/
def RectAt (H : Hp) (p : Addr) (l t r b : Int) : Prop := H p = some (.tup [.int l, .int t, .int r, .int b])
theorem cutV_whole {xs : List V} {lo hi : Option Int} (h : HT.sIx xs.length 0 lo = 0 ∧ HT.sIx xs.length xs.length hi = xs.length) : cutV xs lo hi = xs := by
  unfold cutV
  rw [h.1, h.2]
  simp
structure RSlS (K : PySem.W.Frag) (x : V) (lo hi : Option Int) (H : Hp) (Q : VK) : Prop where
  h : rSlA K x lo hi H Q
structure RCatS (K : PySem.W.Frag) (x y : V) (H : Hp) (Q : VK) : Prop where
  h : rCatA K x y H Q
theorem slA {K : PySem.W.Frag} {H : Hp} {a : Addr} {xs : List V} {lo hi : Option Int} {Q : VK} (h : H a = some (.tup xs)) (q : ∀ p H', Ex H H' → H' p = some (.tup (cutV xs lo hi)) → Q (.ref p) H') : RSlS K (.ref a) lo hi H Q := by
  refine .mk ?_
  refine ⟨a, xs, rfl, SqT.of h, fun hw => ?_, fun _ p hp => q p _ (Ex.new hp) upd_same⟩
  refine q a H (Ex.refl _) ?_
  rw [cutV_whole hw]
  exact h
theorem catA {K : PySem.W.Frag} {H : Hp} {a b : Addr} {xs ys : List V} {Q : VK} (h : H a = some (.tup xs)) (h' : H b = some (.tup ys)) (hl : xs.length + ys.length ≤ sizeLine) (q : ∀ p H', Ex H H' → H' p = some (.tup (xs ++ ys)) → Q (.ref p) H') : RCatS K (.ref a) (.ref b) H Q := by
  refine .mk ?_
  refine ⟨a, b, xs, ys, rfl, rfl, SqT.of h, SqT.of h', hl, fun e => ?_, fun _ e => ?_, fun _ _ p hp => q p _ (Ex.new hp) upd_same⟩
  · refine q b H (Ex.refl _) ?_
    rw [e]
    exact h'
  · refine q a H (Ex.refl _) ?_
    rw [e, List.append_nil]
    exact h
theorem mem_cutV {xs : List V} {lo hi : Option Int} {x : V} (h : x ∈ cutV xs lo hi) : x ∈ xs := List.mem_of_mem_drop (List.mem_of_mem_take h)
end Od

namespace Od
open PySem L2 Evl
/-! ### the rules with the written part told -/
section
variable {X : Cx} (K : PySem.W.Frag)
theorem kisi (h : X.K = K := by rfl) : CallR X (.builtin "isinstance") (rIsi K) := by
  subst h
  exact call_isi
theorem kixL (h : X.K = K := by rfl) : IxR X (rIxL K) := by
  subst h
  exact ix_list
theorem kixT (h : X.K = K := by rfl) : IxR X (rIxT K) := by
  subst h
  exact ix_tup
theorem kixS (h : X.K = K := by rfl) : IxR X (rIx K) := by
  subst h
  exact ix_seq
theorem kslL (h : X.K = K := by rfl) : SlR X (rSlL K) := by
  subst h
  exact sl_list
theorem kslA (h : X.K = K := by rfl) : SlR X (RSlS K) := by
  subst h
  exact fun pins s σ H x v vl vu lo hi sl Q I r hs pl pu q => sl_tupA pins s σ H x v vl vu lo hi sl Q I r hs pl pu q.h
theorem kcatA (h : X.K = K := by rfl) : OpR X (binaryOp .Add) (RCatS K) := by
  subst h
  exact fun pins s σ H x y v u Q I rx ry q => op_catA pins s σ H x y v u Q I rx ry q.h
theorem krepT (h : X.K = K := by rfl) : OpR X (binaryOp .Mult) (rRepT K) := by
  subst h
  exact op_repT
theorem keqD (hu : X.A.units + 64 < cLine) (h : X.K = K := by rfl) : OpR X (compareOp .Eq) (rEqD K) := by
  subst h
  exact op_eqD hu
theorem kneD (hu : X.A.units + 64 < cLine) (h : X.K = K := by rfl) : OpR X (compareOp .NotEq) (rNeD K) := by
  subst h
  exact op_neD hu
theorem kin (h : X.K = K := by rfl) : OpR X (compareOp .In) (rIn K false) := by
  subst h
  exact op_in_seq
theorem knotin (h : X.K = K := by rfl) : OpR X (compareOp .NotIn) (rIn K true) := by
  subst h
  exact op_notIn_seq
theorem klen (h : X.K = K := by rfl) : CallR X (.builtin "len") (rLenS K) := by
  subst h
  exact call_len_seq
theorem klist (h : X.K = K := by rfl) : CallR X (.type "list") (rListS K) := by
  subst h
  exact call_list_of
def rTupS (K : PySem.W.Frag) : List V → Hp → VK → Prop := fun xs H Q => ∃ p ys, xs = [.ref p] ∧ ((SqL K H p ys ∧ ∀ l, H l = none → Q (.ref l) (upd H l (.tup ys))) ∨ (SqT K H p ys ∧ Q (.ref p) H))
theorem ktuple (h : X.K = K := by rfl) : CallR X (.type "tuple") (rTupS K) := by
  subst h
  exact call_tuple_of
theorem ksum (hc : X.calm = true) (h : X.K = K := by rfl) : CallR X (.builtin "sum") (rSum K) := by
  subst h
  exact cr_sum hc
theorem kmax (hc : X.calm = true) (h : X.K = K := by rfl) : CallR X (.builtin "max") (rMax K) := by
  subst h
  exact cr_max hc
theorem kmin (hc : X.calm = true) (h : X.K = K := by rfl) : CallR X (.builtin "min") (rMin K) := by
  subst h
  exact cr_min hc
theorem kall (hc : X.calm = true) (h : X.K = K := by rfl) : CallR X (.builtin "all") (rAll K) := by
  subst h
  exact cr_all hc
theorem kany (hc : X.calm = true) (h : X.K = K := by rfl) : CallR X (.builtin "any") (rAny K) := by
  subst h
  exact cr_any hc
theorem ksorted (h : X.K = K := by rfl) : CallR X (.builtin "sorted") (rSortedI K) := by
  subst h
  exact cr_sortedI
variable {tg : Expr}
theorem kpiL {l : Expr} {tl : TE} (hl : PE X l tl) (h : X.K = K := by rfl) : PI X tg l (iList K tl) := by
  subst h
  exact pi_list hl
theorem kpiT {l : Expr} {tl : TE} (hl : PE X l tl) (h : X.K = K := by rfl) : PI X tg l (iTup K tl) := by
  subst h
  exact pi_tup hl
theorem kpgT {es : List Expr} {k : Nat} {t : TGs} {n : Nat} {pos : Pos} (hc : X.calm = true) (hh : PGs X es t) (hn : (assignEach es X.env).length = n := by rfl) (hst : (assignEach es X.env).findIdx? (·.1) = none := by rfl) (h : X.K = K := by rfl) : PG X (.Tuple es k pos) (gTup K n t) := by
  subst h
  exact pg_tup hc hh hn hst
theorem ktru {a : Expr} {ta : TE} (ha : PE X a ta) (he : ∀ whole, isTrue a X.env whole = (do let v ← whole; standAt a.pos; holding [v] (truthy v)) := by intro _; rfl) (h : X.K = K := by rfl) : PT X a (L2.tTru K ta) := by
  subst h
  exact pt_truth ha he
end
end Od

namespace Od
open PySem L2 Evl

/-! ### tuples stay -/
def TK (H H' : Hp) : Prop := ∀ a xs, H a = some (.tup xs) → H' a = some (.tup xs)
theorem TK.refl (H : Hp) : TK H H := fun _ _ h => h
theorem TK.trans {H H1 H2 : Hp} (a : TK H H1) (b : TK H1 H2) : TK H H2 := fun x o h => b x o (a x o h)
theorem TK.ex {H H' : Hp} (e : Ex H H') : TK H H' := fun a xs h => e a _ h
theorem TK.lst {H : Hp} {p : Addr} {xs : List V} {o : HO} (h : H p = some (.lst xs)) : TK H (upd H p o) := fun a ys h' => by
  rw [upd_ne]
  · exact h'
  · intro e
    rw [e, h] at h'
    cases h'
theorem TK.dT {H : Hp} {p : Addr} {xs : List (List Key × V)} {o : HO} (h : H p = some (.dT xs)) : TK H (upd H p o) := fun a ys h' => by
  rw [upd_ne]
  · exact h'
  · intro e
    rw [e, h] at h'
    cases h'
theorem TK.dK {H : Hp} {p : Addr} {xs : List (Key × V)} {o : HO} (h : H p = some (.dK xs)) : TK H (upd H p o) := fun a ys h' => by
  rw [upd_ne]
  · exact h'
  · intro e
    rw [e, h] at h'
    cases h'
theorem TK.fresh {H : Hp} {p : Addr} {o : HO} (h : H p = none) : TK H (upd H p o) := TK.ex (Ex.new h)

/-! ### lists of pairs, of rectangles -/
abbrev Pt := Int × Int
structure Rc where
  l : Int
  t : Int
  r : Int
  b : Int
  deriving DecidableEq
def PtV (H : Hp) (v : V) (q : Pt) : Prop := ∃ p, v = .ref p ∧ H p = some (.tup [.int q.1, .int q.2])
def RcV (H : Hp) (v : V) (q : Rc) : Prop := ∃ p, v = .ref p ∧ H p = some (.tup [.int q.l, .int q.t, .int q.r, .int q.b])
theorem PtV.tk {H H' : Hp} {v : V} {q : Pt} (e : TK H H') (h : PtV H v q) : PtV H' v q := by
  obtain ⟨p, rfl, h⟩ := h
  exact ⟨p, rfl, e _ _ h⟩
theorem RcV.tk {H H' : Hp} {v : V} {q : Rc} (e : TK H H') (h : RcV H v q) : RcV H' v q := by
  obtain ⟨p, rfl, h⟩ := h
  exact ⟨p, rfl, e _ _ h⟩
abbrev RcsV (H : Hp) : List V → List Rc → Prop := Paired (RcV H)
abbrev PtsV (H : Hp) : List V → List Pt → Prop := Paired (PtV H)
theorem RcsV.tk {H H' : Hp} {vs : List V} {qs : List Rc} (e : TK H H') (h : RcsV H vs qs) : RcsV H' vs qs := Paired.mapP h fun _ _ => RcV.tk e
theorem PtsV.tk {H H' : Hp} {vs : List V} {qs : List Pt} (e : TK H H') (h : PtsV H vs qs) : PtsV H' vs qs := Paired.mapP h fun _ _ => PtV.tk e
theorem pr_get {α β : Type} {G : α → β → Prop} : ∀ {l₁ : List α} {l₂ : List β}, Paired G l₁ l₂ → ∀ {i : Nat} {a : α}, l₁[i]? = some a → ∃ b, l₂[i]? = some b ∧ G a b
  | _, _, .nil, i, a, h => by simp at h
  | _, _, .cons r t, 0, a, h => by
    simp at h
    subst h
    exact ⟨_, rfl, r⟩
  | _, _, .cons r t, i + 1, a, h => by
    obtain ⟨b, h1, h2⟩ := pr_get t (i := i) (a := a) (by simpa using h)
    exact ⟨b, by simpa using h1, h2⟩
theorem pr_getR {α β : Type} {G : α → β → Prop} : ∀ {l₁ : List α} {l₂ : List β}, Paired G l₁ l₂ → ∀ {i : Nat} {b : β}, l₂[i]? = some b → ∃ a, l₁[i]? = some a ∧ G a b
  | _, _, .nil, i, a, h => by simp at h
  | _, _, .cons r t, 0, a, h => by
    simp at h
    subst h
    exact ⟨_, rfl, r⟩
  | _, _, .cons r t, i + 1, a, h => by
    obtain ⟨b, h1, h2⟩ := pr_getR t (i := i) (b := a) (by simpa using h)
    exact ⟨b, by simpa using h1, h2⟩
theorem pr_append {α β : Type} {G : α → β → Prop} : ∀ {l₁ k₁ : List α} {l₂ k₂ : List β}, Paired G l₁ l₂ → Paired G k₁ k₂ → Paired G (l₁ ++ k₁) (l₂ ++ k₂)
  | _, _, _, _, .nil, h => h
  | _, _, _, _, .cons r t, h => .cons r (pr_append t h)
/-- an item of a list of rectangles at an index that lies in it -/
theorem pickR {H : Hp} {vs : List V} {qs : List Rc} (h : RcsV H vs qs) {i : Int} (h0 : 0 ≤ i) (h1 : i < vs.length) : ∃ p q, q ∈ qs ∧ atI vs i = some (.ref p) ∧ H p = some (.tup [.int q.l, .int q.t, .int q.r, .int q.b]) := by
  obtain ⟨m, rfl⟩ := Int.eq_ofNat_of_zero_le h0
  have hm : m < vs.length := by omega
  obtain ⟨q, hq, p, e, hp⟩ := pr_get h (List.getElem?_eq_getElem hm)
  exact ⟨p, q, List.mem_of_getElem? hq, by rw [← e]; exact atI_nat (List.getElem?_eq_getElem hm), hp⟩
/-- the bounds of drawn rectangles -/
def Small (m : Int) (q : Rc) : Prop := q.l < q.r ∧ q.t < q.b ∧ q.r - q.l ≤ 50 ∧ q.b - q.t ≤ 50 ∧ -m ≤ q.l ∧ q.r ≤ m ∧ -m ≤ q.t ∧ q.b ≤ m
theorem Small.mono {m n : Int} {q : Rc} (h : Small m q) (e : m ≤ n) : Small n q := by
  obtain ⟨a, b, c, d, e1, e2, e3, e4⟩ := h
  refine ⟨a, b, c, d, ?_, ?_, ?_, ?_⟩ <;> omega
theorem sline {n : Nat} (h : n ≤ 1000000) : n ≤ sizeLine := Nat.le_trans h (by decide)
theorem slineL {n : Nat} (h : n < 1000000) : n < sizeLine := Nat.lt_of_lt_of_le h (by decide)
end Od

namespace Od
open PySem L2 Evl

/-! ### a dict of points -/
def ptK (q : Pt) : List Key := [.inl q.1, .inl q.2]
def mkd (pts : List Pt) : List (List Key × V) := pts.map fun q => (ptK q, V.bl true)
theorem ptK_inj {a b : Pt} (h : ptK a = ptK b) : a = b := by
  unfold ptK at h
  injection h with h1 h2
  injection h2 with h2 _
  injection h1 with h1
  injection h2 with h2
  exact Prod.ext h1 h2
theorem ptK_dec (a b : Pt) : decide (ptK a = ptK b) = decide (a = b) := by
  by_cases e : a = b
  · rw [e, decide_eq_true rfl, decide_eq_true rfl]
  · rw [decide_eq_false e, decide_eq_false fun z => e (ptK_inj z)]
theorem mkd_any (pts : List Pt) (q : Pt) : ((mkd pts).any fun kv => decide (kv.1 = ptK q)) = decide (q ∈ pts) := by
  unfold mkd
  rw [List.any_map]
  induction pts with
  | nil => simp
  | cons p r ih =>
    rw [List.any_cons, ih]
    show (decide (ptK p = ptK q) || decide (q ∈ r)) = decide (q ∈ p :: r)
    rw [ptK_dec]
    by_cases h1 : p = q
    · simp [h1]
    · by_cases h2 : q ∈ r
      · simp [h2]
      · have : ¬ q = p := fun e => h1 e.symm
        simp [h1, h2, this]
theorem mkd_put (pts : List Pt) (q : Pt) : putK (mkd pts) (ptK q) (V.bl true) = mkd (if q ∈ pts then pts else pts ++ [q]) := by
  unfold putK
  rw [mkd_any]
  by_cases h : q ∈ pts
  · rw [if_pos h, decide_eq_true h, if_pos rfl]
    unfold mkd
    rw [List.map_map]
    refine List.map_congr_left fun p _ => ?_
    show (if ptK p = ptK q then (ptK p, V.bl true) else (ptK p, V.bl true)) = (ptK p, V.bl true)
    split <;> rfl
  · rw [if_neg h, decide_eq_false h, if_neg Bool.false_ne_true]
    unfold mkd
    rw [List.map_append]
    rfl
theorem mkd_val (pts : List Pt) (q : Pt) : (valV (mkd pts) (ptK q)).isSome = decide (q ∈ pts) := by
  rw [← valV_any, mkd_any]
def addP (pts : List Pt) (q : Pt) : List Pt := if q ∈ pts then pts else pts ++ [q]
theorem mem_addP {pts : List Pt} {q p : Pt} : p ∈ addP pts q ↔ p ∈ pts ∨ p = q := by
  unfold addP
  split
  · rename_i h
    constructor
    · exact .inl
    · rintro (h1 | rfl)
      · exact h1
      · exact h
  · simp
theorem nodup_addP {pts : List Pt} {q : Pt} (h : pts.Nodup) : (addP pts q).Nodup := by
  unfold addP
  split
  · exact h
  · rename_i hn
    rw [List.nodup_append]
    refine ⟨h, by simp, fun a ha b hb => ?_⟩
    rw [List.mem_singleton.mp hb]
    intro e
    rw [e] at ha
    exact hn ha
theorem len_addP (pts : List Pt) (q : Pt) : (addP pts q).length ≤ pts.length + 1 := by
  unfold addP
  split
  · omega
  · simp
theorem mkd_len (pts : List Pt) : (mkd pts).length = pts.length := by
  unfold mkd
  rw [List.length_map]
def inRc (q : Rc) (x y : Int) : Prop := q.l ≤ x ∧ x < q.r ∧ q.t ≤ y ∧ y < q.b
theorem mem_take_succ {α : Type} {l : List α} {i : Nat} {a x : α} (h : l[i]? = some a) : x ∈ l.take (i + 1) ↔ x ∈ l.take i ∨ x = a := by
  rw [List.take_add_one, h]
  simp
end Od

namespace Od

/-! ### runs -/
def RunsFrom : Int → List Pt → Prop
  | _, [] => True
  | b, q :: t => b < q.1 ∧ q.1 < q.2 ∧ RunsFrom q.2 t
def inRuns (rs : List Pt) (x : Int) : Prop := ∃ q ∈ rs, q.1 ≤ x ∧ x < q.2
theorem RunsFrom.mono {b c : Int} {rs : List Pt} (h : RunsFrom b rs) (e : c ≤ b) : RunsFrom c rs := by
  cases rs with
  | nil => trivial
  | cons q t => exact ⟨by have := h.1; omega, h.2.1, h.2.2⟩
theorem RunsFrom.lt {b : Int} : ∀ {rs : List Pt} {b : Int} {x : Int}, RunsFrom b rs → inRuns rs x → b < x
  | [], _, _, _, ⟨_, h, _⟩ => by simp at h
  | q :: t, b, x, h, ⟨p, hp, h1, h2⟩ => by
    rcases List.mem_cons.mp hp with rfl | hp
    · have := h.1
      omega
    · have := RunsFrom.lt (b := b) h.2.2 ⟨p, hp, h1, h2⟩
      have := h.1
      have := h.2.1
      omega
theorem inRuns_cons {q : Pt} {t : List Pt} {x : Int} : inRuns (q :: t) x ↔ (q.1 ≤ x ∧ x < q.2) ∨ inRuns t x := by
  constructor
  · rintro ⟨p, hp, h⟩
    rcases List.mem_cons.mp hp with rfl | hp
    · exact .inl h
    · exact .inr ⟨p, hp, h⟩
  · rintro (h | ⟨p, hp, h⟩)
    · exact ⟨q, by simp, h⟩
    · exact ⟨p, by simp [hp], h⟩
theorem inRuns_nil {x : Int} : ¬ inRuns [] x := fun ⟨_, h, _⟩ => by simp at h
theorem RunsFrom.some {b : Int} {q : Pt} {t : List Pt} (h : RunsFrom b (q :: t)) : inRuns (q :: t) q.1 := inRuns_cons.mpr (.inl ⟨by omega, h.2.1⟩)
theorem runs_uniq : ∀ {rs ss : List Pt} {b c : Int}, RunsFrom b rs → RunsFrom c ss → (∀ x, inRuns rs x ↔ inRuns ss x) → rs = ss
  | [], [], _, _, _, _, _ => rfl
  | [], q :: t, _, _, _, h, e => absurd ((e q.1).mpr h.some) inRuns_nil
  | q :: t, [], _, _, h, _, e => absurd ((e q.1).mp h.some) inRuns_nil
  | q :: t, p :: u, b, c, h, k, e => by
    have e1 : q.1 = p.1 := by
      have h1 := (e q.1).mp h.some
      have k1 := (e p.1).mpr k.some
      have h2 : p.1 ≤ q.1 := by
        rcases inRuns_cons.mp h1 with z | z
        · omega
        · have := RunsFrom.lt (b := b) k.2.2 z
          have := k.2.1
          omega
      have k2 : q.1 ≤ p.1 := by
        rcases inRuns_cons.mp k1 with z | z
        · omega
        · have := RunsFrom.lt (b := b) h.2.2 z
          have := h.2.1
          omega
      omega
    have hq := h.2.1
    have kp := k.2.1
    have e2 : q.2 = p.2 := by
      rcases Int.lt_trichotomy q.2 p.2 with z | z | z
      · exfalso
        have h1 : inRuns (p :: u) q.2 := inRuns_cons.mpr (.inl ⟨by omega, z⟩)
        rcases inRuns_cons.mp ((e q.2).mpr h1) with y | y
        · omega
        · have := RunsFrom.lt (b := b) h.2.2 y
          omega
      · exact z
      · exfalso
        have h1 : inRuns (q :: t) p.2 := inRuns_cons.mpr (.inl ⟨by omega, z⟩)
        rcases inRuns_cons.mp ((e p.2).mp h1) with y | y
        · omega
        · have := RunsFrom.lt (b := b) k.2.2 y
          omega
    have eq : q = p := Prod.ext e1 e2
    subst eq
    have et : t = u := runs_uniq h.2.2 k.2.2 fun x => by
      constructor
      · intro z
        have := RunsFrom.lt (b := b) h.2.2 z
        rcases inRuns_cons.mp ((e x).mp (inRuns_cons.mpr (.inr z))) with y | y
        · omega
        · exact y
      · intro z
        have := RunsFrom.lt (b := b) k.2.2 z
        rcases inRuns_cons.mp ((e x).mpr (inRuns_cons.mpr (.inr z))) with y | y
        · omega
        · exact y
    rw [et]
def RunsOk (rs : List Pt) : Prop := ∃ b, RunsFrom b rs

/-! ### bands -/
structure Bd where
  t : Int
  b : Int
  rs : List Pt
  deriving DecidableEq
def BandsFrom : Int → List Pt → List Bd → Prop
  | _, _, [] => True
  | y, prev, d :: t => y ≤ d.t ∧ (y = d.t → prev ≠ d.rs) ∧ d.t < d.b ∧ d.rs ≠ [] ∧ RunsOk d.rs ∧ BandsFrom d.b d.rs t
def inBands (bs : List Bd) (x y : Int) : Prop := ∃ d ∈ bs, d.t ≤ y ∧ y < d.b ∧ inRuns d.rs x
theorem inBands_nil {x y : Int} : ¬ inBands [] x y := fun ⟨_, h, _⟩ => by simp at h
theorem inBands_cons {d : Bd} {t : List Bd} {x y : Int} : inBands (d :: t) x y ↔ (d.t ≤ y ∧ y < d.b ∧ inRuns d.rs x) ∨ inBands t x y := by
  constructor
  · rintro ⟨p, hp, h⟩
    rcases List.mem_cons.mp hp with rfl | hp
    · exact .inl h
    · exact .inr ⟨p, hp, h⟩
  · rintro (h | ⟨p, hp, h⟩)
    · exact ⟨d, by simp, h⟩
    · exact ⟨p, by simp [hp], h⟩
theorem BandsFrom.le : ∀ {bs : List Bd} {y : Int} {p : List Pt} {x y' : Int}, BandsFrom y p bs → inBands bs x y' → y ≤ y'
  | [], _, _, _, _, _, h => absurd h inBands_nil
  | d :: t, y, p, x, y', h, k => by
    rcases inBands_cons.mp k with z | z
    · have := h.1
      omega
    · have := BandsFrom.le h.2.2.2.2.2 z
      have := h.1
      have := h.2.2.1
      omega
theorem BandsFrom.mono {bs : List Bd} {y y' : Int} (h : BandsFrom y [] bs) (e : y' ≤ y) : BandsFrom y' [] bs := by
  cases bs with
  | nil => trivial
  | cons d t => exact ⟨by have := h.1; omega, fun _ => fun z => h.2.2.2.1 z.symm, h.2.2⟩
/-- the rows of the first band, the rows behind it -/
theorem BandsFrom.row {d : Bd} {t : List Bd} {y : Int} {p : List Pt} (h : BandsFrom y p (d :: t)) {x y' : Int} (h1 : d.t ≤ y') (h2 : y' < d.b) : inBands (d :: t) x y' ↔ inRuns d.rs x := by
  rw [inBands_cons]
  constructor
  · rintro (z | z)
    · exact z.2.2
    · have := BandsFrom.le h.2.2.2.2.2 z
      omega
  · exact fun z => .inl ⟨h1, h2, z⟩
theorem BandsFrom.behind {d : Bd} {t : List Bd} {x y' : Int} (h2 : d.b ≤ y') : inBands (d :: t) x y' ↔ inBands t x y' := by
  rw [inBands_cons]
  constructor
  · rintro (z | z)
    · omega
    · exact z
  · exact .inr
theorem runs_some {rs : List Pt} (h : RunsOk rs) (n : rs ≠ []) : ∃ x, inRuns rs x := by
  obtain ⟨b, h⟩ := h
  cases rs with
  | nil => exact absurd rfl n
  | cons q t => exact ⟨_, h.some⟩
theorem runsOk_uniq {rs ss : List Pt} (h : RunsOk rs) (k : RunsOk ss) (e : ∀ x, inRuns rs x ↔ inRuns ss x) : rs = ss := by
  obtain ⟨b, h⟩ := h
  obtain ⟨c, k⟩ := k
  exact runs_uniq h k e
/-- a band can't end where another description of the same set goes on -/
theorem no_end {d c : Bd} {t u : List Bd} {y : Int} {p : List Pt} (h : BandsFrom y p (d :: t)) (k : BandsFrom y p (c :: u)) (e : ∀ x y', inBands (d :: t) x y' ↔ inBands (c :: u) x y') (et : d.t = c.t) (er : d.rs = c.rs) (hl : d.b < c.b) : False := by
  have hdb := h.2.2.1
  have row : ∀ x, inBands t x d.b ↔ inRuns c.rs x := fun x => by
    rw [← BandsFrom.behind (d := d) (t := t) (Int.le_refl _), e, k.row (by omega) hl]
  obtain ⟨x0, hx0⟩ := runs_some k.2.2.2.2.1 k.2.2.2.1
  cases t with
  | nil => exact inBands_nil ((row x0).mpr hx0)
  | cons d2 t2 =>
    have h2 := h.2.2.2.2.2
    have hle := h2.1
    by_cases z : d.b = d2.t
    · have er2 : d2.rs = c.rs := runsOk_uniq h2.2.2.2.2.1 k.2.2.2.2.1 fun x => by
        rw [← row x, h2.row (by omega) (by have := h2.2.2.1; omega)]
      exact h2.2.1 z (er.trans er2.symm)
    · have m := (row x0).mpr hx0
      have h3 : BandsFrom d2.t [] (d2 :: t2) := ⟨by omega, fun _ w => h2.2.2.2.1 w.symm, h2.2.2⟩
      have := BandsFrom.le h3 m
      omega
theorem bands_uniq : ∀ {bs cs : List Bd} {y : Int} {p : List Pt}, BandsFrom y p bs → BandsFrom y p cs → (∀ x y', inBands bs x y' ↔ inBands cs x y') → bs = cs
  | [], [], _, _, _, _, _ => rfl
  | [], c :: u, _, _, _, k, e => by
    obtain ⟨x0, hx0⟩ := runs_some k.2.2.2.2.1 k.2.2.2.1
    exact absurd ((e x0 c.t).mpr ((k.row (by omega) k.2.2.1).mpr hx0)) inBands_nil
  | d :: t, [], _, _, h, _, e => by
    obtain ⟨x0, hx0⟩ := runs_some h.2.2.2.2.1 h.2.2.2.1
    exact absurd ((e x0 d.t).mp ((h.row (by omega) h.2.2.1).mpr hx0)) inBands_nil
  | d :: t, c :: u, y, p, h, k, e => by
    have first : ∀ {d c : Bd} {t u : List Bd}, BandsFrom y p (d :: t) → BandsFrom y p (c :: u) → (∀ x y', inBands (d :: t) x y' ↔ inBands (c :: u) x y') → c.t ≤ d.t := by
      intro d c t u h k e
      obtain ⟨x0, hx0⟩ := runs_some h.2.2.2.2.1 h.2.2.2.1
      have m := (e x0 d.t).mp ((h.row (by omega) h.2.2.1).mpr hx0)
      have k2 : BandsFrom c.t [] (c :: u) := ⟨by omega, fun _ w => k.2.2.2.1 w.symm, k.2.2⟩
      exact BandsFrom.le k2 m
    have et : d.t = c.t := by
      have := first h k e
      have := first k h fun x y => (e x y).symm
      omega
    have er : d.rs = c.rs := runsOk_uniq h.2.2.2.2.1 k.2.2.2.2.1 fun x => by
      rw [← h.row (x := x) (y' := d.t) (by omega) h.2.2.1, e, k.row (by omega) (by have := k.2.2.1; omega)]
    have eb : d.b = c.b := by
      rcases Int.lt_trichotomy d.b c.b with z | z | z
      · exact (no_end h k e et er z).elim
      · exact z
      · exact (no_end k h (fun x y => (e x y).symm) et.symm er.symm z).elim
    have ed : d = c := by
      cases d
      cases c
      simp only at et er eb
      rw [et, er, eb]
    subst ed
    rw [bands_uniq h.2.2.2.2.2 k.2.2.2.2.2 fun x y' => ?_]
    by_cases z : d.b ≤ y'
    · rw [← BandsFrom.behind (d := d) (t := t) z, e, BandsFrom.behind z]
    · constructor
      · intro m
        have := BandsFrom.le h.2.2.2.2.2 m
        omega
      · intro m
        have := BandsFrom.le k.2.2.2.2.2 m
        omega

/-! ### the written form -/
def bandRc (d : Bd) : List Rc := d.rs.map fun q => ⟨q.1, d.t, q.2, d.b⟩
def formOf (bs : List Bd) : List Rc := bs.flatMap bandRc
def IsForm (S : Int → Int → Prop) (f : List Rc) : Prop := ∃ y bs, BandsFrom y [] bs ∧ (∀ x y', inBands bs x y' ↔ S x y') ∧ f = formOf bs
theorem form_uniq {S S' : Int → Int → Prop} {f g : List Rc} (h : IsForm S f) (k : IsForm S' g) (e : ∀ x y, S x y ↔ S' x y) : f = g := by
  obtain ⟨y, bs, h1, h2, rfl⟩ := h
  obtain ⟨z, cs, k1, k2, rfl⟩ := k
  rw [bands_uniq (h1.mono (Int.min_le_left y z)) (k1.mono (Int.min_le_right y z)) fun x y' => by rw [h2, k2, e]]
theorem mem_form {bs : List Bd} {x y : Int} : inBands bs x y ↔ ∃ q ∈ formOf bs, inRc q x y := by
  constructor
  · rintro ⟨d, hd, h1, h2, q, hq, h3, h4⟩
    exact ⟨⟨q.1, d.t, q.2, d.b⟩, List.mem_flatMap.mpr ⟨d, hd, List.mem_map.mpr ⟨q, hq, rfl⟩⟩, h3, h4, h1, h2⟩
  · rintro ⟨r, hr, h1, h2, h3, h4⟩
    obtain ⟨d, hd, hr⟩ := List.mem_flatMap.mp hr
    obtain ⟨q, hq, rfl⟩ := List.mem_map.mp hr
    exact ⟨d, hd, h3, h4, q, hq, h1, h2⟩
theorem IsForm.mem {S : Int → Int → Prop} {f : List Rc} (h : IsForm S f) (x y : Int) : S x y ↔ ∃ q ∈ f, inRc q x y := by
  obtain ⟨_, bs, _, h2, rfl⟩ := h
  rw [← h2, mem_form]
end Od

namespace Od
open PySem L2 Evl

/-! ### data: ints in tuples, in lists -/
def intD (ns : List Int) : PyData := .tuple (ns.map PyData.int)
def Eqs (α : Type) [DecidableEq α] (f : α → PyData) (d : Nat) : Prop := (∀ x y, PyData.eqv (f x) (f y) = decide (x = y)) ∧ (∀ x, (f x).canLay0 = true) ∧ ∀ x, (f x).depth ≤ d
theorem eqvAll_map {α : Type} [DecidableEq α] {f : α → PyData} (h : ∀ x y, PyData.eqv (f x) (f y) = decide (x = y)) : ∀ xs ys : List α, PyData.eqvAll (xs.map f) (ys.map f) = decide (xs = ys)
  | [], [] => by simp [PyData.eqvAll]
  | [], y :: ys => by simp [PyData.eqvAll]
  | x :: xs, [] => by simp [PyData.eqvAll]
  | x :: xs, y :: ys => by
    rw [List.map_cons, List.map_cons, PyData.eqvAll, h, eqvAll_map h xs ys]
    by_cases e : x = y <;> by_cases e2 : xs = ys <;> simp [e, e2]
theorem canLay_map {α : Type} {f : α → PyData} (h : ∀ x, (f x).canLay0 = true) : ∀ xs : List α, PyData.canLayAll0 (xs.map f) = true
  | [] => by simp [PyData.canLayAll0]
  | x :: xs => by
    rw [List.map_cons, PyData.canLayAll0, h, canLay_map h xs]
    rfl
theorem depth_map {α : Type} {f : α → PyData} {d : Nat} (h : ∀ x, (f x).depth ≤ d) : ∀ xs : List α, PyData.depthAll (xs.map f) ≤ d
  | [] => by simp [PyData.depthAll]
  | x :: xs => by
    rw [List.map_cons, PyData.depthAll]
    exact Nat.max_le.mpr ⟨h x, depth_map h xs⟩
theorem eqs_int : Eqs Int PyData.int 0 := ⟨fun x y => by rw [PyData.eqv]; by_cases e : x = y <;> simp [e], fun x => by simp [PyData.canLay0], fun x => by simp [PyData.depth]⟩
theorem Eqs.lst {α : Type} [DecidableEq α] {f : α → PyData} {d : Nat} (h : Eqs α f d) : Eqs (List α) (fun xs => .list (xs.map f)) (d + 1) :=
  ⟨fun x y => by rw [PyData.eqv, eqvAll_map h.1], fun x => by simp only [PyData.canLay0]; exact canLay_map h.2.1 x, fun x => by simp only [PyData.depth]; have := depth_map h.2.2 x; omega⟩
theorem Eqs.tup {α : Type} [DecidableEq α] {f : α → PyData} {d : Nat} (h : Eqs α f d) : Eqs (List α) (fun xs => .tuple (xs.map f)) (d + 1) :=
  ⟨fun x y => by rw [PyData.eqv, eqvAll_map h.1], fun x => by simp only [PyData.canLay0]; exact canLay_map h.2.1 x, fun x => by simp only [PyData.depth]; have := depth_map h.2.2 x; omega⟩
theorem Eqs.via {α β : Type} [DecidableEq α] [DecidableEq β] {f : α → PyData} {d : Nat} (h : Eqs α f d) (g : β → α) (inj : ∀ x y, g x = g y → x = y) : Eqs β (fun x => f (g x)) d :=
  ⟨fun x y => by
    rw [h.1]
    by_cases e : x = y
    · rw [e, decide_eq_true rfl, decide_eq_true rfl]
    · rw [decide_eq_false e, decide_eq_false fun z => e (inj _ _ z)], fun x => h.2.1 _, fun x => h.2.2 _⟩
theorem Eqs.shaped {α : Type} [DecidableEq α] {f : α → PyData} {d : Nat} (h : Eqs α f d) (hd : d ≤ 64) (x : α) : SeqAt.shaped (f x) = true := by
  unfold SeqAt.shaped
  rw [h.2.1 x, decide_eq_true (Nat.le_trans (h.2.2 x) hd)]
  rfl
def ptD (q : Pt) : PyData := intD [q.1, q.2]
def rcD (q : Rc) : PyData := intD [q.l, q.t, q.r, q.b]
theorem eqs_pt : Eqs Pt ptD 1 := eqs_int.tup.via (fun q : Pt => [q.1, q.2]) fun x y e => by
  injection e with e1 e2
  injection e2 with e2 _
  exact Prod.ext e1 e2
theorem eqs_rc : Eqs Rc rcD 1 := eqs_int.tup.via (fun q : Rc => [q.l, q.t, q.r, q.b]) fun x y e => by
  injection e with e1 e
  injection e with e2 e
  injection e with e3 e
  injection e with e4 _
  cases x
  cases y
  simp only at e1 e2 e3 e4
  rw [e1, e2, e3, e4]
def ptsD (qs : List Pt) : PyData := .list (qs.map ptD)
def rcsD (qs : List Rc) : PyData := .list (qs.map rcD)
theorem eqs_pts : Eqs (List Pt) ptsD 2 := eqs_pt.lst
theorem eqs_rcs : Eqs (List Rc) rcsD 2 := eqs_rc.lst
theorem dp_ints {K : PySem.W.Frag} {H : Hp} : ∀ ns : List Int, DpAll K H (ns.map V.int) (ns.map PyData.int)
  | [] => .nil
  | n :: ns => .cons (.int n) (dp_ints ns)
theorem dp_tup {K : PySem.W.Frag} {H : Hp} {a : Addr} {ns : List Int} (h : H a = some (.tup (ns.map V.int))) : Dp K H (.ref a) (intD ns) := .tup (SqT.of h) (dp_ints ns)
theorem PtV.dp {K : PySem.W.Frag} {H : Hp} {v : V} {q : Pt} (h : PtV H v q) : Dp K H v (ptD q) := by
  obtain ⟨p, rfl, h⟩ := h
  exact dp_tup (ns := [q.1, q.2]) h
theorem RcV.dp {K : PySem.W.Frag} {H : Hp} {v : V} {q : Rc} (h : RcV H v q) : Dp K H v (rcD q) := by
  obtain ⟨p, rfl, h⟩ := h
  exact dp_tup (ns := [q.l, q.t, q.r, q.b]) h
theorem dp_all {α : Type} {K : PySem.W.Frag} {H : Hp} {G : V → α → Prop} {f : α → PyData} (h : ∀ v x, G v x → Dp K H v (f x)) : ∀ {vs : List V} {xs : List α}, Paired G vs xs → DpAll K H vs (xs.map f)
  | _, _, .nil => .nil
  | _, _, .cons r t => .cons (h _ _ r) (dp_all h t)
theorem dp_pts {K : PySem.W.Frag} {H : Hp} {a : Addr} {us : List V} {qs : List Pt} (h : SqL K H a us) (r : PtsV H us qs) : Dp K H (.ref a) (ptsD qs) := .lst h (dp_all (fun _ _ z => PtV.dp z) r)
theorem dp_rcs {K : PySem.W.Frag} {H : Hp} {a : Addr} {us : List V} {qs : List Rc} (h : SqL K H a us) (r : RcsV H us qs) : Dp K H (.ref a) (rcsD qs) := .lst h (dp_all (fun _ _ z => RcV.dp z) r)

/-! ### walking a dict with tuple keys -/
theorem ex_unlock {H H' : Hp} {d : Addr} {od : Obj} {u : HO} (h : H d = some u) (e : Ex (upd H d (.frz od u)) H') : Ex H (upd H' d u) := fun b o hb => by
  by_cases z : b = d
  · rw [z] at hb ⊢
    rw [h] at hb
    rw [upd_same]
    exact hb
  · rw [upd_ne z]
    exact e b o (by rw [upd_ne z]; exact hb)
theorem lc_keysT {d : Addr} {o : Obj} {kvs : List (List Key × V)} {g : TG} {tt : TT} {te : TE} {vs : List Nat} {σ : L2.St} {H1 : Hp} {D : Addr} {Qd : Hp → Prop} (Pv : Nat → Hp → Prop) (h0 : Pv 0 (upd H1 D (.lst []))) (hl : ∀ i H, i ≤ kvs.length → Pv i H → H d = some (.frz o (.dT kvs)))
    (hs : ∀ i k v q H, kvs[i]? = some (k, v) → H q = some (.tup (k.map kV)) → Pv i H → g (.ref q) (wipe σ vs) H fun σ2 H2 => wipe σ2 vs = wipe σ vs ∧ tt σ2 H2 fun b H3 =>
      if b = true then te σ2 H3 fun y H4 => ∃ acc, H4 D = some (.lst acc) ∧ acc.length < sizeLine ∧ Pv (i + 1) (upd H4 D (.lst (acc ++ [y]))) else Pv (i + 1) H3) (hd : ∀ H, Pv kvs.length H → Qd H) :
    ∃ Wk : Nat → Nat → Hp → Prop, (∃ n, Wk 0 n (upd H1 D (.lst []))) ∧ ∀ i n G, Wk i n G →
      ((Itkt d o kvs).stop i G ∧ Qd G) ∨ ((Itkt d o kvs).go i G ∧ ∃ Go : Hp → Prop, (∀ G', Go G' → ∃ n', n' < n ∧ Wk (i + 1) n' G') ∧ ∀ x G', (Itkt d o kvs).yld i G x G' → g x (wipe σ vs) G' fun σ2 G2 => wipe σ2 vs = wipe σ vs ∧ tt σ2 G2 fun b G3 =>
        if b = true then te σ2 G3 fun y G4 => ∃ made, G4 D = some (.lst made) ∧ made.length < sizeLine ∧ Go (upd G4 D (.lst (made ++ [y]))) else Go G3) := by
  refine ⟨fun i m H => m = kvs.length - i ∧ i ≤ kvs.length ∧ Pv i H, ⟨kvs.length, by simp, Nat.zero_le _, h0⟩, ?_⟩
  rintro i m H ⟨rfl, hi, p⟩
  have q := hl i H hi p
  by_cases hlt : i < kvs.length
  · refine .inr ⟨⟨q, hlt⟩, Pv (i + 1), fun H' p' => ⟨kvs.length - (i + 1), by omega, rfl, hlt, p'⟩, fun x H' y => ?_⟩
    obtain ⟨e, k, v, qa, e1, e2, e3⟩ := y
    subst e e2
    exact hs i k v qa _ e1 e3 p
  · have e : i = kvs.length := by omega
    subst e
    exact .inl ⟨⟨q, Nat.le_refl _⟩, hd H p⟩
theorem for_keysT {d : Addr} {o : Obj} {kvs : List (List Key × V)} {g : TG} {tb : TS} {D : Ends} {σ : L2.St} {H : Hp} (Pv : Nat → L2.St → Hp → Prop) (h0 : Pv 0 σ H) (hl : ∀ i σ H, i ≤ kvs.length → Pv i σ H → H d = some (.frz o (.dT kvs)))
    (hs : ∀ i k v q σ H, kvs[i]? = some (k, v) → H q = some (.tup (k.map kV)) → Pv i σ H → g (.ref q) σ H fun σ2 H2 => tb { D with nx := Pv (i + 1), ct := Pv (i + 1), bk := D.nx } σ2 H2) (hd : ∀ σ H, Pv kvs.length σ H → D.nx σ H) :
    ∃ Wk : Nat → Nat → L2.St → Hp → Prop, (∃ n, Wk 0 n σ H) ∧ ∀ i n τ G, Wk i n τ G →
      ((Itkt d o kvs).stop i G ∧ D.nx τ G) ∨ ((Itkt d o kvs).go i G ∧ ∃ Go : L2.St → Hp → Prop, (∀ τ' G', Go τ' G' → ∃ n', n' < n ∧ Wk (i + 1) n' τ' G') ∧ ∀ x G', (Itkt d o kvs).yld i G x G' → g x τ G' fun τ2 G2 => tb { D with nx := Go, ct := Go, bk := D.nx } τ2 G2) := by
  refine ⟨fun i m σ H => m = kvs.length - i ∧ i ≤ kvs.length ∧ Pv i σ H, ⟨kvs.length, by simp, Nat.zero_le _, h0⟩, ?_⟩
  rintro i m σ H ⟨rfl, hi, p⟩
  have q := hl i σ H hi p
  by_cases hlt : i < kvs.length
  · refine .inr ⟨⟨q, hlt⟩, Pv (i + 1), fun σ' H' p' => ⟨kvs.length - (i + 1), by omega, rfl, hlt, p'⟩, fun x H' y => ?_⟩
    obtain ⟨e, k, v, qa, e1, e2, e3⟩ := y
    subst e e2
    exact hs i k v qa σ _ e1 e3 p
  · have e : i = kvs.length := by omega
    subst e
    exact .inl ⟨⟨q, Nat.le_refl _⟩, hd σ H p⟩
theorem mkd_get {pts : List Pt} {i : Nat} {k : List Key} {v : V} (h : (mkd pts)[i]? = some (k, v)) : ∃ q, pts[i]? = some q ∧ k = ptK q := by
  unfold mkd at h
  rw [List.getElem?_map] at h
  cases e : pts[i]? with
  | none =>
    rw [e] at h
    cases h
  | some q =>
    rw [e] at h
    cases h
    exact ⟨q, rfl, rfl⟩

/-! ### runs from the ascending ints of a row -/
theorem runs_snoc : ∀ {rs : List Pt} {b x : Int}, RunsFrom b rs → (∀ q ∈ rs, q.2 < x) → b < x → RunsFrom b (rs ++ [(x, x + 1)])
  | [], b, x, _, _, h => ⟨h, by show x < x + 1; omega, trivial⟩
  | q :: t, b, x, h, k, _ => ⟨h.1, h.2.1, runs_snoc h.2.2 (fun p hp => k p (by simp [hp])) (k q (by simp))⟩
theorem runs_ext : ∀ {rs : List Pt} {b l r r' : Int}, RunsFrom b (rs ++ [(l, r)]) → r ≤ r' → RunsFrom b (rs ++ [(l, r')])
  | [], b, l, r, r', h, k => ⟨h.1, by have h2 : l < r := h.2.1; show l < r'; omega, trivial⟩
  | q :: t, b, l, r, r', h, k => ⟨h.1, h.2.1, runs_ext h.2.2 k⟩
theorem RunsOk.nil : RunsOk [] := ⟨0, trivial⟩
theorem runsOk_snoc {rs : List Pt} {x : Int} (h : RunsOk rs) (k : ∀ q ∈ rs, q.2 < x) : RunsOk (rs ++ [(x, x + 1)]) := by
  obtain ⟨b, h⟩ := h
  cases rs with
  | nil => exact ⟨x - 1, by omega, by show x < x + 1; omega, trivial⟩
  | cons q t =>
    refine ⟨b, runs_snoc h k ?_⟩
    have h1 : b < q.1 := h.1
    have h2 : q.1 < q.2 := h.2.1
    have h3 := k q (by simp)
    omega
theorem inRuns_app {rs ss : List Pt} {x : Int} : inRuns (rs ++ ss) x ↔ inRuns rs x ∨ inRuns ss x := by
  unfold inRuns
  constructor
  · rintro ⟨q, hq, h⟩
    rcases List.mem_append.mp hq with z | z
    · exact .inl ⟨q, z, h⟩
    · exact .inr ⟨q, z, h⟩
  · rintro (⟨q, hq, h⟩ | ⟨q, hq, h⟩)
    · exact ⟨q, List.mem_append.mpr (.inl hq), h⟩
    · exact ⟨q, List.mem_append.mpr (.inr hq), h⟩
theorem inRuns_one {l r x : Int} : inRuns [(l, r)] x ↔ l ≤ x ∧ x < r := by
  rw [inRuns_cons]
  constructor
  · rintro (h | h)
    · exact h
    · exact absurd h inRuns_nil
  · exact .inl
theorem RunsFrom.wide : ∀ {rs : List Pt} {b : Int}, RunsFrom b rs → ∀ q ∈ rs, q.1 < q.2
  | [], _, _, q, h => by simp at h
  | p :: t, b, h, q, hq => by
    rcases List.mem_cons.mp hq with rfl | hq
    · exact h.2.1
    · exact RunsFrom.wide h.2.2 q hq
/-- what a row's runs say of the ends -/
theorem ends_le {rs : List Pt} {pre : List Int} {x : Int} (h : RunsOk rs) (m : ∀ z, inRuns rs z ↔ z ∈ pre) (k : ∀ z ∈ pre, z < x) : ∀ q ∈ rs, q.2 ≤ x := by
  intro q hq
  obtain ⟨b, h⟩ := h
  have w := h.wide q hq
  have := k (q.2 - 1) ((m _).mp ⟨q, hq, by omega, by omega⟩)
  omega
end Od

namespace Od
open PySem L2 Evl

/-! ### a dict whose keys are ints -/
def mki (ys : List Int) : List (Key × V) := ys.map fun y => (Sum.inl y, V.bl true)
theorem mki_any (ys : List Int) (y : Int) : ((mki ys).any fun kv => decide (kv.1 = Sum.inl y)) = decide (y ∈ ys) := by
  unfold mki
  rw [List.any_map]
  induction ys with
  | nil => simp
  | cons p r ih =>
    rw [List.any_cons, ih]
    show (decide ((Sum.inl p : Key) = Sum.inl y) || decide (y ∈ r)) = decide (y ∈ p :: r)
    by_cases h1 : p = y
    · simp [h1]
    · have h3 : ¬ (Sum.inl p : Key) = Sum.inl y := fun e => h1 (Sum.inl.inj e)
      have : ¬ y = p := fun e => h1 e.symm
      simp [h1, this]
def addI (ys : List Int) (y : Int) : List Int := if y ∈ ys then ys else ys ++ [y]
theorem mki_put (ys : List Int) (y : Int) : putK (mki ys) (Sum.inl y) (V.bl true) = mki (addI ys y) := by
  unfold putK addI
  rw [mki_any]
  by_cases h : y ∈ ys
  · rw [if_pos h, decide_eq_true h, if_pos rfl]
    unfold mki
    rw [List.map_map]
    refine List.map_congr_left fun p _ => ?_
    show (if (Sum.inl p : Key) = Sum.inl y then ((Sum.inl p : Key), V.bl true) else (Sum.inl p, V.bl true)) = (Sum.inl p, V.bl true)
    split <;> rfl
  · rw [if_neg h, decide_eq_false h, if_neg Bool.false_ne_true]
    unfold mki
    rw [List.map_append]
    rfl
theorem mem_addI {ys : List Int} {y z : Int} : z ∈ addI ys y ↔ z ∈ ys ∨ z = y := by
  unfold addI
  split
  · rename_i h
    constructor
    · exact .inl
    · rintro (h1 | rfl)
      · exact h1
      · exact h
  · simp
theorem nodup_addI {ys : List Int} {y : Int} (h : ys.Nodup) : (addI ys y).Nodup := by
  unfold addI
  split
  · exact h
  · rename_i hn
    rw [List.nodup_append]
    refine ⟨h, by simp, fun a ha b hb => ?_⟩
    rw [List.mem_singleton.mp hb]
    intro e
    rw [e] at ha
    exact hn ha
theorem len_addI (ys : List Int) (y : Int) : (addI ys y).length ≤ ys.length + 1 := by
  unfold addI
  split
  · omega
  · simp
theorem mki_len (ys : List Int) : (mki ys).length = ys.length := by
  unfold mki
  rw [List.length_map]
theorem mki_keys (ys : List Int) : (mki ys).map (fun kv => kV kv.1) = ys.map V.int := by
  unfold mki
  rw [List.map_map]
  rfl

/-! ### how many runs there are -/
theorem sum_zero {α : Type} (f : α → Nat) : ∀ l : List α, (∀ x ∈ l, f x = 0) → (l.map f).sum = 0
  | [], _ => rfl
  | x :: l, h => by
    rw [List.map_cons, List.sum_cons, h x (by simp), sum_zero f l fun y hy => h y (by simp [hy])]
theorem ones_le : ∀ {ys : List Int} (a : Int), ys.Nodup → (ys.map fun y => if a == y then 1 else 0).sum ≤ 1
  | [], _, _ => by simp
  | y :: ys, a, h => by
    rw [List.map_cons, List.sum_cons]
    rw [List.nodup_cons] at h
    by_cases e : a = y
    · have z : (ys.map fun y => if a == y then 1 else 0).sum = 0 := by
        refine sum_zero _ _ fun w hw => ?_
        have : ¬ a = w := fun e2 => h.1 (by rw [← e, e2]; exact hw)
        simp [this]
      rw [z]
      simp [e]
    · have := ones_le a h.2
      simp [e]
      simpa using this
theorem sum_add {α : Type} (f g : α → Nat) : ∀ l : List α, (l.map fun x => f x + g x).sum = (l.map f).sum + (l.map g).sum
  | [] => rfl
  | x :: l => by
    rw [List.map_cons, List.map_cons, List.map_cons, List.sum_cons, List.sum_cons, List.sum_cons, sum_add f g l]
    omega
theorem sum_rows {ys : List Int} (h : ys.Nodup) : ∀ pts : List Pt, (ys.map fun y => (pts.filter fun z => z.2 == y).length).sum ≤ pts.length
  | [] => by
    rw [sum_zero (fun y => (List.filter (fun z : Pt => z.snd == y) []).length) ys fun w _ => rfl]
    simp
  | p :: ps => by
    have ih := sum_rows h ps
    have o := ones_le p.2 h
    have e : (ys.map fun y => ((p :: ps).filter fun z => z.2 == y).length) = ys.map fun y => (if p.2 == y then 1 else 0) + (ps.filter fun z => z.2 == y).length := by
      refine List.map_congr_left fun y _ => ?_
      rw [List.filter_cons]
      split <;> simp <;> omega
    rw [e, sum_add, List.length_cons]
    omega
theorem sum_take {ys : List Int} (f : Int → Nat) : ∀ (i : Nat), ((ys.take i).map f).sum ≤ (ys.map f).sum := fun i => by
  have := List.take_append_drop i ys
  have e : ys.map f = (ys.take i).map f ++ (ys.drop i).map f := by rw [← List.map_append, this]
  rw [e, List.sum_append]
  omega

/-! ### bands, one row more -/
def BandsOk (bs : List Bd) : Prop := ∃ y, BandsFrom y [] bs
theorem bands_snoc : ∀ {bs : List Bd} {y0 : Int} {p : List Pt} {y : Int} {rs : List Pt}, BandsFrom y0 p bs → (∀ d, bs.getLast? = some d → d.b ≤ y ∧ (d.b = y → d.rs ≠ rs)) → (bs = [] → y0 ≤ y ∧ (y0 = y → p ≠ rs)) → rs ≠ [] → RunsOk rs →
    BandsFrom y0 p (bs ++ [⟨y, y + 1, rs⟩])
  | [], y0, p, y, rs, _, _, h3, h4, h5 => ⟨(h3 rfl).1, (h3 rfl).2, by show y < y + 1; omega, h4, h5, trivial⟩
  | [d], y0, p, y, rs, h, h2, _, h4, h5 => by
    have k := h2 d rfl
    exact ⟨h.1, h.2.1, h.2.2.1, h.2.2.2.1, h.2.2.2.2.1, k.1, k.2, by show y < y + 1; omega, h4, h5, trivial⟩
  | d :: d2 :: t, y0, p, y, rs, h, h2, _, h4, h5 => by
    have ih := bands_snoc (bs := d2 :: t) (y := y) (rs := rs) h.2.2.2.2.2 (fun e he => h2 e (by rw [List.getLast?_cons_cons]; exact he)) (fun e => by cases e) h4 h5
    exact ⟨h.1, h.2.1, h.2.2.1, h.2.2.2.1, h.2.2.2.2.1, ih⟩
theorem bands_ext : ∀ {bs : List Bd} {y0 : Int} {p : List Pt} {d : Bd} {b : Int}, BandsFrom y0 p (bs ++ [d]) → d.b ≤ b → BandsFrom y0 p (bs ++ [⟨d.t, b, d.rs⟩])
  | [], y0, p, d, b, h, k => ⟨h.1, h.2.1, by have := h.2.2.1; show d.t < b; omega, h.2.2.2.1, h.2.2.2.2.1, trivial⟩
  | c :: t, y0, p, d, b, h, k => ⟨h.1, h.2.1, h.2.2.1, h.2.2.2.1, h.2.2.2.2.1, bands_ext h.2.2.2.2.2 k⟩
theorem BandsFrom.each : ∀ {bs : List Bd} {y0 : Int} {p : List Pt}, BandsFrom y0 p bs → ∀ d ∈ bs, d.t < d.b ∧ d.rs ≠ [] ∧ RunsOk d.rs
  | [], _, _, _, d, h => by simp at h
  | c :: t, y0, p, h, d, hd => by
    rcases List.mem_cons.mp hd with rfl | hd
    · exact ⟨h.2.2.1, h.2.2.2.1, h.2.2.2.2.1⟩
    · exact BandsFrom.each h.2.2.2.2.2 d hd
theorem inBands_app {bs cs : List Bd} {x y : Int} : inBands (bs ++ cs) x y ↔ inBands bs x y ∨ inBands cs x y := by
  unfold inBands
  constructor
  · rintro ⟨q, hq, h⟩
    rcases List.mem_append.mp hq with z | z
    · exact .inl ⟨q, z, h⟩
    · exact .inr ⟨q, z, h⟩
  · rintro (⟨q, hq, h⟩ | ⟨q, hq, h⟩)
    · exact ⟨q, List.mem_append.mpr (.inl hq), h⟩
    · exact ⟨q, List.mem_append.mpr (.inr hq), h⟩
theorem inBands_one {d : Bd} {x y : Int} : inBands [d] x y ↔ d.t ≤ y ∧ y < d.b ∧ inRuns d.rs x := by
  rw [inBands_cons]
  constructor
  · rintro (h | h)
    · exact h
    · exact absurd h inBands_nil
  · exact .inl
theorem formOf_app (bs cs : List Bd) : formOf (bs ++ cs) = formOf bs ++ formOf cs := by
  unfold formOf
  rw [List.flatMap_append]
theorem formOf_one (d : Bd) : formOf [d] = bandRc d := by
  unfold formOf
  simp
theorem bandRc_len (d : Bd) : (bandRc d).length = d.rs.length := by
  unfold bandRc
  rw [List.length_map]

/-! ### bands in the heap; pb: the list that holds them -/
def BdV (pb : Addr) (H : Hp) (v : V) (d : Bd) : Prop := ∃ q r us, v = .ref q ∧ q ≠ pb ∧ r ≠ pb ∧ H q = some (.tup [.int d.t, .int d.b, .ref r]) ∧ H r = some (.lst us) ∧ PtsV H us d.rs
def Xb (pb : Addr) (H H' : Hp) : Prop := ∀ a o, a ≠ pb → H a = some o → H' a = some o
theorem BdV.to {pb : Addr} {H H' : Hp} {v : V} {d : Bd} (k : TK H H') (x : Xb pb H H') (h : BdV pb H v d) : BdV pb H' v d := by
  obtain ⟨q, r, us, rfl, nq, nr, h1, h2, h3⟩ := h
  exact ⟨q, r, us, rfl, nq, nr, x _ _ nq h1, x _ _ nr h2, h3.tk k⟩
theorem Xb.ex {pb : Addr} {H H' : Hp} (e : Ex H H') : Xb pb H H' := fun a o _ h => e a o h
theorem Xb.upd {pb : Addr} {H : Hp} {o : HO} : Xb pb H (upd H pb o) := fun a u n h => by rw [upd_ne n]; exact h
theorem Xb.trans {pb : Addr} {H H1 H2 : Hp} (a : Xb pb H H1) (b : Xb pb H1 H2) : Xb pb H H2 := fun x o n h => b x o n (a x o n h)
theorem pr_split {α β : Type} {G : α → β → Prop} : ∀ {l₁ : List α} {l₂ : List β} {a : α} {b : β}, Paired G (l₁ ++ [a]) (l₂ ++ [b]) → Paired G l₁ l₂ ∧ G a b
  | [], [], _, _, .cons h .nil => ⟨.nil, h⟩
  | [], [_], _, _, .cons _ t => nomatch t
  | [], _ :: _ :: _, _, _, .cons _ t => nomatch t
  | [_], [], _, _, .cons _ t => nomatch t
  | _ :: _ :: _, [], _, _, .cons _ t => nomatch t
  | c :: t, c2 :: t2, _, _, .cons h1 h2 => by
    have ih := pr_split (l₁ := t) (l₂ := t2) h2
    exact ⟨.cons h1 ih.1, ih.2⟩
theorem ixN_last (n : Nat) : ixN (n + 1) (-1) = some n := by
  unfold ixN
  rw [if_neg (by decide), if_pos (by omega)]
  congr 1
  omega
/-! ### points told as a dict's keys or as a list's items -/
def SrcAt (K : PySem.W.Frag) (H : Hp) (d : Addr) (pts : List Pt) : Prop := H d = some (.dT (mkd pts)) ∨ ∃ us, SqL K H d us ∧ PtsV H us pts
theorem SrcAt.mono {K : PySem.W.Frag} {H H' : Hp} {d : Addr} {pts : List Pt} (e : Ex H H') (h : SrcAt K H d pts) : SrcAt K H' d pts := by
  rcases h with h | ⟨us, h1, h2⟩
  · exact .inl (e _ _ h)
  · exact .inr ⟨us, ex_l e h1, h2.tk (TK.ex e)⟩
end Od

namespace Od
open PySem L2 Evl
def top (i : Nat) : Stmt := PySem.Challenge.pw_onlythedirt_k08_points_held.main.body.getD i (.Pass ⟨0, 0, 0, 0⟩)
structure Txt (K : PySem.W.Frag) (mg : Str → Option Value) : Prop where
  abs_ : mg "abs" = none
  bool_ : mg "bool" = none
  int_ : mg "int" = none
  isinstance_ : mg "isinstance" = none
  len_ : mg "len" = none
  list_ : mg "list" = none
  range_ : mg "range" = none
  sorted_ : mg "sorted" = none
section
variable {P : Program} {w : World} {K : PySem.W.Frag} {mg : Str → Option Value} {base : Heap}
abbrev s_l_deck : Stmt := top 3
theorem sc_l_deck : FnScope ["script", "seed", "cell"] ["script"] (defScope s_l_deck) := ⟨rfl, rfl, rfl, by decide +kernel, rfl, by decide +kernel, by decide +kernel⟩
theorem ok_l_deck {f : Addr} {fd : FuncData} (F : Fun K "_law_deck" "_law_deck" s_l_deck f fd) (T : Txt K mg) : FnOk P w K mg base CX0 1 f fd ["script"] (spDeck K) := by
  refine deck_closed ?_ rfl
  refine F.ok sc_l_deck (fun vs H Q E h => ?_) (fun cdv A outer s H vs Q E hr h => ?_)
  · obtain ⟨a, ns, rfl, _⟩ := h
    rfl
  · obtain ⟨a, ns, rfl, hS, hl, q⟩ := h
    refine ⟨_, (pss_cons (ps_set (i := 1) sc_l_deck.nd rfl (by first | exact Or.inl rfl | exact Or.inr rfl) pe_int)
      (pss_cons (ps_for PassesOwn.never rfl (kpiL K (pv 0)) (pg_name (i := 2) sc_l_deck.nd rfl (by first | exact Or.inl rfl | exact Or.inr rfl))
        (pss_one (ps_set (i := 1) sc_l_deck.nd rfl (by first | exact Or.inl rfl | exact Or.inr rfl) (pe_op op_mod (pe_callTy call_int1 (by rfl) T.int_ bt_int (pa_cons (pe_op op_add (pe_op op_mul (pv 1) pe_int) (pv 2)) pa_nil)) pe_int))))
      (pss_one (ps_ret (pe_lst (pa_cons pe_int (pa_cons pe_int (pa_cons (pv 1) (pa_cons (pe_callTy (klist K) (by rfl) T.list_ bt_list (pa_cons (pv 0) pa_nil)) (pa_cons pe_int pa_nil)))))))))), ?_⟩
    refine ⟨_, rfl, a, rfl, ⟨_, hS⟩, for_list (K := K) (a := a) (xs := ns.map V.int) (fun i σ H' => H' = H ∧ ∃ (z : Int) (c : Option V), σ = [some (.ref a), some (.int z), c] ∧ 0 ≤ z ∧ z < 2147483647)
      ⟨rfl, 7, none, rfl, by decide, by decide⟩ (fun i σ H' _ p => by rw [p.1]; exact hS) ?_ ?_⟩
    · rintro i x σ H' hx ⟨rfl, z, c, rfl, z0, z1⟩
      rw [List.getElem?_map] at hx
      cases e : ns[i]? with
      | none =>
        rw [e] at hx
        cases hx
      | some u =>
        rw [e] at hx
        cases hx
        refine ⟨_, rfl, _, _, rfl, rfl, .inl ⟨by omega, by omega⟩, _, rfl, _, _, rfl, rfl, .inl ⟨_, rfl, ?_⟩⟩
        refine ⟨_, _, rfl, rfl, (by show (0 : Int) < 2147483647; decide), ?_⟩
        refine ⟨rfl, _, _, rfl, ?_, ?_⟩
        · exact Int.emod_nonneg _ (by decide)
        · exact Int.emod_lt_of_pos _ (by decide)
    · rintro σ H' ⟨rfl, z, c, rfl, z0, z1⟩
      refine ⟨_, rfl, _, rfl, a, _, rfl, .inl hS, fun l hl' => ?_⟩
      refine ⟨(by show 5 ≤ sizeLine; decide), fun p hp => ?_⟩
      have hpl : l ≠ p := fun e => by
        rw [← e, upd_same] at hp
        cases hp
      have e1 : Ex H' (upd H' l (.lst (ns.map V.int))) := Ex.new hl'
      refine q p l _ _ (fresh_back e1 hp) (e1.trans (Ex.new hp)) upd_same ⟨0, 0, z, 0, rfl, by decide, by decide, z0, z1⟩ hpl ?_
      rw [upd_ne hpl, upd_same]

abbrev s_l_draw : Stmt := top 4
theorem sc_l_draw : FnScope ["deck", "bound", "number", "value"] ["deck", "bound"] (defScope s_l_draw) := ⟨rfl, rfl, rfl, by decide +kernel, rfl, by decide +kernel, by decide +kernel⟩
theorem ok_l_draw {f : Addr} {fd : FuncData} (F : Fun K "_law_draw" "_law_draw" s_l_draw f fd) (T : Txt K mg) : FnOk P w K mg base CX0 1 f fd ["deck", "bound"] (spDraw K) := by
  refine draw_closed ?_ rfl
  refine F.ok sc_l_draw (fun vs H Q E h => ?_) (fun cdv A outer s H vs Q E hr h => ?_)
  · obtain ⟨a, b, l, ns, xs, rfl, _⟩ := h
    rfl
  · obtain ⟨a, b, l, ns, xs, rfl, ha, ⟨n, k, z, c, rfl, n0, k0, z0, z1⟩, hL, hla, b0, b1, q⟩ := h
    have hH : upd H a (.lst (deckV n k z l c)) = H := by
      have e := upd_back (u := .lst (deckV n k z l c)) ha
      rw [upd_upd] at e
      exact e
    have hL2 : ∀ o, upd H a o l = some (.lst (ns.map V.int)) := fun o => by rw [upd_ne hla]; exact hL
    refine ⟨_, (pss_cut (ps_if (PW.pt (pw_and (pt_cmpR op_eq (pe_ix (kixL K) (pv 0) pe_int (fun _ _ => rfl)) pe_int (nomark _)) (pw_and1 (pt_cmpR op_lt (pe_ix (kixL K) (pv 0) pe_int (fun _ _ => rfl)) (pe_callB (klen K) (by rfl) T.len_ PySem.boot_len (pa_cons (pe_ix (kixL K) (pv 0) pe_int (fun _ _ => rfl)) pa_nil)) (nomark _)))))
        (pss_cons (ps_asg (pe_callB call_abs (by rfl) T.abs_ bt_abs (pa_cons (pe_ix (kixL K) (pe_ix (kixL K) (pv 0) pe_int (fun _ _ => rfl)) (pe_ix (kixL K) (pv 0) pe_int (fun _ _ => rfl)) (fun _ _ => rfl)) pa_nil)) (pg_sub (pv 0) pe_int set_list))
        (pss_one (ps_asg (pe_op op_add (pe_ix (kixL K) (pv 0) pe_int (fun _ _ => rfl)) pe_int) (pg_sub (pv 0) pe_int set_list))))
        (pss_one (ps_if (pt_cmpR op_eq (pe_ix (kixL K) (pv 0) pe_int (fun _ _ => rfl)) pe_int (nomark _))
          (pss_cons (ps_asg (pe_op op_add (pe_ix (kixL K) (pv 0) pe_int (fun _ _ => rfl)) pe_int) (pg_sub (pv 0) pe_int set_list))
          (pss_cons (ps_set (i := 2) sc_l_draw.nd rfl (by first | exact Or.inl rfl | exact Or.inr rfl) (pe_op op_mod (pe_callTy call_int1 (by rfl) T.int_ bt_int (pa_cons (pe_op op_add (pe_op op_add (pe_op op_mul (pe_ix (kixL K) (pv 0) pe_int (fun _ _ => rfl)) pe_int) (pe_op op_mul (pe_ix (kixL K) (pv 0) pe_int (fun _ _ => rfl)) pe_int)) pe_int) pa_nil)) pe_int))
          (pss_cons (ps_set (i := 2) sc_l_draw.nd rfl (by first | exact Or.inl rfl | exact Or.inr rfl) (pe_op op_mod (pe_callTy call_int1 (by rfl) T.int_ bt_int (pa_cons (pe_op op_add (pe_op op_add (pe_op op_mul (pv 2) (pv 2)) (pe_op op_mul pe_int (pe_ix (kixL K) (pv 0) pe_int (fun _ _ => rfl)))) pe_int) pa_nil)) pe_int))
          (pss_cons (ps_set (i := 2) sc_l_draw.nd rfl (by first | exact Or.inl rfl | exact Or.inr rfl) (pe_op op_mod (pe_callTy call_int1 (by rfl) T.int_ bt_int (pa_cons (pe_op op_add (pe_op op_add (pe_op op_mul (pv 2) (pv 2)) (pe_op op_mul pe_int (pe_ix (kixL K) (pv 0) pe_int (fun _ _ => rfl)))) (pe_ix (kixL K) (pv 0) pe_int (fun _ _ => rfl))) pa_nil)) pe_int))
          (pss_one (ps_asg (pe_op op_fdiv (pv 2) pe_int) (pg_sub (pv 0) pe_int set_list)))))))
          pss_nil)))
      (pss_cons (ps_set (i := 3) sc_l_draw.nd rfl (by first | exact Or.inl rfl | exact Or.inr rfl) (pe_op op_mod (pe_callTy call_int1 (by rfl) T.int_ bt_int (pa_cons (pe_ix (kixL K) (pv 0) pe_int (fun _ _ => rfl)) pa_nil)) (pv 1)))
      (pss_cons (ps_asg (pe_op op_fdiv (pe_ix (kixL K) (pv 0) pe_int (fun _ _ => rfl)) (pv 1)) (pg_sub (pv 0) pe_int set_list))
      (pss_one (ps_ret (pv 3)))))), ?_⟩
    refine ⟨fun σ H' => ∃ n k c u, σ = [some (.ref a), some (.int b), u, none] ∧ H' = upd H a (.lst (deckV n k z l c)) ∧ 0 ≤ n ∧ 0 ≤ k, ?_, ?_⟩
    · rw [← hH]
      -- if deck[0] == 0 and deck[1] < len(deck[3])
      refine ⟨_, rfl, a, _, _, _, rfl, rfl, SqL.of upd_same, rfl, rfl, _, rfl, ?_⟩
      refine ite2 (fun e0 => ?_) (fun e0 => ?_)
      · refine ⟨_, rfl, a, _, _, _, rfl, rfl, SqL.of upd_same, rfl, ?_⟩
        refine ⟨_, rfl, a, _, _, _, rfl, rfl, SqL.of upd_same, rfl, ?_⟩
        refine ⟨l, _, rfl, .inl (SqL.of (hL2 _)), _, _, rfl, rfl, _, rfl, ?_⟩
        refine ite2 (fun e1 => ?_) (fun e1 => ?_)
        · -- deck[0] = abs(deck[3][deck[1]]); deck[1] = deck[1] + 1
          have hk : k < (ns.length : Int) := by
            have e2 := of_decide_eq_true e1
            rw [List.length_map] at e2
            exact e2
          obtain ⟨m, rfl⟩ := Int.eq_ofNat_of_zero_le k0
          have hm : m < ns.length := by omega
          refine ⟨_, rfl, a, _, _, _, rfl, rfl, SqL.of upd_same, rfl, ?_⟩
          refine ⟨_, rfl, a, _, _, _, rfl, rfl, SqL.of upd_same, rfl, ?_⟩
          refine ⟨l, _, _, .int ns[m], rfl, rfl, SqL.of (hL2 _), atI_nat (by rw [List.getElem?_map, List.getElem?_eq_getElem hm]; rfl), ?_⟩
          refine ⟨_, rfl, ?_⟩
          refine ⟨_, rfl, a, _, 0, 0, rfl, rfl, upd_same, rfl, ?_⟩
          refine ⟨_, rfl, a, _, _, _, rfl, rfl, SqL.of upd_same, rfl, ?_⟩
          refine ⟨_, _, rfl, rfl, ?_⟩
          refine ⟨_, rfl, a, _, 1, 1, rfl, rfl, upd_same, rfl, ?_⟩
          refine ⟨(if ns[m] < 0 then -ns[m] else ns[m]), (m : Int) + 1, c, none, rfl, ?_, ?_, ?_⟩
          · simp only [upd_upd]
            rfl
          · split <;> omega
          · omega
        · -- elif deck[0] == 0
          refine ⟨_, rfl, a, _, _, _, rfl, rfl, SqL.of upd_same, rfl, rfl, _, rfl, ?_⟩
          refine ite2 (fun e2 => ?_) (fun e2 => ?_)
          · refine ⟨_, rfl, a, _, _, _, rfl, rfl, SqL.of upd_same, rfl, ?_⟩
            refine ⟨_, _, rfl, rfl, ?_⟩
            refine ⟨_, rfl, a, _, 4, 4, rfl, rfl, upd_same, rfl, ?_⟩
            rw [upd_upd]
            -- number = ..
            refine ⟨_, rfl, a, _, _, _, rfl, rfl, SqL.of upd_same, rfl, ?_⟩
            refine ⟨_, _, rfl, rfl, .inr ⟨by decide, by decide⟩, ?_⟩
            refine ⟨_, rfl, a, _, _, _, rfl, rfl, SqL.of upd_same, rfl, ?_⟩
            refine ⟨_, _, rfl, rfl, .inr ⟨by decide, by decide⟩, ?_⟩
            refine ⟨_, _, rfl, rfl, ?_⟩
            refine ⟨_, _, rfl, rfl, .inl ⟨_, rfl, ?_⟩⟩
            refine ⟨_, _, rfl, rfl, (by show (0 : Int) < 2147483647; decide), ?_⟩
            refine ⟨_, rfl, _, rfl, ?_⟩
            refine ⟨_, _, rfl, rfl, .inl ⟨by omega, by omega⟩, ?_⟩
            refine ⟨_, rfl, a, _, _, _, rfl, rfl, SqL.of upd_same, rfl, ?_⟩
            refine ⟨_, _, rfl, rfl, .inl ⟨by decide, by decide⟩, ?_⟩
            refine ⟨_, _, rfl, rfl, ?_⟩
            refine ⟨_, _, rfl, rfl, .inl ⟨_, rfl, ?_⟩⟩
            refine ⟨_, _, rfl, rfl, (by show (0 : Int) < 998244353; decide), ?_⟩
            refine ⟨_, rfl, _, rfl, ?_⟩
            refine ⟨_, _, rfl, rfl, .inl ⟨by omega, by omega⟩, ?_⟩
            refine ⟨_, rfl, a, _, _, _, rfl, rfl, SqL.of upd_same, rfl, ?_⟩
            refine ⟨_, _, rfl, rfl, .inl ⟨by decide, by decide⟩, ?_⟩
            refine ⟨_, _, rfl, rfl, ?_⟩
            refine ⟨_, rfl, a, _, _, _, rfl, rfl, SqL.of upd_same, rfl, ?_⟩
            refine ⟨_, _, rfl, rfl, .inl ⟨_, rfl, ?_⟩⟩
            refine ⟨_, _, rfl, rfl, (by show (0 : Int) < 2147483629; decide), ?_⟩
            refine ⟨_, rfl, _, _, rfl, rfl, ⟨by decide, by decide⟩, ?_⟩
            refine ⟨_, rfl, a, _, 0, 0, rfl, rfl, upd_same, rfl, ?_⟩
            let n1 : Int := (z * 48271 + (c + 1) * 69621 + 12345) % 2147483647
            let n2 : Int := (n1 * n1 + 16807 * (c + 1) + 7) % 998244353
            refine ⟨(n2 * n2 + 48271 * (c + 1) + z) % 2147483629 / 13, k, c + 1, _, rfl, ?_, ?_, k0⟩
            · simp only [upd_upd]
              rfl
            · exact Int.ediv_nonneg (Int.emod_nonneg _ (by decide)) (by decide)
          · exact ⟨n, k, c, none, rfl, upd_upd.symm, n0, k0⟩
      · refine ⟨_, rfl, a, _, _, _, rfl, rfl, SqL.of upd_same, rfl, rfl, _, rfl, ?_⟩
        rw [eq_false_of_ne_true e0]
        refine iteF ?_
        exact ⟨n, k, c, none, rfl, upd_upd.symm, n0, k0⟩
    · rintro σ H' ⟨n, k, c, u, rfl, rfl, n0, k0⟩
      refine ⟨_, rfl, a, _, _, _, rfl, rfl, SqL.of upd_same, rfl, .inl ⟨_, rfl, ?_⟩⟩
      refine ⟨_, rfl, _, _, rfl, rfl, b0, ?_⟩
      refine ⟨_, rfl, a, _, _, _, rfl, rfl, SqL.of upd_same, rfl, ?_⟩
      refine ⟨_, rfl, _, _, rfl, rfl, ⟨b0, b1⟩, ?_⟩
      refine ⟨_, rfl, a, _, 0, 0, rfl, rfl, upd_same, rfl, ?_⟩
      refine ⟨_, rfl, ?_⟩
      rw [upd_upd]
      exact q (n % b) _ (Int.emod_nonneg _ (by omega)) (Int.emod_lt_of_pos _ b0) ⟨n / b, k, z, c, rfl, Int.ediv_nonneg n0 (by omega), k0, z0, z1⟩

abbrev s_l_rectangle : Stmt := top 5
theorem sc_l_rectangle : FnScope ["deck", "size", "left", "top", "wide", "high"] ["deck", "size"] (defScope s_l_rectangle) := ⟨rfl, rfl, rfl, by decide +kernel, rfl, by decide +kernel, by decide +kernel⟩
def spRectangle (K : PySem.W.Frag) : Sp := fun vs H Q _ => ∃ a size, vs = [.ref a, .int size] ∧ DeckAt K H a ∧ 0 < size ∧ size ≤ 1000 ∧
  ∀ p l t r b H', H p = none → Ex H H' → RectAt H' p l t r b → l < r → t < b → -3 ≤ l → -3 ≤ t → r ≤ 2 * size + 3 → b ≤ 2 * size + 3 → Q (.ref p) H'
theorem ok_l_rectangle {f : Addr} {fd : FuncData} (F : Fun K "_law_rectangle" "_law_rectangle" s_l_rectangle f fd) (T : Txt K mg) (D_l_draw : Def P w K mg base CX0 "_law_draw" 1 ["deck", "bound"] (spDraw K)) : FnOk P w K mg base CX0 2 f fd ["deck", "size"] (spRectangle K) := by
  refine F.ok sc_l_rectangle (fun vs H Q E h => ?_) (fun cdv A outer s H vs Q E hr h => ?_)
  · obtain ⟨a, size, rfl, _⟩ := h
    rfl
  · obtain ⟨a, size, rfl, hd, s0, s1, q⟩ := h
    refine ⟨_, (pss_cons (ps_set (i := 2) sc_l_rectangle.nd rfl (by first | exact Or.inl rfl | exact Or.inr rfl) (pe_op op_sub (pe_call D_l_draw.ok (hr.mono (by decide)) rfl D_l_draw.mgf D_l_draw.kp D_l_draw.b .nil pass0 (pa_cons (pv 0) (pa_cons (pv 1) pa_nil))) pe_int))
      (pss_cons (ps_set (i := 3) sc_l_rectangle.nd rfl (by first | exact Or.inl rfl | exact Or.inr rfl) (pe_op op_sub (pe_call D_l_draw.ok (hr.mono (by decide)) rfl D_l_draw.mgf D_l_draw.kp D_l_draw.b .nil pass0 (pa_cons (pv 0) (pa_cons (pv 1) pa_nil))) pe_int))
      (pss_cons (ps_set (i := 4) sc_l_rectangle.nd rfl (by first | exact Or.inl rfl | exact Or.inr rfl) (pe_op op_add pe_int (pe_ix (kixL K) (pe_lst (pa_cons (pe_call D_l_draw.ok (hr.mono (by decide)) rfl D_l_draw.mgf D_l_draw.kp D_l_draw.b .nil pass0 (pa_cons (pv 0) (pa_cons pe_int pa_nil))) (pa_cons (pe_call D_l_draw.ok (hr.mono (by decide)) rfl D_l_draw.mgf D_l_draw.kp D_l_draw.b .nil pass0 (pa_cons (pv 0) (pa_cons (pv 1) pa_nil))) pa_nil))) (pe_call D_l_draw.ok (hr.mono (by decide)) rfl D_l_draw.mgf D_l_draw.kp D_l_draw.b .nil pass0 (pa_cons (pv 0) (pa_cons pe_int pa_nil))) (fun _ _ => rfl))))
      (pss_cons (ps_set (i := 5) sc_l_rectangle.nd rfl (by first | exact Or.inl rfl | exact Or.inr rfl) (pe_op op_add pe_int (pe_ix (kixL K) (pe_lst (pa_cons (pe_call D_l_draw.ok (hr.mono (by decide)) rfl D_l_draw.mgf D_l_draw.kp D_l_draw.b .nil pass0 (pa_cons (pv 0) (pa_cons pe_int pa_nil))) (pa_cons (pe_call D_l_draw.ok (hr.mono (by decide)) rfl D_l_draw.mgf D_l_draw.kp D_l_draw.b .nil pass0 (pa_cons (pv 0) (pa_cons (pv 1) pa_nil))) pa_nil))) (pe_call D_l_draw.ok (hr.mono (by decide)) rfl D_l_draw.mgf D_l_draw.kp D_l_draw.b .nil pass0 (pa_cons (pv 0) (pa_cons pe_int pa_nil))) (fun _ _ => rfl))))
      (pss_one (ps_ret (pe_tup (pa_cons (pv 2) (pa_cons (pv 3) (pa_cons (pe_op op_add (pv 2) (pv 4)) (pa_cons (pe_op op_add (pv 3) (pv 5)) pa_nil))))))))))), ?_⟩
    refine ⟨_, rfl, _, rfl, a, size, rfl, hd, s0, by omega, fun l l0 l1 => ?_⟩
    refine ⟨_, _, rfl, rfl, ?_⟩
    refine ⟨_, rfl, _, rfl, a, size, rfl, hd, s0, by omega, fun t t0 t1 => ?_⟩
    refine ⟨_, _, rfl, rfl, ?_⟩
    refine ⟨_, rfl, a, 3, rfl, hd, by decide, by decide, fun x1 x10 x11 => ?_⟩
    refine ⟨_, rfl, _, rfl, a, size, rfl, hd, s0, by omega, fun x2 x20 x21 => ?_⟩
    refine ⟨(by show 2 ≤ sizeLine; decide), fun p hp => ?_⟩
    have e1 : Ex H (upd H p (.lst [.int x1, .int x2])) := Ex.new hp
    refine ⟨_, rfl, a, 2, rfl, hd.mono e1, by decide, by decide, fun i i0 i1 => ?_⟩
    obtain ⟨w1, hw1, ew1⟩ := pickI (ns := [x1, x2]) i0 i1
    refine ⟨p, _, i, _, rfl, rfl, SqL.of upd_same, ew1, _, _, rfl, rfl, ?_⟩
    have w10 : 0 ≤ w1 := by
      rcases List.mem_cons.mp hw1 with rfl | h
      · exact x10
      · rw [List.mem_singleton.mp h]
        exact x20
    have w11 : w1 < size + 3 := by
      rcases List.mem_cons.mp hw1 with rfl | h
      · omega
      · rw [List.mem_singleton.mp h]
        omega
    generalize hH1 : upd H p (.lst [.int x1, .int x2]) = H1 at *
    have hd1 := hd.mono e1
    refine ⟨_, rfl, a, 3, rfl, hd1, by decide, by decide, fun y1 y10 y11 => ?_⟩
    refine ⟨_, rfl, _, rfl, a, size, rfl, hd1, s0, by omega, fun y2 y20 y21 => ?_⟩
    refine ⟨(by show 2 ≤ sizeLine; decide), fun p2 hp2 => ?_⟩
    have e2 : Ex H1 (upd H1 p2 (.lst [.int y1, .int y2])) := Ex.new hp2
    refine ⟨_, rfl, a, 2, rfl, hd1.mono e2, by decide, by decide, fun j j0 j1 => ?_⟩
    obtain ⟨w2, hw2, ew2⟩ := pickI (ns := [y1, y2]) j0 j1
    refine ⟨p2, _, j, _, rfl, rfl, SqL.of upd_same, ew2, _, _, rfl, rfl, ?_⟩
    have w20 : 0 ≤ w2 := by
      rcases List.mem_cons.mp hw2 with rfl | h
      · exact y10
      · rw [List.mem_singleton.mp h]
        exact y20
    have w21 : w2 < size + 3 := by
      rcases List.mem_cons.mp hw2 with rfl | h
      · omega
      · rw [List.mem_singleton.mp h]
        omega
    generalize hH2 : upd H1 p2 (.lst [.int y1, .int y2]) = H2 at *
    refine ⟨_, rfl, _, rfl, _, rfl, _, rfl, _, _, rfl, rfl, _, rfl, _, rfl, _, _, rfl, rfl, (by show 4 ≤ sizeLine; decide), fun p3 hp3 => ?_⟩
    have e3 := e1.trans e2
    refine q p3 (l - 3) (t - 3) (l - 3 + (1 + w1)) (t - 3 + (1 + w2)) _ (ex_free e3 hp3) (e3.trans (Ex.new hp3)) upd_same ?_ ?_ ?_ ?_ ?_ ?_ <;> omega

abbrev s_l_rectangles : Stmt := top 6
theorem sc_l_rectangles : FnScope ["deck", "count", "size", "found", "k", "rectangle", "other", "edge", "shift"] ["deck", "count", "size"] (defScope s_l_rectangles) := ⟨rfl, rfl, rfl, by decide +kernel, rfl, by decide +kernel, by decide +kernel⟩
def spRectangles (K : PySem.W.Frag) : Sp := fun vs H Q _ => ∃ a count size, vs = [.ref a, .int count, .int size] ∧ DeckAt K H a ∧ 0 ≤ count ∧ count ≤ 10 ∧ 0 < size ∧ size ≤ 20 ∧
  ∀ p us qs H', H p = none → Ex H H' → H' p = some (.lst us) → RcsV H' us qs → (qs.length : Int) = count → (∀ q ∈ qs, Small 1000 q) → Q (.ref p) H'
theorem ok_l_rectangles {f : Addr} {fd : FuncData} (F : Fun K "_law_rectangles" "_law_rectangles" s_l_rectangles f fd) (T : Txt K mg) (D_l_draw : Def P w K mg base CX0 "_law_draw" 1 ["deck", "bound"] (spDraw K))
    (D_l_rectangle : Def P w K mg base CX0 "_law_rectangle" 2 ["deck", "size"] (spRectangle K)) : FnOk P w K mg base CX0 3 f fd ["deck", "count", "size"] (spRectangles K) := by
  refine F.ok sc_l_rectangles (fun vs H Q E h => ?_) (fun cdv A outer s H vs Q E hr h => ?_)
  · obtain ⟨a, count, size, rfl, _⟩ := h
    rfl
  · obtain ⟨a, count, size, rfl, hd, c0, c1, s0, s1, q⟩ := h
    refine ⟨_, (pss_cons (ps_set (i := 3) sc_l_rectangles.nd rfl (by first | exact Or.inl rfl | exact Or.inr rfl) (pe_lst pa_nil))
      (pss_cons (ps_for PassesOwn.never rfl (pi_range1 (by rfl) T.range_ (pa_cons (pv 1) pa_nil)) (pg_name (i := 4) sc_l_rectangles.nd rfl (by first | exact Or.inl rfl | exact Or.inr rfl))
        (pss_cons (ps_set (i := 5) sc_l_rectangles.nd rfl (by first | exact Or.inl rfl | exact Or.inr rfl) (pe_call D_l_rectangle.ok (hr.mono (by decide)) rfl D_l_rectangle.mgf D_l_rectangle.kp D_l_rectangle.b .nil pass0 (pa_cons (pv 0) (pa_cons (pv 2) pa_nil))))
        (pss_cut (ps_if (PW.pt (pw_and (pt_cmpR op_gt (pe_callB (klen K) (by rfl) T.len_ PySem.boot_len (pa_cons (pv 3) pa_nil)) pe_int (nomark _)) (pw_and1 (pt_cmpR op_eq (pe_call D_l_draw.ok (hr.mono (by decide)) rfl D_l_draw.mgf D_l_draw.kp D_l_draw.b .nil pass0 (pa_cons (pv 0) (pa_cons pe_int pa_nil))) pe_int (nomark _)))))
          (pss_cons (ps_set (i := 6) sc_l_rectangles.nd rfl (by first | exact Or.inl rfl | exact Or.inr rfl) (pe_ix (kixL K) (pv 3) (pe_call D_l_draw.ok (hr.mono (by decide)) rfl D_l_draw.mgf D_l_draw.kp D_l_draw.b .nil pass0 (pa_cons (pv 0) (pa_cons (pe_callB (klen K) (by rfl) T.len_ PySem.boot_len (pa_cons (pv 3) pa_nil)) pa_nil))) (fun _ _ => rfl)))
          (pss_cons (ps_set (i := 7) sc_l_rectangles.nd rfl (by first | exact Or.inl rfl | exact Or.inr rfl) (pe_call D_l_draw.ok (hr.mono (by decide)) rfl D_l_draw.mgf D_l_draw.kp D_l_draw.b .nil pass0 (pa_cons (pv 0) (pa_cons pe_int pa_nil))))
          (pss_cons (ps_set (i := 8) sc_l_rectangles.nd rfl (by first | exact Or.inl rfl | exact Or.inr rfl) (pe_op op_sub (pe_ix (kixT K) (pv 6) (pv 7) (fun _ _ => rfl)) (pe_ix (kixT K) (pv 5) (pe_op op_mod (pe_callTy call_int1 (by rfl) T.int_ bt_int (pa_cons (pe_op op_add (pv 7) (pe_op op_mul pe_int (pe_call D_l_draw.ok (hr.mono (by decide)) rfl D_l_draw.mgf D_l_draw.kp D_l_draw.b .nil pass0 (pa_cons (pv 0) (pa_cons pe_int pa_nil))))) pa_nil)) pe_int) (fun _ _ => rfl))))
          (pss_one (ps_if (PW.pt (pw_or (pt_cmpR op_eq (pv 7) pe_int (nomark _)) (pw_or1 (pt_cmpR op_eq (pv 7) pe_int (nomark _)))))
            (pss_one (ps_set (i := 5) sc_l_rectangles.nd rfl (by first | exact Or.inl rfl | exact Or.inr rfl) (pe_tup (pa_cons (pe_op op_add (pe_ix (kixT K) (pv 5) pe_int (fun _ _ => rfl)) (pv 8)) (pa_cons (pe_ix (kixT K) (pv 5) pe_int (fun _ _ => rfl)) (pa_cons (pe_op op_add (pe_ix (kixT K) (pv 5) pe_int (fun _ _ => rfl)) (pv 8)) (pa_cons (pe_ix (kixT K) (pv 5) pe_int (fun _ _ => rfl)) pa_nil)))))))
            (pss_one (ps_set (i := 5) sc_l_rectangles.nd rfl (by first | exact Or.inl rfl | exact Or.inr rfl) (pe_tup (pa_cons (pe_ix (kixT K) (pv 5) pe_int (fun _ _ => rfl)) (pa_cons (pe_op op_add (pe_ix (kixT K) (pv 5) pe_int (fun _ _ => rfl)) (pv 8)) (pa_cons (pe_ix (kixT K) (pv 5) pe_int (fun _ _ => rfl)) (pa_cons (pe_op op_add (pe_ix (kixT K) (pv 5) pe_int (fun _ _ => rfl)) (pv 8)) pa_nil))))))))))))
          pss_nil)
        (pss_one (ps_expr (pe_bm PySem.F.plainAttrs_list PySem.F.slot_list_append PySem.F.type_list_append mt_append (pv 3) (pa_cons (pv 5) pa_nil)))))))
      (pss_one (ps_ret (pv 3))))), ?_⟩
    refine ⟨Nat.zero_le _, fun p hp => ?_⟩
    refine ⟨_, rfl, count, rfl, by omega, by omega, for_range (lo := 0) (n := count.toNat) (fun i σ H' => ∃ us qs v1 v2 v3 v4 v5, σ = [some (.ref a), some (.int count), some (.int size), some (.ref p), v1, v2, v3, v4, v5] ∧ Ex H H' ∧ H' p = some (.lst us) ∧ RcsV H' us qs ∧ qs.length = i ∧ ∀ q ∈ qs, Small (60 * (i + 1)) q) ?_ ?_ ?_⟩
    · exact ⟨[], [], none, none, none, none, none, rfl, Ex.new hp, upd_same, .nil, rfl, fun q h => by simp at h⟩
    · rintro i σ H' hi ⟨us, qs, v1, v2, v3, v4, v5, rfl, e, hl, hq, hn, hb⟩
      have hlen : us.length = i := by rw [hq.length]; exact hn
      have hi10 : i < 10 := by omega
      -- rectangle = _law_rectangle(deck, size)
      refine ⟨_, rfl, _, rfl, a, size, rfl, hd.mono e, s0, by omega, fun pr l t r b H1 hp1 e1 hr1 l1 l2 l3 l4 l5 l6 => ?_⟩
      have hd1 := (hd.mono e).mono e1
      have hl1 := e1 _ _ hl
      have hq1 := hq.tk (TK.ex e1)
      refine ⟨fun σ2 H2 => ∃ (pr2 : Addr) (rc : Rc) (w1 w2 w3 : Option V), σ2 = [some (.ref a), some (.int count), some (.int size), some (.ref p), some (.int (0 + (i : Int))), some (.ref pr2), w1, w2, w3] ∧ Ex H1 H2 ∧ H2 pr2 = some (.tup [.int rc.l, .int rc.t, .int rc.r, .int rc.b]) ∧ Small (60 * ((i : Int) + 2)) rc, ?_, ?_⟩
      · -- if len(found) > 0 and _law_draw(deck, 3) == 0
        refine ⟨_, rfl, p, us, rfl, .inl (SqL.of hl1), _, _, rfl, rfl, _, rfl, ?_⟩
        have keep : ∃ (pr2 : Addr) (rc : Rc) (w1 w2 w3 : Option V), ([some (.ref a), some (.int count), some (.int size), some (.ref p), some (.int (0 + (i : Int))), some (.ref pr), v3, v4, v5] : L2.St) = [some (.ref a), some (.int count), some (.int size), some (.ref p), some (.int (0 + (i : Int))), some (.ref pr2), w1, w2, w3] ∧ Ex H1 H1 ∧ H1 pr2 = some (.tup [.int rc.l, .int rc.t, .int rc.r, .int rc.b]) ∧ Small (60 * ((i : Int) + 2)) rc :=
          ⟨pr, ⟨l, t, r, b⟩, v3, v4, v5, rfl, Ex.refl _, hr1, by unfold Small; refine ⟨l1, l2, ?_, ?_, ?_, ?_, ?_, ?_⟩ <;> dsimp only <;> omega⟩
        refine ite2 (fun e0 => ?_) (fun e0 => ?_)
        · refine ⟨_, rfl, a, 3, rfl, hd1, by decide, by decide, fun z _ _ => ?_⟩
          refine ⟨rfl, _, rfl, ?_⟩
          refine ite2 (fun e2 => ?_) (fun e2 => ?_)
          · have hpos : 0 < us.length := by
              have := of_decide_eq_true e0
              omega
            -- other = found[_law_draw(deck, len(found))]
            refine ⟨_, rfl, _, rfl, _, rfl, p, us, rfl, .inl (SqL.of hl1), a, _, rfl, hd1, by omega, by omega, fun k k0 k1 => ?_⟩
            obtain ⟨po, qo, hqo, ek, hpo⟩ := pickR hq1 k0 k1
            refine ⟨p, us, k, _, rfl, rfl, SqL.of hl1, ek, ?_⟩
            refine ⟨_, rfl, a, 4, rfl, hd1, by decide, by decide, fun ed ed0 ed1 => ?_⟩
            obtain ⟨oe, hoe, eoe⟩ := pickI (ns := [qo.l, qo.t, qo.r, qo.b]) ed0 ed1
            refine ⟨_, rfl, _, rfl, po, _, ed, _, rfl, rfl, SqT.of hpo, eoe, ?_⟩
            refine ⟨_, rfl, _, rfl, _, rfl, a, 2, rfl, hd1, by decide, by decide, fun g g0 g1 => ?_⟩
            refine ⟨_, _, rfl, rfl, .inl ⟨by decide, by decide⟩, _, _, rfl, rfl, .inl ⟨_, rfl, ?_⟩⟩
            refine ⟨_, _, rfl, rfl, (by show (0 : Int) < 4; decide), ?_⟩
            obtain ⟨re, hre, ere⟩ := pickI (ns := [l, t, r, b]) (i := (ed + 2 * g) % 4) (Int.emod_nonneg _ (by decide)) (Int.emod_lt_of_pos _ (by decide))
            refine ⟨pr, _, _, _, rfl, rfl, SqT.of hr1, ere, _, _, rfl, rfl, ?_⟩
            -- where the edges stand
            have ho := hb qo hqo
            obtain ⟨o1, o2, o3, o4, o5, o6, o7, o8⟩ := ho
            have cases_g : g = 0 ∨ g = 1 := by omega
            have cases_e : ed = 0 ∨ ed = 1 ∨ ed = 2 ∨ ed = 3 := by omega
            refine ⟨_, rfl, rfl, _, rfl, ?_⟩
            have hor : ∀ (A B : Prop), (ed = 0 ∨ ed = 2 → A) → (ed = 1 ∨ ed = 3 → B) → (if decide (V.int ed = V.int 0) = true then (if true = true then A else B) else if decide (V.int ed = V.int 2) = true then A else B) := by
              intro A B hA hB
              rcases cases_e with rfl | rfl | rfl | rfl
              · exact iteT (iteT (hA (.inl rfl)))
              · exact iteF (iteF (hB (.inl rfl)))
              · exact iteF (iteT (hA (.inr rfl)))
              · exact iteF (iteF (hB (.inr rfl)))
            -- the bound of what is moved
            have fin1 : ed = 0 ∨ ed = 2 → Small (60 * ((i : Int) + 2)) ⟨l + (oe - re), t, r + (oe - re), b⟩ := by
              intro he
              rcases he with rfl | rfl <;> rcases cases_g with rfl | rfl <;> (
                have q1 : oe = _ := (V.int.inj (Option.some.inj (eoe.symm.trans rfl)))
                have q2 : re = _ := (V.int.inj (Option.some.inj (ere.symm.trans rfl)))
                subst q1 q2
                unfold Small
                refine ⟨?_, ?_, ?_, ?_, ?_, ?_, ?_, ?_⟩ <;> dsimp only <;> omega)
            have fin2 : ed = 1 ∨ ed = 3 → Small (60 * ((i : Int) + 2)) ⟨l, t + (oe - re), r, b + (oe - re)⟩ := by
              intro he
              rcases he with rfl | rfl <;> rcases cases_g with rfl | rfl <;> (
                have q1 : oe = _ := (V.int.inj (Option.some.inj (eoe.symm.trans rfl)))
                have q2 : re = _ := (V.int.inj (Option.some.inj (ere.symm.trans rfl)))
                subst q1 q2
                unfold Small
                refine ⟨?_, ?_, ?_, ?_, ?_, ?_, ?_, ?_⟩ <;> dsimp only <;> omega)
            by_cases hed : ed = 0 ∨ ed = 2
            · have fin := fin1 hed
              have go : ∀ {A B : Prop}, A → (if decide (V.int ed = V.int 0) = true then A else if decide (V.int ed = V.int 2) = true then A else B) := by
                intro A B hA
                rcases hed with rfl | rfl
                · exact iteT hA
                · exact iteF (iteT hA)
              refine ite2 (fun _ => ?_) (fun z0 => ?_)
              · refine iteT ?_
                refine ⟨_, rfl, pr, _, _, _, rfl, rfl, SqT.of hr1, rfl, _, rfl, _, _, rfl, rfl, ?_⟩
                refine ⟨_, rfl, pr, _, _, _, rfl, rfl, SqT.of hr1, rfl, ?_⟩
                refine ⟨_, rfl, pr, _, _, _, rfl, rfl, SqT.of hr1, rfl, _, rfl, _, _, rfl, rfl, ?_⟩
                refine ⟨_, rfl, pr, _, _, _, rfl, rfl, SqT.of hr1, rfl, ?_⟩
                refine ⟨(by show 4 ≤ sizeLine; decide), fun pn hpn => ?_⟩
                exact ⟨pn, _, _, _, _, rfl, Ex.new hpn, upd_same, fin⟩
              · refine ⟨_, rfl, rfl, _, rfl, ?_⟩
                have e2 : decide (V.int ed = V.int 2) = true := by
                  rcases hed with rfl | rfl
                  · exact absurd rfl z0
                  · rfl
                rw [e2]
                refine iteT ?_
                refine ⟨_, rfl, pr, _, _, _, rfl, rfl, SqT.of hr1, rfl, _, rfl, _, _, rfl, rfl, ?_⟩
                refine ⟨_, rfl, pr, _, _, _, rfl, rfl, SqT.of hr1, rfl, ?_⟩
                refine ⟨_, rfl, pr, _, _, _, rfl, rfl, SqT.of hr1, rfl, _, rfl, _, _, rfl, rfl, ?_⟩
                refine ⟨_, rfl, pr, _, _, _, rfl, rfl, SqT.of hr1, rfl, ?_⟩
                refine ⟨(by show 4 ≤ sizeLine; decide), fun pn hpn => ?_⟩
                exact ⟨pn, _, _, _, _, rfl, Ex.new hpn, upd_same, fin⟩
            · have fin := fin2 (by omega)
              have e1 : decide (V.int ed = V.int 0) = false := decide_eq_false fun z => hed (.inl (V.int.inj z))
              have e2 : decide (V.int ed = V.int 2) = false := decide_eq_false fun z => hed (.inr (V.int.inj z))
              rw [e1]
              refine iteF ?_
              refine ⟨_, rfl, rfl, _, rfl, ?_⟩
              rw [e2]
              refine iteF ?_
              refine ⟨_, rfl, pr, _, _, _, rfl, rfl, SqT.of hr1, rfl, ?_⟩
              refine ⟨_, rfl, pr, _, _, _, rfl, rfl, SqT.of hr1, rfl, _, rfl, _, _, rfl, rfl, ?_⟩
              refine ⟨_, rfl, pr, _, _, _, rfl, rfl, SqT.of hr1, rfl, ?_⟩
              refine ⟨_, rfl, pr, _, _, _, rfl, rfl, SqT.of hr1, rfl, _, rfl, _, _, rfl, rfl, ?_⟩
              refine ⟨(by show 4 ≤ sizeLine; decide), fun pn hpn => ?_⟩
              exact ⟨pn, _, _, _, _, rfl, Ex.new hpn, upd_same, fin⟩
          · exact keep
        · exact keep
      · rintro σ2 H2 ⟨pr2, rc, w1, w2, w3, rfl, e2, hrc, hs⟩
        have hl2 := e2 _ _ hl1
        refine ⟨_, rfl, .inl ⟨rfl, _, SqL.of hl2⟩, _, rfl, p, us, _, rfl, rfl, hl2, slineL (by omega), ?_⟩
        have tk : TK H2 (upd H2 p (.lst (us ++ [.ref pr2]))) := TK.lst hl2
        refine ⟨us ++ [.ref pr2], qs ++ [rc], _, _, _, _, _, rfl, ((e.trans e1).trans e2).mut hp, upd_same, ?_, ?_, ?_⟩
        · exact ((hq1.tk (TK.ex e2)).tk tk).snoc ⟨pr2, rfl, tk _ _ hrc⟩
        · rw [List.length_append, hn]
          rfl
        · intro q hq
          rcases List.mem_append.mp hq with h | h
          · exact (hb q h).mono (by omega)
          · rw [List.mem_singleton.mp h]
            exact hs.mono (by omega)
    · rintro σ H' ⟨us, qs, v1, v2, v3, v4, v5, rfl, e, hl, hq, hn, hb⟩
      refine ⟨_, rfl, ?_⟩
      exact q p us qs H' hp e hl hq (by omega) fun x hx => (hb x hx).mono (by omega)

abbrev s_l_points : Stmt := top 7
theorem sc_l_points : FnScope ["rectangles", "found", "left", "top", "right", "bottom", "y", "x"] ["rectangles"] (defScope s_l_points) := ⟨rfl, rfl, rfl, by decide +kernel, rfl, by decide +kernel, by decide +kernel⟩
def spPoints (K : PySem.W.Frag) : Sp := fun vs H Q _ => ∃ a us qs, vs = [.ref a] ∧ SqL K H a us ∧ RcsV H us qs ∧ qs.length ≤ 100 ∧ (∀ q ∈ qs, Small 100000 q) ∧
  ∀ d pts H', H d = none → Ex H H' → H' d = some (.dT (mkd pts)) → pts.Nodup → (∀ x y, (x, y) ∈ pts ↔ ∃ q ∈ qs, inRc q x y) → pts.length ≤ 2500 * qs.length → Q (.ref d) H'
theorem ok_l_points {f : Addr} {fd : FuncData} (F : Fun K "_law_points" "_law_points" s_l_points f fd) (T : Txt K mg) : FnOk P w K mg base CX0 1 f fd ["rectangles"] (spPoints K) := by
  refine F.ok sc_l_points (fun vs H Q E h => ?_) (fun cdv A outer s H vs Q E hr h => ?_)
  · obtain ⟨a, us, qs, rfl, _⟩ := h
    rfl
  · obtain ⟨a, us, qs, rfl, hS, hq, hn, hb, q⟩ := h
    refine ⟨_, (pss_cons (ps_set (i := 1) sc_l_points.nd rfl (by first | exact Or.inl rfl | exact Or.inr rfl) pe_dnewT)
      (pss_cons (ps_for PassesOwn.never rfl (kpiL K (pv 0)) (kpgT K (n := 4) rfl (pgs_cons (pg_name (i := 2) sc_l_points.nd rfl (by first | exact Or.inl rfl | exact Or.inr rfl)) (pgs_cons (pg_name (i := 3) sc_l_points.nd rfl (by first | exact Or.inl rfl | exact Or.inr rfl)) (pgs_cons (pg_name (i := 4) sc_l_points.nd rfl (by first | exact Or.inl rfl | exact Or.inr rfl)) (pgs_cons (pg_name (i := 5) sc_l_points.nd rfl (by first | exact Or.inl rfl | exact Or.inr rfl)) pgs_nil)))))
        (pss_one (ps_for PassesOwn.never rfl (pi_range2 (by rfl) T.range_ (pa_cons (pv 3) (pa_cons (pv 5) pa_nil))) (pg_name (i := 6) sc_l_points.nd rfl (by first | exact Or.inl rfl | exact Or.inr rfl))
          (pss_one (ps_for PassesOwn.never rfl (pi_range2 (by rfl) T.range_ (pa_cons (pv 2) (pa_cons (pv 4) pa_nil))) (pg_name (i := 7) sc_l_points.nd rfl (by first | exact Or.inl rfl | exact Or.inr rfl))
            (pss_one (ps_dput (hu_of hr) (pv 1) (pe_tup (pa_cons (pv 7) (pa_cons (pv 6) pa_nil))) pe_bl rfl)))))))
      (pss_one (ps_ret (pv 1))))), ?_⟩
    intro d hd
    have hlen := hq.length
    refine ⟨_, rfl, a, rfl, ⟨_, ex_l (Ex.new hd) hS⟩, for_list (K := K) (a := a) (xs := us) (fun i σ H' => ∃ v2 v3 v4 v5 v6 v7 pts, σ = [some (.ref a), some (.ref d), v2, v3, v4, v5, v6, v7] ∧ Ex H H' ∧ H' d = some (.dT (mkd pts)) ∧ pts.Nodup ∧
      (∀ x y, (x, y) ∈ pts ↔ ∃ q ∈ qs.take i, inRc q x y) ∧ pts.length ≤ 2500 * i) ?_ ?_ ?_ ?_⟩
    · exact ⟨none, none, none, none, none, none, [], rfl, Ex.new hd, upd_same, List.nodup_nil, fun x y => by simp, by simp⟩
    · rintro i σ H' _ ⟨_, _, _, _, _, _, pts, _, e, _⟩
      exact ex_l e hS
    · rintro i u σ H' hi ⟨v2, v3, v4, v5, v6, v7, pts, rfl, e, hD, nd, mem, ln⟩
      obtain ⟨rc, hrc, pr, rfl, hp⟩ := pr_get hq hi
      have hsm := hb rc (List.mem_of_getElem? hrc)
      obtain ⟨s1, s2, s3, s4, s5, s6, s7, s8⟩ := hsm
      have hi100 : i < 100 := by
        have := (List.getElem?_eq_some_iff.mp hrc).1
        omega
      refine ⟨pr, _, rfl, SqT.of (e _ _ hp), rfl, _, _, rfl, _, _, rfl, _, _, rfl, _, _, rfl, rfl, ?_⟩
      -- for y in range(top, bottom)
      refine ⟨_, rfl, _, rfl, rc.t, rc.b, rfl, ⟨by omega, by omega, by omega, by omega⟩, for_range (lo := rc.t) (n := (rc.b - rc.t).toNat) (fun j σ H' => ∃ v6 v7 pts, σ = [some (.ref a), some (.ref d), some (.int rc.l), some (.int rc.t), some (.int rc.r), some (.int rc.b), v6, v7] ∧ Ex H H' ∧ H' d = some (.dT (mkd pts)) ∧ pts.Nodup ∧
        (∀ x y, (x, y) ∈ pts ↔ (∃ q ∈ qs.take i, inRc q x y) ∨ (rc.l ≤ x ∧ x < rc.r ∧ rc.t ≤ y ∧ y < rc.t + (j : Int))) ∧ pts.length ≤ 2500 * i + 50 * j) ?_ ?_ ?_⟩
      · exact ⟨v6, v7, pts, rfl, e, hD, nd, fun x y => by rw [mem]; constructor; exact .inl; rintro (h | h); exact h; omega, by omega⟩
      · rintro j σ H' hj ⟨v6, v7, pts, rfl, e, hD, nd, mem, ln⟩
        refine ⟨_, rfl, _, rfl, rc.l, rc.r, rfl, ⟨by omega, by omega, by omega, by omega⟩, for_range (lo := rc.l) (n := (rc.r - rc.l).toNat) (fun k σ H' => ∃ v7 pts, σ = [some (.ref a), some (.ref d), some (.int rc.l), some (.int rc.t), some (.int rc.r), some (.int rc.b), some (.int (rc.t + (j : Int))), v7] ∧ Ex H H' ∧ H' d = some (.dT (mkd pts)) ∧ pts.Nodup ∧
          (∀ x y, (x, y) ∈ pts ↔ ((∃ q ∈ qs.take i, inRc q x y) ∨ (rc.l ≤ x ∧ x < rc.r ∧ rc.t ≤ y ∧ y < rc.t + (j : Int))) ∨ (rc.l ≤ x ∧ x < rc.l + (k : Int) ∧ y = rc.t + (j : Int))) ∧ pts.length ≤ 2500 * i + 50 * j + k) ?_ ?_ ?_⟩
        · exact ⟨v7, pts, rfl, e, hD, nd, fun x y => by rw [mem]; constructor; exact .inl; rintro (h | h); exact h; omega, by omega⟩
        · rintro k σ H' hk ⟨v7, pts, rfl, e, hD, nd, mem, ln⟩
          refine ⟨_, rfl, _, rfl, _, rfl, (by show 2 ≤ sizeLine; decide), fun pk hpk => ?_⟩
          have hD2 := (Ex.new (o := .tup [.int (rc.l + (k : Int)), .int (rc.t + (j : Int))]) hpk) _ _ hD
          refine ⟨d, _, rfl, DPut.t (k := ptK (rc.l + (k : Int), rc.t + (j : Int))) hD2 upd_same (by rw [mkd_len]; exact slineL (by omega)), ?_⟩
          refine ⟨_, addP pts (rc.l + (k : Int), rc.t + (j : Int)), rfl, (e.trans (Ex.new hpk)).mut hd, by rw [upd_same, mkd_put]; rfl, nodup_addP nd, fun x y => ?_, ?_⟩
          · rw [mem_addP, mem, or_assoc]
            refine or_congr_right ?_
            constructor
            · rintro (h | h)
              · exact ⟨h.1, by omega, h.2.2⟩
              · injection h with h1 h2
                exact ⟨by omega, by omega, h2⟩
            · rintro ⟨h1, h2, h3⟩
              by_cases h4 : x < rc.l + (k : Int)
              · exact .inl ⟨h1, h4, h3⟩
              · refine .inr (Prod.ext ?_ h3)
                show x = rc.l + (k : Int)
                omega
          · have := len_addP pts (rc.l + (k : Int), rc.t + (j : Int))
            omega
        · rintro σ H' ⟨v7, pts, rfl, e, hD, nd, mem, ln⟩
          refine ⟨_, v7, pts, rfl, e, hD, nd, fun x y => ?_, by omega⟩
          rw [mem, or_assoc]
          refine or_congr_right ?_
          constructor
          · rintro (h | h) <;> exact ⟨by omega, by omega, by omega, by omega⟩
          · rintro ⟨h1, h2, h3, h4⟩
            by_cases h5 : y < rc.t + (j : Int)
            · exact .inl ⟨h1, h2, h3, h5⟩
            · exact .inr ⟨h1, by omega, by omega⟩
      · rintro σ H' ⟨v6, v7, pts, rfl, e, hD, nd, mem, ln⟩
        refine ⟨_, _, _, _, _, _, pts, rfl, e, hD, nd, fun x y => ?_, by omega⟩
        rw [mem]
        constructor
        · rintro (⟨q, h1, h2⟩ | h)
          · exact ⟨q, (mem_take_succ hrc).mpr (.inl h1), h2⟩
          · exact ⟨rc, (mem_take_succ hrc).mpr (.inr rfl), h.1, h.2.1, h.2.2.1, by omega⟩
        · rintro ⟨q, h1, h2⟩
          rcases (mem_take_succ hrc).mp h1 with h1 | rfl
          · exact .inl ⟨q, h1, h2⟩
          · exact .inr ⟨h2.1, h2.2.1, h2.2.2.1, by have := h2.2.2.2; omega⟩
    · rintro σ H' ⟨v2, v3, v4, v5, v6, v7, pts, rfl, e, hD, nd, mem, ln⟩
      rw [hlen, List.take_length] at mem
      exact ⟨_, rfl, q d pts H' hd e hD nd mem (by omega)⟩

abbrev s_l_runs : Stmt := top 8
theorem sc_l_runs : FnScope ["points", "y", "row", "runs", "x", "point"] ["points", "y"] (defScope s_l_runs) := ⟨rfl, rfl, rfl, by decide +kernel, rfl, by decide +kernel, by decide +kernel⟩
def spRuns (K : PySem.W.Frag) : Sp := fun vs H Q _ => ∃ d pts y, vs = [.ref d, .int y] ∧ SrcAt K H d pts ∧ pts.Nodup ∧ pts.length ≤ 300000 ∧
  ∀ p us rs H', H p = none → Ex H H' → H' p = some (.lst us) → PtsV H' us rs → RunsOk rs → (∀ x, inRuns rs x ↔ (x, y) ∈ pts) → rs.length ≤ (pts.filter fun z => z.2 == y).length → Q (.ref p) H'
theorem row_step {pts : List Pt} {i : Nat} {q : Pt} {y : Int} (h : pts[i]? = some q) : ((pts.take (i + 1)).filter fun z => z.2 == y) = ((pts.take i).filter fun z => z.2 == y) ++ (if q.2 = y then [q] else []) := by
  rw [List.take_add_one, h, List.filter_append]
  congr 1
  by_cases e : q.2 = y <;> simp [e]
theorem ok_l_runs {f : Addr} {fd : FuncData} (F : Fun K "_law_runs" "_law_runs" s_l_runs f fd) (T : Txt K mg) : FnOk P w K mg base CX0 1 f fd ["points", "y"] (spRuns K) := by
  refine F.ok sc_l_runs (fun vs H Q E h => ?_) (fun cdv A outer s H vs Q E hr h => ?_)
  · obtain ⟨d, pts, y, rfl, _⟩ := h
    rfl
  · obtain ⟨d, pts, y, rfl, hD, nd, hn, q⟩ := h
    -- behind the comprehension: D holds the xs of the row
    let Cx0 := (cxOf CX0 P w K mg base ["points", "y", "row", "runs", "x", "point"] "_law_runs" (defScope s_l_runs) f cdv A outer s H E).nox
    obtain ⟨tr, ht, hread⟩ : ∃ tr, PSs Cx0 ((defBody s_l_runs).drop 1) tr ∧ ∀ (row : List Int) (pr : Addr) (H2 : Hp), row.Perm ((pts.filter fun z => z.2 == y).map (·.1)) → row.Pairwise (· ≤ ·) → Ex H H2 → H2 pr = some (.lst (row.map V.int)) →
        tr { nx := fun _ H' => Q .non H', rt := Q } [some (.ref d), some (.int y), some (.ref pr), none, none, none] H2 := by
      refine ⟨_, (pss_cons (ps_set (i := 3) sc_l_runs.nd rfl (by first | exact Or.inl rfl | exact Or.inr rfl) (pe_lst pa_nil))
      (pss_cons (ps_for PassesOwn.never rfl (kpiL K (pv 2)) (pg_name (i := 4) sc_l_runs.nd rfl (by first | exact Or.inl rfl | exact Or.inr rfl))
        (pss_one (ps_if (PW.pt (pw_and (pt_cmpR op_gt (pe_callB (klen K) (by rfl) T.len_ PySem.boot_len (pa_cons (pv 3) pa_nil)) pe_int (nomark _)) (pw_and1 (pt_cmpR op_eq (pe_ix (kixT K) (pe_ix (kixL K) (pv 3) (pe_un un_neg pe_int) (fun _ _ => rfl)) pe_int (fun _ _ => rfl)) (pv 4) (nomark _)))))
          (pss_one (ps_asg (pe_tup (pa_cons (pe_ix (kixT K) (pe_ix (kixL K) (pv 3) (pe_un un_neg pe_int) (fun _ _ => rfl)) pe_int (fun _ _ => rfl)) (pa_cons (pe_op op_add (pv 4) pe_int) pa_nil))) (pg_sub (pv 3) (pe_un un_neg pe_int) set_list)))
          (pss_one (ps_expr (pe_bm PySem.F.plainAttrs_list PySem.F.slot_list_append PySem.F.type_list_append mt_append (pv 3) (pa_cons (pe_tup (pa_cons (pv 4) (pa_cons (pe_op op_add (pv 4) pe_int) pa_nil))) pa_nil)))))))
      (pss_one (ps_ret (pv 3))))), ?_⟩
      intro row pr H2 hperm hsort e2 hR
      have mrow : ∀ x, x ∈ row ↔ (x, y) ∈ pts := fun x => by
        rw [hperm.mem_iff, List.mem_map]
        constructor
        · rintro ⟨z, hz, rfl⟩
          rw [List.mem_filter] at hz
          have : z.2 = y := by simpa using hz.2
          rw [← this]
          exact hz.1
        · intro h
          exact ⟨(x, y), List.mem_filter.mpr ⟨h, by simp⟩, rfl⟩
      have hnd : row.Nodup := by
        refine hperm.nodup_iff.mpr ?_
        rw [List.nodup_iff_pairwise_ne, List.pairwise_map]
        refine List.Pairwise.imp_of_mem ?_ (nd.filter _)
        intro a b ha hb hne e
        have h1 : a.2 = y := by simpa using (List.mem_filter.mp ha).2
        have h2 : b.2 = y := by simpa using (List.mem_filter.mp hb).2
        exact hne (Prod.ext e (h1.trans h2.symm))
      have hstrict : row.Pairwise (· < ·) := by
        have := List.Pairwise.and hsort (List.nodup_iff_pairwise_ne.mp hnd)
        exact this.imp fun h => by omega
      have hrf : row.length = (pts.filter fun z => z.2 == y).length := by
        rw [hperm.length_eq, List.length_map]
      have hrl : row.length ≤ 300000 := by
        have h2 := List.length_filter_le (fun z : Pt => z.2 == y) pts
        omega
      -- runs = []
      refine ⟨Nat.zero_le _, fun pb hpb => ?_⟩
      have hbr : pr ≠ pb := fun e => by
        rw [← e, hR] at hpb
        cases hpb
      have hpbH : H pb = none := ex_free e2 hpb
      refine ⟨_, rfl, pr, rfl, ⟨_, SqL.of ((Ex.new hpb) _ _ hR)⟩, for_list (K := K) (a := pr) (xs := row.map V.int) (fun i σ H' => ∃ us rs v5, σ = [some (.ref d), some (.int y), some (.ref pr), some (.ref pb), v5, none] ∧ Ex H2 H' ∧ H' pb = some (.lst us) ∧ PtsV H' us rs ∧ RunsOk rs ∧ (∀ x, inRuns rs x ↔ x ∈ row.take i) ∧ rs.length ≤ i) ?_ ?_ ?_ ?_⟩
      · exact ⟨[], [], none, rfl, Ex.new hpb, upd_same, .nil, .nil, fun x => by simp [inRuns], Nat.le_refl _⟩
      · rintro i σ H' _ ⟨us, rs, v5, rfl, e, _⟩
        exact SqL.of (e _ _ hR)
      · rintro i u σ H' hi ⟨us, rs, v5, rfl, e, hB, hP, hok, hm, hln⟩
        rw [List.getElem?_map] at hi
        cases hx : row[i]? with
        | none =>
          rw [hx] at hi
          cases hi
        | some x =>
          rw [hx] at hi
          cases hi
          have hil : i < row.length := (List.getElem?_eq_some_iff.mp hx).1
          have hbelow : ∀ z ∈ row.take i, z < x := by
            intro z hz
            obtain ⟨j, hj, ej⟩ := List.mem_iff_getElem.mp hz
            rw [List.length_take] at hj
            have hx2 := (List.getElem?_eq_some_iff.mp hx).2
            have := List.pairwise_iff_getElem.mp hstrict j i (by omega) hil (by omega)
            rw [List.getElem_take] at ej
            rw [ej, hx2] at this
            exact this
          have hends := ends_le hok hm hbelow
          have hlen : us.length = rs.length := hP.length
          -- what the turn leaves
          have fin : ∀ (us2 : List V) (rs2 : List Pt) (H3 : Hp), Ex H' H3 → PtsV (upd H3 pb (.lst us2)) us2 rs2 → RunsOk rs2 → (∀ z, inRuns rs2 z ↔ inRuns rs z ∨ z = x) → rs2.length ≤ i + 1 →
              ∃ us rs v5, ([some (.ref d), some (.int y), some (.ref pr), some (.ref pb), some (.int x), none] : L2.St) = [some (.ref d), some (.int y), some (.ref pr), some (.ref pb), v5, none] ∧ Ex H2 (upd H3 pb (.lst us2)) ∧ upd H3 pb (.lst us2) pb = some (.lst us) ∧ PtsV (upd H3 pb (.lst us2)) us rs ∧ RunsOk rs ∧ (∀ x, inRuns rs x ↔ x ∈ row.take (i + 1)) ∧ rs.length ≤ i + 1 := by
            intro us2 rs2 H3 e3 h1 h2 h3 h4
            refine ⟨us2, rs2, _, rfl, (e.trans e3).mut hpb, upd_same, h1, h2, fun z => ?_, h4⟩
            rw [h3, hm, mem_take_succ hx]
          have app : (∀ q ∈ rs, q.2 < x) → ∀ pn, H' pn = none → ∃ us3 rs v5, ([some (.ref d), some (.int y), some (.ref pr), some (.ref pb), some (.int x), none] : L2.St) = [some (.ref d), some (.int y), some (.ref pr), some (.ref pb), v5, none] ∧ Ex H2 (upd (upd H' pn (.tup [.int x, .int (x + 1)])) pb (.lst (us ++ [.ref pn]))) ∧ upd (upd H' pn (.tup [.int x, .int (x + 1)])) pb (.lst (us ++ [.ref pn])) pb = some (.lst us3) ∧
              PtsV (upd (upd H' pn (.tup [.int x, .int (x + 1)])) pb (.lst (us ++ [.ref pn]))) us3 rs ∧ RunsOk rs ∧ (∀ x, inRuns rs x ↔ x ∈ row.take (i + 1)) ∧ rs.length ≤ i + 1 := by
            intro hlt pn hpn
            have k1 := TK.fresh (o := .tup [.int x, .int (x + 1)]) hpn
            have hB2 := (Ex.new (o := .tup [.int x, .int (x + 1)]) hpn) _ _ hB
            have k2 := TK.lst (o := .lst (us ++ [.ref pn])) hB2
            refine fin _ (rs ++ [(x, x + 1)]) _ (Ex.new hpn) (((hP.tk k1).tk k2).snoc ⟨pn, rfl, k2 _ _ upd_same⟩) (runsOk_snoc hok hlt) (fun z => ?_) (by simp; exact hln)
            rw [inRuns_app, inRuns_one]
            constructor
            · rintro (h | h)
              · exact .inl h
              · exact .inr (by omega)
            · rintro (h | h)
              · exact .inl h
              · exact .inr (by omega)
          rcases List.eq_nil_or_concat us with rfl | ⟨ini, vl, rfl⟩
          · -- no run yet
            obtain rfl : rs = [] := List.eq_nil_of_length_eq_zero (by rw [← hlen]; rfl)
            refine ⟨_, rfl, pb, _, rfl, .inl (SqL.of hB), _, _, rfl, rfl, _, rfl, ?_⟩
            refine iteF ?_
            refine ⟨_, rfl, .inl ⟨rfl, _, SqL.of hB⟩, ?_⟩
            refine ⟨_, rfl, _, rfl, _, _, rfl, rfl, (by show 2 ≤ sizeLine; decide), fun pn hpn => ?_⟩
            refine ⟨pb, _, _, rfl, rfl, (Ex.new hpn) _ _ hB, by decide, ?_⟩
            exact app (fun q h => by simp at h) pn hpn
          · rcases List.eq_nil_or_concat rs with rfl | ⟨inr, ⟨rl, rr⟩, rfl⟩
            · simp at hlen
            · have hP2 : PtsV H' ini inr ∧ PtV H' vl (rl, rr) := by
                have g := pr_get hP (i := ini.length) (a := vl) (by simp)
                obtain ⟨b, hb, hv⟩ := g
                have hl2 : ini.length = inr.length := by simpa using hlen
                rw [hl2] at hb
                simp at hb
                rw [hb]
                refine ⟨?_, hv⟩
                have : ∀ {l₁ : List V} {l₂ : List Pt} {a : V} {b : Pt}, Paired (PtV H') (l₁ ++ [a]) (l₂ ++ [b]) → l₁.length = l₂.length → Paired (PtV H') l₁ l₂ := by
                  intro l₁
                  induction l₁ with
                  | nil =>
                    intro l₂ a b _ h
                    cases l₂ with
                    | nil => exact .nil
                    | cons _ _ => simp at h
                  | cons c t ih =>
                    intro l₂ a b hp h
                    cases l₂ with
                    | nil => simp at h
                    | cons c2 t2 =>
                      cases hp with
                      | cons h1 h2 => exact .cons h1 (ih h2 (by simpa using h))
                exact this (by simpa using hP) hl2
              obtain ⟨hPi, pl, rfl, hpl⟩ := hP2
              refine ⟨_, rfl, pb, _, rfl, .inl (SqL.of hB), _, _, rfl, rfl, _, rfl, ?_⟩
              have e0 : decide ((0 : Int) < (((ini.concat (V.ref pl)).length : Nat) : Int)) = true := decide_eq_true (by simp)
              rw [e0]
              refine iteT ?_
              have hB' : H' pb = some (.lst (ini ++ [.ref pl])) := by rw [hB, List.concat_eq_append]
              refine ⟨_, rfl, _, rfl, pb, _, _, _, rfl, rfl, SqL.of hB', atI_last _ _, ?_⟩
              refine ⟨pl, _, _, _, rfl, rfl, SqT.of hpl, rfl, ?_⟩
              refine ⟨_, rfl, rfl, _, rfl, ?_⟩
              have hok' : RunsOk (inr ++ [(rl, rr)]) := by rw [← List.concat_eq_append]; exact hok
              refine ite2 (fun e3 => ?_) (fun e3 => ?_)
              · have hrx : rr = x := V.int.inj (of_decide_eq_true e3)
                -- runs[-1] = (runs[-1][0], x + 1)
                refine ⟨_, rfl, _, rfl, pb, _, _, _, rfl, rfl, SqL.of hB', atI_last _ _, ?_⟩
                refine ⟨pl, _, _, _, rfl, rfl, SqT.of hpl, rfl, ?_⟩
                refine ⟨_, rfl, _, _, rfl, rfl, (by show 2 ≤ sizeLine; decide), fun pn hpn => ?_⟩
                refine ⟨_, rfl, _, rfl, pb, _, _, ini.length, rfl, rfl, (Ex.new hpn) _ _ hB', ?_, ?_⟩
                · unfold ixN
                  rw [if_neg (by decide), if_pos (by simp; omega)]
                  simp
                  omega
                · have k1 := TK.fresh (o := .tup [.int rl, .int (x + 1)]) hpn
                  have hB2 := (Ex.new (o := .tup [.int rl, .int (x + 1)]) hpn) _ _ hB'
                  have hset : (ini ++ [V.ref pl]).set ini.length (.ref pn) = ini ++ [.ref pn] := by simp
                  rw [hset]
                  have k2 := TK.lst (o := .lst (ini ++ [.ref pn])) hB2
                  refine fin _ (inr ++ [(rl, x + 1)]) _ (Ex.new hpn) (((hPi.tk k1).tk k2).snoc ⟨pn, rfl, k2 _ _ upd_same⟩) ?_ (fun z => ?_) (by have := hln; simp at this ⊢; omega)
                  · obtain ⟨b, hb⟩ := hok'
                    exact ⟨b, runs_ext hb (by omega)⟩
                  · rw [inRuns_app, inRuns_one, List.concat_eq_append, inRuns_app, inRuns_one]
                    have hw : rl < rr := by
                      obtain ⟨b, hb⟩ := hok'
                      exact hb.wide (rl, rr) (by simp)
                    constructor
                    · rintro (h | h)
                      · exact .inl (.inl h)
                      · by_cases h5 : z = x
                        · exact .inr h5
                        · exact .inl (.inr ⟨h.1, by omega⟩)
                    · rintro ((h | h) | h)
                      · exact .inl h
                      · exact .inr ⟨h.1, by omega⟩
                      · exact .inr ⟨by omega, by omega⟩
              · have hrx : ¬ rr = x := fun h => e3 (decide_eq_true (by rw [h]))
                refine ⟨_, rfl, .inl ⟨rfl, _, SqL.of hB⟩, ?_⟩
                refine ⟨_, rfl, _, rfl, _, _, rfl, rfl, (by show 2 ≤ sizeLine; decide), fun pn hpn => ?_⟩
                refine ⟨pb, _, _, rfl, rfl, (Ex.new hpn) _ _ hB, slineL (by rw [hlen]; omega), ?_⟩
                refine app (fun q hq => ?_) pn hpn
                have h1 := hends q hq
                obtain ⟨b, hb⟩ := hok'
                rw [List.concat_eq_append] at hq
                rcases List.mem_append.mp hq with h2 | h2
                · -- an earlier run ends before the last one begins
                  have h3 : ∀ {l : List Pt} {b : Int} {q p : Pt}, RunsFrom b (l ++ [p]) → q ∈ l → q.2 < p.1 := by
                    intro l
                    induction l with
                    | nil => intro b q p _ h; simp at h
                    | cons c t ih =>
                      intro b q p hr2 hq2
                      rcases List.mem_cons.mp hq2 with rfl | hq2
                      · cases t with
                        | nil => exact hr2.2.2.1
                        | cons c2 t2 =>
                          have h6 := ih hr2.2.2 (q := c2) (by simp)
                          have h7 : q.2 < c2.1 := hr2.2.2.1
                          have h8 : c2.1 < c2.2 := hr2.2.2.2.1
                          omega
                      · exact ih hr2.2.2 hq2
                  have h4 := h3 hb h2
                  have hw : rl < rr := hb.wide (rl, rr) (by simp)
                  have h5 := hends (rl, rr) (by rw [List.concat_eq_append]; simp)
                  simp only at h4 h5
                  omega
                · rw [List.mem_singleton.mp h2] at h1 ⊢
                  simp only at h1 ⊢
                  omega
      · rintro σ H' ⟨us, rs, v5, rfl, e, hB, hP, hok, hm, hln⟩
        rw [List.length_map, List.take_length] at hm
        rw [List.length_map] at hln
        refine ⟨_, rfl, ?_⟩
        exact q pb us rs H' hpbH (e2.trans e) hB hP hok (fun x => by rw [hm, mrow]) (by omega)
    rcases hD with hD | ⟨us, hS, hU⟩
    · refine ⟨_, pss_cons (ps_set (i := 2) sc_l_runs.nd rfl (by first | exact Or.inl rfl | exact Or.inr rfl) (pe_callB (ksorted K) (by rfl) T.sorted_ bt_sorted (pa_cons (pe_lock (pe_lc (own := [("point", 5)]) rfl sc_l_runs.nd (pi_keys (pv 0)) (blkOk_by (N := ["points", "y", "row", "runs", "x", "point"]) (sc := defScope s_l_runs) (by decide +kernel)) (fun _ _ _ _ _ => (pg_name (i := 5) sc_l_runs.nd rfl (by first | exact Or.inl rfl | exact Or.inr rfl))) (fun _ _ _ _ _ => (pts_one (pt_cmpR op_eq (pe_ix (kixT K) (pv 5) pe_int (fun _ _ => rfl)) (pv 1) (nomark _)))) (fun _ _ _ _ _ => (pe_ix (kixT K) (pv 5) pe_int (fun _ _ => rfl))))) pa_nil))) ht, ?_⟩
      -- row = sorted([point[0] for point in points if point[1] == y])
      refine ⟨d, _, hD, trivial, fun od => ?_⟩
      refine ⟨_, rfl, d, od, rfl, .inr ⟨mkd pts, upd_same, fun D hDn => ?_⟩⟩
      have hDd : D ≠ d := fun e => by
        rw [e, upd_same] at hDn
        cases hDn
      refine lc_keysT (fun i H' => Ex (upd H d (.frz od (.dT (mkd pts)))) H' ∧ H' D = some (.lst ((((pts.take i).filter fun z => z.2 == y).map (·.1)).map V.int))) ⟨Ex.new hDn, upd_same⟩ (fun i H' _ p => p.1 _ _ upd_same) ?_ ?_
      · intro i k v qa H' hk hq p
        obtain ⟨z, hz, rfl⟩ := mkd_get hk
        have hi : i < pts.length := (List.getElem?_eq_some_iff.mp hz).1
        refine ⟨rfl, ?_⟩
        refine ⟨_, rfl, qa, _, _, _, rfl, rfl, SqT.of hq, rfl, ?_⟩
        refine ⟨_, rfl, rfl, _, rfl, ?_⟩
        have st := row_step (y := y) hz
        refine ite2 (fun e => ?_) (fun e => ?_)
        · have ey : z.2 = y := V.int.inj (of_decide_eq_true e)
          rw [if_pos ey] at st
          refine ⟨_, rfl, qa, _, _, _, rfl, rfl, SqT.of hq, rfl, ?_⟩
          refine ⟨_, p.2, ?_, p.1.mut hDn, ?_⟩
          · rw [List.length_map, List.length_map]
            refine Nat.lt_of_le_of_lt (Nat.le_trans (List.length_filter_le _ _) (List.length_take_le _ _)) (slineL (by omega))
          · rw [upd_same, st, List.map_append, List.map_append]
            rfl
        · have ey : ¬ z.2 = y := fun ey => e (decide_eq_true (by rw [← ey]; rfl))
          rw [if_neg ey, List.append_nil] at st
          exact ⟨p.1, by rw [p.2, st]⟩
      · intro H' p
        rw [mkd_len, List.take_length] at p
        refine ⟨p.1 _ _ upd_same, ?_⟩
        have e1 : Ex H (upd H' d (.dT (mkd pts))) := ex_unlock hD p.1
        have hL : upd H' d (.dT (mkd pts)) D = some (.lst (((pts.filter fun z => z.2 == y).map (·.1)).map V.int)) := by rw [upd_ne hDd]; exact p.2
        refine ⟨D, _, rfl, SqL.of hL, fun row pr hperm hsort hpr => ?_⟩
        exact hread row pr _ hperm hsort (e1.trans (Ex.new hpr)) upd_same
    · refine ⟨_, pss_cons (ps_set (i := 2) sc_l_runs.nd rfl (by first | exact Or.inl rfl | exact Or.inr rfl) (pe_callB (ksorted K) (by rfl) T.sorted_ bt_sorted (pa_cons (pe_lc (own := [("point", 5)]) rfl sc_l_runs.nd (kpiL K (pv 0)) (blkOk_by (N := ["points", "y", "row", "runs", "x", "point"]) (sc := defScope s_l_runs) (by decide +kernel)) (fun _ _ _ _ _ => (pg_name (i := 5) sc_l_runs.nd rfl (by first | exact Or.inl rfl | exact Or.inr rfl))) (fun _ _ _ _ _ => (pts_one (pt_cmpR op_eq (pe_ix (kixT K) (pv 5) pe_int (fun _ _ => rfl)) (pv 1) (nomark _)))) (fun _ _ _ _ _ => (pe_ix (kixT K) (pv 5) pe_int (fun _ _ => rfl)))) pa_nil))) ht, ?_⟩
      have hul := hU.length
      refine ⟨_, rfl, d, rfl, ⟨_, hS⟩, fun D hDn => ?_⟩
      refine lc_list (xs := us) (fun i H' => Ex H H' ∧ H' D = some (.lst ((((pts.take i).filter fun z => z.2 == y).map (·.1)).map V.int))) ⟨Ex.new hDn, upd_same⟩ (fun i H' _ p => ex_l p.1 hS) ?_ ?_
      · intro i u H' hu p
        obtain ⟨z, hz, qa, rfl, hq0⟩ := pr_get hU hu
        have hq := p.1 _ _ hq0
        have hi : i < pts.length := (List.getElem?_eq_some_iff.mp hz).1
        refine ⟨rfl, ?_⟩
        refine ⟨_, rfl, qa, _, _, _, rfl, rfl, SqT.of hq, rfl, ?_⟩
        refine ⟨_, rfl, rfl, _, rfl, ?_⟩
        have st := row_step (y := y) hz
        refine ite2 (fun e => ?_) (fun e => ?_)
        · have ey : z.2 = y := V.int.inj (of_decide_eq_true e)
          rw [if_pos ey] at st
          refine ⟨_, rfl, qa, _, _, _, rfl, rfl, SqT.of hq, rfl, ?_⟩
          refine ⟨_, p.2, ?_, p.1.mut hDn, ?_⟩
          · rw [List.length_map, List.length_map]
            refine Nat.lt_of_le_of_lt (Nat.le_trans (List.length_filter_le _ _) (List.length_take_le _ _)) (slineL (by omega))
          · rw [upd_same, st, List.map_append, List.map_append]
            rfl
        · have ey : ¬ z.2 = y := fun ey => e (decide_eq_true (by rw [← ey]))
          rw [if_neg ey, List.append_nil] at st
          exact ⟨p.1, by rw [p.2, st]⟩
      · intro H' p
        rw [hul, List.take_length] at p
        refine ⟨D, _, rfl, SqL.of p.2, fun row pr hperm hsort hpr => ?_⟩
        exact hread row pr _ hperm hsort (p.1.trans (Ex.new hpr)) upd_same

abbrev s_l_form : Stmt := top 9
theorem sc_l_form : FnScope ["points", "rows", "point", "bands", "y", "runs", "form", "top", "bottom", "run"] ["points"] (defScope s_l_form) := ⟨rfl, rfl, rfl, by decide +kernel, rfl, by decide +kernel, by decide +kernel⟩
def spForm (K : PySem.W.Frag) : Sp := fun vs H Q _ => ∃ d pts, vs = [.ref d] ∧ SrcAt K H d pts ∧ pts.Nodup ∧ pts.length ≤ 300000 ∧
  ∀ p us f H', H p = none → Ex H H' → H' p = some (.lst us) → RcsV H' us f → IsForm (fun x y => (x, y) ∈ pts) f → f.length ≤ 300000 → Q (.ref p) H'
theorem ok_l_form {f : Addr} {fd : FuncData} (F : Fun K "_law_form" "_law_form" s_l_form f fd) (T : Txt K mg) (D_l_runs : Def P w K mg base CX0 "_law_runs" 1 ["points", "y"] (spRuns K)) : FnOk P w K mg base CX0 2 f fd ["points"] (spForm K) := by
  refine F.ok sc_l_form (fun vs H Q E h => ?_) (fun cdv A outer s H vs Q E hr h => ?_)
  · obtain ⟨d, pts, rfl, _⟩ := h
    rfl
  · obtain ⟨d, pts, rfl, hD, nd, hn, q⟩ := h
    let Cx0 := (cxOf CX0 P w K mg base ["points", "rows", "point", "bands", "y", "runs", "form", "top", "bottom", "run"] "_law_form" (defScope s_l_form) f cdv A outer s H E).nox
    obtain ⟨tr, ht, hread⟩ : ∃ tr, PSs Cx0 ((defBody s_l_form).drop 2) tr ∧ ∀ (ys : List Int) (rd : Addr) (v2 : Option V) (H1 : Hp), Ex H H1 → H1 rd = some (.dK (mki ys)) → ys.Nodup → (∀ y, y ∈ ys ↔ ∃ x, (x, y) ∈ pts) → ys.length ≤ pts.length →
        tr { nx := fun _ H' => Q .non H', rt := Q } [some (.ref d), some (.ref rd), v2, none, none, none, none, none, none, none] H1 := by
      refine ⟨_, (pss_cons (ps_set (i := 3) sc_l_form.nd rfl (by first | exact Or.inl rfl | exact Or.inr rfl) (pe_lst pa_nil))
      (pss_cons (ps_for PassesOwn.never rfl (kpiL K (pe_callB (ksorted K) (by rfl) T.sorted_ bt_sorted (pa_cons (pe_callTy (call_list_dK rfl) (by rfl) T.list_ bt_list (pa_cons (pv 1) pa_nil)) pa_nil))) (pg_name (i := 4) sc_l_form.nd rfl (by first | exact Or.inl rfl | exact Or.inr rfl))
        (pss_cons (ps_set (i := 5) sc_l_form.nd rfl (by first | exact Or.inl rfl | exact Or.inr rfl) (pe_call D_l_runs.ok (hr.mono (by decide)) rfl D_l_runs.mgf D_l_runs.kp D_l_runs.b .nil pass0 (pa_cons (pv 0) (pa_cons (pv 4) pa_nil))))
        (pss_one (ps_if (PW.pt (pw_and (pt_cmpR op_gt (pe_callB (klen K) (by rfl) T.len_ PySem.boot_len (pa_cons (pv 3) pa_nil)) pe_int (nomark _)) (pw_and (pt_cmpR op_eq (pe_ix (kixT K) (pe_ix (kixL K) (pv 3) (pe_un un_neg pe_int) (fun _ _ => rfl)) pe_int (fun _ _ => rfl)) (pv 4) (nomark _)) (pw_and1 (pt_cmpR (keqD K hr.units) (pe_ix (kixT K) (pe_ix (kixL K) (pv 3) (pe_un un_neg pe_int) (fun _ _ => rfl)) pe_int (fun _ _ => rfl)) (pv 5) (nomark _))))))
          (pss_one (ps_asg (pe_tup (pa_cons (pe_ix (kixT K) (pe_ix (kixL K) (pv 3) (pe_un un_neg pe_int) (fun _ _ => rfl)) pe_int (fun _ _ => rfl)) (pa_cons (pe_op op_add (pv 4) pe_int) (pa_cons (pv 5) pa_nil)))) (pg_sub (pv 3) (pe_un un_neg pe_int) set_list)))
          (pss_one (ps_expr (pe_bm PySem.F.plainAttrs_list PySem.F.slot_list_append PySem.F.type_list_append mt_append (pv 3) (pa_cons (pe_tup (pa_cons (pv 4) (pa_cons (pe_op op_add (pv 4) pe_int) (pa_cons (pv 5) pa_nil)))) pa_nil))))))))
      (pss_cons (ps_set (i := 6) sc_l_form.nd rfl (by first | exact Or.inl rfl | exact Or.inr rfl) (pe_lst pa_nil))
      (pss_cons (ps_for PassesOwn.never rfl (kpiL K (pv 3)) (kpgT K (n := 3) rfl (pgs_cons (pg_name (i := 7) sc_l_form.nd rfl (by first | exact Or.inl rfl | exact Or.inr rfl)) (pgs_cons (pg_name (i := 8) sc_l_form.nd rfl (by first | exact Or.inl rfl | exact Or.inr rfl)) (pgs_cons (pg_name (i := 5) sc_l_form.nd rfl (by first | exact Or.inl rfl | exact Or.inr rfl)) pgs_nil))))
        (pss_one (ps_set (i := 6) sc_l_form.nd rfl (by first | exact Or.inl rfl | exact Or.inr rfl) (pe_op op_cat (pv 6) (pe_lc (own := [("run", 9)]) (tt := tYes) rfl sc_l_form.nd (kpiL K (pv 5)) (blkOk_by (N := ["points", "rows", "point", "bands", "y", "runs", "form", "top", "bottom", "run"]) (sc := defScope s_l_form) (by decide +kernel)) (fun _ _ _ _ _ => (pg_name (i := 9) sc_l_form.nd rfl (by first | exact Or.inl rfl | exact Or.inr rfl))) (fun _ _ _ _ _ => pts_nil) (fun _ _ _ _ _ => (pe_tup (pa_cons (pe_ix (kixT K) (pv 9) pe_int (fun _ _ => rfl)) (pa_cons (pv 7) (pa_cons (pe_ix (kixT K) (pv 9) pe_int (fun _ _ => rfl)) (pa_cons (pv 8) pa_nil)))))))))))
      (pss_one (ps_ret (pv 6))))))), ?_⟩
      intro ys rd v2 H1 e hR1 ndy my ly
      -- bands = []
      refine ⟨Nat.zero_le _, fun pb hpb => ?_⟩
      have hpbH : H pb = none := ex_free e hpb
      have e1 := Ex.new (o := .lst []) hpb
      -- for y in sorted(list(rows))
      refine ⟨_, rfl, rd, _, rfl, e1 _ _ hR1, fun pk hpk => ?_⟩
      have e2 := Ex.new (o := .lst ((mki ys).map fun kv => kV kv.1)) hpk
      refine ⟨pk, ys, rfl, SqL.of (by rw [upd_same, mki_keys]), fun yy ps hperm hsort hps => ?_⟩
      have e3 := Ex.new (o := .lst (yy.map V.int)) hps
      have hps1 : upd (upd (upd H1 pb (.lst [])) pk (.lst ((mki ys).map fun kv => kV kv.1))) ps (.lst (yy.map V.int)) ps = some (.lst (yy.map V.int)) := upd_same
      have hpb1 := ((e2.trans e3)) _ _ (show upd H1 pb (.lst []) pb = some (.lst []) from upd_same)
      have hD2 := ((hD.mono e).mono e1).mono (e2.trans e3)
      have hps_pb : ps ≠ pb := fun z => by
        rw [z] at hps
        have := e2 _ _ (show upd H1 pb (.lst []) pb = some (.lst []) from upd_same)
        rw [this] at hps
        cases hps
      have eAll : Ex H _ := ((e.trans e1).trans e2).trans e3
      generalize upd (upd (upd H1 pb (.lst [])) pk (.lst ((mki ys).map fun kv => kV kv.1))) ps (.lst (yy.map V.int)) = H2 at hps1 hpb1 hD2 eAll
      have ndyy : yy.Nodup := hperm.nodup_iff.mpr ndy
      have myy : ∀ y, y ∈ yy ↔ ∃ x, (x, y) ∈ pts := fun y => by rw [hperm.mem_iff, my]
      have hstrict : yy.Pairwise (· < ·) := by
        have := List.Pairwise.and hsort (List.nodup_iff_pairwise_ne.mp ndyy)
        exact this.imp fun h => by omega
      have hsum := sum_rows ndyy pts
      refine ⟨_, rfl, ⟨_, SqL.of hps1⟩, for_list (K := K) (a := ps) (xs := yy.map V.int) (fun i σ H' => ∃ v2 v4 v5 us bs, σ = [some (.ref d), some (.ref rd), v2, some (.ref pb), v4, v5, none, none, none, none] ∧ Ex H H' ∧ SrcAt K H' d pts ∧ H' ps = some (.lst (yy.map V.int)) ∧ H' pb = some (.lst us) ∧ Paired (BdV pb H') us bs ∧ BandsOk bs ∧
        (∀ x y, inBands bs x y ↔ (x, y) ∈ pts ∧ y ∈ yy.take i) ∧ (formOf bs).length ≤ ((yy.take i).map fun y => (pts.filter fun z => z.2 == y).length).sum) ?_ ?_ ?_ ?_⟩
      · exact ⟨_, none, none, [], [], rfl, eAll, hD2, hps1, hpb1, .nil, ⟨0, trivial⟩, fun x y => by simp [inBands], by simp [formOf]⟩
      · rintro i σ H' _ ⟨v2, v4, v5, us, bs, rfl, h1, h2, h3, _⟩
        exact SqL.of h3
      · rintro i u σ H' hi ⟨v2, v4, v5, us, bs, rfl, he, hDd, hPs, hB, hP, hok, hm, hln⟩
        rw [List.getElem?_map] at hi
        cases hy : yy[i]? with
        | none =>
          rw [hy] at hi
          cases hi
        | some y =>
          rw [hy] at hi
          cases hi
          have hil : i < yy.length := (List.getElem?_eq_some_iff.mp hy).1
          have hbelow : ∀ z ∈ yy.take i, z < y := by
            intro z hz
            obtain ⟨j, hj, ej⟩ := List.mem_iff_getElem.mp hz
            rw [List.length_take] at hj
            have hx2 := (List.getElem?_eq_some_iff.mp hy).2
            have := List.pairwise_iff_getElem.mp hstrict j i (by omega) hil (by omega)
            rw [List.getElem_take] at ej
            rw [ej, hx2] at this
            exact this
          have hsumi : ((yy.take (i + 1)).map fun y => (pts.filter fun z => z.2 == y).length).sum = ((yy.take i).map fun y => (pts.filter fun z => z.2 == y).length).sum + (pts.filter fun z => z.2 == y).length := by
            rw [List.take_add_one, hy, List.map_append, List.sum_append]
            simp
          have hsumle : ((yy.take (i + 1)).map fun y => (pts.filter fun z => z.2 == y).length).sum ≤ pts.length := Nat.le_trans (sum_take _ _) hsum
          have hlen : us.length = bs.length := hP.length
          have hbl : bs.length ≤ (formOf bs).length := by
            have : ∀ l : List Bd, (∀ d ∈ l, d.rs ≠ []) → l.length ≤ (formOf l).length := by
              intro l
              induction l with
              | nil => intro _; simp
              | cons c t ih =>
                intro h
                have h1 := ih fun d hd => h d (by simp [hd])
                have h2 := List.length_pos_iff.mpr (h c (by simp))
                have e : formOf (c :: t) = bandRc c ++ formOf t := by unfold formOf; simp
                rw [e, List.length_append, bandRc_len, List.length_cons]
                omega
            obtain ⟨y0, hb0⟩ := hok
            exact this bs fun d hd => (hb0.each d hd).2.1
          -- runs = _law_runs(points, y)
          refine ⟨_, rfl, _, rfl, d, pts, y, rfl, hDd, nd, hn, fun pr ur rs H3 hpr e3 hR3 hPr hrok hrm hrl => ?_⟩
          have hrne : rs ≠ [] := by
            obtain ⟨x, hx⟩ := (myy y).mp (List.mem_of_getElem? hy)
            intro z
            have := (hrm x).mpr hx
            rw [z] at this
            exact inRuns_nil this
          have hpr_pb : pr ≠ pb := fun z => by
            rw [z, hB] at hpr
            cases hpr
          have hB3 := e3 _ _ hB
          have hP3 : Paired (BdV pb H3) us bs := Paired.mapP hP fun _ _ h => h.to (TK.ex e3) (Xb.ex e3)
          -- what the turn leaves
          have fin : ∀ (us2 : List V) (bs2 : List Bd) (H4 : Hp), Ex H3 H4 → Paired (BdV pb (upd H4 pb (.lst us2))) us2 bs2 → BandsOk bs2 → (∀ x z, inBands bs2 x z ↔ inBands bs x z ∨ (inRuns rs x ∧ z = y)) → (formOf bs2).length ≤ (formOf bs).length + rs.length →
              ∃ v2' v4 v5 us bs, ([some (.ref d), some (.ref rd), v2, some (.ref pb), some (.int y), some (.ref pr), none, none, none, none] : L2.St) = [some (.ref d), some (.ref rd), v2', some (.ref pb), v4, v5, none, none, none, none] ∧ Ex H (upd H4 pb (.lst us2)) ∧ SrcAt K (upd H4 pb (.lst us2)) d pts ∧ upd H4 pb (.lst us2) ps = some (.lst (yy.map V.int)) ∧ upd H4 pb (.lst us2) pb = some (.lst us) ∧ Paired (BdV pb (upd H4 pb (.lst us2))) us bs ∧ BandsOk bs ∧
                (∀ x y, inBands bs x y ↔ (x, y) ∈ pts ∧ y ∈ yy.take (i + 1)) ∧ (formOf bs).length ≤ ((yy.take (i + 1)).map fun y => (pts.filter fun z => z.2 == y).length).sum := by
            intro us2 bs2 H4 e4 h1 h2 h3 h4
            refine ⟨v2, _, _, us2, bs2, rfl, ((he.trans e3).trans e4).mut hpbH, ?_, ?_, upd_same, h1, h2, fun x z => ?_, by omega⟩
            · exact hD.mono (((he.trans e3).trans e4).mut hpbH)
            · rw [upd_ne hps_pb]
              exact (e3.trans e4) _ _ hPs
            · rw [h3, hm, mem_take_succ hy, hrm]
              constructor
              · rintro (h | h)
                · exact ⟨h.1, .inl h.2⟩
                · rw [h.2]
                  exact ⟨h.1, .inr rfl⟩
              · rintro ⟨h, h6 | h6⟩
                · exact .inl ⟨h, h6⟩
                · rw [h6] at h
                  exact .inr ⟨h, h6⟩
          have app : (∀ dd, bs.getLast? = some dd → dd.b ≤ y ∧ (dd.b = y → dd.rs ≠ rs)) → ∀ pn, H3 pn = none → ∃ v2' v4 v5 us3 bs, ([some (.ref d), some (.ref rd), v2, some (.ref pb), some (.int y), some (.ref pr), none, none, none, none] : L2.St) = [some (.ref d), some (.ref rd), v2', some (.ref pb), v4, v5, none, none, none, none] ∧ Ex H (upd (upd H3 pn (.tup [.int y, .int (y + 1), .ref pr])) pb (.lst (us ++ [.ref pn]))) ∧ SrcAt K (upd (upd H3 pn (.tup [.int y, .int (y + 1), .ref pr])) pb (.lst (us ++ [.ref pn]))) d pts ∧ upd (upd H3 pn (.tup [.int y, .int (y + 1), .ref pr])) pb (.lst (us ++ [.ref pn])) ps = some (.lst (yy.map V.int)) ∧
                upd (upd H3 pn (.tup [.int y, .int (y + 1), .ref pr])) pb (.lst (us ++ [.ref pn])) pb = some (.lst us3) ∧ Paired (BdV pb (upd (upd H3 pn (.tup [.int y, .int (y + 1), .ref pr])) pb (.lst (us ++ [.ref pn])))) us3 bs ∧ BandsOk bs ∧
                (∀ x y, inBands bs x y ↔ (x, y) ∈ pts ∧ y ∈ yy.take (i + 1)) ∧ (formOf bs).length ≤ ((yy.take (i + 1)).map fun y => (pts.filter fun z => z.2 == y).length).sum := by
            intro hlast pn hpn
            have k1 := TK.fresh (o := .tup [.int y, .int (y + 1), .ref pr]) hpn
            have e4 := Ex.new (o := .tup [.int y, .int (y + 1), .ref pr]) hpn
            have hB4 := e4 _ _ hB3
            have k2 := TK.lst (o := .lst (us ++ [.ref pn])) hB4
            have npb : pn ≠ pb := fun z => by
              rw [z, hB3] at hpn
              cases hpn
            refine fin _ (bs ++ [⟨y, y + 1, rs⟩]) _ e4 ?_ ?_ (fun x z => ?_) ?_
            · refine (Paired.mapP hP3 fun _ _ h => h.to (k1.trans k2) ((Xb.ex e4).trans Xb.upd)).snoc ⟨pn, pr, ur, rfl, npb, hpr_pb, ?_, ?_, hPr.tk (k1.trans k2)⟩
              · exact k2 _ _ upd_same
              · rw [upd_ne hpr_pb]
                exact e4 _ _ hR3
            · obtain ⟨y0, hb0⟩ := hok
              cases bs with
              | nil => exact ⟨y, Int.le_refl _, fun _ z => hrne z.symm, by show y < y + 1; omega, hrne, hrok, trivial⟩
              | cons c t => exact ⟨y0, bands_snoc hb0 hlast (fun z => by cases z) hrne hrok⟩
            · rw [inBands_app, inBands_one]
              constructor
              · rintro (h | h)
                · exact .inl h
                · exact .inr ⟨h.2.2, by have := h.1; have := h.2.1; dsimp only at *; omega⟩
              · rintro (h | h)
                · exact .inl h
                · exact .inr ⟨by dsimp only; omega, by dsimp only; omega, h.1⟩
            · rw [formOf_app, formOf_one, List.length_append, bandRc_len]
              dsimp only
              omega
          rcases List.eq_nil_or_concat us with rfl | ⟨ini, vl, rfl⟩
          · obtain rfl : bs = [] := List.eq_nil_of_length_eq_zero (by rw [← hlen]; rfl)
            refine ⟨_, rfl, pb, _, rfl, .inl (SqL.of hB3), _, _, rfl, rfl, _, rfl, ?_⟩
            refine iteF ?_
            refine ⟨_, rfl, .inl ⟨rfl, _, SqL.of hB3⟩, ?_⟩
            refine ⟨_, rfl, _, rfl, _, _, rfl, rfl, _, rfl, (by show 3 ≤ sizeLine; decide), fun pn hpn => ?_⟩
            refine ⟨pb, _, _, rfl, rfl, (Ex.new hpn) _ _ hB3, by decide, ?_⟩
            exact app (fun dd h => by simp at h) pn hpn
          · rcases List.eq_nil_or_concat bs with rfl | ⟨inr, bd, rfl⟩
            · simp at hlen
            · rw [List.concat_eq_append, List.concat_eq_append] at *
              obtain ⟨hPi, ql, rl, ul, rfl, nq, nr, hq1, hr1, hpl⟩ := pr_split hP3
              refine ⟨_, rfl, pb, _, rfl, .inl (SqL.of hB3), _, _, rfl, rfl, _, rfl, ?_⟩
              have e0 : decide ((0 : Int) < (((ini ++ [V.ref ql]).length : Nat) : Int)) = true := decide_eq_true (by simp)
              rw [e0]
              refine iteT ?_
              refine ⟨_, rfl, _, rfl, pb, _, _, _, rfl, rfl, SqL.of hB3, atI_last _ _, ?_⟩
              refine ⟨ql, _, _, _, rfl, rfl, SqT.of hq1, rfl, ?_⟩
              refine ⟨_, rfl, rfl, _, rfl, ?_⟩
              have hbd : bd.t < bd.b ∧ bd.rs ≠ [] ∧ RunsOk bd.rs := by
                obtain ⟨y0, hb0⟩ := hok
                exact hb0.each bd (by simp)
              have hend : bd.b ≤ y := by
                obtain ⟨x, hx⟩ := runs_some hbd.2.2 hbd.2.1
                have h1 := (hm x (bd.b - 1)).mp (inBands_app.mpr (.inr (inBands_one.mpr ⟨by have := hbd.1; omega, by omega, hx⟩)))
                have := hbelow _ h1.2
                omega
              -- the way where the row begins a new band
              have other : (bd.b = y → bd.rs ≠ rs) → ∀ pn, H3 pn = none → _ := fun hne pn hpn => app (fun dd h => by
                rw [List.getLast?_concat] at h
                cases h
                exact ⟨hend, hne⟩) pn hpn
              refine ite2 (fun e5 => ?_) (fun e5 => ?_)
              · have hby : bd.b = y := V.int.inj (of_decide_eq_true e5)
                refine ⟨_, rfl, _, rfl, pb, _, _, _, rfl, rfl, SqL.of hB3, atI_last _ _, ?_⟩
                refine ⟨ql, _, _, _, rfl, rfl, SqT.of hq1, rfl, ?_⟩
                refine ⟨_, rfl, ptsD bd.rs, ptsD rs, dp_pts (SqL.of hr1) hpl, dp_pts (SqL.of hR3) hPr, eqs_pts.shaped (by decide) _, eqs_pts.shaped (by decide) _, _, rfl, ?_⟩
                rw [eqs_pts.1]
                refine ite2 (fun e6 => ?_) (fun e6 => ?_)
                · have hrs : bd.rs = rs := of_decide_eq_true e6
                  -- bands[-1] = (bands[-1][0], y + 1, runs)
                  refine ⟨_, rfl, _, rfl, pb, _, _, _, rfl, rfl, SqL.of hB3, atI_last _ _, ?_⟩
                  refine ⟨ql, _, _, _, rfl, rfl, SqT.of hq1, rfl, ?_⟩
                  refine ⟨_, rfl, _, _, rfl, rfl, _, rfl, (by show 3 ≤ sizeLine; decide), fun pn hpn => ?_⟩
                  have e4 := Ex.new (o := .tup [.int bd.t, .int (y + 1), .ref pr]) hpn
                  have hB4 := e4 _ _ hB3
                  have npb : pn ≠ pb := fun z => by
                    rw [z, hB3] at hpn
                    cases hpn
                  refine ⟨_, rfl, _, rfl, pb, _, _, ini.length, rfl, rfl, hB4, ?_, ?_⟩
                  · rw [List.length_append]
                    exact ixN_last _
                  · have hset : (ini ++ [V.ref ql]).set ini.length (.ref pn) = ini ++ [.ref pn] := by simp
                    rw [hset]
                    have k1 := TK.fresh (o := .tup [.int bd.t, .int (y + 1), .ref pr]) hpn
                    have k2 := TK.lst (o := .lst (ini ++ [.ref pn])) hB4
                    refine fin _ (inr ++ [⟨bd.t, y + 1, rs⟩]) _ e4 ?_ ?_ (fun x z => ?_) ?_
                    · refine (Paired.mapP hPi fun _ _ h => h.to (k1.trans k2) ((Xb.ex e4).trans Xb.upd)).snoc ⟨pn, pr, ur, rfl, npb, hpr_pb, ?_, ?_, hPr.tk (k1.trans k2)⟩
                      · exact k2 _ _ upd_same
                      · rw [upd_ne hpr_pb]
                        exact e4 _ _ hR3
                    · obtain ⟨y0, hb0⟩ := hok
                      have := bands_ext (b := y + 1) hb0 (by omega)
                      rw [hrs] at this
                      exact ⟨y0, this⟩
                    · rw [inBands_app, inBands_one, inBands_app, inBands_one, hrs]
                      constructor
                      · rintro (h | h)
                        · exact .inl (.inl h)
                        · by_cases h7 : z = y
                          · exact .inr ⟨h.2.2, h7⟩
                          · exact .inl (.inr ⟨h.1, by have := h.2.1; dsimp only at this; omega, h.2.2⟩)
                      · rintro ((h | h) | h)
                        · exact .inl h
                        · exact .inr ⟨h.1, by have := h.2.1; dsimp only; omega, h.2.2⟩
                        · exact .inr ⟨by have := hbd.1; dsimp only; omega, by dsimp only; omega, h.1⟩
                    · rw [formOf_app, formOf_one, formOf_app, formOf_one, List.length_append, List.length_append, bandRc_len, bandRc_len, hrs]
                      dsimp only
                      omega
                · have hrs : ¬ bd.rs = rs := fun z => e6 (decide_eq_true z)
                  refine ⟨_, rfl, .inl ⟨rfl, _, SqL.of hB3⟩, ?_⟩
                  refine ⟨_, rfl, _, rfl, _, _, rfl, rfl, _, rfl, (by show 3 ≤ sizeLine; decide), fun pn hpn => ?_⟩
                  refine ⟨pb, _, _, rfl, rfl, (Ex.new hpn) _ _ hB3, slineL (by rw [hlen]; omega), ?_⟩
                  exact other (fun _ => hrs) pn hpn
              · have hby : ¬ bd.b = y := fun z => e5 (decide_eq_true (by rw [z]))
                refine ⟨_, rfl, .inl ⟨rfl, _, SqL.of hB3⟩, ?_⟩
                refine ⟨_, rfl, _, rfl, _, _, rfl, rfl, _, rfl, (by show 3 ≤ sizeLine; decide), fun pn hpn => ?_⟩
                refine ⟨pb, _, _, rfl, rfl, (Ex.new hpn) _ _ hB3, slineL (by rw [hlen]; omega), ?_⟩
                exact other (fun z => absurd z hby) pn hpn
      · rintro σ H' ⟨v2, v4, v5, us, bs, rfl, he, hDd, hPs, hB, hP, hok, hm, hln⟩
        rw [List.length_map, List.take_length] at hm hln
        have hfl : (formOf bs).length ≤ 300000 := by omega
        have hlen : us.length = bs.length := hP.length
        -- form = []
        refine ⟨Nat.zero_le _, fun pf hpf => ?_⟩
        have e4 := Ex.new (o := .lst []) hpf
        refine ⟨_, rfl, pb, rfl, ⟨_, SqL.of (e4 _ _ hB)⟩, for_list (K := K) (a := pb) (xs := us) (fun i σ H2 => ∃ v5 v7 v8 pf uf, σ = [some (.ref d), some (.ref rd), v2, some (.ref pb), v4, v5, some (.ref pf), v7, v8, none] ∧ Ex H' H2 ∧ H' pf = none ∧ H2 pf = some (.lst uf) ∧ RcsV H2 uf (formOf (bs.take i))) ?_ ?_ ?_ ?_⟩
        · exact ⟨v5, none, none, pf, [], rfl, e4, hpf, upd_same, by simp [formOf]; exact .nil⟩
        · rintro i σ H2 _ ⟨v5, v7, v8, pf, uf, rfl, e, _⟩
          exact SqL.of (e _ _ hB)
        · rintro i u σ H2 hi ⟨v5, v7, v8, pf, uf, rfl, e, hpf0, hpf1, hRf⟩
          obtain ⟨bd, hbd, qb, rb, ub, rfl, nq, nr, hq1, hr1, hpl⟩ := pr_get hP hi
          refine ⟨qb, _, rfl, SqT.of (e _ _ hq1), rfl, _, _, rfl, _, _, rfl, _, _, rfl, rfl, ?_⟩
          have hform : formOf (bs.take (i + 1)) = formOf (bs.take i) ++ bandRc bd := by
            rw [List.take_add_one, hbd, formOf_app]
            congr 1
            exact formOf_one bd
          have hflen : (formOf (bs.take (i + 1))).length ≤ (formOf bs).length := by
            have h1 := congrArg List.length (congrArg formOf (List.take_append_drop (i + 1) bs))
            rw [formOf_app, List.length_append] at h1
            omega
          rw [hform, List.length_append, bandRc_len] at hflen
          have hubl : ub.length = bd.rs.length := hpl.length
          have hufl : uf.length = (formOf (bs.take i)).length := hRf.length
          refine ⟨_, rfl, _, rfl, rb, rfl, ⟨_, SqL.of (e _ _ hr1)⟩, fun D hDn => lc_list (xs := ub) (fun j H3 => Ex H2 H3 ∧ ∃ uc, H3 D = some (.lst uc) ∧ RcsV H3 uc ((bandRc bd).take j)) ⟨Ex.new hDn, [], upd_same, .nil⟩ (fun j H3 _ p => SqL.of (p.1 _ _ (e _ _ hr1))) ?_ ?_⟩
          · rintro j x H3 hx ⟨e5, uc, hD3, hRc⟩
            obtain ⟨qq, hqq, pq, rfl, hpq⟩ := pr_get hpl hx
            have hpq3 := (TK.ex (e.trans e5)) _ _ hpq
            have hjl : j < bd.rs.length := (List.getElem?_eq_some_iff.mp hqq).1
            have hb1 : (bandRc bd)[j]? = some ⟨qq.1, bd.t, qq.2, bd.b⟩ := by
              unfold bandRc
              rw [List.getElem?_map, hqq]
              rfl
            have hucl : uc.length = ((bandRc bd).take j).length := hRc.length
            refine ⟨rfl, ?_⟩
            refine lcY ?_
            refine ⟨_, rfl, pq, _, _, _, rfl, rfl, SqT.of hpq3, rfl, ?_⟩
            refine ⟨_, rfl, _, rfl, pq, _, _, _, rfl, rfl, SqT.of hpq3, rfl, ?_⟩
            refine ⟨_, rfl, (by show 4 ≤ sizeLine; decide), fun pn hpn => ?_⟩
            have e6 := Ex.new (o := .tup [.int qq.1, .int bd.t, .int qq.2, .int bd.b]) hpn
            refine ⟨uc, e6 _ _ hD3, ?_, (e5.trans e6).mut hDn, uc ++ [.ref pn], upd_same, ?_⟩
            · refine slineL ?_
              rw [hucl]
              have := List.length_take_le' j (bandRc bd)
              rw [bandRc_len] at this
              omega
            · have k1 := TK.ex e6
              have k2 := TK.lst (o := .lst (uc ++ [.ref pn])) (e6 _ _ hD3)
              rw [List.take_add_one, hb1]
              exact ((hRc.tk k1).tk k2).snoc ⟨pn, rfl, k2 _ _ upd_same⟩
          · rintro H3 ⟨e5, uc, hD3, hRc⟩
            rw [hubl, ← bandRc_len, List.take_length] at hRc
            have hucl : uc.length = bd.rs.length := by rw [hRc.length, bandRc_len]
            refine ⟨pf, D, uf, uc, rfl, rfl, e5 _ _ hpf1, hD3, sline (by omega), fun pn hpn => ?_⟩
            have e6 := Ex.new (o := .lst (uf ++ uc)) hpn
            refine ⟨_, _, _, pn, uf ++ uc, rfl, (e.trans e5).trans e6, ex_free (e.trans e5) hpn, upd_same, ?_⟩
            rw [hform]
            exact pr_append (hRf.tk (TK.ex (e5.trans e6))) (hRc.tk (TK.ex e6))
        · rintro σ H2 ⟨v5, v7, v8, pf, uf, rfl, e, hpf0, hpf1, hRf⟩
          rw [hlen, List.take_length] at hRf
          refine ⟨_, rfl, ?_⟩
          obtain ⟨y0, hb0⟩ := hok
          refine q pf uf (formOf bs) H2 (ex_free he hpf0) (he.trans e) hpf1 hRf ⟨y0, bs, hb0, fun x y => ?_, rfl⟩ hfl
          rw [hm]
          constructor
          · exact fun h => h.1
          · exact fun h => ⟨h, (myy y).mpr ⟨x, h⟩⟩
    rcases hD with hD | ⟨us, hS, hU⟩
    · refine ⟨_, pss_cons (ps_set (i := 1) sc_l_form.nd rfl (by first | exact Or.inl rfl | exact Or.inr rfl) pe_dnewK) (pss_cons (ps_lock (ps_for PassesOwn.never rfl (pi_keys (pv 0)) (pg_name (i := 2) sc_l_form.nd rfl (by first | exact Or.inl rfl | exact Or.inr rfl))
        (pss_one (ps_dput (hu_of hr) (pv 1) (pe_ix (kixT K) (pv 2) pe_int (fun _ _ => rfl)) pe_bl rfl)))) ht), ?_⟩
      intro rd hrd
      have hrd_d : rd ≠ d := fun e => by
        rw [e, hD] at hrd
        cases hrd
      have e0 : Ex H (upd H rd (.dK [])) := Ex.new hrd
      have hR0 : upd H rd (.dK []) rd = some (.dK []) := upd_same
      refine ⟨d, _, e0 _ _ hD, trivial, fun od => ?_⟩
      refine ⟨_, rfl, d, od, rfl, .inr ⟨mkd pts, upd_same, ?_⟩⟩
      refine for_keysT (fun i σ H' => ∃ ys v2, σ = [some (.ref d), some (.ref rd), v2, none, none, none, none, none, none, none] ∧ Ex H (upd H' d (.dT (mkd pts))) ∧ H' d = some (.frz od (.dT (mkd pts))) ∧ H' rd = some (.dK (mki ys)) ∧ ys.Nodup ∧ (∀ y, y ∈ ys ↔ ∃ x, (x, y) ∈ pts.take i) ∧ ys.length ≤ i) ?_ ?_ ?_ ?_
      · refine ⟨[], none, rfl, ?_, upd_same, ?_, List.nodup_nil, fun y => by simp, Nat.le_refl _⟩
        · intro b o hb
          by_cases z : b = d
          · rw [z] at hb ⊢
            rw [hD] at hb
            rw [upd_same]
            exact hb
          · rw [upd_ne z, upd_ne z, upd_ne (ne_of_none hb hrd)]
            exact hb
        · rw [upd_ne hrd_d]
          exact hR0
      · rintro i σ H' _ ⟨ys, v2, _, _, h, _⟩
        exact h
      · rintro i k v qa σ H' hk hq ⟨ys, v2, rfl, e, hF, hR, ndy, my, ly⟩
        obtain ⟨z, hz, rfl⟩ := mkd_get hk
        have hi : i < pts.length := (List.getElem?_eq_some_iff.mp hz).1
        refine ⟨_, rfl, _, rfl, qa, _, _, _, rfl, rfl, SqT.of hq, rfl, ?_⟩
        refine ⟨rd, _, rfl, DPut.k (k := Sum.inl z.2) hR (by rw [mki_len]; exact slineL (by omega)), ?_⟩
        refine ⟨addI ys z.2, _, rfl, ?_, ?_, ?_, nodup_addI ndy, fun y => ?_, ?_⟩
        · intro b o hb
          have hbr : b ≠ rd := ne_of_none hb hrd
          by_cases zz : b = d
          · rw [zz] at hb ⊢
            rw [hD] at hb
            rw [upd_same]
            exact hb
          · have := e b o hb
            rw [upd_ne zz] at this
            rw [upd_ne zz, upd_ne hbr]
            exact this
        · rw [upd_ne (fun z => hrd_d z.symm)]
          exact hF
        · rw [upd_same, mki_put]
        · rw [mem_addI, my]
          constructor
          · rintro (⟨x, h⟩ | rfl)
            · exact ⟨x, (mem_take_succ hz).mpr (.inl h)⟩
            · exact ⟨z.1, (mem_take_succ hz).mpr (.inr rfl)⟩
          · rintro ⟨x, h⟩
            rcases (mem_take_succ hz).mp h with h | h
            · exact .inl ⟨x, h⟩
            · exact .inr (by rw [← h])
        · have := len_addI ys z.2
          omega
      · rintro σ H' ⟨ys, v2, rfl, e, hF, hR, ndy, my, ly⟩
        rw [mkd_len, List.take_length] at my
        rw [mkd_len] at ly
        refine ⟨hF, ?_⟩
        have hR1 : upd H' d (.dT (mkd pts)) rd = some (.dK (mki ys)) := by rw [upd_ne hrd_d]; exact hR
        exact hread ys rd v2 _ e hR1 ndy my ly
    · refine ⟨_, pss_cons (ps_set (i := 1) sc_l_form.nd rfl (by first | exact Or.inl rfl | exact Or.inr rfl) pe_dnewK) (pss_cons (ps_for PassesOwn.never rfl (kpiL K (pv 0)) (pg_name (i := 2) sc_l_form.nd rfl (by first | exact Or.inl rfl | exact Or.inr rfl))
        (pss_one (ps_dput (hu_of hr) (pv 1) (pe_ix (kixT K) (pv 2) pe_int (fun _ _ => rfl)) pe_bl rfl))) ht), ?_⟩
      intro rd hrd
      have hul := hU.length
      have e0 : Ex H (upd H rd (.dK [])) := Ex.new hrd
      refine ⟨_, rfl, d, rfl, ⟨_, ex_l e0 hS⟩, for_list (K := K) (a := d) (xs := us) (fun i σ H' => ∃ ys v2, σ = [some (.ref d), some (.ref rd), v2, none, none, none, none, none, none, none] ∧ Ex H H' ∧ H' rd = some (.dK (mki ys)) ∧ ys.Nodup ∧ (∀ y, y ∈ ys ↔ ∃ x, (x, y) ∈ pts.take i) ∧ ys.length ≤ i) ?_ ?_ ?_ ?_⟩
      · exact ⟨[], none, rfl, e0, upd_same, List.nodup_nil, fun y => by simp, Nat.le_refl _⟩
      · rintro i σ H' _ ⟨ys, v2, _, e, _⟩
        exact ex_l e hS
      · rintro i u σ H' hu ⟨ys, v2, rfl, e, hR, ndy, my, ly⟩
        obtain ⟨z, hz, qa, rfl, hq0⟩ := pr_get hU hu
        have hq := e _ _ hq0
        have hi : i < pts.length := (List.getElem?_eq_some_iff.mp hz).1
        refine ⟨_, rfl, _, rfl, qa, _, _, _, rfl, rfl, SqT.of hq, rfl, ?_⟩
        refine ⟨rd, _, rfl, DPut.k (k := Sum.inl z.2) hR (by rw [mki_len]; exact slineL (by omega)), ?_⟩
        refine ⟨addI ys z.2, _, rfl, e.mut hrd, ?_, nodup_addI ndy, fun y => ?_, ?_⟩
        · rw [upd_same, mki_put]
        · rw [mem_addI, my]
          constructor
          · rintro (⟨x, h⟩ | rfl)
            · exact ⟨x, (mem_take_succ hz).mpr (.inl h)⟩
            · exact ⟨z.1, (mem_take_succ hz).mpr (.inr rfl)⟩
          · rintro ⟨x, h⟩
            rcases (mem_take_succ hz).mp h with h | h
            · exact .inl ⟨x, h⟩
            · exact .inr (by rw [← h])
        · have := len_addI ys z.2
          omega
      · rintro σ H' ⟨ys, v2, rfl, e, hR, ndy, my, ly⟩
        rw [hul, List.take_length] at my
        exact hread ys rd v2 _ e hR ndy my (by omega)

abbrev s_holds : Stmt := top 1
theorem sc_holds : FnScope ["region", "x", "y", "left", "top", "right", "bottom"] ["region", "x", "y"] (defScope s_holds) := ⟨rfl, rfl, rfl, by decide +kernel, rfl, by decide +kernel, by decide +kernel⟩
def inAny (qs : List Rc) (x y : Int) : Bool := qs.any fun q => (decide (q.l ≤ x) && decide (x < q.r)) && (decide (q.t ≤ y) && decide (y < q.b))
theorem inAny_iff {qs : List Rc} {x y : Int} : inAny qs x y = true ↔ ∃ q ∈ qs, inRc q x y := by
  unfold inAny inRc
  rw [List.any_eq_true]
  constructor
  · rintro ⟨q, hq, h⟩
    simp only [Bool.and_eq_true, decide_eq_true_eq] at h
    exact ⟨q, hq, h.1.1, h.1.2, h.2.1, h.2.2⟩
  · rintro ⟨q, hq, h1, h2, h3, h4⟩
    exact ⟨q, hq, by simp only [Bool.and_eq_true, decide_eq_true_eq]; exact ⟨⟨h1, h2⟩, h3, h4⟩⟩
def spHolds (K : PySem.W.Frag) : Sp := fun vs H Q _ => ∃ a us qs x y, vs = [.ref a, .int x, .int y] ∧ SqL K H a us ∧ RcsV H us qs ∧ Q (.bl (inAny qs x y)) H
theorem ok_holds {f : Addr} {fd : FuncData} (F : Fun K "holds" "holds" s_holds f fd) (T : Txt K mg) : FnOk P w K mg base CX0 1 f fd ["region", "x", "y"] (spHolds K) := by
  refine F.ok sc_holds (fun vs H Q E h => ?_) (fun cdv A outer s H vs Q E hr h => ?_)
  · obtain ⟨a, us, qs, x, y, rfl, _⟩ := h
    rfl
  · obtain ⟨a, us, qs, x, y, rfl, hS, hq, q⟩ := h
    refine ⟨_, (pss_cons (ps_for PassesOwn.never rfl (kpiL K (pv 0)) (kpgT K (n := 4) rfl (pgs_cons (pg_name (i := 3) sc_holds.nd rfl (by first | exact Or.inl rfl | exact Or.inr rfl)) (pgs_cons (pg_name (i := 4) sc_holds.nd rfl (by first | exact Or.inl rfl | exact Or.inr rfl)) (pgs_cons (pg_name (i := 5) sc_holds.nd rfl (by first | exact Or.inl rfl | exact Or.inr rfl)) (pgs_cons (pg_name (i := 6) sc_holds.nd rfl (by first | exact Or.inl rfl | exact Or.inr rfl)) pgs_nil)))))
        (pss_one (ps_if (PW.pt (pw_and (pt_chain op_le op_lt (pv 3) (pv 1) (pv 5)) (pw_and1 (pt_chain op_le op_lt (pv 4) (pv 2) (pv 6)))))
          (pss_one (ps_ret pe_bl))
          pss_nil)))
      (pss_one (ps_ret pe_bl))), ?_⟩
    have hlen : us.length = qs.length := hq.length
    refine ⟨_, rfl, a, rfl, ⟨_, hS⟩, for_list (K := K) (a := a) (xs := us) (fun i σ H' => H' = H ∧ (∃ v3 v4 v5 v6, σ = [some (.ref a), some (.int x), some (.int y), v3, v4, v5, v6]) ∧ inAny (qs.take i) x y = false) ⟨rfl, ⟨_, _, _, _, rfl⟩, rfl⟩ (fun i σ H' _ p => by rw [p.1]; exact hS) ?_ ?_⟩
    · rintro i u σ H' hi ⟨rfl, ⟨v3, v4, v5, v6, rfl⟩, hno⟩
      obtain ⟨rc, hrc, pr, rfl, hp⟩ := pr_get hq hi
      refine ⟨pr, _, rfl, SqT.of hp, rfl, _, _, rfl, _, _, rfl, _, _, rfl, _, _, rfl, rfl, ?_⟩
      have yes : (decide (rc.l ≤ x) && decide (x < rc.r)) = true → (decide (rc.t ≤ y) && decide (y < rc.b)) = true → Q (.bl true) H' := by
        intro h1 h2
        have : inAny qs x y = true := by
          unfold inAny
          rw [List.any_eq_true]
          exact ⟨rc, List.mem_of_getElem? hrc, by rw [h1, h2]; rfl⟩
        rw [this] at q
        exact q
      have no : ((decide (rc.l ≤ x) && decide (x < rc.r)) && (decide (rc.t ≤ y) && decide (y < rc.b))) = false → inAny (qs.take (i + 1)) x y = false := by
        intro h
        rw [List.take_add_one, hrc]
        unfold inAny at hno ⊢
        rw [List.any_append, hno]
        simp only [Option.toList, List.any_cons, List.any_nil, h, Bool.or_false]
      refine ⟨_, rfl, _, rfl, _, _, rfl, rfl, _, rfl, ?_⟩
      refine ite2 (fun c1 => ?_) (fun c1 => ?_)
      · refine ⟨_, rfl, _, _, rfl, rfl, _, rfl, ?_⟩
        refine ite2 (fun c2 => ?_) (fun c2 => ?_)
        · refine ⟨_, rfl, _, rfl, _, _, rfl, rfl, _, rfl, ?_⟩
          refine ite2 (fun c3 => ?_) (fun c3 => ?_)
          · refine ⟨_, rfl, _, _, rfl, rfl, _, rfl, ?_⟩
            refine ite2 (fun c4 => ?_) (fun c4 => ?_)
            · exact yes (by rw [c1, c2]; rfl) (by rw [c3, c4]; rfl)
            · exact ⟨rfl, ⟨_, _, _, _, rfl⟩, no (by rw [eq_false_of_ne_true c4]; simp)⟩
          · refine ⟨_, rfl, iteF ?_⟩
            exact ⟨rfl, ⟨_, _, _, _, rfl⟩, no (by rw [eq_false_of_ne_true c3]; simp)⟩
        · refine iteF ?_
          exact ⟨rfl, ⟨_, _, _, _, rfl⟩, no (by rw [eq_false_of_ne_true c2]; simp)⟩
      · refine ⟨_, rfl, iteF (iteF ?_)⟩
        exact ⟨rfl, ⟨_, _, _, _, rfl⟩, no (by rw [eq_false_of_ne_true c1]; simp)⟩
    · rintro σ H' ⟨rfl, ⟨v3, v4, v5, v6, rfl⟩, hno⟩
      rw [hlen, List.take_length] at hno
      rw [hno] at q
      exact q

abbrev s_law : Stmt := top 10
theorem sc_law : FnScope ["script", "deck", "points", "region", "handed", "k", "x", "y", "rectangle", "told"] ["script"] (defScope s_law) := ⟨rfl, rfl, rfl, by decide +kernel, rfl, by decide +kernel, by decide +kernel⟩
def spLaw (K : PySem.W.Frag) : Sp := fun vs H Q _ => ∃ (a : Addr) (ns : List Int), vs = [.ref a] ∧ SqL K H a (ns.map V.int) ∧ ns.length ≤ 63 ∧ ∀ H', Q (.bl true) H'
theorem ok_law {f : Addr} {fd : FuncData} (F : Fun K "law" "law" s_law f fd) (T : Txt K mg) (D_l_deck : Def P w K mg base CX0 "_law_deck" 1 ["script"] (spDeck K)) (D_l_draw : Def P w K mg base CX0 "_law_draw" 1 ["deck", "bound"] (spDraw K))
    (D_l_rectangles : Def P w K mg base CX0 "_law_rectangles" 3 ["deck", "count", "size"] (spRectangles K)) (D_l_points : Def P w K mg base CX0 "_law_points" 1 ["rectangles"] (spPoints K)) (D_l_form : Def P w K mg base CX0 "_law_form" 2 ["points"] (spForm K))
    (D_holds : Def P w K mg base CX0 "holds" 1 ["region", "x", "y"] (spHolds K)) :
    FnOk P w K mg base CX0 4 f fd ["script"] (spLaw K) := by
  refine F.ok sc_law (fun vs H Q E h => ?_) (fun cdv A outer s H vs Q E hr h => ?_)
  · obtain ⟨a, ns, rfl, _⟩ := h
    rfl
  · obtain ⟨a, ns, rfl, hS, hl, q⟩ := h
    refine ⟨_, (pss_cons (ps_set (i := 1) sc_law.nd rfl (by first | exact Or.inl rfl | exact Or.inr rfl) (pe_call D_l_deck.ok (hr.mono (by decide)) rfl D_l_deck.mgf D_l_deck.kp D_l_deck.b .nil pass0 (pa_cons (pv 0) pa_nil)))
      (pss_cons (ps_set (i := 2) sc_law.nd rfl (by first | exact Or.inl rfl | exact Or.inr rfl) (pe_call D_l_points.ok (hr.mono (by decide)) rfl D_l_points.mgf D_l_points.kp D_l_points.b .nil pass0 (pa_cons (pe_call D_l_rectangles.ok (hr.mono (by decide)) rfl D_l_rectangles.mgf D_l_rectangles.kp D_l_rectangles.b .nil pass0 (pa_cons (pv 1) (pa_cons (pe_call D_l_draw.ok (hr.mono (by decide)) rfl D_l_draw.mgf D_l_draw.kp D_l_draw.b .nil pass0 (pa_cons (pv 1) (pa_cons pe_int pa_nil))) (pa_cons pe_int pa_nil)))) pa_nil)))
      (pss_cons (ps_set (i := 3) sc_law.nd rfl (by first | exact Or.inl rfl | exact Or.inr rfl) (pe_call D_l_form.ok (hr.mono (by decide)) rfl D_l_form.mgf D_l_form.kp D_l_form.b .nil pass0 (pa_cons (pv 2) pa_nil)))
      (pss_cons (ps_set (i := 4) sc_law.nd rfl (by first | exact Or.inl rfl | exact Or.inr rfl) (pe_callTy (klist K) (by rfl) T.list_ bt_list (pa_cons (pv 3) pa_nil)))
      (pss_cons (ps_for PassesOwn.never rfl (pi_range1 (by rfl) T.range_ (pa_cons pe_int pa_nil)) (pg_name (i := 5) sc_law.nd rfl (by first | exact Or.inl rfl | exact Or.inr rfl))
        (pss_cons (ps_set (i := 6) sc_law.nd rfl (by first | exact Or.inl rfl | exact Or.inr rfl) (pe_op op_sub (pe_call D_l_draw.ok (hr.mono (by decide)) rfl D_l_draw.mgf D_l_draw.kp D_l_draw.b .nil pass0 (pa_cons (pv 1) (pa_cons pe_int pa_nil))) pe_int))
        (pss_cons (ps_set (i := 7) sc_law.nd rfl (by first | exact Or.inl rfl | exact Or.inr rfl) (pe_op op_sub (pe_call D_l_draw.ok (hr.mono (by decide)) rfl D_l_draw.mgf D_l_draw.kp D_l_draw.b .nil pass0 (pa_cons (pv 1) (pa_cons pe_int pa_nil))) pe_int))
        (pss_cut (ps_if (PW.pt (pw_and (pt_cmpR op_gt (pe_callB (klen K) (by rfl) T.len_ PySem.boot_len (pa_cons (pv 3) pa_nil)) pe_int (nomark _)) (pw_and1 (pt_cmpR op_gt (pv 5) pe_int (nomark _)))))
          (pss_cons (ps_set (i := 8) sc_law.nd rfl (by first | exact Or.inl rfl | exact Or.inr rfl) (pe_ix (kixL K) (pv 3) (pe_call D_l_draw.ok (hr.mono (by decide)) rfl D_l_draw.mgf D_l_draw.kp D_l_draw.b .nil pass0 (pa_cons (pv 1) (pa_cons (pe_callB (klen K) (by rfl) T.len_ PySem.boot_len (pa_cons (pv 3) pa_nil)) pa_nil))) (fun _ _ => rfl)))
          (pss_cons (ps_set (i := 6) sc_law.nd rfl (by first | exact Or.inl rfl | exact Or.inr rfl) (pe_op op_sub (pe_op op_add (pe_ix (kixT K) (pv 8) (pe_op op_mul pe_int (pe_call D_l_draw.ok (hr.mono (by decide)) rfl D_l_draw.mgf D_l_draw.kp D_l_draw.b .nil pass0 (pa_cons (pv 1) (pa_cons pe_int pa_nil)))) (fun _ _ => rfl)) (pe_call D_l_draw.ok (hr.mono (by decide)) rfl D_l_draw.mgf D_l_draw.kp D_l_draw.b .nil pass0 (pa_cons (pv 1) (pa_cons pe_int pa_nil)))) pe_int))
          (pss_one (ps_set (i := 7) sc_law.nd rfl (by first | exact Or.inl rfl | exact Or.inr rfl) (pe_op op_sub (pe_op op_add (pe_ix (kixT K) (pv 8) (pe_op op_add pe_int (pe_op op_mul pe_int (pe_call D_l_draw.ok (hr.mono (by decide)) rfl D_l_draw.mgf D_l_draw.kp D_l_draw.b .nil pass0 (pa_cons (pv 1) (pa_cons pe_int pa_nil))))) (fun _ _ => rfl)) (pe_call D_l_draw.ok (hr.mono (by decide)) rfl D_l_draw.mgf D_l_draw.kp D_l_draw.b .nil pass0 (pa_cons (pv 1) (pa_cons pe_int pa_nil)))) pe_int)))))
          pss_nil)
        (pss_cons (ps_set (i := 9) sc_law.nd rfl (by first | exact Or.inl rfl | exact Or.inr rfl) (pe_call D_holds.ok (hr.mono (by decide)) rfl D_holds.mgf D_holds.kp D_holds.b .nil pass0 (pa_cons (pv 4) (pa_cons (pv 6) (pa_cons (pv 7) pa_nil)))))
        (pss_one (ps_if (PW.pt (pw_or (pt_not (pt_val (pe_callB (kisi K) (by rfl) T.isinstance_ bt_isinstance (pa_cons (pv 9) (pa_cons (pe_bltn (v := .ty "bool") (by rfl) T.bool_ bt_bool rfl) pa_nil))))) (pw_or1 (pt_cmpR op_ne (pv 9) (pe_cmp (pc_din (hu_of hr) (pe_tup (pa_cons (pv 6) (pa_cons (pv 7) pa_nil))) (pv 2)) (by rfl)) (nomark _)))))
          (pss_one (ps_ret pe_bl))
          pss_nil)))))))
      (pss_one (ps_ret (pe_cmpR (keqD K hr.units) (pv 4) (pv 3) (nomark _))))))))), ?_⟩
    refine ⟨_, rfl, a, ns, rfl, hS, hl, fun d H1 e1 hd => ?_⟩
    refine ⟨_, rfl, _, rfl, d, 8, rfl, hd, by decide, by decide, fun cnt c0 c1 => ?_⟩
    refine ⟨d, cnt, 12, rfl, hd, c0, by omega, by decide, by decide, fun p us qs H2 hp e2 hp2 hq hqn hqb => ?_⟩
    have hd2 := hd.mono e2
    refine ⟨p, us, qs, rfl, SqL.of hp2, hq, by omega, fun q hq => (hqb q hq).mono (by decide), fun dp pts H3 hdp e3 hD nd mem hpn => ?_⟩
    have hd3 := hd2.mono e3
    refine ⟨_, rfl, dp, pts, rfl, .inl hD, nd, by omega, fun pr ur fm H4 hpr e4 hR hRc hform hfl => ?_⟩
    have hd4 := hd3.mono e4
    refine ⟨_, rfl, pr, ur, rfl, .inl (SqL.of hR), fun ph hph => ?_⟩
    have e5 := Ex.new (o := .lst ur) hph
    have hd5 := hd4.mono e5
    have hR5 := e5 _ _ hR
    have hD5 := (e4.trans e5) _ _ hD
    have hH5 : upd H4 ph (.lst ur) ph = some (.lst ur) := upd_same
    have hRc5 := hRc.tk (TK.ex e5)
    generalize upd H4 ph (.lst ur) = H5 at hd5 hR5 hD5 hH5 hRc5
    have hurl : ur.length = fm.length := hRc.length
    have eqv : ∀ x y, inAny fm x y = decide ((x, y) ∈ pts) := fun x y => by
      have h1 := hform.mem x y
      by_cases h : (x, y) ∈ pts
      · rw [decide_eq_true h]
        exact inAny_iff.mpr (h1.mp h)
      · rw [decide_eq_false h]
        exact eq_false_of_ne_true fun z => h (h1.mpr (inAny_iff.mp z))
    refine ⟨12, rfl, by decide, by decide, for_range (lo := 0) (n := 12) (fun i σ H' => (∃ v5 v6 v7 v8 v9, σ = [some (.ref a), some (.ref d), some (.ref dp), some (.ref pr), some (.ref ph), v5, v6, v7, v8, v9]) ∧ Ex H5 H') ⟨⟨_, _, _, _, _, rfl⟩, Ex.refl _⟩ ?_ ?_⟩
    · rintro i σ H' hi ⟨⟨v5, v6, v7, v8, v9, rfl⟩, e⟩
      have hd' := hd5.mono e
      refine ⟨_, rfl, d, 26, rfl, hd', by decide, by decide, fun x _ _ => ?_⟩
      refine ⟨_, _, rfl, rfl, ?_⟩
      refine ⟨_, rfl, d, 26, rfl, hd', by decide, by decide, fun y _ _ => ?_⟩
      refine ⟨_, _, rfl, rfl, ?_⟩
      refine ⟨fun σ2 H2 => H2 = H' ∧ ∃ (x y : Int) (v8 : Option V), σ2 = [some (.ref a), some (.ref d), some (.ref dp), some (.ref pr), some (.ref ph), some (.int (0 + (i : Int))), some (.int x), some (.int y), v8, v9], ?_, ?_⟩
      · refine ⟨_, rfl, pr, ur, rfl, .inl (SqL.of (e _ _ hR5)), _, _, rfl, rfl, _, rfl, ?_⟩
        refine ite2 (fun c1 => ?_) (fun c1 => ?_)
        · refine ⟨_, rfl, _, _, rfl, rfl, _, rfl, ?_⟩
          have hpos : 0 < ur.length := by
            have := of_decide_eq_true c1
            omega
          refine ite2 (fun c2 => ?_) (fun c2 => ?_)
          · refine ⟨_, rfl, _, rfl, _, rfl, pr, ur, rfl, .inl (SqL.of (e _ _ hR5)), d, _, rfl, hd', by omega, by omega, fun k k0 k1 => ?_⟩
            obtain ⟨pq, rc, _, ek, hpq⟩ := pickR (hRc5.tk (TK.ex e)) k0 k1
            refine ⟨pr, ur, k, _, rfl, rfl, SqL.of (e _ _ hR5), ek, ?_⟩
            refine ⟨_, rfl, _, rfl, d, 2, rfl, hd', by decide, by decide, fun g g0 g1 => ?_⟩
            refine ⟨_, _, rfl, rfl, .inl ⟨by decide, by decide⟩, ?_⟩
            obtain ⟨w1, _, ew1⟩ := pickI (ns := [rc.l, rc.t, rc.r, rc.b]) (i := 2 * g) (by omega) (by simp; omega)
            refine ⟨pq, _, _, _, rfl, rfl, SqT.of hpq, ew1, ?_⟩
            refine ⟨_, rfl, d, 3, rfl, hd', by decide, by decide, fun g3 _ _ => ?_⟩
            refine ⟨_, _, rfl, rfl, _, _, rfl, rfl, ?_⟩
            refine ⟨_, rfl, _, rfl, d, 2, rfl, hd', by decide, by decide, fun g' g0' g1' => ?_⟩
            refine ⟨_, _, rfl, rfl, .inl ⟨by decide, by decide⟩, _, _, rfl, rfl, ?_⟩
            obtain ⟨w2, _, ew2⟩ := pickI (ns := [rc.l, rc.t, rc.r, rc.b]) (i := 1 + 2 * g') (by omega) (by simp; omega)
            refine ⟨pq, _, _, _, rfl, rfl, SqT.of hpq, ew2, ?_⟩
            refine ⟨_, rfl, d, 3, rfl, hd', by decide, by decide, fun g3' _ _ => ?_⟩
            refine ⟨_, _, rfl, rfl, _, _, rfl, rfl, ?_⟩
            exact ⟨rfl, _, _, _, rfl⟩
          · exact ⟨rfl, _, _, _, rfl⟩
        · exact ⟨rfl, _, _, _, rfl⟩
      · rintro σ2 H2 ⟨rfl, x, y, v8, rfl⟩
        refine ⟨_, rfl, _, rfl, _, rfl, ph, ur, fm, x, y, rfl, SqL.of (e _ _ hH5), hRc5.tk (TK.ex e), ?_⟩
        rw [eqv]
        refine ⟨_, rfl, _, _, .type "bool", _, true, rfl, .ty _, .base (.bl _), kit_ty (by decide +kernel), _, rfl, ?_⟩
        refine iteF ?_
        refine ⟨_, rfl, _, rfl, _, rfl, (by show 2 ≤ sizeLine; decide), fun pk hpk => ?_⟩
        have e6 := Ex.new (o := .tup [.int x, .int y]) hpk
        refine ⟨_, rfl, dp, _, rfl, DGet.t (k := ptK (x, y)) (e6 _ _ (e _ _ hD5)) upd_same, ?_⟩
        refine ⟨rfl, _, rfl, ?_⟩
        rw [mkd_val]
        have ez : (!decide (V.bl (decide ((x, y) ∈ pts)) = V.bl (decide ((x, y) ∈ pts)))) = false := by simp
        rw [ez]
        refine iteF ?_
        exact ⟨⟨_, _, _, _, _, rfl⟩, e.trans e6⟩
    · rintro σ H' ⟨⟨v5, v6, v7, v8, v9, rfl⟩, e⟩
      have hR' := hRc5.tk (TK.ex e)
      refine ⟨_, rfl, _, rfl, rcsD fm, rcsD fm, dp_rcs (SqL.of (e _ _ hH5)) hR', dp_rcs (SqL.of (e _ _ hR5)) hR', eqs_rcs.shaped (by decide) _, eqs_rcs.shaped (by decide) _, ?_⟩
      rw [eqs_rcs.1, decide_eq_true rfl]
      exact q _
end
theorem all_mk {l : PySem.W.OpenLaw} {w : World} {K : PySem.W.Frag} {h : Heap} {mg : Str → Option Value} {fa f0 f1 f2 f3 f4 f5 f6 f7 f8 : Addr} (X : K.In h) (G : h.Ns mainGlobals mg) (hfa : mg "law" = some (.ref fa))
    {od0 an0 od1 an1 od2 an2 od3 an3 od4 an4 od5 an5 od6 an6 od7 an7 od8 an8 : Option Addr} {sl0 sl1 sl2 sl3 sl4 sl5 sl6 sl7 sl8 : Array (Option Value)} {oc0 kV0 dc0 pm0 cd0 ct0 oc1 kV1 dc1 pm1 cd1 ct1 oc2 kV2 dc2 pm2 cd2 ct2 oc3 kV3 dc3 pm3 cd3 ct3 oc4 kV4 dc4 pm4 cd4 ct4 oc5 kV5 dc5 pm5 cd5 ct5 oc6 kV6 dc6 pm6 cd6 ct6 oc7 kV7 dc7 pm7 cd7 ct7 oc8 kV8 dc8 pm8 cd8 ct8 : Value}
    (a0 : PySem.W.nsIn K mainGlobals "_law_deck" = some (some (.ref f0))) (l0 : K.lookup f0 = some ⟨oc0, od0, .func (PySem.W.fnOf "_law_deck" "_law_deck" (defArgs s_l_deck) (defBody s_l_deck) (defScope s_l_deck) .none kV0 dc0 pm0 an0 cd0 ct0), sl0⟩) (c0 : PySem.W.codeIn K cd0 "_law_deck" = true) (k0 : PySem.W.keepIn K (.ref f0) = true)
    (a1 : PySem.W.nsIn K mainGlobals "_law_draw" = some (some (.ref f1))) (l1 : K.lookup f1 = some ⟨oc1, od1, .func (PySem.W.fnOf "_law_draw" "_law_draw" (defArgs s_l_draw) (defBody s_l_draw) (defScope s_l_draw) .none kV1 dc1 pm1 an1 cd1 ct1), sl1⟩) (c1 : PySem.W.codeIn K cd1 "_law_draw" = true) (k1 : PySem.W.keepIn K (.ref f1) = true)
    (a2 : PySem.W.nsIn K mainGlobals "_law_rectangle" = some (some (.ref f2))) (l2 : K.lookup f2 = some ⟨oc2, od2, .func (PySem.W.fnOf "_law_rectangle" "_law_rectangle" (defArgs s_l_rectangle) (defBody s_l_rectangle) (defScope s_l_rectangle) .none kV2 dc2 pm2 an2 cd2 ct2), sl2⟩) (c2 : PySem.W.codeIn K cd2 "_law_rectangle" = true) (k2 : PySem.W.keepIn K (.ref f2) = true)
    (a3 : PySem.W.nsIn K mainGlobals "_law_rectangles" = some (some (.ref f3))) (l3 : K.lookup f3 = some ⟨oc3, od3, .func (PySem.W.fnOf "_law_rectangles" "_law_rectangles" (defArgs s_l_rectangles) (defBody s_l_rectangles) (defScope s_l_rectangles) .none kV3 dc3 pm3 an3 cd3 ct3), sl3⟩) (c3 : PySem.W.codeIn K cd3 "_law_rectangles" = true) (k3 : PySem.W.keepIn K (.ref f3) = true)
    (a4 : PySem.W.nsIn K mainGlobals "_law_points" = some (some (.ref f4))) (l4 : K.lookup f4 = some ⟨oc4, od4, .func (PySem.W.fnOf "_law_points" "_law_points" (defArgs s_l_points) (defBody s_l_points) (defScope s_l_points) .none kV4 dc4 pm4 an4 cd4 ct4), sl4⟩) (c4 : PySem.W.codeIn K cd4 "_law_points" = true) (k4 : PySem.W.keepIn K (.ref f4) = true)
    (a5 : PySem.W.nsIn K mainGlobals "_law_runs" = some (some (.ref f5))) (l5 : K.lookup f5 = some ⟨oc5, od5, .func (PySem.W.fnOf "_law_runs" "_law_runs" (defArgs s_l_runs) (defBody s_l_runs) (defScope s_l_runs) .none kV5 dc5 pm5 an5 cd5 ct5), sl5⟩) (c5 : PySem.W.codeIn K cd5 "_law_runs" = true) (k5 : PySem.W.keepIn K (.ref f5) = true)
    (a6 : PySem.W.nsIn K mainGlobals "_law_form" = some (some (.ref f6))) (l6 : K.lookup f6 = some ⟨oc6, od6, .func (PySem.W.fnOf "_law_form" "_law_form" (defArgs s_l_form) (defBody s_l_form) (defScope s_l_form) .none kV6 dc6 pm6 an6 cd6 ct6), sl6⟩) (c6 : PySem.W.codeIn K cd6 "_law_form" = true) (k6 : PySem.W.keepIn K (.ref f6) = true)
    (a7 : PySem.W.nsIn K mainGlobals "holds" = some (some (.ref f7))) (l7 : K.lookup f7 = some ⟨oc7, od7, .func (PySem.W.fnOf "holds" "holds" (defArgs s_holds) (defBody s_holds) (defScope s_holds) .none kV7 dc7 pm7 an7 cd7 ct7), sl7⟩) (c7 : PySem.W.codeIn K cd7 "holds" = true) (k7 : PySem.W.keepIn K (.ref f7) = true)
    (a8 : PySem.W.nsIn K mainGlobals "law" = some (some (.ref f8))) (l8 : K.lookup f8 = some ⟨oc8, od8, .func (PySem.W.fnOf "law" "law" (defArgs s_law) (defBody s_law) (defScope s_law) .none kV8 dc8 pm8 an8 cd8 ct8), sl8⟩) (c8 : PySem.W.codeIn K cd8 "law" = true) (k8 : PySem.W.keepIn K (.ref f8) = true)
    (z_abs : PySem.W.nsIn K mainGlobals "abs" = some none)
    (z_bool : PySem.W.nsIn K mainGlobals "bool" = some none)
    (z_int : PySem.W.nsIn K mainGlobals "int" = some none)
    (z_isinstance : PySem.W.nsIn K mainGlobals "isinstance" = some none)
    (z_len : PySem.W.nsIn K mainGlobals "len" = some none)
    (z_list : PySem.W.nsIn K mainGlobals "list" = some none)
    (z_range : PySem.W.nsIn K mainGlobals "range" = some none)
    (z_sorted : PySem.W.nsIn K mainGlobals "sorted" = some none)
    : ∃ fd : FuncData, (∀ (s : Shared) (v : Value), BindsTo s fd ⟨[v], []⟩ [("script", v)]) ∧ ∀ base : Heap, K.In base → base.Ns mainGlobals mg → FnOk l.prog w K mg base CX0 4 fa fd ["script"] (spLaw K) := by
  have e := hfa.symm.trans (PySem.W.mg_of X G a8)
  cases e
  have T : Txt K mg := ⟨PySem.W.mg_none_of X G z_abs, PySem.W.mg_none_of X G z_bool, PySem.W.mg_none_of X G z_int, PySem.W.mg_none_of X G z_isinstance, PySem.W.mg_none_of X G z_len, PySem.W.mg_none_of X G z_list, PySem.W.mg_none_of X G z_range, PySem.W.mg_none_of X G z_sorted⟩
  refine ⟨PySem.W.fnOf "law" "law" (defArgs s_law) (defBody s_law) (defScope s_law) .none kV8 dc8 pm8 an8 cd8 ct8, fun s v => .of_eq rfl, fun base _ _ => ?_⟩
  have F0 := fun_mk (st := s_l_deck) l0 c0 k0
  have D_l_deck : Def l.prog w K mg base CX0 "_law_deck" 1 ["script"] (spDeck K) := ⟨f0, _, ok_l_deck F0 T, PySem.W.mg_of X G a0, k0, F0.binds (ps := ["script"]) fun _ _ _ _ _ _ us hl => match us, hl with | [_], _ => rfl⟩
  have F1 := fun_mk (st := s_l_draw) l1 c1 k1
  have D_l_draw : Def l.prog w K mg base CX0 "_law_draw" 1 ["deck", "bound"] (spDraw K) := ⟨f1, _, ok_l_draw F1 T, PySem.W.mg_of X G a1, k1, F1.binds (ps := ["deck", "bound"]) fun _ _ _ _ _ _ us hl => match us, hl with | [_, _], _ => rfl⟩
  have F2 := fun_mk (st := s_l_rectangle) l2 c2 k2
  have D_l_rectangle : Def l.prog w K mg base CX0 "_law_rectangle" 2 ["deck", "size"] (spRectangle K) := ⟨f2, _, ok_l_rectangle F2 T D_l_draw, PySem.W.mg_of X G a2, k2, F2.binds (ps := ["deck", "size"]) fun _ _ _ _ _ _ us hl => match us, hl with | [_, _], _ => rfl⟩
  have F3 := fun_mk (st := s_l_rectangles) l3 c3 k3
  have D_l_rectangles : Def l.prog w K mg base CX0 "_law_rectangles" 3 ["deck", "count", "size"] (spRectangles K) := ⟨f3, _, ok_l_rectangles F3 T D_l_draw D_l_rectangle, PySem.W.mg_of X G a3, k3, F3.binds (ps := ["deck", "count", "size"]) fun _ _ _ _ _ _ us hl => match us, hl with | [_, _, _], _ => rfl⟩
  have F4 := fun_mk (st := s_l_points) l4 c4 k4
  have D_l_points : Def l.prog w K mg base CX0 "_law_points" 1 ["rectangles"] (spPoints K) := ⟨f4, _, ok_l_points F4 T, PySem.W.mg_of X G a4, k4, F4.binds (ps := ["rectangles"]) fun _ _ _ _ _ _ us hl => match us, hl with | [_], _ => rfl⟩
  have F5 := fun_mk (st := s_l_runs) l5 c5 k5
  have D_l_runs : Def l.prog w K mg base CX0 "_law_runs" 1 ["points", "y"] (spRuns K) := ⟨f5, _, ok_l_runs F5 T, PySem.W.mg_of X G a5, k5, F5.binds (ps := ["points", "y"]) fun _ _ _ _ _ _ us hl => match us, hl with | [_, _], _ => rfl⟩
  have F6 := fun_mk (st := s_l_form) l6 c6 k6
  have D_l_form : Def l.prog w K mg base CX0 "_law_form" 2 ["points"] (spForm K) := ⟨f6, _, ok_l_form F6 T D_l_runs, PySem.W.mg_of X G a6, k6, F6.binds (ps := ["points"]) fun _ _ _ _ _ _ us hl => match us, hl with | [_], _ => rfl⟩
  have F7 := fun_mk (st := s_holds) l7 c7 k7
  have D_holds : Def l.prog w K mg base CX0 "holds" 1 ["region", "x", "y"] (spHolds K) := ⟨f7, _, ok_holds F7 T, PySem.W.mg_of X G a7, k7, F7.binds (ps := ["region", "x", "y"]) fun _ _ _ _ _ _ us hl => match us, hl with | [_, _, _], _ => rfl⟩
  exact ok_law (fun_mk (st := s_law) l8 c8 k8) T D_l_deck D_l_draw D_l_rectangles D_l_points D_l_form D_holds
theorem walk {l : PySem.W.OpenLaw} {q : Program} {loose : List Str} {XP : (Str → Option Value) → Heap → Prop} {YP : World → Heap → Prop} {d : DefRec} {K : Params → PySem.W.Frag} (hn : l.most = some 63) (hdf : d.params.defaults = [])
    (hY : ∀ (w : World) (h : Heap), YP w h → (K w.params).In h)
    (F : ∀ (w : World) (mg : Str → Option Value) (fa : Addr) (h : Heap), (K w.params).In h → h.Ns mainGlobals mg → mg d.name = some (.ref fa) →
      ∃ fd : FuncData, (∀ (s : Shared) (u : Value), BindsTo s fd ⟨[u], []⟩ [("script", u)]) ∧ ∀ base : Heap, (K w.params).In base → base.Ns mainGlobals mg → FnOk l.prog w (K w.params) mg base CX0 4 fa fd ["script"] (spLaw (K w.params))) :
    PySem.W.WalkO q loose XP YP l.row.toRowW d [] (fun f vs => PySem.call f vs) :=
  L2.walk_of (n := 63) (k := 4) (x := "script") (CX := fun _ => CX0) (sp := fun w => spLaw (K w.params)) hn (by decide) hdf ⟨rfl, by decide, by decide⟩ hY F (fun _ _ a ns hl _ hS => ⟨a, ns, rfl, hS, hl, fun _ => rfl⟩) fun _ _ _ _ _ z => z
end Od
open PySem PySem.W PyProof.Rows in
set_option maxRecDepth 100000 in
set_option maxHeartbeats 0 in
theorem PySem.Challenge.cw_onlythedirt_k08_points_held_holds : PySem.Challenge.rw_onlythedirt_k08_points_held.Holds := by
  w_on; o_law; k_head; (case hw => w_witness2)
  k_fill
  refine Od.walk (l := PySem.Challenge.rw_onlythedirt_k08_points_held) rfl rfl (fun w h Y => PySem.W.kIn_of Y) ?F
  case F =>
    intro w mg fa h KX G hmg
    refine' Od.all_mk KX G hmg ?a0 ?l0 ?c0 ?k0 ?a1 ?l1 ?c1 ?k1 ?a2 ?l2 ?c2 ?k2 ?a3 ?l3 ?c3 ?k3 ?a4 ?l4 ?c4 ?k4 ?a5 ?l5 ?c5 ?k5 ?a6 ?l6 ?c6 ?k6 ?a7 ?l7 ?c7 ?k7 ?a8 ?l8 ?c8 ?k8 ?z_abs ?z_bool ?z_int ?z_isinstance ?z_len ?z_list ?z_range ?z_sorted
    (case a0 => k_is)
    (case l0 => k_is)
    (case c0 => k_is)
    (case k0 => k_is)
    (case a1 => k_is)
    (case l1 => k_is)
    (case c1 => k_is)
    (case k1 => k_is)
    (case a2 => k_is)
    (case l2 => k_is)
    (case c2 => k_is)
    (case k2 => k_is)
    (case a3 => k_is)
    (case l3 => k_is)
    (case c3 => k_is)
    (case k3 => k_is)
    (case a4 => k_is)
    (case l4 => k_is)
    (case c4 => k_is)
    (case k4 => k_is)
    (case a5 => k_is)
    (case l5 => k_is)
    (case c5 => k_is)
    (case k5 => k_is)
    (case a6 => k_is)
    (case l6 => k_is)
    (case c6 => k_is)
    (case k6 => k_is)
    (case a7 => k_is)
    (case l7 => k_is)
    (case c7 => k_is)
    (case k7 => k_is)
    (case a8 => k_is)
    (case l8 => k_is)
    (case c8 => k_is)
    (case k8 => k_is)
    (case z_abs => k_is)
    (case z_bool => k_is)
    (case z_int => k_is)
    (case z_isinstance => k_is)
    (case z_len => k_is)
    (case z_list => k_is)
    (case z_range => k_is)
    (case z_sorted => k_is)
