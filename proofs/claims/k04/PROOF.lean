import PyProof.Rows.All
import Wide.All
import OpenK.AllK
import Wide.FinOn
import HandS.ForMost
import HandS.Evl
import HandS.IsInst
import HandS.TupAny
import HandS.SortInts
import HandS.Conv
import HandS.TupLen
import HandS.TupMul
import HandS.Steps
import PyProof.ReprRoads
import PyProof.Rows.RegFStrParts
import HandS.Walk
import KE.KDictZip
import KE.KItemsList
import HandS.ListItems
import HandS.Style
import KE.KRevSl
import KE.BitLaws
import HandS.Flow
import PySem.Challenge.RW_onlythedirt_k04_union
set_option Elab.async false
set_option linter.all false
set_option maxRecDepth 100000
set_option maxHeartbeats 4000000
namespace Od
open PySem L2 Evl

/-! ### an object under another description -/
/-- the same objects, the one at a told otherwise -/
structure Swp (P : Program) (w : World) (H' H'' : Hp) (a : Addr) (o u : HO) : Prop where
  at1 : H' a = some o
  eq : H'' = upd H' a u
  nt : ∀ xs, o ≠ .tup xs
  nf : ∀ x y, o ≠ .frz x y
  nb : ∀ ps, o ≠ .tbl ps
  nw : ∀ x, o ≠ .own x
  to : ∀ h, HOk P w H' h → ObjOk P w H'' h a u
theorem Swp.ne {P : Program} {w : World} {H' H'' : Hp} {a b : Addr} {o u x : HO} (S : Swp P w H' H'' a o u) (h : H' b = some x) (d : o ≠ x) : b ≠ a := by
  intro e
  rw [e, S.at1] at h
  exact d (Option.some.inj h)
theorem Swp.hok {P : Program} {w : World} {H' H'' : Hp} {a : Addr} {o u : HO} {h : Heap} (S : Swp P w H' H'' a o u) (k : HOk P w H' h) : HOk P w H'' h := by
  intro b x e
  by_cases hb : b = a
  · subst hb
    have e2 := e
    rw [S.eq, upd_same] at e2
    cases e2
    exact S.to h k
  · have e1 : H' b = some x := by
      rw [S.eq, upd_ne hb] at e
      exact e
    refine (k b x e1).stay (fun c v _ q => q) (fun c q => ?_) (fun c xs q => ?_)
    · rw [S.eq, upd_ne (S.ne q (S.nw _))]
      exact q
    · rw [S.eq, upd_ne (S.ne q (S.nt _))]
      exact q
theorem Swp.unR {P : Program} {w : World} {H H' H'' : Hp} {a : Addr} {o u : HO} {h h' : Heap} {fs ex : List Addr} (S : Swp P w H' H'' a o u) (k : Un fs ex H H' h h') : Un fs ex H H'' h h' := by
  refine ⟨k.keep, k.slot, fun b x q n hx => ?_, k.there, fun b xs q => ?_, fun b x y q => ?_, fun b ps q => ?_⟩
  · have e := k.free b x q n hx
    rw [S.eq, upd_ne ?_]
    · exact e
    · intro z
      rw [z, S.at1] at e
      cases e
  · have e := k.tups b xs q
    rw [S.eq, upd_ne (S.ne e (S.nt _))]
    exact e
  · have e := k.frzs b x y q
    rw [S.eq, upd_ne (S.ne e (S.nf _ _))]
    exact e
  · obtain ⟨m, e⟩ := k.tbls b ps q
    refine ⟨m, ?_⟩
    rw [S.eq, upd_ne (S.ne e (S.nb _))]
    exact e
theorem Swp.unL {P : Program} {w : World} {H H1 H2 : Hp} {a : Addr} {o u : HO} {h h' : Heap} {fs ex : List Addr} (S : Swp P w H H1 a o u) (k : Un fs ex H1 H2 h h') : Un fs ex H H2 h h' := by
  have z : ∀ b, H b = none → H1 b = none := fun b n => by
    rw [S.eq, upd_ne ?_]
    · exact n
    · intro z
      rw [z, S.at1] at n
      cases n
  refine ⟨fun b x q n => k.keep b x q (z b n), fun b x q n => k.slot b x q (z b n), fun b x q n => k.free b x q (z b n), k.there, fun b xs q => k.tups b xs ?_, fun b x y q => k.frzs b x y ?_, fun b ps q => k.tbls b ps ?_⟩
  · rw [S.eq, upd_ne (S.ne q (S.nt _))]
    exact q
  · rw [S.eq, upd_ne (S.ne q (S.nf _ _))]
    exact q
  · rw [S.eq, upd_ne (S.ne q (S.nb _))]
    exact q
theorem Swp.env {P : Program} {w : World} {K : PySem.W.Frag} {mg : Str → Option Value} {base : Heap} {A : Around} {outer : List Env} {s : Shared} {H H1 : Hp} {a : Addr} {o u : HO}
    (S : Swp P w H H1 a o u) (e : Env0 P w K mg base A outer s H) : Env0 P w K mg base A outer s H1 := by
  have z : ∀ b, H b = none → H1 b = none := fun b n => by
    rw [S.eq, upd_ne ?_]
    · exact n
    · intro z
      rw [z, S.at1] at n
      cases n
  exact ⟨e.frames, e.mod, fun b x q => ⟨(e.bs b x q).1, z b (e.bs b x q).2⟩, e.bsz, e.funs, fun b hb => z b (e.frf b hb), S.hok e.hok, e.bare⟩

/-- behind a call the object at a is told otherwise -/
theorem CE.swp {P : Program} {w : World} {outer : List Env} {H : Hp} {s s' : Shared} {Q : VK} {u : Value}
    (h : CE outer P w H s (fun v H' => ∃ H'' a o x, Swp P w H' H'' a o x ∧ Q v H'') u s') : CE outer P w H s Q u s' := by
  obtain ⟨v, H', h1, h2, h3, h4, h5, H'', a, o, x, S, q⟩ := h
  exact ⟨v, H'', h1, h2, S.unR h3, S.hok h4, h5, q⟩
/-- a def's promise, its answer's object told otherwise -/
theorem FnOk.out {P : Program} {w : World} {K : PySem.W.Frag} {mg : Str → Option Value} {base : Heap} {k : Nat} {f : Addr} {fd : FuncData} {ps : List Str} {sp sp' : Sp} (F : FnOk P w K mg base CX0 k f fd ps sp)
    (hl : ∀ vs H Q E, sp' vs H Q E → vs.length = ps.length)
    (h : ∀ vs H Q E, sp' vs H Q E → sp vs H (fun v H' => ∃ H'' a o x, Swp P w H' H'' a o x ∧ Q v H'') E) : FnOk P w K mg base CX0 k f fd ps sp' := by
  refine ⟨hl, fun A outer s H args us vs Q E hr he hb hv hs => ?_⟩
  refine codeAny_mono (F.run A outer s H args us vs _ E hr he hb hv (h _ _ _ _ hs)) ?_
  intro r s' q
  match r, q with
  | .ok (.ret u), q => exact CE.swp q
  | .error e, q => exact q
end Od

namespace Od
open PySem L2 Evl

/-! ### the law's deck: a list whose state is not told -/
def deckV (n k seed : Int) (l : Addr) (c : Int) : List V := [.int n, .int k, .int seed, .ref l, .int c]
def IsDeck (l : Addr) (xs : List V) : Prop := ∃ n k seed c, xs = deckV n k seed l c ∧ 0 ≤ n ∧ 0 ≤ k ∧ 0 ≤ seed ∧ seed < 2147483647
def deckO (a l : Addr) : HO := .ext fun h => ∃ xs, IsDeck l xs ∧ ∃ (its : List Value) (n : Nat), Vals xs its ∧ h.get? a = some { cls := .type "list", data := .seq its.toArray n }
def DeckAt (K : PySem.W.Frag) (H : Hp) (a : Addr) : Prop := ∃ (l : Addr) (ns : List Int), H a = some (deckO a l) ∧ H l = some (.lst (ns.map V.int))
theorem DeckAt.mono {K : PySem.W.Frag} {H H' : Hp} {a : Addr} (e : Ex H H') (h : DeckAt K H a) : DeckAt K H' a := by
  obtain ⟨l, ns, h1, h2⟩ := h
  exact ⟨l, ns, e _ _ h1, e _ _ h2⟩
theorem isDeck_len {l : Addr} {xs : List V} (h : IsDeck l xs) : xs.length ≤ sizeLine := by
  obtain ⟨n, k, seed, c, rfl, _⟩ := h
  show 5 ≤ sizeLine
  decide
theorem deck_ok {P : Program} {w : World} {H : Hp} {h : Heap} {a l : Addr} {xs : List V} (d : IsDeck l xs) (k : ∃ (its : List Value) (n : Nat), Vals xs its ∧ h.get? a = some { cls := .type "list", data := .seq its.toArray n }) :
    ObjOk P w H h a (deckO a l) := by
  obtain ⟨its, n, r, e⟩ := k
  refine ⟨⟨xs, d, its, n, r, e⟩, ⟨_, e⟩, fun h1 h2 p q => ?_⟩
  obtain ⟨ys, d1, its1, n1, r1, e1⟩ := p
  exact ⟨ys, d1, its1, n1, r1, q _ e1⟩
/-- an open deck is closed -/
theorem swp_close {P : Program} {w : World} {H : Hp} {a l : Addr} {xs : List V} (h : H a = some (.lst xs)) (d : IsDeck l xs) : Swp P w H (upd H a (deckO a l)) a (.lst xs) (deckO a l) := by
  refine ⟨h, rfl, fun _ e => (nomatch e), fun _ _ e => (nomatch e), fun _ e => (nomatch e), fun _ e => (nomatch e), fun hp k => ?_⟩
  obtain ⟨_, its, n, r, e⟩ := k a _ h
  exact deck_ok d ⟨its, n, r, e⟩
/-- a closed deck is opened -/
theorem swp_open {P : Program} {w : World} {H : Hp} {h : Heap} {a l : Addr} (ha : H a = some (deckO a l)) (k : HOk P w H h) :
    ∃ xs, IsDeck l xs ∧ HOk P w (upd H a (.lst xs)) h := by
  obtain ⟨⟨xs, d, its, n, r, e⟩, _, _⟩ := k a _ ha
  refine ⟨xs, d, fun b x q => ?_⟩
  by_cases hb : b = a
  · subst hb
    rw [upd_same] at q
    cases q
    exact ⟨isDeck_len d, its, n, r, e⟩
  · rw [upd_ne hb] at q
    refine (k b x q).stay (fun c v _ q => q) (fun c q => ?_) (fun c xs q => ?_)
    · rw [upd_ne ?_]
      · exact q
      · intro z
        rw [z, ha] at q
        cases q
    · rw [upd_ne ?_]
      · exact q
      · intro z
        rw [z, ha] at q
        cases q
theorem un_open {H H2 : Hp} {a l : Addr} {xs : List V} {h h' : Heap} {fs ex : List Addr} (ha : H a = some (deckO a l)) (k : Un fs ex (upd H a (.lst xs)) H2 h h') : Un fs ex H H2 h h' := by
  have z : ∀ b, H b = none → upd H a (.lst xs) b = none := fun b n => by
    rw [upd_ne ?_]
    · exact n
    · intro z
      rw [z, ha] at n
      cases n
  refine ⟨fun b x q n => k.keep b x q (z b n), fun b x q n => k.slot b x q (z b n), fun b x q n => k.free b x q (z b n), k.there, fun b xs q => k.tups b xs ?_, fun b x y q => k.frzs b x y ?_, fun b ps q => k.tbls b ps ?_⟩
  · rw [upd_ne (ne_of q ha (fun e => nomatch e))]
    exact q
  · rw [upd_ne (ne_of q ha (fun e => nomatch e))]
    exact q
  · rw [upd_ne (ne_of q ha (fun e => nomatch e))]
    exact q
theorem env_open {P : Program} {w : World} {K : PySem.W.Frag} {mg : Str → Option Value} {base : Heap} {A : Around} {outer : List Env} {s : Shared} {H : Hp} {a l : Addr} {xs : List V} (ha : H a = some (deckO a l))
    (e : Env0 P w K mg base A outer s H) (hok : HOk P w (upd H a (.lst xs)) s.heap) : Env0 P w K mg base A outer s (upd H a (.lst xs)) := by
  have z : ∀ b, H b = none → upd H a (.lst xs) b = none := fun b n => by
    rw [upd_ne ?_]
    · exact n
    · intro z
      rw [z, ha] at n
      cases n
  exact ⟨e.frames, e.mod, fun b x q => ⟨(e.bs b x q).1, z b (e.bs b x q).2⟩, e.bsz, e.funs, fun b hb => z b (e.frf b hb), hok, e.bare⟩

/-- how a def that changes the open deck is told: n with 0 ≤ n < b -/
def spDrawO : Sp := fun vs H Q _ => ∃ (a : Addr) (b : Int) (l : Addr) (ns : List Int) (xs : List V), vs = [.ref a, .int b] ∧ H a = some (.lst xs) ∧ IsDeck l xs ∧ H l = some (.lst (ns.map V.int)) ∧ l ≠ a ∧ 0 < b ∧ b < 1073741824 ∧
  ∀ n ys, 0 ≤ n → n < b → IsDeck l ys → Q (.int n) (upd H a (.lst ys))
/-- .. the closed one -/
def spDraw (K : PySem.W.Frag) : Sp := fun vs H Q _ => ∃ a b, vs = [.ref a, .int b] ∧ DeckAt K H a ∧ 0 < b ∧ b < 1073741824 ∧ ∀ n, 0 ≤ n → n < b → Q (.int n) H
theorem upd_back {H : Hp} {a : Addr} {o u : HO} (h : H a = some o) : upd (upd H a u) a o = H := by
  funext b
  unfold upd
  by_cases e : b = a
  · simp [e, h]
  · simp [e]
theorem draw_closed {P : Program} {w : World} {K : PySem.W.Frag} {mg : Str → Option Value} {base : Heap} {k : Nat} {f : Addr} {fd : FuncData} {ps : List Str} (F : FnOk P w K mg base CX0 k f fd ps spDrawO) (hp : ps.length = 2) :
    FnOk P w K mg base CX0 k f fd ps (spDraw K) := by
  refine ⟨fun vs H Q E h => ?_, fun A outer s H args us vs Q E hr he hb hv hs => ?_⟩
  · obtain ⟨a, b, rfl, _⟩ := h
    exact hp.symm
  · obtain ⟨a, b, rfl, ⟨l, ns, h1, h2⟩, b0, b1, q⟩ := hs
    obtain ⟨xs, d, hok⟩ := swp_open h1 he.hok
    have hla : l ≠ a := ne_of h2 h1 (fun e => nomatch e)
    refine codeAny_mono (F.run A outer s (upd H a (.lst xs)) args us _ (fun v H' => ∃ ys, H' = upd H a (.lst ys) ∧ IsDeck l ys ∧ Q v H) E hr (env_open h1 he hok) hb hv ?_) ?_
    · refine ⟨a, b, l, ns, xs, rfl, upd_same, d, by rw [upd_ne hla]; exact h2, hla, b0, b1, fun n ys n0 n1 d2 => ⟨ys, ?_, d2, q n n0 n1⟩⟩
      rw [upd_upd]
    · intro r s' q2
      match r, q2 with
      | .ok (.ret u), q2 =>
        obtain ⟨v, H', c1, c2, c3, c4, c5, ys, rfl, d2, q3⟩ := q2
        have S := swp_close (P := P) (w := w) (H := upd H a (.lst ys)) (a := a) (l := l) upd_same d2
        have e := upd_back (u := .lst ys) h1
        rw [e] at S
        exact ⟨v, H, c1, c2, un_open h1 (S.unR c3), S.hok c4, c5, q3⟩
      | .error e, q2 => exact q2
/-- the def that makes the deck: open, closed -/
def spDeckO (K : PySem.W.Frag) : Sp := fun vs H Q _ => ∃ (a : Addr) (ns : List Int), vs = [.ref a] ∧ SqL K H a (ns.map V.int) ∧ ns.length ≤ 63 ∧ ∀ p l ys H', H p = none → Ex H H' → H' p = some (.lst ys) → IsDeck l ys → l ≠ p → H' l = some (.lst (ns.map V.int)) → Q (.ref p) H'
def spDeck (K : PySem.W.Frag) : Sp := fun vs H Q _ => ∃ (a : Addr) (ns : List Int), vs = [.ref a] ∧ SqL K H a (ns.map V.int) ∧ ns.length ≤ 63 ∧ ∀ p H', Ex H H' → DeckAt K H' p → Q (.ref p) H'
theorem deck_closed {P : Program} {w : World} {K : PySem.W.Frag} {mg : Str → Option Value} {base : Heap} {k : Nat} {f : Addr} {fd : FuncData} {ps : List Str} (F : FnOk P w K mg base CX0 k f fd ps (spDeckO K)) (hp : ps.length = 1) :
    FnOk P w K mg base CX0 k f fd ps (spDeck K) := by
  refine FnOk.out F (fun vs H Q E h => ?_) fun vs H Q E h => ?_
  · obtain ⟨a, ns, rfl, _⟩ := h
    exact hp.symm
  · obtain ⟨a, ns, rfl, h1, h2, q⟩ := h
    refine ⟨a, ns, rfl, h1, h2, fun p l ys H' hp e hy d hl h3 => ⟨upd H' p (deckO p l), p, .lst ys, deckO p l, swp_close hy d, q p _ ?_ ⟨l, ns, upd_same, by rw [upd_ne hl]; exact h3⟩⟩⟩
    exact Ex.mut e hp
end Od

namespace Od
open PySem L2 Evl

/-! ### what kind a value is -/
inductive Kn (H : Hp) : V → String → Prop
  | non : Kn H .non "NoneType"
  | bl (b : Bool) : Kn H (.bl b) "bool"
  | int (i : Int) : Kn H (.int i) "int"
  | str (x : Str) : Kn H (.str x) "str"
  | tup {a : Addr} {xs : List V} (h : H a = some (.tup xs)) : Kn H (.ref a) "tuple"
  | lst {a : Addr} {xs : List V} (h : H a = some (.lst xs)) : Kn H (.ref a) "list"
theorem Kn.mono {H H' : Hp} {v : V} {T : String} (e : Ex H H') (k : Kn H v T) : Kn H' v T := by
  cases k with
  | non => exact .non
  | bl b => exact .bl b
  | int i => exact .int i
  | str x => exact .str x
  | tup h => exact .tup (e _ _ h)
  | lst h => exact .lst (e _ _ h)
theorem Kn.ty {K : PySem.W.Frag} {H : Hp} {v : V} {T : String} (k : Kn H v T) : TyX K H v (.type T) := by
  cases k with
  | non => exact .base .non
  | bl b => exact .base (.bl b)
  | int i => exact .base (.int i)
  | str x => exact .base (.str x)
  | tup h => exact .base (.tup h)
  | lst h => exact .base (.lst h)
/-- isinstance of such a value -/
def isA (T n : String) : Bool := T == n || (T == "bool" && n == "int")
theorem kit_int {H : Hp} {v : V} {T : String} (k : Kn H v T) : kitB T "int" = some (isA T "int") := by
  cases k <;> decide +kernel
theorem kit_bool {H : Hp} {v : V} {T : String} (k : Kn H v T) : kitB T "bool" = some (isA T "bool") := by
  cases k <;> decide +kernel
theorem kit_tuple {H : Hp} {v : V} {T : String} (k : Kn H v T) : kitB T "tuple" = some (isA T "tuple") := by
  cases k <;> decide +kernel
theorem kit_list {H : Hp} {v : V} {T : String} (k : Kn H v T) : kitB T "list" = some (isA T "list") := by
  cases k <;> decide +kernel
theorem kit_str {H : Hp} {v : V} {T : String} (k : Kn H v T) : kitB T "str" = some (isA T "str") := by
  cases k <;> decide +kernel
theorem isi {K : PySem.W.Frag} {H : Hp} {v : V} {T n : String} {b : Bool} {Q : VK} (k : Kn H v T) (h : kitB T n = some b) (q : Q (.bl b) H) : rIsi K [v, .ty n] H Q :=
  ⟨v, _, _, _, b, rfl, .ty n, k.ty, kit_ty h, q⟩
def isI : V → Bool
  | .int _ => true
  | _ => false
theorem Kn.whole {H : Hp} {v : V} {T : String} (k : Kn H v T) : (isA T "int" && !isA T "bool") = isI v := by
  have h1 : (isA "NoneType" "int" && !isA "NoneType" "bool") = false := by decide +kernel
  have h2 : (isA "bool" "int" && !isA "bool" "bool") = false := by decide +kernel
  have h3 : (isA "int" "int" && !isA "int" "bool") = true := by decide +kernel
  have h4 : (isA "str" "int" && !isA "str" "bool") = false := by decide +kernel
  have h5 : (isA "tuple" "int" && !isA "tuple" "bool") = false := by decide +kernel
  have h6 : (isA "list" "int" && !isA "list" "bool") = false := by decide +kernel
  cases k with
  | non => exact h1
  | bl b => exact h2
  | int i => exact h3
  | str x => exact h4
  | tup h => exact h5
  | lst h => exact h6

/-- a comprehension's turn without a test -/
theorem lcY {σ : L2.St} {H : Hp} {A B : Hp → Prop} (h : A H) : tYes σ H (fun b H3 => if b = true then A H3 else B H3) := by
  show if true = true then A H else B H
  exact iteT h
/-- a def that is called: where it stands, what it promises -/
structure Def (P : Program) (w : World) (K : PySem.W.Frag) (mg : Str → Option Value) (base : Heap) (CX : CXT) (x : Str) (k : Nat) (ps : List Str) (sp : Sp) where
  f : Addr
  fd : FuncData
  ok : FnOk P w K mg base CX k f fd ps sp
  mgf : mg x = some (.ref f)
  kp : PySem.W.keepIn K (.ref f) = true
  b : L2.Binds K fd ps []
end Od

namespace Od
open PySem L2 Evl

theorem bt_isinstance : bootBuiltins "isinstance" = some (.builtin "isinstance") := by decide +kernel
theorem bt_len : bootBuiltins "len" = some (.builtin "len") := by decide +kernel
theorem bt_abs : bootBuiltins "abs" = some (.builtin "abs") := by decide +kernel
theorem bt_all : bootBuiltins "all" = some (.builtin "all") := by decide +kernel
theorem bt_any : bootBuiltins "any" = some (.builtin "any") := by decide +kernel
theorem bt_sorted : bootBuiltins "sorted" = some (.builtin "sorted") := by decide +kernel
theorem bt_min : bootBuiltins "min" = some (.builtin "min") := by decide +kernel
theorem bt_max : bootBuiltins "max" = some (.builtin "max") := by decide +kernel
theorem bt_sum : bootBuiltins "sum" = some (.builtin "sum") := by decide +kernel
theorem bt_repr : bootBuiltins "repr" = some (.builtin "repr") := by decide +kernel
theorem bt_int : bootBuiltins "int" = some (.type "int") := by decide +kernel
theorem bt_bool : bootBuiltins "bool" = some (.type "bool") := by decide +kernel
theorem bt_tuple : bootBuiltins "tuple" = some (.type "tuple") := by decide +kernel
theorem bt_list : bootBuiltins "list" = some (.type "list") := by decide +kernel
theorem bt_str : bootBuiltins "str" = some (.type "str") := by decide +kernel
theorem bt_range : bootBuiltins "range" = some (.type "range") := by decide +kernel
theorem bt_enumerate : bootBuiltins "enumerate" = some (.type "enumerate") := by decide +kernel
theorem bt_zip : bootBuiltins "zip" = some (.type "zip") := by decide +kernel
theorem bt_ValueError : bootBuiltins "ValueError" = some (.type "ValueError") := by decide +kernel
theorem pickV {xs : List V} {i : Int} (h0 : 0 ≤ i) (h1 : i < xs.length) : ∃ v, v ∈ xs ∧ atI xs i = some v := by
  obtain ⟨m, rfl⟩ := Int.eq_ofNat_of_zero_le h0
  have hm : m < xs.length := by omega
  exact ⟨xs[m], List.getElem_mem hm, atI_nat (List.getElem?_eq_getElem hm)⟩
theorem pickI {ns : List Int} {i : Int} (h0 : 0 ≤ i) (h1 : i < ns.length) : ∃ w, w ∈ ns ∧ atI (ns.map V.int) i = some (.int w) := by
  obtain ⟨m, rfl⟩ := Int.eq_ofNat_of_zero_le h0
  have hm : m < ns.length := by omega
  exact ⟨ns[m], List.getElem_mem hm, atI_nat (by rw [List.getElem?_map, List.getElem?_eq_getElem hm]; rfl)⟩
theorem ex_free {H H' : Hp} {p : Addr} (e : Ex H H') (h : H' p = none) : H p = none := fresh_back e h
/-- a rectangle of ints stands at p -/
def RectAt (H : Hp) (p : Addr) (l t r b : Int) : Prop := H p = some (.tup [.int l, .int t, .int r, .int b])
theorem cutV_whole {xs : List V} {lo hi : Option Int} (h : HT.sIx xs.length 0 lo = 0 ∧ HT.sIx xs.length xs.length hi = xs.length) : cutV xs lo hi = xs := by
  unfold cutV
  rw [h.1, h.2]
  simp
structure RSlS (K : PySem.W.Frag) (x : V) (lo hi : Option Int) (H : Hp) (Q : VK) : Prop where
  h : rSlA K x lo hi H Q
structure RCatS (K : PySem.W.Frag) (x y : V) (H : Hp) (Q : VK) : Prop where
  h : rCatA K x y H Q
theorem slA {K : PySem.W.Frag} {H : Hp} {a : Addr} {xs : List V} {lo hi : Option Int} {Q : VK} (h : H a = some (.tup xs)) (q : ∀ p H', Ex H H' → H' p = some (.tup (cutV xs lo hi)) → Q (.ref p) H') : RSlS K (.ref a) lo hi H Q := by
  refine .mk ?_
  refine ⟨a, xs, rfl, SqT.of h, fun hw => ?_, fun _ p hp => q p _ (Ex.new hp) upd_same⟩
  refine q a H (Ex.refl _) ?_
  rw [cutV_whole hw]
  exact h
theorem catA {K : PySem.W.Frag} {H : Hp} {a b : Addr} {xs ys : List V} {Q : VK} (h : H a = some (.tup xs)) (h' : H b = some (.tup ys)) (hl : xs.length + ys.length ≤ sizeLine) (q : ∀ p H', Ex H H' → H' p = some (.tup (xs ++ ys)) → Q (.ref p) H') : RCatS K (.ref a) (.ref b) H Q := by
  refine .mk ?_
  refine ⟨a, b, xs, ys, rfl, rfl, SqT.of h, SqT.of h', hl, fun e => ?_, fun _ e => ?_, fun _ _ p hp => q p _ (Ex.new hp) upd_same⟩
  · refine q b H (Ex.refl _) ?_
    rw [e]
    exact h'
  · refine q a H (Ex.refl _) ?_
    rw [e, List.append_nil]
    exact h
theorem mem_cutV {xs : List V} {lo hi : Option Int} {x : V} (h : x ∈ cutV xs lo hi) : x ∈ xs := List.mem_of_mem_drop (List.mem_of_mem_take h)
end Od

namespace Od
open PySem L2 Evl
/-! ### the rules with the written part told -/
section
variable {X : Cx} (K : PySem.W.Frag)
theorem kisi (h : X.K = K := by rfl) : CallR X (.builtin "isinstance") (rIsi K) := by
  subst h
  exact call_isi
theorem kixL (h : X.K = K := by rfl) : IxR X (rIxL K) := by
  subst h
  exact ix_list
theorem kixT (h : X.K = K := by rfl) : IxR X (rIxT K) := by
  subst h
  exact ix_tup
theorem kixS (h : X.K = K := by rfl) : IxR X (rIx K) := by
  subst h
  exact ix_seq
theorem kslL (h : X.K = K := by rfl) : SlR X (rSlL K) := by
  subst h
  exact sl_list
theorem kslA (h : X.K = K := by rfl) : SlR X (RSlS K) := by
  subst h
  exact fun pins s σ H x v vl vu lo hi sl Q I r hs pl pu q => sl_tupA pins s σ H x v vl vu lo hi sl Q I r hs pl pu q.h
theorem kcatA (h : X.K = K := by rfl) : OpR X (binaryOp .Add) (RCatS K) := by
  subst h
  exact fun pins s σ H x y v u Q I rx ry q => op_catA pins s σ H x y v u Q I rx ry q.h
theorem krepT (h : X.K = K := by rfl) : OpR X (binaryOp .Mult) (rRepT K) := by
  subst h
  exact op_repT
theorem keqD (hu : X.A.units + 64 < cLine) (h : X.K = K := by rfl) : OpR X (compareOp .Eq) (rEqD K) := by
  subst h
  exact op_eqD hu
theorem kneD (hu : X.A.units + 64 < cLine) (h : X.K = K := by rfl) : OpR X (compareOp .NotEq) (rNeD K) := by
  subst h
  exact op_neD hu
theorem kin (h : X.K = K := by rfl) : OpR X (compareOp .In) (rIn K false) := by
  subst h
  exact op_in_seq
theorem knotin (h : X.K = K := by rfl) : OpR X (compareOp .NotIn) (rIn K true) := by
  subst h
  exact op_notIn_seq
theorem klen (h : X.K = K := by rfl) : CallR X (.builtin "len") (rLenS K) := by
  subst h
  exact call_len_seq
theorem klist (h : X.K = K := by rfl) : CallR X (.type "list") (rListS K) := by
  subst h
  exact call_list_of
def rTupS (K : PySem.W.Frag) : List V → Hp → VK → Prop := fun xs H Q => ∃ p ys, xs = [.ref p] ∧ ((SqL K H p ys ∧ ∀ l, H l = none → Q (.ref l) (upd H l (.tup ys))) ∨ (SqT K H p ys ∧ Q (.ref p) H))
theorem ktuple (h : X.K = K := by rfl) : CallR X (.type "tuple") (rTupS K) := by
  subst h
  exact call_tuple_of
theorem ksum (hc : X.calm = true) (h : X.K = K := by rfl) : CallR X (.builtin "sum") (rSum K) := by
  subst h
  exact cr_sum hc
theorem kmax (hc : X.calm = true) (h : X.K = K := by rfl) : CallR X (.builtin "max") (rMax K) := by
  subst h
  exact cr_max hc
theorem kmin (hc : X.calm = true) (h : X.K = K := by rfl) : CallR X (.builtin "min") (rMin K) := by
  subst h
  exact cr_min hc
theorem kall (hc : X.calm = true) (h : X.K = K := by rfl) : CallR X (.builtin "all") (rAll K) := by
  subst h
  exact cr_all hc
theorem kany (hc : X.calm = true) (h : X.K = K := by rfl) : CallR X (.builtin "any") (rAny K) := by
  subst h
  exact cr_any hc
theorem ksorted (h : X.K = K := by rfl) : CallR X (.builtin "sorted") (rSortedI K) := by
  subst h
  exact cr_sortedI
variable {tg : Expr}
theorem kpiL {l : Expr} {tl : TE} (hl : PE X l tl) (h : X.K = K := by rfl) : PI X tg l (iList K tl) := by
  subst h
  exact pi_list hl
theorem kpiT {l : Expr} {tl : TE} (hl : PE X l tl) (h : X.K = K := by rfl) : PI X tg l (iTup K tl) := by
  subst h
  exact pi_tup hl
theorem kpgT {es : List Expr} {k : Nat} {t : TGs} {n : Nat} {pos : Pos} (hc : X.calm = true) (hh : PGs X es t) (hn : (assignEach es X.env).length = n := by rfl) (hst : (assignEach es X.env).findIdx? (·.1) = none := by rfl) (h : X.K = K := by rfl) : PG X (.Tuple es k pos) (gTup K n t) := by
  subst h
  exact pg_tup hc hh hn hst
theorem ktru {a : Expr} {ta : TE} (ha : PE X a ta) (he : ∀ whole, isTrue a X.env whole = (do let v ← whole; standAt a.pos; holding [v] (truthy v)) := by intro _; rfl) (h : X.K = K := by rfl) : PT X a (L2.tTru K ta) := by
  subst h
  exact pt_truth ha he
end
end Od

namespace Od
open PySem L2 Evl

/-! ### tuples stay -/
def TK (H H' : Hp) : Prop := ∀ a xs, H a = some (.tup xs) → H' a = some (.tup xs)
theorem TK.refl (H : Hp) : TK H H := fun _ _ h => h
theorem TK.trans {H H1 H2 : Hp} (a : TK H H1) (b : TK H1 H2) : TK H H2 := fun x o h => b x o (a x o h)
theorem TK.ex {H H' : Hp} (e : Ex H H') : TK H H' := fun a xs h => e a _ h
theorem TK.lst {H : Hp} {p : Addr} {xs : List V} {o : HO} (h : H p = some (.lst xs)) : TK H (upd H p o) := fun a ys h' => by
  rw [upd_ne]
  · exact h'
  · intro e
    rw [e, h] at h'
    cases h'
theorem TK.dT {H : Hp} {p : Addr} {xs : List (List Key × V)} {o : HO} (h : H p = some (.dT xs)) : TK H (upd H p o) := fun a ys h' => by
  rw [upd_ne]
  · exact h'
  · intro e
    rw [e, h] at h'
    cases h'
theorem TK.dK {H : Hp} {p : Addr} {xs : List (Key × V)} {o : HO} (h : H p = some (.dK xs)) : TK H (upd H p o) := fun a ys h' => by
  rw [upd_ne]
  · exact h'
  · intro e
    rw [e, h] at h'
    cases h'
theorem TK.fresh {H : Hp} {p : Addr} {o : HO} (h : H p = none) : TK H (upd H p o) := TK.ex (Ex.new h)

/-! ### lists of pairs, of rectangles -/
abbrev Pt := Int × Int
structure Rc where
  l : Int
  t : Int
  r : Int
  b : Int
  deriving DecidableEq
def PtV (H : Hp) (v : V) (q : Pt) : Prop := ∃ p, v = .ref p ∧ H p = some (.tup [.int q.1, .int q.2])
def RcV (H : Hp) (v : V) (q : Rc) : Prop := ∃ p, v = .ref p ∧ H p = some (.tup [.int q.l, .int q.t, .int q.r, .int q.b])
theorem PtV.tk {H H' : Hp} {v : V} {q : Pt} (e : TK H H') (h : PtV H v q) : PtV H' v q := by
  obtain ⟨p, rfl, h⟩ := h
  exact ⟨p, rfl, e _ _ h⟩
theorem RcV.tk {H H' : Hp} {v : V} {q : Rc} (e : TK H H') (h : RcV H v q) : RcV H' v q := by
  obtain ⟨p, rfl, h⟩ := h
  exact ⟨p, rfl, e _ _ h⟩
abbrev RcsV (H : Hp) : List V → List Rc → Prop := Paired (RcV H)
abbrev PtsV (H : Hp) : List V → List Pt → Prop := Paired (PtV H)
theorem RcsV.tk {H H' : Hp} {vs : List V} {qs : List Rc} (e : TK H H') (h : RcsV H vs qs) : RcsV H' vs qs := Paired.mapP h fun _ _ => RcV.tk e
theorem PtsV.tk {H H' : Hp} {vs : List V} {qs : List Pt} (e : TK H H') (h : PtsV H vs qs) : PtsV H' vs qs := Paired.mapP h fun _ _ => PtV.tk e
theorem pr_get {α β : Type} {G : α → β → Prop} : ∀ {l₁ : List α} {l₂ : List β}, Paired G l₁ l₂ → ∀ {i : Nat} {a : α}, l₁[i]? = some a → ∃ b, l₂[i]? = some b ∧ G a b
  | _, _, .nil, i, a, h => by simp at h
  | _, _, .cons r t, 0, a, h => by
    simp at h
    subst h
    exact ⟨_, rfl, r⟩
  | _, _, .cons r t, i + 1, a, h => by
    obtain ⟨b, h1, h2⟩ := pr_get t (i := i) (a := a) (by simpa using h)
    exact ⟨b, by simpa using h1, h2⟩
theorem pr_getR {α β : Type} {G : α → β → Prop} : ∀ {l₁ : List α} {l₂ : List β}, Paired G l₁ l₂ → ∀ {i : Nat} {b : β}, l₂[i]? = some b → ∃ a, l₁[i]? = some a ∧ G a b
  | _, _, .nil, i, a, h => by simp at h
  | _, _, .cons r t, 0, a, h => by
    simp at h
    subst h
    exact ⟨_, rfl, r⟩
  | _, _, .cons r t, i + 1, a, h => by
    obtain ⟨b, h1, h2⟩ := pr_getR t (i := i) (b := a) (by simpa using h)
    exact ⟨b, by simpa using h1, h2⟩
theorem pr_append {α β : Type} {G : α → β → Prop} : ∀ {l₁ k₁ : List α} {l₂ k₂ : List β}, Paired G l₁ l₂ → Paired G k₁ k₂ → Paired G (l₁ ++ k₁) (l₂ ++ k₂)
  | _, _, _, _, .nil, h => h
  | _, _, _, _, .cons r t, h => .cons r (pr_append t h)
/-- an item of a list of rectangles at an index that lies in it -/
theorem pickR {H : Hp} {vs : List V} {qs : List Rc} (h : RcsV H vs qs) {i : Int} (h0 : 0 ≤ i) (h1 : i < vs.length) : ∃ p q, q ∈ qs ∧ atI vs i = some (.ref p) ∧ H p = some (.tup [.int q.l, .int q.t, .int q.r, .int q.b]) := by
  obtain ⟨m, rfl⟩ := Int.eq_ofNat_of_zero_le h0
  have hm : m < vs.length := by omega
  obtain ⟨q, hq, p, e, hp⟩ := pr_get h (List.getElem?_eq_getElem hm)
  exact ⟨p, q, List.mem_of_getElem? hq, by rw [← e]; exact atI_nat (List.getElem?_eq_getElem hm), hp⟩
/-- the bounds of drawn rectangles -/
def Small (m : Int) (q : Rc) : Prop := q.l < q.r ∧ q.t < q.b ∧ q.r - q.l ≤ 50 ∧ q.b - q.t ≤ 50 ∧ -m ≤ q.l ∧ q.r ≤ m ∧ -m ≤ q.t ∧ q.b ≤ m
theorem Small.mono {m n : Int} {q : Rc} (h : Small m q) (e : m ≤ n) : Small n q := by
  obtain ⟨a, b, c, d, e1, e2, e3, e4⟩ := h
  refine ⟨a, b, c, d, ?_, ?_, ?_, ?_⟩ <;> omega
theorem sline {n : Nat} (h : n ≤ 1000000) : n ≤ sizeLine := Nat.le_trans h (by decide)
theorem slineL {n : Nat} (h : n < 1000000) : n < sizeLine := Nat.lt_of_lt_of_le h (by decide)
end Od

namespace Od
open PySem L2 Evl

/-! ### a dict of points -/
def ptK (q : Pt) : List Key := [.inl q.1, .inl q.2]
def mkd (pts : List Pt) : List (List Key × V) := pts.map fun q => (ptK q, V.bl true)
theorem ptK_inj {a b : Pt} (h : ptK a = ptK b) : a = b := by
  unfold ptK at h
  injection h with h1 h2
  injection h2 with h2 _
  injection h1 with h1
  injection h2 with h2
  exact Prod.ext h1 h2
theorem ptK_dec (a b : Pt) : decide (ptK a = ptK b) = decide (a = b) := by
  by_cases e : a = b
  · rw [e, decide_eq_true rfl, decide_eq_true rfl]
  · rw [decide_eq_false e, decide_eq_false fun z => e (ptK_inj z)]
theorem mkd_any (pts : List Pt) (q : Pt) : ((mkd pts).any fun kv => decide (kv.1 = ptK q)) = decide (q ∈ pts) := by
  unfold mkd
  rw [List.any_map]
  induction pts with
  | nil => simp
  | cons p r ih =>
    rw [List.any_cons, ih]
    show (decide (ptK p = ptK q) || decide (q ∈ r)) = decide (q ∈ p :: r)
    rw [ptK_dec]
    by_cases h1 : p = q
    · simp [h1]
    · by_cases h2 : q ∈ r
      · simp [h2]
      · have : ¬ q = p := fun e => h1 e.symm
        simp [h1, h2, this]
theorem mkd_put (pts : List Pt) (q : Pt) : putK (mkd pts) (ptK q) (V.bl true) = mkd (if q ∈ pts then pts else pts ++ [q]) := by
  unfold putK
  rw [mkd_any]
  by_cases h : q ∈ pts
  · rw [if_pos h, decide_eq_true h, if_pos rfl]
    unfold mkd
    rw [List.map_map]
    refine List.map_congr_left fun p _ => ?_
    show (if ptK p = ptK q then (ptK p, V.bl true) else (ptK p, V.bl true)) = (ptK p, V.bl true)
    split <;> rfl
  · rw [if_neg h, decide_eq_false h, if_neg Bool.false_ne_true]
    unfold mkd
    rw [List.map_append]
    rfl
theorem mkd_val (pts : List Pt) (q : Pt) : (valV (mkd pts) (ptK q)).isSome = decide (q ∈ pts) := by
  rw [← valV_any, mkd_any]
def addP (pts : List Pt) (q : Pt) : List Pt := if q ∈ pts then pts else pts ++ [q]
theorem mem_addP {pts : List Pt} {q p : Pt} : p ∈ addP pts q ↔ p ∈ pts ∨ p = q := by
  unfold addP
  split
  · rename_i h
    constructor
    · exact .inl
    · rintro (h1 | rfl)
      · exact h1
      · exact h
  · simp
theorem nodup_addP {pts : List Pt} {q : Pt} (h : pts.Nodup) : (addP pts q).Nodup := by
  unfold addP
  split
  · exact h
  · rename_i hn
    rw [List.nodup_append]
    refine ⟨h, by simp, fun a ha b hb => ?_⟩
    rw [List.mem_singleton.mp hb]
    intro e
    rw [e] at ha
    exact hn ha
theorem len_addP (pts : List Pt) (q : Pt) : (addP pts q).length ≤ pts.length + 1 := by
  unfold addP
  split
  · omega
  · simp
theorem mkd_len (pts : List Pt) : (mkd pts).length = pts.length := by
  unfold mkd
  rw [List.length_map]
def inRc (q : Rc) (x y : Int) : Prop := q.l ≤ x ∧ x < q.r ∧ q.t ≤ y ∧ y < q.b
theorem mem_take_succ {α : Type} {l : List α} {i : Nat} {a x : α} (h : l[i]? = some a) : x ∈ l.take (i + 1) ↔ x ∈ l.take i ∨ x = a := by
  rw [List.take_add_one, h]
  simp
end Od

namespace Od

/-! ### runs -/
def RunsFrom : Int → List Pt → Prop
  | _, [] => True
  | b, q :: t => b < q.1 ∧ q.1 < q.2 ∧ RunsFrom q.2 t
def inRuns (rs : List Pt) (x : Int) : Prop := ∃ q ∈ rs, q.1 ≤ x ∧ x < q.2
theorem RunsFrom.mono {b c : Int} {rs : List Pt} (h : RunsFrom b rs) (e : c ≤ b) : RunsFrom c rs := by
  cases rs with
  | nil => trivial
  | cons q t => exact ⟨by have := h.1; omega, h.2.1, h.2.2⟩
theorem RunsFrom.lt {b : Int} : ∀ {rs : List Pt} {b : Int} {x : Int}, RunsFrom b rs → inRuns rs x → b < x
  | [], _, _, _, ⟨_, h, _⟩ => by simp at h
  | q :: t, b, x, h, ⟨p, hp, h1, h2⟩ => by
    rcases List.mem_cons.mp hp with rfl | hp
    · have := h.1
      omega
    · have := RunsFrom.lt (b := b) h.2.2 ⟨p, hp, h1, h2⟩
      have := h.1
      have := h.2.1
      omega
theorem inRuns_cons {q : Pt} {t : List Pt} {x : Int} : inRuns (q :: t) x ↔ (q.1 ≤ x ∧ x < q.2) ∨ inRuns t x := by
  constructor
  · rintro ⟨p, hp, h⟩
    rcases List.mem_cons.mp hp with rfl | hp
    · exact .inl h
    · exact .inr ⟨p, hp, h⟩
  · rintro (h | ⟨p, hp, h⟩)
    · exact ⟨q, by simp, h⟩
    · exact ⟨p, by simp [hp], h⟩
theorem inRuns_nil {x : Int} : ¬ inRuns [] x := fun ⟨_, h, _⟩ => by simp at h
theorem RunsFrom.some {b : Int} {q : Pt} {t : List Pt} (h : RunsFrom b (q :: t)) : inRuns (q :: t) q.1 := inRuns_cons.mpr (.inl ⟨by omega, h.2.1⟩)
theorem runs_uniq : ∀ {rs ss : List Pt} {b c : Int}, RunsFrom b rs → RunsFrom c ss → (∀ x, inRuns rs x ↔ inRuns ss x) → rs = ss
  | [], [], _, _, _, _, _ => rfl
  | [], q :: t, _, _, _, h, e => absurd ((e q.1).mpr h.some) inRuns_nil
  | q :: t, [], _, _, h, _, e => absurd ((e q.1).mp h.some) inRuns_nil
  | q :: t, p :: u, b, c, h, k, e => by
    have e1 : q.1 = p.1 := by
      have h1 := (e q.1).mp h.some
      have k1 := (e p.1).mpr k.some
      have h2 : p.1 ≤ q.1 := by
        rcases inRuns_cons.mp h1 with z | z
        · omega
        · have := RunsFrom.lt (b := b) k.2.2 z
          have := k.2.1
          omega
      have k2 : q.1 ≤ p.1 := by
        rcases inRuns_cons.mp k1 with z | z
        · omega
        · have := RunsFrom.lt (b := b) h.2.2 z
          have := h.2.1
          omega
      omega
    have hq := h.2.1
    have kp := k.2.1
    have e2 : q.2 = p.2 := by
      rcases Int.lt_trichotomy q.2 p.2 with z | z | z
      · exfalso
        have h1 : inRuns (p :: u) q.2 := inRuns_cons.mpr (.inl ⟨by omega, z⟩)
        rcases inRuns_cons.mp ((e q.2).mpr h1) with y | y
        · omega
        · have := RunsFrom.lt (b := b) h.2.2 y
          omega
      · exact z
      · exfalso
        have h1 : inRuns (q :: t) p.2 := inRuns_cons.mpr (.inl ⟨by omega, z⟩)
        rcases inRuns_cons.mp ((e p.2).mp h1) with y | y
        · omega
        · have := RunsFrom.lt (b := b) k.2.2 y
          omega
    have eq : q = p := Prod.ext e1 e2
    subst eq
    have et : t = u := runs_uniq h.2.2 k.2.2 fun x => by
      constructor
      · intro z
        have := RunsFrom.lt (b := b) h.2.2 z
        rcases inRuns_cons.mp ((e x).mp (inRuns_cons.mpr (.inr z))) with y | y
        · omega
        · exact y
      · intro z
        have := RunsFrom.lt (b := b) k.2.2 z
        rcases inRuns_cons.mp ((e x).mpr (inRuns_cons.mpr (.inr z))) with y | y
        · omega
        · exact y
    rw [et]
def RunsOk (rs : List Pt) : Prop := ∃ b, RunsFrom b rs

/-! ### bands -/
structure Bd where
  t : Int
  b : Int
  rs : List Pt
  deriving DecidableEq
def BandsFrom : Int → List Pt → List Bd → Prop
  | _, _, [] => True
  | y, prev, d :: t => y ≤ d.t ∧ (y = d.t → prev ≠ d.rs) ∧ d.t < d.b ∧ d.rs ≠ [] ∧ RunsOk d.rs ∧ BandsFrom d.b d.rs t
def inBands (bs : List Bd) (x y : Int) : Prop := ∃ d ∈ bs, d.t ≤ y ∧ y < d.b ∧ inRuns d.rs x
theorem inBands_nil {x y : Int} : ¬ inBands [] x y := fun ⟨_, h, _⟩ => by simp at h
theorem inBands_cons {d : Bd} {t : List Bd} {x y : Int} : inBands (d :: t) x y ↔ (d.t ≤ y ∧ y < d.b ∧ inRuns d.rs x) ∨ inBands t x y := by
  constructor
  · rintro ⟨p, hp, h⟩
    rcases List.mem_cons.mp hp with rfl | hp
    · exact .inl h
    · exact .inr ⟨p, hp, h⟩
  · rintro (h | ⟨p, hp, h⟩)
    · exact ⟨d, by simp, h⟩
    · exact ⟨p, by simp [hp], h⟩
theorem BandsFrom.le : ∀ {bs : List Bd} {y : Int} {p : List Pt} {x y' : Int}, BandsFrom y p bs → inBands bs x y' → y ≤ y'
  | [], _, _, _, _, _, h => absurd h inBands_nil
  | d :: t, y, p, x, y', h, k => by
    rcases inBands_cons.mp k with z | z
    · have := h.1
      omega
    · have := BandsFrom.le h.2.2.2.2.2 z
      have := h.1
      have := h.2.2.1
      omega
theorem BandsFrom.mono {bs : List Bd} {y y' : Int} (h : BandsFrom y [] bs) (e : y' ≤ y) : BandsFrom y' [] bs := by
  cases bs with
  | nil => trivial
  | cons d t => exact ⟨by have := h.1; omega, fun _ => fun z => h.2.2.2.1 z.symm, h.2.2⟩
/-- the rows of the first band, the rows behind it -/
theorem BandsFrom.row {d : Bd} {t : List Bd} {y : Int} {p : List Pt} (h : BandsFrom y p (d :: t)) {x y' : Int} (h1 : d.t ≤ y') (h2 : y' < d.b) : inBands (d :: t) x y' ↔ inRuns d.rs x := by
  rw [inBands_cons]
  constructor
  · rintro (z | z)
    · exact z.2.2
    · have := BandsFrom.le h.2.2.2.2.2 z
      omega
  · exact fun z => .inl ⟨h1, h2, z⟩
theorem BandsFrom.behind {d : Bd} {t : List Bd} {x y' : Int} (h2 : d.b ≤ y') : inBands (d :: t) x y' ↔ inBands t x y' := by
  rw [inBands_cons]
  constructor
  · rintro (z | z)
    · omega
    · exact z
  · exact .inr
theorem runs_some {rs : List Pt} (h : RunsOk rs) (n : rs ≠ []) : ∃ x, inRuns rs x := by
  obtain ⟨b, h⟩ := h
  cases rs with
  | nil => exact absurd rfl n
  | cons q t => exact ⟨_, h.some⟩
theorem runsOk_uniq {rs ss : List Pt} (h : RunsOk rs) (k : RunsOk ss) (e : ∀ x, inRuns rs x ↔ inRuns ss x) : rs = ss := by
  obtain ⟨b, h⟩ := h
  obtain ⟨c, k⟩ := k
  exact runs_uniq h k e
/-- a band can't end where another description of the same set goes on -/
theorem no_end {d c : Bd} {t u : List Bd} {y : Int} {p : List Pt} (h : BandsFrom y p (d :: t)) (k : BandsFrom y p (c :: u)) (e : ∀ x y', inBands (d :: t) x y' ↔ inBands (c :: u) x y') (et : d.t = c.t) (er : d.rs = c.rs) (hl : d.b < c.b) : False := by
  have hdb := h.2.2.1
  have row : ∀ x, inBands t x d.b ↔ inRuns c.rs x := fun x => by
    rw [← BandsFrom.behind (d := d) (t := t) (Int.le_refl _), e, k.row (by omega) hl]
  obtain ⟨x0, hx0⟩ := runs_some k.2.2.2.2.1 k.2.2.2.1
  cases t with
  | nil => exact inBands_nil ((row x0).mpr hx0)
  | cons d2 t2 =>
    have h2 := h.2.2.2.2.2
    have hle := h2.1
    by_cases z : d.b = d2.t
    · have er2 : d2.rs = c.rs := runsOk_uniq h2.2.2.2.2.1 k.2.2.2.2.1 fun x => by
        rw [← row x, h2.row (by omega) (by have := h2.2.2.1; omega)]
      exact h2.2.1 z (er.trans er2.symm)
    · have m := (row x0).mpr hx0
      have h3 : BandsFrom d2.t [] (d2 :: t2) := ⟨by omega, fun _ w => h2.2.2.2.1 w.symm, h2.2.2⟩
      have := BandsFrom.le h3 m
      omega
theorem bands_uniq : ∀ {bs cs : List Bd} {y : Int} {p : List Pt}, BandsFrom y p bs → BandsFrom y p cs → (∀ x y', inBands bs x y' ↔ inBands cs x y') → bs = cs
  | [], [], _, _, _, _, _ => rfl
  | [], c :: u, _, _, _, k, e => by
    obtain ⟨x0, hx0⟩ := runs_some k.2.2.2.2.1 k.2.2.2.1
    exact absurd ((e x0 c.t).mpr ((k.row (by omega) k.2.2.1).mpr hx0)) inBands_nil
  | d :: t, [], _, _, h, _, e => by
    obtain ⟨x0, hx0⟩ := runs_some h.2.2.2.2.1 h.2.2.2.1
    exact absurd ((e x0 d.t).mp ((h.row (by omega) h.2.2.1).mpr hx0)) inBands_nil
  | d :: t, c :: u, y, p, h, k, e => by
    have first : ∀ {d c : Bd} {t u : List Bd}, BandsFrom y p (d :: t) → BandsFrom y p (c :: u) → (∀ x y', inBands (d :: t) x y' ↔ inBands (c :: u) x y') → c.t ≤ d.t := by
      intro d c t u h k e
      obtain ⟨x0, hx0⟩ := runs_some h.2.2.2.2.1 h.2.2.2.1
      have m := (e x0 d.t).mp ((h.row (by omega) h.2.2.1).mpr hx0)
      have k2 : BandsFrom c.t [] (c :: u) := ⟨by omega, fun _ w => k.2.2.2.1 w.symm, k.2.2⟩
      exact BandsFrom.le k2 m
    have et : d.t = c.t := by
      have := first h k e
      have := first k h fun x y => (e x y).symm
      omega
    have er : d.rs = c.rs := runsOk_uniq h.2.2.2.2.1 k.2.2.2.2.1 fun x => by
      rw [← h.row (x := x) (y' := d.t) (by omega) h.2.2.1, e, k.row (by omega) (by have := k.2.2.1; omega)]
    have eb : d.b = c.b := by
      rcases Int.lt_trichotomy d.b c.b with z | z | z
      · exact (no_end h k e et er z).elim
      · exact z
      · exact (no_end k h (fun x y => (e x y).symm) et.symm er.symm z).elim
    have ed : d = c := by
      cases d
      cases c
      simp only at et er eb
      rw [et, er, eb]
    subst ed
    rw [bands_uniq h.2.2.2.2.2 k.2.2.2.2.2 fun x y' => ?_]
    by_cases z : d.b ≤ y'
    · rw [← BandsFrom.behind (d := d) (t := t) z, e, BandsFrom.behind z]
    · constructor
      · intro m
        have := BandsFrom.le h.2.2.2.2.2 m
        omega
      · intro m
        have := BandsFrom.le k.2.2.2.2.2 m
        omega

/-! ### the written form -/
def bandRc (d : Bd) : List Rc := d.rs.map fun q => ⟨q.1, d.t, q.2, d.b⟩
def formOf (bs : List Bd) : List Rc := bs.flatMap bandRc
def IsForm (S : Int → Int → Prop) (f : List Rc) : Prop := ∃ y bs, BandsFrom y [] bs ∧ (∀ x y', inBands bs x y' ↔ S x y') ∧ f = formOf bs
theorem form_uniq {S S' : Int → Int → Prop} {f g : List Rc} (h : IsForm S f) (k : IsForm S' g) (e : ∀ x y, S x y ↔ S' x y) : f = g := by
  obtain ⟨y, bs, h1, h2, rfl⟩ := h
  obtain ⟨z, cs, k1, k2, rfl⟩ := k
  rw [bands_uniq (h1.mono (Int.min_le_left y z)) (k1.mono (Int.min_le_right y z)) fun x y' => by rw [h2, k2, e]]
theorem mem_form {bs : List Bd} {x y : Int} : inBands bs x y ↔ ∃ q ∈ formOf bs, inRc q x y := by
  constructor
  · rintro ⟨d, hd, h1, h2, q, hq, h3, h4⟩
    exact ⟨⟨q.1, d.t, q.2, d.b⟩, List.mem_flatMap.mpr ⟨d, hd, List.mem_map.mpr ⟨q, hq, rfl⟩⟩, h3, h4, h1, h2⟩
  · rintro ⟨r, hr, h1, h2, h3, h4⟩
    obtain ⟨d, hd, hr⟩ := List.mem_flatMap.mp hr
    obtain ⟨q, hq, rfl⟩ := List.mem_map.mp hr
    exact ⟨d, hd, h3, h4, q, hq, h1, h2⟩
theorem IsForm.mem {S : Int → Int → Prop} {f : List Rc} (h : IsForm S f) (x y : Int) : S x y ↔ ∃ q ∈ f, inRc q x y := by
  obtain ⟨_, bs, _, h2, rfl⟩ := h
  rw [← h2, mem_form]
end Od

namespace Od
open PySem L2 Evl

/-! ### data: ints in tuples, in lists -/
def intD (ns : List Int) : PyData := .tuple (ns.map PyData.int)
def Eqs (α : Type) [DecidableEq α] (f : α → PyData) (d : Nat) : Prop := (∀ x y, PyData.eqv (f x) (f y) = decide (x = y)) ∧ (∀ x, (f x).canLay0 = true) ∧ ∀ x, (f x).depth ≤ d
theorem eqvAll_map {α : Type} [DecidableEq α] {f : α → PyData} (h : ∀ x y, PyData.eqv (f x) (f y) = decide (x = y)) : ∀ xs ys : List α, PyData.eqvAll (xs.map f) (ys.map f) = decide (xs = ys)
  | [], [] => by simp [PyData.eqvAll]
  | [], y :: ys => by simp [PyData.eqvAll]
  | x :: xs, [] => by simp [PyData.eqvAll]
  | x :: xs, y :: ys => by
    rw [List.map_cons, List.map_cons, PyData.eqvAll, h, eqvAll_map h xs ys]
    by_cases e : x = y <;> by_cases e2 : xs = ys <;> simp [e, e2]
theorem canLay_map {α : Type} {f : α → PyData} (h : ∀ x, (f x).canLay0 = true) : ∀ xs : List α, PyData.canLayAll0 (xs.map f) = true
  | [] => by simp [PyData.canLayAll0]
  | x :: xs => by
    rw [List.map_cons, PyData.canLayAll0, h, canLay_map h xs]
    rfl
theorem depth_map {α : Type} {f : α → PyData} {d : Nat} (h : ∀ x, (f x).depth ≤ d) : ∀ xs : List α, PyData.depthAll (xs.map f) ≤ d
  | [] => by simp [PyData.depthAll]
  | x :: xs => by
    rw [List.map_cons, PyData.depthAll]
    exact Nat.max_le.mpr ⟨h x, depth_map h xs⟩
theorem eqs_int : Eqs Int PyData.int 0 := ⟨fun x y => by rw [PyData.eqv]; by_cases e : x = y <;> simp [e], fun x => by simp [PyData.canLay0], fun x => by simp [PyData.depth]⟩
theorem Eqs.lst {α : Type} [DecidableEq α] {f : α → PyData} {d : Nat} (h : Eqs α f d) : Eqs (List α) (fun xs => .list (xs.map f)) (d + 1) :=
  ⟨fun x y => by rw [PyData.eqv, eqvAll_map h.1], fun x => by simp only [PyData.canLay0]; exact canLay_map h.2.1 x, fun x => by simp only [PyData.depth]; have := depth_map h.2.2 x; omega⟩
theorem Eqs.tup {α : Type} [DecidableEq α] {f : α → PyData} {d : Nat} (h : Eqs α f d) : Eqs (List α) (fun xs => .tuple (xs.map f)) (d + 1) :=
  ⟨fun x y => by rw [PyData.eqv, eqvAll_map h.1], fun x => by simp only [PyData.canLay0]; exact canLay_map h.2.1 x, fun x => by simp only [PyData.depth]; have := depth_map h.2.2 x; omega⟩
theorem Eqs.via {α β : Type} [DecidableEq α] [DecidableEq β] {f : α → PyData} {d : Nat} (h : Eqs α f d) (g : β → α) (inj : ∀ x y, g x = g y → x = y) : Eqs β (fun x => f (g x)) d :=
  ⟨fun x y => by
    rw [h.1]
    by_cases e : x = y
    · rw [e, decide_eq_true rfl, decide_eq_true rfl]
    · rw [decide_eq_false e, decide_eq_false fun z => e (inj _ _ z)], fun x => h.2.1 _, fun x => h.2.2 _⟩
theorem Eqs.shaped {α : Type} [DecidableEq α] {f : α → PyData} {d : Nat} (h : Eqs α f d) (hd : d ≤ 64) (x : α) : SeqAt.shaped (f x) = true := by
  unfold SeqAt.shaped
  rw [h.2.1 x, decide_eq_true (Nat.le_trans (h.2.2 x) hd)]
  rfl
def ptD (q : Pt) : PyData := intD [q.1, q.2]
def rcD (q : Rc) : PyData := intD [q.l, q.t, q.r, q.b]
theorem eqs_pt : Eqs Pt ptD 1 := eqs_int.tup.via (fun q : Pt => [q.1, q.2]) fun x y e => by
  injection e with e1 e2
  injection e2 with e2 _
  exact Prod.ext e1 e2
theorem eqs_rc : Eqs Rc rcD 1 := eqs_int.tup.via (fun q : Rc => [q.l, q.t, q.r, q.b]) fun x y e => by
  injection e with e1 e
  injection e with e2 e
  injection e with e3 e
  injection e with e4 _
  cases x
  cases y
  simp only at e1 e2 e3 e4
  rw [e1, e2, e3, e4]
def ptsD (qs : List Pt) : PyData := .list (qs.map ptD)
def rcsD (qs : List Rc) : PyData := .list (qs.map rcD)
theorem eqs_pts : Eqs (List Pt) ptsD 2 := eqs_pt.lst
theorem eqs_rcs : Eqs (List Rc) rcsD 2 := eqs_rc.lst
theorem dp_ints {K : PySem.W.Frag} {H : Hp} : ∀ ns : List Int, DpAll K H (ns.map V.int) (ns.map PyData.int)
  | [] => .nil
  | n :: ns => .cons (.int n) (dp_ints ns)
theorem dp_tup {K : PySem.W.Frag} {H : Hp} {a : Addr} {ns : List Int} (h : H a = some (.tup (ns.map V.int))) : Dp K H (.ref a) (intD ns) := .tup (SqT.of h) (dp_ints ns)
theorem PtV.dp {K : PySem.W.Frag} {H : Hp} {v : V} {q : Pt} (h : PtV H v q) : Dp K H v (ptD q) := by
  obtain ⟨p, rfl, h⟩ := h
  exact dp_tup (ns := [q.1, q.2]) h
theorem RcV.dp {K : PySem.W.Frag} {H : Hp} {v : V} {q : Rc} (h : RcV H v q) : Dp K H v (rcD q) := by
  obtain ⟨p, rfl, h⟩ := h
  exact dp_tup (ns := [q.l, q.t, q.r, q.b]) h
theorem dp_all {α : Type} {K : PySem.W.Frag} {H : Hp} {G : V → α → Prop} {f : α → PyData} (h : ∀ v x, G v x → Dp K H v (f x)) : ∀ {vs : List V} {xs : List α}, Paired G vs xs → DpAll K H vs (xs.map f)
  | _, _, .nil => .nil
  | _, _, .cons r t => .cons (h _ _ r) (dp_all h t)
theorem dp_pts {K : PySem.W.Frag} {H : Hp} {a : Addr} {us : List V} {qs : List Pt} (h : SqL K H a us) (r : PtsV H us qs) : Dp K H (.ref a) (ptsD qs) := .lst h (dp_all (fun _ _ z => PtV.dp z) r)
theorem dp_rcs {K : PySem.W.Frag} {H : Hp} {a : Addr} {us : List V} {qs : List Rc} (h : SqL K H a us) (r : RcsV H us qs) : Dp K H (.ref a) (rcsD qs) := .lst h (dp_all (fun _ _ z => RcV.dp z) r)

/-! ### walking a dict with tuple keys -/
theorem ex_unlock {H H' : Hp} {d : Addr} {od : Obj} {u : HO} (h : H d = some u) (e : Ex (upd H d (.frz od u)) H') : Ex H (upd H' d u) := fun b o hb => by
  by_cases z : b = d
  · rw [z] at hb ⊢
    rw [h] at hb
    rw [upd_same]
    exact hb
  · rw [upd_ne z]
    exact e b o (by rw [upd_ne z]; exact hb)
theorem lc_keysT {d : Addr} {o : Obj} {kvs : List (List Key × V)} {g : TG} {tt : TT} {te : TE} {vs : List Nat} {σ : L2.St} {H1 : Hp} {D : Addr} {Qd : Hp → Prop} (Pv : Nat → Hp → Prop) (h0 : Pv 0 (upd H1 D (.lst []))) (hl : ∀ i H, i ≤ kvs.length → Pv i H → H d = some (.frz o (.dT kvs)))
    (hs : ∀ i k v q H, kvs[i]? = some (k, v) → H q = some (.tup (k.map kV)) → Pv i H → g (.ref q) (wipe σ vs) H fun σ2 H2 => wipe σ2 vs = wipe σ vs ∧ tt σ2 H2 fun b H3 =>
      if b = true then te σ2 H3 fun y H4 => ∃ acc, H4 D = some (.lst acc) ∧ acc.length < sizeLine ∧ Pv (i + 1) (upd H4 D (.lst (acc ++ [y]))) else Pv (i + 1) H3) (hd : ∀ H, Pv kvs.length H → Qd H) :
    ∃ Wk : Nat → Nat → Hp → Prop, (∃ n, Wk 0 n (upd H1 D (.lst []))) ∧ ∀ i n G, Wk i n G →
      ((Itkt d o kvs).stop i G ∧ Qd G) ∨ ((Itkt d o kvs).go i G ∧ ∃ Go : Hp → Prop, (∀ G', Go G' → ∃ n', n' < n ∧ Wk (i + 1) n' G') ∧ ∀ x G', (Itkt d o kvs).yld i G x G' → g x (wipe σ vs) G' fun σ2 G2 => wipe σ2 vs = wipe σ vs ∧ tt σ2 G2 fun b G3 =>
        if b = true then te σ2 G3 fun y G4 => ∃ made, G4 D = some (.lst made) ∧ made.length < sizeLine ∧ Go (upd G4 D (.lst (made ++ [y]))) else Go G3) := by
  refine ⟨fun i m H => m = kvs.length - i ∧ i ≤ kvs.length ∧ Pv i H, ⟨kvs.length, by simp, Nat.zero_le _, h0⟩, ?_⟩
  rintro i m H ⟨rfl, hi, p⟩
  have q := hl i H hi p
  by_cases hlt : i < kvs.length
  · refine .inr ⟨⟨q, hlt⟩, Pv (i + 1), fun H' p' => ⟨kvs.length - (i + 1), by omega, rfl, hlt, p'⟩, fun x H' y => ?_⟩
    obtain ⟨e, k, v, qa, e1, e2, e3⟩ := y
    subst e e2
    exact hs i k v qa _ e1 e3 p
  · have e : i = kvs.length := by omega
    subst e
    exact .inl ⟨⟨q, Nat.le_refl _⟩, hd H p⟩
theorem for_keysT {d : Addr} {o : Obj} {kvs : List (List Key × V)} {g : TG} {tb : TS} {D : Ends} {σ : L2.St} {H : Hp} (Pv : Nat → L2.St → Hp → Prop) (h0 : Pv 0 σ H) (hl : ∀ i σ H, i ≤ kvs.length → Pv i σ H → H d = some (.frz o (.dT kvs)))
    (hs : ∀ i k v q σ H, kvs[i]? = some (k, v) → H q = some (.tup (k.map kV)) → Pv i σ H → g (.ref q) σ H fun σ2 H2 => tb { D with nx := Pv (i + 1), ct := Pv (i + 1), bk := D.nx } σ2 H2) (hd : ∀ σ H, Pv kvs.length σ H → D.nx σ H) :
    ∃ Wk : Nat → Nat → L2.St → Hp → Prop, (∃ n, Wk 0 n σ H) ∧ ∀ i n τ G, Wk i n τ G →
      ((Itkt d o kvs).stop i G ∧ D.nx τ G) ∨ ((Itkt d o kvs).go i G ∧ ∃ Go : L2.St → Hp → Prop, (∀ τ' G', Go τ' G' → ∃ n', n' < n ∧ Wk (i + 1) n' τ' G') ∧ ∀ x G', (Itkt d o kvs).yld i G x G' → g x τ G' fun τ2 G2 => tb { D with nx := Go, ct := Go, bk := D.nx } τ2 G2) := by
  refine ⟨fun i m σ H => m = kvs.length - i ∧ i ≤ kvs.length ∧ Pv i σ H, ⟨kvs.length, by simp, Nat.zero_le _, h0⟩, ?_⟩
  rintro i m σ H ⟨rfl, hi, p⟩
  have q := hl i σ H hi p
  by_cases hlt : i < kvs.length
  · refine .inr ⟨⟨q, hlt⟩, Pv (i + 1), fun σ' H' p' => ⟨kvs.length - (i + 1), by omega, rfl, hlt, p'⟩, fun x H' y => ?_⟩
    obtain ⟨e, k, v, qa, e1, e2, e3⟩ := y
    subst e e2
    exact hs i k v qa σ _ e1 e3 p
  · have e : i = kvs.length := by omega
    subst e
    exact .inl ⟨⟨q, Nat.le_refl _⟩, hd σ H p⟩
theorem mkd_get {pts : List Pt} {i : Nat} {k : List Key} {v : V} (h : (mkd pts)[i]? = some (k, v)) : ∃ q, pts[i]? = some q ∧ k = ptK q := by
  unfold mkd at h
  rw [List.getElem?_map] at h
  cases e : pts[i]? with
  | none =>
    rw [e] at h
    cases h
  | some q =>
    rw [e] at h
    cases h
    exact ⟨q, rfl, rfl⟩

/-! ### runs from the ascending ints of a row -/
theorem runs_snoc : ∀ {rs : List Pt} {b x : Int}, RunsFrom b rs → (∀ q ∈ rs, q.2 < x) → b < x → RunsFrom b (rs ++ [(x, x + 1)])
  | [], b, x, _, _, h => ⟨h, by show x < x + 1; omega, trivial⟩
  | q :: t, b, x, h, k, _ => ⟨h.1, h.2.1, runs_snoc h.2.2 (fun p hp => k p (by simp [hp])) (k q (by simp))⟩
theorem runs_ext : ∀ {rs : List Pt} {b l r r' : Int}, RunsFrom b (rs ++ [(l, r)]) → r ≤ r' → RunsFrom b (rs ++ [(l, r')])
  | [], b, l, r, r', h, k => ⟨h.1, by have h2 : l < r := h.2.1; show l < r'; omega, trivial⟩
  | q :: t, b, l, r, r', h, k => ⟨h.1, h.2.1, runs_ext h.2.2 k⟩
theorem RunsOk.nil : RunsOk [] := ⟨0, trivial⟩
theorem runsOk_snoc {rs : List Pt} {x : Int} (h : RunsOk rs) (k : ∀ q ∈ rs, q.2 < x) : RunsOk (rs ++ [(x, x + 1)]) := by
  obtain ⟨b, h⟩ := h
  cases rs with
  | nil => exact ⟨x - 1, by omega, by show x < x + 1; omega, trivial⟩
  | cons q t =>
    refine ⟨b, runs_snoc h k ?_⟩
    have h1 : b < q.1 := h.1
    have h2 : q.1 < q.2 := h.2.1
    have h3 := k q (by simp)
    omega
theorem inRuns_app {rs ss : List Pt} {x : Int} : inRuns (rs ++ ss) x ↔ inRuns rs x ∨ inRuns ss x := by
  unfold inRuns
  constructor
  · rintro ⟨q, hq, h⟩
    rcases List.mem_append.mp hq with z | z
    · exact .inl ⟨q, z, h⟩
    · exact .inr ⟨q, z, h⟩
  · rintro (⟨q, hq, h⟩ | ⟨q, hq, h⟩)
    · exact ⟨q, List.mem_append.mpr (.inl hq), h⟩
    · exact ⟨q, List.mem_append.mpr (.inr hq), h⟩
theorem inRuns_one {l r x : Int} : inRuns [(l, r)] x ↔ l ≤ x ∧ x < r := by
  rw [inRuns_cons]
  constructor
  · rintro (h | h)
    · exact h
    · exact absurd h inRuns_nil
  · exact .inl
theorem RunsFrom.wide : ∀ {rs : List Pt} {b : Int}, RunsFrom b rs → ∀ q ∈ rs, q.1 < q.2
  | [], _, _, q, h => by simp at h
  | p :: t, b, h, q, hq => by
    rcases List.mem_cons.mp hq with rfl | hq
    · exact h.2.1
    · exact RunsFrom.wide h.2.2 q hq
/-- what a row's runs say of the ends -/
theorem ends_le {rs : List Pt} {pre : List Int} {x : Int} (h : RunsOk rs) (m : ∀ z, inRuns rs z ↔ z ∈ pre) (k : ∀ z ∈ pre, z < x) : ∀ q ∈ rs, q.2 ≤ x := by
  intro q hq
  obtain ⟨b, h⟩ := h
  have w := h.wide q hq
  have := k (q.2 - 1) ((m _).mp ⟨q, hq, by omega, by omega⟩)
  omega
end Od

namespace Od
open PySem L2 Evl

/-! ### a dict whose keys are ints -/
def mki (ys : List Int) : List (Key × V) := ys.map fun y => (Sum.inl y, V.bl true)
theorem mki_any (ys : List Int) (y : Int) : ((mki ys).any fun kv => decide (kv.1 = Sum.inl y)) = decide (y ∈ ys) := by
  unfold mki
  rw [List.any_map]
  induction ys with
  | nil => simp
  | cons p r ih =>
    rw [List.any_cons, ih]
    show (decide ((Sum.inl p : Key) = Sum.inl y) || decide (y ∈ r)) = decide (y ∈ p :: r)
    by_cases h1 : p = y
    · simp [h1]
    · have h3 : ¬ (Sum.inl p : Key) = Sum.inl y := fun e => h1 (Sum.inl.inj e)
      have : ¬ y = p := fun e => h1 e.symm
      simp [h1, this]
def addI (ys : List Int) (y : Int) : List Int := if y ∈ ys then ys else ys ++ [y]
theorem mki_put (ys : List Int) (y : Int) : putK (mki ys) (Sum.inl y) (V.bl true) = mki (addI ys y) := by
  unfold putK addI
  rw [mki_any]
  by_cases h : y ∈ ys
  · rw [if_pos h, decide_eq_true h, if_pos rfl]
    unfold mki
    rw [List.map_map]
    refine List.map_congr_left fun p _ => ?_
    show (if (Sum.inl p : Key) = Sum.inl y then ((Sum.inl p : Key), V.bl true) else (Sum.inl p, V.bl true)) = (Sum.inl p, V.bl true)
    split <;> rfl
  · rw [if_neg h, decide_eq_false h, if_neg Bool.false_ne_true]
    unfold mki
    rw [List.map_append]
    rfl
theorem mem_addI {ys : List Int} {y z : Int} : z ∈ addI ys y ↔ z ∈ ys ∨ z = y := by
  unfold addI
  split
  · rename_i h
    constructor
    · exact .inl
    · rintro (h1 | rfl)
      · exact h1
      · exact h
  · simp
theorem nodup_addI {ys : List Int} {y : Int} (h : ys.Nodup) : (addI ys y).Nodup := by
  unfold addI
  split
  · exact h
  · rename_i hn
    rw [List.nodup_append]
    refine ⟨h, by simp, fun a ha b hb => ?_⟩
    rw [List.mem_singleton.mp hb]
    intro e
    rw [e] at ha
    exact hn ha
theorem len_addI (ys : List Int) (y : Int) : (addI ys y).length ≤ ys.length + 1 := by
  unfold addI
  split
  · omega
  · simp
theorem mki_len (ys : List Int) : (mki ys).length = ys.length := by
  unfold mki
  rw [List.length_map]
theorem mki_keys (ys : List Int) : (mki ys).map (fun kv => kV kv.1) = ys.map V.int := by
  unfold mki
  rw [List.map_map]
  rfl

/-! ### how many runs there are -/
theorem sum_zero {α : Type} (f : α → Nat) : ∀ l : List α, (∀ x ∈ l, f x = 0) → (l.map f).sum = 0
  | [], _ => rfl
  | x :: l, h => by
    rw [List.map_cons, List.sum_cons, h x (by simp), sum_zero f l fun y hy => h y (by simp [hy])]
theorem ones_le : ∀ {ys : List Int} (a : Int), ys.Nodup → (ys.map fun y => if a == y then 1 else 0).sum ≤ 1
  | [], _, _ => by simp
  | y :: ys, a, h => by
    rw [List.map_cons, List.sum_cons]
    rw [List.nodup_cons] at h
    by_cases e : a = y
    · have z : (ys.map fun y => if a == y then 1 else 0).sum = 0 := by
        refine sum_zero _ _ fun w hw => ?_
        have : ¬ a = w := fun e2 => h.1 (by rw [← e, e2]; exact hw)
        simp [this]
      rw [z]
      simp [e]
    · have := ones_le a h.2
      simp [e]
      simpa using this
theorem sum_add {α : Type} (f g : α → Nat) : ∀ l : List α, (l.map fun x => f x + g x).sum = (l.map f).sum + (l.map g).sum
  | [] => rfl
  | x :: l => by
    rw [List.map_cons, List.map_cons, List.map_cons, List.sum_cons, List.sum_cons, List.sum_cons, sum_add f g l]
    omega
theorem sum_rows {ys : List Int} (h : ys.Nodup) : ∀ pts : List Pt, (ys.map fun y => (pts.filter fun z => z.2 == y).length).sum ≤ pts.length
  | [] => by
    rw [sum_zero (fun y => (List.filter (fun z : Pt => z.snd == y) []).length) ys fun w _ => rfl]
    simp
  | p :: ps => by
    have ih := sum_rows h ps
    have o := ones_le p.2 h
    have e : (ys.map fun y => ((p :: ps).filter fun z => z.2 == y).length) = ys.map fun y => (if p.2 == y then 1 else 0) + (ps.filter fun z => z.2 == y).length := by
      refine List.map_congr_left fun y _ => ?_
      rw [List.filter_cons]
      split <;> simp <;> omega
    rw [e, sum_add, List.length_cons]
    omega
theorem sum_take {ys : List Int} (f : Int → Nat) : ∀ (i : Nat), ((ys.take i).map f).sum ≤ (ys.map f).sum := fun i => by
  have := List.take_append_drop i ys
  have e : ys.map f = (ys.take i).map f ++ (ys.drop i).map f := by rw [← List.map_append, this]
  rw [e, List.sum_append]
  omega

/-! ### bands, one row more -/
def BandsOk (bs : List Bd) : Prop := ∃ y, BandsFrom y [] bs
theorem bands_snoc : ∀ {bs : List Bd} {y0 : Int} {p : List Pt} {y : Int} {rs : List Pt}, BandsFrom y0 p bs → (∀ d, bs.getLast? = some d → d.b ≤ y ∧ (d.b = y → d.rs ≠ rs)) → (bs = [] → y0 ≤ y ∧ (y0 = y → p ≠ rs)) → rs ≠ [] → RunsOk rs →
    BandsFrom y0 p (bs ++ [⟨y, y + 1, rs⟩])
  | [], y0, p, y, rs, _, _, h3, h4, h5 => ⟨(h3 rfl).1, (h3 rfl).2, by show y < y + 1; omega, h4, h5, trivial⟩
  | [d], y0, p, y, rs, h, h2, _, h4, h5 => by
    have k := h2 d rfl
    exact ⟨h.1, h.2.1, h.2.2.1, h.2.2.2.1, h.2.2.2.2.1, k.1, k.2, by show y < y + 1; omega, h4, h5, trivial⟩
  | d :: d2 :: t, y0, p, y, rs, h, h2, _, h4, h5 => by
    have ih := bands_snoc (bs := d2 :: t) (y := y) (rs := rs) h.2.2.2.2.2 (fun e he => h2 e (by rw [List.getLast?_cons_cons]; exact he)) (fun e => by cases e) h4 h5
    exact ⟨h.1, h.2.1, h.2.2.1, h.2.2.2.1, h.2.2.2.2.1, ih⟩
theorem bands_ext : ∀ {bs : List Bd} {y0 : Int} {p : List Pt} {d : Bd} {b : Int}, BandsFrom y0 p (bs ++ [d]) → d.b ≤ b → BandsFrom y0 p (bs ++ [⟨d.t, b, d.rs⟩])
  | [], y0, p, d, b, h, k => ⟨h.1, h.2.1, by have := h.2.2.1; show d.t < b; omega, h.2.2.2.1, h.2.2.2.2.1, trivial⟩
  | c :: t, y0, p, d, b, h, k => ⟨h.1, h.2.1, h.2.2.1, h.2.2.2.1, h.2.2.2.2.1, bands_ext h.2.2.2.2.2 k⟩
theorem BandsFrom.each : ∀ {bs : List Bd} {y0 : Int} {p : List Pt}, BandsFrom y0 p bs → ∀ d ∈ bs, d.t < d.b ∧ d.rs ≠ [] ∧ RunsOk d.rs
  | [], _, _, _, d, h => by simp at h
  | c :: t, y0, p, h, d, hd => by
    rcases List.mem_cons.mp hd with rfl | hd
    · exact ⟨h.2.2.1, h.2.2.2.1, h.2.2.2.2.1⟩
    · exact BandsFrom.each h.2.2.2.2.2 d hd
theorem inBands_app {bs cs : List Bd} {x y : Int} : inBands (bs ++ cs) x y ↔ inBands bs x y ∨ inBands cs x y := by
  unfold inBands
  constructor
  · rintro ⟨q, hq, h⟩
    rcases List.mem_append.mp hq with z | z
    · exact .inl ⟨q, z, h⟩
    · exact .inr ⟨q, z, h⟩
  · rintro (⟨q, hq, h⟩ | ⟨q, hq, h⟩)
    · exact ⟨q, List.mem_append.mpr (.inl hq), h⟩
    · exact ⟨q, List.mem_append.mpr (.inr hq), h⟩
theorem inBands_one {d : Bd} {x y : Int} : inBands [d] x y ↔ d.t ≤ y ∧ y < d.b ∧ inRuns d.rs x := by
  rw [inBands_cons]
  constructor
  · rintro (h | h)
    · exact h
    · exact absurd h inBands_nil
  · exact .inl
theorem formOf_app (bs cs : List Bd) : formOf (bs ++ cs) = formOf bs ++ formOf cs := by
  unfold formOf
  rw [List.flatMap_append]
theorem formOf_one (d : Bd) : formOf [d] = bandRc d := by
  unfold formOf
  simp
theorem bandRc_len (d : Bd) : (bandRc d).length = d.rs.length := by
  unfold bandRc
  rw [List.length_map]

/-! ### bands in the heap; pb: the list that holds them -/
def BdV (pb : Addr) (H : Hp) (v : V) (d : Bd) : Prop := ∃ q r us, v = .ref q ∧ q ≠ pb ∧ r ≠ pb ∧ H q = some (.tup [.int d.t, .int d.b, .ref r]) ∧ H r = some (.lst us) ∧ PtsV H us d.rs
def Xb (pb : Addr) (H H' : Hp) : Prop := ∀ a o, a ≠ pb → H a = some o → H' a = some o
theorem BdV.to {pb : Addr} {H H' : Hp} {v : V} {d : Bd} (k : TK H H') (x : Xb pb H H') (h : BdV pb H v d) : BdV pb H' v d := by
  obtain ⟨q, r, us, rfl, nq, nr, h1, h2, h3⟩ := h
  exact ⟨q, r, us, rfl, nq, nr, x _ _ nq h1, x _ _ nr h2, h3.tk k⟩
theorem Xb.ex {pb : Addr} {H H' : Hp} (e : Ex H H') : Xb pb H H' := fun a o _ h => e a o h
theorem Xb.upd {pb : Addr} {H : Hp} {o : HO} : Xb pb H (upd H pb o) := fun a u n h => by rw [upd_ne n]; exact h
theorem Xb.trans {pb : Addr} {H H1 H2 : Hp} (a : Xb pb H H1) (b : Xb pb H1 H2) : Xb pb H H2 := fun x o n h => b x o n (a x o n h)
theorem pr_split {α β : Type} {G : α → β → Prop} : ∀ {l₁ : List α} {l₂ : List β} {a : α} {b : β}, Paired G (l₁ ++ [a]) (l₂ ++ [b]) → Paired G l₁ l₂ ∧ G a b
  | [], [], _, _, .cons h .nil => ⟨.nil, h⟩
  | [], [_], _, _, .cons _ t => nomatch t
  | [], _ :: _ :: _, _, _, .cons _ t => nomatch t
  | [_], [], _, _, .cons _ t => nomatch t
  | _ :: _ :: _, [], _, _, .cons _ t => nomatch t
  | c :: t, c2 :: t2, _, _, .cons h1 h2 => by
    have ih := pr_split (l₁ := t) (l₂ := t2) h2
    exact ⟨.cons h1 ih.1, ih.2⟩
theorem ixN_last (n : Nat) : ixN (n + 1) (-1) = some n := by
  unfold ixN
  rw [if_neg (by decide), if_pos (by omega)]
  congr 1
  omega
/-! ### points told as a dict's keys or as a list's items -/
def SrcAt (K : PySem.W.Frag) (H : Hp) (d : Addr) (pts : List Pt) : Prop := H d = some (.dT (mkd pts)) ∨ ∃ us, SqL K H d us ∧ PtsV H us pts
theorem SrcAt.mono {K : PySem.W.Frag} {H H' : Hp} {d : Addr} {pts : List Pt} (e : Ex H H') (h : SrcAt K H d pts) : SrcAt K H' d pts := by
  rcases h with h | ⟨us, h1, h2⟩
  · exact .inl (e _ _ h)
  · exact .inr ⟨us, ex_l e h1, h2.tk (TK.ex e)⟩
end Od

namespace Od
open PySem L2 Evl

/-! ### data that the heap bears -/
mutual
inductive Da (H : Hp) : V → PyData → Prop
  | non : Da H .non .none
  | bl (b : Bool) : Da H (.bl b) (.bool b)
  | int (i : Int) : Da H (.int i) (.int i)
  | str (x : Str) : Da H (.str x) (.str x)
  | lst {a : Addr} {xs : List V} {ds : List PyData} : H a = some (.lst xs) → DaAll H xs ds → ds.length ≤ 1000000 → Da H (.ref a) (.list ds)
  | tup {a : Addr} {xs : List V} {ds : List PyData} : H a = some (.tup xs) → DaAll H xs ds → ds.length ≤ 1000000 → Da H (.ref a) (.tuple ds)
inductive DaAll (H : Hp) : List V → List PyData → Prop
  | nil : DaAll H [] []
  | cons {v : V} {vs : List V} {d : PyData} {ds : List PyData} : Da H v d → DaAll H vs ds → DaAll H (v :: vs) (d :: ds)
end
mutual
theorem Da.mono {H H' : Hp} (e : Ex H H') : ∀ {v : V} {d : PyData}, Da H v d → Da H' v d
  | _, _, .non => .non
  | _, _, .bl b => .bl b
  | _, _, .int i => .int i
  | _, _, .str x => .str x
  | _, _, .lst h k l => .lst (e _ _ h) (DaAll.mono e k) l
  | _, _, .tup h k l => .tup (e _ _ h) (DaAll.mono e k) l
theorem DaAll.mono {H H' : Hp} (e : Ex H H') : ∀ {vs : List V} {ds : List PyData}, DaAll H vs ds → DaAll H' vs ds
  | _, _, .nil => .nil
  | _, _, .cons h k => .cons (Da.mono e h) (DaAll.mono e k)
end
mutual
theorem Da.dp {K : PySem.W.Frag} {H : Hp} : ∀ {v : V} {d : PyData}, Da H v d → Dp K H v d
  | _, _, .non => .non
  | _, _, .bl b => .bl b
  | _, _, .int i => .int i
  | _, _, .str x => .str x
  | _, _, .lst h k _ => .lst (SqL.of h) (DaAll.dp k)
  | _, _, .tup h k _ => .tup (SqT.of h) (DaAll.dp k)
theorem DaAll.dp {K : PySem.W.Frag} {H : Hp} : ∀ {vs : List V} {ds : List PyData}, DaAll H vs ds → DpAll K H vs ds
  | _, _, .nil => .nil
  | _, _, .cons h k => .cons (Da.dp h) (DaAll.dp k)
end
theorem DaAll.length {H : Hp} : ∀ {vs : List V} {ds : List PyData}, DaAll H vs ds → vs.length = ds.length
  | _, _, .nil => rfl
  | _, _, .cons _ k => by rw [List.length_cons, List.length_cons, DaAll.length k]
theorem DaAll.get {H : Hp} : ∀ {vs : List V} {ds : List PyData} {i : Nat} {d : PyData}, DaAll H vs ds → ds[i]? = some d → ∃ v, vs[i]? = some v ∧ Da H v d
  | _, _, _, _, .nil, e => by simp at e
  | _, _, 0, d, .cons h k, e => by
    simp at e
    subst e
    exact ⟨_, rfl, h⟩
  | _, _, i + 1, d, .cons h k, e => by
    obtain ⟨v, h1, h2⟩ := DaAll.get (i := i) (d := d) k (by simpa using e)
    exact ⟨v, by simpa using h1, h2⟩
theorem da_ints {H : Hp} : ∀ ns : List Int, DaAll H (ns.map V.int) (ns.map PyData.int)
  | [] => .nil
  | n :: ns => .cons (.int n) (da_ints ns)
theorem PtV.da {H : Hp} {v : V} {q : Pt} (h : PtV H v q) : Da H v (ptD q) := by
  obtain ⟨p, rfl, h⟩ := h
  exact .tup h (da_ints [q.1, q.2]) (by simp)
theorem RcV.da {H : Hp} {v : V} {q : Rc} (h : RcV H v q) : Da H v (rcD q) := by
  obtain ⟨p, rfl, h⟩ := h
  exact .tup h (da_ints [q.l, q.t, q.r, q.b]) (by simp)
theorem da_all {α : Type} {H : Hp} {G : V → α → Prop} {f : α → PyData} (h : ∀ v x, G v x → Da H v (f x)) : ∀ {vs : List V} {xs : List α}, Paired G vs xs → DaAll H vs (xs.map f)
  | _, _, .nil => .nil
  | _, _, .cons r t => .cons (h _ _ r) (da_all h t)
theorem da_pts {H : Hp} {a : Addr} {us : List V} {qs : List Pt} (h : H a = some (.lst us)) (r : PtsV H us qs) (hl : qs.length ≤ 1000000) : Da H (.ref a) (ptsD qs) := .lst h (da_all (fun _ _ z => PtV.da z) r) (by rw [List.length_map]; exact hl)
theorem da_rcs {H : Hp} {a : Addr} {us : List V} {qs : List Rc} (h : H a = some (.lst us)) (r : RcsV H us qs) (hl : qs.length ≤ 1000000) : Da H (.ref a) (rcsD qs) := .lst h (da_all (fun _ _ z => RcV.da z) r) (by rw [List.length_map]; exact hl)
theorem depth_mem {d : PyData} : ∀ {ds : List PyData} {i : Nat}, ds[i]? = some d → d.depth ≤ PyData.depthAll ds
  | [], i, h => by simp at h
  | x :: xs, 0, h => by
    simp at h
    subst h
    rw [PyData.depthAll]
    exact Nat.le_max_left _ _
  | x :: xs, i + 1, h => by
    have := depth_mem (d := d) (ds := xs) (i := i) (by simpa using h)
    rw [PyData.depthAll]
    exact Nat.le_trans this (Nat.le_max_right _ _)
theorem lay_mem {d : PyData} : ∀ {ds : List PyData} {i : Nat}, PyData.canLayAll0 ds = true → ds[i]? = some d → d.canLay0 = true
  | [], i, _, h => by simp at h
  | x :: xs, 0, k, h => by
    simp at h
    subst h
    rw [PyData.canLayAll0, Bool.and_eq_true] at k
    exact k.1
  | x :: xs, i + 1, k, h => by
    rw [PyData.canLayAll0, Bool.and_eq_true] at k
    exact lay_mem (d := d) (ds := xs) (i := i) k.2 (by simpa using h)
theorem eqv_self {d : PyData} (h : d.canLay0 = true) : PyData.eqv d d = true := PySem.SeqAt.eqv_refl d h
theorem Da.kinds {H : Hp} {v w : V} {d : PyData} (hv : Da H v d) (hw : Da H w d) : (∃ t, Kn H v t ∧ Kn H w t ∧ isA t "tuple" = false ∧ isA t "list" = false) ∨
    ∃ ds av aw xs ys T, v = .ref av ∧ w = .ref aw ∧ DaAll H xs ds ∧ DaAll H ys ds ∧ ds.length ≤ 1000000 ∧ Kn H v T ∧ Kn H w T ∧ (T = "list" ∧ H av = some (.lst xs) ∧ H aw = some (.lst ys) ∧ d = .list ds ∨ T = "tuple" ∧ H av = some (.tup xs) ∧ H aw = some (.tup ys) ∧ d = .tuple ds) := by
  cases hv with
  | non => cases hw; exact .inl ⟨_, .non, .non, by decide +kernel, by decide +kernel⟩
  | bl b => cases hw; exact .inl ⟨_, .bl b, .bl b, by decide +kernel, by decide +kernel⟩
  | int b => cases hw; exact .inl ⟨_, .int b, .int b, by decide +kernel, by decide +kernel⟩
  | str b => cases hw; exact .inl ⟨_, .str b, .str b, by decide +kernel, by decide +kernel⟩
  | lst h k l =>
    cases hw with
    | lst h' k' l' => exact .inr ⟨_, _, _, _, _, _, rfl, rfl, k, k', l, .lst h, .lst h', .inl ⟨rfl, h, h', rfl⟩⟩
  | tup h k l =>
    cases hw with
    | tup h' k' l' => exact .inr ⟨_, _, _, _, _, _, rfl, rfl, k, k', l, .tup h, .tup h', .inr ⟨rfl, h, h', rfl⟩⟩
end Od

namespace Od
open PySem L2 Evl

/-! ### a set moved -/
def mvP (dx : Int) (q : Pt) : Pt := (q.1 + dx, q.2 + dx)
def mvB (dx dy : Int) (d : Bd) : Bd := ⟨d.t + dy, d.b + dy, d.rs.map (mvP dx)⟩
def mvR (dx dy : Int) (q : Rc) : Rc := ⟨q.l + dx, q.t + dy, q.r + dx, q.b + dy⟩
theorem mvP_inj {dx : Int} {a b : Pt} (h : mvP dx a = mvP dx b) : a = b := by
  unfold mvP at h
  injection h with h1 h2
  exact Prod.ext (by omega) (by omega)
theorem map_mvP_inj {dx : Int} : ∀ {rs ss : List Pt}, rs.map (mvP dx) = ss.map (mvP dx) → rs = ss
  | [], [], _ => rfl
  | [], _ :: _, h => by simp at h
  | _ :: _, [], h => by simp at h
  | a :: rs, b :: ss, h => by
    rw [List.map_cons, List.map_cons] at h
    injection h with h1 h2
    rw [mvP_inj h1, map_mvP_inj h2]
theorem runs_mv {dx : Int} : ∀ {rs : List Pt} {b : Int}, RunsFrom b rs → RunsFrom (b + dx) (rs.map (mvP dx))
  | [], _, _ => trivial
  | q :: t, b, h => ⟨by have := h.1; show b + dx < q.1 + dx; omega, by have := h.2.1; show q.1 + dx < q.2 + dx; omega, runs_mv h.2.2⟩
theorem inRuns_mv {dx : Int} {rs : List Pt} {x : Int} : inRuns (rs.map (mvP dx)) x ↔ inRuns rs (x - dx) := by
  constructor
  · rintro ⟨q, hq, h1, h2⟩
    obtain ⟨p, hp, rfl⟩ := List.mem_map.mp hq
    exact ⟨p, hp, by unfold mvP at h1; dsimp only at h1; omega, by unfold mvP at h2; dsimp only at h2; omega⟩
  · rintro ⟨p, hp, h1, h2⟩
    exact ⟨mvP dx p, List.mem_map.mpr ⟨p, hp, rfl⟩, by unfold mvP; dsimp only; omega, by unfold mvP; dsimp only; omega⟩
theorem bands_mv {dx dy : Int} : ∀ {bs : List Bd} {y : Int} {p : List Pt}, BandsFrom y p bs → BandsFrom (y + dy) (p.map (mvP dx)) (bs.map (mvB dx dy))
  | [], _, _, _ => trivial
  | d :: t, y, p, h => by
    refine ⟨by have := h.1; show y + dy ≤ d.t + dy; omega, fun e z => h.2.1 ?_ (map_mvP_inj z), by have := h.2.2.1; show d.t + dy < d.b + dy; omega, fun z => h.2.2.2.1 (List.map_eq_nil_iff.mp z), ?_, bands_mv h.2.2.2.2.2⟩
    · have e : y + dy = d.t + dy := e
      omega
    · obtain ⟨b, hb⟩ := h.2.2.2.2.1
      exact ⟨_, runs_mv hb⟩
theorem inBands_mv {dx dy : Int} {bs : List Bd} {x y : Int} : inBands (bs.map (mvB dx dy)) x y ↔ inBands bs (x - dx) (y - dy) := by
  constructor
  · rintro ⟨d, hd, h1, h2, h3⟩
    obtain ⟨c, hc, rfl⟩ := List.mem_map.mp hd
    have h1 : c.t + dy ≤ y := h1
    have h2 : y < c.b + dy := h2
    exact ⟨c, hc, by omega, by omega, inRuns_mv.mp h3⟩
  · rintro ⟨c, hc, h1, h2, h3⟩
    exact ⟨mvB dx dy c, List.mem_map.mpr ⟨c, hc, rfl⟩, by show c.t + dy ≤ y; omega, by show y < c.b + dy; omega, inRuns_mv.mpr h3⟩
theorem formOf_mv {dx dy : Int} : ∀ bs : List Bd, formOf (bs.map (mvB dx dy)) = (formOf bs).map (mvR dx dy)
  | [] => rfl
  | d :: t => by
    have ih := formOf_mv (dx := dx) (dy := dy) t
    unfold formOf at ih ⊢
    rw [List.map_cons, List.flatMap_cons, List.flatMap_cons, List.map_append, ih]
    congr 1
    unfold bandRc mvB
    dsimp only
    rw [List.map_map, List.map_map]
    rfl
theorem IsForm.mv {S : Int → Int → Prop} {f : List Rc} (dx dy : Int) (h : IsForm S f) : IsForm (fun x y => S (x - dx) (y - dy)) (f.map (mvR dx dy)) := by
  obtain ⟨y, bs, h1, h2, rfl⟩ := h
  exact ⟨y + dy, bs.map (mvB dx dy), bands_mv h1, fun x y' => by rw [inBands_mv, h2], (formOf_mv bs).symm⟩
theorem mv_back {dx dy : Int} (f : List Rc) : (f.map (mvR dx dy)).map (mvR (-dx) (-dy)) = f := by
  rw [List.map_map]
  have e : (mvR (-dx) (-dy) ∘ mvR dx dy) = id := by
    funext q
    cases q
    unfold mvR
    simp only [Function.comp, id]
    congr 1 <;> omega
  rw [e, List.map_id]
end Od

namespace Od
open PySem L2 Evl PySem.Spec PyProof.Rows

/-! ### defs that are run where no repr is under way -/
def Gd (A : Around) : Prop := A.guards = some []
theorem Gd.deeper {A : Around} (g : Gd A) (env : Env) : Gd (A.deeper env) := g
structure FnG (P : Program) (w : World) (K : PySem.W.Frag) (mg : Str → Option Value) (base : Heap) (CX : CXT) (k : Nat) (f : Addr) (fd : FuncData) (ps : List Str) (sp : Sp) : Prop where
  len : ∀ vs H Q E, sp vs H Q E → vs.length = ps.length
  run : ∀ (A : Around) (outer : List Env) (s : Shared) (H : Hp) (args : Args) (us : List Value) (vs : List V) (Q : VK) (E : XK), Gd A → Room k A → Env0 P w K mg base A outer s H →
    BindsTo s fd args (ps.zip us) → Vals vs us → sp vs H Q E → codeAny (model P w) A (.call (.ref f) args) (CR CX outer P w H s Q E) s
section
variable {CX : CXT} {P : Program} {w : World} {K : PySem.W.Frag} {mg : Str → Option Value} {base : Heap} {k : Nat} {f : Addr} {fd : FuncData} {N ps : List Str} {sp : Sp}
theorem FnG.of (F : FnOk P w K mg base CX k f fd ps sp) : FnG P w K mg base CX k f fd ps sp := ⟨F.len, fun A o s H a us vs Q E _ => F.run A o s H a us vs Q E⟩
/-- a body's walk, where no repr is under way -/
theorem Fun.okG {x qual : Str} {st : Stmt} (F : Fun K x qual st f fd) (S : FnScope N ps (defScope st)) (len : ∀ vs H Q E, sp vs H Q E → vs.length = ps.length)
    (hb : ∀ (cdv : Value) (A : Around) (outer : List Env) (s : Shared) (H : Hp) (vs : List V) (Q : VK) (E : XK), Gd (A.deeper (envOfC qual (defScope st) s.heap.objs.size f cdv)) → Room k (A.deeper (envOfC qual (defScope st) s.heap.objs.size f cdv)) → sp vs H Q E →
      ∃ t, PSs (cxOf CX0 P w K mg base N qual (defScope st) f cdv A outer s H E).nox (defBody st) t ∧ t { nx := fun _ H' => Q .non H', rt := Q } (L2.start N vs) H) : FnG P w K mg base CX0 (k + 1) f fd ps sp := by
  obtain ⟨oc, od, kV, doc, pm, an, cdv, ct, osl, rfl, lk, hcd⟩ := F.ex
  refine ⟨len, fun A o s H args us vs Q E gd rm env bnd rel prom => ?_⟩
  have eqlen := len vs H Q E prom
  have kin : K.In s.heap := env.mod.kin.keeps fun b ob e => (env.bs b ob e).1
  have nol : s.heap.NoLimit := env.mod.nolimit.keeps fun b ob e => (env.bs b ob e).1
  have places : ∀ y ∈ ps.zip us, (defScope st).names.lookup y.1 = some .local ∨ ((defScope st).names.lookup y.1 = some .cell ∧ ((cellsFrom (s.heap.objs.size + 1) (defScope st).names []).lookup y.1).isSome = true) := by
    rintro ⟨n, v⟩ hy
    rcases S.par n (List.of_mem_zip hy).1 with z | z
    · exact Or.inl z
    · exact Or.inr ⟨z, PySem.W.cellsFrom_some _ _ _ (Or.inl z)⟩
  refine codeAny_call_function rm.depth (kin _ _ lk) rfl S.co S.gen rfl (PySem.W.codeRec_of kin hcd) (bnd _ _ _ _ ?_)
  refine wpAny_newFunctionEnv_cells S.kind places fun e2 he2 s1 inC => ?_
  subst he2
  refine ⟨nol.keeps inC.toInCall.keep, codeAny_func ?_⟩
  obtain ⟨t, walk, read⟩ := hb cdv A o s H vs Q E (gd.deeper _) (rm.deeper _) prom
  have inv := inv_start (E := E) (CX := CX0) S rm.hd env eqlen rel inC
  refine wpAny_mono (walk.nox.run [] s1 _ H _ inv read) (fun fl s' done => ?_) (fun e s' done => done)
  have give : ∀ {σ' : L2.St} {H' : Hp} {v : V} {u : Value}, Inv (cxOf CX0 P w K mg base N qual (defScope st) f cdv A o s H E) [] σ' H' s' → RelV v u → Q v H' → CE o P w H s Q u s' := by
    intro σ' H' v u J rv qq
    exact ⟨v, H', J.os, J.bare, J.base, J.hok, rv, qq⟩
  match fl, done with
  | .ret u, ⟨v, σ', H', J, rv, qq⟩ => exact give J rv qq
  | .next, ⟨σ', H', J, qq⟩ => exact give (v := V.non) (u := Value.none) J rfl qq
  | .brk, ⟨_, _, _, z⟩ => exact z.elim
  | .cont, ⟨_, _, _, z⟩ => exact z.elim
end
section
variable {X : Cx} {CX : CXT} {k : Nat} {f : Addr} {fd : FuncData} {ps : List Str} {sp : Sp} {dvs : List V} {ds : List Value} {E : XK} {x : Str} {p pos : Pos} {e : Expr} {es : List Expr} {t : TA}
theorem run_g {pins : List (Addr × Obj)} {σ : L2.St} {H : Hp} {s : Shared} {Q : VK} {us : List Value} {vs : List V} (F : FnG X.prog X.w X.K X.mg X.base CX k f fd ps sp) (gd : Gd X.A) (rm : Room k X.A) (hb : L2.Binds X.K fd ps ds) (hd : Vals dvs ds) (hx : Passes CX X E) (I : Inv X pins σ H s) (r : Vals vs us)
    (h : sp (vs ++ dvs) H Q E) : wpAny (model X.prog X.w) X.A (call (.ref f) us) (EP X pins σ Q) X.xe s := by
  have both : Vals (vs ++ dvs) (us ++ ds) := Vals.append r hd
  have hlen : (us ++ ds).length = ps.length := both.length.symm.trans (F.len _ _ _ _ h)
  refine wpAny_call (codeAny_mono (F.run X.A X.stack s H ⟨us, []⟩ (us ++ ds) (vs ++ dvs) Q E gd rm I.env0 (hb s us I.kIn hlen) both h) ?_)
  intro res s' out
  match res, out with
  | .error e, out => exact hx pins σ H s e s' I out
  | .ok (.ret u), out => exact I.after out
theorem pe_callG (F : FnG X.prog X.w X.K X.mg X.base CX k f fd ps sp) (gd : Gd X.A) (rm : Room k X.A) (hg : Gl X x) (hm : X.mg x = some (.ref f)) (hk : PySem.W.keepIn X.K (.ref f) = true) (hb : L2.Binds X.K fd ps ds) (hd : Vals dvs ds) (hx : Passes CX X E) (ha : PA X (e :: es) t)
    (hdb : (x == ("__debug__" : Str)) = false := by decide) (he : starEach (e :: es) X.env = (false, eval e X.env) :: starEach es X.env := by rfl) (hpl : (backTo pos (starEach es X.env)).any (·.1) = false := by rfl) : PE X (.Call (.Name x p) (e :: es) [] pos) (tCall sp dvs E t) := by
  constructor
  intro pins s σ H Q I h
  refine wpAny_Call_Name_kw (ld_glob I hg hm ?_ hdb)
  refine PySem.W.callWith_K (h₀ := X.base) I.ok.mod.kin hk (thn (ha.run pos pins s σ H _ I h) ?_) he hpl
  rintro us s1 ⟨vs, H1, I1, rel, qq⟩
  exact ⟨I1.kIn, run_g F gd rm hb hd hx I1 rel qq⟩
end
structure DefG (P : Program) (w : World) (K : PySem.W.Frag) (mg : Str → Option Value) (base : Heap) (CX : CXT) (x : Str) (k : Nat) (ps : List Str) (sp : Sp) where
  f : Addr
  fd : FuncData
  ok : FnG P w K mg base CX k f fd ps sp
  mgf : mg x = some (.ref f)
  kp : PySem.W.keepIn K (.ref f) = true
  b : L2.Binds K fd ps []

/-! ### repr of data -/
/-- what stands in a list or tuple is data of this kind (no dict in it) -/
def rRepr (K : PySem.W.Frag) : List V → Hp → VK → Prop := fun vs H Q => ∃ a d, vs = [.ref a] ∧ Dp K H (.ref a) d ∧ d.showable = true ∧ d.hasDict = false ∧ d.depth ≤ 60 ∧ d.shown.length ≤ sizeLine ∧ Q (.str d.shown) H
theorem krepr {X : Cx} (K : PySem.W.Frag) (gd : Gd X.A) (hu : X.A.units + 64 < cLine) (h : X.K = K := by rfl) : CallR X (.builtin "repr") (rRepr K) := by
  subst h
  intro pins s σ H vs us Q I r q
  obtain ⟨a, d, rfl, hd, h1, h2, h3, h4, q⟩ := q
  obtain rfl := Vals.ref1 r
  obtain ⟨as, rd⟩ := Dp.reads I d (.ref a) (.ref a) hd rfl
  refine repr_of_reads' rd h1 (fun z => by rw [h2] at z; cases z) gd (by omega) (fun _ _ e => e) (fun h' u tk hk => ?_) h4
  exact ⟨.str d.shown, H, I.kept (t' := tk) hk, ⟨u, rfl⟩, q⟩
end Od

namespace Od
open PySem L2 Evl PySem.Spec PyProof.Rows

/-! ### the law's own call, where no repr is under way -/
/-- the call of the law at fa with the script at a ends, gives True, and leaves what stood -/
def LawEnds (P : Program) (w : World) (fa a : Addr) (t : Shared) : Prop := codeAny (model P w) callerA (.call (.ref fa) ⟨[.ref a], []⟩) (fun r s' => r = .ok (.ret (.bool true)) ∧ OldK t.heap s'.heap ∧ s'.os = t.os ∧ AllBare s'.gens) t
section
variable {P : Program} {w : World} {K : PySem.W.Frag} {mg mb : Str → Option Value} {k : Nat} {fa a : Addr} {fd : FuncData} {x : Str} {sp : Sp} {s₁ : Shared} {vs : List Value} {ns : List Int}
/-- from an abstract heap in which at most the script stands -/
theorem end_core (kin : K.In s₁.heap) (hns : s₁.heap.Ns mainGlobals mg) (hb : s₁.heap.Ns builtinsNs mb) (hbb : ∀ x : Str, x ≠ "__name__" → mb x = bootBuiltins x) (nol : s₁.heap.NoLimit) (hg : s₁.gens = #[])
    (ha : s₁.heap.get? a = some { cls := .type "list", data := .seq vs.toArray }) (rm : Room k callerA)
    (F : ∀ base : Heap, K.In base → base.Ns mainGlobals mg → FnG P w K mg base CX0 k fa fd [x] sp) (bnd : ∀ (s : Shared) (u : Value), BindsTo s fd ⟨[u], []⟩ [(x, u)])
    (prom : ∀ H : Hp, Only H → SqL K H a (ns.map V.int) → sp [.ref a] H (fun v _ => v = .bl true) fun _ _ _ => False) {H : Hp}
    (only : Only H) (sq : SqL K H a (ns.map V.int)) (hok : HOk P w H s₁.heap) (alone : ∀ b, H b ≠ none → b = a) (notK : H a ≠ none → K.lookup a = none) :
    LawEnds P w fa a s₁ := by
  -- a dict is not the script
  have dictFree : ∀ {b : Addr} {o : Obj} {es : Array DictEntry} {ep : Nat}, s₁.heap.get? b = some o → o.data = .dict es ep → H b = none := by
    intro b o es ep e d
    by_cases z : H b = none
    · exact z
    · have := alone b z
      rw [this, ha] at e
      cases e
      cases (show Data.seq vs.toArray _ = Data.dict es ep from d)
  have space : ∀ {b : Addr} {m : Str → Option Value}, s₁.heap.Ns b m → (hidT s₁.heap H).Ns b m := by
    rintro b m ⟨o, es, ep, e, d, r⟩
    exact ⟨o, es, ep, hidT_get e (dictFree e d), d, r⟩
  have kinB : K.In (hidT s₁.heap H) := by
    intro b o e
    refine hidT_get (kin b o e) ?_
    by_cases z : H b = none
    · exact z
    · have q := alone b z
      subst q
      rw [notK z] at e
      cases e
  obtain ⟨mc, l1, l2⟩ := nol
  have md : Mod K mg (hidT s₁.heap H) := ⟨kinB, space hns, ⟨mb, space hb, hbb⟩, ⟨mc, space l1, l2⟩⟩
  have env : Env0 P w K mg (hidT s₁.heap H) callerA [] s₁ H := ⟨rfl, md, fun b o e => of_hidT e, Nat.le_of_eq (hidT_size _ _), trivial, fun b z => absurd z (show b ∉ ([] : List Addr) by simp), hok, .of_eq hg⟩
  refine codeAny_mono ((F _ kinB (space hns)).run callerA [] s₁ H ⟨[.ref a], []⟩ [.ref a] [.ref a] _ _ rfl rm env (bnd s₁ (.ref a)) (.cons rfl .nil) (prom H only sq)) ?_
  intro r s' out
  match r, out with
  | .ok (.ret u), ⟨v, H', os, bare, un, hok', rv, qv⟩ =>
    have ev : v = .bl true := qv
    subst ev
    obtain rfl : u = Value.bool true := rv
    refine ⟨rfl, OldK.of_keep fun b o e => ?_, os, bare⟩
    by_cases z : H b = none
    · exact un.keep b o e z (show b ∉ frs [] by intro q; exact absurd (show b ∈ ([] : List Addr) from q) (by simp)) (by simp)
    · rcases only b with q | ⟨ob, xs, q⟩
      · exact absurd q z
      · obtain ⟨f1, _⟩ := hok b _ q
        obtain ⟨f2, _⟩ := hok' b _ (un.frzs b ob _ q)
        rw [e] at f1
        cases f1
        exact f2
theorem end_call (kin : K.In s₁.heap) (hns : s₁.heap.Ns mainGlobals mg) (hb : s₁.heap.Ns builtinsNs mb) (hbb : ∀ x : Str, x ≠ "__name__" → mb x = bootBuiltins x) (nol : s₁.heap.NoLimit) (hg : s₁.gens = #[])
    (ha : s₁.heap.get? a = some { cls := .type "list", data := .seq vs.toArray }) (hi : IntsAre vs ns) (hl : ns.length ≤ sizeLine) (rm : Room k callerA)
    (F : ∀ base : Heap, K.In base → base.Ns mainGlobals mg → FnG P w K mg base CX0 k fa fd [x] sp) (bnd : ∀ (s : Shared) (u : Value), BindsTo s fd ⟨[u], []⟩ [(x, u)])
    (prom : ∀ H : Hp, Only H → SqL K H a (ns.map V.int) → sp [.ref a] H (fun v _ => v = .bl true) fun _ _ _ => False) :
    LawEnds P w fa a s₁ := by
  have rel := vals_ints hi
  have hlen := hi.length
  cases hk : K.lookup a with
  | some o =>
    have e := kin a o hk
    rw [ha] at e
    cases e
    refine end_core kin hns hb hbb nol hg ha rm F bnd prom (H := fun _ => none) (fun _ => Or.inl rfl) (Or.inr ⟨_, vs.toArray, _, hk, rfl, rfl, rfl, ?_, by simpa using rel⟩) (fun b u z => nomatch (show (none : Option HO) = some u from z)) (fun b z => absurd rfl z) (fun z => absurd rfl z)
    rw [List.size_toArray, hlen]
    exact hl
  | none =>
    have one : ∀ b, (fun b => if b = a then some (HO.frz { cls := .type "list", data := .seq vs.toArray } (.lst (ns.map V.int))) else none : Hp) b ≠ none → b = a := by
      intro b z
      by_cases q : b = a
      · exact q
      · exact absurd (if_neg q) z
    refine end_core kin hns hb hbb nol hg ha rm F bnd prom (H := fun b => if b = a then some (.frz { cls := .type "list", data := .seq vs.toArray } (.lst (ns.map V.int))) else none) (fun b => ?_) (Or.inl (Or.inr ⟨_, if_pos rfl⟩)) (fun b u z => ?_) one (fun _ => hk)
    · by_cases q : b = a
      · exact Or.inr ⟨_, _, if_pos q⟩
      · exact Or.inl (if_neg q)
    · by_cases q : b = a
      · have z2 := (if_pos q).symm.trans z
        cases z2
        subst q
        exact ⟨ha, by rw [List.length_map]; exact hl, vs, _, rel, ha⟩
      · have z2 := (if_neg q).symm.trans z
        cases z2
end
theorem walk_g {l : PySem.W.OpenLaw} {n k : Nat} {q : Program} {loose : List Str} {XP : (Str → Option Value) → Heap → Prop} {YP : World → Heap → Prop} {d : DefRec} {K : Params → PySem.W.Frag} {sp : World → Sp} {x : Str}
    (hn : l.most = some n) (hn2 : n ≤ sizeLine) (hdf : d.params.defaults = []) (rm : Room k callerA)
    (written : ∀ (w : World) (h : Heap), YP w h → (K w.params).In h) (F : ∀ (w : World) (mg : Str → Option Value) (fa : Addr) (h : Heap), (K w.params).In h → h.Ns mainGlobals mg → mg d.name = some (.ref fa) → ∃ fd : FuncData, (∀ (s : Shared) (u : Value), BindsTo s fd ⟨[u], []⟩ [(x, u)]) ∧ ∀ base : Heap, (K w.params).In base → base.Ns mainGlobals mg → FnG l.prog w (K w.params) mg base CX0 k fa fd [x] (sp w))
    (prom : ∀ (w : World) (H : Hp) (a : Addr) (ns : List Int), ns.length ≤ n → Only H → SqL (K w.params) H a (ns.map V.int) → sp w [.ref a] H (fun v _ => v = .bl true) fun _ _ _ => False) :
    PySem.W.WalkO q loose XP YP l.row.toRowW d [] (fun g us => PySem.call g us) := by
  refine Att.attach_call hn hdf ?_
  intro w s₀ s₁ mg mb fa o pm cd doc a vs ns G Y _ _ _ hmg hobj hints hlen hg
  have kin := written w _ Y
  obtain ⟨fd, bnd, fn⟩ := F w mg fa _ kin G.T.g hmg
  exact end_call kin G.T.g G.T.b G.T.builtins G.T.nolimit hg hobj hints (Nat.le_trans hlen hn2) rm fn bnd fun H hO hS => prom w H a ns hlen hO hS
end Od

namespace Od
open PySem L2 Evl PySem.Spec PyProof.Rows

/-! ### a tuple times 1 is the tuple itself -/
theorem tuple_once (l : Addr) (items : Array Value) (n : Nat) (dd : Option Addr) (sl : Array (Option Value)) (u : Tok) :
    Meets (Builtin.«tuple.__mul__» ⟨[.ref l, .int 1 u], []⟩) (fun _ R s => s.heap.get? l = some { cls := .type "tuple", dict := dd, data := .seq items n, slots := sl } ∧ R (.ok (.ret (.ref l))) s) :=
  .of_wp fun prog w A R s h => by
    obtain ⟨hp, g, d, tk, os⟩ := s
    obtain ⟨hl, h⟩ := h
    have f1 := AutoSeq1.idx_int
    have c1 : (items.isEmpty || (1 : Int) == 1) = true := by
      rw [show ((1 : Int) == 1) = true from rfl, Bool.or_true]
    wp_walk using AutoSeq1.wpAny_loadPart' hl
    exact ⟨_, rfl, h⟩
def rRep1 (K : PySem.W.Frag) : R2 := fun x y H Q => ∃ l xs, x = .ref l ∧ y = .int 1 ∧ SqT K H l xs ∧ Q (.ref l) H
theorem op_rep1 {X : Cx} : OpR X (binaryOp .Mult) (rRep1 X.K) := by
  intro pins s σ H x y v u Q I rx ry h
  obtain ⟨l, xs, rfl, rfl, hT, q⟩ := h
  cases rx
  obtain ⟨t, rfl⟩ := ry
  obtain ⟨its, r, ⟨⟨cls, dd, data, sl⟩, ho, hc, n, hd⟩, hs⟩ := I.tuple hT
  simp only at hc hd
  subst hc hd
  refine wpAny_binaryOp_repeat_ref (T := "tuple") (U := "int") (by decide) ⟨_, ho, rfl⟩ (fun s' => typeIs_int s' 1 t) noFill_tuple_mul F.fills_int_mul F.slot_int_rmul repeat_tuple F.slot_int_index.lookup
    (call_meets F.slot_int_rmul (typeIs_int s 1 t) F.entry_int_rmul (F.args_int_rmul_2 _ _) (int_rmul_tuple 1 t l its.toArray n dd sl)
      ⟨ho, rfl, ⟨_, ho, rfl⟩, call_meets F.slot_tuple_mul ⟨_, ho, rfl⟩ F.entry_tuple_mul (F.args_tuple_mul_2 _ _) (tuple_once l its.toArray n dd sl t) ⟨ho, ?_⟩⟩)
  exact ⟨.ref l, H, I, rfl, q⟩
structure RRep (K : PySem.W.Frag) (x y : V) (H : Hp) (Q : VK) : Prop where
  h : rRepT K x y H Q ∨ rRep1 K x y H Q
theorem krep {X : Cx} (K : PySem.W.Frag) (h : X.K = K := by rfl) : OpR X (binaryOp .Mult) (RRep K) := by
  subst h
  exact fun pins s σ H x y v u Q I rx ry q => (OpR.or op_repT op_rep1) pins s σ H x y v u Q I rx ry q.h
theorem repA {K : PySem.W.Frag} {H : Hp} {a : Addr} {x : V} {k : Int} {Q : VK} (h : H a = some (.tup [x])) (h1 : 1 ≤ k) (h2 : k ≤ 1000) (q : ∀ p H', Ex H H' → H' p = some (.tup (List.replicate k.toNat x)) → Q (.ref p) H') : RRep K (.ref a) (.int k) H Q := by
  refine .mk ?_
  by_cases e : k = 1
  · subst e
    exact .inr ⟨a, _, rfl, rfl, SqT.of h, q a H (Ex.refl _) h⟩
  · refine .inl ⟨a, k, _, rfl, rfl, SqT.of h, by simp, by omega, h2, by simp, fun p hp => q p _ (Ex.new hp) ?_⟩
    rw [upd_same]
    congr 2
    generalize k.toNat = m
    induction m with
    | zero => rfl
    | succ m ih => rw [List.replicate_succ, List.replicate_succ, List.flatten_cons, ih]; rfl

/-! ### data whose text is short -/
structure Sh (B : Nat) (d : PyData) : Prop where
  show_ : d.showable = true
  dict : d.hasDict = false
  short : d.leavesShort 13 = true
  wt : d.weight ≤ B
structure ShAll (B : Nat) (ds : List PyData) : Prop where
  show_ : PyData.showableAll ds = true
  dict : PyData.hasDictAll ds = false
  short : PyData.leavesShortAll 13 ds = true
  wt : PyData.weightAll ds ≤ B
theorem Sh.mono {B C : Nat} {d : PyData} (h : Sh B d) (e : B ≤ C) : Sh C d := ⟨h.1, h.2, h.3, Nat.le_trans h.4 e⟩
theorem ShAll.nil : ShAll 0 [] := ⟨rfl, rfl, rfl, Nat.le_refl _⟩
theorem ShAll.cons {B C : Nat} {d : PyData} {ds : List PyData} (h : Sh B d) (t : ShAll C ds) : ShAll (B + 1 + C) (d :: ds) := by
  refine ⟨?_, ?_, ?_, ?_⟩
  · simp only [PyData.showableAll, h.1, t.1, Bool.and_self]
  · simp only [PyData.hasDictAll, h.2, t.2, Bool.or_self]
  · simp only [PyData.leavesShortAll, h.3, t.3, Bool.and_self]
  · have h1 := h.4
    have h2 := t.4
    simp only [PyData.weightAll]
    omega
theorem ShAll.tup {B : Nat} {ds : List PyData} (t : ShAll B ds) : Sh B (.tuple ds) := ⟨by simpa only [PyData.showable] using t.1, by simpa only [PyData.hasDict] using t.2, by simpa only [PyData.leavesShort] using t.3, by simpa only [PyData.weight] using t.4⟩
theorem ShAll.lst {B : Nat} {ds : List PyData} (t : ShAll B ds) : Sh B (.list ds) := ⟨by simpa only [PyData.showable] using t.1, by simpa only [PyData.hasDict] using t.2, by simpa only [PyData.leavesShort] using t.3, by simpa only [PyData.weight] using t.4⟩
theorem sh_int {i : Int} (h1 : -1000000 ≤ i) (h2 : i ≤ 1000000) : Sh 20 (.int i) := by
  have hn : i.natAbs ≤ 1000000 := by omega
  have hl : i.natAbs ≠ 0 → i.natAbs.log2 < 20 := fun h => (Nat.log2_lt h).mpr (Nat.lt_of_le_of_lt hn (by decide))
  refine ⟨?_, rfl, ?_, ?_⟩
  · simp only [PyData.showable, decide_eq_true_eq]
    by_cases h : i.natAbs = 0
    · rw [h]
      decide
    · exact Nat.lt_trans (hl h) (by decide)
  · simp only [PyData.leavesShort, decide_eq_true_eq]
    exact PyData.shown_int_le2 (by omega) (by omega)
  · simp only [PyData.weight]
    by_cases h : i = 0
    · subst h
      decide
    · have : (i == 0) = false := beq_eq_false_iff_ne.mpr h
      rw [this]
      have := hl (by omega)
      show i.natAbs.log2 + 1 ≤ 20
      omega
theorem sh_ints : ∀ {ns : List Int}, (∀ n ∈ ns, -1000000 ≤ n ∧ n ≤ 1000000) → ShAll (21 * ns.length) (ns.map PyData.int)
  | [], _ => .nil
  | n :: ns, h => by
    have z := ShAll.cons (sh_int (h n (by simp)).1 (h n (by simp)).2) (sh_ints (ns := ns) fun m hm => h m (by simp [hm]))
    refine ⟨z.1, z.2, z.3, Nat.le_trans z.4 ?_⟩
    rw [List.length_cons]
    omega
theorem Sh.len {B : Nat} {d : PyData} (h : Sh B d) (hB : B ≤ 1000000) : d.shown.length ≤ sizeLine := by
  have h2 := PyData.shown_le 13 (by decide) d h.3
  have h4 := h.4
  have e : sizeLine = 16777216 := by decide
  omega
theorem reprA {K : PySem.W.Frag} {H : Hp} {a : Addr} {d : PyData} {B : Nat} {Q : VK} (hd : Dp K H (.ref a) d) (h : Sh B d) (hB : B ≤ 1000000) (hdp : d.depth ≤ 60) (q : Q (.str d.shown) H) : rRepr K [.ref a] H Q := ⟨a, d, rfl, hd, h.1, h.2, hdp, h.len hB, q⟩
end Od

namespace Od
open PySem L2 Evl

/-! ### pictures -/
structure Pc where
  w : Int
  h : Int
  vs : List Int
  cs : List Int
structure Pc.Ok (m : Int) (p : Pc) : Prop where
  w1 : 1 ≤ p.w
  w2 : p.w ≤ m
  h1 : 1 ≤ p.h
  h2 : p.h ≤ m
  vl : (p.vs.length : Int) = p.w * p.h
  cl : (p.cs.length : Int) = p.w * p.h
  vb : ∀ v ∈ p.vs, 0 ≤ v ∧ v ≤ 255
  cb : ∀ v ∈ p.cs, 0 ≤ v ∧ v ≤ 256
def PcV (H : Hp) (v : V) (p : Pc) : Prop := ∃ a va ca, v = .ref a ∧ H a = some (.tup [.int p.w, .int p.h, .ref va, .ref ca]) ∧ H va = some (.tup (p.vs.map V.int)) ∧ H ca = some (.tup (p.cs.map V.int))
theorem PcV.tk {H H' : Hp} {v : V} {p : Pc} (e : TK H H') (h : PcV H v p) : PcV H' v p := by
  obtain ⟨a, va, ca, rfl, h1, h2, h3⟩ := h
  exact ⟨a, va, ca, rfl, e _ _ h1, e _ _ h2, e _ _ h3⟩
def pcD (p : Pc) : PyData := .tuple [.int p.w, .int p.h, .tuple (p.vs.map PyData.int), .tuple (p.cs.map PyData.int)]
theorem PcV.dp {K : PySem.W.Frag} {H : Hp} {v : V} {p : Pc} (h : PcV H v p) : Dp K H v (pcD p) := by
  obtain ⟨a, va, ca, rfl, h1, h2, h3⟩ := h
  exact .tup (SqT.of h1) (.cons (.int _) (.cons (.int _) (.cons (.tup (SqT.of h2) (DaAll.dp (da_ints _))) (.cons (.tup (SqT.of h3) (DaAll.dp (da_ints _))) .nil))))
theorem area_le {w h m : Int} (w1 : 1 ≤ w) (w2 : w ≤ m) (h1 : 1 ≤ h) (h2 : h ≤ m) : 1 ≤ w * h ∧ w * h ≤ m * m := by
  have a : 1 * 1 ≤ w * h := Int.mul_le_mul w1 h1 (by omega) (by omega)
  have b : w * h ≤ m * m := Int.mul_le_mul w2 h2 (by omega) (by omega)
  exact ⟨a, b⟩
theorem Pc.Ok.area {m : Int} {p : Pc} (k : p.Ok m) : 1 ≤ p.w * p.h ∧ p.w * p.h ≤ m * m := area_le k.w1 k.w2 k.h1 k.h2
theorem place_lt {w h x y : Int} (x0 : 0 ≤ x) (x1 : x < w) (y0 : 0 ≤ y) (y1 : y < h) : 0 ≤ y * w + x ∧ y * w + x < w * h := by
  have a : 0 ≤ y * w := Int.mul_nonneg y0 (by omega)
  have b : (y + 1) * w ≤ h * w := Int.mul_le_mul_of_nonneg_right (by omega) (by omega)
  rw [Int.add_mul, Int.one_mul, Int.mul_comm h w] at b
  omega
theorem getD_at {ns : List Int} {i : Nat} (h : i < ns.length) : ns.getD i 0 = ns[i] := by
  rw [List.getD_eq_getElem?_getD, List.getElem?_eq_getElem h]
  rfl
/-- what stands at a point -/
def Pc.In (p : Pc) (x y : Int) : Prop := 0 ≤ x ∧ x < p.w ∧ 0 ≤ y ∧ y < p.h
instance (p : Pc) (x y : Int) : Decidable (p.In x y) := inferInstanceAs (Decidable (_ ∧ _))
def Pc.at (p : Pc) (x y : Int) : Pt := if p.In x y then (p.vs.getD (y * p.w + x).toNat 0, p.cs.getD (y * p.w + x).toNat 0) else (0, 0)
theorem at_bound {m : Int} {p : Pc} (k : p.Ok m) (x y : Int) : 0 ≤ (p.at x y).1 ∧ (p.at x y).1 ≤ 255 ∧ 0 ≤ (p.at x y).2 ∧ (p.at x y).2 ≤ 256 := by
  unfold Pc.at
  split
  · rename_i h
    obtain ⟨a, b, c, d⟩ := h
    obtain ⟨e, f⟩ := place_lt a b c d
    have e1 : (y * p.w + x).toNat < p.vs.length := by have := k.vl; omega
    have e2 : (y * p.w + x).toNat < p.cs.length := by have := k.cl; omega
    rw [getD_at e1, getD_at e2]
    exact ⟨(k.vb _ (List.getElem_mem e1)).1, (k.vb _ (List.getElem_mem e1)).2, (k.cb _ (List.getElem_mem e2)).1, (k.cb _ (List.getElem_mem e2)).2⟩
  · exact ⟨by decide, by decide, by decide, by decide⟩
/-- the item of a tuple of ints at a place -/
theorem atD {ns : List Int} {i : Int} (h0 : 0 ≤ i) (h1 : i < ns.length) : atI (ns.map V.int) i = some (.int (ns.getD i.toNat 0)) := by
  obtain ⟨m, rfl⟩ := Int.eq_ofNat_of_zero_le h0
  have hm : m < ns.length := by omega
  have e : ((m : Int)).toNat = m := by omega
  rw [e, getD_at hm]
  exact atI_nat (by rw [List.getElem?_map, List.getElem?_eq_getElem hm]; rfl)
def spPoint (K : PySem.W.Frag) : Sp := fun vs H Q _ => ∃ v x y p m, vs = [v, .int x, .int y] ∧ PcV H v p ∧ p.Ok m ∧ m ≤ 60 ∧ ∀ w H', Ex H H' → PtV H' w (p.at x y) → Q w H'
theorem sh_pic {m : Int} {p : Pc} (k : p.Ok m) (hm : m ≤ 60) : Sh 300000 (pcD p) := by
  have hv := sh_ints (ns := p.vs) fun n hn => by have := k.vb n hn; omega
  have hc := sh_ints (ns := p.cs) fun n hn => by have := k.cb n hn; omega
  have z := (ShAll.cons (sh_int (i := p.w) (by have := k.w1; omega) (by have := k.w2; omega)) (.cons (sh_int (i := p.h) (by have := k.h1; omega) (by have := k.h2; omega)) (.cons hv.tup (.cons hc.tup .nil)))).tup
  refine z.mono ?_
  have a := k.area.2
  have b : m * m ≤ 60 * 60 := Int.mul_le_mul hm hm (by have := k.w1; have := k.w2; omega) (by decide)
  have := k.vl
  have := k.cl
  omega
theorem depth_ints : ∀ ns : List Int, PyData.depthAll (ns.map PyData.int) = 0
  | [] => by simp only [List.map_nil, PyData.depthAll]
  | n :: ns => by
    rw [List.map_cons]
    simp only [PyData.depthAll, PyData.depth, depth_ints ns, Nat.max_self]
theorem depth_pic (p : Pc) : (pcD p).depth ≤ 60 := by
  simp only [pcD, PyData.depth, PyData.depthAll, depth_ints]
  decide
theorem canLay_ints : ∀ ns : List Int, PyData.canLayAll0 (ns.map PyData.int) = true
  | [] => by simp only [List.map_nil, PyData.canLayAll0]
  | n :: ns => by
    rw [List.map_cons]
    simp only [PyData.canLayAll0, PyData.canLay0, canLay_ints ns, Bool.and_self]
end Od

namespace Od
open PySem L2 Evl

/-! ### the turns of a block, whatever is done in a turn -/
theorem turns {J : It} {n : Nat} {G : Hp → Prop} {Y : Nat → Hp → V → Hp → Prop} (w : Walk J n G Y) {B : V → Hp → (Hp → Prop) → Prop} {H0 : Hp} {Qd : Hp → Prop} (Pv : Nat → Hp → Prop) (h0 : Pv 0 H0) (hG : ∀ i H, i ≤ n → Pv i H → G H)
    (hs : ∀ i x H H', i < n → Pv i H → Y i H x H' → B x H' (Pv (i + 1))) (hd : ∀ H, Pv n H → Qd H) :
    ∃ W : Nat → Nat → Hp → Prop, (∃ m, W 0 m H0) ∧ ∀ i m H, W i m H →
      (J.stop i H ∧ Qd H) ∨ (J.go i H ∧ ∃ Nx : Hp → Prop, (∀ H', Nx H' → ∃ m', m' < m ∧ W (i + 1) m' H') ∧ ∀ x H', J.yld i H x H' → B x H' Nx) := by
  refine ⟨fun i m H => m = n - i ∧ i ≤ n ∧ Pv i H, ⟨n, by simp, Nat.zero_le _, h0⟩, ?_⟩
  rintro i m H ⟨rfl, hi, p⟩
  have q := hG i H hi p
  by_cases hlt : i < n
  · exact .inr ⟨w.goes i H hlt q, Pv (i + 1), fun H' p' => ⟨n - (i + 1), by omega, rfl, hlt, p'⟩, fun x H' y => hs i x H H' hlt p (w.yields i H x H' hlt q y)⟩
  · have e : i = n := by omega
    subst e
    exact .inl ⟨w.stops H q, hd H p⟩
theorem turns_range {lo : Int} {n : Nat} {B : V → Hp → (Hp → Prop) → Prop} {H0 : Hp} {Qd : Hp → Prop} (Pv : Nat → Hp → Prop) (h0 : Pv 0 H0) (hs : ∀ i H, i < n → Pv i H → B (.int (lo + (i : Nat))) H (Pv (i + 1))) (hd : ∀ H, Pv n H → Qd H) :
    ∃ W : Nat → Nat → Hp → Prop, (∃ m, W 0 m H0) ∧ ∀ i m H, W i m H →
      ((Itr lo n).stop i H ∧ Qd H) ∨ ((Itr lo n).go i H ∧ ∃ Nx : Hp → Prop, (∀ H', Nx H' → ∃ m', m' < m ∧ W (i + 1) m' H') ∧ ∀ x H', (Itr lo n).yld i H x H' → B x H' Nx) :=
  turns walk_range Pv h0 (fun _ _ _ _ => trivial) (fun i x H H' hi p y => by
    obtain ⟨rfl, rfl⟩ := y
    exact hs i H' hi p) hd

/-! ### a picture made point by point -/
def cells (w h : Int) (g : Int → Int → Pt) : List Pt := (List.range (w * h).toNat).map fun (k : Nat) => g ((k : Int) % w) ((k : Int) / w)
def mkP (w h : Int) (g : Int → Int → Pt) : Pc := ⟨w, h, (cells w h g).map Prod.fst, (cells w h g).map Prod.snd⟩
theorem mkP_at {w h x y : Int} {g : Int → Int → Pt} (x0 : 0 ≤ x) (x1 : x < w) (y0 : 0 ≤ y) (y1 : y < h) : (mkP w h g).at x y = g x y := by
  obtain ⟨b0, b1⟩ := place_lt x0 x1 y0 y1
  unfold Pc.at
  rw [if_pos ⟨x0, x1, y0, y1⟩]
  have hk : (y * w + x).toNat < (w * h).toNat := by omega
  have e1 : ((y * w + x).toNat : Int) % w = x := by
    rw [Int.toNat_of_nonneg b0, Int.add_comm, Int.add_mul_emod_self_right, Int.emod_eq_of_lt x0 x1]
  have e2 : ((y * w + x).toNat : Int) / w = y := by
    rw [Int.toNat_of_nonneg b0, Int.add_comm, Int.add_mul_ediv_right _ _ (by omega), Int.ediv_eq_zero_of_lt x0 x1, Int.zero_add]
  have l1 : (y * w + x).toNat < ((cells w h g).map Prod.fst).length := by
    unfold cells
    rw [List.length_map, List.length_map, List.length_range]
    exact hk
  have l2 : (y * w + x).toNat < ((cells w h g).map Prod.snd).length := by
    unfold cells
    rw [List.length_map, List.length_map, List.length_range]
    exact hk
  show (((cells w h g).map Prod.fst).getD (y * w + x).toNat 0, ((cells w h g).map Prod.snd).getD (y * w + x).toNat 0) = g x y
  rw [getD_at l1, getD_at l2]
  simp only [cells, List.getElem_map, List.getElem_range]
  rw [e1, e2]
theorem mkP_out {w h x y : Int} {g : Int → Int → Pt} (no : ¬ (0 ≤ x ∧ x < w ∧ 0 ≤ y ∧ y < h)) : (mkP w h g).at x y = (0, 0) := by
  unfold Pc.at
  exact if_neg no
theorem mkP_ok {w h m : Int} {g : Int → Int → Pt} (w1 : 1 ≤ w) (w2 : w ≤ m) (h1 : 1 ≤ h) (h2 : h ≤ m) (hg : ∀ x y, 0 ≤ (g x y).1 ∧ (g x y).1 ≤ 255 ∧ 0 ≤ (g x y).2 ∧ (g x y).2 ≤ 256) : (mkP w h g).Ok m := by
  obtain ⟨a1, a2⟩ := area_le w1 w2 h1 h2
  refine ⟨w1, w2, h1, h2, ?_, ?_, ?_, ?_⟩
  · show (((cells w h g).map Prod.fst).length : Int) = w * h
    unfold cells
    rw [List.length_map, List.length_map, List.length_range]
    omega
  · show (((cells w h g).map Prod.snd).length : Int) = w * h
    unfold cells
    rw [List.length_map, List.length_map, List.length_range]
    omega
  · intro v hv
    obtain ⟨q, hq, rfl⟩ := List.mem_map.mp hv
    obtain ⟨k, _, rfl⟩ := List.mem_map.mp hq
    exact ⟨(hg _ _).1, (hg _ _).2.1⟩
  · intro v hv
    obtain ⟨q, hq, rfl⟩ := List.mem_map.mp hv
    obtain ⟨k, _, rfl⟩ := List.mem_map.mp hq
    exact (hg _ _).2.2
theorem pc_ext {p q : Pc} {m n : Int} (hp : p.Ok m) (hq : q.Ok n) (hw : p.w = q.w) (hh : p.h = q.h) (h : ∀ x y, p.In x y → p.at x y = q.at x y) : p = q := by
  obtain ⟨w, hg, vs, cs⟩ := p
  obtain ⟨w', hg', vs', cs'⟩ := q
  dsimp only at hw hh
  subst hw hh
  have vl := hp.vl
  have cl := hp.cl
  have vl' := hq.vl
  have cl' := hq.cl
  dsimp only at vl cl vl' cl'
  have w1 := hp.w1
  dsimp only at w1
  have key : ∀ k : Nat, k < vs.length → vs.getD k 0 = vs'.getD k 0 ∧ cs.getD k 0 = cs'.getD k 0 := by
    intro k hk
    have d := Int.emod_add_mul_ediv (k : Int) w
    have x0 := Int.emod_nonneg (k : Int) (b := w) (by omega)
    have x1 := Int.emod_lt_of_pos (k : Int) (b := w) (by omega)
    have y0 : 0 ≤ (k : Int) / w := Int.ediv_nonneg (by omega) (by omega)
    have y1 : (k : Int) / w < hg := by
      refine Int.ediv_lt_of_lt_mul (by omega) ?_
      rw [Int.mul_comm]
      omega
    have hin : (⟨w, hg, vs, cs⟩ : Pc).In ((k : Int) % w) ((k : Int) / w) := ⟨x0, x1, y0, y1⟩
    have e := h _ _ hin
    have hin' : (⟨w, hg, vs', cs'⟩ : Pc).In ((k : Int) % w) ((k : Int) / w) := ⟨x0, x1, y0, y1⟩
    unfold Pc.at at e
    rw [if_pos hin, if_pos hin'] at e
    dsimp only at e
    have ek : (((k : Int) / w) * w + (k : Int) % w).toNat = k := by
      rw [Int.mul_comm]
      omega
    rw [ek] at e
    exact ⟨(Prod.mk.inj e).1, (Prod.mk.inj e).2⟩
  have e1 : vs = vs' := by
    refine List.ext_getElem (by omega) fun k h1 h2 => ?_
    have := (key k h1).1
    rw [getD_at h1, getD_at h2] at this
    exact this
  have e2 : cs = cs' := by
    refine List.ext_getElem (by omega) fun k h1 h2 => ?_
    have := (key k (by omega)).2
    rw [getD_at h1, getD_at h2] at this
    exact this
  subst e1 e2
  rfl
/-- row by row -/
theorem cells_take {w h : Int} {g : Int → Int → Pt} {i j : Nat} (hj : (j : Int) < w) (hi : (i : Int) < h) : (cells w h g).take (i * w.toNat + j + 1) = (cells w h g).take (i * w.toNat + j) ++ [g j i] := by
  obtain ⟨b0, b1⟩ := place_lt (x := (j : Int)) (y := (i : Int)) (by omega) hj (by omega) hi
  have hw : ((i * w.toNat + j : Nat) : Int) = (i : Int) * w + j := by
    rw [Int.natCast_add, Int.natCast_mul, Int.toNat_of_nonneg (by omega)]
  have hk : i * w.toNat + j < (w * h).toNat := by omega
  rw [List.take_add_one]
  congr 1
  unfold cells
  rw [List.getElem?_map, List.getElem?_range hk]
  show [g (((i * w.toNat + j : Nat) : Int) % w) (((i * w.toNat + j : Nat) : Int) / w)] = _
  rw [hw, Int.add_comm, Int.add_mul_emod_self_right, Int.emod_eq_of_lt (by omega) hj, Int.add_mul_ediv_right _ _ (by omega), Int.ediv_eq_zero_of_lt (by omega) hj, Int.zero_add]
theorem cells_len {w h : Int} {g : Int → Int → Pt} : (cells w h g).length = (w * h).toNat := by
  unfold cells
  rw [List.length_map, List.length_range]
theorem pc_lay (p : Pc) : (pcD p).canLay0 = true := by
  simp only [pcD, PyData.canLay0, PyData.canLayAll0, canLay_ints, Bool.and_self]
theorem shaped_of {d : PyData} (h : d.canLay0 = true) (hd : d.depth ≤ 64) : SeqAt.shaped d = true := by
  unfold SeqAt.shaped
  rw [h, decide_eq_true hd]
  rfl
theorem pc_shaped (p : Pc) : SeqAt.shaped (pcD p) = true := shaped_of (pc_lay p) (by have := depth_pic p; omega)
theorem pt_shaped (q : Pt) : SeqAt.shaped (ptD q) = true := eqs_pt.shaped (by decide) q
theorem pt_self (q : Pt) : PyData.eqv (ptD q) (ptD q) = true := by rw [eqs_pt.1, decide_eq_true rfl]
theorem pc_self (p : Pc) : PyData.eqv (pcD p) (pcD p) = true := eqv_self (pc_lay p)
theorem mkP_congr {w h : Int} {g k : Int → Int → Pt} (hw : 0 < w) (hh : 0 < h) (e : ∀ x y, 0 ≤ x → x < w → 0 ≤ y → y < h → g x y = k x y) : mkP w h g = mkP w h k := by
  unfold mkP
  have e2 : cells w h g = cells w h k := by
    unfold cells
    refine List.map_congr_left fun i hi => ?_
    have hi := List.mem_range.mp hi
    have a : (0 : Int) ≤ w * h := Int.mul_nonneg (by omega) (by omega)
    refine e _ _ (Int.emod_nonneg _ (by omega)) (Int.emod_lt_of_pos _ hw) (Int.ediv_nonneg (by omega) (by omega)) ?_
    refine Int.ediv_lt_of_lt_mul hw ?_
    rw [Int.mul_comm]
    omega
  rw [e2]
theorem mkP_self {p : Pc} {m : Int} (k : p.Ok m) {g : Int → Int → Pt} (e : ∀ x y, p.In x y → g x y = p.at x y) (hg : ∀ x y, 0 ≤ (g x y).1 ∧ (g x y).1 ≤ 255 ∧ 0 ≤ (g x y).2 ∧ (g x y).2 ≤ 256) : mkP p.w p.h g = p := by
  refine pc_ext (mkP_ok k.w1 k.w2 k.h1 k.h2 hg) k rfl rfl fun x y hi => ?_
  obtain ⟨a, b, c, d⟩ := hi
  have z := mkP_at (w := p.w) (h := p.h) (g := g) a b c d
  rw [z]
  exact e x y ⟨a, b, c, d⟩
end Od

namespace Od

/-! ### edges: behind an odd number of them a point is inside -/
def cnt (es : List Int) (x : Int) : Nat := es.countP fun e => decide (e ≤ x)
def odd (n : Nat) : Bool := n % 2 == 1
def Asc (es : List Int) : Prop := es.Pairwise (· < ·)
structure EvE (es : List Int) : Prop where
  asc : Asc es
  even : es.length % 2 = 0
theorem EvE.nil : EvE [] := ⟨List.Pairwise.nil, rfl⟩
theorem cnt_nil (x : Int) : cnt [] x = 0 := rfl
theorem cnt_cons (e : Int) (t : List Int) (x : Int) : cnt (e :: t) x = cnt t x + if e ≤ x then 1 else 0 := by
  unfold cnt
  rw [List.countP_cons]
  simp
theorem cnt_append (a b : List Int) (x : Int) : cnt (a ++ b) x = cnt a x + cnt b x := by
  unfold cnt
  rw [List.countP_append]
theorem cnt_zero : ∀ {es : List Int} {x : Int}, (∀ e ∈ es, x < e) → cnt es x = 0
  | [], _, _ => rfl
  | e :: t, x, h => by
    rw [cnt_cons, cnt_zero fun z hz => h z (by simp [hz]), if_neg (by have := h e (by simp); omega)]
theorem cnt_all : ∀ {es : List Int} {x : Int}, (∀ e ∈ es, e ≤ x) → cnt es x = es.length
  | [], _, _ => rfl
  | e :: t, x, h => by
    rw [cnt_cons, cnt_all fun z hz => h z (by simp [hz]), if_pos (h e (by simp)), List.length_cons]
theorem cnt_le (es : List Int) (x : Int) : cnt es x ≤ es.length := List.countP_le_length
theorem cnt_same : ∀ {es : List Int} {a x : Int}, a ≤ x → (∀ e ∈ es, e ≤ a ∨ x < e) → cnt es x = cnt es a
  | [], _, _, _, _ => rfl
  | e :: t, a, x, hax, h => by
    rw [cnt_cons, cnt_cons, cnt_same hax fun z hz => h z (by simp [hz])]
    have := h e (by simp)
    by_cases z : e ≤ a
    · rw [if_pos z, if_pos (by omega)]
    · rw [if_neg z, if_neg (by omega)]
theorem Asc.tail {e : Int} {t : List Int} (h : Asc (e :: t)) : Asc t := (List.pairwise_cons.mp h).2
theorem Asc.head {e : Int} {t : List Int} (h : Asc (e :: t)) : ∀ z ∈ t, e < z := (List.pairwise_cons.mp h).1
/-- the count behind the next value -/
theorem cnt_next : ∀ {es : List Int} {a x : Int}, Asc es → a ≤ x → (∀ e ∈ es, e ≤ a ∨ x ≤ e) → cnt es x = if es[cnt es a]? = some x then cnt es a + 1 else cnt es a
  | [], a, x, _, _, _ => by
    rw [cnt_nil, cnt_nil]
    simp
  | e :: t, a, x, h, hax, hb => by
    have ih := cnt_next (es := t) (a := a) (x := x) h.tail hax fun z hz => hb z (by simp [hz])
    have he := hb e (by simp)
    by_cases z : e ≤ a
    · rw [cnt_cons, cnt_cons, ih, if_pos z, if_pos (show e ≤ x by omega), List.getElem?_cons_succ]
      split <;> rfl
    · have c0 : cnt t a = 0 := cnt_zero fun w hw => by
        have := h.head w hw
        omega
      have c1 : cnt (e :: t) a = 0 := by rw [cnt_cons, c0, if_neg z]
      rw [c1, List.getElem?_cons_zero]
      by_cases y : e = x
      · have c2 : cnt t x = 0 := cnt_zero fun w hw => by
          have := h.head w hw
          omega
        rw [cnt_cons, c2, if_pos (by omega), if_pos (by rw [y])]
      · have c2 : cnt t x = 0 := cnt_zero fun w hw => by
          have := h.head w hw
          omega
        rw [cnt_cons, c2, if_neg (by omega), if_neg (fun w => y (Option.some.inj w))]
/-- the runs between the edges -/
def pairs : List Int → List Pt
  | a :: b :: t => (a, b) :: pairs t
  | _ => []
theorem pairs_runs : ∀ {es : List Int} {b : Int}, Asc es → (∀ e ∈ es, b < e) → RunsFrom b (pairs es)
  | [], _, _, _ => trivial
  | [_], _, _, _ => trivial
  | a :: c :: t, b, h, hb => ⟨hb a (by simp), h.head c (by simp), pairs_runs h.tail.tail h.tail.head⟩
theorem below (es : List Int) : ∃ b : Int, ∀ e ∈ es, b < e := by
  induction es with
  | nil => exact ⟨0, fun _ h => by simp at h⟩
  | cons e t ih =>
    obtain ⟨b, hb⟩ := ih
    refine ⟨min b (e - 1), fun z hz => ?_⟩
    rcases List.mem_cons.mp hz with rfl | hz
    · omega
    · have := hb z hz
      omega
theorem pairs_ok {es : List Int} (h : Asc es) : RunsOk (pairs es) := by
  obtain ⟨b, hb⟩ := below es
  exact ⟨b, pairs_runs h hb⟩
theorem odd_two (n : Nat) : odd (n + 1 + 1) = odd n := by
  unfold odd
  rw [show (n + 1 + 1) % 2 = n % 2 by omega]
theorem inRuns_pairs : ∀ {es : List Int} {x : Int}, Asc es → es.length % 2 = 0 → (inRuns (pairs es) x ↔ odd (cnt es x) = true)
  | [], x, _, _ => ⟨fun h => absurd h inRuns_nil, fun h => by rw [cnt_nil] at h; exact absurd h (by decide)⟩
  | [_], _, _, h => by simp at h
  | a :: b :: t, x, h, hl => by
    have ih := inRuns_pairs (es := t) (x := x) h.tail.tail (by simp only [List.length_cons] at hl; omega)
    have hab := h.head b (by simp)
    show inRuns ((a, b) :: pairs t) x ↔ _
    rw [inRuns_cons, cnt_cons, cnt_cons]
    by_cases h1 : b ≤ x
    · rw [if_pos h1, if_pos (by omega), odd_two, ← ih]
      constructor
      · rintro (z | z)
        · have := z.2
          dsimp only at this
          omega
        · exact z
      · exact .inr
    · have c2 : cnt t x = 0 := cnt_zero fun w hw => by
        have := h.tail.head w hw
        omega
      rw [c2] at ih ⊢
      have no : ¬ inRuns (pairs t) x := fun z => by
        have := ih.mp z
        exact absurd this (by decide)
      by_cases h2 : a ≤ x
      · rw [if_neg h1, if_pos h2]
        exact ⟨fun _ => by decide, fun _ => .inl ⟨h2, by show x < b; omega⟩⟩
      · rw [if_neg h1, if_neg h2]
        constructor
        · rintro (z | z)
          · exact absurd z.1 h2
          · exact absurd z no
        · exact fun z => absurd z (by decide)
theorem pairs_inj : ∀ {es fs : List Int}, es.length % 2 = 0 → fs.length % 2 = 0 → pairs es = pairs fs → es = fs
  | [], [], _, _, _ => rfl
  | [_], _, h, _, _ => by simp at h
  | _, [_], _, h, _ => by simp at h
  | [], _ :: _ :: _, _, _, h => by simp [pairs] at h
  | _ :: _ :: _, [], _, _, h => by simp [pairs] at h
  | a :: b :: t, c :: d :: u, h, k, e => by
    simp only [pairs, List.cons.injEq, Prod.mk.injEq] at e
    obtain ⟨⟨rfl, rfl⟩, e⟩ := e
    simp only [List.length_cons] at h k
    rw [pairs_inj (by omega) (by omega) e]
theorem even_uniq {es fs : List Int} (h : EvE es) (k : EvE fs) (e : ∀ x, odd (cnt es x) = odd (cnt fs x)) : es = fs :=
  pairs_inj h.even k.even (runsOk_uniq (pairs_ok h.asc) (pairs_ok k.asc) fun x => by rw [inRuns_pairs h.asc h.even, inRuns_pairs k.asc k.even, e])

/-! ### the edges of a combination -/
def Comb (k : Bool → Bool → Bool) (f s es : List Int) : Prop := EvE es ∧ ∀ x, odd (cnt es x) = k (odd (cnt f x)) (odd (cnt s x))
theorem Comb.uniq {k : Bool → Bool → Bool} {f s es fs : List Int} (h : Comb k f s es) (g : Comb k f s fs) : es = fs := even_uniq h.1 g.1 fun x => by rw [h.2, g.2]
def CI (k : Bool → Bool → Bool) (f s suf : List Int) (k1 k2 : Nat) (es : List Int) : Prop := ∃ a : Int, k1 = cnt f a ∧ k2 = cnt s a ∧ (∀ z ∈ suf, a ≤ z) ∧ (∀ e ∈ f, e ≤ a ∨ e ∈ suf) ∧ (∀ e ∈ s, e ≤ a ∨ e ∈ suf) ∧
  Asc es ∧ (∀ e ∈ es, e ≤ a) ∧ odd es.length = k (odd (cnt f a)) (odd (cnt s a)) ∧ ∀ x, x ≤ a → odd (cnt es x) = k (odd (cnt f x)) (odd (cnt s x))
theorem CI.start {k : Bool → Bool → Bool} {f s l : List Int} (hk : k false false = false) (hf : ∀ e ∈ f, e ∈ l) (hs : ∀ e ∈ s, e ∈ l) : CI k f s l 0 0 [] := by
  obtain ⟨b, hb⟩ := below l
  have z : ∀ x, x ≤ b → cnt f x = 0 ∧ cnt s x = 0 := fun x hx => ⟨cnt_zero fun e he => by have := hb e (hf e he); omega, cnt_zero fun e he => by have := hb e (hs e he); omega⟩
  refine ⟨b, (z b (Int.le_refl _)).1.symm, (z b (Int.le_refl _)).2.symm, fun e he => by have := hb e he; omega, fun e he => .inr (hf e he), fun e he => .inr (hs e he), List.Pairwise.nil, fun _ h => by simp at h, ?_, fun x hx => ?_⟩
  · rw [(z b (Int.le_refl _)).1, (z b (Int.le_refl _)).2]
    exact hk.symm
  · rw [(z x hx).1, (z x hx).2]
    exact hk.symm
def nxt (f : List Int) (k : Nat) (x : Int) : Nat := if f[k]? = some x then k + 1 else k
theorem CI.step {k : Bool → Bool → Bool} {f s suf es : List Int} {k1 k2 : Nat} {x0 : Int} (hf : Asc f) (hs : Asc s) (h : CI k f s (x0 :: suf) k1 k2 es) (srt : ∀ z ∈ suf, x0 ≤ z) :
    CI k f s suf (nxt f k1 x0) (nxt s k2 x0) (if k (odd (nxt f k1 x0)) (odd (nxt s k2 x0)) = odd es.length then es else es ++ [x0]) := by
  obtain ⟨a, rfl, rfl, ha, mf, ms, asc, le, par, all⟩ := h
  have hax := ha x0 (by simp)
  have gap : ∀ {l : List Int}, (∀ e ∈ l, e ≤ a ∨ e ∈ x0 :: suf) → ∀ e ∈ l, e ≤ a ∨ x0 ≤ e := fun m e he => (m e he).imp id fun z => by
    rcases List.mem_cons.mp z with rfl | z
    · exact Int.le_refl _
    · exact srt e z
  have cf : cnt f x0 = nxt f (cnt f a) x0 := cnt_next hf hax (gap mf)
  have cs : cnt s x0 = nxt s (cnt s a) x0 := cnt_next hs hax (gap ms)
  rw [← cf, ← cs]
  have mid : ∀ x, a ≤ x → x < x0 → cnt f x = cnt f a ∧ cnt s x = cnt s a := fun x h1 h2 => ⟨cnt_same h1 fun e he => (gap mf e he).imp id fun z => by omega, cnt_same h1 fun e he => (gap ms e he).imp id fun z => by omega⟩
  have keep : ∀ {l : List Int}, (∀ e ∈ l, e ≤ a ∨ e ∈ x0 :: suf) → ∀ e ∈ l, e ≤ x0 ∨ e ∈ suf := fun m e he => by
    rcases m e he with z | z
    · exact .inl (by omega)
    · rcases List.mem_cons.mp z with rfl | z
      · exact .inl (Int.le_refl _)
      · exact .inr z
  have low : ∀ x, x < x0 → odd (cnt es x) = k (odd (cnt f x)) (odd (cnt s x)) := fun x hx => by
    by_cases z : x ≤ a
    · exact all x z
    · rw [(mid x (by omega) hx).1, (mid x (by omega) hx).2, ← par, cnt_all fun e he => by have := le e he; omega]
  have cx : cnt es x0 = es.length := cnt_all fun e he => by have := le e he; omega
  split
  · rename_i hq
    refine ⟨x0, rfl, rfl, srt, keep mf, keep ms, asc, fun e he => by have := le e he; omega, hq.symm, fun x hx => ?_⟩
    by_cases z : x < x0
    · exact low x z
    · have : x = x0 := by omega
      subst this
      rw [cx, hq]
  · rename_i hq
    have hlt : a < x0 := by
      rcases Int.lt_or_eq_of_le hax with z | z
      · exact z
      · subst z
        exact absurd par.symm hq
    have hod : odd (es.length + 1) = k (odd (cnt f x0)) (odd (cnt s x0)) := by
      have o : ∀ n, odd (n + 1) = !odd n := fun n => by
        unfold odd
        rcases Nat.mod_two_eq_zero_or_one n with z | z
        · rw [z, show (n + 1) % 2 = 1 by omega]
          rfl
        · rw [z, show (n + 1) % 2 = 0 by omega]
          rfl
      rw [o]
      revert hq
      cases odd es.length <;> cases k (odd (cnt f x0)) (odd (cnt s x0)) <;> simp
    have c1 : ∀ x, cnt [x0] x = if x0 ≤ x then 1 else 0 := fun x => by rw [cnt_cons, cnt_nil, Nat.zero_add]
    refine ⟨x0, rfl, rfl, srt, keep mf, keep ms, ?_, fun e he => ?_, by rw [List.length_append]; exact hod, fun x hx => ?_⟩
    · unfold Asc
      rw [List.pairwise_append]
      refine ⟨asc, List.pairwise_singleton _ _, fun e he z hz => ?_⟩
      rw [List.mem_singleton.mp hz]
      have := le e he
      omega
    · rcases List.mem_append.mp he with z | z
      · have := le e z
        omega
      · rw [List.mem_singleton.mp z]
        exact Int.le_refl _
    · rw [cnt_append, c1]
      by_cases z : x < x0
      · rw [if_neg (by omega), Nat.add_zero]
        exact low x z
      · have : x = x0 := by omega
        subst this
        rw [if_pos (Int.le_refl _), cx]
        exact hod
theorem CI.done {k : Bool → Bool → Bool} {f s es : List Int} {k1 k2 : Nat} (hk : k false false = false) (hf : EvE f) (hs : EvE s) (h : CI k f s [] k1 k2 es) : Comb k f s es := by
  obtain ⟨a, rfl, rfl, ha, mf, ms, asc, le, par, all⟩ := h
  have mf : ∀ e ∈ f, e ≤ a := fun e he => (mf e he).elim id fun z => by simp at z
  have ms : ∀ e ∈ s, e ≤ a := fun e he => (ms e he).elim id fun z => by simp at z
  have of_ : odd (cnt f a) = false := by
    rw [cnt_all mf]
    unfold odd
    rw [hf.even]
    rfl
  have os : odd (cnt s a) = false := by
    rw [cnt_all ms]
    unfold odd
    rw [hs.even]
    rfl
  have par2 := par
  rw [of_, os, hk] at par2
  refine ⟨⟨asc, ?_⟩, fun x => ?_⟩
  · unfold odd at par2
    have := beq_eq_false_iff_ne.mp par2
    omega
  · by_cases z : x ≤ a
    · exact all x z
    · rw [cnt_all (es := es) fun e he => by have := le e he; omega, cnt_all (es := f) fun e he => by have := mf e he; omega, cnt_all (es := s) fun e he => by have := ms e he; omega, par, cnt_all mf, cnt_all ms]
end Od

namespace Od

/-! ### steps: from a row on, these edges -/
abbrev Stp := Int × List Int
def ysOf (ss : List Stp) : List Int := ss.map Prod.fst
/-- what holds behind so many steps -/
def eb (ss : List Stp) (k : Nat) : List Int := if k = 0 then [] else (ss.getD (k - 1) (0, [])).2
def eFrom : List Int → List Stp → Int → List Int
  | p, [], _ => p
  | p, s :: t, y => if y < s.1 then p else eFrom s.2 t y
def VSc : List Int → List Stp → List Int → Prop
  | p, [], l => p = l
  | p, s :: t, l => s.2 ≠ p ∧ VSc s.2 t l
structure VS (ss : List Stp) : Prop where
  asc : Asc (ysOf ss)
  ev : ∀ s ∈ ss, EvE s.2
  ch : VSc [] ss []
theorem eFrom_low : ∀ {ss : List Stp} {p : List Int} {y : Int}, (∀ s ∈ ss, y < s.1) → eFrom p ss y = p
  | [], _, _, _ => rfl
  | s :: t, p, y, h => if_pos (h s (by simp))
theorem eFrom_all : ∀ {ss : List Stp} {p l : List Int} {y : Int}, VSc p ss l → (∀ s ∈ ss, s.1 ≤ y) → eFrom p ss y = l
  | [], _, _, _, h, _ => h
  | s :: t, p, l, y, h, k => by
    show (if y < s.1 then p else eFrom s.2 t y) = l
    rw [if_neg (by have := k s (by simp); omega), eFrom_all h.2 fun z hz => k z (by simp [hz])]
theorem eFrom_cnt : ∀ {ss : List Stp} {p : List Int} {y : Int}, Asc (ysOf ss) → eFrom p ss y = if cnt (ysOf ss) y = 0 then p else (ss.getD (cnt (ysOf ss) y - 1) (0, [])).2
  | [], p, y, _ => rfl
  | s :: t, p, y, h => by
    have ht : Asc (ysOf t) := h.tail
    have hh : ∀ z ∈ ysOf t, s.1 < z := h.head
    show (if y < s.1 then p else eFrom s.2 t y) = _
    have e : cnt (ysOf (s :: t)) y = cnt (ysOf t) y + if s.1 ≤ y then 1 else 0 := cnt_cons _ _ _
    by_cases c : y < s.1
    · have c0 : cnt (ysOf t) y = 0 := cnt_zero fun z hz => by have := hh z hz; omega
      rw [e, c0, if_neg (show ¬ s.1 ≤ y by omega), if_pos c, if_pos rfl]
    · rw [if_neg c, e, if_pos (show s.1 ≤ y by omega), if_neg (by omega), eFrom_cnt ht, Nat.add_sub_cancel]
      by_cases z : cnt (ysOf t) y = 0
      · rw [if_pos z, z]
        rfl
      · rw [if_neg z]
        obtain ⟨m, hm⟩ : ∃ m, cnt (ysOf t) y = m + 1 := ⟨cnt (ysOf t) y - 1, by omega⟩
        rw [hm]
        rfl
theorem eb_at {ss : List Stp} {y : Int} (h : Asc (ysOf ss)) : eb ss (cnt (ysOf ss) y) = eFrom [] ss y := (eFrom_cnt h).symm
theorem eFrom_snoc : ∀ {ss : List Stp} {p : List Int} {s : Stp} {y : Int}, (∀ z ∈ ss, z.1 ≤ s.1) → eFrom p (ss ++ [s]) y = if y < s.1 then eFrom p ss y else s.2
  | [], p, s, y, _ => rfl
  | z :: t, p, s, y, h => by
    show (if y < z.1 then p else eFrom z.2 (t ++ [s]) y) = if y < s.1 then (if y < z.1 then p else eFrom z.2 t y) else s.2
    have hz := h z (by simp)
    rw [eFrom_snoc fun w hw => h w (by simp [hw])]
    by_cases c : y < z.1
    · rw [if_pos c, if_pos c, if_pos (by omega)]
    · rw [if_neg c, if_neg c]
theorem eFrom_same {ss : List Stp} {p : List Int} {a y : Int} (h : Asc (ysOf ss)) (ha : a ≤ y) (g : ∀ e ∈ ysOf ss, e ≤ a ∨ y < e) : eFrom p ss y = eFrom p ss a := by
  rw [eFrom_cnt h, eFrom_cnt h, cnt_same ha g]
theorem eFrom_ev : ∀ {ss : List Stp} {p : List Int} {y : Int}, EvE p → (∀ s ∈ ss, EvE s.2) → EvE (eFrom p ss y)
  | [], _, _, hp, _ => hp
  | s :: t, p, y, hp, h => by
    show EvE (if y < s.1 then p else eFrom s.2 t y)
    split
    · exact hp
    · exact eFrom_ev (h s (by simp)) fun z hz => h z (by simp [hz])
theorem VSc.snoc : ∀ {ss : List Stp} {p l : List Int} {s : Stp}, VSc p ss l → s.2 ≠ l → VSc p (ss ++ [s]) s.2
  | [], p, l, s, h, k => ⟨by rw [show p = l from h]; exact k, rfl⟩
  | z :: t, p, l, s, h, k => ⟨h.1, VSc.snoc h.2 k⟩
def SI (k : Bool → Bool → Bool) (f s : List Stp) (suf : List Int) (k1 k2 : Nat) (rs : List Stp) (lt : List Int) : Prop := ∃ a : Int, k1 = cnt (ysOf f) a ∧ k2 = cnt (ysOf s) a ∧ (∀ z ∈ suf, a ≤ z) ∧ (∀ e ∈ ysOf f, e ≤ a ∨ e ∈ suf) ∧ (∀ e ∈ ysOf s, e ≤ a ∨ e ∈ suf) ∧
  Asc (ysOf rs) ∧ (∀ z ∈ rs, z.1 ≤ a ∧ EvE z.2) ∧ VSc [] rs lt ∧ Comb k (eFrom [] f a) (eFrom [] s a) lt ∧ ∀ y, y ≤ a → Comb k (eFrom [] f y) (eFrom [] s y) (eFrom [] rs y)
theorem comb_nil {k : Bool → Bool → Bool} (hk : k false false = false) : Comb k [] [] [] := ⟨EvE.nil, fun x => by rw [cnt_nil]; exact hk.symm⟩
theorem SI.start {k : Bool → Bool → Bool} {f s : List Stp} {l : List Int} (hk : k false false = false) (hf : ∀ e ∈ ysOf f, e ∈ l) (hs : ∀ e ∈ ysOf s, e ∈ l) : SI k f s l 0 0 [] [] := by
  obtain ⟨b, hb⟩ := below l
  have zf : ∀ x, x ≤ b → ∀ z ∈ f, x < z.1 := fun x hx z hz => by have := hb z.1 (hf _ (List.mem_map.mpr ⟨z, hz, rfl⟩)); omega
  have zs : ∀ x, x ≤ b → ∀ z ∈ s, x < z.1 := fun x hx z hz => by have := hb z.1 (hs _ (List.mem_map.mpr ⟨z, hz, rfl⟩)); omega
  have c : ∀ y, y ≤ b → Comb k (eFrom [] f y) (eFrom [] s y) [] := fun y hy => by
    rw [eFrom_low (zf y hy), eFrom_low (zs y hy)]
    exact comb_nil hk
  refine ⟨b, (cnt_zero fun e he => hb e (hf e he)).symm, (cnt_zero fun e he => hb e (hs e he)).symm, fun e he => by have := hb e he; omega, fun e he => .inr (hf e he), fun e he => .inr (hs e he), List.Pairwise.nil, fun _ h => by simp at h, rfl, c b (Int.le_refl _), c⟩
theorem SI.behind {k : Bool → Bool → Bool} {f s rs : List Stp} {suf lt : List Int} {k1 k2 : Nat} {y0 : Int} (hf : VS f) (hs : VS s) (h : SI k f s (y0 :: suf) k1 k2 rs lt) (srt : ∀ z ∈ suf, y0 ≤ z) :
    nxt (ysOf f) k1 y0 = cnt (ysOf f) y0 ∧ nxt (ysOf s) k2 y0 = cnt (ysOf s) y0 := by
  obtain ⟨a, rfl, rfl, ha, mf, ms, _⟩ := h
  have gap : ∀ {l : List Int}, (∀ e ∈ l, e ≤ a ∨ e ∈ y0 :: suf) → ∀ e ∈ l, e ≤ a ∨ y0 ≤ e := fun m e he => (m e he).imp id fun z => by
    rcases List.mem_cons.mp z with rfl | z
    · exact Int.le_refl _
    · exact srt e z
  exact ⟨(cnt_next hf.asc (ha y0 (by simp)) (gap mf)).symm, (cnt_next hs.asc (ha y0 (by simp)) (gap ms)).symm⟩
theorem SI.step {k : Bool → Bool → Bool} {f s rs : List Stp} {suf lt es : List Int} {k1 k2 : Nat} {y0 : Int} (hf : VS f) (hs : VS s) (h : SI k f s (y0 :: suf) k1 k2 rs lt) (srt : ∀ z ∈ suf, y0 ≤ z)
    (he : Comb k (eb f (nxt (ysOf f) k1 y0)) (eb s (nxt (ysOf s) k2 y0)) es) :
    SI k f s suf (nxt (ysOf f) k1 y0) (nxt (ysOf s) k2 y0) (if es = lt then rs else rs ++ [(y0, es)]) es := by
  obtain ⟨b1, b2⟩ := h.behind hf hs srt
  rw [b1, b2] at he ⊢
  rw [eb_at hf.asc, eb_at hs.asc] at he
  obtain ⟨a, rfl, rfl, ha, mf, ms, asc, le, ch, cl, all⟩ := h
  have hax := ha y0 (by simp)
  have gap : ∀ {l : List Int}, (∀ e ∈ l, e ≤ a ∨ e ∈ y0 :: suf) → ∀ e ∈ l, e ≤ a ∨ y0 ≤ e := fun m e he => (m e he).imp id fun z => by
    rcases List.mem_cons.mp z with rfl | z
    · exact Int.le_refl _
    · exact srt e z
  have keep : ∀ {l : List Int}, (∀ e ∈ l, e ≤ a ∨ e ∈ y0 :: suf) → ∀ e ∈ l, e ≤ y0 ∨ e ∈ suf := fun m e he => by
    rcases m e he with z | z
    · exact .inl (by omega)
    · rcases List.mem_cons.mp z with rfl | z
      · exact .inl (Int.le_refl _)
      · exact .inr z
  have top : ∀ y, a ≤ y → eFrom [] rs y = lt := fun y hy => eFrom_all ch fun z hz => by have := (le z hz).1; omega
  have low : ∀ y, y < y0 → Comb k (eFrom [] f y) (eFrom [] s y) (eFrom [] rs y) := fun y hy => by
    by_cases z : y ≤ a
    · exact all y z
    · rw [top y (by omega), eFrom_same hf.asc (show a ≤ y by omega) fun e he => (gap mf e he).imp id fun w => by omega, eFrom_same hs.asc (show a ≤ y by omega) fun e he => (gap ms e he).imp id fun w => by omega]
      exact cl
  split
  · rename_i hq
    subst hq
    refine ⟨y0, rfl, rfl, srt, keep mf, keep ms, asc, fun z hz => ⟨by have := (le z hz).1; omega, (le z hz).2⟩, ch, he, fun y hy => ?_⟩
    by_cases z : y < y0
    · exact low y z
    · have : y = y0 := by omega
      subst this
      rw [top y hax]
      exact he
  · rename_i hq
    have hlt : a < y0 := by
      rcases Int.lt_or_eq_of_le hax with z | z
      · exact z
      · subst z
        exact absurd (he.uniq cl) hq
    refine ⟨y0, rfl, rfl, srt, keep mf, keep ms, ?_, fun z hz => ?_, ch.snoc hq, he, fun y hy => ?_⟩
    · unfold ysOf
      rw [List.map_append]
      unfold Asc
      rw [List.pairwise_append]
      refine ⟨asc, List.pairwise_singleton _ _, fun e he z hz => ?_⟩
      obtain ⟨w, hw, rfl⟩ := List.mem_map.mp he
      rw [List.mem_singleton.mp hz]
      have := (le w hw).1
      show w.1 < y0
      omega
    · rcases List.mem_append.mp hz with w | w
      · exact ⟨by have := (le z w).1; omega, (le z w).2⟩
      · rw [List.mem_singleton.mp w]
        exact ⟨Int.le_refl _, he.1⟩
    · rw [eFrom_snoc fun z hz => by have := (le z hz).1; show z.1 ≤ y0; omega]
      by_cases z : y < y0
      · rw [if_pos z]
        exact low y z
      · have : y = y0 := by omega
        subst this
        rw [if_neg (show ¬ y < (y, es).1 from z)]
        exact he
theorem SI.done {k : Bool → Bool → Bool} {f s rs : List Stp} {lt : List Int} {k1 k2 : Nat} (hk : k false false = false) (hf : VS f) (hs : VS s) (h : SI k f s [] k1 k2 rs lt) : VS rs ∧ ∀ y, Comb k (eFrom [] f y) (eFrom [] s y) (eFrom [] rs y) := by
  obtain ⟨a, rfl, rfl, ha, mf, ms, asc, le, ch, cl, all⟩ := h
  have mf : ∀ z ∈ f, z.1 ≤ a := fun z hz => (mf _ (List.mem_map.mpr ⟨z, hz, rfl⟩)).elim id fun w => by simp at w
  have ms : ∀ z ∈ s, z.1 ≤ a := fun z hz => (ms _ (List.mem_map.mpr ⟨z, hz, rfl⟩)).elim id fun w => by simp at w
  have cl2 := cl
  rw [eFrom_all hf.ch mf, eFrom_all hs.ch ms] at cl2
  have e := cl2.uniq (comb_nil hk)
  subst e
  refine ⟨⟨asc, fun z hz => (le z hz).2, ch⟩, fun y => ?_⟩
  by_cases z : y ≤ a
  · exact all y z
  · rw [eFrom_all hf.ch fun w hw => by have := mf w hw; omega, eFrom_all hs.ch fun w hw => by have := ms w hw; omega, eFrom_all ch fun w hw => by have := (le w hw).1; omega]
    exact cl2

/-! ### bands of steps, steps of bands -/
def bandsP : List Stp → List Bd
  | s :: r :: t => if s.2 = [] then bandsP (r :: t) else ⟨s.1, r.1, pairs s.2⟩ :: bandsP (r :: t)
  | _ => []
theorem BandsFrom.later {y y' : Int} {p q : List Pt} {bs : List Bd} (h : BandsFrom y p bs) (e : y' < y) : BandsFrom y' q bs := by
  cases bs with
  | nil => trivial
  | cons d t => exact ⟨by have := h.1; omega, fun z => by have := h.1; omega, h.2.2⟩
theorem pairs_ne {es : List Int} (h : es.length % 2 = 0) (n : es ≠ []) : pairs es ≠ [] := by
  match es, h, n with
  | [], _, n => exact absurd rfl n
  | [_], h, _ => simp at h
  | a :: b :: t, _, _ => exact fun z => by simp [pairs] at z
theorem bandsP_ok : ∀ {ss : List Stp} {p l : List Int} {y : Int}, VSc p ss l → Asc (ysOf ss) → (∀ s ∈ ss, EvE s.2) → EvE p → (∀ s ∈ ss, y ≤ s.1) → BandsFrom y (pairs p) (bandsP ss)
  | [], _, _, _, _, _, _, _, _ => trivial
  | [_], _, _, _, _, _, _, _, _ => trivial
  | s :: r :: t, p, l, y, h, asc, ev, hp, hy => by
    have hsr : s.1 < r.1 := asc.head r.1 (by simp [ysOf])
    have low : ∀ z ∈ r :: t, r.1 ≤ z.1 := fun z hz => by
      rcases List.mem_cons.mp hz with rfl | hz
      · exact Int.le_refl _
      · have := asc.tail.head z.1 (List.mem_map.mpr ⟨z, hz, rfl⟩)
        omega
    have ih := bandsP_ok (ss := r :: t) (p := s.2) (l := l) (y := r.1) h.2 asc.tail (fun z hz => ev z (by simp [hz])) (ev s (by simp)) low
    have hys := hy s (by simp)
    show BandsFrom y (pairs p) (if s.2 = [] then bandsP (r :: t) else ⟨s.1, r.1, pairs s.2⟩ :: bandsP (r :: t))
    by_cases c : s.2 = []
    · rw [if_pos c]
      exact ih.later (by omega)
    · rw [if_neg c]
      refine ⟨hys, fun _ z => h.1 (pairs_inj (ev s (by simp)).even hp.even z.symm), hsr, pairs_ne (ev s (by simp)).even c, pairs_ok (ev s (by simp)).asc, ih⟩
theorem bandsP_in : ∀ {ss : List Stp} {p : List Int} {x y : Int}, VSc p ss [] → Asc (ysOf ss) → (∀ s ∈ ss, EvE s.2) → (∃ s ∈ ss, s.1 ≤ y) → (inBands (bandsP ss) x y ↔ odd (cnt (eFrom p ss y) x) = true)
  | [], _, _, _, _, _, _, h => by
    obtain ⟨_, h, _⟩ := h
    simp at h
  | [s], p, x, y, h, _, _, hy => by
    obtain ⟨z, hz, hzy⟩ := hy
    rw [List.mem_singleton.mp hz] at hzy
    have e : s.2 = [] := h.2
    show inBands [] x y ↔ odd (cnt (if y < s.1 then p else s.2) x) = true
    rw [if_neg (by omega), e]
    exact ⟨fun z => absurd z inBands_nil, fun z => absurd z (by rw [cnt_nil]; decide)⟩
  | s :: r :: t, p, x, y, h, asc, ev, hy => by
    have hsr : s.1 < r.1 := asc.head r.1 (by simp [ysOf])
    have hsy : s.1 ≤ y := by
      obtain ⟨z, hz, hzy⟩ := hy
      rcases List.mem_cons.mp hz with rfl | hz
      · exact hzy
      · have := asc.head z.1 (List.mem_map.mpr ⟨z, hz, rfl⟩)
        omega
    have es := ev s (by simp)
    have low : ∀ z ∈ r :: t, r.1 ≤ z.1 := fun z hz => by
      rcases List.mem_cons.mp hz with rfl | hz
      · exact Int.le_refl _
      · have := asc.tail.head z.1 (List.mem_map.mpr ⟨z, hz, rfl⟩)
        omega
    have ok := bandsP_ok (ss := r :: t) (p := s.2) (l := []) (y := r.1) h.2 asc.tail (fun z hz => ev z (by simp [hz])) es low
    show inBands (if s.2 = [] then bandsP (r :: t) else ⟨s.1, r.1, pairs s.2⟩ :: bandsP (r :: t)) x y ↔ odd (cnt (if y < s.1 then p else eFrom s.2 (r :: t) y) x) = true
    rw [if_neg (show ¬ y < s.1 by omega)]
    by_cases c : r.1 ≤ y
    · rw [← bandsP_in h.2 asc.tail (fun z hz => ev z (by simp [hz])) ⟨r, by simp, c⟩]
      by_cases d : s.2 = []
      · rw [if_pos d]
      · rw [if_neg d]
        exact BandsFrom.behind c
    · have no : ¬ inBands (bandsP (r :: t)) x y := fun z => by
        have := BandsFrom.le ok z
        omega
      have e : eFrom s.2 (r :: t) y = s.2 := if_pos (show y < r.1 by omega)
      rw [e]
      by_cases d : s.2 = []
      · rw [if_pos d, d]
        exact ⟨fun z => absurd z no, fun z => absurd z (by rw [cnt_nil]; decide)⟩
      · rw [if_neg d, inBands_cons, ← inRuns_pairs es.asc es.even]
        constructor
        · rintro (z | z)
          · exact z.2.2
          · exact absurd z no
        · exact fun z => .inl ⟨hsy, by show y < r.1; omega, z⟩
theorem VS.form {ss : List Stp} (h : VS ss) : IsForm (fun x y => odd (cnt (eFrom [] ss y) x) = true) (formOf (bandsP ss)) := by
  obtain ⟨b, hb⟩ := below (ysOf ss)
  have ok := bandsP_ok (y := b) h.ch h.asc h.ev EvE.nil fun s hs => by have := hb s.1 (List.mem_map.mpr ⟨s, hs, rfl⟩); omega
  refine ⟨b, bandsP ss, ok, fun x y => ?_, rfl⟩
  by_cases c : ∃ s ∈ ss, s.1 ≤ y
  · exact bandsP_in h.ch h.asc h.ev c
  · have lowy : ∀ s ∈ ss, y < s.1 := fun s hs => by
      by_cases z : y < s.1
      · exact z
      · exact absurd ⟨s, hs, by omega⟩ c
    show _ ↔ odd (cnt (eFrom [] ss y) x) = true
    rw [eFrom_low lowy]
    have no : ¬ inBands (bandsP ss) x y := by
      cases ss with
      | nil => exact inBands_nil
      | cons s t =>
        have low : ∀ z ∈ s :: t, s.1 ≤ z.1 := fun z hz => by
          rcases List.mem_cons.mp hz with rfl | hz
          · exact Int.le_refl _
          · have := h.asc.head z.1 (List.mem_map.mpr ⟨z, hz, rfl⟩)
            omega
        have ok2 := bandsP_ok (y := s.1) h.ch h.asc h.ev EvE.nil low
        intro z
        have := BandsFrom.le ok2 z
        have := lowy s (by simp)
        omega
    exact ⟨fun z => absurd z no, fun z => absurd z (by rw [cnt_nil]; decide)⟩
end Od

namespace Od

/-! ### the steps of a list of rectangles -/
def flat (rs : List Pt) : List Int := rs.flatMap fun q => [q.1, q.2]
theorem flat_cons (q : Pt) (t : List Pt) : flat (q :: t) = q.1 :: q.2 :: flat t := rfl
theorem pairs_flat : ∀ rs : List Pt, pairs (flat rs) = rs
  | [] => rfl
  | q :: t => by
    rw [flat_cons, pairs, pairs_flat t]
theorem flat_len : ∀ rs : List Pt, (flat rs).length = 2 * rs.length
  | [] => rfl
  | q :: t => by
    rw [flat_cons, List.length_cons, List.length_cons, flat_len t, List.length_cons]
    omega
theorem flat_asc : ∀ {rs : List Pt} {b : Int}, RunsFrom b rs → Asc (flat rs) ∧ ∀ e ∈ flat rs, b < e
  | [], _, _ => ⟨List.Pairwise.nil, fun _ h => by simp [flat] at h⟩
  | q :: t, b, h => by
    obtain ⟨h1, h2⟩ := flat_asc h.2.2
    have a := h.1
    have c := h.2.1
    rw [flat_cons]
    refine ⟨List.pairwise_cons.mpr ⟨fun z hz => ?_, List.pairwise_cons.mpr ⟨fun z hz => h2 z hz, h1⟩⟩, fun z hz => ?_⟩
    · rcases List.mem_cons.mp hz with rfl | hz
      · exact c
      · have := h2 z hz
        omega
    · rcases List.mem_cons.mp hz with rfl | hz
      · exact a
      · rcases List.mem_cons.mp hz with rfl | hz
        · omega
        · have := h2 z hz
          omega
theorem flat_ev {rs : List Pt} (h : RunsOk rs) : EvE (flat rs) := by
  obtain ⟨b, h⟩ := h
  exact ⟨(flat_asc h).1, by rw [flat_len]; omega⟩
theorem flat_in {rs : List Pt} {x : Int} (h : RunsOk rs) : odd (cnt (flat rs) x) = true ↔ inRuns rs x := by
  have e := flat_ev h
  rw [← inRuns_pairs e.asc e.even, pairs_flat]
theorem flat_inj {rs ss : List Pt} (h : flat rs = flat ss) : rs = ss := by rw [← pairs_flat rs, h, pairs_flat]
theorem flat_ne {rs : List Pt} (h : rs ≠ []) : flat rs ≠ [] := fun z => h (flat_inj (ss := []) z)
abbrev RSt := List Stp × Option Int
def gap (o : Option Int) (t : Int) : List Stp := match o with
  | some e => if e < t then [(e, [])] else []
  | none => []
def lastY (ss : List Stp) : Option Int := ss.getLast?.map Prod.fst
def addL (ss : List Stp) (es : List Int) : List Stp := match ss.getLast? with
  | some s => ss.dropLast ++ [(s.1, s.2 ++ es)]
  | none => ss
def rstep (st : RSt) (q : Rc) : RSt := if lastY st.1 = some q.t then (addL st.1 [q.l, q.r], st.2) else (st.1 ++ gap st.2 q.t ++ [(q.t, [q.l, q.r])], some q.b)
def fin (st : RSt) : List Stp := match st.2 with
  | some e => st.1 ++ [(e, [])]
  | none => st.1
def stepsF (fm : List Rc) : List Stp := fin (fm.foldl rstep ([], none))
def stepsE : Int → List Bd → List Stp
  | e, [] => [(e, [])]
  | e, d :: t => (if e < d.t then [(e, [])] else []) ++ (d.t, flat d.rs) :: stepsE d.b t
theorem lastY_snoc (ss : List Stp) (s : Stp) : lastY (ss ++ [s]) = some s.1 := by
  unfold lastY
  rw [List.getLast?_append]
  rfl
theorem addL_snoc (ss : List Stp) (s : Stp) (es : List Int) : addL (ss ++ [s]) es = ss ++ [(s.1, s.2 ++ es)] := by
  unfold addL
  rw [List.getLast?_append]
  show (ss ++ [s]).dropLast ++ [(s.1, s.2 ++ es)] = _
  rw [List.dropLast_concat]
theorem fold_band : ∀ {rs : List Pt} {t b : Int} {ss : List Stp} {es : List Int} {o : Option Int}, (rs.map fun q => (⟨q.1, t, q.2, b⟩ : Rc)).foldl rstep (ss ++ [(t, es)], o) = (ss ++ [(t, es ++ flat rs)], o)
  | [], t, b, ss, es, o => by
    rw [show flat [] = [] from rfl, List.append_nil]
    rfl
  | q :: u, t, b, ss, es, o => by
    rw [List.map_cons, List.foldl_cons]
    have e : rstep (ss ++ [(t, es)], o) ⟨q.1, t, q.2, b⟩ = (ss ++ [(t, es ++ [q.1, q.2])], o) := by
      unfold rstep
      rw [if_pos (lastY_snoc _ _)]
      show (addL (ss ++ [(t, es)]) [q.1, q.2], o) = _
      rw [addL_snoc]
    rw [e, fold_band, flat_cons, List.append_assoc]
    rfl
theorem fold_first {d : Bd} {ss : List Stp} {o : Option Int} (hn : d.rs ≠ []) (hl : lastY ss ≠ some d.t) : (bandRc d).foldl rstep (ss, o) = (ss ++ gap o d.t ++ [(d.t, flat d.rs)], some d.b) := by
  unfold bandRc
  cases h : d.rs with
  | nil => exact absurd h hn
  | cons q u =>
    rw [List.map_cons, List.foldl_cons]
    have e : rstep (ss, o) ⟨q.1, d.t, q.2, d.b⟩ = (ss ++ gap o d.t ++ [(d.t, [q.1, q.2])], some d.b) := by
      unfold rstep
      rw [if_neg hl]
    rw [e, fold_band, flat_cons]
    rfl
theorem fold_bands : ∀ {bs : List Bd} {ss : List Stp} {e : Int} {p : List Pt}, BandsFrom e p bs → (∀ y, lastY ss = some y → y < e) → fin ((formOf bs).foldl rstep (ss, some e)) = ss ++ stepsE e bs
  | [], ss, e, p, _, _ => rfl
  | d :: t, ss, e, p, h, hl => by
    have h1 := h.1
    have h3 := h.2.2.1
    unfold formOf
    rw [List.flatMap_cons, List.foldl_append, fold_first h.2.2.2.1 fun z => by have := hl _ z; omega]
    have ih := fold_bands (ss := ss ++ gap (some e) d.t ++ [(d.t, flat d.rs)]) h.2.2.2.2.2 fun y hy => by
      rw [lastY_snoc] at hy
      have : d.t = y := Option.some.inj hy
      omega
    have e2 : (List.flatMap bandRc t) = formOf t := rfl
    rw [e2, ih]
    show _ = ss ++ ((if e < d.t then [(e, [])] else []) ++ (d.t, flat d.rs) :: stepsE d.b t)
    rw [List.append_assoc, List.append_assoc]
    rfl
theorem stepsF_cons {d : Bd} {t : List Bd} {y : Int} {p : List Pt} (h : BandsFrom y p (d :: t)) : stepsF (formOf (d :: t)) = (d.t, flat d.rs) :: stepsE d.b t := by
  unfold stepsF formOf
  rw [List.flatMap_cons, List.foldl_append, fold_first h.2.2.2.1 (fun z => by cases z)]
  have h3 := h.2.2.1
  have ih := fold_bands (ss := [] ++ gap none d.t ++ [(d.t, flat d.rs)]) h.2.2.2.2.2 fun y hy => by
    rw [lastY_snoc] at hy
    have : d.t = y := Option.some.inj hy
    omega
  exact ih
theorem stepsE_ok : ∀ {bs : List Bd} {y : Int} {p : List Pt}, BandsFrom y p bs → p ≠ [] → VSc (flat p) (stepsE y bs) [] ∧ Asc (ysOf (stepsE y bs)) ∧ (∀ s ∈ stepsE y bs, y ≤ s.1 ∧ EvE s.2)
  | [], y, p, _, hp => ⟨⟨(flat_ne hp).symm, rfl⟩, List.pairwise_singleton _ _, fun s hs => by
    rw [List.mem_singleton.mp hs]
    exact ⟨Int.le_refl _, EvE.nil⟩⟩
  | d :: t, y, p, h, hp => by
    have h1 := h.1
    have h3 := h.2.2.1
    obtain ⟨c, a, m⟩ := stepsE_ok h.2.2.2.2.2 h.2.2.2.1
    have a2 : Asc (ysOf ((d.t, flat d.rs) :: stepsE d.b t)) := List.pairwise_cons.mpr ⟨fun z hz => by
      obtain ⟨w, hw, rfl⟩ := List.mem_map.mp hz
      have := (m w hw).1
      show d.t < w.1
      omega, a⟩
    have m2 : ∀ s ∈ ((d.t, flat d.rs) :: stepsE d.b t), d.t ≤ s.1 ∧ EvE s.2 := fun s hs => by
      rcases List.mem_cons.mp hs with rfl | hs
      · exact ⟨Int.le_refl _, flat_ev h.2.2.2.2.1⟩
      · exact ⟨by have := (m s hs).1; omega, (m s hs).2⟩
    show VSc (flat p) ((if y < d.t then [(y, [])] else []) ++ (d.t, flat d.rs) :: stepsE d.b t) [] ∧ Asc (ysOf ((if y < d.t then [(y, [])] else []) ++ (d.t, flat d.rs) :: stepsE d.b t)) ∧ ∀ s ∈ ((if y < d.t then [(y, [])] else []) ++ (d.t, flat d.rs) :: stepsE d.b t), y ≤ s.1 ∧ EvE s.2
    by_cases z : y < d.t
    · rw [if_pos z]
      refine ⟨⟨(flat_ne hp).symm, flat_ne h.2.2.2.1, c⟩, List.pairwise_cons.mpr ⟨fun w hw => ?_, a2⟩, fun s hs => ?_⟩
      · obtain ⟨u, hu, rfl⟩ := List.mem_map.mp hw
        have := (m2 u hu).1
        show y < u.1
        omega
      · rcases List.mem_cons.mp hs with rfl | hs
        · exact ⟨Int.le_refl _, EvE.nil⟩
        · exact ⟨by have := (m2 s hs).1; omega, (m2 s hs).2⟩
    · rw [if_neg z]
      exact ⟨⟨fun w => h.2.1 (by omega) (flat_inj w).symm, c⟩, a2, fun s hs => ⟨by have := (m2 s hs).1; omega, (m2 s hs).2⟩⟩
theorem stepsE_in : ∀ {bs : List Bd} {y y' x : Int} {p : List Pt} {q : List Int}, BandsFrom y p bs → p ≠ [] → y ≤ y' → (odd (cnt (eFrom q (stepsE y bs) y') x) = true ↔ inBands bs x y')
  | [], y, y', x, p, q, _, _, hy => by
    show odd (cnt (if y' < y then q else []) x) = true ↔ _
    rw [if_neg (by omega), cnt_nil]
    exact ⟨fun z => absurd z (by decide), fun z => absurd z inBands_nil⟩
  | d :: t, y, y', x, p, q, h, hp, hy => by
    have h1 := h.1
    have h3 := h.2.2.1
    obtain ⟨_, _, m⟩ := stepsE_ok h.2.2.2.2.2 h.2.2.2.1
    have row : ∀ q, y' < d.t → eFrom q ((d.t, flat d.rs) :: stepsE d.b t) y' = q := fun q z => if_pos z
    have sub : ∀ q, d.t ≤ y' → (odd (cnt (eFrom q ((d.t, flat d.rs) :: stepsE d.b t) y') x) = true ↔ inBands (d :: t) x y') := fun q z => by
      show odd (cnt (if y' < d.t then q else eFrom (flat d.rs) (stepsE d.b t) y') x) = true ↔ _
      rw [if_neg (by omega)]
      by_cases c : y' < d.b
      · rw [eFrom_low fun s hs => by have := (m s hs).1; omega, flat_in h.2.2.2.2.1, h.row z c]
      · rw [stepsE_in h.2.2.2.2.2 h.2.2.2.1 (by omega), BandsFrom.behind (d := d) (t := t) (show d.b ≤ y' by omega)]
    show odd (cnt (eFrom q ((if y < d.t then [(y, [])] else []) ++ (d.t, flat d.rs) :: stepsE d.b t) y') x) = true ↔ _
    by_cases z : y < d.t
    · rw [if_pos z]
      show odd (cnt (if y' < y then q else eFrom [] ((d.t, flat d.rs) :: stepsE d.b t) y') x) = true ↔ _
      rw [if_neg (show ¬ y' < y by omega)]
      by_cases c : d.t ≤ y'
      · exact sub [] c
      · rw [row [] (by omega), cnt_nil]
        constructor
        · exact fun w => absurd w (by decide)
        · intro w
          have k : BandsFrom d.t [] (d :: t) := ⟨Int.le_refl _, fun _ v => h.2.2.2.1 v.symm, h.2.2⟩
          have := BandsFrom.le k w
          omega
    · rw [if_neg z]
      exact sub q (by omega)
theorem stepsF_ok {S : Int → Int → Prop} {f : List Rc} (h : IsForm S f) : VS (stepsF f) ∧ ∀ x y, odd (cnt (eFrom [] (stepsF f) y) x) = true ↔ S x y := by
  obtain ⟨b, bs, h1, h2, rfl⟩ := h
  cases bs with
  | nil => exact ⟨⟨List.Pairwise.nil, fun s hs => by simp [stepsF, formOf, fin] at hs, rfl⟩, fun x y => by
      rw [← h2]
      show odd (cnt [] x) = true ↔ _
      rw [cnt_nil]
      exact ⟨fun z => absurd z (by decide), fun z => absurd z inBands_nil⟩⟩
  | cons d t =>
    rw [stepsF_cons h1]
    have h3 := h1.2.2.1
    obtain ⟨c, a, m⟩ := stepsE_ok h1.2.2.2.2.2 h1.2.2.2.1
    refine ⟨⟨List.pairwise_cons.mpr ⟨fun z hz => ?_, a⟩, fun s hs => ?_, flat_ne h1.2.2.2.1, c⟩, fun x y => ?_⟩
    · obtain ⟨w, hw, rfl⟩ := List.mem_map.mp hz
      have := (m w hw).1
      show d.t < w.1
      omega
    · rcases List.mem_cons.mp hs with rfl | hs
      · exact flat_ev h1.2.2.2.2.1
      · exact (m s hs).2
    · rw [← h2]
      show odd (cnt (if y < d.t then [] else eFrom (flat d.rs) (stepsE d.b t) y) x) = true ↔ _
      by_cases c : y < d.t
      · rw [if_pos c, cnt_nil]
        constructor
        · exact fun w => absurd w (by decide)
        · intro w
          have k : BandsFrom d.t [] (d :: t) := ⟨Int.le_refl _, fun _ v => h1.2.2.2.1 v.symm, h1.2.2⟩
          have := BandsFrom.le k w
          omega
      · rw [if_neg c]
        by_cases c2 : y < d.b
        · rw [eFrom_low fun s hs => by have := (m s hs).1; omega, flat_in h1.2.2.2.2.1, h1.row (by omega) c2]
        · rw [stepsE_in h1.2.2.2.2.2 h1.2.2.2.1 (by omega), BandsFrom.behind (d := d) (t := t) (show d.b ≤ y by omega)]
/-- a combination of two written forms -/
theorem comb_form {S R : Int → Int → Prop} {f g : List Rc} {k : Bool → Bool → Bool} (h : IsForm S f) (h' : IsForm R g) {rs : List Stp} (v : VS rs) (c : ∀ y, Comb k (eFrom [] (stepsF f) y) (eFrom [] (stepsF g) y) (eFrom [] rs y))
    {U : Int → Int → Prop} (hk : ∀ x y a b, (a = true ↔ S x y) → (b = true ↔ R x y) → (k a b = true ↔ U x y)) : IsForm U (formOf (bandsP rs)) := by
  obtain ⟨y, bs, h1, h2, h3⟩ := v.form
  refine ⟨y, bs, h1, fun x y' => ?_, h3⟩
  rw [h2]
  show odd (cnt (eFrom [] rs y') x) = true ↔ U x y'
  rw [(c y').2 x]
  exact hk x y' _ _ ((stepsF_ok h).2 x y') ((stepsF_ok h').2 x y')
end Od

namespace Od
open PySem PySem.Spec PyProof.Rows L2

/-! ### list(zip(..)) of two lists -/
/-- the zip at turn i: the tuple that it gave out may be held -/
def ZlSt (h : Heap) (z TI TO i1 i2 l1 l2 : Addr) (xs ys : Array Value) (S : Addr) (i : Nat) : Prop := IsPair h TI (.ref i1) (.ref i2) ∧ h.IsListIter i1 l1 i ∧ h.IsListIter i2 l2 i ∧ h.IsList l1 xs ∧ h.IsList l2 ys ∧
  ((IsZip h z TI TO .none ∧ ∃ a b, IsPair h TO a b) ∨ ∃ T f oT, IsZipHeld h z TI TO T f ∧ h.get? T = some oT ∧ T ≠ z ∧ T ≠ i1 ∧ T ≠ i2 ∧ T ≠ S)
structure ZlOff (z TI TO i1 i2 l1 l2 S : Addr) : Prop where
  z : z < S
  TI : TI < S
  TO : TO < S
  i1 : i1 < S
  i2 : i2 < S
  l1 : l1 < S
  l2 : l2 < S
theorem ZlSt.keep {h h' : Heap} {z TI TO i1 i2 l1 l2 S : Addr} {xs ys : Array Value} {i : Nat} (O : ZlOff z TI TO i1 i2 l1 l2 S) (st : ZlSt h z TI TO i1 i2 l1 l2 xs ys S i) (hk : ∀ b o, b ≠ S → h.get? b = some o → h'.get? b = some o) : ZlSt h' z TI TO i1 i2 l1 l2 xs ys S i := by
  obtain ⟨hTI, h1, h2, hl1, hl2, hz⟩ := st
  refine ⟨hk _ _ (Nat.ne_of_lt O.TI) hTI, h1.at fun o e => hk _ o (Nat.ne_of_lt O.i1) e, h2.at fun o e => hk _ o (Nat.ne_of_lt O.i2) e, hl1.at fun o e => hk _ o (Nat.ne_of_lt O.l1) e, hl2.at fun o e => hk _ o (Nat.ne_of_lt O.l2) e, ?_⟩
  rcases hz with ⟨hz, a, b, hTO⟩ | ⟨T, f, oT, hz, hT, r1, r2, r3, r4⟩
  · exact .inl ⟨hk _ _ (Nat.ne_of_lt O.z) hz, a, b, hk _ _ (Nat.ne_of_lt O.TO) hTO⟩
  · exact .inr ⟨T, f, oT, hk _ _ (Nat.ne_of_lt O.z) hz, hk _ _ r4 hT, r1, r2, r3, r4⟩
section
variable {prog : Program} {w : World} {A : Around} {E : Value → Shared → Prop} {s : Shared}
theorem zl_item {z TI TO i1 i2 l1 l2 S : Addr} {xs ys : Array Value} {i : Nat} {x y : Value} {Q : Option Value → Shared → Prop} (D : ZipApart z TI TO i1 i2 l1 l2) (O : ZlOff z TI TO i1 i2 l1 l2 S) (st : ZlSt s.heap z TI TO i1 i2 l1 l2 xs ys S i) (hS : S < s.heap.objs.size)
    (ex : xs[i]? = some x) (ey : ys[i]? = some y)
    (hQ : ∀ h', ZlSt h' z TI TO i1 i2 l1 l2 xs ys S (i + 1) → IsPair h' s.heap.objs.size x y → h'.objs.size = s.heap.objs.size + 1 → (∀ c o, c ≠ z → c ≠ TO → c ≠ i1 → c ≠ i2 → s.heap.get? c = some o → h'.get? c = some o) → Q (some (.ref s.heap.objs.size)) { s with heap := h' }) :
    wpAny (model prog w) A (pyNext (.ref z)) Q E s := by
  obtain ⟨hTI, h1, h2, hl1, hl2, hz⟩ := st
  have lt : ∀ {c o}, s.heap.get? c = some o → s.heap.objs.size ≠ c := fun e => Nat.ne_of_gt (Heap.lt_size e)
  have n1 : s.heap.objs.size ≠ i1 := let ⟨_, e, _⟩ := h1; lt e
  have n2 : s.heap.objs.size ≠ i2 := let ⟨_, e, _⟩ := h2; lt e
  rcases hz with ⟨hz, a, b, hTO⟩ | ⟨T, f, oT, hz, hT, r1, r2, r3, r4⟩
  · refine wpAny_pyNext_zip_item D hz hTI hTO h1 h2 hl1 hl2 ex ey fun h' a1 a2 a3 a4 a5 a6 hk => ?_
    exact hQ h' ⟨hk _ _ D.TIz D.TITO D.TIi1 D.TIi2 hTI, a3, a4, hl1.at fun o e => hk _ o D.l1z D.l1TO D.l1i1 D.l1i2 e, hl2.at fun o e => hk _ o D.l2z D.l2TO D.l2i1 D.l2i2 e,
        .inr ⟨s.heap.objs.size, false, _, a1, a5, lt hz, n1, n2, Nat.ne_of_gt hS⟩⟩ a5 a6 hk
  · refine wpAny_pyNext_zip_item_held D hz hT hTI h1 h2 hl1 hl2 ex ey fun h' a1 a3 a4 a5 a6 hk => ?_
    exact hQ h' ⟨hk _ _ D.TIz D.TIi1 D.TIi2 hTI, a3, a4, hl1.at fun o e => hk _ o D.l1z D.l1i1 D.l1i2 e, hl2.at fun o e => hk _ o D.l2z D.l2i1 D.l2i2 e,
        .inr ⟨T, true, oT, a1, hk _ _ r1 r2 r3 hT, r1, r2, r3, r4⟩⟩ a5 a6 fun c o c1 _ c3 c4 e => hk c o c1 c3 c4 e
theorem zl_done {z TI TO i1 i2 l1 l2 S : Addr} {xs ys : Array Value} {i : Nat} {Q : Option Value → Shared → Prop} (hh : A.handled = none) (D : ZipApart z TI TO i1 i2 l1 l2) (st : ZlSt s.heap z TI TO i1 i2 l1 l2 xs ys S i) (hend : xs[i]? = none ∨ ys[i]? = none)
    (hQ : ∀ h', (∀ c o, c ≠ z → c ≠ TO → c ≠ i1 → c ≠ i2 → s.heap.get? c = some o → h'.get? c = some o) → Q none { s with heap := h' }) : wpAny (model prog w) A (pyNext (.ref z)) Q E s := by
  obtain ⟨hTI, h1, h2, hl1, hl2, hz⟩ := st
  rcases hz with ⟨hz, a, b, hTO⟩ | ⟨T, f, oT, hz, hT, r1, r2, r3, r4⟩
  · exact wpAny_pyNext_zip_end hh D hz hTI hTO h1 h2 hl1 hl2 hend fun h' hk => hQ h' fun c o c1 c2 c3 c4 e => hk c o c1 c2 c3 c4 e
  · exact wpAny_pyNext_zip_end_held hh D hz hT hTI h1 h2 hl1 hl2 hend fun h' hk => hQ h' fun c o c1 _ c3 c4 e => hk c o c1 c3 c4 e
end
structure ZlG (xs ys : Array Value) (lo : Addr) (h : Heap) (as : List Addr) : Prop where
  rise : as.Pairwise (· < ·)
  above : ∀ a ∈ as, lo < a
  pairs : ∀ (j : Nat) (a : Addr), as[j]? = some a → ∃ x y, xs[j]? = some x ∧ ys[j]? = some y ∧ IsPair h a x y
theorem ZlG.there {xs ys : Array Value} {lo : Addr} {h : Heap} {as : List Addr} (g : ZlG xs ys lo h as) {a : Addr} (ha : a ∈ as) : a < h.objs.size := by
  obtain ⟨j, hj⟩ := List.mem_iff_getElem?.mp ha
  obtain ⟨_, _, _, _, e⟩ := g.pairs j a hj
  exact Heap.lt_size e
section
variable {prog : Program} {w : World} {A : Around} {s : Shared} {R : Result → Shared → Prop} {z TI TO i1 i2 l1 l2 S : Addr} {xs ys : Array Value}
theorem zl_loop (hh : A.handled = none) (D : ZipApart z TI TO i1 i2 l1 l2) (O : ZlOff z TI TO i1 i2 l1 l2 S) {n : Nat} (hn : n = min xs.size ys.size) (hn2 : n ≤ sizeLine) (res : Value) {h₁ : Heap}
    (hR : ∀ h' tk acc c as, (∀ b o, b ≠ S → b ≠ z → b ≠ TO → b ≠ i1 → b ≠ i2 → h₁.get? b = some o → h'.get? b = some o) → h'.get? S = some { cls := .type "list", dict := none, data := .seq acc c, slots := #[] } → as.length = n → ZlG xs ys S h' as →
      acc.toList = as.map Value.ref → R (.ok (.ret res)) { s with heap := h', toks := tk }) :
    ∀ (k i : Nat) (h : Heap) (tk c : Nat) (acc : Array Value) (as : List Addr), n - i = k → i ≤ n → ZlSt h z TI TO i1 i2 l1 l2 xs ys S i → (∀ b o, b ≠ S → b ≠ z → b ≠ TO → b ≠ i1 → b ≠ i2 → h₁.get? b = some o → h.get? b = some o) →
      h.get? S = some { cls := .type "list", dict := none, data := .seq acc c, slots := #[] } → acc.toList = as.map Value.ref → as.length = i → ZlG xs ys S h as →
      codeAny (model prog w) A (.builtin "list.extend.loop" ⟨[.ref S, .ref z, res], []⟩) R { s with heap := h, toks := tk } := by
  intro k
  have offs : ∀ {b : Addr}, S ≤ b → b ≠ z ∧ b ≠ TO ∧ b ≠ i1 ∧ b ≠ i2 := fun hb => ⟨Nat.ne_of_gt (Nat.lt_of_lt_of_le O.z hb), Nat.ne_of_gt (Nat.lt_of_lt_of_le O.TO hb), Nat.ne_of_gt (Nat.lt_of_lt_of_le O.i1 hb), Nat.ne_of_gt (Nat.lt_of_lt_of_le O.i2 hb)⟩
  induction k with
  | zero =>
    intro i h tk c acc as hk hi hst hkeep hS hacc hal hG
    have hin : i = n := by omega
    have hend : xs[i]? = none ∨ ys[i]? = none := by
      rcases Nat.le_total xs.size ys.size with q | q
      · exact .inl (Array.getElem?_eq_none (by omega))
      · exact .inr (Array.getElem?_eq_none (by omega))
    refine codeAny_builtin PySem.F.entry_extend_loop ?_
    rw [Around.under_plainId PySem.F.plain_extend_loop _]
    show wpAny _ A.in1 (pyNext (.ref z) >>= _) _ _ _
    refine wpAny_bind (zl_done (s := { s with heap := h, toks := tk }) (A := A.in1) hh D hst hend fun h' he => ?_)
    obtain ⟨o1, o2, o3, o4⟩ := offs (Nat.le_refl S)
    refine wpAny_pure (hR h' tk acc c as (fun b o b1 b2 b3 b4 b5 e => he b o b2 b3 b4 b5 (hkeep b o b1 b2 b3 b4 b5 e)) (he S _ o1 o2 o3 o4 hS) (by omega) ⟨hG.rise, hG.above, fun j a hj => ?_⟩ hacc)
    obtain ⟨x, y, e1, e2, e3⟩ := hG.pairs j a hj
    obtain ⟨q1, q2, q3, q4⟩ := offs (Nat.le_of_lt (hG.above a (List.mem_of_getElem? hj)))
    exact ⟨x, y, e1, e2, he a _ q1 q2 q3 q4 e3⟩
  | succ k ih =>
    intro i h tk c acc as hk hi hst hkeep hS hacc hal hG
    have hlt : i < n := by omega
    have hix : i < xs.size := by omega
    have hiy : i < ys.size := by omega
    have ex := Array.getElem?_eq_getElem hix
    have ey := Array.getElem?_eq_getElem hiy
    have hsz : acc.size = i := by rw [← Array.length_toList, hacc, List.length_map, hal]
    have hSl : S < h.objs.size := Heap.lt_size hS
    refine codeAny_builtin PySem.F.entry_extend_loop ?_
    rw [Around.under_plainId PySem.F.plain_extend_loop _]
    show wpAny _ A.in1 (pyNext (.ref z) >>= _) _ _ _
    refine wpAny_bind (zl_item (s := { s with heap := h, toks := tk }) D O hst hSl ex ey fun h' hst' ht hz hkp => ?_)
    dsimp only at ht hz hkp ⊢
    obtain ⟨o1, o2, o3, o4⟩ := offs (Nat.le_refl S)
    have hS' := hkp S _ o1 o2 o3 o4 hS
    have up : ∀ b o, b ≠ S → h'.get? b = some o → (h'.update S (Obj.mapSeq (·.push (Value.ref h.objs.size)))).get? b = some o := fun b o hb e => (Heap.get?_update_other _ _ (Ne.symm hb)).trans e
    show wpAny _ A.in1 (updateSeq S (·.push (Value.ref h.objs.size)) >>= _) _ _ _
    refine wpAny_bind ?_
    refine wpAny_updateSeq hS' rfl (wpAny_pure ⟨plainId_quiet PySem.F.plain_extend_loop _, ih (i + 1) _ tk _ (acc.push (Value.ref h.objs.size)) (as ++ [h.objs.size]) (by omega) hlt (hst'.keep O up)
      (fun b o b1 b2 b3 b4 b5 e => up b o b1 (hkp b o b2 b3 b4 b5 (hkeep b o b1 b2 b3 b4 b5 e))) (Heap.get?_update_self _ hS' rfl) (by rw [Array.toList_push, hacc, List.map_append]; rfl) (by rw [List.length_append, hal]; rfl) ⟨?_, ?_, ?_⟩⟩) (by rw [hsz]; omega) (by show (acc.push (Value.ref h.objs.size)).size ≤ sizeLine + 1; rw [Array.size_push, hsz]; omega)
    · refine List.pairwise_append.mpr ⟨hG.rise, List.pairwise_singleton _ _, fun a ha b hb => ?_⟩
      rw [List.mem_singleton.mp hb]
      exact hG.there ha
    · intro a ha
      rcases List.mem_append.mp ha with ha | ha
      · exact hG.above a ha
      · rw [List.mem_singleton.mp ha]; exact hSl
    · intro j b hj
      rcases Nat.lt_trichotomy j as.length with h1 | h1 | h1
      · rw [List.getElem?_append_left h1] at hj
        obtain ⟨x', y', e1, e2, e3⟩ := hG.pairs j b hj
        have hb := hG.above b (List.mem_of_getElem? hj)
        obtain ⟨q1, q2, q3, q4⟩ := offs (Nat.le_of_lt hb)
        exact ⟨x', y', e1, e2, up b _ (Nat.ne_of_gt hb) (hkp b _ q1 q2 q3 q4 e3)⟩
      · subst h1
        have hb : h.objs.size = b := by simpa using hj
        subst hb
        exact ⟨_, _, by rw [hal]; exact ex, by rw [hal]; exact ey, up _ _ (Nat.ne_of_gt hSl) ht⟩
      · have hnone : (as ++ [h.objs.size])[j]? = none := List.getElem?_eq_none (by rw [List.length_append, List.length_singleton]; omega)
        rw [hnone] at hj; cases hj
end
theorem zl_no_len : typeLookup (.type "zip") "__len__" = pure none := am_miss_of_fast (by decide +kernel)
theorem zl_no_hint : typeLookup (.type "zip") "__length_hint__" = pure none := am_miss_of_fast (by decide +kernel)
section
variable {prog : Program} {w : World} {A : Around} {E : Value → Shared → Prop} {s : Shared} {z TI TO i1 i2 l1 l2 S : Addr} {xs ys : Array Value}
theorem zl_hint (hT : s.TypeIs (.ref z) "zip") {Q : Bool → Shared → Prop} (h : Q true s) : wpAny (model prog w) A (Builtin.List.listLengthHint (.ref z)) Q E s := by
  unfold Builtin.List.listLengthHint
  refine wpAny_bind (wpAny_specialOf hT zl_no_len ?_)
  simp only [Option.isSome_none, Bool.false_eq_true, if_false]
  refine wpAny_ite_split (fun hab => absurd hab (by decide)) (fun _ => ?_)
  refine wpAny_bind (wpAny_specialOf hT zl_no_hint ?_)
  exact wpAny_pure h
theorem zl_extend {R : Result → Shared → Prop} {n : Nat} (hh : A.handled = none) (D : ZipApart z TI TO i1 i2 l1 l2) (O : ZlOff z TI TO i1 i2 l1 l2 S) (hn : n = min xs.size ys.size) (hn2 : n ≤ sizeLine) (res : Value) (c₀ : Nat) (hz : IsZip s.heap z TI TO .none)
    (hst : ZlSt s.heap z TI TO i1 i2 l1 l2 xs ys S 0) (hS : s.heap.get? S = some { cls := .type "list", data := .seq #[] c₀ })
    (hR : ∀ h' tk acc c as, (∀ b o, b ≠ S → b ≠ z → b ≠ TO → b ≠ i1 → b ≠ i2 → s.heap.get? b = some o → h'.get? b = some o) → h'.get? S = some { cls := .type "list", dict := none, data := .seq acc c, slots := #[] } → as.length = n → ZlG xs ys S h' as →
      acc.toList = as.map Value.ref → R (.ok (.ret res)) { s with heap := h', toks := tk }) :
    wpAny (model prog w) A.in1 (Builtin.List.listExtendWith (.ref S) (.ref z) res)
      (fun fin s' => match fin with | .done f => R (.ok f) s' | .again c' => c'.quiet = true ∧ codeAny (model prog w) A c' R s') (fun e s' => R (.error e) s') s := by
  have key : ∀ (h : Heap) (c₁ tk : Nat), (∀ b o, b ≠ S → s.heap.get? b = some o → h.get? b = some o) →
      h.get? S = some { cls := .type "list", data := .seq #[] c₁ } → codeAny (model prog w) A (.builtin "list.extend.loop" ⟨[.ref S, .ref z, res], []⟩) R { s with heap := h, toks := tk } := by
    intro h c₁ tk hk hS₁
    exact zl_loop hh D O hn hn2 res hR n 0 h tk c₁ #[] [] (Nat.sub_zero _) (Nat.zero_le _) (hst.keep O hk) (fun b o hb _ _ _ _ e => hk b o hb e) hS₁ rfl rfl ⟨List.Pairwise.nil, (fun _ ha => nomatch ha), (fun j a hj => by simp at hj)⟩
  unfold Builtin.List.listExtendWith
  refine wpAny_bind (wpAny_typeOf (T := "zip") ⟨_, hz, rfl⟩ ?_)
  have h1 : Builtin.List.listSameRef (.ref S) (.ref z) = false := by simp [Builtin.List.listSameRef, Nat.ne_of_gt O.z]
  have h2 : (Value.type "zip" == Value.type "list") = false := by decide
  have h3 : (Value.type "zip" == Value.type "tuple") = false := by decide
  simp only [h1, h2, h3, Bool.or_false, Bool.false_eq_true, if_false]
  refine wpAny_bind (wpAny_pyIter_zip hz ?_)
  refine wpAny_bind (wpAny_holding (zl_hint ⟨_, hz, rfl⟩ ?_))
  refine wpAny_ite_split (fun _ => ?_) (fun _ => wpAny_pure ⟨plainId_quiet PySem.F.plain_extend_loop _, key _ c₀ _ (fun b o _ e => e) hS⟩)
  refine wpAny_bind (wpAny_rule ?_)
  refine wpAny_bind ?_
  show wpAny _ _ (updateSeq S (·.push .none) >>= fun _ => updateSeq S (·.pop)) _ _ _
  refine wpAny_bind (wpAny_updateSeq hS rfl ?_)
  have hS₂ := Heap.get?_update_self (Obj.mapSeq (·.push Value.none)) hS rfl
  refine wpAny_updateSeq (hz := by seq_fits) hS₂ rfl ?_
  have hS₃ := Heap.get?_update_self (Obj.mapSeq (·.pop)) hS₂ rfl
  refine wpAny_pure ⟨plainId_quiet PySem.F.plain_extend_loop _, key _ _ _ (fun b o hb e => ?_) hS₃⟩
  exact (Heap.get?_update_other _ _ (Ne.symm hb)).trans ((Heap.get?_update_other _ _ (Ne.symm hb)).trans e)
theorem zl_init {R : Result → Shared → Prop} {n : Nat} (hh : A.handled = none) (D : ZipApart z TI TO i1 i2 l1 l2) (O : ZlOff z TI TO i1 i2 l1 l2 S) (hn : n = min xs.size ys.size) (hn2 : n ≤ sizeLine) (hz : IsZip s.heap z TI TO .none)
    (hst : ZlSt s.heap z TI TO i1 i2 l1 l2 xs ys S 0) (hS : s.heap.get? S = some { cls := .type "list", data := .seq #[] })
    (hR : ∀ h' tk acc c as, (∀ b o, b ≠ S → b ≠ z → b ≠ TO → b ≠ i1 → b ≠ i2 → s.heap.get? b = some o → h'.get? b = some o) → h'.get? S = some { cls := .type "list", dict := none, data := .seq acc c, slots := #[] } → as.length = n → ZlG xs ys S h' as →
      acc.toList = as.map Value.ref → R (.ok (.ret .none)) { s with heap := h', toks := tk }) :
    wpAny (model prog w) A.in1 (Builtin.«list.__init__» ⟨[.ref S, .ref z], []⟩)
      (fun fin s' => match fin with | .done f => R (.ok f) s' | .again c' => c'.quiet = true ∧ codeAny (model prog w) A c' R s') (fun e s' => R (.error e) s') s := by
  show wpAny _ _ (do let old ← Builtin.List.listItems (.ref S); Builtin.List.listUpdate (.ref S) (fun _ => #[]); letGo old.toList.reverse; Builtin.List.listExtendWith (.ref S) (.ref z) .none) _ _ s
  refine wpAny_bind ?_
  unfold Builtin.List.listItems
  refine wpAny_bind (wpAny_seqItems hS rfl (wpAny_pure ?_))
  show wpAny _ _ (updateSeq S (fun _ => #[]) >>= fun _ => letGo (#[] : Array Value).toList.reverse >>= fun _ => Builtin.List.listExtendWith (.ref S) (.ref z) .none) _ _ s
  refine wpAny_bind (wpAny_updateSeq hS rfl ?_)
  have hS₂ := Heap.get?_update_self (Obj.mapSeq (fun _ => (#[] : Array Value))) hS rfl
  have oth : ∀ b o, b ≠ S → s.heap.get? b = some o → (s.heap.update S (Obj.mapSeq (fun _ => (#[] : Array Value)))).get? b = some o :=
    fun b o hb e => (Heap.get?_update_other _ _ (Ne.symm hb)).trans e
  refine wpAny_bind (wpAny_letGo ?_)
  refine zl_extend hh D O hn hn2 .none _ (oth _ _ (Nat.ne_of_lt O.z) hz) (hst.keep O oth) hS₂ fun h' tk acc c as hk hS' hl hG hacc => ?_
  exact hR h' tk acc c as (fun b o hb b2 b3 b4 b5 e => hk b o hb b2 b3 b4 b5 (oth b o hb e)) hS' hl hG hacc
theorem zl_call {Q : Value → Shared → Prop} {n : Nat} (hh : A.handled = none) (D : ZipApart z TI TO i1 i2 l1 l2) (O : ZlOff z TI TO i1 i2 l1 l2 s.heap.objs.size) (hn : n = min xs.size ys.size) (hn2 : n ≤ sizeLine) (hz : IsZip s.heap z TI TO .none)
    (hTI : IsPair s.heap TI (.ref i1) (.ref i2)) (hTO : ∃ a b, IsPair s.heap TO a b) (h1 : s.heap.IsListIter i1 l1 0) (h2 : s.heap.IsListIter i2 l2 0) (hl1 : s.heap.IsList l1 xs) (hl2 : s.heap.IsList l2 ys)
    (hQ : ∀ h' tk acc c as, (∀ b o, b ≠ z → b ≠ TO → b ≠ i1 → b ≠ i2 → s.heap.get? b = some o → h'.get? b = some o) → h'.get? s.heap.objs.size = some { cls := .type "list", dict := none, data := .seq acc c, slots := #[] } → as.length = n → ZlG xs ys s.heap.objs.size h' as →
      acc.toList = as.map Value.ref → Q (.ref s.heap.objs.size) { s with heap := h', toks := tk }) :
    wpAny (model prog w) A (call (.type "list") [.ref z]) Q E s := by
  refine callType_codes (Q₁ := fun obj s₁ => obj = .ref s.heap.objs.size ∧ s₁ = { s with heap := s.heap.push { cls := .type "list", data := .seq #[] } }) PySem.F.called_list (PySem.F.typeCall_list_1 _) PySem.F.entry_list_init
    (code_list_new _ ⟨rfl, rfl⟩) fun obj s₁ h₁ => ?_
  obtain ⟨rfl, rfl⟩ := h₁
  have hS : (s.heap.push { cls := .type "list", data := .seq #[] }).get? s.heap.objs.size = some { cls := .type "list", data := .seq #[] } := Heap.get?_push_size _ rfl
  have up : ∀ b o, s.heap.get? b = some o → (s.heap.push { cls := .type "list", data := .seq #[] }).get? b = some o := fun b o e => Heap.get?_push_of_some _ e
  obtain ⟨a, b, hTO⟩ := hTO
  have st : ZlSt (s.heap.push { cls := .type "list", data := .seq #[] }) z TI TO i1 i2 l1 l2 xs ys s.heap.objs.size 0 := ⟨up _ _ hTI, h1.at fun o e => up _ o e, h2.at fun o e => up _ o e, hl1.at fun o e => up _ o e, hl2.at fun o e => up _ o e, .inl ⟨up _ _ hz, a, b, up _ _ hTO⟩⟩
  refine ⟨⟨_, hS, rfl⟩, PySem.F.args_list_init_2 _ _, zl_init (A := A.in1) hh D O hn hn2 (up _ _ hz) st hS (fun h' tk acc c as hk hS' hl hG hacc => ?_)⟩
  exact ⟨rfl, hQ h' tk acc c as (fun b o b2 b3 b4 b5 e => hk b o (Nat.ne_of_lt (Heap.lt_size e)) b2 b3 b4 b5 (up b o e)) hS' hl hG hacc⟩
end
end Od

namespace Od
open PySem PySem.Spec PyProof.Rows L2 Evl

/-- the tuples tracked at their addresses -/
def putV : Hp → List Addr → List (V × V) → Hp
  | H, a :: as, p :: ps => putV (upd H a (.tup [p.1, p.2])) as ps
  | H, _, _ => H
theorem putV_off {b : Addr} : ∀ (as : List Addr) (ps : List (V × V)) (H : Hp), b ∉ as → putV H as ps b = H b
  | [], _, _, _ => rfl
  | _ :: _, [], _, _ => rfl
  | a :: as, p :: ps, H, h => by
    show putV (upd H a (.tup [p.1, p.2])) as ps b = H b
    rw [putV_off as ps _ (fun z => h (List.mem_cons_of_mem _ z)), upd_ne (fun z => h (by rw [z]; exact List.mem_cons_self))]
theorem putV_at : ∀ (as : List Addr) (ps : List (V × V)) (H : Hp), as.length = ps.length → as.Nodup → Paired (fun (t : Addr) (p : V × V) => putV H as ps t = some (.tup [p.1, p.2])) as ps
  | [], [], _, _, _ => .nil
  | [], _ :: _, _, h, _ => by cases h
  | _ :: _, [], _, h, _ => by cases h
  | a :: as, p :: ps, H, h, hn => by
    have hn' := List.nodup_cons.mp hn
    have ih := putV_at as ps (upd H a (.tup [p.1, p.2])) (Nat.succ.inj h) hn'.2
    refine .cons ?_ ih
    show putV (upd H a (.tup [p.1, p.2])) as ps a = some (.tup [p.1, p.2])
    rw [putV_off as ps _ hn'.1, upd_same]
theorem zip_get {xs ys : List V} {j : Nat} {q : V × V} (h : (xs.zip ys)[j]? = some q) : xs[j]? = some q.1 ∧ ys[j]? = some q.2 := by
  rw [List.getElem?_zip_eq_some] at h
  exact h
section
variable {X : Cx}
theorem zl_laid {pins : List (Addr × Obj)} {σ : L2.St} {H : Hp} {s : Shared} {h' : Heap} {tk : Nat} {xs ys : List V} {its its2 : List Value} {acc : Array Value} {c : Nat} {as : List Addr} {S : Addr} (I : Inv X pins σ H s) (rv : Vals xs its) (rv2 : Vals ys its2) (hz : xs.length ≤ sizeLine) (hSz : s.heap.objs.size ≤ S)
    (hk : ∀ b o, s.heap.get? b = some o → h'.get? b = some o) (hS : h'.get? S = some { cls := .type "list", dict := none, data := .seq acc c, slots := #[] }) (hl : as.length = min its.length its2.length) (hG : ZlG its.toArray its2.toArray S h' as) (hacc : acc.toList = as.map Value.ref) :
    ∃ H' : Hp, Ex H H' ∧ H S = none ∧ H' S = some (.lst (as.map V.ref)) ∧ Paired (fun (t : Addr) (q : V × V) => H' t = some (.tup [q.1, q.2])) as (xs.zip ys) ∧ Inv X pins σ H' { s with heap := h', toks := tk } := by
  have l1 := rv.length
  have l2 := rv2.length
  have hSn : S ∉ as := fun z => Nat.lt_irrefl _ (hG.above _ z)
  have nd : as.Nodup := List.Pairwise.imp (fun {a b} (h : a < b) => Nat.ne_of_lt h) hG.rise
  have new : ∀ t ∈ as, H t = none := fun t ht => I.hok.fresh (Nat.le_trans hSz (Nat.le_of_lt (hG.above t ht)))
  have newS : H S = none := I.hok.fresh hSz
  have hlz : as.length = (xs.zip ys).length := by rw [List.length_zip, hl]; omega
  have atP := putV_at as (xs.zip ys) (upd H S (.lst (as.map V.ref))) hlz nd
  have off : ∀ b, b ∉ as → b ≠ S → putV (upd H S (.lst (as.map V.ref))) as (xs.zip ys) b = H b := fun b h1 h2 => by rw [putV_off as (xs.zip ys) _ h1, upd_ne h2]
  have low : ∀ b o, s.heap.get? b = some o → b ∉ as ∧ b ≠ S := fun b o e => ⟨fun z => absurd (Heap.lt_size e) (Nat.not_lt.mpr (Nat.le_trans hSz (Nat.le_of_lt (hG.above b z)))), fun z => absurd (Heap.lt_size e) (Nat.not_lt.mpr (by rw [z]; exact hSz))⟩
  have kp : ∀ b u, H b = some u → (putV (upd H S (.lst (as.map V.ref))) as (xs.zip ys)) b = some u := fun b u e => by
    rw [off b (fun z => by rw [new b z] at e; cases e) (fun z => by rw [z, newS] at e; cases e)]
    exact e
  have eS : putV (upd H S (.lst (as.map V.ref))) as (xs.zip ys) S = some (.lst (as.map V.ref)) := by rw [putV_off as (xs.zip ys) _ hSn, upd_same]
  refine ⟨putV (upd H S (.lst (as.map V.ref))) as (xs.zip ys), kp, newS, eS, atP, ?_⟩
  refine I.call' (ch := []) rfl ⟨fun b o q _ _ _ => hk b o q, fun b o q _ _ _ => ⟨o.slots, hk b o q⟩, fun b o q n _ => ?_, fun b o q _ => ⟨o, hk b o q⟩, fun b xs q => kp b _ q, fun b o u q => kp b _ q, fun b ps q => ⟨#[], by rw [kp b _ q]; simp⟩⟩ (fun b u q => ?_) I.bare fun b z => by simp at z
  · obtain ⟨z1, z2⟩ := low b o q
    rw [off b z1 z2]
    exact n
  · by_cases hb : b ∈ as
    · obtain ⟨j, pk, e1, e2, e3⟩ := LiI.paired_ix atP hb
      rw [e3] at q
      cases q
      obtain ⟨x, y, f1, f2, f3⟩ := hG.pairs j b e1
      obtain ⟨g1, g2⟩ := zip_get e2
      obtain ⟨u, hu, ru⟩ := rv.get g1
      obtain ⟨u2, hu2, ru2⟩ := rv2.get g2
      have ex : x = u := by
        rw [List.getElem?_toArray, hu] at f1
        exact (Option.some.inj f1).symm
      have ey : y = u2 := by
        rw [List.getElem?_toArray, hu2] at f2
        exact (Option.some.inj f2).symm
      subst ex ey
      exact ⟨by show 2 ≤ sizeLine; decide, [x, y], .cons ru (.cons ru2 .nil), ⟨_, f3, rfl, _, rfl⟩⟩
    · by_cases hb2 : b = S
      · rw [hb2] at q ⊢
        rw [eS] at q
        cases q
        refine ⟨by rw [List.length_map]; omega, acc.toList, c, by rw [hacc]; exact LiI.vals_refs as, ?_⟩
        rw [Array.toArray_toList]
        exact hS
      · rw [off b hb hb2] at q
        exact (I.hok b u q).stay (fun d v _ y => hk d v y) (fun d y => kp d _ y) fun d xs y => kp d _ y
def tListZip (K : PySem.W.Frag) (ta : TA) : TE := fun σ H Q => ta σ H fun vs H1 => ∃ a b xs ys, vs = [.ref a, .ref b] ∧ SqL K H1 a xs ∧ SqL K H1 b ys ∧
  ∀ (H' : Hp) (p : Addr) (ts : List Addr), Ex H1 H' → H1 p = none → H' p = some (.lst (ts.map V.ref)) → Paired (fun (t : Addr) (q : V × V) => H' t = some (.tup [q.1, q.2])) ts (xs.zip ys) → Q (.ref p) H'
theorem pe_listZip {e e2 : Expr} {ta : TA} {p p2 pos pos2 : Pos} (K : PySem.W.Frag) (hc : X.calm = true) (hg : Gl X "list") (hm : X.mg "list" = none) (hv : bootBuiltins "list" = some (.type "list")) (hg2 : Gl X "zip") (hm2 : X.mg "zip" = none) (ha : PA X [e, e2] ta)
    (hs2 : starEach [e, e2] X.env = (false, eval e X.env) :: starEach [e2] X.env := by rfl) (hpl : (backTo pos2 (starEach [e2] X.env)).any (·.1) = false := by rfl)
    (hs : starEach [.Call (.Name "zip" p2) [e, e2] [] pos2] X.env = (false, eval (.Call (.Name "zip" p2) [e, e2] [] pos2) X.env) :: starEach [] X.env := by rfl) (hK : X.K = K := by rfl) :
    PE X (.Call (.Name "list" p) [.Call (.Name "zip" p2) [e, e2] [] pos2] [] pos) (tListZip K ta) := by
  subst hK
  refine ⟨fun pins s σ H Q I hq => ?_⟩
  refine wpAny_Call_Name_kw (ld_blt I hg hm hv ?_)
  refine PyProof.Rows.callWith_type1 ?_ hs rfl
  rw [hs]
  show wpAny _ _ (spliced ((false, eval (.Call (.Name "zip" p2) [e, e2] [] pos2) X.env) :: backTo pos (starEach [] X.env))) _ _ s
  refine Calls.spliced_cons ?_
  refine Call_ (ld_blt I hg2 hm2 PyProof.Rows.boot_zip (PyProof.Rows.callWith_type1 (thn (ha.run pos2 pins s σ H _ I hq) fun us s1 ⟨vs, H1, I1, r1, q1⟩ => ?_) hs2 hpl))
  obtain ⟨a, b, xs, ys, ex, hqx, hqy, q⟩ := q1
  subst ex
  cases r1 with
  | cons r rr =>
    cases rr with
    | cons r' rr =>
      cases rr
      cases r
      cases r'
      obtain ⟨its, rv, p1, z1⟩ := I1.list hqx
      obtain ⟨its2, rv2, p2, z2⟩ := I1.list hqy
      have la : a < s1.heap.objs.size := p1.lt
      have lb : b < s1.heap.objs.size := p2.lt
      have lx := rv.length
      refine call_zip_2 p1.isList p2.isList fun h' hz hTI hTO h1 h2 hsz hk => ?_
      refine Calls.spliced_nil ?_
      have D := PySem.W.ktu_apart s1.heap.objs.size a b la lb
      refine zl_call (s := { s1 with heap := h' }) (n := min its.length its2.length) (xs := its.toArray) (ys := its2.toArray) (I1.ok.hd hc) D ?_ (by rw [List.size_toArray, List.size_toArray]) (by omega) hz hTI ⟨_, _, hTO⟩ h1 h2 (p1.isList.at fun o e => hk _ o e) (p2.isList.at fun o e => hk _ o e) fun h'' tk acc c as hk2 hS hl hG hacc => ?_
      · show ZlOff _ _ _ _ _ _ _ h'.objs.size
        rw [hsz]
        exact ⟨Nat.add_lt_add_left (by decide) _, Nat.add_lt_add_left (by decide) _, Nat.add_lt_add_left (by decide) _, Nat.lt_add_of_pos_right (by decide), Nat.add_lt_add_left (by decide) _, Nat.lt_of_lt_of_le la (Nat.le_add_right _ _), Nat.lt_of_lt_of_le lb (Nat.le_add_right _ _)⟩
      · have low : ∀ b o, s1.heap.get? b = some o → h''.get? b = some o := fun b o e => by
          have hb := Heap.lt_size e
          have ne : ∀ k, b ≠ s1.heap.objs.size + k := fun k => Nat.ne_of_lt (Nat.lt_of_lt_of_le hb (Nat.le_add_right _ _))
          exact hk2 b o (ne 4) (ne 3) (Nat.ne_of_lt hb) (ne 1) (hk b o e)
        obtain ⟨H', k1, k2, k3, k4, J⟩ := zl_laid (S := h'.objs.size) (tk := tk) I1 rv rv2 (by omega) (by rw [hsz]; exact Nat.le_add_right _ _) low hS hl hG hacc
        exact ⟨.ref _, H', J, rfl, q H' _ as k1 k2 k3 k4⟩
end
end Od

namespace Od
open PySem PySem.Spec PyProof.Rows L2 Evl

/-! ### every other item of a list -/
def evs {α : Type} : List α → List α
  | a :: _ :: t => a :: evs t
  | [a] => [a]
  | [] => []
def ods {α : Type} : List α → List α
  | _ :: b :: t => b :: ods t
  | _ => []
theorem evs_pick {α : Type} : ∀ l : List α, (List.range ((l.length + 1) / 2)).filterMap (fun k => l[2 * k]?) = evs l
  | [] => by simp [evs]
  | [a] => by simp [evs]
  | a :: b :: t => by
    have ih := evs_pick t
    have e : ((a :: b :: t).length + 1) / 2 = (t.length + 1) / 2 + 1 := by
      rw [List.length_cons, List.length_cons]
      omega
    rw [e, List.range_succ_eq_map, List.filterMap_cons]
    show a :: List.filterMap (fun k => (a :: b :: t)[2 * k]?) (List.map Nat.succ (List.range ((t.length + 1) / 2))) = a :: evs t
    rw [List.filterMap_map, ← ih]
    rfl
theorem ods_pick {α : Type} : ∀ l : List α, (List.range (l.length / 2)).filterMap (fun k => l[2 * k + 1]?) = ods l
  | [] => by simp [ods]
  | [a] => by simp [ods]
  | a :: b :: t => by
    have ih := ods_pick t
    have e : (a :: b :: t).length / 2 = t.length / 2 + 1 := by
      rw [List.length_cons, List.length_cons]
      omega
    rw [e, List.range_succ_eq_map, List.filterMap_cons]
    show b :: List.filterMap (fun k => (a :: b :: t)[2 * k + 1]?) (List.map Nat.succ (List.range (t.length / 2))) = b :: ods t
    rw [List.filterMap_map, ← ih]
    rfl
theorem evs_sl (its : List Value) : slicePick its.toArray none none (some 2) = (evs its).toArray := by
  unfold slicePick
  have b : sliceBounds none none (some 2) its.toArray.size = (0, (its.length : Int), 2) := rfl
  rw [b, ← evs_pick its]
  have r : sliceRange (0 : Int) (its.length : Int) 2 = (List.range ((its.length + 1) / 2)).map fun (k : Nat) => 2 * k := by
    unfold sliceRange
    have c : (if (2 : Int) > 0 then (if (0 : Int) < (its.length : Int) then ((its.length : Int) - 0 + 2 - 1) / 2 else 0) else (if (0 : Int) > (its.length : Int) then ((0 : Int) - its.length - 2 - 1) / (-2) else 0)).toNat = (its.length + 1) / 2 := by
      rw [if_pos (by decide)]
      split <;> omega
    simp only [c]
    refine List.map_congr_left fun k _ => ?_
    omega
  show (List.filterMap (its.toArray[·]?) (sliceRange (0 : Int) (its.length : Int) 2)).toArray = _
  rw [r, List.filterMap_map]
  congr 2
  funext k
  show its.toArray[2 * k]? = its[2 * k]?
  rw [List.getElem?_toArray]
theorem ods_sl (its : List Value) : slicePick its.toArray (some 1) none (some 2) = (ods its).toArray := by
  unfold slicePick
  have b : sliceBounds (some 1) none (some 2) its.toArray.size = (max 0 (min 1 (its.length : Int)), (its.length : Int), 2) := rfl
  rw [b, ← ods_pick its]
  have r : sliceRange (max 0 (min 1 (its.length : Int))) (its.length : Int) 2 = (List.range (its.length / 2)).map fun (k : Nat) => 2 * k + 1 := by
    unfold sliceRange
    have c : (if (2 : Int) > 0 then (if max 0 (min 1 (its.length : Int)) < (its.length : Int) then ((its.length : Int) - max 0 (min 1 (its.length : Int)) + 2 - 1) / 2 else 0) else (if max 0 (min 1 (its.length : Int)) > (its.length : Int) then (max 0 (min 1 (its.length : Int)) - its.length - 2 - 1) / (-2) else 0)).toNat = its.length / 2 := by
      rw [if_pos (by decide)]
      split <;> omega
    simp only [c]
    refine List.map_congr_left fun k hk => ?_
    have := List.mem_range.mp hk
    omega
  show (List.filterMap (its.toArray[·]?) (sliceRange (max 0 (min 1 (its.length : Int))) (its.length : Int) 2)).toArray = _
  rw [r, List.filterMap_map]
  congr 2
  funext k
  show its.toArray[2 * k + 1]? = its[2 * k + 1]?
  rw [List.getElem?_toArray]
theorem vals_evs : ∀ {xs : List V} {its : List Value}, Vals xs its → Vals (evs xs) (evs its) ∧ Vals (ods xs) (ods its)
  | [], [], _ => ⟨.nil, .nil⟩
  | [x], [v], .cons r _ => ⟨.cons r .nil, .nil⟩
  | x :: y :: t, v :: u :: w, .cons r (.cons r' k) => ⟨.cons r (vals_evs k).1, .cons r' (vals_evs k).2⟩
theorem evs_len {α : Type} : ∀ l : List α, (evs l).length ≤ l.length ∧ (ods l).length ≤ l.length
  | [] => ⟨Nat.le_refl _, Nat.le_refl _⟩
  | [a] => ⟨Nat.le_refl _, Nat.zero_le _⟩
  | a :: b :: t => by
    have := evs_len t
    simp only [evs, ods, List.length_cons]
    omega
theorem zip_pairs : ∀ {es : List Int}, es.length % 2 = 0 → (evs (es.map V.int)).zip (ods (es.map V.int)) = (pairs es).map fun q => (V.int q.1, V.int q.2)
  | [], _ => rfl
  | [_], h => by simp at h
  | a :: b :: t, h => by
    have ih := zip_pairs (es := t) (by simp only [List.length_cons] at h; omega)
    show (V.int a, V.int b) :: (evs (t.map V.int)).zip (ods (t.map V.int)) = (V.int a, V.int b) :: (pairs t).map _
    rw [ih]
section
variable {X : Cx}
def tEv (K : PySem.W.Frag) (te : TE) : TE := fun σ H Q => te σ H fun x H1 => ∃ a xs, x = .ref a ∧ SqL K H1 a xs ∧ ∀ p, H1 p = none → Q (.ref p) (upd H1 p (.lst (evs xs)))
def tOd (K : PySem.W.Frag) (te : TE) : TE := fun σ H Q => te σ H fun x H1 => ∃ a xs, x = .ref a ∧ SqL K H1 a xs ∧ ∀ p, H1 p = none → Q (.ref p) (upd H1 p (.lst (ods xs)))
theorem pe_ev {e : Expr} {te : TE} {k : Nat} {p1 p3 pos : Pos} (K : PySem.W.Frag) (he : PE X e te) (hK : X.K = K := by rfl) : PE X (.Subscript e (.Slice none none (some (.Constant (.int 2) k p1)) p3) pos) (tEv K te) := by
  subst hK
  refine ⟨fun pins s σ H Q I h => ?_⟩
  refine Subscript_ (thn (he.run pins s σ H _ I h) fun v s1 ⟨x, H1, I1, r1, q1⟩ => ?_)
  obtain ⟨a, xs, ex, hx, q⟩ := q1
  subst ex
  cases r1
  have hst : PO X (some (.Constant (.int 2) k p1)) (tPart (tC (.int 2))) := po_some pe_int
  refine wpAny_Slice (thn (po_none.run pins s1 σ H1 (fun o H2 => o = none ∧ H2 = H1) I1 ⟨rfl, rfl⟩) fun vl s2 ⟨l, H2, I2, pl, el, e2⟩ => ?_)
  subst el e2
  refine thn (po_none.run pins s2 σ H2 (fun o H3 => o = none ∧ H3 = H2) I2 ⟨rfl, rfl⟩) fun vu s3 ⟨u, H3, I3, pu, eu, e3⟩ => ?_
  subst eu e3
  refine thn (hst.run pins s3 σ H3 (fun o H4 => o = some 2 ∧ H4 = H3) I3 ⟨2, rfl, rfl, rfl⟩) fun vs s4 ⟨o, H4, I4, ps, eo, e4⟩ => ?_
  subst eo e4
  have I5 : Inv X pins σ H4 { s4 with heap := s4.heap.push { cls := .type "slice", data := .fields #[vl, vu, vs] } } := I4.kept (t' := s4.toks) fun b ob q => Heap.get?_push_of_some _ q
  obtain ⟨its, r, ht, hz⟩ := I5.list hx
  have hlen := r.length
  show wpAny (model X.prog X.w) X.A (subscriptTail e (.Slice none none (some (.Constant (.int 2) k p1)) p3) (.ref a) (.ref s4.heap.objs.size)) (EP X pins σ Q) X.xe { s4 with heap := s4.heap.push { cls := .type "slice", data := .fields #[vl, vu, vs] } }
  refine tail_any (ops := [.ref a, .ref s4.heap.objs.size]) ht.isList.typeIs (PySem.slot_list_getitem.lookup) ?_ (by with_unfolding_all rfl)
  refine wpAny_getItem_list_slice ht.isList (Heap.IsSliceOf.new _ vl vu vs) pl pu ps (by decide) ?_ (by rw [List.size_toArray]; omega)
  rw [evs_sl]
  refine ⟨.ref _, _, I5.laid (t' := s4.toks) (o := .lst (evs xs)) (fun b ob q => Heap.get?_push_of_some _ q) (Nat.le_refl _) ?_, rfl, q _ (I5.hok.fresh (Nat.le_refl _))⟩
  exact ⟨Nat.le_trans (evs_len xs).1 hz, _, 0, (vals_evs r).1, Heap.get?_push_size _ rfl⟩
theorem pe_od {e : Expr} {te : TE} {k k2 : Nat} {p0 p1 p3 pos : Pos} (K : PySem.W.Frag) (he : PE X e te) (hK : X.K = K := by rfl) : PE X (.Subscript e (.Slice (some (.Constant (.int 1) k2 p0)) none (some (.Constant (.int 2) k p1)) p3) pos) (tOd K te) := by
  subst hK
  refine ⟨fun pins s σ H Q I h => ?_⟩
  refine Subscript_ (thn (he.run pins s σ H _ I h) fun v s1 ⟨x, H1, I1, r1, q1⟩ => ?_)
  obtain ⟨a, xs, ex, hx, q⟩ := q1
  subst ex
  cases r1
  have hst : PO X (some (.Constant (.int 2) k p1)) (tPart (tC (.int 2))) := po_some pe_int
  have hlo : PO X (some (.Constant (.int 1) k2 p0)) (tPart (tC (.int 1))) := po_some pe_int
  refine wpAny_Slice (thn (hlo.run pins s1 σ H1 (fun o H2 => o = some 1 ∧ H2 = H1) I1 ⟨1, rfl, rfl, rfl⟩) fun vl s2 ⟨l, H2, I2, pl, el, e2⟩ => ?_)
  subst el e2
  refine thn (po_none.run pins s2 σ H2 (fun o H3 => o = none ∧ H3 = H2) I2 ⟨rfl, rfl⟩) fun vu s3 ⟨u, H3, I3, pu, eu, e3⟩ => ?_
  subst eu e3
  refine thn (hst.run pins s3 σ H3 (fun o H4 => o = some 2 ∧ H4 = H3) I3 ⟨2, rfl, rfl, rfl⟩) fun vs s4 ⟨o, H4, I4, ps, eo, e4⟩ => ?_
  subst eo e4
  have I5 : Inv X pins σ H4 { s4 with heap := s4.heap.push { cls := .type "slice", data := .fields #[vl, vu, vs] } } := I4.kept (t' := s4.toks) fun b ob q => Heap.get?_push_of_some _ q
  obtain ⟨its, r, ht, hz⟩ := I5.list hx
  have hlen := r.length
  show wpAny (model X.prog X.w) X.A (subscriptTail e (.Slice (some (.Constant (.int 1) k2 p0)) none (some (.Constant (.int 2) k p1)) p3) (.ref a) (.ref s4.heap.objs.size)) (EP X pins σ Q) X.xe { s4 with heap := s4.heap.push { cls := .type "slice", data := .fields #[vl, vu, vs] } }
  refine tail_any (ops := [.ref a, .ref s4.heap.objs.size]) ht.isList.typeIs (PySem.slot_list_getitem.lookup) ?_ (by with_unfolding_all rfl)
  refine wpAny_getItem_list_slice ht.isList (Heap.IsSliceOf.new _ vl vu vs) pl pu ps (by decide) ?_ (by rw [List.size_toArray]; omega)
  rw [ods_sl]
  refine ⟨.ref _, _, I5.laid (t' := s4.toks) (o := .lst (ods xs)) (fun b ob q => Heap.get?_push_of_some _ q) (Nat.le_refl _) ?_, rfl, q _ (I5.hok.fresh (Nat.le_refl _))⟩
  exact ⟨Nat.le_trans (evs_len xs).2 hz, _, 0, (vals_evs r).2, Heap.get?_push_size _ rfl⟩
end
end Od

namespace Od
open PySem L2 Evl

theorem kpiE {X : Cx} {e : Expr} {ta : TA} {p pos tpos : Pos} {elts : List Expr} {kk : Nat} (K : PySem.W.Frag) (hg : Gl X "enumerate") (hm : X.mg "enumerate" = none) (ha : PA X [e] ta) (hs : starEach [e] X.env = [(false, eval e X.env)] := by rfl) (h : X.K = K := by rfl) :
    PI X (.Tuple elts kk tpos) (.Call (.Name "enumerate" p) [e] [] pos) (iEnum K ta) := by
  subst h
  exact pi_enum hg hm ha hs
theorem and_one (n : Nat) : Builtin.bitAnd (n : Int) 1 = ((n % 2 : Nat) : Int) := by
  rw [PyProof.Rows.bitAnd_m1]
  omega
/-- which points are kept -/
def keptV (k : Bool → Bool → Bool) : List V := [.bl (k false false), .bl (k false true), .bl (k true false), .bl (k true true)]
theorem kept_at (k : Bool → Bool → Bool) (m n : Nat) : atI (keptV k) (2 * ((m % 2 : Nat) : Int) + ((n % 2 : Nat) : Int)) = some (.bl (k (odd m) (odd n))) := by
  have h : ∀ n, odd n = decide (n % 2 = 1) := fun n => rfl
  rw [h, h]
  rcases Nat.mod_two_eq_zero_or_one m with z | z <;> rcases Nat.mod_two_eq_zero_or_one n with y | y <;> rw [z, y] <;> rfl
theorem odd_eq (n : Nat) : decide (V.int (((n % 2 : Nat) : Int)) = V.int 1) = odd n := by
  unfold odd
  rcases Nat.mod_two_eq_zero_or_one n with z | z <;> rw [z] <;> rfl
/-- a step -/
def StV (H : Hp) (v : V) (s : Stp) : Prop := ∃ p L, v = .ref p ∧ H p = some (.tup [.int s.1, .ref L]) ∧ H L = some (.lst (s.2.map V.int))
abbrev StsV (H : Hp) : List V → List Stp → Prop := Paired (StV H)
theorem StV.ex {H H' : Hp} {v : V} {s : Stp} (e : Ex H H') (h : StV H v s) : StV H' v s := by
  obtain ⟨p, L, rfl, h1, h2⟩ := h
  exact ⟨p, L, rfl, e _ _ h1, e _ _ h2⟩
theorem StsV.ex {H H' : Hp} {vs : List V} {ss : List Stp} (e : Ex H H') (h : StsV H vs ss) : StsV H' vs ss := Paired.mapP h fun _ _ => StV.ex e
theorem dec_ne (a b : Bool) : (!decide (V.bl a = V.bl b)) = (a != b) := by
  cases a <;> cases b <;> rfl
/-- a test of two parts: both hold, or else -/
theorem nxt_no {f : List Int} {k : Nat} {x : Int} (h : ¬ f[k]? = some x) : nxt f k x = k := if_neg h
theorem nxt_yes {f : List Int} {k : Nat} {x : Int} (h : f[k]? = some x) : nxt f k x = k + 1 := if_pos h
theorem nxt_le (f : List Int) (k : Nat) (x : Int) : nxt f k x ≤ k + 1 := by
  unfold nxt
  split <;> omega
theorem sline2 {n : Nat} (h : n ≤ 16000000) : n ≤ sizeLine := Nat.le_trans h (by decide)
theorem slineL2 {n : Nat} (h : n < 16000000) : n < sizeLine := Nat.lt_of_lt_of_le h (by decide)
/-- a step whose list is not the one at D -/
def StN (D : Addr) (H : Hp) (v : V) (s : Stp) : Prop := ∃ p L, v = .ref p ∧ H p = some (.tup [.int s.1, .ref L]) ∧ L ≠ D ∧ H L = some (.lst (s.2.map V.int))
theorem StN.st {D : Addr} {H : Hp} {v : V} {s : Stp} (h : StN D H v s) : StV H v s := by
  obtain ⟨p, L, rfl, h1, _, h2⟩ := h
  exact ⟨p, L, rfl, h1, h2⟩
theorem StN.ex {D : Addr} {H H' : Hp} {v : V} {s : Stp} (e : Ex H H') (h : StN D H v s) : StN D H' v s := by
  obtain ⟨p, L, rfl, h1, n, h2⟩ := h
  exact ⟨p, L, rfl, e _ _ h1, n, e _ _ h2⟩
theorem StN.mut {D : Addr} {H : Hp} {v : V} {s : Stp} {xs : List V} {o : HO} (hD : H D = some (.lst xs)) (h : StN D H v s) : StN D (upd H D o) v s := by
  obtain ⟨p, L, rfl, h1, n, h2⟩ := h
  refine ⟨p, L, rfl, TK.lst hD _ _ h1, n, ?_⟩
  rw [upd_ne n]
  exact h2
theorem eb_len {ss : List Stp} {M : Nat} (h : ∀ z ∈ ss, z.2.length ≤ M) (k : Nat) : (eb ss k).length ≤ M := by
  unfold eb
  split
  · exact Nat.zero_le _
  · rw [List.getD_eq_getElem?_getD]
    cases hx : ss[k - 1]? with
    | none => exact Nat.zero_le _
    | some z => exact h z (List.mem_of_getElem? hx)
theorem dp_il {K : PySem.W.Frag} {H : Hp} {L : Addr} {es : List Int} (h : H L = some (.lst (es.map V.int))) : Dp K H (.ref L) (.list (es.map PyData.int)) := .lst (SqL.of h) (dp_ints es)
theorem ysOf_get {ss : List Stp} {k : Nat} {s : Stp} (h : ss[k]? = some s) : (ysOf ss)[k]? = some s.1 := by
  unfold ysOf
  rw [List.getElem?_map, h]
  rfl
theorem ysOf_len (ss : List Stp) : (ysOf ss).length = ss.length := List.length_map _
def spTwo (K : PySem.W.Frag) (k : Prop → Prop → Prop) : Sp := fun vs H Q _ => ∃ (a b : Addr) (ua ub : List V) (f g due : List Rc) (S R U : Int → Int → Prop), vs = [.ref a, .ref b] ∧ SqL K H a ua ∧ RcsV H ua f ∧ IsForm S f ∧ f.length ≤ 500000 ∧ SqL K H b ub ∧ RcsV H ub g ∧ IsForm R g ∧ g.length ≤ 500000 ∧
  (∀ x y, U x y ↔ k (S x y) (R x y)) ∧ IsForm U due ∧ due.length ≤ 500000 ∧
  ∀ p ws H', H p = none → Ex H H' → H' p = some (.lst ws) → RcsV H' ws due → Q (.ref p) H'
theorem PtsV.snoc' {H : Hp} {us : List V} {qs : List Pt} {u : V} {z : Pt} (h : PtsV H us qs) (k : PtV H u z) : PtsV H (us ++ [u]) (qs ++ [z]) := Paired.snoc h k
end Od

namespace Od
open PySem L2 Evl
def top (i : Nat) : Stmt := PySem.Challenge.pw_onlythedirt_k04_union.main.body.getD i (.Pass ⟨0, 0, 0, 0⟩)
structure Txt (K : PySem.W.Frag) (mg : Str → Option Value) : Prop where
  abs_ : mg "abs" = none
  bool_ : mg "bool" = none
  enumerate_ : mg "enumerate" = none
  int_ : mg "int" = none
  isinstance_ : mg "isinstance" = none
  len_ : mg "len" = none
  list_ : mg "list" = none
  range_ : mg "range" = none
  sorted_ : mg "sorted" = none
  tuple_ : mg "tuple" = none
  zip_ : mg "zip" = none
  _EITHER_ : ∃ a, mg "_EITHER" = some (.ref a) ∧ ∀ H, SqT K H a [.bl false, .bl true, .bl true, .bl true]
section
variable {P : Program} {w : World} {K : PySem.W.Frag} {mg : Str → Option Value} {base : Heap}
abbrev s_l_deck : Stmt := top 11
theorem sc_l_deck : FnScope ["script", "seed", "cell"] ["script"] (defScope s_l_deck) := ⟨rfl, rfl, rfl, by decide +kernel, rfl, by decide +kernel, by decide +kernel⟩
theorem ok_l_deck {f : Addr} {fd : FuncData} (F : Fun K "_law_deck" "_law_deck" s_l_deck f fd) (T : Txt K mg) : FnOk P w K mg base CX0 1 f fd ["script"] (spDeck K) := by
  refine deck_closed ?_ rfl
  refine F.ok sc_l_deck (fun vs H Q E h => ?_) (fun cdv A outer s H vs Q E hr h => ?_)
  · obtain ⟨a, ns, rfl, _⟩ := h
    rfl
  · obtain ⟨a, ns, rfl, hS, hl, q⟩ := h
    refine ⟨_, (pss_cons (ps_set (i := 1) sc_l_deck.nd rfl (by first | exact Or.inl rfl | exact Or.inr rfl) pe_int)
      (pss_cons (ps_for PassesOwn.never rfl (kpiL K (pv 0)) (pg_name (i := 2) sc_l_deck.nd rfl (by first | exact Or.inl rfl | exact Or.inr rfl))
        (pss_one (ps_set (i := 1) sc_l_deck.nd rfl (by first | exact Or.inl rfl | exact Or.inr rfl) (pe_op op_mod (pe_callTy call_int1 (by rfl) T.int_ bt_int (pa_cons (pe_op op_add (pe_op op_mul (pv 1) pe_int) (pv 2)) pa_nil)) pe_int))))
      (pss_one (ps_ret (pe_lst (pa_cons pe_int (pa_cons pe_int (pa_cons (pv 1) (pa_cons (pe_callTy (klist K) (by rfl) T.list_ bt_list (pa_cons (pv 0) pa_nil)) (pa_cons pe_int pa_nil)))))))))), ?_⟩
    refine ⟨_, rfl, a, rfl, ⟨_, hS⟩, for_list (K := K) (a := a) (xs := ns.map V.int) (fun i σ H' => H' = H ∧ ∃ (z : Int) (c : Option V), σ = [some (.ref a), some (.int z), c] ∧ 0 ≤ z ∧ z < 2147483647)
      ⟨rfl, 7, none, rfl, by decide, by decide⟩ (fun i σ H' _ p => by rw [p.1]; exact hS) ?_ ?_⟩
    · rintro i x σ H' hx ⟨rfl, z, c, rfl, z0, z1⟩
      rw [List.getElem?_map] at hx
      cases e : ns[i]? with
      | none =>
        rw [e] at hx
        cases hx
      | some u =>
        rw [e] at hx
        cases hx
        refine ⟨_, rfl, _, _, rfl, rfl, .inl ⟨by omega, by omega⟩, _, rfl, _, _, rfl, rfl, .inl ⟨_, rfl, ?_⟩⟩
        refine ⟨_, _, rfl, rfl, (by show (0 : Int) < 2147483647; decide), ?_⟩
        refine ⟨rfl, _, _, rfl, ?_, ?_⟩
        · exact Int.emod_nonneg _ (by decide)
        · exact Int.emod_lt_of_pos _ (by decide)
    · rintro σ H' ⟨rfl, z, c, rfl, z0, z1⟩
      refine ⟨_, rfl, _, rfl, a, _, rfl, .inl hS, fun l hl' => ?_⟩
      refine ⟨(by show 5 ≤ sizeLine; decide), fun p hp => ?_⟩
      have hpl : l ≠ p := fun e => by
        rw [← e, upd_same] at hp
        cases hp
      have e1 : Ex H' (upd H' l (.lst (ns.map V.int))) := Ex.new hl'
      refine q p l _ _ (fresh_back e1 hp) (e1.trans (Ex.new hp)) upd_same ⟨0, 0, z, 0, rfl, by decide, by decide, z0, z1⟩ hpl ?_
      rw [upd_ne hpl, upd_same]

abbrev s_l_draw : Stmt := top 12
theorem sc_l_draw : FnScope ["deck", "bound", "number", "value"] ["deck", "bound"] (defScope s_l_draw) := ⟨rfl, rfl, rfl, by decide +kernel, rfl, by decide +kernel, by decide +kernel⟩
theorem ok_l_draw {f : Addr} {fd : FuncData} (F : Fun K "_law_draw" "_law_draw" s_l_draw f fd) (T : Txt K mg) : FnOk P w K mg base CX0 1 f fd ["deck", "bound"] (spDraw K) := by
  refine draw_closed ?_ rfl
  refine F.ok sc_l_draw (fun vs H Q E h => ?_) (fun cdv A outer s H vs Q E hr h => ?_)
  · obtain ⟨a, b, l, ns, xs, rfl, _⟩ := h
    rfl
  · obtain ⟨a, b, l, ns, xs, rfl, ha, ⟨n, k, z, c, rfl, n0, k0, z0, z1⟩, hL, hla, b0, b1, q⟩ := h
    have hH : upd H a (.lst (deckV n k z l c)) = H := by
      have e := upd_back (u := .lst (deckV n k z l c)) ha
      rw [upd_upd] at e
      exact e
    have hL2 : ∀ o, upd H a o l = some (.lst (ns.map V.int)) := fun o => by rw [upd_ne hla]; exact hL
    refine ⟨_, (pss_cut (ps_if (PW.pt (pw_and (pt_cmpR op_eq (pe_ix (kixL K) (pv 0) pe_int (fun _ _ => rfl)) pe_int (nomark _)) (pw_and1 (pt_cmpR op_lt (pe_ix (kixL K) (pv 0) pe_int (fun _ _ => rfl)) (pe_callB (klen K) (by rfl) T.len_ PySem.boot_len (pa_cons (pe_ix (kixL K) (pv 0) pe_int (fun _ _ => rfl)) pa_nil)) (nomark _)))))
        (pss_cons (ps_asg (pe_callB call_abs (by rfl) T.abs_ bt_abs (pa_cons (pe_ix (kixL K) (pe_ix (kixL K) (pv 0) pe_int (fun _ _ => rfl)) (pe_ix (kixL K) (pv 0) pe_int (fun _ _ => rfl)) (fun _ _ => rfl)) pa_nil)) (pg_sub (pv 0) pe_int set_list))
        (pss_one (ps_asg (pe_op op_add (pe_ix (kixL K) (pv 0) pe_int (fun _ _ => rfl)) pe_int) (pg_sub (pv 0) pe_int set_list))))
        (pss_one (ps_if (pt_cmpR op_eq (pe_ix (kixL K) (pv 0) pe_int (fun _ _ => rfl)) pe_int (nomark _))
          (pss_cons (ps_asg (pe_op op_add (pe_ix (kixL K) (pv 0) pe_int (fun _ _ => rfl)) pe_int) (pg_sub (pv 0) pe_int set_list))
          (pss_cons (ps_set (i := 2) sc_l_draw.nd rfl (by first | exact Or.inl rfl | exact Or.inr rfl) (pe_op op_mod (pe_callTy call_int1 (by rfl) T.int_ bt_int (pa_cons (pe_op op_add (pe_op op_add (pe_op op_mul (pe_ix (kixL K) (pv 0) pe_int (fun _ _ => rfl)) pe_int) (pe_op op_mul (pe_ix (kixL K) (pv 0) pe_int (fun _ _ => rfl)) pe_int)) pe_int) pa_nil)) pe_int))
          (pss_cons (ps_set (i := 2) sc_l_draw.nd rfl (by first | exact Or.inl rfl | exact Or.inr rfl) (pe_op op_mod (pe_callTy call_int1 (by rfl) T.int_ bt_int (pa_cons (pe_op op_add (pe_op op_add (pe_op op_mul (pv 2) (pv 2)) (pe_op op_mul pe_int (pe_ix (kixL K) (pv 0) pe_int (fun _ _ => rfl)))) pe_int) pa_nil)) pe_int))
          (pss_cons (ps_set (i := 2) sc_l_draw.nd rfl (by first | exact Or.inl rfl | exact Or.inr rfl) (pe_op op_mod (pe_callTy call_int1 (by rfl) T.int_ bt_int (pa_cons (pe_op op_add (pe_op op_add (pe_op op_mul (pv 2) (pv 2)) (pe_op op_mul pe_int (pe_ix (kixL K) (pv 0) pe_int (fun _ _ => rfl)))) (pe_ix (kixL K) (pv 0) pe_int (fun _ _ => rfl))) pa_nil)) pe_int))
          (pss_one (ps_asg (pe_op op_fdiv (pv 2) pe_int) (pg_sub (pv 0) pe_int set_list)))))))
          pss_nil)))
      (pss_cons (ps_set (i := 3) sc_l_draw.nd rfl (by first | exact Or.inl rfl | exact Or.inr rfl) (pe_op op_mod (pe_callTy call_int1 (by rfl) T.int_ bt_int (pa_cons (pe_ix (kixL K) (pv 0) pe_int (fun _ _ => rfl)) pa_nil)) (pv 1)))
      (pss_cons (ps_asg (pe_op op_fdiv (pe_ix (kixL K) (pv 0) pe_int (fun _ _ => rfl)) (pv 1)) (pg_sub (pv 0) pe_int set_list))
      (pss_one (ps_ret (pv 3)))))), ?_⟩
    refine ⟨fun σ H' => ∃ n k c u, σ = [some (.ref a), some (.int b), u, none] ∧ H' = upd H a (.lst (deckV n k z l c)) ∧ 0 ≤ n ∧ 0 ≤ k, ?_, ?_⟩
    · rw [← hH]
      -- if deck[0] == 0 and deck[1] < len(deck[3])
      refine ⟨_, rfl, a, _, _, _, rfl, rfl, SqL.of upd_same, rfl, rfl, _, rfl, ?_⟩
      refine ite2 (fun e0 => ?_) (fun e0 => ?_)
      · refine ⟨_, rfl, a, _, _, _, rfl, rfl, SqL.of upd_same, rfl, ?_⟩
        refine ⟨_, rfl, a, _, _, _, rfl, rfl, SqL.of upd_same, rfl, ?_⟩
        refine ⟨l, _, rfl, .inl (SqL.of (hL2 _)), _, _, rfl, rfl, _, rfl, ?_⟩
        refine ite2 (fun e1 => ?_) (fun e1 => ?_)
        · -- deck[0] = abs(deck[3][deck[1]]); deck[1] = deck[1] + 1
          have hk : k < (ns.length : Int) := by
            have e2 := of_decide_eq_true e1
            rw [List.length_map] at e2
            exact e2
          obtain ⟨m, rfl⟩ := Int.eq_ofNat_of_zero_le k0
          have hm : m < ns.length := by omega
          refine ⟨_, rfl, a, _, _, _, rfl, rfl, SqL.of upd_same, rfl, ?_⟩
          refine ⟨_, rfl, a, _, _, _, rfl, rfl, SqL.of upd_same, rfl, ?_⟩
          refine ⟨l, _, _, .int ns[m], rfl, rfl, SqL.of (hL2 _), atI_nat (by rw [List.getElem?_map, List.getElem?_eq_getElem hm]; rfl), ?_⟩
          refine ⟨_, rfl, ?_⟩
          refine ⟨_, rfl, a, _, 0, 0, rfl, rfl, upd_same, rfl, ?_⟩
          refine ⟨_, rfl, a, _, _, _, rfl, rfl, SqL.of upd_same, rfl, ?_⟩
          refine ⟨_, _, rfl, rfl, ?_⟩
          refine ⟨_, rfl, a, _, 1, 1, rfl, rfl, upd_same, rfl, ?_⟩
          refine ⟨(if ns[m] < 0 then -ns[m] else ns[m]), (m : Int) + 1, c, none, rfl, ?_, ?_, ?_⟩
          · simp only [upd_upd]
            rfl
          · split <;> omega
          · omega
        · -- elif deck[0] == 0
          refine ⟨_, rfl, a, _, _, _, rfl, rfl, SqL.of upd_same, rfl, rfl, _, rfl, ?_⟩
          refine ite2 (fun e2 => ?_) (fun e2 => ?_)
          · refine ⟨_, rfl, a, _, _, _, rfl, rfl, SqL.of upd_same, rfl, ?_⟩
            refine ⟨_, _, rfl, rfl, ?_⟩
            refine ⟨_, rfl, a, _, 4, 4, rfl, rfl, upd_same, rfl, ?_⟩
            rw [upd_upd]
            -- number = ..
            refine ⟨_, rfl, a, _, _, _, rfl, rfl, SqL.of upd_same, rfl, ?_⟩
            refine ⟨_, _, rfl, rfl, .inr ⟨by decide, by decide⟩, ?_⟩
            refine ⟨_, rfl, a, _, _, _, rfl, rfl, SqL.of upd_same, rfl, ?_⟩
            refine ⟨_, _, rfl, rfl, .inr ⟨by decide, by decide⟩, ?_⟩
            refine ⟨_, _, rfl, rfl, ?_⟩
            refine ⟨_, _, rfl, rfl, .inl ⟨_, rfl, ?_⟩⟩
            refine ⟨_, _, rfl, rfl, (by show (0 : Int) < 2147483647; decide), ?_⟩
            refine ⟨_, rfl, _, rfl, ?_⟩
            refine ⟨_, _, rfl, rfl, .inl ⟨by omega, by omega⟩, ?_⟩
            refine ⟨_, rfl, a, _, _, _, rfl, rfl, SqL.of upd_same, rfl, ?_⟩
            refine ⟨_, _, rfl, rfl, .inl ⟨by decide, by decide⟩, ?_⟩
            refine ⟨_, _, rfl, rfl, ?_⟩
            refine ⟨_, _, rfl, rfl, .inl ⟨_, rfl, ?_⟩⟩
            refine ⟨_, _, rfl, rfl, (by show (0 : Int) < 998244353; decide), ?_⟩
            refine ⟨_, rfl, _, rfl, ?_⟩
            refine ⟨_, _, rfl, rfl, .inl ⟨by omega, by omega⟩, ?_⟩
            refine ⟨_, rfl, a, _, _, _, rfl, rfl, SqL.of upd_same, rfl, ?_⟩
            refine ⟨_, _, rfl, rfl, .inl ⟨by decide, by decide⟩, ?_⟩
            refine ⟨_, _, rfl, rfl, ?_⟩
            refine ⟨_, rfl, a, _, _, _, rfl, rfl, SqL.of upd_same, rfl, ?_⟩
            refine ⟨_, _, rfl, rfl, .inl ⟨_, rfl, ?_⟩⟩
            refine ⟨_, _, rfl, rfl, (by show (0 : Int) < 2147483629; decide), ?_⟩
            refine ⟨_, rfl, _, _, rfl, rfl, ⟨by decide, by decide⟩, ?_⟩
            refine ⟨_, rfl, a, _, 0, 0, rfl, rfl, upd_same, rfl, ?_⟩
            let n1 : Int := (z * 48271 + (c + 1) * 69621 + 12345) % 2147483647
            let n2 : Int := (n1 * n1 + 16807 * (c + 1) + 7) % 998244353
            refine ⟨(n2 * n2 + 48271 * (c + 1) + z) % 2147483629 / 13, k, c + 1, _, rfl, ?_, ?_, k0⟩
            · simp only [upd_upd]
              rfl
            · exact Int.ediv_nonneg (Int.emod_nonneg _ (by decide)) (by decide)
          · exact ⟨n, k, c, none, rfl, upd_upd.symm, n0, k0⟩
      · refine ⟨_, rfl, a, _, _, _, rfl, rfl, SqL.of upd_same, rfl, rfl, _, rfl, ?_⟩
        rw [eq_false_of_ne_true e0]
        refine iteF ?_
        exact ⟨n, k, c, none, rfl, upd_upd.symm, n0, k0⟩
    · rintro σ H' ⟨n, k, c, u, rfl, rfl, n0, k0⟩
      refine ⟨_, rfl, a, _, _, _, rfl, rfl, SqL.of upd_same, rfl, .inl ⟨_, rfl, ?_⟩⟩
      refine ⟨_, rfl, _, _, rfl, rfl, b0, ?_⟩
      refine ⟨_, rfl, a, _, _, _, rfl, rfl, SqL.of upd_same, rfl, ?_⟩
      refine ⟨_, rfl, _, _, rfl, rfl, ⟨b0, b1⟩, ?_⟩
      refine ⟨_, rfl, a, _, 0, 0, rfl, rfl, upd_same, rfl, ?_⟩
      refine ⟨_, rfl, ?_⟩
      rw [upd_upd]
      exact q (n % b) _ (Int.emod_nonneg _ (by omega)) (Int.emod_lt_of_pos _ b0) ⟨n / b, k, z, c, rfl, Int.ediv_nonneg n0 (by omega), k0, z0, z1⟩

abbrev s_l_rectangle : Stmt := top 13
theorem sc_l_rectangle : FnScope ["deck", "size", "left", "top", "wide", "high"] ["deck", "size"] (defScope s_l_rectangle) := ⟨rfl, rfl, rfl, by decide +kernel, rfl, by decide +kernel, by decide +kernel⟩
def spRectangle (K : PySem.W.Frag) : Sp := fun vs H Q _ => ∃ a size, vs = [.ref a, .int size] ∧ DeckAt K H a ∧ 0 < size ∧ size ≤ 1000 ∧
  ∀ p l t r b H', H p = none → Ex H H' → RectAt H' p l t r b → l < r → t < b → -3 ≤ l → -3 ≤ t → r ≤ 2 * size + 3 → b ≤ 2 * size + 3 → Q (.ref p) H'
theorem ok_l_rectangle {f : Addr} {fd : FuncData} (F : Fun K "_law_rectangle" "_law_rectangle" s_l_rectangle f fd) (T : Txt K mg) (D_l_draw : Def P w K mg base CX0 "_law_draw" 1 ["deck", "bound"] (spDraw K)) : FnOk P w K mg base CX0 2 f fd ["deck", "size"] (spRectangle K) := by
  refine F.ok sc_l_rectangle (fun vs H Q E h => ?_) (fun cdv A outer s H vs Q E hr h => ?_)
  · obtain ⟨a, size, rfl, _⟩ := h
    rfl
  · obtain ⟨a, size, rfl, hd, s0, s1, q⟩ := h
    refine ⟨_, (pss_cons (ps_set (i := 2) sc_l_rectangle.nd rfl (by first | exact Or.inl rfl | exact Or.inr rfl) (pe_op op_sub (pe_call D_l_draw.ok (hr.mono (by decide)) rfl D_l_draw.mgf D_l_draw.kp D_l_draw.b .nil pass0 (pa_cons (pv 0) (pa_cons (pv 1) pa_nil))) pe_int))
      (pss_cons (ps_set (i := 3) sc_l_rectangle.nd rfl (by first | exact Or.inl rfl | exact Or.inr rfl) (pe_op op_sub (pe_call D_l_draw.ok (hr.mono (by decide)) rfl D_l_draw.mgf D_l_draw.kp D_l_draw.b .nil pass0 (pa_cons (pv 0) (pa_cons (pv 1) pa_nil))) pe_int))
      (pss_cons (ps_set (i := 4) sc_l_rectangle.nd rfl (by first | exact Or.inl rfl | exact Or.inr rfl) (pe_op op_add pe_int (pe_ix (kixL K) (pe_lst (pa_cons (pe_call D_l_draw.ok (hr.mono (by decide)) rfl D_l_draw.mgf D_l_draw.kp D_l_draw.b .nil pass0 (pa_cons (pv 0) (pa_cons pe_int pa_nil))) (pa_cons (pe_call D_l_draw.ok (hr.mono (by decide)) rfl D_l_draw.mgf D_l_draw.kp D_l_draw.b .nil pass0 (pa_cons (pv 0) (pa_cons (pv 1) pa_nil))) pa_nil))) (pe_call D_l_draw.ok (hr.mono (by decide)) rfl D_l_draw.mgf D_l_draw.kp D_l_draw.b .nil pass0 (pa_cons (pv 0) (pa_cons pe_int pa_nil))) (fun _ _ => rfl))))
      (pss_cons (ps_set (i := 5) sc_l_rectangle.nd rfl (by first | exact Or.inl rfl | exact Or.inr rfl) (pe_op op_add pe_int (pe_ix (kixL K) (pe_lst (pa_cons (pe_call D_l_draw.ok (hr.mono (by decide)) rfl D_l_draw.mgf D_l_draw.kp D_l_draw.b .nil pass0 (pa_cons (pv 0) (pa_cons pe_int pa_nil))) (pa_cons (pe_call D_l_draw.ok (hr.mono (by decide)) rfl D_l_draw.mgf D_l_draw.kp D_l_draw.b .nil pass0 (pa_cons (pv 0) (pa_cons (pv 1) pa_nil))) pa_nil))) (pe_call D_l_draw.ok (hr.mono (by decide)) rfl D_l_draw.mgf D_l_draw.kp D_l_draw.b .nil pass0 (pa_cons (pv 0) (pa_cons pe_int pa_nil))) (fun _ _ => rfl))))
      (pss_one (ps_ret (pe_tup (pa_cons (pv 2) (pa_cons (pv 3) (pa_cons (pe_op op_add (pv 2) (pv 4)) (pa_cons (pe_op op_add (pv 3) (pv 5)) pa_nil))))))))))), ?_⟩
    refine ⟨_, rfl, _, rfl, a, size, rfl, hd, s0, by omega, fun l l0 l1 => ?_⟩
    refine ⟨_, _, rfl, rfl, ?_⟩
    refine ⟨_, rfl, _, rfl, a, size, rfl, hd, s0, by omega, fun t t0 t1 => ?_⟩
    refine ⟨_, _, rfl, rfl, ?_⟩
    refine ⟨_, rfl, a, 3, rfl, hd, by decide, by decide, fun x1 x10 x11 => ?_⟩
    refine ⟨_, rfl, _, rfl, a, size, rfl, hd, s0, by omega, fun x2 x20 x21 => ?_⟩
    refine ⟨(by show 2 ≤ sizeLine; decide), fun p hp => ?_⟩
    have e1 : Ex H (upd H p (.lst [.int x1, .int x2])) := Ex.new hp
    refine ⟨_, rfl, a, 2, rfl, hd.mono e1, by decide, by decide, fun i i0 i1 => ?_⟩
    obtain ⟨w1, hw1, ew1⟩ := pickI (ns := [x1, x2]) i0 i1
    refine ⟨p, _, i, _, rfl, rfl, SqL.of upd_same, ew1, _, _, rfl, rfl, ?_⟩
    have w10 : 0 ≤ w1 := by
      rcases List.mem_cons.mp hw1 with rfl | h
      · exact x10
      · rw [List.mem_singleton.mp h]
        exact x20
    have w11 : w1 < size + 3 := by
      rcases List.mem_cons.mp hw1 with rfl | h
      · omega
      · rw [List.mem_singleton.mp h]
        omega
    generalize hH1 : upd H p (.lst [.int x1, .int x2]) = H1 at *
    have hd1 := hd.mono e1
    refine ⟨_, rfl, a, 3, rfl, hd1, by decide, by decide, fun y1 y10 y11 => ?_⟩
    refine ⟨_, rfl, _, rfl, a, size, rfl, hd1, s0, by omega, fun y2 y20 y21 => ?_⟩
    refine ⟨(by show 2 ≤ sizeLine; decide), fun p2 hp2 => ?_⟩
    have e2 : Ex H1 (upd H1 p2 (.lst [.int y1, .int y2])) := Ex.new hp2
    refine ⟨_, rfl, a, 2, rfl, hd1.mono e2, by decide, by decide, fun j j0 j1 => ?_⟩
    obtain ⟨w2, hw2, ew2⟩ := pickI (ns := [y1, y2]) j0 j1
    refine ⟨p2, _, j, _, rfl, rfl, SqL.of upd_same, ew2, _, _, rfl, rfl, ?_⟩
    have w20 : 0 ≤ w2 := by
      rcases List.mem_cons.mp hw2 with rfl | h
      · exact y10
      · rw [List.mem_singleton.mp h]
        exact y20
    have w21 : w2 < size + 3 := by
      rcases List.mem_cons.mp hw2 with rfl | h
      · omega
      · rw [List.mem_singleton.mp h]
        omega
    generalize hH2 : upd H1 p2 (.lst [.int y1, .int y2]) = H2 at *
    refine ⟨_, rfl, _, rfl, _, rfl, _, rfl, _, _, rfl, rfl, _, rfl, _, rfl, _, _, rfl, rfl, (by show 4 ≤ sizeLine; decide), fun p3 hp3 => ?_⟩
    have e3 := e1.trans e2
    refine q p3 (l - 3) (t - 3) (l - 3 + (1 + w1)) (t - 3 + (1 + w2)) _ (ex_free e3 hp3) (e3.trans (Ex.new hp3)) upd_same ?_ ?_ ?_ ?_ ?_ ?_ <;> omega

abbrev s_l_rectangles : Stmt := top 14
theorem sc_l_rectangles : FnScope ["deck", "count", "size", "found", "k", "rectangle", "other", "edge", "shift"] ["deck", "count", "size"] (defScope s_l_rectangles) := ⟨rfl, rfl, rfl, by decide +kernel, rfl, by decide +kernel, by decide +kernel⟩
def spRectangles (K : PySem.W.Frag) : Sp := fun vs H Q _ => ∃ a count size, vs = [.ref a, .int count, .int size] ∧ DeckAt K H a ∧ 0 ≤ count ∧ count ≤ 10 ∧ 0 < size ∧ size ≤ 20 ∧
  ∀ p us qs H', H p = none → Ex H H' → H' p = some (.lst us) → RcsV H' us qs → (qs.length : Int) = count → (∀ q ∈ qs, Small 1000 q) → Q (.ref p) H'
theorem ok_l_rectangles {f : Addr} {fd : FuncData} (F : Fun K "_law_rectangles" "_law_rectangles" s_l_rectangles f fd) (T : Txt K mg) (D_l_draw : Def P w K mg base CX0 "_law_draw" 1 ["deck", "bound"] (spDraw K))
    (D_l_rectangle : Def P w K mg base CX0 "_law_rectangle" 2 ["deck", "size"] (spRectangle K)) : FnOk P w K mg base CX0 3 f fd ["deck", "count", "size"] (spRectangles K) := by
  refine F.ok sc_l_rectangles (fun vs H Q E h => ?_) (fun cdv A outer s H vs Q E hr h => ?_)
  · obtain ⟨a, count, size, rfl, _⟩ := h
    rfl
  · obtain ⟨a, count, size, rfl, hd, c0, c1, s0, s1, q⟩ := h
    refine ⟨_, (pss_cons (ps_set (i := 3) sc_l_rectangles.nd rfl (by first | exact Or.inl rfl | exact Or.inr rfl) (pe_lst pa_nil))
      (pss_cons (ps_for PassesOwn.never rfl (pi_range1 (by rfl) T.range_ (pa_cons (pv 1) pa_nil)) (pg_name (i := 4) sc_l_rectangles.nd rfl (by first | exact Or.inl rfl | exact Or.inr rfl))
        (pss_cons (ps_set (i := 5) sc_l_rectangles.nd rfl (by first | exact Or.inl rfl | exact Or.inr rfl) (pe_call D_l_rectangle.ok (hr.mono (by decide)) rfl D_l_rectangle.mgf D_l_rectangle.kp D_l_rectangle.b .nil pass0 (pa_cons (pv 0) (pa_cons (pv 2) pa_nil))))
        (pss_cut (ps_if (PW.pt (pw_and (pt_cmpR op_gt (pe_callB (klen K) (by rfl) T.len_ PySem.boot_len (pa_cons (pv 3) pa_nil)) pe_int (nomark _)) (pw_and1 (pt_cmpR op_eq (pe_call D_l_draw.ok (hr.mono (by decide)) rfl D_l_draw.mgf D_l_draw.kp D_l_draw.b .nil pass0 (pa_cons (pv 0) (pa_cons pe_int pa_nil))) pe_int (nomark _)))))
          (pss_cons (ps_set (i := 6) sc_l_rectangles.nd rfl (by first | exact Or.inl rfl | exact Or.inr rfl) (pe_ix (kixL K) (pv 3) (pe_call D_l_draw.ok (hr.mono (by decide)) rfl D_l_draw.mgf D_l_draw.kp D_l_draw.b .nil pass0 (pa_cons (pv 0) (pa_cons (pe_callB (klen K) (by rfl) T.len_ PySem.boot_len (pa_cons (pv 3) pa_nil)) pa_nil))) (fun _ _ => rfl)))
          (pss_cons (ps_set (i := 7) sc_l_rectangles.nd rfl (by first | exact Or.inl rfl | exact Or.inr rfl) (pe_call D_l_draw.ok (hr.mono (by decide)) rfl D_l_draw.mgf D_l_draw.kp D_l_draw.b .nil pass0 (pa_cons (pv 0) (pa_cons pe_int pa_nil))))
          (pss_cons (ps_set (i := 8) sc_l_rectangles.nd rfl (by first | exact Or.inl rfl | exact Or.inr rfl) (pe_op op_sub (pe_ix (kixT K) (pv 6) (pv 7) (fun _ _ => rfl)) (pe_ix (kixT K) (pv 5) (pe_op op_mod (pe_callTy call_int1 (by rfl) T.int_ bt_int (pa_cons (pe_op op_add (pv 7) (pe_op op_mul pe_int (pe_call D_l_draw.ok (hr.mono (by decide)) rfl D_l_draw.mgf D_l_draw.kp D_l_draw.b .nil pass0 (pa_cons (pv 0) (pa_cons pe_int pa_nil))))) pa_nil)) pe_int) (fun _ _ => rfl))))
          (pss_one (ps_if (PW.pt (pw_or (pt_cmpR op_eq (pv 7) pe_int (nomark _)) (pw_or1 (pt_cmpR op_eq (pv 7) pe_int (nomark _)))))
            (pss_one (ps_set (i := 5) sc_l_rectangles.nd rfl (by first | exact Or.inl rfl | exact Or.inr rfl) (pe_tup (pa_cons (pe_op op_add (pe_ix (kixT K) (pv 5) pe_int (fun _ _ => rfl)) (pv 8)) (pa_cons (pe_ix (kixT K) (pv 5) pe_int (fun _ _ => rfl)) (pa_cons (pe_op op_add (pe_ix (kixT K) (pv 5) pe_int (fun _ _ => rfl)) (pv 8)) (pa_cons (pe_ix (kixT K) (pv 5) pe_int (fun _ _ => rfl)) pa_nil)))))))
            (pss_one (ps_set (i := 5) sc_l_rectangles.nd rfl (by first | exact Or.inl rfl | exact Or.inr rfl) (pe_tup (pa_cons (pe_ix (kixT K) (pv 5) pe_int (fun _ _ => rfl)) (pa_cons (pe_op op_add (pe_ix (kixT K) (pv 5) pe_int (fun _ _ => rfl)) (pv 8)) (pa_cons (pe_ix (kixT K) (pv 5) pe_int (fun _ _ => rfl)) (pa_cons (pe_op op_add (pe_ix (kixT K) (pv 5) pe_int (fun _ _ => rfl)) (pv 8)) pa_nil))))))))))))
          pss_nil)
        (pss_one (ps_expr (pe_bm PySem.F.plainAttrs_list PySem.F.slot_list_append PySem.F.type_list_append mt_append (pv 3) (pa_cons (pv 5) pa_nil)))))))
      (pss_one (ps_ret (pv 3))))), ?_⟩
    refine ⟨Nat.zero_le _, fun p hp => ?_⟩
    refine ⟨_, rfl, count, rfl, by omega, by omega, for_range (lo := 0) (n := count.toNat) (fun i σ H' => ∃ us qs v1 v2 v3 v4 v5, σ = [some (.ref a), some (.int count), some (.int size), some (.ref p), v1, v2, v3, v4, v5] ∧ Ex H H' ∧ H' p = some (.lst us) ∧ RcsV H' us qs ∧ qs.length = i ∧ ∀ q ∈ qs, Small (60 * (i + 1)) q) ?_ ?_ ?_⟩
    · exact ⟨[], [], none, none, none, none, none, rfl, Ex.new hp, upd_same, .nil, rfl, fun q h => by simp at h⟩
    · rintro i σ H' hi ⟨us, qs, v1, v2, v3, v4, v5, rfl, e, hl, hq, hn, hb⟩
      have hlen : us.length = i := by rw [hq.length]; exact hn
      have hi10 : i < 10 := by omega
      -- rectangle = _law_rectangle(deck, size)
      refine ⟨_, rfl, _, rfl, a, size, rfl, hd.mono e, s0, by omega, fun pr l t r b H1 hp1 e1 hr1 l1 l2 l3 l4 l5 l6 => ?_⟩
      have hd1 := (hd.mono e).mono e1
      have hl1 := e1 _ _ hl
      have hq1 := hq.tk (TK.ex e1)
      refine ⟨fun σ2 H2 => ∃ (pr2 : Addr) (rc : Rc) (w1 w2 w3 : Option V), σ2 = [some (.ref a), some (.int count), some (.int size), some (.ref p), some (.int (0 + (i : Int))), some (.ref pr2), w1, w2, w3] ∧ Ex H1 H2 ∧ H2 pr2 = some (.tup [.int rc.l, .int rc.t, .int rc.r, .int rc.b]) ∧ Small (60 * ((i : Int) + 2)) rc, ?_, ?_⟩
      · -- if len(found) > 0 and _law_draw(deck, 3) == 0
        refine ⟨_, rfl, p, us, rfl, .inl (SqL.of hl1), _, _, rfl, rfl, _, rfl, ?_⟩
        have keep : ∃ (pr2 : Addr) (rc : Rc) (w1 w2 w3 : Option V), ([some (.ref a), some (.int count), some (.int size), some (.ref p), some (.int (0 + (i : Int))), some (.ref pr), v3, v4, v5] : L2.St) = [some (.ref a), some (.int count), some (.int size), some (.ref p), some (.int (0 + (i : Int))), some (.ref pr2), w1, w2, w3] ∧ Ex H1 H1 ∧ H1 pr2 = some (.tup [.int rc.l, .int rc.t, .int rc.r, .int rc.b]) ∧ Small (60 * ((i : Int) + 2)) rc :=
          ⟨pr, ⟨l, t, r, b⟩, v3, v4, v5, rfl, Ex.refl _, hr1, by unfold Small; refine ⟨l1, l2, ?_, ?_, ?_, ?_, ?_, ?_⟩ <;> dsimp only <;> omega⟩
        refine ite2 (fun e0 => ?_) (fun e0 => ?_)
        · refine ⟨_, rfl, a, 3, rfl, hd1, by decide, by decide, fun z _ _ => ?_⟩
          refine ⟨rfl, _, rfl, ?_⟩
          refine ite2 (fun e2 => ?_) (fun e2 => ?_)
          · have hpos : 0 < us.length := by
              have := of_decide_eq_true e0
              omega
            -- other = found[_law_draw(deck, len(found))]
            refine ⟨_, rfl, _, rfl, _, rfl, p, us, rfl, .inl (SqL.of hl1), a, _, rfl, hd1, by omega, by omega, fun k k0 k1 => ?_⟩
            obtain ⟨po, qo, hqo, ek, hpo⟩ := pickR hq1 k0 k1
            refine ⟨p, us, k, _, rfl, rfl, SqL.of hl1, ek, ?_⟩
            refine ⟨_, rfl, a, 4, rfl, hd1, by decide, by decide, fun ed ed0 ed1 => ?_⟩
            obtain ⟨oe, hoe, eoe⟩ := pickI (ns := [qo.l, qo.t, qo.r, qo.b]) ed0 ed1
            refine ⟨_, rfl, _, rfl, po, _, ed, _, rfl, rfl, SqT.of hpo, eoe, ?_⟩
            refine ⟨_, rfl, _, rfl, _, rfl, a, 2, rfl, hd1, by decide, by decide, fun g g0 g1 => ?_⟩
            refine ⟨_, _, rfl, rfl, .inl ⟨by decide, by decide⟩, _, _, rfl, rfl, .inl ⟨_, rfl, ?_⟩⟩
            refine ⟨_, _, rfl, rfl, (by show (0 : Int) < 4; decide), ?_⟩
            obtain ⟨re, hre, ere⟩ := pickI (ns := [l, t, r, b]) (i := (ed + 2 * g) % 4) (Int.emod_nonneg _ (by decide)) (Int.emod_lt_of_pos _ (by decide))
            refine ⟨pr, _, _, _, rfl, rfl, SqT.of hr1, ere, _, _, rfl, rfl, ?_⟩
            -- where the edges stand
            have ho := hb qo hqo
            obtain ⟨o1, o2, o3, o4, o5, o6, o7, o8⟩ := ho
            have cases_g : g = 0 ∨ g = 1 := by omega
            have cases_e : ed = 0 ∨ ed = 1 ∨ ed = 2 ∨ ed = 3 := by omega
            refine ⟨_, rfl, rfl, _, rfl, ?_⟩
            have hor : ∀ (A B : Prop), (ed = 0 ∨ ed = 2 → A) → (ed = 1 ∨ ed = 3 → B) → (if decide (V.int ed = V.int 0) = true then (if true = true then A else B) else if decide (V.int ed = V.int 2) = true then A else B) := by
              intro A B hA hB
              rcases cases_e with rfl | rfl | rfl | rfl
              · exact iteT (iteT (hA (.inl rfl)))
              · exact iteF (iteF (hB (.inl rfl)))
              · exact iteF (iteT (hA (.inr rfl)))
              · exact iteF (iteF (hB (.inr rfl)))
            -- the bound of what is moved
            have fin1 : ed = 0 ∨ ed = 2 → Small (60 * ((i : Int) + 2)) ⟨l + (oe - re), t, r + (oe - re), b⟩ := by
              intro he
              rcases he with rfl | rfl <;> rcases cases_g with rfl | rfl <;> (
                have q1 : oe = _ := (V.int.inj (Option.some.inj (eoe.symm.trans rfl)))
                have q2 : re = _ := (V.int.inj (Option.some.inj (ere.symm.trans rfl)))
                subst q1 q2
                unfold Small
                refine ⟨?_, ?_, ?_, ?_, ?_, ?_, ?_, ?_⟩ <;> dsimp only <;> omega)
            have fin2 : ed = 1 ∨ ed = 3 → Small (60 * ((i : Int) + 2)) ⟨l, t + (oe - re), r, b + (oe - re)⟩ := by
              intro he
              rcases he with rfl | rfl <;> rcases cases_g with rfl | rfl <;> (
                have q1 : oe = _ := (V.int.inj (Option.some.inj (eoe.symm.trans rfl)))
                have q2 : re = _ := (V.int.inj (Option.some.inj (ere.symm.trans rfl)))
                subst q1 q2
                unfold Small
                refine ⟨?_, ?_, ?_, ?_, ?_, ?_, ?_, ?_⟩ <;> dsimp only <;> omega)
            by_cases hed : ed = 0 ∨ ed = 2
            · have fin := fin1 hed
              have go : ∀ {A B : Prop}, A → (if decide (V.int ed = V.int 0) = true then A else if decide (V.int ed = V.int 2) = true then A else B) := by
                intro A B hA
                rcases hed with rfl | rfl
                · exact iteT hA
                · exact iteF (iteT hA)
              refine ite2 (fun _ => ?_) (fun z0 => ?_)
              · refine iteT ?_
                refine ⟨_, rfl, pr, _, _, _, rfl, rfl, SqT.of hr1, rfl, _, rfl, _, _, rfl, rfl, ?_⟩
                refine ⟨_, rfl, pr, _, _, _, rfl, rfl, SqT.of hr1, rfl, ?_⟩
                refine ⟨_, rfl, pr, _, _, _, rfl, rfl, SqT.of hr1, rfl, _, rfl, _, _, rfl, rfl, ?_⟩
                refine ⟨_, rfl, pr, _, _, _, rfl, rfl, SqT.of hr1, rfl, ?_⟩
                refine ⟨(by show 4 ≤ sizeLine; decide), fun pn hpn => ?_⟩
                exact ⟨pn, _, _, _, _, rfl, Ex.new hpn, upd_same, fin⟩
              · refine ⟨_, rfl, rfl, _, rfl, ?_⟩
                have e2 : decide (V.int ed = V.int 2) = true := by
                  rcases hed with rfl | rfl
                  · exact absurd rfl z0
                  · rfl
                rw [e2]
                refine iteT ?_
                refine ⟨_, rfl, pr, _, _, _, rfl, rfl, SqT.of hr1, rfl, _, rfl, _, _, rfl, rfl, ?_⟩
                refine ⟨_, rfl, pr, _, _, _, rfl, rfl, SqT.of hr1, rfl, ?_⟩
                refine ⟨_, rfl, pr, _, _, _, rfl, rfl, SqT.of hr1, rfl, _, rfl, _, _, rfl, rfl, ?_⟩
                refine ⟨_, rfl, pr, _, _, _, rfl, rfl, SqT.of hr1, rfl, ?_⟩
                refine ⟨(by show 4 ≤ sizeLine; decide), fun pn hpn => ?_⟩
                exact ⟨pn, _, _, _, _, rfl, Ex.new hpn, upd_same, fin⟩
            · have fin := fin2 (by omega)
              have e1 : decide (V.int ed = V.int 0) = false := decide_eq_false fun z => hed (.inl (V.int.inj z))
              have e2 : decide (V.int ed = V.int 2) = false := decide_eq_false fun z => hed (.inr (V.int.inj z))
              rw [e1]
              refine iteF ?_
              refine ⟨_, rfl, rfl, _, rfl, ?_⟩
              rw [e2]
              refine iteF ?_
              refine ⟨_, rfl, pr, _, _, _, rfl, rfl, SqT.of hr1, rfl, ?_⟩
              refine ⟨_, rfl, pr, _, _, _, rfl, rfl, SqT.of hr1, rfl, _, rfl, _, _, rfl, rfl, ?_⟩
              refine ⟨_, rfl, pr, _, _, _, rfl, rfl, SqT.of hr1, rfl, ?_⟩
              refine ⟨_, rfl, pr, _, _, _, rfl, rfl, SqT.of hr1, rfl, _, rfl, _, _, rfl, rfl, ?_⟩
              refine ⟨(by show 4 ≤ sizeLine; decide), fun pn hpn => ?_⟩
              exact ⟨pn, _, _, _, _, rfl, Ex.new hpn, upd_same, fin⟩
          · exact keep
        · exact keep
      · rintro σ2 H2 ⟨pr2, rc, w1, w2, w3, rfl, e2, hrc, hs⟩
        have hl2 := e2 _ _ hl1
        refine ⟨_, rfl, .inl ⟨rfl, _, SqL.of hl2⟩, _, rfl, p, us, _, rfl, rfl, hl2, slineL (by omega), ?_⟩
        have tk : TK H2 (upd H2 p (.lst (us ++ [.ref pr2]))) := TK.lst hl2
        refine ⟨us ++ [.ref pr2], qs ++ [rc], _, _, _, _, _, rfl, ((e.trans e1).trans e2).mut hp, upd_same, ?_, ?_, ?_⟩
        · exact ((hq1.tk (TK.ex e2)).tk tk).snoc ⟨pr2, rfl, tk _ _ hrc⟩
        · rw [List.length_append, hn]
          rfl
        · intro q hq
          rcases List.mem_append.mp hq with h | h
          · exact (hb q h).mono (by omega)
          · rw [List.mem_singleton.mp h]
            exact hs.mono (by omega)
    · rintro σ H' ⟨us, qs, v1, v2, v3, v4, v5, rfl, e, hl, hq, hn, hb⟩
      refine ⟨_, rfl, ?_⟩
      exact q p us qs H' hp e hl hq (by omega) fun x hx => (hb x hx).mono (by omega)

abbrev s_l_points : Stmt := top 15
theorem sc_l_points : FnScope ["rectangles", "found", "left", "top", "right", "bottom", "y", "x"] ["rectangles"] (defScope s_l_points) := ⟨rfl, rfl, rfl, by decide +kernel, rfl, by decide +kernel, by decide +kernel⟩
def spPoints (K : PySem.W.Frag) : Sp := fun vs H Q _ => ∃ a us qs, vs = [.ref a] ∧ SqL K H a us ∧ RcsV H us qs ∧ qs.length ≤ 100 ∧ (∀ q ∈ qs, Small 100000 q) ∧
  ∀ d pts H', H d = none → Ex H H' → H' d = some (.dT (mkd pts)) → pts.Nodup → (∀ x y, (x, y) ∈ pts ↔ ∃ q ∈ qs, inRc q x y) → pts.length ≤ 2500 * qs.length → Q (.ref d) H'
theorem ok_l_points {f : Addr} {fd : FuncData} (F : Fun K "_law_points" "_law_points" s_l_points f fd) (T : Txt K mg) : FnOk P w K mg base CX0 1 f fd ["rectangles"] (spPoints K) := by
  refine F.ok sc_l_points (fun vs H Q E h => ?_) (fun cdv A outer s H vs Q E hr h => ?_)
  · obtain ⟨a, us, qs, rfl, _⟩ := h
    rfl
  · obtain ⟨a, us, qs, rfl, hS, hq, hn, hb, q⟩ := h
    refine ⟨_, (pss_cons (ps_set (i := 1) sc_l_points.nd rfl (by first | exact Or.inl rfl | exact Or.inr rfl) pe_dnewT)
      (pss_cons (ps_for PassesOwn.never rfl (kpiL K (pv 0)) (kpgT K (n := 4) rfl (pgs_cons (pg_name (i := 2) sc_l_points.nd rfl (by first | exact Or.inl rfl | exact Or.inr rfl)) (pgs_cons (pg_name (i := 3) sc_l_points.nd rfl (by first | exact Or.inl rfl | exact Or.inr rfl)) (pgs_cons (pg_name (i := 4) sc_l_points.nd rfl (by first | exact Or.inl rfl | exact Or.inr rfl)) (pgs_cons (pg_name (i := 5) sc_l_points.nd rfl (by first | exact Or.inl rfl | exact Or.inr rfl)) pgs_nil)))))
        (pss_one (ps_for PassesOwn.never rfl (pi_range2 (by rfl) T.range_ (pa_cons (pv 3) (pa_cons (pv 5) pa_nil))) (pg_name (i := 6) sc_l_points.nd rfl (by first | exact Or.inl rfl | exact Or.inr rfl))
          (pss_one (ps_for PassesOwn.never rfl (pi_range2 (by rfl) T.range_ (pa_cons (pv 2) (pa_cons (pv 4) pa_nil))) (pg_name (i := 7) sc_l_points.nd rfl (by first | exact Or.inl rfl | exact Or.inr rfl))
            (pss_one (ps_dput (hu_of hr) (pv 1) (pe_tup (pa_cons (pv 7) (pa_cons (pv 6) pa_nil))) pe_bl rfl)))))))
      (pss_one (ps_ret (pv 1))))), ?_⟩
    intro d hd
    have hlen := hq.length
    refine ⟨_, rfl, a, rfl, ⟨_, ex_l (Ex.new hd) hS⟩, for_list (K := K) (a := a) (xs := us) (fun i σ H' => ∃ v2 v3 v4 v5 v6 v7 pts, σ = [some (.ref a), some (.ref d), v2, v3, v4, v5, v6, v7] ∧ Ex H H' ∧ H' d = some (.dT (mkd pts)) ∧ pts.Nodup ∧
      (∀ x y, (x, y) ∈ pts ↔ ∃ q ∈ qs.take i, inRc q x y) ∧ pts.length ≤ 2500 * i) ?_ ?_ ?_ ?_⟩
    · exact ⟨none, none, none, none, none, none, [], rfl, Ex.new hd, upd_same, List.nodup_nil, fun x y => by simp, by simp⟩
    · rintro i σ H' _ ⟨_, _, _, _, _, _, pts, _, e, _⟩
      exact ex_l e hS
    · rintro i u σ H' hi ⟨v2, v3, v4, v5, v6, v7, pts, rfl, e, hD, nd, mem, ln⟩
      obtain ⟨rc, hrc, pr, rfl, hp⟩ := pr_get hq hi
      have hsm := hb rc (List.mem_of_getElem? hrc)
      obtain ⟨s1, s2, s3, s4, s5, s6, s7, s8⟩ := hsm
      have hi100 : i < 100 := by
        have := (List.getElem?_eq_some_iff.mp hrc).1
        omega
      refine ⟨pr, _, rfl, SqT.of (e _ _ hp), rfl, _, _, rfl, _, _, rfl, _, _, rfl, _, _, rfl, rfl, ?_⟩
      -- for y in range(top, bottom)
      refine ⟨_, rfl, _, rfl, rc.t, rc.b, rfl, ⟨by omega, by omega, by omega, by omega⟩, for_range (lo := rc.t) (n := (rc.b - rc.t).toNat) (fun j σ H' => ∃ v6 v7 pts, σ = [some (.ref a), some (.ref d), some (.int rc.l), some (.int rc.t), some (.int rc.r), some (.int rc.b), v6, v7] ∧ Ex H H' ∧ H' d = some (.dT (mkd pts)) ∧ pts.Nodup ∧
        (∀ x y, (x, y) ∈ pts ↔ (∃ q ∈ qs.take i, inRc q x y) ∨ (rc.l ≤ x ∧ x < rc.r ∧ rc.t ≤ y ∧ y < rc.t + (j : Int))) ∧ pts.length ≤ 2500 * i + 50 * j) ?_ ?_ ?_⟩
      · exact ⟨v6, v7, pts, rfl, e, hD, nd, fun x y => by rw [mem]; constructor; exact .inl; rintro (h | h); exact h; omega, by omega⟩
      · rintro j σ H' hj ⟨v6, v7, pts, rfl, e, hD, nd, mem, ln⟩
        refine ⟨_, rfl, _, rfl, rc.l, rc.r, rfl, ⟨by omega, by omega, by omega, by omega⟩, for_range (lo := rc.l) (n := (rc.r - rc.l).toNat) (fun k σ H' => ∃ v7 pts, σ = [some (.ref a), some (.ref d), some (.int rc.l), some (.int rc.t), some (.int rc.r), some (.int rc.b), some (.int (rc.t + (j : Int))), v7] ∧ Ex H H' ∧ H' d = some (.dT (mkd pts)) ∧ pts.Nodup ∧
          (∀ x y, (x, y) ∈ pts ↔ ((∃ q ∈ qs.take i, inRc q x y) ∨ (rc.l ≤ x ∧ x < rc.r ∧ rc.t ≤ y ∧ y < rc.t + (j : Int))) ∨ (rc.l ≤ x ∧ x < rc.l + (k : Int) ∧ y = rc.t + (j : Int))) ∧ pts.length ≤ 2500 * i + 50 * j + k) ?_ ?_ ?_⟩
        · exact ⟨v7, pts, rfl, e, hD, nd, fun x y => by rw [mem]; constructor; exact .inl; rintro (h | h); exact h; omega, by omega⟩
        · rintro k σ H' hk ⟨v7, pts, rfl, e, hD, nd, mem, ln⟩
          refine ⟨_, rfl, _, rfl, _, rfl, (by show 2 ≤ sizeLine; decide), fun pk hpk => ?_⟩
          have hD2 := (Ex.new (o := .tup [.int (rc.l + (k : Int)), .int (rc.t + (j : Int))]) hpk) _ _ hD
          refine ⟨d, _, rfl, DPut.t (k := ptK (rc.l + (k : Int), rc.t + (j : Int))) hD2 upd_same (by rw [mkd_len]; exact slineL (by omega)), ?_⟩
          refine ⟨_, addP pts (rc.l + (k : Int), rc.t + (j : Int)), rfl, (e.trans (Ex.new hpk)).mut hd, by rw [upd_same, mkd_put]; rfl, nodup_addP nd, fun x y => ?_, ?_⟩
          · rw [mem_addP, mem, or_assoc]
            refine or_congr_right ?_
            constructor
            · rintro (h | h)
              · exact ⟨h.1, by omega, h.2.2⟩
              · injection h with h1 h2
                exact ⟨by omega, by omega, h2⟩
            · rintro ⟨h1, h2, h3⟩
              by_cases h4 : x < rc.l + (k : Int)
              · exact .inl ⟨h1, h4, h3⟩
              · refine .inr (Prod.ext ?_ h3)
                show x = rc.l + (k : Int)
                omega
          · have := len_addP pts (rc.l + (k : Int), rc.t + (j : Int))
            omega
        · rintro σ H' ⟨v7, pts, rfl, e, hD, nd, mem, ln⟩
          refine ⟨_, v7, pts, rfl, e, hD, nd, fun x y => ?_, by omega⟩
          rw [mem, or_assoc]
          refine or_congr_right ?_
          constructor
          · rintro (h | h) <;> exact ⟨by omega, by omega, by omega, by omega⟩
          · rintro ⟨h1, h2, h3, h4⟩
            by_cases h5 : y < rc.t + (j : Int)
            · exact .inl ⟨h1, h2, h3, h5⟩
            · exact .inr ⟨h1, by omega, by omega⟩
      · rintro σ H' ⟨v6, v7, pts, rfl, e, hD, nd, mem, ln⟩
        refine ⟨_, _, _, _, _, _, pts, rfl, e, hD, nd, fun x y => ?_, by omega⟩
        rw [mem]
        constructor
        · rintro (⟨q, h1, h2⟩ | h)
          · exact ⟨q, (mem_take_succ hrc).mpr (.inl h1), h2⟩
          · exact ⟨rc, (mem_take_succ hrc).mpr (.inr rfl), h.1, h.2.1, h.2.2.1, by omega⟩
        · rintro ⟨q, h1, h2⟩
          rcases (mem_take_succ hrc).mp h1 with h1 | rfl
          · exact .inl ⟨q, h1, h2⟩
          · exact .inr ⟨h2.1, h2.2.1, h2.2.2.1, by have := h2.2.2.2; omega⟩
    · rintro σ H' ⟨v2, v3, v4, v5, v6, v7, pts, rfl, e, hD, nd, mem, ln⟩
      rw [hlen, List.take_length] at mem
      exact ⟨_, rfl, q d pts H' hd e hD nd mem (by omega)⟩

abbrev s_l_runs : Stmt := top 16
theorem sc_l_runs : FnScope ["points", "y", "row", "runs", "x", "point"] ["points", "y"] (defScope s_l_runs) := ⟨rfl, rfl, rfl, by decide +kernel, rfl, by decide +kernel, by decide +kernel⟩
def spRuns (K : PySem.W.Frag) : Sp := fun vs H Q _ => ∃ d pts y, vs = [.ref d, .int y] ∧ SrcAt K H d pts ∧ pts.Nodup ∧ pts.length ≤ 300000 ∧
  ∀ p us rs H', H p = none → Ex H H' → H' p = some (.lst us) → PtsV H' us rs → RunsOk rs → (∀ x, inRuns rs x ↔ (x, y) ∈ pts) → rs.length ≤ (pts.filter fun z => z.2 == y).length → Q (.ref p) H'
theorem row_step {pts : List Pt} {i : Nat} {q : Pt} {y : Int} (h : pts[i]? = some q) : ((pts.take (i + 1)).filter fun z => z.2 == y) = ((pts.take i).filter fun z => z.2 == y) ++ (if q.2 = y then [q] else []) := by
  rw [List.take_add_one, h, List.filter_append]
  congr 1
  by_cases e : q.2 = y <;> simp [e]
theorem ok_l_runs {f : Addr} {fd : FuncData} (F : Fun K "_law_runs" "_law_runs" s_l_runs f fd) (T : Txt K mg) : FnOk P w K mg base CX0 1 f fd ["points", "y"] (spRuns K) := by
  refine F.ok sc_l_runs (fun vs H Q E h => ?_) (fun cdv A outer s H vs Q E hr h => ?_)
  · obtain ⟨d, pts, y, rfl, _⟩ := h
    rfl
  · obtain ⟨d, pts, y, rfl, hD, nd, hn, q⟩ := h
    -- behind the comprehension: D holds the xs of the row
    let Cx0 := (cxOf CX0 P w K mg base ["points", "y", "row", "runs", "x", "point"] "_law_runs" (defScope s_l_runs) f cdv A outer s H E).nox
    obtain ⟨tr, ht, hread⟩ : ∃ tr, PSs Cx0 ((defBody s_l_runs).drop 1) tr ∧ ∀ (row : List Int) (pr : Addr) (H2 : Hp), row.Perm ((pts.filter fun z => z.2 == y).map (·.1)) → row.Pairwise (· ≤ ·) → Ex H H2 → H2 pr = some (.lst (row.map V.int)) →
        tr { nx := fun _ H' => Q .non H', rt := Q } [some (.ref d), some (.int y), some (.ref pr), none, none, none] H2 := by
      refine ⟨_, (pss_cons (ps_set (i := 3) sc_l_runs.nd rfl (by first | exact Or.inl rfl | exact Or.inr rfl) (pe_lst pa_nil))
      (pss_cons (ps_for PassesOwn.never rfl (kpiL K (pv 2)) (pg_name (i := 4) sc_l_runs.nd rfl (by first | exact Or.inl rfl | exact Or.inr rfl))
        (pss_one (ps_if (PW.pt (pw_and (pt_cmpR op_gt (pe_callB (klen K) (by rfl) T.len_ PySem.boot_len (pa_cons (pv 3) pa_nil)) pe_int (nomark _)) (pw_and1 (pt_cmpR op_eq (pe_ix (kixT K) (pe_ix (kixL K) (pv 3) (pe_un un_neg pe_int) (fun _ _ => rfl)) pe_int (fun _ _ => rfl)) (pv 4) (nomark _)))))
          (pss_one (ps_asg (pe_tup (pa_cons (pe_ix (kixT K) (pe_ix (kixL K) (pv 3) (pe_un un_neg pe_int) (fun _ _ => rfl)) pe_int (fun _ _ => rfl)) (pa_cons (pe_op op_add (pv 4) pe_int) pa_nil))) (pg_sub (pv 3) (pe_un un_neg pe_int) set_list)))
          (pss_one (ps_expr (pe_bm PySem.F.plainAttrs_list PySem.F.slot_list_append PySem.F.type_list_append mt_append (pv 3) (pa_cons (pe_tup (pa_cons (pv 4) (pa_cons (pe_op op_add (pv 4) pe_int) pa_nil))) pa_nil)))))))
      (pss_one (ps_ret (pv 3))))), ?_⟩
      intro row pr H2 hperm hsort e2 hR
      have mrow : ∀ x, x ∈ row ↔ (x, y) ∈ pts := fun x => by
        rw [hperm.mem_iff, List.mem_map]
        constructor
        · rintro ⟨z, hz, rfl⟩
          rw [List.mem_filter] at hz
          have : z.2 = y := by simpa using hz.2
          rw [← this]
          exact hz.1
        · intro h
          exact ⟨(x, y), List.mem_filter.mpr ⟨h, by simp⟩, rfl⟩
      have hnd : row.Nodup := by
        refine hperm.nodup_iff.mpr ?_
        rw [List.nodup_iff_pairwise_ne, List.pairwise_map]
        refine List.Pairwise.imp_of_mem ?_ (nd.filter _)
        intro a b ha hb hne e
        have h1 : a.2 = y := by simpa using (List.mem_filter.mp ha).2
        have h2 : b.2 = y := by simpa using (List.mem_filter.mp hb).2
        exact hne (Prod.ext e (h1.trans h2.symm))
      have hstrict : row.Pairwise (· < ·) := by
        have := List.Pairwise.and hsort (List.nodup_iff_pairwise_ne.mp hnd)
        exact this.imp fun h => by omega
      have hrf : row.length = (pts.filter fun z => z.2 == y).length := by
        rw [hperm.length_eq, List.length_map]
      have hrl : row.length ≤ 300000 := by
        have h2 := List.length_filter_le (fun z : Pt => z.2 == y) pts
        omega
      -- runs = []
      refine ⟨Nat.zero_le _, fun pb hpb => ?_⟩
      have hbr : pr ≠ pb := fun e => by
        rw [← e, hR] at hpb
        cases hpb
      have hpbH : H pb = none := ex_free e2 hpb
      refine ⟨_, rfl, pr, rfl, ⟨_, SqL.of ((Ex.new hpb) _ _ hR)⟩, for_list (K := K) (a := pr) (xs := row.map V.int) (fun i σ H' => ∃ us rs v5, σ = [some (.ref d), some (.int y), some (.ref pr), some (.ref pb), v5, none] ∧ Ex H2 H' ∧ H' pb = some (.lst us) ∧ PtsV H' us rs ∧ RunsOk rs ∧ (∀ x, inRuns rs x ↔ x ∈ row.take i) ∧ rs.length ≤ i) ?_ ?_ ?_ ?_⟩
      · exact ⟨[], [], none, rfl, Ex.new hpb, upd_same, .nil, .nil, fun x => by simp [inRuns], Nat.le_refl _⟩
      · rintro i σ H' _ ⟨us, rs, v5, rfl, e, _⟩
        exact SqL.of (e _ _ hR)
      · rintro i u σ H' hi ⟨us, rs, v5, rfl, e, hB, hP, hok, hm, hln⟩
        rw [List.getElem?_map] at hi
        cases hx : row[i]? with
        | none =>
          rw [hx] at hi
          cases hi
        | some x =>
          rw [hx] at hi
          cases hi
          have hil : i < row.length := (List.getElem?_eq_some_iff.mp hx).1
          have hbelow : ∀ z ∈ row.take i, z < x := by
            intro z hz
            obtain ⟨j, hj, ej⟩ := List.mem_iff_getElem.mp hz
            rw [List.length_take] at hj
            have hx2 := (List.getElem?_eq_some_iff.mp hx).2
            have := List.pairwise_iff_getElem.mp hstrict j i (by omega) hil (by omega)
            rw [List.getElem_take] at ej
            rw [ej, hx2] at this
            exact this
          have hends := ends_le hok hm hbelow
          have hlen : us.length = rs.length := hP.length
          -- what the turn leaves
          have fin : ∀ (us2 : List V) (rs2 : List Pt) (H3 : Hp), Ex H' H3 → PtsV (upd H3 pb (.lst us2)) us2 rs2 → RunsOk rs2 → (∀ z, inRuns rs2 z ↔ inRuns rs z ∨ z = x) → rs2.length ≤ i + 1 →
              ∃ us rs v5, ([some (.ref d), some (.int y), some (.ref pr), some (.ref pb), some (.int x), none] : L2.St) = [some (.ref d), some (.int y), some (.ref pr), some (.ref pb), v5, none] ∧ Ex H2 (upd H3 pb (.lst us2)) ∧ upd H3 pb (.lst us2) pb = some (.lst us) ∧ PtsV (upd H3 pb (.lst us2)) us rs ∧ RunsOk rs ∧ (∀ x, inRuns rs x ↔ x ∈ row.take (i + 1)) ∧ rs.length ≤ i + 1 := by
            intro us2 rs2 H3 e3 h1 h2 h3 h4
            refine ⟨us2, rs2, _, rfl, (e.trans e3).mut hpb, upd_same, h1, h2, fun z => ?_, h4⟩
            rw [h3, hm, mem_take_succ hx]
          have app : (∀ q ∈ rs, q.2 < x) → ∀ pn, H' pn = none → ∃ us3 rs v5, ([some (.ref d), some (.int y), some (.ref pr), some (.ref pb), some (.int x), none] : L2.St) = [some (.ref d), some (.int y), some (.ref pr), some (.ref pb), v5, none] ∧ Ex H2 (upd (upd H' pn (.tup [.int x, .int (x + 1)])) pb (.lst (us ++ [.ref pn]))) ∧ upd (upd H' pn (.tup [.int x, .int (x + 1)])) pb (.lst (us ++ [.ref pn])) pb = some (.lst us3) ∧
              PtsV (upd (upd H' pn (.tup [.int x, .int (x + 1)])) pb (.lst (us ++ [.ref pn]))) us3 rs ∧ RunsOk rs ∧ (∀ x, inRuns rs x ↔ x ∈ row.take (i + 1)) ∧ rs.length ≤ i + 1 := by
            intro hlt pn hpn
            have k1 := TK.fresh (o := .tup [.int x, .int (x + 1)]) hpn
            have hB2 := (Ex.new (o := .tup [.int x, .int (x + 1)]) hpn) _ _ hB
            have k2 := TK.lst (o := .lst (us ++ [.ref pn])) hB2
            refine fin _ (rs ++ [(x, x + 1)]) _ (Ex.new hpn) (((hP.tk k1).tk k2).snoc ⟨pn, rfl, k2 _ _ upd_same⟩) (runsOk_snoc hok hlt) (fun z => ?_) (by simp; exact hln)
            rw [inRuns_app, inRuns_one]
            constructor
            · rintro (h | h)
              · exact .inl h
              · exact .inr (by omega)
            · rintro (h | h)
              · exact .inl h
              · exact .inr (by omega)
          rcases List.eq_nil_or_concat us with rfl | ⟨ini, vl, rfl⟩
          · -- no run yet
            obtain rfl : rs = [] := List.eq_nil_of_length_eq_zero (by rw [← hlen]; rfl)
            refine ⟨_, rfl, pb, _, rfl, .inl (SqL.of hB), _, _, rfl, rfl, _, rfl, ?_⟩
            refine iteF ?_
            refine ⟨_, rfl, .inl ⟨rfl, _, SqL.of hB⟩, ?_⟩
            refine ⟨_, rfl, _, rfl, _, _, rfl, rfl, (by show 2 ≤ sizeLine; decide), fun pn hpn => ?_⟩
            refine ⟨pb, _, _, rfl, rfl, (Ex.new hpn) _ _ hB, by decide, ?_⟩
            exact app (fun q h => by simp at h) pn hpn
          · rcases List.eq_nil_or_concat rs with rfl | ⟨inr, ⟨rl, rr⟩, rfl⟩
            · simp at hlen
            · have hP2 : PtsV H' ini inr ∧ PtV H' vl (rl, rr) := by
                have g := pr_get hP (i := ini.length) (a := vl) (by simp)
                obtain ⟨b, hb, hv⟩ := g
                have hl2 : ini.length = inr.length := by simpa using hlen
                rw [hl2] at hb
                simp at hb
                rw [hb]
                refine ⟨?_, hv⟩
                have : ∀ {l₁ : List V} {l₂ : List Pt} {a : V} {b : Pt}, Paired (PtV H') (l₁ ++ [a]) (l₂ ++ [b]) → l₁.length = l₂.length → Paired (PtV H') l₁ l₂ := by
                  intro l₁
                  induction l₁ with
                  | nil =>
                    intro l₂ a b _ h
                    cases l₂ with
                    | nil => exact .nil
                    | cons _ _ => simp at h
                  | cons c t ih =>
                    intro l₂ a b hp h
                    cases l₂ with
                    | nil => simp at h
                    | cons c2 t2 =>
                      cases hp with
                      | cons h1 h2 => exact .cons h1 (ih h2 (by simpa using h))
                exact this (by simpa using hP) hl2
              obtain ⟨hPi, pl, rfl, hpl⟩ := hP2
              refine ⟨_, rfl, pb, _, rfl, .inl (SqL.of hB), _, _, rfl, rfl, _, rfl, ?_⟩
              have e0 : decide ((0 : Int) < (((ini.concat (V.ref pl)).length : Nat) : Int)) = true := decide_eq_true (by simp)
              rw [e0]
              refine iteT ?_
              have hB' : H' pb = some (.lst (ini ++ [.ref pl])) := by rw [hB, List.concat_eq_append]
              refine ⟨_, rfl, _, rfl, pb, _, _, _, rfl, rfl, SqL.of hB', atI_last _ _, ?_⟩
              refine ⟨pl, _, _, _, rfl, rfl, SqT.of hpl, rfl, ?_⟩
              refine ⟨_, rfl, rfl, _, rfl, ?_⟩
              have hok' : RunsOk (inr ++ [(rl, rr)]) := by rw [← List.concat_eq_append]; exact hok
              refine ite2 (fun e3 => ?_) (fun e3 => ?_)
              · have hrx : rr = x := V.int.inj (of_decide_eq_true e3)
                -- runs[-1] = (runs[-1][0], x + 1)
                refine ⟨_, rfl, _, rfl, pb, _, _, _, rfl, rfl, SqL.of hB', atI_last _ _, ?_⟩
                refine ⟨pl, _, _, _, rfl, rfl, SqT.of hpl, rfl, ?_⟩
                refine ⟨_, rfl, _, _, rfl, rfl, (by show 2 ≤ sizeLine; decide), fun pn hpn => ?_⟩
                refine ⟨_, rfl, _, rfl, pb, _, _, ini.length, rfl, rfl, (Ex.new hpn) _ _ hB', ?_, ?_⟩
                · unfold ixN
                  rw [if_neg (by decide), if_pos (by simp; omega)]
                  simp
                  omega
                · have k1 := TK.fresh (o := .tup [.int rl, .int (x + 1)]) hpn
                  have hB2 := (Ex.new (o := .tup [.int rl, .int (x + 1)]) hpn) _ _ hB'
                  have hset : (ini ++ [V.ref pl]).set ini.length (.ref pn) = ini ++ [.ref pn] := by simp
                  rw [hset]
                  have k2 := TK.lst (o := .lst (ini ++ [.ref pn])) hB2
                  refine fin _ (inr ++ [(rl, x + 1)]) _ (Ex.new hpn) (((hPi.tk k1).tk k2).snoc ⟨pn, rfl, k2 _ _ upd_same⟩) ?_ (fun z => ?_) (by have := hln; simp at this ⊢; omega)
                  · obtain ⟨b, hb⟩ := hok'
                    exact ⟨b, runs_ext hb (by omega)⟩
                  · rw [inRuns_app, inRuns_one, List.concat_eq_append, inRuns_app, inRuns_one]
                    have hw : rl < rr := by
                      obtain ⟨b, hb⟩ := hok'
                      exact hb.wide (rl, rr) (by simp)
                    constructor
                    · rintro (h | h)
                      · exact .inl (.inl h)
                      · by_cases h5 : z = x
                        · exact .inr h5
                        · exact .inl (.inr ⟨h.1, by omega⟩)
                    · rintro ((h | h) | h)
                      · exact .inl h
                      · exact .inr ⟨h.1, by omega⟩
                      · exact .inr ⟨by omega, by omega⟩
              · have hrx : ¬ rr = x := fun h => e3 (decide_eq_true (by rw [h]))
                refine ⟨_, rfl, .inl ⟨rfl, _, SqL.of hB⟩, ?_⟩
                refine ⟨_, rfl, _, rfl, _, _, rfl, rfl, (by show 2 ≤ sizeLine; decide), fun pn hpn => ?_⟩
                refine ⟨pb, _, _, rfl, rfl, (Ex.new hpn) _ _ hB, slineL (by rw [hlen]; omega), ?_⟩
                refine app (fun q hq => ?_) pn hpn
                have h1 := hends q hq
                obtain ⟨b, hb⟩ := hok'
                rw [List.concat_eq_append] at hq
                rcases List.mem_append.mp hq with h2 | h2
                · -- an earlier run ends before the last one begins
                  have h3 : ∀ {l : List Pt} {b : Int} {q p : Pt}, RunsFrom b (l ++ [p]) → q ∈ l → q.2 < p.1 := by
                    intro l
                    induction l with
                    | nil => intro b q p _ h; simp at h
                    | cons c t ih =>
                      intro b q p hr2 hq2
                      rcases List.mem_cons.mp hq2 with rfl | hq2
                      · cases t with
                        | nil => exact hr2.2.2.1
                        | cons c2 t2 =>
                          have h6 := ih hr2.2.2 (q := c2) (by simp)
                          have h7 : q.2 < c2.1 := hr2.2.2.1
                          have h8 : c2.1 < c2.2 := hr2.2.2.2.1
                          omega
                      · exact ih hr2.2.2 hq2
                  have h4 := h3 hb h2
                  have hw : rl < rr := hb.wide (rl, rr) (by simp)
                  have h5 := hends (rl, rr) (by rw [List.concat_eq_append]; simp)
                  simp only at h4 h5
                  omega
                · rw [List.mem_singleton.mp h2] at h1 ⊢
                  simp only at h1 ⊢
                  omega
      · rintro σ H' ⟨us, rs, v5, rfl, e, hB, hP, hok, hm, hln⟩
        rw [List.length_map, List.take_length] at hm
        rw [List.length_map] at hln
        refine ⟨_, rfl, ?_⟩
        exact q pb us rs H' hpbH (e2.trans e) hB hP hok (fun x => by rw [hm, mrow]) (by omega)
    rcases hD with hD | ⟨us, hS, hU⟩
    · refine ⟨_, pss_cons (ps_set (i := 2) sc_l_runs.nd rfl (by first | exact Or.inl rfl | exact Or.inr rfl) (pe_callB (ksorted K) (by rfl) T.sorted_ bt_sorted (pa_cons (pe_lock (pe_lc (own := [("point", 5)]) rfl sc_l_runs.nd (pi_keys (pv 0)) (blkOk_by (N := ["points", "y", "row", "runs", "x", "point"]) (sc := defScope s_l_runs) (by decide +kernel)) (fun _ _ _ _ _ => (pg_name (i := 5) sc_l_runs.nd rfl (by first | exact Or.inl rfl | exact Or.inr rfl))) (fun _ _ _ _ _ => (pts_one (pt_cmpR op_eq (pe_ix (kixT K) (pv 5) pe_int (fun _ _ => rfl)) (pv 1) (nomark _)))) (fun _ _ _ _ _ => (pe_ix (kixT K) (pv 5) pe_int (fun _ _ => rfl))))) pa_nil))) ht, ?_⟩
      -- row = sorted([point[0] for point in points if point[1] == y])
      refine ⟨d, _, hD, trivial, fun od => ?_⟩
      refine ⟨_, rfl, d, od, rfl, .inr ⟨mkd pts, upd_same, fun D hDn => ?_⟩⟩
      have hDd : D ≠ d := fun e => by
        rw [e, upd_same] at hDn
        cases hDn
      refine lc_keysT (fun i H' => Ex (upd H d (.frz od (.dT (mkd pts)))) H' ∧ H' D = some (.lst ((((pts.take i).filter fun z => z.2 == y).map (·.1)).map V.int))) ⟨Ex.new hDn, upd_same⟩ (fun i H' _ p => p.1 _ _ upd_same) ?_ ?_
      · intro i k v qa H' hk hq p
        obtain ⟨z, hz, rfl⟩ := mkd_get hk
        have hi : i < pts.length := (List.getElem?_eq_some_iff.mp hz).1
        refine ⟨rfl, ?_⟩
        refine ⟨_, rfl, qa, _, _, _, rfl, rfl, SqT.of hq, rfl, ?_⟩
        refine ⟨_, rfl, rfl, _, rfl, ?_⟩
        have st := row_step (y := y) hz
        refine ite2 (fun e => ?_) (fun e => ?_)
        · have ey : z.2 = y := V.int.inj (of_decide_eq_true e)
          rw [if_pos ey] at st
          refine ⟨_, rfl, qa, _, _, _, rfl, rfl, SqT.of hq, rfl, ?_⟩
          refine ⟨_, p.2, ?_, p.1.mut hDn, ?_⟩
          · rw [List.length_map, List.length_map]
            refine Nat.lt_of_le_of_lt (Nat.le_trans (List.length_filter_le _ _) (List.length_take_le _ _)) (slineL (by omega))
          · rw [upd_same, st, List.map_append, List.map_append]
            rfl
        · have ey : ¬ z.2 = y := fun ey => e (decide_eq_true (by rw [← ey]; rfl))
          rw [if_neg ey, List.append_nil] at st
          exact ⟨p.1, by rw [p.2, st]⟩
      · intro H' p
        rw [mkd_len, List.take_length] at p
        refine ⟨p.1 _ _ upd_same, ?_⟩
        have e1 : Ex H (upd H' d (.dT (mkd pts))) := ex_unlock hD p.1
        have hL : upd H' d (.dT (mkd pts)) D = some (.lst (((pts.filter fun z => z.2 == y).map (·.1)).map V.int)) := by rw [upd_ne hDd]; exact p.2
        refine ⟨D, _, rfl, SqL.of hL, fun row pr hperm hsort hpr => ?_⟩
        exact hread row pr _ hperm hsort (e1.trans (Ex.new hpr)) upd_same
    · refine ⟨_, pss_cons (ps_set (i := 2) sc_l_runs.nd rfl (by first | exact Or.inl rfl | exact Or.inr rfl) (pe_callB (ksorted K) (by rfl) T.sorted_ bt_sorted (pa_cons (pe_lc (own := [("point", 5)]) rfl sc_l_runs.nd (kpiL K (pv 0)) (blkOk_by (N := ["points", "y", "row", "runs", "x", "point"]) (sc := defScope s_l_runs) (by decide +kernel)) (fun _ _ _ _ _ => (pg_name (i := 5) sc_l_runs.nd rfl (by first | exact Or.inl rfl | exact Or.inr rfl))) (fun _ _ _ _ _ => (pts_one (pt_cmpR op_eq (pe_ix (kixT K) (pv 5) pe_int (fun _ _ => rfl)) (pv 1) (nomark _)))) (fun _ _ _ _ _ => (pe_ix (kixT K) (pv 5) pe_int (fun _ _ => rfl)))) pa_nil))) ht, ?_⟩
      have hul := hU.length
      refine ⟨_, rfl, d, rfl, ⟨_, hS⟩, fun D hDn => ?_⟩
      refine lc_list (xs := us) (fun i H' => Ex H H' ∧ H' D = some (.lst ((((pts.take i).filter fun z => z.2 == y).map (·.1)).map V.int))) ⟨Ex.new hDn, upd_same⟩ (fun i H' _ p => ex_l p.1 hS) ?_ ?_
      · intro i u H' hu p
        obtain ⟨z, hz, qa, rfl, hq0⟩ := pr_get hU hu
        have hq := p.1 _ _ hq0
        have hi : i < pts.length := (List.getElem?_eq_some_iff.mp hz).1
        refine ⟨rfl, ?_⟩
        refine ⟨_, rfl, qa, _, _, _, rfl, rfl, SqT.of hq, rfl, ?_⟩
        refine ⟨_, rfl, rfl, _, rfl, ?_⟩
        have st := row_step (y := y) hz
        refine ite2 (fun e => ?_) (fun e => ?_)
        · have ey : z.2 = y := V.int.inj (of_decide_eq_true e)
          rw [if_pos ey] at st
          refine ⟨_, rfl, qa, _, _, _, rfl, rfl, SqT.of hq, rfl, ?_⟩
          refine ⟨_, p.2, ?_, p.1.mut hDn, ?_⟩
          · rw [List.length_map, List.length_map]
            refine Nat.lt_of_le_of_lt (Nat.le_trans (List.length_filter_le _ _) (List.length_take_le _ _)) (slineL (by omega))
          · rw [upd_same, st, List.map_append, List.map_append]
            rfl
        · have ey : ¬ z.2 = y := fun ey => e (decide_eq_true (by rw [← ey]))
          rw [if_neg ey, List.append_nil] at st
          exact ⟨p.1, by rw [p.2, st]⟩
      · intro H' p
        rw [hul, List.take_length] at p
        refine ⟨D, _, rfl, SqL.of p.2, fun row pr hperm hsort hpr => ?_⟩
        exact hread row pr _ hperm hsort (p.1.trans (Ex.new hpr)) upd_same

abbrev s_l_form : Stmt := top 17
theorem sc_l_form : FnScope ["points", "rows", "point", "bands", "y", "runs", "form", "top", "bottom", "run"] ["points"] (defScope s_l_form) := ⟨rfl, rfl, rfl, by decide +kernel, rfl, by decide +kernel, by decide +kernel⟩
def spForm (K : PySem.W.Frag) : Sp := fun vs H Q _ => ∃ d pts, vs = [.ref d] ∧ SrcAt K H d pts ∧ pts.Nodup ∧ pts.length ≤ 300000 ∧
  ∀ p us f H', H p = none → Ex H H' → H' p = some (.lst us) → RcsV H' us f → IsForm (fun x y => (x, y) ∈ pts) f → f.length ≤ 300000 → Q (.ref p) H'
theorem ok_l_form {f : Addr} {fd : FuncData} (F : Fun K "_law_form" "_law_form" s_l_form f fd) (T : Txt K mg) (D_l_runs : Def P w K mg base CX0 "_law_runs" 1 ["points", "y"] (spRuns K)) : FnOk P w K mg base CX0 2 f fd ["points"] (spForm K) := by
  refine F.ok sc_l_form (fun vs H Q E h => ?_) (fun cdv A outer s H vs Q E hr h => ?_)
  · obtain ⟨d, pts, rfl, _⟩ := h
    rfl
  · obtain ⟨d, pts, rfl, hD, nd, hn, q⟩ := h
    let Cx0 := (cxOf CX0 P w K mg base ["points", "rows", "point", "bands", "y", "runs", "form", "top", "bottom", "run"] "_law_form" (defScope s_l_form) f cdv A outer s H E).nox
    obtain ⟨tr, ht, hread⟩ : ∃ tr, PSs Cx0 ((defBody s_l_form).drop 2) tr ∧ ∀ (ys : List Int) (rd : Addr) (v2 : Option V) (H1 : Hp), Ex H H1 → H1 rd = some (.dK (mki ys)) → ys.Nodup → (∀ y, y ∈ ys ↔ ∃ x, (x, y) ∈ pts) → ys.length ≤ pts.length →
        tr { nx := fun _ H' => Q .non H', rt := Q } [some (.ref d), some (.ref rd), v2, none, none, none, none, none, none, none] H1 := by
      refine ⟨_, (pss_cons (ps_set (i := 3) sc_l_form.nd rfl (by first | exact Or.inl rfl | exact Or.inr rfl) (pe_lst pa_nil))
      (pss_cons (ps_for PassesOwn.never rfl (kpiL K (pe_callB (ksorted K) (by rfl) T.sorted_ bt_sorted (pa_cons (pe_callTy (call_list_dK rfl) (by rfl) T.list_ bt_list (pa_cons (pv 1) pa_nil)) pa_nil))) (pg_name (i := 4) sc_l_form.nd rfl (by first | exact Or.inl rfl | exact Or.inr rfl))
        (pss_cons (ps_set (i := 5) sc_l_form.nd rfl (by first | exact Or.inl rfl | exact Or.inr rfl) (pe_call D_l_runs.ok (hr.mono (by decide)) rfl D_l_runs.mgf D_l_runs.kp D_l_runs.b .nil pass0 (pa_cons (pv 0) (pa_cons (pv 4) pa_nil))))
        (pss_one (ps_if (PW.pt (pw_and (pt_cmpR op_gt (pe_callB (klen K) (by rfl) T.len_ PySem.boot_len (pa_cons (pv 3) pa_nil)) pe_int (nomark _)) (pw_and (pt_cmpR op_eq (pe_ix (kixT K) (pe_ix (kixL K) (pv 3) (pe_un un_neg pe_int) (fun _ _ => rfl)) pe_int (fun _ _ => rfl)) (pv 4) (nomark _)) (pw_and1 (pt_cmpR (keqD K hr.units) (pe_ix (kixT K) (pe_ix (kixL K) (pv 3) (pe_un un_neg pe_int) (fun _ _ => rfl)) pe_int (fun _ _ => rfl)) (pv 5) (nomark _))))))
          (pss_one (ps_asg (pe_tup (pa_cons (pe_ix (kixT K) (pe_ix (kixL K) (pv 3) (pe_un un_neg pe_int) (fun _ _ => rfl)) pe_int (fun _ _ => rfl)) (pa_cons (pe_op op_add (pv 4) pe_int) (pa_cons (pv 5) pa_nil)))) (pg_sub (pv 3) (pe_un un_neg pe_int) set_list)))
          (pss_one (ps_expr (pe_bm PySem.F.plainAttrs_list PySem.F.slot_list_append PySem.F.type_list_append mt_append (pv 3) (pa_cons (pe_tup (pa_cons (pv 4) (pa_cons (pe_op op_add (pv 4) pe_int) (pa_cons (pv 5) pa_nil)))) pa_nil))))))))
      (pss_cons (ps_set (i := 6) sc_l_form.nd rfl (by first | exact Or.inl rfl | exact Or.inr rfl) (pe_lst pa_nil))
      (pss_cons (ps_for PassesOwn.never rfl (kpiL K (pv 3)) (kpgT K (n := 3) rfl (pgs_cons (pg_name (i := 7) sc_l_form.nd rfl (by first | exact Or.inl rfl | exact Or.inr rfl)) (pgs_cons (pg_name (i := 8) sc_l_form.nd rfl (by first | exact Or.inl rfl | exact Or.inr rfl)) (pgs_cons (pg_name (i := 5) sc_l_form.nd rfl (by first | exact Or.inl rfl | exact Or.inr rfl)) pgs_nil))))
        (pss_one (ps_set (i := 6) sc_l_form.nd rfl (by first | exact Or.inl rfl | exact Or.inr rfl) (pe_op op_cat (pv 6) (pe_lc (own := [("run", 9)]) (tt := tYes) rfl sc_l_form.nd (kpiL K (pv 5)) (blkOk_by (N := ["points", "rows", "point", "bands", "y", "runs", "form", "top", "bottom", "run"]) (sc := defScope s_l_form) (by decide +kernel)) (fun _ _ _ _ _ => (pg_name (i := 9) sc_l_form.nd rfl (by first | exact Or.inl rfl | exact Or.inr rfl))) (fun _ _ _ _ _ => pts_nil) (fun _ _ _ _ _ => (pe_tup (pa_cons (pe_ix (kixT K) (pv 9) pe_int (fun _ _ => rfl)) (pa_cons (pv 7) (pa_cons (pe_ix (kixT K) (pv 9) pe_int (fun _ _ => rfl)) (pa_cons (pv 8) pa_nil)))))))))))
      (pss_one (ps_ret (pv 6))))))), ?_⟩
      intro ys rd v2 H1 e hR1 ndy my ly
      -- bands = []
      refine ⟨Nat.zero_le _, fun pb hpb => ?_⟩
      have hpbH : H pb = none := ex_free e hpb
      have e1 := Ex.new (o := .lst []) hpb
      -- for y in sorted(list(rows))
      refine ⟨_, rfl, rd, _, rfl, e1 _ _ hR1, fun pk hpk => ?_⟩
      have e2 := Ex.new (o := .lst ((mki ys).map fun kv => kV kv.1)) hpk
      refine ⟨pk, ys, rfl, SqL.of (by rw [upd_same, mki_keys]), fun yy ps hperm hsort hps => ?_⟩
      have e3 := Ex.new (o := .lst (yy.map V.int)) hps
      have hps1 : upd (upd (upd H1 pb (.lst [])) pk (.lst ((mki ys).map fun kv => kV kv.1))) ps (.lst (yy.map V.int)) ps = some (.lst (yy.map V.int)) := upd_same
      have hpb1 := ((e2.trans e3)) _ _ (show upd H1 pb (.lst []) pb = some (.lst []) from upd_same)
      have hD2 := ((hD.mono e).mono e1).mono (e2.trans e3)
      have hps_pb : ps ≠ pb := fun z => by
        rw [z] at hps
        have := e2 _ _ (show upd H1 pb (.lst []) pb = some (.lst []) from upd_same)
        rw [this] at hps
        cases hps
      have eAll : Ex H _ := ((e.trans e1).trans e2).trans e3
      generalize upd (upd (upd H1 pb (.lst [])) pk (.lst ((mki ys).map fun kv => kV kv.1))) ps (.lst (yy.map V.int)) = H2 at hps1 hpb1 hD2 eAll
      have ndyy : yy.Nodup := hperm.nodup_iff.mpr ndy
      have myy : ∀ y, y ∈ yy ↔ ∃ x, (x, y) ∈ pts := fun y => by rw [hperm.mem_iff, my]
      have hstrict : yy.Pairwise (· < ·) := by
        have := List.Pairwise.and hsort (List.nodup_iff_pairwise_ne.mp ndyy)
        exact this.imp fun h => by omega
      have hsum := sum_rows ndyy pts
      refine ⟨_, rfl, ⟨_, SqL.of hps1⟩, for_list (K := K) (a := ps) (xs := yy.map V.int) (fun i σ H' => ∃ v2 v4 v5 us bs, σ = [some (.ref d), some (.ref rd), v2, some (.ref pb), v4, v5, none, none, none, none] ∧ Ex H H' ∧ SrcAt K H' d pts ∧ H' ps = some (.lst (yy.map V.int)) ∧ H' pb = some (.lst us) ∧ Paired (BdV pb H') us bs ∧ BandsOk bs ∧
        (∀ x y, inBands bs x y ↔ (x, y) ∈ pts ∧ y ∈ yy.take i) ∧ (formOf bs).length ≤ ((yy.take i).map fun y => (pts.filter fun z => z.2 == y).length).sum) ?_ ?_ ?_ ?_⟩
      · exact ⟨_, none, none, [], [], rfl, eAll, hD2, hps1, hpb1, .nil, ⟨0, trivial⟩, fun x y => by simp [inBands], by simp [formOf]⟩
      · rintro i σ H' _ ⟨v2, v4, v5, us, bs, rfl, h1, h2, h3, _⟩
        exact SqL.of h3
      · rintro i u σ H' hi ⟨v2, v4, v5, us, bs, rfl, he, hDd, hPs, hB, hP, hok, hm, hln⟩
        rw [List.getElem?_map] at hi
        cases hy : yy[i]? with
        | none =>
          rw [hy] at hi
          cases hi
        | some y =>
          rw [hy] at hi
          cases hi
          have hil : i < yy.length := (List.getElem?_eq_some_iff.mp hy).1
          have hbelow : ∀ z ∈ yy.take i, z < y := by
            intro z hz
            obtain ⟨j, hj, ej⟩ := List.mem_iff_getElem.mp hz
            rw [List.length_take] at hj
            have hx2 := (List.getElem?_eq_some_iff.mp hy).2
            have := List.pairwise_iff_getElem.mp hstrict j i (by omega) hil (by omega)
            rw [List.getElem_take] at ej
            rw [ej, hx2] at this
            exact this
          have hsumi : ((yy.take (i + 1)).map fun y => (pts.filter fun z => z.2 == y).length).sum = ((yy.take i).map fun y => (pts.filter fun z => z.2 == y).length).sum + (pts.filter fun z => z.2 == y).length := by
            rw [List.take_add_one, hy, List.map_append, List.sum_append]
            simp
          have hsumle : ((yy.take (i + 1)).map fun y => (pts.filter fun z => z.2 == y).length).sum ≤ pts.length := Nat.le_trans (sum_take _ _) hsum
          have hlen : us.length = bs.length := hP.length
          have hbl : bs.length ≤ (formOf bs).length := by
            have : ∀ l : List Bd, (∀ d ∈ l, d.rs ≠ []) → l.length ≤ (formOf l).length := by
              intro l
              induction l with
              | nil => intro _; simp
              | cons c t ih =>
                intro h
                have h1 := ih fun d hd => h d (by simp [hd])
                have h2 := List.length_pos_iff.mpr (h c (by simp))
                have e : formOf (c :: t) = bandRc c ++ formOf t := by unfold formOf; simp
                rw [e, List.length_append, bandRc_len, List.length_cons]
                omega
            obtain ⟨y0, hb0⟩ := hok
            exact this bs fun d hd => (hb0.each d hd).2.1
          -- runs = _law_runs(points, y)
          refine ⟨_, rfl, _, rfl, d, pts, y, rfl, hDd, nd, hn, fun pr ur rs H3 hpr e3 hR3 hPr hrok hrm hrl => ?_⟩
          have hrne : rs ≠ [] := by
            obtain ⟨x, hx⟩ := (myy y).mp (List.mem_of_getElem? hy)
            intro z
            have := (hrm x).mpr hx
            rw [z] at this
            exact inRuns_nil this
          have hpr_pb : pr ≠ pb := fun z => by
            rw [z, hB] at hpr
            cases hpr
          have hB3 := e3 _ _ hB
          have hP3 : Paired (BdV pb H3) us bs := Paired.mapP hP fun _ _ h => h.to (TK.ex e3) (Xb.ex e3)
          -- what the turn leaves
          have fin : ∀ (us2 : List V) (bs2 : List Bd) (H4 : Hp), Ex H3 H4 → Paired (BdV pb (upd H4 pb (.lst us2))) us2 bs2 → BandsOk bs2 → (∀ x z, inBands bs2 x z ↔ inBands bs x z ∨ (inRuns rs x ∧ z = y)) → (formOf bs2).length ≤ (formOf bs).length + rs.length →
              ∃ v2' v4 v5 us bs, ([some (.ref d), some (.ref rd), v2, some (.ref pb), some (.int y), some (.ref pr), none, none, none, none] : L2.St) = [some (.ref d), some (.ref rd), v2', some (.ref pb), v4, v5, none, none, none, none] ∧ Ex H (upd H4 pb (.lst us2)) ∧ SrcAt K (upd H4 pb (.lst us2)) d pts ∧ upd H4 pb (.lst us2) ps = some (.lst (yy.map V.int)) ∧ upd H4 pb (.lst us2) pb = some (.lst us) ∧ Paired (BdV pb (upd H4 pb (.lst us2))) us bs ∧ BandsOk bs ∧
                (∀ x y, inBands bs x y ↔ (x, y) ∈ pts ∧ y ∈ yy.take (i + 1)) ∧ (formOf bs).length ≤ ((yy.take (i + 1)).map fun y => (pts.filter fun z => z.2 == y).length).sum := by
            intro us2 bs2 H4 e4 h1 h2 h3 h4
            refine ⟨v2, _, _, us2, bs2, rfl, ((he.trans e3).trans e4).mut hpbH, ?_, ?_, upd_same, h1, h2, fun x z => ?_, by omega⟩
            · exact hD.mono (((he.trans e3).trans e4).mut hpbH)
            · rw [upd_ne hps_pb]
              exact (e3.trans e4) _ _ hPs
            · rw [h3, hm, mem_take_succ hy, hrm]
              constructor
              · rintro (h | h)
                · exact ⟨h.1, .inl h.2⟩
                · rw [h.2]
                  exact ⟨h.1, .inr rfl⟩
              · rintro ⟨h, h6 | h6⟩
                · exact .inl ⟨h, h6⟩
                · rw [h6] at h
                  exact .inr ⟨h, h6⟩
          have app : (∀ dd, bs.getLast? = some dd → dd.b ≤ y ∧ (dd.b = y → dd.rs ≠ rs)) → ∀ pn, H3 pn = none → ∃ v2' v4 v5 us3 bs, ([some (.ref d), some (.ref rd), v2, some (.ref pb), some (.int y), some (.ref pr), none, none, none, none] : L2.St) = [some (.ref d), some (.ref rd), v2', some (.ref pb), v4, v5, none, none, none, none] ∧ Ex H (upd (upd H3 pn (.tup [.int y, .int (y + 1), .ref pr])) pb (.lst (us ++ [.ref pn]))) ∧ SrcAt K (upd (upd H3 pn (.tup [.int y, .int (y + 1), .ref pr])) pb (.lst (us ++ [.ref pn]))) d pts ∧ upd (upd H3 pn (.tup [.int y, .int (y + 1), .ref pr])) pb (.lst (us ++ [.ref pn])) ps = some (.lst (yy.map V.int)) ∧
                upd (upd H3 pn (.tup [.int y, .int (y + 1), .ref pr])) pb (.lst (us ++ [.ref pn])) pb = some (.lst us3) ∧ Paired (BdV pb (upd (upd H3 pn (.tup [.int y, .int (y + 1), .ref pr])) pb (.lst (us ++ [.ref pn])))) us3 bs ∧ BandsOk bs ∧
                (∀ x y, inBands bs x y ↔ (x, y) ∈ pts ∧ y ∈ yy.take (i + 1)) ∧ (formOf bs).length ≤ ((yy.take (i + 1)).map fun y => (pts.filter fun z => z.2 == y).length).sum := by
            intro hlast pn hpn
            have k1 := TK.fresh (o := .tup [.int y, .int (y + 1), .ref pr]) hpn
            have e4 := Ex.new (o := .tup [.int y, .int (y + 1), .ref pr]) hpn
            have hB4 := e4 _ _ hB3
            have k2 := TK.lst (o := .lst (us ++ [.ref pn])) hB4
            have npb : pn ≠ pb := fun z => by
              rw [z, hB3] at hpn
              cases hpn
            refine fin _ (bs ++ [⟨y, y + 1, rs⟩]) _ e4 ?_ ?_ (fun x z => ?_) ?_
            · refine (Paired.mapP hP3 fun _ _ h => h.to (k1.trans k2) ((Xb.ex e4).trans Xb.upd)).snoc ⟨pn, pr, ur, rfl, npb, hpr_pb, ?_, ?_, hPr.tk (k1.trans k2)⟩
              · exact k2 _ _ upd_same
              · rw [upd_ne hpr_pb]
                exact e4 _ _ hR3
            · obtain ⟨y0, hb0⟩ := hok
              cases bs with
              | nil => exact ⟨y, Int.le_refl _, fun _ z => hrne z.symm, by show y < y + 1; omega, hrne, hrok, trivial⟩
              | cons c t => exact ⟨y0, bands_snoc hb0 hlast (fun z => by cases z) hrne hrok⟩
            · rw [inBands_app, inBands_one]
              constructor
              · rintro (h | h)
                · exact .inl h
                · exact .inr ⟨h.2.2, by have := h.1; have := h.2.1; dsimp only at *; omega⟩
              · rintro (h | h)
                · exact .inl h
                · exact .inr ⟨by dsimp only; omega, by dsimp only; omega, h.1⟩
            · rw [formOf_app, formOf_one, List.length_append, bandRc_len]
              dsimp only
              omega
          rcases List.eq_nil_or_concat us with rfl | ⟨ini, vl, rfl⟩
          · obtain rfl : bs = [] := List.eq_nil_of_length_eq_zero (by rw [← hlen]; rfl)
            refine ⟨_, rfl, pb, _, rfl, .inl (SqL.of hB3), _, _, rfl, rfl, _, rfl, ?_⟩
            refine iteF ?_
            refine ⟨_, rfl, .inl ⟨rfl, _, SqL.of hB3⟩, ?_⟩
            refine ⟨_, rfl, _, rfl, _, _, rfl, rfl, _, rfl, (by show 3 ≤ sizeLine; decide), fun pn hpn => ?_⟩
            refine ⟨pb, _, _, rfl, rfl, (Ex.new hpn) _ _ hB3, by decide, ?_⟩
            exact app (fun dd h => by simp at h) pn hpn
          · rcases List.eq_nil_or_concat bs with rfl | ⟨inr, bd, rfl⟩
            · simp at hlen
            · rw [List.concat_eq_append, List.concat_eq_append] at *
              obtain ⟨hPi, ql, rl, ul, rfl, nq, nr, hq1, hr1, hpl⟩ := pr_split hP3
              refine ⟨_, rfl, pb, _, rfl, .inl (SqL.of hB3), _, _, rfl, rfl, _, rfl, ?_⟩
              have e0 : decide ((0 : Int) < (((ini ++ [V.ref ql]).length : Nat) : Int)) = true := decide_eq_true (by simp)
              rw [e0]
              refine iteT ?_
              refine ⟨_, rfl, _, rfl, pb, _, _, _, rfl, rfl, SqL.of hB3, atI_last _ _, ?_⟩
              refine ⟨ql, _, _, _, rfl, rfl, SqT.of hq1, rfl, ?_⟩
              refine ⟨_, rfl, rfl, _, rfl, ?_⟩
              have hbd : bd.t < bd.b ∧ bd.rs ≠ [] ∧ RunsOk bd.rs := by
                obtain ⟨y0, hb0⟩ := hok
                exact hb0.each bd (by simp)
              have hend : bd.b ≤ y := by
                obtain ⟨x, hx⟩ := runs_some hbd.2.2 hbd.2.1
                have h1 := (hm x (bd.b - 1)).mp (inBands_app.mpr (.inr (inBands_one.mpr ⟨by have := hbd.1; omega, by omega, hx⟩)))
                have := hbelow _ h1.2
                omega
              -- the way where the row begins a new band
              have other : (bd.b = y → bd.rs ≠ rs) → ∀ pn, H3 pn = none → _ := fun hne pn hpn => app (fun dd h => by
                rw [List.getLast?_concat] at h
                cases h
                exact ⟨hend, hne⟩) pn hpn
              refine ite2 (fun e5 => ?_) (fun e5 => ?_)
              · have hby : bd.b = y := V.int.inj (of_decide_eq_true e5)
                refine ⟨_, rfl, _, rfl, pb, _, _, _, rfl, rfl, SqL.of hB3, atI_last _ _, ?_⟩
                refine ⟨ql, _, _, _, rfl, rfl, SqT.of hq1, rfl, ?_⟩
                refine ⟨_, rfl, ptsD bd.rs, ptsD rs, dp_pts (SqL.of hr1) hpl, dp_pts (SqL.of hR3) hPr, eqs_pts.shaped (by decide) _, eqs_pts.shaped (by decide) _, _, rfl, ?_⟩
                rw [eqs_pts.1]
                refine ite2 (fun e6 => ?_) (fun e6 => ?_)
                · have hrs : bd.rs = rs := of_decide_eq_true e6
                  -- bands[-1] = (bands[-1][0], y + 1, runs)
                  refine ⟨_, rfl, _, rfl, pb, _, _, _, rfl, rfl, SqL.of hB3, atI_last _ _, ?_⟩
                  refine ⟨ql, _, _, _, rfl, rfl, SqT.of hq1, rfl, ?_⟩
                  refine ⟨_, rfl, _, _, rfl, rfl, _, rfl, (by show 3 ≤ sizeLine; decide), fun pn hpn => ?_⟩
                  have e4 := Ex.new (o := .tup [.int bd.t, .int (y + 1), .ref pr]) hpn
                  have hB4 := e4 _ _ hB3
                  have npb : pn ≠ pb := fun z => by
                    rw [z, hB3] at hpn
                    cases hpn
                  refine ⟨_, rfl, _, rfl, pb, _, _, ini.length, rfl, rfl, hB4, ?_, ?_⟩
                  · rw [List.length_append]
                    exact ixN_last _
                  · have hset : (ini ++ [V.ref ql]).set ini.length (.ref pn) = ini ++ [.ref pn] := by simp
                    rw [hset]
                    have k1 := TK.fresh (o := .tup [.int bd.t, .int (y + 1), .ref pr]) hpn
                    have k2 := TK.lst (o := .lst (ini ++ [.ref pn])) hB4
                    refine fin _ (inr ++ [⟨bd.t, y + 1, rs⟩]) _ e4 ?_ ?_ (fun x z => ?_) ?_
                    · refine (Paired.mapP hPi fun _ _ h => h.to (k1.trans k2) ((Xb.ex e4).trans Xb.upd)).snoc ⟨pn, pr, ur, rfl, npb, hpr_pb, ?_, ?_, hPr.tk (k1.trans k2)⟩
                      · exact k2 _ _ upd_same
                      · rw [upd_ne hpr_pb]
                        exact e4 _ _ hR3
                    · obtain ⟨y0, hb0⟩ := hok
                      have := bands_ext (b := y + 1) hb0 (by omega)
                      rw [hrs] at this
                      exact ⟨y0, this⟩
                    · rw [inBands_app, inBands_one, inBands_app, inBands_one, hrs]
                      constructor
                      · rintro (h | h)
                        · exact .inl (.inl h)
                        · by_cases h7 : z = y
                          · exact .inr ⟨h.2.2, h7⟩
                          · exact .inl (.inr ⟨h.1, by have := h.2.1; dsimp only at this; omega, h.2.2⟩)
                      · rintro ((h | h) | h)
                        · exact .inl h
                        · exact .inr ⟨h.1, by have := h.2.1; dsimp only; omega, h.2.2⟩
                        · exact .inr ⟨by have := hbd.1; dsimp only; omega, by dsimp only; omega, h.1⟩
                    · rw [formOf_app, formOf_one, formOf_app, formOf_one, List.length_append, List.length_append, bandRc_len, bandRc_len, hrs]
                      dsimp only
                      omega
                · have hrs : ¬ bd.rs = rs := fun z => e6 (decide_eq_true z)
                  refine ⟨_, rfl, .inl ⟨rfl, _, SqL.of hB3⟩, ?_⟩
                  refine ⟨_, rfl, _, rfl, _, _, rfl, rfl, _, rfl, (by show 3 ≤ sizeLine; decide), fun pn hpn => ?_⟩
                  refine ⟨pb, _, _, rfl, rfl, (Ex.new hpn) _ _ hB3, slineL (by rw [hlen]; omega), ?_⟩
                  exact other (fun _ => hrs) pn hpn
              · have hby : ¬ bd.b = y := fun z => e5 (decide_eq_true (by rw [z]))
                refine ⟨_, rfl, .inl ⟨rfl, _, SqL.of hB3⟩, ?_⟩
                refine ⟨_, rfl, _, rfl, _, _, rfl, rfl, _, rfl, (by show 3 ≤ sizeLine; decide), fun pn hpn => ?_⟩
                refine ⟨pb, _, _, rfl, rfl, (Ex.new hpn) _ _ hB3, slineL (by rw [hlen]; omega), ?_⟩
                exact other (fun z => absurd z hby) pn hpn
      · rintro σ H' ⟨v2, v4, v5, us, bs, rfl, he, hDd, hPs, hB, hP, hok, hm, hln⟩
        rw [List.length_map, List.take_length] at hm hln
        have hfl : (formOf bs).length ≤ 300000 := by omega
        have hlen : us.length = bs.length := hP.length
        -- form = []
        refine ⟨Nat.zero_le _, fun pf hpf => ?_⟩
        have e4 := Ex.new (o := .lst []) hpf
        refine ⟨_, rfl, pb, rfl, ⟨_, SqL.of (e4 _ _ hB)⟩, for_list (K := K) (a := pb) (xs := us) (fun i σ H2 => ∃ v5 v7 v8 pf uf, σ = [some (.ref d), some (.ref rd), v2, some (.ref pb), v4, v5, some (.ref pf), v7, v8, none] ∧ Ex H' H2 ∧ H' pf = none ∧ H2 pf = some (.lst uf) ∧ RcsV H2 uf (formOf (bs.take i))) ?_ ?_ ?_ ?_⟩
        · exact ⟨v5, none, none, pf, [], rfl, e4, hpf, upd_same, by simp [formOf]; exact .nil⟩
        · rintro i σ H2 _ ⟨v5, v7, v8, pf, uf, rfl, e, _⟩
          exact SqL.of (e _ _ hB)
        · rintro i u σ H2 hi ⟨v5, v7, v8, pf, uf, rfl, e, hpf0, hpf1, hRf⟩
          obtain ⟨bd, hbd, qb, rb, ub, rfl, nq, nr, hq1, hr1, hpl⟩ := pr_get hP hi
          refine ⟨qb, _, rfl, SqT.of (e _ _ hq1), rfl, _, _, rfl, _, _, rfl, _, _, rfl, rfl, ?_⟩
          have hform : formOf (bs.take (i + 1)) = formOf (bs.take i) ++ bandRc bd := by
            rw [List.take_add_one, hbd, formOf_app]
            congr 1
            exact formOf_one bd
          have hflen : (formOf (bs.take (i + 1))).length ≤ (formOf bs).length := by
            have h1 := congrArg List.length (congrArg formOf (List.take_append_drop (i + 1) bs))
            rw [formOf_app, List.length_append] at h1
            omega
          rw [hform, List.length_append, bandRc_len] at hflen
          have hubl : ub.length = bd.rs.length := hpl.length
          have hufl : uf.length = (formOf (bs.take i)).length := hRf.length
          refine ⟨_, rfl, _, rfl, rb, rfl, ⟨_, SqL.of (e _ _ hr1)⟩, fun D hDn => lc_list (xs := ub) (fun j H3 => Ex H2 H3 ∧ ∃ uc, H3 D = some (.lst uc) ∧ RcsV H3 uc ((bandRc bd).take j)) ⟨Ex.new hDn, [], upd_same, .nil⟩ (fun j H3 _ p => SqL.of (p.1 _ _ (e _ _ hr1))) ?_ ?_⟩
          · rintro j x H3 hx ⟨e5, uc, hD3, hRc⟩
            obtain ⟨qq, hqq, pq, rfl, hpq⟩ := pr_get hpl hx
            have hpq3 := (TK.ex (e.trans e5)) _ _ hpq
            have hjl : j < bd.rs.length := (List.getElem?_eq_some_iff.mp hqq).1
            have hb1 : (bandRc bd)[j]? = some ⟨qq.1, bd.t, qq.2, bd.b⟩ := by
              unfold bandRc
              rw [List.getElem?_map, hqq]
              rfl
            have hucl : uc.length = ((bandRc bd).take j).length := hRc.length
            refine ⟨rfl, ?_⟩
            refine lcY ?_
            refine ⟨_, rfl, pq, _, _, _, rfl, rfl, SqT.of hpq3, rfl, ?_⟩
            refine ⟨_, rfl, _, rfl, pq, _, _, _, rfl, rfl, SqT.of hpq3, rfl, ?_⟩
            refine ⟨_, rfl, (by show 4 ≤ sizeLine; decide), fun pn hpn => ?_⟩
            have e6 := Ex.new (o := .tup [.int qq.1, .int bd.t, .int qq.2, .int bd.b]) hpn
            refine ⟨uc, e6 _ _ hD3, ?_, (e5.trans e6).mut hDn, uc ++ [.ref pn], upd_same, ?_⟩
            · refine slineL ?_
              rw [hucl]
              have := List.length_take_le' j (bandRc bd)
              rw [bandRc_len] at this
              omega
            · have k1 := TK.ex e6
              have k2 := TK.lst (o := .lst (uc ++ [.ref pn])) (e6 _ _ hD3)
              rw [List.take_add_one, hb1]
              exact ((hRc.tk k1).tk k2).snoc ⟨pn, rfl, k2 _ _ upd_same⟩
          · rintro H3 ⟨e5, uc, hD3, hRc⟩
            rw [hubl, ← bandRc_len, List.take_length] at hRc
            have hucl : uc.length = bd.rs.length := by rw [hRc.length, bandRc_len]
            refine ⟨pf, D, uf, uc, rfl, rfl, e5 _ _ hpf1, hD3, sline (by omega), fun pn hpn => ?_⟩
            have e6 := Ex.new (o := .lst (uf ++ uc)) hpn
            refine ⟨_, _, _, pn, uf ++ uc, rfl, (e.trans e5).trans e6, ex_free (e.trans e5) hpn, upd_same, ?_⟩
            rw [hform]
            exact pr_append (hRf.tk (TK.ex (e5.trans e6))) (hRc.tk (TK.ex e6))
        · rintro σ H2 ⟨v5, v7, v8, pf, uf, rfl, e, hpf0, hpf1, hRf⟩
          rw [hlen, List.take_length] at hRf
          refine ⟨_, rfl, ?_⟩
          obtain ⟨y0, hb0⟩ := hok
          refine q pf uf (formOf bs) H2 (ex_free he hpf0) (he.trans e) hpf1 hRf ⟨y0, bs, hb0, fun x y => ?_, rfl⟩ hfl
          rw [hm]
          constructor
          · exact fun h => h.1
          · exact fun h => ⟨h, (myy y).mpr ⟨x, h⟩⟩
    rcases hD with hD | ⟨us, hS, hU⟩
    · refine ⟨_, pss_cons (ps_set (i := 1) sc_l_form.nd rfl (by first | exact Or.inl rfl | exact Or.inr rfl) pe_dnewK) (pss_cons (ps_lock (ps_for PassesOwn.never rfl (pi_keys (pv 0)) (pg_name (i := 2) sc_l_form.nd rfl (by first | exact Or.inl rfl | exact Or.inr rfl))
        (pss_one (ps_dput (hu_of hr) (pv 1) (pe_ix (kixT K) (pv 2) pe_int (fun _ _ => rfl)) pe_bl rfl)))) ht), ?_⟩
      intro rd hrd
      have hrd_d : rd ≠ d := fun e => by
        rw [e, hD] at hrd
        cases hrd
      have e0 : Ex H (upd H rd (.dK [])) := Ex.new hrd
      have hR0 : upd H rd (.dK []) rd = some (.dK []) := upd_same
      refine ⟨d, _, e0 _ _ hD, trivial, fun od => ?_⟩
      refine ⟨_, rfl, d, od, rfl, .inr ⟨mkd pts, upd_same, ?_⟩⟩
      refine for_keysT (fun i σ H' => ∃ ys v2, σ = [some (.ref d), some (.ref rd), v2, none, none, none, none, none, none, none] ∧ Ex H (upd H' d (.dT (mkd pts))) ∧ H' d = some (.frz od (.dT (mkd pts))) ∧ H' rd = some (.dK (mki ys)) ∧ ys.Nodup ∧ (∀ y, y ∈ ys ↔ ∃ x, (x, y) ∈ pts.take i) ∧ ys.length ≤ i) ?_ ?_ ?_ ?_
      · refine ⟨[], none, rfl, ?_, upd_same, ?_, List.nodup_nil, fun y => by simp, Nat.le_refl _⟩
        · intro b o hb
          by_cases z : b = d
          · rw [z] at hb ⊢
            rw [hD] at hb
            rw [upd_same]
            exact hb
          · rw [upd_ne z, upd_ne z, upd_ne (ne_of_none hb hrd)]
            exact hb
        · rw [upd_ne hrd_d]
          exact hR0
      · rintro i σ H' _ ⟨ys, v2, _, _, h, _⟩
        exact h
      · rintro i k v qa σ H' hk hq ⟨ys, v2, rfl, e, hF, hR, ndy, my, ly⟩
        obtain ⟨z, hz, rfl⟩ := mkd_get hk
        have hi : i < pts.length := (List.getElem?_eq_some_iff.mp hz).1
        refine ⟨_, rfl, _, rfl, qa, _, _, _, rfl, rfl, SqT.of hq, rfl, ?_⟩
        refine ⟨rd, _, rfl, DPut.k (k := Sum.inl z.2) hR (by rw [mki_len]; exact slineL (by omega)), ?_⟩
        refine ⟨addI ys z.2, _, rfl, ?_, ?_, ?_, nodup_addI ndy, fun y => ?_, ?_⟩
        · intro b o hb
          have hbr : b ≠ rd := ne_of_none hb hrd
          by_cases zz : b = d
          · rw [zz] at hb ⊢
            rw [hD] at hb
            rw [upd_same]
            exact hb
          · have := e b o hb
            rw [upd_ne zz] at this
            rw [upd_ne zz, upd_ne hbr]
            exact this
        · rw [upd_ne (fun z => hrd_d z.symm)]
          exact hF
        · rw [upd_same, mki_put]
        · rw [mem_addI, my]
          constructor
          · rintro (⟨x, h⟩ | rfl)
            · exact ⟨x, (mem_take_succ hz).mpr (.inl h)⟩
            · exact ⟨z.1, (mem_take_succ hz).mpr (.inr rfl)⟩
          · rintro ⟨x, h⟩
            rcases (mem_take_succ hz).mp h with h | h
            · exact .inl ⟨x, h⟩
            · exact .inr (by rw [← h])
        · have := len_addI ys z.2
          omega
      · rintro σ H' ⟨ys, v2, rfl, e, hF, hR, ndy, my, ly⟩
        rw [mkd_len, List.take_length] at my
        rw [mkd_len] at ly
        refine ⟨hF, ?_⟩
        have hR1 : upd H' d (.dT (mkd pts)) rd = some (.dK (mki ys)) := by rw [upd_ne hrd_d]; exact hR
        exact hread ys rd v2 _ e hR1 ndy my ly
    · refine ⟨_, pss_cons (ps_set (i := 1) sc_l_form.nd rfl (by first | exact Or.inl rfl | exact Or.inr rfl) pe_dnewK) (pss_cons (ps_for PassesOwn.never rfl (kpiL K (pv 0)) (pg_name (i := 2) sc_l_form.nd rfl (by first | exact Or.inl rfl | exact Or.inr rfl))
        (pss_one (ps_dput (hu_of hr) (pv 1) (pe_ix (kixT K) (pv 2) pe_int (fun _ _ => rfl)) pe_bl rfl))) ht), ?_⟩
      intro rd hrd
      have hul := hU.length
      have e0 : Ex H (upd H rd (.dK [])) := Ex.new hrd
      refine ⟨_, rfl, d, rfl, ⟨_, ex_l e0 hS⟩, for_list (K := K) (a := d) (xs := us) (fun i σ H' => ∃ ys v2, σ = [some (.ref d), some (.ref rd), v2, none, none, none, none, none, none, none] ∧ Ex H H' ∧ H' rd = some (.dK (mki ys)) ∧ ys.Nodup ∧ (∀ y, y ∈ ys ↔ ∃ x, (x, y) ∈ pts.take i) ∧ ys.length ≤ i) ?_ ?_ ?_ ?_⟩
      · exact ⟨[], none, rfl, e0, upd_same, List.nodup_nil, fun y => by simp, Nat.le_refl _⟩
      · rintro i σ H' _ ⟨ys, v2, _, e, _⟩
        exact ex_l e hS
      · rintro i u σ H' hu ⟨ys, v2, rfl, e, hR, ndy, my, ly⟩
        obtain ⟨z, hz, qa, rfl, hq0⟩ := pr_get hU hu
        have hq := e _ _ hq0
        have hi : i < pts.length := (List.getElem?_eq_some_iff.mp hz).1
        refine ⟨_, rfl, _, rfl, qa, _, _, _, rfl, rfl, SqT.of hq, rfl, ?_⟩
        refine ⟨rd, _, rfl, DPut.k (k := Sum.inl z.2) hR (by rw [mki_len]; exact slineL (by omega)), ?_⟩
        refine ⟨addI ys z.2, _, rfl, e.mut hrd, ?_, nodup_addI ndy, fun y => ?_, ?_⟩
        · rw [upd_same, mki_put]
        · rw [mem_addI, my]
          constructor
          · rintro (⟨x, h⟩ | rfl)
            · exact ⟨x, (mem_take_succ hz).mpr (.inl h)⟩
            · exact ⟨z.1, (mem_take_succ hz).mpr (.inr rfl)⟩
          · rintro ⟨x, h⟩
            rcases (mem_take_succ hz).mp h with h | h
            · exact .inl ⟨x, h⟩
            · exact .inr (by rw [← h])
        · have := len_addI ys z.2
          omega
      · rintro σ H' ⟨ys, v2, rfl, e, hR, ndy, my, ly⟩
        rw [hul, List.take_length] at my
        exact hread ys rd v2 _ e hR ndy my (by omega)

abbrev s_steps_of : Stmt := top 7
theorem sc_steps_of : FnScope ["rectangles", "steps", "end", "left", "top", "right", "bottom"] ["rectangles"] (defScope s_steps_of) := ⟨rfl, rfl, rfl, by decide +kernel, rfl, by decide +kernel, by decide +kernel⟩
def spStepsOf (K : PySem.W.Frag) : Sp := fun vs H Q _ => ∃ a us fm, vs = [.ref a] ∧ SqL K H a us ∧ RcsV H us fm ∧ fm.length ≤ 900000 ∧
  ∀ p ws H', H p = none → Ex H H' → H' p = some (.lst ws) → StsV H' ws (stepsF fm) → (stepsF fm).length ≤ 2 * fm.length + 1 → (∀ z ∈ stepsF fm, z.2.length ≤ 2 * fm.length) → Q (.ref p) H'
theorem rstep_len {st : RSt} {q : Rc} {n : Nat} (h : st.1.length ≤ 2 * n) (k : ∀ z ∈ st.1, z.2.length ≤ 2 * n) : (rstep st q).1.length ≤ 2 * (n + 1) ∧ ∀ z ∈ (rstep st q).1, z.2.length ≤ 2 * (n + 1) := by
  unfold rstep
  split
  · rename_i hl
    unfold addL
    cases hg : st.1.getLast? with
    | none => exact ⟨by show st.1.length ≤ _; omega, fun z hz => by have := k z hz; omega⟩
    | some s =>
      have hs := k s (List.mem_of_getLast? hg)
      refine ⟨?_, fun z hz => ?_⟩
      · show (st.1.dropLast ++ [(s.1, s.2 ++ [q.l, q.r])]).length ≤ _
        rw [List.length_append, List.length_dropLast]
        simp
        omega
      · have hz : z ∈ st.1.dropLast ++ [(s.1, s.2 ++ [q.l, q.r])] := hz
        rcases List.mem_append.mp hz with w | w
        · have := k z (List.dropLast_subset _ w)
          omega
        · rw [List.mem_singleton.mp w]
          show (s.2 ++ [q.l, q.r]).length ≤ _
          rw [List.length_append]
          simp
          omega
  · have hg : (gap st.2 q.t).length ≤ 1 ∧ ∀ z ∈ gap st.2 q.t, z.2.length = 0 := by
      unfold gap
      split
      · split
        · exact ⟨Nat.le_refl _, fun z hz => by rw [List.mem_singleton.mp hz]; rfl⟩
        · exact ⟨Nat.zero_le _, fun z hz => by simp at hz⟩
      · exact ⟨Nat.zero_le _, fun z hz => by simp at hz⟩
    refine ⟨?_, fun z hz => ?_⟩
    · show (st.1 ++ gap st.2 q.t ++ [(q.t, [q.l, q.r])]).length ≤ _
      rw [List.length_append, List.length_append]
      have := hg.1
      simp
      omega
    · have hz : z ∈ st.1 ++ gap st.2 q.t ++ [(q.t, [q.l, q.r])] := hz
      rcases List.mem_append.mp hz with w | w
      · rcases List.mem_append.mp w with w | w
        · have := k z w
          omega
        · rw [hg.2 z w]
          omega
      · rw [List.mem_singleton.mp w]
        simp
        omega
/-- the steps so far: the last one's list may change -/
def StM (D L : Addr) (H : Hp) (v : V) (s : Stp) : Prop := ∃ p M, v = .ref p ∧ H p = some (.tup [.int s.1, .ref M]) ∧ M ≠ D ∧ M ≠ L ∧ H M = some (.lst (s.2.map V.int))
theorem StM.ex {D L : Addr} {H H' : Hp} {v : V} {s : Stp} (e : Ex H H') (h : StM D L H v s) : StM D L H' v s := by
  obtain ⟨p, M, rfl, h1, n, n2, h2⟩ := h
  exact ⟨p, M, rfl, e _ _ h1, n, n2, e _ _ h2⟩
theorem StM.mut {D L : Addr} {H : Hp} {v : V} {s : Stp} {xs : List V} {o : HO} (hD : H D = some (.lst xs)) (h : StM D L H v s) : StM D L (upd H D o) v s := by
  obtain ⟨p, M, rfl, h1, n, n2, h2⟩ := h
  refine ⟨p, M, rfl, TK.lst hD _ _ h1, n, n2, ?_⟩
  rw [upd_ne n]
  exact h2
theorem StM.mutL {D L : Addr} {H : Hp} {v : V} {s : Stp} {xs : List V} {o : HO} (hL : H L = some (.lst xs)) (h : StM D L H v s) : StM D L (upd H L o) v s := by
  obtain ⟨p, M, rfl, h1, n, n2, h2⟩ := h
  refine ⟨p, M, rfl, TK.lst hL _ _ h1, n, n2, ?_⟩
  rw [upd_ne n2]
  exact h2
def Rep (H0 : Hp) (D : Addr) (H : Hp) (ws : List V) (ss : List Stp) : Prop := (ss = [] ∧ ws = []) ∨ ∃ ws0 ss0 p L y es, ws = ws0 ++ [.ref p] ∧ ss = ss0 ++ [(y, es)] ∧ H p = some (.tup [.int y, .ref L]) ∧ H L = some (.lst ((es : List Int).map V.int)) ∧ L ≠ D ∧ H0 L = none ∧ Paired (StM D L H) ws0 ss0
theorem Rep.len {H0 : Hp} {D : Addr} {H : Hp} {ws : List V} {ss : List Stp} (h : Rep H0 D H ws ss) : ws.length = ss.length := by
  rcases h with ⟨rfl, rfl⟩ | ⟨ws0, ss0, p, L, y, es, rfl, rfl, _, _, _, _, hp⟩
  · rfl
  · rw [List.length_append, List.length_append, hp.length]
    rfl
theorem Rep.ex {H0 : Hp} {D : Addr} {H H' : Hp} {ws : List V} {ss : List Stp} (e : Ex H H') (h : Rep H0 D H ws ss) : Rep H0 D H' ws ss := by
  rcases h with h | ⟨ws0, ss0, p, L, y, es, rfl, rfl, h1, h2, h3, h4, hp⟩
  · exact .inl h
  · exact .inr ⟨ws0, ss0, p, L, y, es, rfl, rfl, e _ _ h1, e _ _ h2, h3, h4, Paired.mapP hp fun _ _ => StM.ex e⟩
theorem Rep.snoc {H0 : Hp} {D : Addr} {H G : Hp} {ws xs : List V} {ss : List Stp} {p L : Addr} {y : Int} {es : List Int} (o : HO) (h : Rep H0 D H ws ss) (e : Ex H G) (hD : G D = some (.lst xs)) (hLn : H L = none) (hL0 : H0 L = none) (hL : G L = some (.lst (es.map V.int))) (hLD : L ≠ D) (hp : G p = some (.tup [.int y, .ref L])) :
    Rep H0 D (upd G D o) (ws ++ [.ref p]) (ss ++ [(y, es)]) := by
  refine .inr ⟨ws, ss, p, L, y, es, rfl, rfl, TK.lst hD _ _ hp, by rw [upd_ne hLD]; exact hL, hLD, hL0, ?_⟩
  rcases h with ⟨rfl, rfl⟩ | ⟨ws0, ss0, p0, L0, y0, es0, rfl, rfl, h1, h2, h3, h4, hp0⟩
  · exact .nil
  · have ne : ∀ {M : Addr} {u : HO}, H M = some u → M ≠ L := fun hM z => by
      rw [z, hLn] at hM
      cases hM
    refine (Paired.mapP hp0 fun v s hs => ?_).snoc ?_
    · obtain ⟨q, M, rfl, g1, g2, g3, g4⟩ := hs
      exact StM.mut hD (StM.ex e ⟨q, M, rfl, g1, g2, ne g4, g4⟩)
    · exact StM.mut hD (StM.ex e ⟨p0, L0, rfl, h1, h3, ne h2, h2⟩)
theorem Rep.st {H0 : Hp} {D : Addr} {H : Hp} {ws : List V} {ss : List Stp} (h : Rep H0 D H ws ss) : StsV H ws ss := by
  rcases h with ⟨rfl, rfl⟩ | ⟨ws0, ss0, p, L, y, es, rfl, rfl, h1, h2, h3, h4, hp⟩
  · exact .nil
  · exact (Paired.mapP hp fun v s hs => by
      obtain ⟨q, M, rfl, g1, _, _, g4⟩ := hs
      exact ⟨q, M, rfl, g1, g4⟩).snoc ⟨p, L, rfl, h1, h2⟩
def endV : Option Int → V
  | none => .non
  | some e => .int e
theorem fold_len : ∀ {fm : List Rc} {i : Nat} {q : Rc}, fm[i]? = some q → (fm.take (i + 1)).foldl rstep ([], none) = rstep ((fm.take i).foldl rstep ([], none)) q := fun {fm i q} h => by
  rw [List.take_add_one, h, List.foldl_append]
  rfl
theorem fold_bound (fm : List Rc) : ∀ i, i ≤ fm.length → ((fm.take i).foldl rstep ([], none)).1.length ≤ 2 * i ∧ ∀ z ∈ ((fm.take i).foldl rstep ([], none)).1, z.2.length ≤ 2 * i
  | 0, _ => ⟨Nat.le_refl _, fun z hz => by simp at hz⟩
  | i + 1, h => by
    have hi : i < fm.length := h
    rw [fold_len (List.getElem?_eq_getElem hi)]
    obtain ⟨h1, h2⟩ := fold_bound fm i (by omega)
    exact rstep_len h1 h2
theorem ok_steps_of {f : Addr} {fd : FuncData} (F : Fun K "_steps_of" "_steps_of" s_steps_of f fd) (T : Txt K mg) : FnOk P w K mg base CX0 1 f fd ["rectangles"] (spStepsOf K) := by
  refine F.ok sc_steps_of (fun vs H Q E h => ?_) (fun cdv A outer s H vs Q E hr h => ?_)
  · obtain ⟨a, us, fm, rfl, _⟩ := h
    rfl
  · obtain ⟨a, us, fm, rfl, hS, hq, hn, q⟩ := h
    refine ⟨_, (pss_cons (ps_set (i := 1) sc_steps_of.nd rfl (by first | exact Or.inl rfl | exact Or.inr rfl) (pe_lst pa_nil))
      (pss_cons (ps_set (i := 2) sc_steps_of.nd rfl (by first | exact Or.inl rfl | exact Or.inr rfl) pe_non)
      (pss_cons (ps_for PassesOwn.never rfl (kpiL K (pv 0)) (kpgT K (n := 4) rfl (pgs_cons (pg_name (i := 3) sc_steps_of.nd rfl (by first | exact Or.inl rfl | exact Or.inr rfl)) (pgs_cons (pg_name (i := 4) sc_steps_of.nd rfl (by first | exact Or.inl rfl | exact Or.inr rfl)) (pgs_cons (pg_name (i := 5) sc_steps_of.nd rfl (by first | exact Or.inl rfl | exact Or.inr rfl)) (pgs_cons (pg_name (i := 6) sc_steps_of.nd rfl (by first | exact Or.inl rfl | exact Or.inr rfl)) pgs_nil)))))
        (pss_cons (ps_if (PW.pt (pw_and (ktru K (pv 1)) (pw_and1 (pt_cmpR op_eq (pe_ix (kixT K) (pe_ix (kixL K) (pv 1) (pe_un un_neg pe_int) (fun _ _ => rfl)) pe_int (fun _ _ => rfl)) (pv 4) (nomark _)))))
          (pss_cons (ps_expr (pe_bm PySem.F.plainAttrs_list PySem.F.slot_list_extend PySem.F.type_list_extend mt_extend (pe_ix (kixT K) (pe_ix (kixL K) (pv 1) (pe_un un_neg pe_int) (fun _ _ => rfl)) pe_int (fun _ _ => rfl)) (pa_cons (pe_lst (pa_cons (pv 3) (pa_cons (pv 5) pa_nil))) pa_nil)))
          (pss_one ps_continue))
          pss_nil)
        (pss_cut (ps_if (PW.pt (pw_and (pt_cmpR op_notN (pv 2) pe_non (nomark _)) (pw_and1 (pt_cmpR op_lt (pv 2) (pv 4) (nomark _)))))
          (pss_one (ps_expr (pe_bm PySem.F.plainAttrs_list PySem.F.slot_list_append PySem.F.type_list_append mt_append (pv 1) (pa_cons (pe_tup (pa_cons (pv 2) (pa_cons (pe_lst pa_nil) pa_nil))) pa_nil))))
          pss_nil)
        (pss_cons (ps_expr (pe_bm PySem.F.plainAttrs_list PySem.F.slot_list_append PySem.F.type_list_append mt_append (pv 1) (pa_cons (pe_tup (pa_cons (pv 4) (pa_cons (pe_lst (pa_cons (pv 3) (pa_cons (pv 5) pa_nil))) pa_nil))) pa_nil)))
        (pss_one (ps_set (i := 2) sc_steps_of.nd rfl (by first | exact Or.inl rfl | exact Or.inr rfl) (pv 6)))))))
      (pss_cut (ps_if (pt_cmpR op_notN (pv 2) pe_non (nomark _))
        (pss_one (ps_expr (pe_bm PySem.F.plainAttrs_list PySem.F.slot_list_append PySem.F.type_list_append mt_append (pv 1) (pa_cons (pe_tup (pa_cons (pv 2) (pa_cons (pe_lst pa_nil) pa_nil))) pa_nil))))
        pss_nil)
      (pss_one (ps_ret (pv 1))))))), ?_⟩
    have hlen : us.length = fm.length := hq.length
    refine ⟨(by show 0 ≤ sizeLine; decide), fun D hD => ?_⟩
    have e1 := Ex.new (o := .lst []) hD
    have hD1 : upd H D (.lst []) D = some (.lst []) := upd_same
    generalize upd H D (.lst []) = H1 at e1 hD1
    refine ⟨_, rfl, a, rfl, ⟨_, ex_l e1 hS⟩, ?_⟩
    refine for_list (K := K) (a := a) (xs := us) (fun i σ H' => ∃ ws v3 v4 v5 v6, σ = [some (.ref a), some (.ref D), some (endV ((fm.take i).foldl rstep ([], none)).2), v3, v4, v5, v6] ∧ Ex H H' ∧ H' D = some (.lst ws) ∧ Rep H D H' ws ((fm.take i).foldl rstep ([], none)).1)
      ⟨[], _, _, _, _, rfl, e1, hD1, .inl ⟨rfl, rfl⟩⟩ (fun i σ H' _ p => by obtain ⟨_, _, _, _, _, _, h, _⟩ := p; exact ex_l h hS) ?_ ?_
    · rintro i u σ H' hu ⟨ws, v3, v4, v5, v6, rfl, e, hD', hR⟩
      obtain ⟨rc, hrc, pr, rfl, hp⟩ := pr_get hq hu
      have hi : i < fm.length := (List.getElem?_eq_some_iff.mp hrc).1
      have hwl := hR.len
      obtain ⟨bl, be⟩ := fold_bound fm i (by omega)
      rw [fold_len hrc]
      generalize (fm.take i).foldl rstep ([], none) = st at hR bl be hwl
      obtain ⟨ss, oe⟩ := st
      dsimp only at hR bl be hwl
      refine ⟨pr, _, rfl, SqT.of (e _ _ hp), rfl, _, _, rfl, _, _, rfl, _, _, rfl, _, _, rfl, rfl, ?_⟩
      -- a further run, or not
      have hlast : ∀ {ws0 : List V} {ss0 : List Stp} {y : Int} {es : List Int}, lastY (ss0 ++ [(y, es)]) = some y := fun {ws0 ss0 y es} => lastY_snoc _ _
      by_cases hl : lastY ss = some rc.t
      · rcases hR with ⟨rfl, rfl⟩ | ⟨ws0, ss0, p, L, y, es, rfl, rfl, h1, h2, h3, h4, hpd⟩
        · cases hl
        · have hy : y = rc.t := Option.some.inj ((lastY_snoc ss0 (y, es)).symm.trans hl)
          subst hy
          refine st_seq ?_
          refine st_yes ?_ ?_
          · intro Q' q'
            refine ⟨_, rfl, true, .inl ⟨_, SqL.of hD', by simp⟩, iteT ?_⟩
            refine ⟨_, rfl, _, rfl, D, _, _, .ref p, rfl, rfl, SqL.of hD', atI_last _ _, p, _, _, _, rfl, rfl, SqT.of h1, rfl, _, rfl, rfl, _, rfl, ?_⟩
            rw [decide_eq_true rfl]
            exact q'
          · refine ⟨_, rfl, _, rfl, D, _, _, .ref p, rfl, rfl, SqL.of hD', atI_last _ _, p, _, _, .ref L, rfl, rfl, SqT.of h1, rfl, .inl ⟨rfl, _, SqL.of h2⟩, ?_⟩
            refine ⟨_, rfl, _, rfl, (by show 2 ≤ sizeLine; decide), fun p2 hp2 => ?_⟩
            have f1 := Ex.new (o := .lst [.int rc.l, .int rc.r]) hp2
            have hp2' : upd H' p2 (.lst [.int rc.l, .int rc.r]) p2 = some (.lst [.int rc.l, .int rc.r]) := upd_same
            generalize upd H' p2 (.lst [.int rc.l, .int rc.r]) = G at f1 hp2'
            have hel := be (rc.t, es) (by simp)
            refine ⟨L, p2, _, _, rfl, rfl, f1 _ _ h2, hp2', sline2 (by rw [List.length_map]; dsimp only at hel; show es.length + 2 ≤ _; omega), ?_⟩
            have hst : rstep (ss0 ++ [(rc.t, es)], oe) rc = (ss0 ++ [(rc.t, es ++ [rc.l, rc.r])], oe) := by
              unfold rstep
              rw [if_pos hl]
              show (addL (ss0 ++ [(rc.t, es)]) [rc.l, rc.r], oe) = _
              rw [addL_snoc]
            rw [hst]
            refine ⟨_, _, _, _, _, rfl, (e.trans f1).mut h4, ?_, .inr ⟨ws0, ss0, p, L, rc.t, es ++ [rc.l, rc.r], rfl, rfl, TK.lst (f1 _ _ h2) _ _ (f1 _ _ h1), ?_, h3, h4, ?_⟩⟩
            · rw [upd_ne h3.symm]
              exact f1 _ _ hD'
            · rw [upd_same, List.map_append]
              rfl
            · exact Paired.mapP hpd fun _ _ z => StM.mutL (f1 _ _ h2) (StM.ex f1 z)
      · refine st_seq ?_
        refine st_no ?_ ?_
        · intro Q' q'
          rcases hR with ⟨rfl, rfl⟩ | ⟨ws0, ss0, p, L, y, es, rfl, rfl, h1, h2, h3, h4, hpd⟩
          · exact ⟨_, rfl, false, .inl ⟨_, SqL.of hD', rfl⟩, iteF q'⟩
          · have hy : y ≠ rc.t := fun z => hl (by rw [lastY_snoc, z])
            refine ⟨_, rfl, true, .inl ⟨_, SqL.of hD', by simp⟩, iteT ?_⟩
            refine ⟨_, rfl, _, rfl, D, _, _, .ref p, rfl, rfl, SqL.of hD', atI_last _ _, p, _, _, _, rfl, rfl, SqT.of h1, rfl, _, rfl, rfl, _, rfl, ?_⟩
            rw [decide_eq_false fun z => hy (V.int.inj z)]
            exact q'
        · have hst : rstep (ss, oe) rc = (ss ++ gap oe rc.t ++ [(rc.t, [rc.l, rc.r])], some rc.b) := by
            unfold rstep
            rw [if_neg hl]
          rw [hst]
          refine ⟨fun σ H2 => ∃ ws2, σ = [some (.ref a), some (.ref D), some (endV oe), some (.int rc.l), some (.int rc.t), some (.int rc.r), some (.int rc.b)] ∧ Ex H H2 ∧ H2 D = some (.lst ws2) ∧ Rep H D H2 ws2 (ss ++ gap oe rc.t), ?_, ?_⟩
          · cases oe with
            | none =>
              refine ⟨_, rfl, rfl, _, rfl, ?_⟩
              refine iteF ?_
              exact ⟨ws, rfl, e, hD', by rw [show gap none rc.t = [] from rfl, List.append_nil]; exact hR⟩
            | some e0 =>
              refine ⟨_, rfl, rfl, _, rfl, ?_⟩
              refine iteT ?_
              refine ⟨_, rfl, _, rfl, _, _, rfl, rfl, _, rfl, ?_⟩
              refine ite2 (fun c => ?_) (fun c => ?_)
              · have hg : gap (some e0) rc.t = [(e0, [])] := if_pos (of_decide_eq_true c)
                rw [hg]
                refine ⟨_, rfl, .inl ⟨rfl, _, SqL.of hD'⟩, _, rfl, (by show 0 ≤ sizeLine; decide), fun L hL => ?_⟩
                have f1 := Ex.new (o := .lst []) hL
                have hL1 : upd H' L (.lst []) L = some (.lst (([] : List Int).map V.int)) := upd_same
                have hLD : L ≠ D := fun z => by rw [z, hD'] at hL; cases hL
                generalize upd H' L (.lst []) = G1 at f1 hL1
                refine ⟨(by show 2 ≤ sizeLine; decide), fun p hp => ?_⟩
                have f2 := Ex.new (o := .tup [endV ((ss, some e0) : RSt).snd, .ref L]) hp
                have hp1 : upd G1 p (.tup [endV ((ss, some e0) : RSt).snd, .ref L]) p = some (.tup [.int e0, .ref L]) := upd_same
                generalize upd G1 p (.tup [endV ((ss, some e0) : RSt).snd, .ref L]) = G2 at f2 hp1
                have f12 := f1.trans f2
                refine ⟨D, ws, _, rfl, rfl, f12 _ _ hD', slineL2 (by omega), ?_⟩
                exact ⟨_, rfl, (e.trans f12).mut hD, upd_same, Rep.snoc _ hR f12 (f12 _ _ hD') hL (ex_free e hL) (f2 _ _ hL1) hLD hp1⟩
              · have hg : gap (some e0) rc.t = [] := if_neg (fun z => c (decide_eq_true z))
                rw [hg, List.append_nil]
                exact ⟨ws, rfl, e, hD', hR⟩
          · rintro σ H2 ⟨ws2, rfl, e2, hD2, hR2⟩
            have hw2 := hR2.len
            have hgl : (ss ++ gap oe rc.t).length ≤ 2 * i + 1 := by
              rw [List.length_append]
              have : (gap oe rc.t).length ≤ 1 := by
                unfold gap
                split
                · split
                  · exact Nat.le_refl _
                  · exact Nat.zero_le _
                · exact Nat.zero_le _
              omega
            refine ⟨_, rfl, .inl ⟨rfl, _, SqL.of hD2⟩, _, rfl, _, rfl, _, rfl, (by show 2 ≤ sizeLine; decide), fun L hL => ?_⟩
            have f1 := Ex.new (o := .lst [.int rc.l, .int rc.r]) hL
            have hL1 : upd H2 L (.lst [.int rc.l, .int rc.r]) L = some (.lst ([rc.l, rc.r].map V.int)) := upd_same
            have hLD : L ≠ D := fun z => by rw [z, hD2] at hL; cases hL
            generalize upd H2 L (.lst [.int rc.l, .int rc.r]) = G1 at f1 hL1
            refine ⟨(by show 2 ≤ sizeLine; decide), fun p hp => ?_⟩
            have f2 := Ex.new (o := .tup [.int rc.t, .ref L]) hp
            have hp1 : upd G1 p (.tup [.int rc.t, .ref L]) p = some (.tup [.int rc.t, .ref L]) := upd_same
            generalize upd G1 p (.tup [.int rc.t, .ref L]) = G2 at f2 hp1
            have f12 := f1.trans f2
            refine ⟨D, ws2, _, rfl, rfl, f12 _ _ hD2, slineL2 (by omega), ?_⟩
            refine ⟨_, rfl, ?_⟩
            exact ⟨_, _, _, _, _, rfl, (e2.trans f12).mut hD, upd_same, Rep.snoc _ hR2 f12 (f12 _ _ hD2) hL (ex_free e2 hL) (f2 _ _ hL1) hLD hp1⟩
    · rintro σ H' ⟨ws, v3, v4, v5, v6, rfl, e, hD', hR⟩
      rw [hlen, List.take_length] at hR
      obtain ⟨bl, be⟩ := fold_bound fm fm.length (Nat.le_refl _)
      rw [List.take_length] at bl be
      have hF : stepsF fm = fin (fm.foldl rstep ([], none)) := rfl
      rw [hF] at q
      rw [hlen, List.take_length]
      generalize fm.foldl rstep ([], none) = st at hR bl be q
      obtain ⟨ss, oe⟩ := st
      dsimp only at hR bl be
      refine ⟨fun σ H2 => ∃ ws2, σ = [some (.ref a), some (.ref D), some (endV oe), v3, v4, v5, v6] ∧ Ex H H2 ∧ H2 D = some (.lst ws2) ∧ Rep H D H2 ws2 (fin (ss, oe)), ?_, ?_⟩
      · have hwl := hR.len
        cases oe with
        | none =>
          refine ⟨_, rfl, rfl, _, rfl, ?_⟩
          refine iteF ?_
          exact ⟨ws, rfl, e, hD', hR⟩
        | some e0 =>
          refine ⟨_, rfl, rfl, _, rfl, ?_⟩
          refine iteT ?_
          refine ⟨_, rfl, .inl ⟨rfl, _, SqL.of hD'⟩, _, rfl, (by show 0 ≤ sizeLine; decide), fun L hL => ?_⟩
          have f1 := Ex.new (o := .lst []) hL
          have hL1 : upd H' L (.lst []) L = some (.lst (([] : List Int).map V.int)) := upd_same
          have hLD : L ≠ D := fun z => by rw [z, hD'] at hL; cases hL
          generalize upd H' L (.lst []) = G1 at f1 hL1
          refine ⟨(by show 2 ≤ sizeLine; decide), fun p hp => ?_⟩
          have f2 := Ex.new (o := .tup [endV ((ss, some e0) : RSt).snd, .ref L]) hp
          have hp1 : upd G1 p (.tup [endV ((ss, some e0) : RSt).snd, .ref L]) p = some (.tup [.int e0, .ref L]) := upd_same
          generalize upd G1 p (.tup [endV ((ss, some e0) : RSt).snd, .ref L]) = G2 at f2 hp1
          have f12 := f1.trans f2
          refine ⟨D, ws, _, rfl, rfl, f12 _ _ hD', slineL2 (by omega), ?_⟩
          exact ⟨_, rfl, (e.trans f12).mut hD, upd_same, Rep.snoc _ hR f12 (f12 _ _ hD') hL (ex_free e hL) (f2 _ _ hL1) hLD hp1⟩
      · rintro σ H2 ⟨ws2, rfl, e2, hD2, hR2⟩
        refine ⟨_, rfl, ?_⟩
        refine q D ws2 H2 hD e2 hD2 hR2.st ?_ ?_
        · cases oe with
          | none => show ss.length ≤ _; omega
          | some e0 =>
            show (ss ++ [(e0, [])]).length ≤ _
            rw [List.length_append]
            simp
            omega
        · intro z hz
          cases oe with
          | none => exact be z hz
          | some e0 =>
            have hz : z ∈ ss ++ [(e0, [])] := hz
            rcases List.mem_append.mp hz with w | w
            · exact be z w
            · rw [List.mem_singleton.mp w]
              exact Nat.zero_le _

abbrev s_edges_behind : Stmt := top 5
theorem sc_edges_behind : FnScope ["steps", "passed"] ["steps", "passed"] (defScope s_edges_behind) := ⟨rfl, rfl, rfl, by decide +kernel, rfl, by decide +kernel, by decide +kernel⟩
def spBehind : Sp := fun vs H Q _ => ∃ a us ss m, vs = [.ref a, .int ((m : Nat) : Int)] ∧ H a = some (.lst us) ∧ StsV H us ss ∧ m ≤ ss.length ∧ ∀ L H', Ex H H' → H' L = some (.lst ((eb ss m).map V.int)) → Q (.ref L) H'
theorem ok_edges_behind {f : Addr} {fd : FuncData} (F : Fun K "_edges_behind" "_edges_behind" s_edges_behind f fd) (T : Txt K mg) : FnOk P w K mg base CX0 1 f fd ["steps", "passed"] spBehind := by
  refine F.ok sc_edges_behind (fun vs H Q E h => ?_) (fun cdv A outer s H vs Q E hr h => ?_)
  · obtain ⟨a, us, ss, m, rfl, _⟩ := h
    rfl
  · obtain ⟨a, us, ss, m, rfl, ha, hu, hm, q⟩ := h
    refine ⟨_, (pss_cons (ps_if (pt_cmpR op_eq (pv 1) pe_int (nomark _))
        (pss_one (ps_ret (pe_lst pa_nil)))
        pss_nil)
      (pss_one (ps_ret (pe_ix (kixT K) (pe_ix (kixL K) (pv 0) (pe_op op_sub (pv 1) pe_int) (fun _ _ => rfl)) pe_int (fun _ _ => rfl))))), ?_⟩
    refine ⟨_, rfl, rfl, _, rfl, ?_⟩
    refine ite2 (fun c => ?_) (fun c => ?_)
    · have e : m = 0 := by
        have := of_decide_eq_true c
        injection this with this
        omega
      subst e
      exact ⟨(by show 0 ≤ sizeLine; decide), fun L hL => q L _ (Ex.new hL) upd_same⟩
    · have e : m ≠ 0 := fun z => c (by rw [z]; rfl)
      obtain ⟨k, rfl⟩ : ∃ k, m = k + 1 := ⟨m - 1, by omega⟩
      have hk : k < ss.length := by omega
      obtain ⟨v, hv, p, L, rfl, h1, h2⟩ := pr_getR hu (List.getElem?_eq_getElem hk)
      refine ⟨_, rfl, _, rfl, _, _, rfl, rfl, ?_⟩
      have ei : (((k + 1 : Nat) : Int) - 1) = ((k : Nat) : Int) := by omega
      refine ⟨a, us, _, .ref p, rfl, rfl, SqL.of ha, by rw [ei]; exact atI_nat hv, ?_⟩
      refine ⟨p, _, _, _, rfl, rfl, SqT.of h1, rfl, ?_⟩
      refine q L H (Ex.refl _) ?_
      rw [h2]
      unfold eb
      rw [if_neg (by omega), Nat.add_sub_cancel, List.getD_eq_getElem?_getD, List.getElem?_eq_getElem hk]
      rfl

abbrev s_combined_edges : Stmt := top 6
theorem sc_combined_edges : FnScope ["first", "second", "kept", "edges", "in_first", "in_second", "x", "inside"] ["first", "second", "kept"] (defScope s_combined_edges) := ⟨rfl, rfl, rfl, by decide +kernel, rfl, by decide +kernel, by decide +kernel⟩
def spEdges (K : PySem.W.Frag) : Sp := fun vs H Q _ => ∃ a b c f s kf, vs = [.ref a, .ref b, .ref c] ∧ H a = some (.lst (f.map V.int)) ∧ H b = some (.lst (s.map V.int)) ∧ SqT K H c (keptV kf) ∧ kf false false = false ∧ EvE f ∧ EvE s ∧ f.length ≤ 4000000 ∧ s.length ≤ 4000000 ∧
  ∀ p es H', H p = none → Ex H H' → H' p = some (.lst (es.map V.int)) → Comb kf f s es → es.length ≤ f.length + s.length → Q (.ref p) H'
theorem ok_combined_edges {f : Addr} {fd : FuncData} (F : Fun K "_combined_edges" "_combined_edges" s_combined_edges f fd) (T : Txt K mg) : FnOk P w K mg base CX0 1 f fd ["first", "second", "kept"] (spEdges K) := by
  refine F.ok sc_combined_edges (fun vs H Q E h => ?_) (fun cdv A outer s H vs Q E hr h => ?_)
  · obtain ⟨a, b, c, f, s, kf, rfl, _⟩ := h
    rfl
  · obtain ⟨a, b, c, f, s, kf, rfl, ha, hb, hc, hk, hf, hs, lf, ls, q⟩ := h
    refine ⟨_, (pss_cons (ps_set (i := 3) sc_combined_edges.nd rfl (by first | exact Or.inl rfl | exact Or.inr rfl) (pe_lst pa_nil))
      (pss_cons (ps_asg2 pe_int (pg_name (i := 4) sc_combined_edges.nd rfl (by first | exact Or.inl rfl | exact Or.inr rfl)) (pg_name (i := 5) sc_combined_edges.nd rfl (by first | exact Or.inl rfl | exact Or.inr rfl)))
      (pss_cons (ps_for PassesOwn.never rfl (kpiL K (pe_callB (ksorted K) (by rfl) T.sorted_ bt_sorted (pa_cons (pe_op op_cat (pv 0) (pv 1)) pa_nil))) (pg_name (i := 6) sc_combined_edges.nd rfl (by first | exact Or.inl rfl | exact Or.inr rfl))
        (pss_cut (ps_if (PW.pt (pw_and (pt_cmpR op_lt (pv 4) (pe_callB (klen K) (by rfl) T.len_ PySem.boot_len (pa_cons (pv 0) pa_nil)) (nomark _)) (pw_and1 (pt_cmpR op_eq (pe_ix (kixL K) (pv 0) (pv 4) (fun _ _ => rfl)) (pv 6) (nomark _)))))
          (pss_one (ps_aug (i := 4) sc_combined_edges.nd rfl (by first | exact Or.inl rfl | exact Or.inr rfl) pe_int ip_add))
          pss_nil)
        (pss_cut (ps_if (PW.pt (pw_and (pt_cmpR op_lt (pv 5) (pe_callB (klen K) (by rfl) T.len_ PySem.boot_len (pa_cons (pv 1) pa_nil)) (nomark _)) (pw_and1 (pt_cmpR op_eq (pe_ix (kixL K) (pv 1) (pv 5) (fun _ _ => rfl)) (pv 6) (nomark _)))))
          (pss_one (ps_aug (i := 5) sc_combined_edges.nd rfl (by first | exact Or.inl rfl | exact Or.inr rfl) pe_int ip_add))
          pss_nil)
        (pss_cons (ps_set (i := 7) sc_combined_edges.nd rfl (by first | exact Or.inl rfl | exact Or.inr rfl) (pe_ix (kixT K) (pv 2) (pe_op op_add (pe_op op_mul pe_int (pe_op op_and (pv 4) pe_int)) (pe_op op_and (pv 5) pe_int)) (fun _ _ => rfl)))
        (pss_one (ps_if (pt_cmpR op_ne (pv 7) (pe_cmpR op_eq (pe_op op_and (pe_callB (klen K) (by rfl) T.len_ PySem.boot_len (pa_cons (pv 3) pa_nil)) pe_int) pe_int (nomark _)) (nomark _))
          (pss_one (ps_expr (pe_bm PySem.F.plainAttrs_list PySem.F.slot_list_append PySem.F.type_list_append mt_append (pv 3) (pa_cons (pv 6) pa_nil))))
          pss_nil))))))
      (pss_one (ps_ret (pv 3)))))), ?_⟩
    refine ⟨(by show 0 ≤ sizeLine; decide), fun D hD => ?_⟩
    have e1 := Ex.new (o := .lst []) hD
    refine ⟨_, rfl, _, rfl, a, b, _, _, rfl, rfl, e1 _ _ ha, e1 _ _ hb, sline2 (by rw [List.length_map, List.length_map]; omega), fun p1 hp1 => ?_⟩
    have e2 := Ex.new (o := .lst (f.map V.int ++ s.map V.int)) hp1
    refine ⟨p1, f ++ s, rfl, by rw [List.map_append]; exact SqL.of upd_same, fun l p2 perm srt hp2 => ?_⟩
    have e3 := Ex.new (o := .lst (l.map V.int)) hp2
    have hDp : D ≠ p2 := fun z => by
      have h1 := e2 _ _ (show upd H D (.lst []) D = some (.lst []) from upd_same)
      rw [← z, h1] at hp2
      cases hp2
    have hlen : l.length = f.length + s.length := by rw [perm.length_eq, List.length_append]
    have hD3 : upd (upd (upd H D (.lst [])) p1 (.lst (f.map V.int ++ s.map V.int))) p2 (.lst (l.map V.int)) D = some (.lst (([] : List Int).map V.int)) := e3 _ _ (e2 _ _ upd_same)
    have hp3 : upd (upd (upd H D (.lst [])) p1 (.lst (f.map V.int ++ s.map V.int))) p2 (.lst (l.map V.int)) p2 = some (.lst (l.map V.int)) := upd_same
    have e13 := (e1.trans e2).trans e3
    generalize upd (upd (upd H D (.lst [])) p1 (.lst (f.map V.int ++ s.map V.int))) p2 (.lst (l.map V.int)) = H3 at hD3 hp3 e13
    refine ⟨p2, rfl, ⟨_, SqL.of hp3⟩, ?_⟩
    refine for_list (K := K) (a := p2) (xs := l.map V.int) (fun i σ H' => ∃ k1 k2 es v6 v7, σ = [some (.ref a), some (.ref b), some (.ref c), some (.ref D), some (.int ((k1 : Nat) : Int)), some (.int ((k2 : Nat) : Int)), v6, v7] ∧ Ex H H' ∧ H' D = some (.lst ((es : List Int).map V.int)) ∧ H' p2 = some (.lst (l.map V.int)) ∧ CI kf f s (l.drop i) k1 k2 es ∧ es.length ≤ i)
      ⟨0, 0, [], _, _, rfl, e13, hD3, hp3, CI.start hk (fun e he => perm.mem_iff.mpr (List.mem_append_left _ he)) (fun e he => perm.mem_iff.mpr (List.mem_append_right _ he)), Nat.le_refl _⟩ (fun i σ H' _ p => by obtain ⟨_, _, _, _, _, _, _, _, h, _⟩ := p; exact SqL.of h) ?_ ?_
    · rintro i u σ H' hu ⟨k1, k2, es, v6, v7, rfl, e, hD', hp', ci, hel⟩
      rw [List.getElem?_map] at hu
      have hi : i < l.length := by
        cases hx : l[i]? with
        | none => rw [hx] at hu; cases hu
        | some z => exact (List.getElem?_eq_some_iff.mp hx).1
      rw [List.getElem?_eq_getElem hi] at hu
      cases hu
      rw [List.drop_eq_getElem_cons hi] at ci
      have srt' : ∀ z ∈ l.drop (i + 1), l[i] ≤ z := by
        have := srt.sublist (List.drop_sublist i l)
        rw [List.drop_eq_getElem_cons hi] at this
        exact (List.pairwise_cons.mp this).1
      have nx := ci.step hf.asc hs.asc srt'
      generalize l[i] = x at nx ⊢
      have ha' := e _ _ ha
      have hb' := e _ _ hb
      -- the first one
      refine ⟨fun σ H2 => H2 = H' ∧ σ = [some (.ref a), some (.ref b), some (.ref c), some (.ref D), some (.int ((nxt f k1 x : Nat) : Int)), some (.int ((k2 : Nat) : Int)), some (.int x), v7], ?_, ?_⟩
      · refine ⟨_, rfl, _, rfl, a, _, rfl, .inl (SqL.of ha'), _, _, rfl, rfl, _, rfl, ?_⟩
        rw [List.length_map]
        refine ite2 (fun c1 => ?_) (fun c1 => ?_)
        · have h1 : k1 < f.length := by
            have := of_decide_eq_true c1
            omega
          refine ⟨_, rfl, _, rfl, a, _, _, _, rfl, rfl, SqL.of ha', atI_nat (by rw [List.getElem?_map, List.getElem?_eq_getElem h1]; rfl), _, rfl, rfl, _, rfl, ?_⟩
          refine ite2 (fun c2 => ?_) (fun c2 => ?_)
          · have h2 : f[k1]? = some x := by
              rw [List.getElem?_eq_getElem h1]
              have := of_decide_eq_true c2
              injection this with this
              rw [this]
            refine ⟨_, rfl, _, _, rfl, rfl, rfl, ?_⟩
            rw [nxt_yes h2]
            rfl
          · refine ⟨rfl, ?_⟩
            rw [nxt_no fun z => c2 (by rw [List.getElem?_eq_getElem h1] at z; rw [Option.some.inj z]; exact decide_eq_true rfl)]
            rfl
        · refine ⟨rfl, ?_⟩
          rw [nxt_no fun z => c1 (decide_eq_true (by have := (List.getElem?_eq_some_iff.mp z).1; omega))]
          rfl
      rintro σ H2 ⟨rfl, rfl⟩
      -- the second one
      refine ⟨fun σ H3 => H3 = H2 ∧ σ = [some (.ref a), some (.ref b), some (.ref c), some (.ref D), some (.int ((nxt f k1 x : Nat) : Int)), some (.int ((nxt s k2 x : Nat) : Int)), some (.int x), v7], ?_, ?_⟩
      · refine ⟨_, rfl, _, rfl, b, _, rfl, .inl (SqL.of hb'), _, _, rfl, rfl, _, rfl, ?_⟩
        rw [List.length_map]
        refine ite2 (fun c1 => ?_) (fun c1 => ?_)
        · have h1 : k2 < s.length := by
            have := of_decide_eq_true c1
            omega
          refine ⟨_, rfl, _, rfl, b, _, _, _, rfl, rfl, SqL.of hb', atI_nat (by rw [List.getElem?_map, List.getElem?_eq_getElem h1]; rfl), _, rfl, rfl, _, rfl, ?_⟩
          refine ite2 (fun c2 => ?_) (fun c2 => ?_)
          · have h2 : s[k2]? = some x := by
              rw [List.getElem?_eq_getElem h1]
              have := of_decide_eq_true c2
              injection this with this
              rw [this]
            refine ⟨_, rfl, _, _, rfl, rfl, rfl, ?_⟩
            rw [nxt_yes (f := s) (k := k2) h2]
            rfl
          · refine ⟨rfl, ?_⟩
            rw [nxt_no (f := s) (k := k2) fun z => c2 (by rw [List.getElem?_eq_getElem h1] at z; rw [Option.some.inj z]; exact decide_eq_true rfl)]
        · refine ⟨rfl, ?_⟩
          rw [nxt_no (f := s) (k := k2) fun z => c1 (decide_eq_true (by have := (List.getElem?_eq_some_iff.mp z).1; omega))]
      rintro σ H3 ⟨rfl, rfl⟩
      -- inside
      refine ⟨_, rfl, _, rfl, _, _, rfl, rfl, _, _, rfl, rfl, .inl ⟨by decide, by decide⟩, _, rfl, _, _, rfl, rfl, _, _, rfl, rfl, ?_⟩
      refine ⟨c, _, _, _, rfl, rfl, ex_t e hc, by rw [and_one, and_one]; exact kept_at kf _ _, ?_⟩
      refine ⟨_, rfl, _, rfl, D, _, rfl, .inl (SqL.of hD'), _, _, rfl, rfl, rfl, rfl, _, rfl, ?_⟩
      show (if (!decide (V.bl (kf (odd (nxt f k1 x)) (odd (nxt s k2 x))) = V.bl (decide (V.int (Builtin.bitAnd ((((es.map V.int).length : Nat) : Int)) 1) = V.int 1)))) = true then _ else _)
      rw [List.length_map, and_one, odd_eq, dec_ne]
      refine ite2 (fun c3 => ?_) (fun c3 => ?_)
      · have hne : kf (odd (nxt f k1 x)) (odd (nxt s k2 x)) ≠ odd es.length := fun z => by
          rw [z] at c3
          simp at c3
        rw [if_neg hne] at nx
        refine ⟨_, rfl, .inl ⟨rfl, _, SqL.of hD'⟩, _, rfl, D, _, _, rfl, rfl, hD', slineL2 (by rw [List.length_map]; omega), ?_⟩
        refine ⟨nxt f k1 x, nxt s k2 x, es ++ [x], _, _, rfl, e.mut hD, ?_, ?_, nx, by rw [List.length_append]; simp; omega⟩
        · rw [upd_same, List.map_append]
          rfl
        · rw [upd_ne hDp.symm]
          exact hp'
      · have heq : kf (odd (nxt f k1 x)) (odd (nxt s k2 x)) = odd es.length := by
          revert c3
          cases kf (odd (nxt f k1 x)) (odd (nxt s k2 x)) <;> cases odd es.length <;> simp
        rw [if_pos heq] at nx
        exact ⟨nxt f k1 x, nxt s k2 x, es, _, _, rfl, e, hD', hp', nx, by omega⟩
    · rintro σ H' ⟨k1, k2, es, v6, v7, rfl, e, hD', hp', ci, hel⟩
      rw [List.length_map] at ci hel
      rw [List.drop_length] at ci
      refine ⟨_, rfl, ?_⟩
      exact q D es H' hD e hD' (ci.done hk hf hs) (by omega)

abbrev s_combined_steps : Stmt := top 4
theorem sc_combined_steps : FnScope ["first", "second", "kept", "steps", "latest", "in_first", "in_second", "y", "edges", "step"] ["first", "second", "kept"] (defScope s_combined_steps) := ⟨rfl, rfl, rfl, by decide +kernel, rfl, by decide +kernel, by decide +kernel⟩
def spSteps (K : PySem.W.Frag) : Sp := fun vs H Q _ => ∃ a b c ua ub f s kf, vs = [.ref a, .ref b, .ref c] ∧ H a = some (.lst ua) ∧ StsV H ua f ∧ H b = some (.lst ub) ∧ StsV H ub s ∧ SqT K H c (keptV kf) ∧ kf false false = false ∧ VS f ∧ VS s ∧ f.length ≤ 2000000 ∧ s.length ≤ 2000000 ∧
  (∀ z ∈ f, z.2.length ≤ 2000000) ∧ (∀ z ∈ s, z.2.length ≤ 2000000) ∧
  ∀ p us rs H', H p = none → Ex H H' → H' p = some (.lst us) → StsV H' us rs → VS rs → (∀ y, Comb kf (eFrom [] f y) (eFrom [] s y) (eFrom [] rs y)) → rs.length ≤ f.length + s.length → Q (.ref p) H'
theorem ok_combined_steps {f : Addr} {fd : FuncData} (F : Fun K "_combined_steps" "_combined_steps" s_combined_steps f fd) (T : Txt K mg) (D_edges_behind : Def P w K mg base CX0 "_edges_behind" 1 ["steps", "passed"] spBehind) (D_combined_edges : Def P w K mg base CX0 "_combined_edges" 1 ["first", "second", "kept"] (spEdges K)) : FnOk P w K mg base CX0 2 f fd ["first", "second", "kept"] (spSteps K) := by
  refine F.ok sc_combined_steps (fun vs H Q E h => ?_) (fun cdv A outer s H vs Q E hr h => ?_)
  · obtain ⟨a, b, c, ua, ub, f, s, kf, rfl, _⟩ := h
    rfl
  · obtain ⟨a, b, c, ua, ub, f, s, kf, rfl, ha, hua, hb, hub, hc, hk, hf, hs, lf, ls, mf, ms, q⟩ := h
    refine ⟨_, (pss_cons (ps_set (i := 3) sc_combined_steps.nd rfl (by first | exact Or.inl rfl | exact Or.inr rfl) (pe_lst pa_nil))
      (pss_cons (ps_set (i := 4) sc_combined_steps.nd rfl (by first | exact Or.inl rfl | exact Or.inr rfl) (pe_lst pa_nil))
      (pss_cons (ps_asg2 pe_int (pg_name (i := 5) sc_combined_steps.nd rfl (by first | exact Or.inl rfl | exact Or.inr rfl)) (pg_name (i := 6) sc_combined_steps.nd rfl (by first | exact Or.inl rfl | exact Or.inr rfl)))
      (pss_cons (ps_for PassesOwn.never rfl (kpiL K (pe_callB (ksorted K) (by rfl) T.sorted_ bt_sorted (pa_cons (pe_lc (own := [("step", 9)]) (tt := tYes) rfl sc_combined_steps.nd (kpiL K (pe_op op_cat (pv 0) (pv 1))) (blkOk_by (N := ["first", "second", "kept", "steps", "latest", "in_first", "in_second", "y", "edges", "step"]) (sc := defScope s_combined_steps) (by decide +kernel)) (fun _ _ _ _ _ => (pg_name (i := 9) sc_combined_steps.nd rfl (by first | exact Or.inl rfl | exact Or.inr rfl))) (fun _ _ _ _ _ => pts_nil) (fun _ _ _ _ _ => (pe_ix (kixT K) (pv 9) pe_int (fun _ _ => rfl)))) pa_nil))) (pg_name (i := 7) sc_combined_steps.nd rfl (by first | exact Or.inl rfl | exact Or.inr rfl))
        (pss_cut (ps_if (PW.pt (pw_and (pt_cmpR op_lt (pv 5) (pe_callB (klen K) (by rfl) T.len_ PySem.boot_len (pa_cons (pv 0) pa_nil)) (nomark _)) (pw_and1 (pt_cmpR op_eq (pe_ix (kixT K) (pe_ix (kixL K) (pv 0) (pv 5) (fun _ _ => rfl)) pe_int (fun _ _ => rfl)) (pv 7) (nomark _)))))
          (pss_one (ps_aug (i := 5) sc_combined_steps.nd rfl (by first | exact Or.inl rfl | exact Or.inr rfl) pe_int ip_add))
          pss_nil)
        (pss_cut (ps_if (PW.pt (pw_and (pt_cmpR op_lt (pv 6) (pe_callB (klen K) (by rfl) T.len_ PySem.boot_len (pa_cons (pv 1) pa_nil)) (nomark _)) (pw_and1 (pt_cmpR op_eq (pe_ix (kixT K) (pe_ix (kixL K) (pv 1) (pv 6) (fun _ _ => rfl)) pe_int (fun _ _ => rfl)) (pv 7) (nomark _)))))
          (pss_one (ps_aug (i := 6) sc_combined_steps.nd rfl (by first | exact Or.inl rfl | exact Or.inr rfl) pe_int ip_add))
          pss_nil)
        (pss_cons (ps_set (i := 8) sc_combined_steps.nd rfl (by first | exact Or.inl rfl | exact Or.inr rfl) (pe_call D_combined_edges.ok (hr.mono (by decide)) rfl D_combined_edges.mgf D_combined_edges.kp D_combined_edges.b .nil pass0 (pa_cons (pe_call D_edges_behind.ok (hr.mono (by decide)) rfl D_edges_behind.mgf D_edges_behind.kp D_edges_behind.b .nil pass0 (pa_cons (pv 0) (pa_cons (pv 5) pa_nil))) (pa_cons (pe_call D_edges_behind.ok (hr.mono (by decide)) rfl D_edges_behind.mgf D_edges_behind.kp D_edges_behind.b .nil pass0 (pa_cons (pv 1) (pa_cons (pv 6) pa_nil))) (pa_cons (pv 2) pa_nil)))))
        (pss_one (ps_if (pt_cmpR (kneD K hr.units) (pv 8) (pv 4) (nomark _))
          (pss_cons (ps_expr (pe_bm PySem.F.plainAttrs_list PySem.F.slot_list_append PySem.F.type_list_append mt_append (pv 3) (pa_cons (pe_tup (pa_cons (pv 7) (pa_cons (pv 8) pa_nil))) pa_nil)))
          (pss_one (ps_set (i := 4) sc_combined_steps.nd rfl (by first | exact Or.inl rfl | exact Or.inr rfl) (pv 8))))
          pss_nil))))))
      (pss_one (ps_ret (pv 3))))))), ?_⟩
    have hal := hua.length
    have hbl := hub.length
    refine ⟨(by show 0 ≤ sizeLine; decide), fun D hD => ?_⟩
    have e1 := Ex.new (o := .lst []) hD
    have hD1 : upd H D (.lst []) D = some (.lst []) := upd_same
    generalize upd H D (.lst []) = H1 at e1 hD1
    refine ⟨(by show 0 ≤ sizeLine; decide), fun L0 hL0 => ?_⟩
    have e2 := Ex.new (o := .lst []) hL0
    have hD2 := e2 _ _ hD1
    have hL2 : upd H1 L0 (.lst []) L0 = some (.lst []) := upd_same
    have hLD : L0 ≠ D := fun z => by rw [z, hD1] at hL0; cases hL0
    generalize upd H1 L0 (.lst []) = H2 at e2 hD2 hL2
    have e12 := e1.trans e2
    refine ⟨_, rfl, _, rfl, a, b, _, _, rfl, rfl, e12 _ _ ha, e12 _ _ hb, sline2 (by omega), fun p1 hp1 => ?_⟩
    have e3 := Ex.new (o := .lst (ua ++ ub)) hp1
    have hp1' : upd H2 p1 (.lst (ua ++ ub)) p1 = some (.lst (ua ++ ub)) := upd_same
    have hD3 := e3 _ _ hD2
    have hL3 := e3 _ _ hL2
    have e13 := e12.trans e3
    generalize upd H2 p1 (.lst (ua ++ ub)) = H3 at e3 hp1' hD3 hL3 e13
    have hall : StsV H3 (ua ++ ub) (f ++ s) := pr_append (hua.ex e13) (hub.ex e13)
    have hlen := hall.length
    refine ⟨p1, rfl, ⟨_, SqL.of hp1'⟩, fun D2 hD2n => ?_⟩
    refine lc_list (K := K) (a := p1) (xs := ua ++ ub) (fun i H' => Ex H3 H' ∧ H' D2 = some (.lst (((ysOf (f ++ s)).take i).map V.int))) ⟨Ex.new hD2n, upd_same⟩ (fun i H' _ p => SqL.of (p.1 _ _ hp1')) ?_ ?_
    · rintro i u H' hu ⟨e, hW⟩
      obtain ⟨st, hst, p, L, rfl, h1, h2⟩ := pr_get hall hu
      refine ⟨rfl, ?_⟩
      refine lcY ?_
      refine ⟨_, rfl, p, _, _, _, rfl, rfl, SqT.of (e _ _ h1), rfl, ?_⟩
      refine ⟨_, hW, slineL2 (by rw [List.length_map, List.length_take, ysOf_len, List.length_append]; omega), e.mut hD2n, ?_⟩
      rw [upd_same, List.take_add_one, ysOf_get hst, List.map_append]
      rfl
    rintro H4 ⟨e4, hW4⟩
    rw [hlen, ← ysOf_len, List.take_length] at hW4
    refine ⟨D2, ysOf (f ++ s), rfl, SqL.of hW4, fun l p3 perm srt hp3 => ?_⟩
    have e5 := Ex.new (o := .lst (l.map V.int)) hp3
    have hp3' : upd H4 p3 (.lst (l.map V.int)) p3 = some (.lst (l.map V.int)) := upd_same
    have hD5 := e5 _ _ (e4 _ _ hD3)
    have hL5 := e5 _ _ (e4 _ _ hL3)
    have hDp : D ≠ p3 := fun z => by
      have h1 := e4 _ _ hD3
      rw [← z, h1] at hp3
      cases hp3
    have e15 := (e13.trans e4).trans e5
    generalize upd H4 p3 (.lst (l.map V.int)) = H5 at hp3' hD5 hL5 e15
    have hll : l.length = f.length + s.length := by rw [perm.length_eq, ysOf_len, List.length_append]
    refine ⟨p3, rfl, ⟨_, SqL.of hp3'⟩, ?_⟩
    refine for_list (K := K) (a := p3) (xs := l.map V.int) (fun i σ H' => ∃ k1 k2 rs lt us La v7 v8, σ = [some (.ref a), some (.ref b), some (.ref c), some (.ref D), some (.ref La), some (.int ((k1 : Nat) : Int)), some (.int ((k2 : Nat) : Int)), v7, v8, none] ∧ Ex H H' ∧ H' D = some (.lst us) ∧ Paired (StN D H') us rs ∧ H' p3 = some (.lst (l.map V.int)) ∧
        La ≠ D ∧ H' La = some (.lst ((lt : List Int).map V.int)) ∧ SI kf f s (l.drop i) k1 k2 rs lt ∧ rs.length ≤ i)
      ⟨0, 0, [], [], [], L0, _, _, rfl, e15, hD5, .nil, hp3', hLD, hL5, SI.start hk (fun e he => perm.mem_iff.mpr (by unfold ysOf at he ⊢; rw [List.map_append]; exact List.mem_append_left _ he)) (fun e he => perm.mem_iff.mpr (by unfold ysOf at he ⊢; rw [List.map_append]; exact List.mem_append_right _ he)), Nat.le_refl _⟩ (fun i σ H' _ p => by obtain ⟨_, _, _, _, _, _, _, _, _, _, _, _, h, _⟩ := p; exact SqL.of h) ?_ ?_
    · rintro i u σ H' hu ⟨k1, k2, rs, lt, us, La, v7, v8, rfl, e, hD', hus, hp', hLa, hlt, si, hrl⟩
      rw [List.getElem?_map] at hu
      have hi : i < l.length := by
        cases hx : l[i]? with
        | none => rw [hx] at hu; cases hu
        | some z => exact (List.getElem?_eq_some_iff.mp hx).1
      rw [List.getElem?_eq_getElem hi] at hu
      cases hu
      rw [List.drop_eq_getElem_cons hi] at si
      have srt' : ∀ z ∈ l.drop (i + 1), l[i] ≤ z := by
        have := srt.sublist (List.drop_sublist i l)
        rw [List.drop_eq_getElem_cons hi] at this
        exact (List.pairwise_cons.mp this).1
      have bh := si.behind hf hs srt'
      have nx := fun es => si.step (es := es) hf hs srt'
      generalize l[i] = y at nx bh ⊢
      have ha' := e _ _ ha
      have hb' := e _ _ hb
      have hua' := hua.ex e
      have hub' := hub.ex e
      -- the first one
      refine ⟨fun σ H2 => H2 = H' ∧ σ = [some (.ref a), some (.ref b), some (.ref c), some (.ref D), some (.ref La), some (.int ((nxt (ysOf f) k1 y : Nat) : Int)), some (.int ((k2 : Nat) : Int)), some (.int y), v8, none], ?_, ?_⟩
      · refine ⟨_, rfl, _, rfl, a, _, rfl, .inl (SqL.of ha'), _, _, rfl, rfl, _, rfl, ?_⟩
        rw [hal]
        refine ite2 (fun c1 => ?_) (fun c1 => ?_)
        · have h1 : k1 < f.length := by
            have := of_decide_eq_true c1
            omega
          obtain ⟨v, hv, p, L, rfl, h2, h3⟩ := pr_getR hua' (List.getElem?_eq_getElem h1)
          have hy := ysOf_get (List.getElem?_eq_getElem h1)
          refine ⟨_, rfl, _, rfl, a, _, _, _, rfl, rfl, SqL.of ha', atI_nat hv, ?_⟩
          refine ⟨p, _, _, _, rfl, rfl, SqT.of h2, rfl, _, rfl, rfl, _, rfl, ?_⟩
          refine ite2 (fun c2 => ?_) (fun c2 => ?_)
          · have h4 : (ysOf f)[k1]? = some y := by
              rw [hy]
              have := of_decide_eq_true c2
              injection this with this
              rw [this]
            refine ⟨_, rfl, _, _, rfl, rfl, rfl, ?_⟩
            rw [nxt_yes h4]
            rfl
          · refine ⟨rfl, ?_⟩
            rw [nxt_no (f := ysOf f) (k := k1) fun z => c2 (by rw [hy] at z; rw [Option.some.inj z]; exact decide_eq_true rfl)]
            rfl
        · refine ⟨rfl, ?_⟩
          rw [nxt_no (f := ysOf f) (k := k1) fun z => c1 (decide_eq_true (by have := (List.getElem?_eq_some_iff.mp z).1; rw [ysOf_len] at this; omega))]
          rfl
      rintro σ H2 ⟨rfl, rfl⟩
      -- the second one
      refine ⟨fun σ H3 => H3 = H2 ∧ σ = [some (.ref a), some (.ref b), some (.ref c), some (.ref D), some (.ref La), some (.int ((nxt (ysOf f) k1 y : Nat) : Int)), some (.int ((nxt (ysOf s) k2 y : Nat) : Int)), some (.int y), v8, none], ?_, ?_⟩
      · refine ⟨_, rfl, _, rfl, b, _, rfl, .inl (SqL.of hb'), _, _, rfl, rfl, _, rfl, ?_⟩
        rw [hbl]
        refine ite2 (fun c1 => ?_) (fun c1 => ?_)
        · have h1 : k2 < s.length := by
            have := of_decide_eq_true c1
            omega
          obtain ⟨v, hv, p, L, rfl, h2, h3⟩ := pr_getR hub' (List.getElem?_eq_getElem h1)
          have hy := ysOf_get (List.getElem?_eq_getElem h1)
          refine ⟨_, rfl, _, rfl, b, _, _, _, rfl, rfl, SqL.of hb', atI_nat hv, ?_⟩
          refine ⟨p, _, _, _, rfl, rfl, SqT.of h2, rfl, _, rfl, rfl, _, rfl, ?_⟩
          refine ite2 (fun c2 => ?_) (fun c2 => ?_)
          · have h4 : (ysOf s)[k2]? = some y := by
              rw [hy]
              have := of_decide_eq_true c2
              injection this with this
              rw [this]
            refine ⟨_, rfl, _, _, rfl, rfl, rfl, ?_⟩
            rw [nxt_yes (f := ysOf s) (k := k2) h4]
            rfl
          · refine ⟨rfl, ?_⟩
            rw [nxt_no (f := ysOf s) (k := k2) fun z => c2 (by rw [hy] at z; rw [Option.some.inj z]; exact decide_eq_true rfl)]
        · refine ⟨rfl, ?_⟩
          rw [nxt_no (f := ysOf s) (k := k2) fun z => c1 (decide_eq_true (by have := (List.getElem?_eq_some_iff.mp z).1; rw [ysOf_len] at this; omega))]
      rintro σ H3 ⟨rfl, rfl⟩
      -- the edges
      have le1 : nxt (ysOf f) k1 y ≤ f.length := by rw [bh.1, ← ysOf_len]; exact cnt_le _ _
      have le2 : nxt (ysOf s) k2 y ≤ s.length := by rw [bh.2, ← ysOf_len]; exact cnt_le _ _
      have ev1 : EvE (eb f (nxt (ysOf f) k1 y)) := by rw [bh.1, eb_at hf.asc]; exact eFrom_ev EvE.nil hf.ev
      have ev2 : EvE (eb s (nxt (ysOf s) k2 y)) := by rw [bh.2, eb_at hs.asc]; exact eFrom_ev EvE.nil hs.ev
      refine ⟨_, rfl, _, rfl, a, ua, f, _, rfl, ha', hua', le1, fun L1 G1 f1 hL1 => ?_⟩
      refine ⟨_, rfl, _, rfl, b, ub, s, _, rfl, f1 _ _ hb', hub'.ex f1, le2, fun L2 G2 f2 hL2 => ?_⟩
      have f12 := f1.trans f2
      refine ⟨_, rfl, L1, L2, c, _, _, kf, rfl, f2 _ _ hL1, hL2, ex_t (e.trans f12) hc, hk, ev1, ev2, by have := eb_len mf (nxt (ysOf f) k1 y); omega, by have := eb_len ms (nxt (ysOf s) k2 y); omega, fun pe es G3 hpe f3 hes comb hel => ?_⟩
      have f13 := f12.trans f3
      have nx := nx es comb
      have hpD : pe ≠ D := fun z => by
        rw [z, f12 _ _ hD'] at hpe
        cases hpe
      refine ⟨_, rfl, _, rfl, _, _, dp_il hes, dp_il (f13 _ _ hlt), eqs_int.lst.shaped (by decide) _, eqs_int.lst.shaped (by decide) _, _, rfl, ?_⟩
      rw [eqs_int.lst.1]
      have hus3 : Paired (StN D G3) us rs := Paired.mapP hus fun _ _ => StN.ex f13
      refine ite2 (fun c3 => ?_) (fun c3 => ?_)
      · have hne : es ≠ lt := fun z => by
          rw [decide_eq_true z] at c3
          cases c3
        rw [if_neg hne] at nx
        refine ⟨_, rfl, .inl ⟨rfl, _, SqL.of (f13 _ _ hD')⟩, _, rfl, _, rfl, (by show 2 ≤ sizeLine; decide), fun p5 hp5 => ?_⟩
        have f4 := Ex.new (o := .tup [.int y, .ref pe]) hp5
        have hp5' : upd G3 p5 (.tup [.int y, .ref pe]) p5 = some (.tup [.int y, .ref pe]) := upd_same
        generalize upd G3 p5 (.tup [.int y, .ref pe]) = G4 at f4 hp5'
        have hD4 := f4 _ _ (f13 _ _ hD')
        have hul := hus.length
        refine ⟨D, us, _, rfl, rfl, hD4, slineL2 (by omega), ?_⟩
        refine ⟨_, rfl, ?_⟩
        have hus4 : Paired (StN D G4) us rs := Paired.mapP hus3 fun _ _ => StN.ex f4
        refine ⟨nxt (ysOf f) k1 y, nxt (ysOf s) k2 y, rs ++ [(y, es)], es, us ++ [.ref p5], pe, _, _, rfl, ((e.trans f13).trans f4).mut hD, upd_same, ?_, ?_, hpD, ?_, nx, by rw [List.length_append]; simp; omega⟩
        · exact (Paired.mapP hus4 fun _ _ => StN.mut hD4).snoc (StN.mut hD4 ⟨p5, pe, rfl, hp5', hpD, f4 _ _ hes⟩)
        · rw [upd_ne hDp.symm]
          exact f4 _ _ (f13 _ _ hp')
        · rw [upd_ne hpD]
          exact f4 _ _ hes
      · have heq : es = lt := by
          revert c3
          by_cases z : es = lt
          · exact fun _ => z
          · rw [decide_eq_false z]
            exact fun c => absurd rfl c
        rw [if_pos heq] at nx
        rw [heq] at nx
        exact ⟨nxt (ysOf f) k1 y, nxt (ysOf s) k2 y, rs, lt, us, La, _, _, rfl, e.trans f13, f13 _ _ hD', hus3, f13 _ _ hp', hLa, f13 _ _ hlt, nx, by omega⟩
    · rintro σ H' ⟨k1, k2, rs, lt, us, La, v7, v8, rfl, e, hD', hus, hp', hLa, hlt, si, hrl⟩
      rw [List.length_map] at si hrl
      rw [List.drop_length] at si
      obtain ⟨v, cmb⟩ := si.done hk hf hs
      refine ⟨_, rfl, ?_⟩
      exact q D us rs H' hD e hD' (Paired.mapP hus fun _ _ => StN.st) v cmb (by omega)

abbrev s_bands_of : Stmt := top 8
theorem sc_bands_of : FnScope ["steps", "place", "top", "edges"] ["steps"] (defScope s_bands_of) := ⟨rfl, rfl, rfl, by decide +kernel, rfl, by decide +kernel, by decide +kernel⟩
/-- a band: its rows, its runs -/
def BaV (H : Hp) (v : V) (d : Bd) : Prop := ∃ p L ts, v = .ref p ∧ H p = some (.tup [.int d.t, .int d.b, .ref L]) ∧ H L = some (.lst ts) ∧ PtsV H ts d.rs
theorem BaV.ex {H H' : Hp} {v : V} {d : Bd} (e : Ex H H') (h : BaV H v d) : BaV H' v d := by
  obtain ⟨p, L, ts, rfl, h1, h2, h3⟩ := h
  exact ⟨p, L, ts, rfl, e _ _ h1, e _ _ h2, h3.tk (TK.ex e)⟩
def BaN (D : Addr) (H : Hp) (v : V) (d : Bd) : Prop := ∃ p L ts, v = .ref p ∧ H p = some (.tup [.int d.t, .int d.b, .ref L]) ∧ L ≠ D ∧ H L = some (.lst ts) ∧ PtsV H ts d.rs
theorem BaN.step {D : Addr} {H H' : Hp} {xs : List V} {o : HO} {v : V} {d : Bd} (h : BaN D H v d) (e : Ex H H') (hD : H' D = some (.lst xs)) : BaN D (upd H' D o) v d := by
  obtain ⟨p, L, ts, rfl, h1, n, h2, h3⟩ := h
  refine ⟨p, L, ts, rfl, TK.lst hD _ _ (e _ _ h1), n, ?_, (h3.tk (TK.ex e)).tk (TK.lst hD)⟩
  rw [upd_ne n]
  exact e _ _ h2
theorem BaN.st {D : Addr} {H : Hp} {v : V} {d : Bd} (h : BaN D H v d) : BaV H v d := by
  obtain ⟨p, L, ts, rfl, h1, n, h2, h3⟩ := h
  exact ⟨p, L, ts, rfl, h1, h2, h3⟩
/-- all the bands between the steps, those without runs, too -/
def bandsA : List Stp → List Bd
  | s :: r :: t => ⟨s.1, r.1, pairs s.2⟩ :: bandsA (r :: t)
  | _ => []
theorem bandsA_get : ∀ {ss : List Stp} {i : Nat} {s r : Stp}, ss[i]? = some s → ss[i + 1]? = some r → (bandsA ss)[i]? = some ⟨s.1, r.1, pairs s.2⟩
  | [], i, s, r, h, _ => by simp at h
  | [x], i, s, r, _, h => by simp at h
  | x :: y :: t, 0, s, r, h, k => by
    simp at h k
    subst h k
    rfl
  | x :: y :: t, i + 1, s, r, h, k => by
    have ih := bandsA_get (ss := y :: t) (i := i) (s := s) (r := r) (by simpa using h) (by simpa using k)
    simpa [bandsA] using ih
theorem bandsA_len : ∀ ss : List Stp, (bandsA ss).length = ss.length - 1
  | [] => rfl
  | [_] => rfl
  | x :: y :: t => by
    have ih := bandsA_len (y :: t)
    simp only [bandsA, List.length_cons] at ih ⊢
    omega
theorem bandsA_form : ∀ ss : List Stp, formOf (bandsA ss) = formOf (bandsP ss)
  | [] => rfl
  | [_] => rfl
  | x :: y :: t => by
    have ih := bandsA_form (y :: t)
    unfold formOf at ih ⊢
    show bandRc ⟨x.1, y.1, pairs x.2⟩ ++ List.flatMap bandRc (bandsA (y :: t)) = List.flatMap bandRc (if x.2 = [] then bandsP (y :: t) else ⟨x.1, y.1, pairs x.2⟩ :: bandsP (y :: t))
    rw [ih]
    by_cases c : x.2 = []
    · rw [if_pos c, c]
      rfl
    · rw [if_neg c, List.flatMap_cons]
def spBands (K : PySem.W.Frag) : Sp := fun vs H Q _ => ∃ a us ss, vs = [.ref a] ∧ H a = some (.lst us) ∧ StsV H us ss ∧ ss.length ≤ 4000000 ∧ (∀ z ∈ ss, z.2.length % 2 = 0) ∧
  ∀ p ws H', H p = none → Ex H H' → H' p = some (.lst ws) → Paired (BaV H') ws (bandsA ss) → Q (.ref p) H'
theorem cut_last {xs : List V} : cutV xs none (some (-1)) = xs.take (xs.length - 1) := by
  unfold cutV
  have e : HT.sIx xs.length xs.length (some (-1)) = xs.length - 1 := by
    show (if (-1 : Int) < 0 then ((-1 : Int) + (xs.length : Int)).toNat else min (-1 : Int).toNat xs.length) = xs.length - 1
    rw [if_pos (by decide)]
    omega
  rw [e]
  rfl
theorem pts_of {H : Hp} : ∀ {ts : List Addr} {qs : List Pt}, Paired (fun (t : Addr) (q : V × V) => H t = some (.tup [q.1, q.2])) ts (qs.map fun q => (V.int q.1, V.int q.2)) → PtsV H (ts.map V.ref) qs
  | [], [], _ => .nil
  | t :: ts, q :: qs, .cons h k => .cons ⟨t, rfl, h⟩ (pts_of k)
theorem ok_bands_of {f : Addr} {fd : FuncData} (F : Fun K "_bands_of" "_bands_of" s_bands_of f fd) (T : Txt K mg) : FnOk P w K mg base CX0 1 f fd ["steps"] (spBands K) := by
  refine F.ok sc_bands_of (fun vs H Q E h => ?_) (fun cdv A outer s H vs Q E hr h => ?_)
  · obtain ⟨a, us, ss, rfl, _⟩ := h
    rfl
  · obtain ⟨a, us, ss, rfl, ha, hu, hn, hev, q⟩ := h
    refine ⟨_, (pss_one (ps_ret (pe_lc (own := [("place", 1), ("top", 2), ("edges", 3)]) (tt := tYes) rfl sc_bands_of.nd (kpiE K (by rfl) T.enumerate_ (pa_cons (pe_slice (kslL K) (pv 0) po_none (po_some (pe_un un_neg pe_int))) pa_nil)) (blkOk_by (N := ["steps", "place", "top", "edges"]) (sc := defScope s_bands_of) (by decide +kernel)) (fun _ _ _ _ _ => (kpgT K (n := 2) rfl (pgs_cons (pg_name (i := 1) sc_bands_of.nd rfl (by first | exact Or.inl rfl | exact Or.inr rfl)) (pgs_cons (kpgT K (n := 2) rfl (pgs_cons (pg_name (i := 2) sc_bands_of.nd rfl (by first | exact Or.inl rfl | exact Or.inr rfl)) (pgs_cons (pg_name (i := 3) sc_bands_of.nd rfl (by first | exact Or.inl rfl | exact Or.inr rfl)) pgs_nil))) pgs_nil)))) (fun _ _ _ _ _ => pts_nil) (fun _ _ _ _ _ => (pe_tup (pa_cons (pv 2) (pa_cons (pe_ix (kixT K) (pe_ix (kixL K) (pv 0) (pe_op op_add (pv 1) pe_int) (fun _ _ => rfl)) pe_int (fun _ _ => rfl)) (pa_cons (pe_listZip K rfl (by rfl) T.list_ bt_list (by rfl) T.zip_ (pa_cons (pe_ev K (pv 3)) (pa_cons (pe_od K (pv 3)) pa_nil))) pa_nil)))))))), ?_⟩
    have hlen := hu.length
    refine ⟨_, rfl, _, rfl, _, rfl, a, us, rfl, SqL.of ha, fun p1 hp1 => ?_⟩
    rw [cut_last]
    have e1 := Ex.new (o := .lst (us.take (us.length - 1))) hp1
    have hp1' : upd H p1 (.lst (us.take (us.length - 1))) p1 = some (.lst (us.take (us.length - 1))) := upd_same
    generalize upd H p1 (.lst (us.take (us.length - 1))) = H1 at e1 hp1'
    have ha1 := e1 _ _ ha
    have hu1 := hu.ex e1
    refine ⟨p1, _, rfl, SqL.of hp1', fun D hD => ?_⟩
    have hbl := bandsA_len ss
    refine lc_it (walk_enum (K := K) (a := p1) (xs := us.take (us.length - 1))) (fun i H' => Ex H1 H' ∧ ∃ ws, H' D = some (.lst ws) ∧ Paired (BaN D H') ws ((bandsA ss).take i)) ⟨Ex.new hD, [], upd_same, .nil⟩ (fun i H' _ p => SqL.of (p.1 _ _ hp1')) ?_ ?_
    · rintro i x H2 H3 hi ⟨e2, ws, hW, hP⟩ ⟨T, x', y', rfl, hT, rfl, hx', hy'⟩
      cases hx'
      rw [List.length_take] at hi
      have hi1 : i < ss.length := by omega
      have hi2 : i + 1 < ss.length := by omega
      obtain ⟨v, hv, p, L, rfl, h1, h2⟩ := pr_getR hu1 (List.getElem?_eq_getElem hi1)
      obtain ⟨v2, hv2, p2, L2, rfl, h3, h4⟩ := pr_getR hu1 (List.getElem?_eq_getElem hi2)
      have hy' : (us.take (us.length - 1))[i]? = some y' := hy'
      rw [List.getElem?_take_of_lt (by omega), hv] at hy'
      cases hy'
      have hg := bandsA_get (List.getElem?_eq_getElem hi1) (List.getElem?_eq_getElem hi2)
      have hE := hev _ (List.getElem_mem hi1)
      generalize ss[i] = s1 at h1 h2 hg hE
      generalize ss[i + 1] = s2 at h3 h4 hg
      have f1 := Ex.new (o := .tup [.int (i : Nat), .ref p]) hT
      have hT1 : upd H2 T (.tup [.int (i : Nat), .ref p]) T = some (.tup [.int (i : Nat), .ref p]) := upd_same
      generalize upd H2 T (.tup [.int (i : Nat), .ref p]) = H3 at f1 hT1
      have e3 := e2.trans f1
      refine ⟨T, _, rfl, SqT.of hT1, rfl, _, _, rfl, _, _, rfl, p, _, rfl, SqT.of (e3 _ _ h1), rfl, _, _, rfl, _, _, rfl, rfl, rfl, ?_⟩
      refine ⟨rfl, ?_⟩
      refine lcY ?_
      refine ⟨_, rfl, ?_⟩
      refine ⟨_, rfl, _, rfl, _, _, rfl, rfl, a, us, _, .ref p2, rfl, rfl, SqL.of (e3 _ _ ha1), (by rw [show ((i : Nat) : Int) + 1 = ((i + 1 : Nat) : Int) by omega]; exact atI_nat hv2), p2, _, _, _, rfl, rfl, SqT.of (e3 _ _ h3), rfl, ?_⟩
      refine ⟨_, rfl, L, _, rfl, SqL.of (e3 _ _ h2), fun q1 hq1 => ?_⟩
      have f2 := Ex.new (o := .lst (evs (s1.2.map V.int))) hq1
      have hq1' : upd H3 q1 (.lst (evs (s1.2.map V.int))) q1 = _ := upd_same
      generalize upd H3 q1 (.lst (evs (s1.2.map V.int))) = H4 at f2 hq1'
      refine ⟨_, rfl, L, _, rfl, SqL.of (f2 _ _ (e3 _ _ h2)), fun q2 hq2 => ?_⟩
      have f3 := Ex.new (o := .lst (ods (s1.2.map V.int))) hq2
      have hq2' : upd H4 q2 (.lst (ods (s1.2.map V.int))) q2 = _ := upd_same
      generalize upd H4 q2 (.lst (ods (s1.2.map V.int))) = H5 at f3 hq2'
      refine ⟨q1, q2, _, _, rfl, SqL.of (f3 _ _ hq1'), SqL.of hq2', fun H6 p6 ts f4 hp6 hz hts => ?_⟩
      rw [zip_pairs hE] at hts
      have hts := pts_of hts
      refine ⟨(by show 3 ≤ sizeLine; decide), fun p7 hp7 => ?_⟩
      have f5 := Ex.new (o := .tup [.int s1.1, .int s2.1, .ref p6]) hp7
      have hp7' : upd H6 p7 (.tup [.int s1.1, .int s2.1, .ref p6]) p7 = some (.tup [.int s1.1, .int s2.1, .ref p6]) := upd_same
      generalize upd H6 p7 (.tup [.int s1.1, .int s2.1, .ref p6]) = H7 at f5 hp7'
      have f25 := ((f2.trans f3).trans f4).trans f5
      have hwl := hP.length
      rw [List.length_take] at hwl
      refine ⟨ws, f25 _ _ (f1 _ _ hW), slineL2 (by omega), ?_⟩
      have fin1 := e3.trans f25
      have hD7 := f25 _ _ (f1 _ _ hW)
      have pD : p6 ≠ D := fun z => by
        have h := (f2.trans f3) _ _ (f1 _ _ hW)
        rw [← z, hp6] at h
        cases h
      refine ⟨fin1.mut hD, ws ++ [.ref p7], upd_same, ?_⟩
      rw [List.take_add_one, hg]
      refine (Paired.mapP hP fun _ _ h => BaN.step h (f1.trans f25) hD7).snoc ⟨p7, p6, ts.map V.ref, rfl, TK.lst hD7 _ _ hp7', pD, ?_, ?_⟩
      · rw [upd_ne pD]
        exact f5 _ _ hz
      · exact (hts.tk (TK.ex f5)).tk (TK.lst hD7)
    · rintro H2 ⟨e2, ws, hW, hP⟩
      rw [List.length_take, List.take_of_length_le (by omega)] at hP
      exact q D ws H2 (ex_free e1 hD) (e1.trans e2) hW (Paired.mapP hP fun _ _ => BaN.st)

abbrev s_rectangles_of : Stmt := top 9
theorem sc_rectangles_of : FnScope ["steps", "top", "bottom", "runs", "left", "right"] ["steps"] (defScope s_rectangles_of) := ⟨rfl, rfl, rfl, by decide +kernel, rfl, by decide +kernel, by decide +kernel⟩
def spRectsOf (K : PySem.W.Frag) : Sp := fun vs H Q _ => ∃ a us ss, vs = [.ref a] ∧ H a = some (.lst us) ∧ StsV H us ss ∧ ss.length ≤ 4000000 ∧ (∀ z ∈ ss, z.2.length % 2 = 0) ∧ (formOf (bandsP ss)).length ≤ 4000000 ∧
  ∀ p ws H', H p = none → Ex H H' → H' p = some (.lst ws) → RcsV H' ws (formOf (bandsP ss)) → Q (.ref p) H'
theorem ok_rectangles_of {f : Addr} {fd : FuncData} (F : Fun K "_rectangles_of" "_rectangles_of" s_rectangles_of f fd) (T : Txt K mg) (D_bands_of : Def P w K mg base CX0 "_bands_of" 1 ["steps"] (spBands K)) : FnOk P w K mg base CX0 2 f fd ["steps"] (spRectsOf K) := by
  refine F.ok sc_rectangles_of (fun vs H Q E h => ?_) (fun cdv A outer s H vs Q E hr h => ?_)
  · obtain ⟨a, us, ss, rfl, _⟩ := h
    rfl
  · obtain ⟨a, us, ss, rfl, ha, hu, hn, hev, hfl, q⟩ := h
    refine ⟨_, (pss_one (ps_ret (pe_lc2 (own := [("top", 1), ("bottom", 2), ("runs", 3), ("left", 4), ("right", 5)]) (vs1 := [4, 5]) rfl sc_rectangles_of.nd (kpiL K (pe_call D_bands_of.ok (hr.mono (by decide)) rfl D_bands_of.mgf D_bands_of.kp D_bands_of.b .nil pass0 (pa_cons (pv 0) pa_nil))) (blkOk_by (N := ["steps", "top", "bottom", "runs", "left", "right"]) (sc := defScope s_rectangles_of) (by decide +kernel)) (by decide) (fun _ _ _ _ _ => (kpgT K (n := 3) rfl (pgs_cons (pg_name (i := 1) sc_rectangles_of.nd rfl (by first | exact Or.inl rfl | exact Or.inr rfl)) (pgs_cons (pg_name (i := 2) sc_rectangles_of.nd rfl (by first | exact Or.inl rfl | exact Or.inr rfl)) (pgs_cons (pg_name (i := 3) sc_rectangles_of.nd rfl (by first | exact Or.inl rfl | exact Or.inr rfl)) pgs_nil))))) (fun _ _ _ _ _ => pts_nil) (fun _ _ _ _ _ => (kpiL K (pv 3))) (fun _ _ _ _ _ => (kpgT K (n := 2) rfl (pgs_cons (pg_name (i := 4) sc_rectangles_of.nd rfl (by first | exact Or.inl rfl | exact Or.inr rfl)) (pgs_cons (pg_name (i := 5) sc_rectangles_of.nd rfl (by first | exact Or.inl rfl | exact Or.inr rfl)) pgs_nil)))) (fun _ _ _ _ _ => pts_nil) (fun _ _ _ _ _ => (pe_tup (pa_cons (pv 4) (pa_cons (pv 1) (pa_cons (pv 5) (pa_cons (pv 2) pa_nil))))))))), ?_⟩
    rw [← bandsA_form] at hfl q
    refine ⟨_, rfl, a, us, ss, rfl, ha, hu, hn, hev, fun p1 us1 H1 hp1n e1 hp1 hB => ?_⟩
    have hbl := hB.length
    refine ⟨p1, rfl, ⟨_, SqL.of hp1⟩, fun D hD => ?_⟩
    refine turns (walk_list (K := K) (a := p1) (xs := us1)) (fun i H' => Ex H1 H' ∧ ∃ ws, H' D = some (.lst ws) ∧ RcsV H' ws (formOf ((bandsA ss).take i))) ⟨Ex.new hD, [], upd_same, .nil⟩ (fun i H' _ p => SqL.of (p.1 _ _ hp1)) ?_ ?_
    · rintro i u H2 H3 hi ⟨e2, ws, hW, hP⟩ ⟨rfl, hui⟩
      obtain ⟨d, hd, p, L, ts, rfl, h1, h2, h3⟩ := pr_get hB hui
      refine ⟨p, _, rfl, SqT.of (e2 _ _ h1), rfl, _, _, rfl, _, _, rfl, _, _, rfl, rfl, ?_⟩
      refine ⟨rfl, ?_⟩
      refine lcY ?_
      have hform : formOf ((bandsA ss).take (i + 1)) = formOf ((bandsA ss).take i) ++ bandRc d := by
        rw [List.take_add_one, hd]
        unfold formOf
        rw [List.flatMap_append]
        show _ ++ List.flatMap bandRc [d] = _
        rw [List.flatMap_cons, List.flatMap_nil, List.append_nil]
      have hfle : (formOf ((bandsA ss).take (i + 1))).length ≤ 4000000 := by
        refine Nat.le_trans ?_ hfl
        have e : bandsA ss = (bandsA ss).take (i + 1) ++ (bandsA ss).drop (i + 1) := (List.take_append_drop _ _).symm
        have e2 : formOf (bandsA ss) = formOf ((bandsA ss).take (i + 1)) ++ formOf ((bandsA ss).drop (i + 1)) := by
          unfold formOf
          rw [← List.flatMap_append, ← e]
        rw [e2, List.length_append]
        omega
      rw [hform, List.length_append] at hfle
      have hbr : (bandRc d).length = d.rs.length := List.length_map _
      refine ⟨_, rfl, L, rfl, ⟨_, SqL.of (e2 _ _ h2)⟩, ?_⟩
      refine turns (walk_list (K := K) (a := L) (xs := ts)) (fun j H' => Ex H1 H' ∧ ∃ ws, H' D = some (.lst ws) ∧ RcsV H' ws (formOf ((bandsA ss).take i) ++ (bandRc d).take j)) ⟨e2, ws, hW, by rw [List.take_zero, List.append_nil]; exact hP⟩ (fun i H' _ p => SqL.of (p.1 _ _ h2)) ?_ ?_
      · rintro j v H3 H4 hj ⟨e3, ws, hW, hP⟩ ⟨rfl, hvj⟩
        obtain ⟨z, hz, pz, rfl, hpz⟩ := pr_get h3 hvj
        refine ⟨pz, _, rfl, SqT.of (e3 _ _ hpz), rfl, _, _, rfl, _, _, rfl, rfl, ?_⟩
        refine ⟨rfl, ?_⟩
        refine lcY ?_
        refine ⟨_, rfl, _, rfl, _, rfl, _, rfl, (by show 4 ≤ sizeLine; decide), fun p4 hp4 => ?_⟩
        have f1 := Ex.new (o := .tup [.int z.1, .int d.t, .int z.2, .int d.b]) hp4
        have hp4' : upd H4 p4 (.tup [.int z.1, .int d.t, .int z.2, .int d.b]) p4 = some (.tup [.int z.1, .int d.t, .int z.2, .int d.b]) := upd_same
        generalize upd H4 p4 (.tup [.int z.1, .int d.t, .int z.2, .int d.b]) = H5 at f1 hp4'
        have hwl := hP.length
        rw [List.length_append, List.length_take] at hwl
        have hD5 := f1 _ _ hW
        refine ⟨ws, hD5, slineL2 (by omega), (e3.trans f1).mut hD, ws ++ [.ref p4], upd_same, ?_⟩
        have hb : (bandRc d)[j]? = some ⟨z.1, d.t, z.2, d.b⟩ := by
          unfold bandRc
          rw [List.getElem?_map, hz]
          rfl
        rw [List.take_add_one, hb, ← List.append_assoc]
        exact ((hP.tk (TK.ex f1)).tk (TK.lst hD5)).snoc ⟨p4, rfl, TK.lst hD5 _ _ hp4'⟩
      · rintro H3 ⟨e3, ws, hW, hP⟩
        rw [h3.length, ← hbr, List.take_length, ← hform] at hP
        exact ⟨e3, ws, hW, hP⟩
    · rintro H2 ⟨e2, ws, hW, hP⟩
      rw [hbl, List.take_length] at hP
      exact q D ws H2 (ex_free e1 hD) (e1.trans e2) hW hP

abbrev s_combined_regions : Stmt := top 3
theorem sc_combined_regions : FnScope ["first", "second", "kept"] ["first", "second", "kept"] (defScope s_combined_regions) := ⟨rfl, rfl, rfl, by decide +kernel, rfl, by decide +kernel, by decide +kernel⟩
def spCombined (K : PySem.W.Frag) : Sp := fun vs H Q _ => ∃ (a b c : Addr) (ua ub : List V) (f g due : List Rc) (kf : Bool → Bool → Bool) (S R U : Int → Int → Prop), vs = [.ref a, .ref b, .ref c] ∧ SqL K H a ua ∧ RcsV H ua f ∧ IsForm S f ∧ f.length ≤ 500000 ∧ SqL K H b ub ∧ RcsV H ub g ∧ IsForm R g ∧ g.length ≤ 500000 ∧
  SqT K H c (keptV kf) ∧ kf false false = false ∧ (∀ x y a b, (a = true ↔ S x y) → (b = true ↔ R x y) → (kf a b = true ↔ U x y)) ∧ IsForm U due ∧ due.length ≤ 500000 ∧
  ∀ p ws H', H p = none → Ex H H' → H' p = some (.lst ws) → RcsV H' ws due → Q (.ref p) H'
theorem ok_combined_regions {f : Addr} {fd : FuncData} (F : Fun K "_combined_regions" "_combined_regions" s_combined_regions f fd) (T : Txt K mg) (D_rectangles_of : Def P w K mg base CX0 "_rectangles_of" 2 ["steps"] (spRectsOf K))
    (D_combined_steps : Def P w K mg base CX0 "_combined_steps" 2 ["first", "second", "kept"] (spSteps K)) (D_steps_of : Def P w K mg base CX0 "_steps_of" 1 ["rectangles"] (spStepsOf K)) : FnOk P w K mg base CX0 3 f fd ["first", "second", "kept"] (spCombined K) := by
  refine F.ok sc_combined_regions (fun vs H Q E h => ?_) (fun cdv A outer s H vs Q E hr h => ?_)
  · obtain ⟨a, b, c, ua, ub, f, g, due, kf, S, R, U, rfl, _⟩ := h
    rfl
  · obtain ⟨a, b, c, ua, ub, f, g, due, kf, S, R, U, rfl, ha, hua, hS, lf, hb, hub, hR, lg, hc, hk0, hk, hU, ld, q⟩ := h
    refine ⟨_, (pss_one (ps_ret (pe_call D_rectangles_of.ok (hr.mono (by decide)) rfl D_rectangles_of.mgf D_rectangles_of.kp D_rectangles_of.b .nil pass0 (pa_cons (pe_call D_combined_steps.ok (hr.mono (by decide)) rfl D_combined_steps.mgf D_combined_steps.kp D_combined_steps.b .nil pass0 (pa_cons (pe_call D_steps_of.ok (hr.mono (by decide)) rfl D_steps_of.mgf D_steps_of.kp D_steps_of.b .nil pass0 (pa_cons (pv 0) pa_nil)) (pa_cons (pe_call D_steps_of.ok (hr.mono (by decide)) rfl D_steps_of.mgf D_steps_of.kp D_steps_of.b .nil pass0 (pa_cons (pv 1) pa_nil)) (pa_cons (pv 2) pa_nil)))) pa_nil)))), ?_⟩
    refine ⟨_, rfl, a, ua, f, rfl, ha, hua, by omega, fun p1 w1 H1 hp1 e1 h1 s1 l1 m1 => ?_⟩
    refine ⟨_, rfl, b, ub, g, rfl, ex_l e1 hb, hub.tk (TK.ex e1), by omega, fun p2 w2 H2 hp2 e2 h2 s2 l2 m2 => ?_⟩
    have e12 := e1.trans e2
    refine ⟨_, rfl, p1, p2, c, w1, w2, stepsF f, stepsF g, kf, rfl, e2 _ _ h1, s1.ex e2, h2, s2, ex_t e12 hc, hk0, (stepsF_ok hS).1, (stepsF_ok hR).1, by omega, by omega, fun z hz => by have := m1 z hz; omega, fun z hz => by have := m2 z hz; omega, fun p3 w3 rs H3 hp3 e3 h3 s3 v3 c3 l3 => ?_⟩
    have fm := comb_form hS hR v3 c3 hk
    have ed : formOf (bandsP rs) = due := form_uniq fm hU fun x y => Iff.rfl
    refine ⟨p3, w3, rs, rfl, h3, s3, by omega, fun z hz => (v3.ev z hz).even, by rw [ed]; omega, fun p4 w4 H4 hp4 e4 h4 r4 => ?_⟩
    rw [ed] at r4
    exact q p4 w4 H4 (ex_free (e12.trans e3) hp4) ((e12.trans e3).trans e4) h4 r4

abbrev s_union : Stmt := top 2
theorem sc_union : FnScope ["first", "second"] ["first", "second"] (defScope s_union) := ⟨rfl, rfl, rfl, by decide +kernel, rfl, by decide +kernel, by decide +kernel⟩
theorem ok_union {f : Addr} {fd : FuncData} (F : Fun K "union" "union" s_union f fd) (T : Txt K mg) (D_combined_regions : Def P w K mg base CX0 "_combined_regions" 3 ["first", "second", "kept"] (spCombined K)) : FnOk P w K mg base CX0 4 f fd ["first", "second"] (spTwo K fun a b => a ∨ b) := by
  refine F.ok sc_union (fun vs H Q E h => ?_) (fun cdv A outer s H vs Q E hr h => ?_)
  · obtain ⟨a, b, ua, ub, f, g, due, S, R, U, rfl, _⟩ := h
    rfl
  · obtain ⟨a, b, ua, ub, f, g, due, S, R, U, rfl, ha, hua, hS, lf, hb, hub, hR, lg, hk, hU, ld, q⟩ := h
    refine ⟨_, (pss_one (ps_ret (pe_call D_combined_regions.ok (hr.mono (by decide)) rfl D_combined_regions.mgf D_combined_regions.kp D_combined_regions.b .nil pass0 (pa_cons (pv 0) (pa_cons (pv 1) (pa_cons (pe_glob (v := .ref T._EITHER_.choose) rfl T._EITHER_.choose_spec.1 rfl) pa_nil)))))), ?_⟩
    refine ⟨_, rfl, _, rfl, a, b, _, ua, ub, f, g, due, fun a b => a || b, S, R, U, rfl, ha, hua, hS, lf, hb, hub, hR, lg, T._EITHER_.choose_spec.2 H, rfl, fun x y a b h1 h2 => ?_, hU, ld, q⟩
    rw [hk, ← h1, ← h2]
    cases a <;> cases b <;> simp

abbrev s_l_is : Stmt := top 18
theorem sc_l_is : FnScope ["actual", "due", "k"] ["actual", "due"] (defScope s_l_is) := ⟨rfl, rfl, rfl, by decide +kernel, rfl, by decide +kernel, by decide +kernel⟩
def spIs (n : Nat) : Sp := fun vs H Q _ => ∃ v w d, vs = [v, w] ∧ Da H v d ∧ Da H w d ∧ d.canLay0 = true ∧ d.depth < n ∧ d.depth ≤ 64 ∧ Q (.bl true) H
theorem not_same (b : Bool) : (!decide (V.bl b = V.bl b)) = false := by simp
theorem ok_l_is_n {f : Addr} {fd : FuncData} (F : Fun K "_law_is" "_law_is" s_l_is f fd) (T : Txt K mg) (mgf : mg "_law_is" = some (.ref f)) (b : L2.Binds K fd ["actual", "due"] []) : ∀ n, FnOk P w K mg base CX0 n f fd ["actual", "due"] (spIs n) := by
  intro n
  induction n with
  | zero => exact ⟨fun vs H Q E h => (by obtain ⟨v, w, d, _, _, _, _, h, _⟩ := h; omega), fun A outer s H args us vs Q E _ _ _ _ h => (by obtain ⟨v, w, d, _, _, _, _, h, _⟩ := h; omega)⟩
  | succ n ih =>
    have D_l_is : Def P w K mg base CX0 "_law_is" n ["actual", "due"] (spIs n) := ⟨f, fd, ih, mgf, F.kp, b⟩
    refine F.ok sc_l_is (fun vs H Q E h => ?_) (fun cdv A outer s H vs Q E hr h => ?_)
    · obtain ⟨v, w, d, rfl, _⟩ := h
      rfl
    · obtain ⟨v, w, d, rfl, hv, hw, hlay, hdep, h64, q⟩ := h
      refine ⟨_, (pss_cons (ps_if (PW.pt (pw_or (pt_val (pe_callB (kisi K) (by rfl) T.isinstance_ bt_isinstance (pa_cons (pv 1) (pa_cons (pe_bltn (v := .ty "tuple") (by rfl) T.tuple_ bt_tuple rfl) pa_nil)))) (pw_or1 (pt_val (pe_callB (kisi K) (by rfl) T.isinstance_ bt_isinstance (pa_cons (pv 1) (pa_cons (pe_bltn (v := .ty "list") (by rfl) T.list_ bt_list rfl) pa_nil)))))))
        (pss_cons (ps_if (PW.pt (pw_or (pt_cmpR op_ne (pe_callB (kisi K) (by rfl) T.isinstance_ bt_isinstance (pa_cons (pv 0) (pa_cons (pe_bltn (v := .ty "tuple") (by rfl) T.tuple_ bt_tuple rfl) pa_nil))) (pe_callB (kisi K) (by rfl) T.isinstance_ bt_isinstance (pa_cons (pv 1) (pa_cons (pe_bltn (v := .ty "tuple") (by rfl) T.tuple_ bt_tuple rfl) pa_nil))) (nomark _)) (pw_or1 (pt_cmpR op_ne (pe_callB (kisi K) (by rfl) T.isinstance_ bt_isinstance (pa_cons (pv 0) (pa_cons (pe_bltn (v := .ty "list") (by rfl) T.list_ bt_list rfl) pa_nil))) (pe_callB (kisi K) (by rfl) T.isinstance_ bt_isinstance (pa_cons (pv 1) (pa_cons (pe_bltn (v := .ty "list") (by rfl) T.list_ bt_list rfl) pa_nil))) (nomark _)))))
          (pss_one (ps_ret pe_bl))
          pss_nil)
        (pss_cons (ps_if (pt_cmpR op_ne (pe_callB (klen K) (by rfl) T.len_ PySem.boot_len (pa_cons (pv 0) pa_nil)) (pe_callB (klen K) (by rfl) T.len_ PySem.boot_len (pa_cons (pv 1) pa_nil)) (nomark _))
          (pss_one (ps_ret pe_bl))
          pss_nil)
        (pss_cons (ps_for PassesOwn.never rfl (pi_range1 (by rfl) T.range_ (pa_cons (pe_callB (klen K) (by rfl) T.len_ PySem.boot_len (pa_cons (pv 1) pa_nil)) pa_nil)) (pg_name (i := 2) sc_l_is.nd rfl (by first | exact Or.inl rfl | exact Or.inr rfl))
          (pss_one (ps_if (pt_not (pt_val (pe_call D_l_is.ok hr rfl D_l_is.mgf D_l_is.kp D_l_is.b .nil pass0 (pa_cons (pe_ix (kixS K) (pv 0) (pv 2) (fun _ _ => rfl)) (pa_cons (pe_ix (kixS K) (pv 1) (pv 2) (fun _ _ => rfl)) pa_nil)))))
            (pss_one (ps_ret pe_bl))
            pss_nil)))
        (pss_one (ps_ret pe_bl)))))
        pss_nil)
      (pss_cons (ps_if (PW.pt (pw_or (pt_cmpR op_ne (pe_callB (kisi K) (by rfl) T.isinstance_ bt_isinstance (pa_cons (pv 0) (pa_cons (pe_bltn (v := .ty "bool") (by rfl) T.bool_ bt_bool rfl) pa_nil))) (pe_callB (kisi K) (by rfl) T.isinstance_ bt_isinstance (pa_cons (pv 1) (pa_cons (pe_bltn (v := .ty "bool") (by rfl) T.bool_ bt_bool rfl) pa_nil))) (nomark _)) (pw_or (pt_val (pe_callB (kisi K) (by rfl) T.isinstance_ bt_isinstance (pa_cons (pv 0) (pa_cons (pe_bltn (v := .ty "tuple") (by rfl) T.tuple_ bt_tuple rfl) pa_nil)))) (pw_or1 (pt_val (pe_callB (kisi K) (by rfl) T.isinstance_ bt_isinstance (pa_cons (pv 0) (pa_cons (pe_bltn (v := .ty "list") (by rfl) T.list_ bt_list rfl) pa_nil))))))))
        (pss_one (ps_ret pe_bl))
        pss_nil)
      (pss_one (ps_ret (pe_cmpR (keqD K hr.units) (pv 0) (pv 1) (nomark _)))))), ?_⟩
      rcases hv.kinds hw with ⟨t, kv, kw, n1, n2⟩ | ⟨ds, av, aw, xs, ys, t, rfl, rfl, hxs, hys, hdl, kv, kw, ht⟩
      · refine ⟨_, rfl, w, _, .type t, _, _, rfl, .ty _, kw.ty, kit_ty (kit_tuple kw), _, rfl, ?_⟩
        rw [n1]
        refine iteF ?_
        refine ⟨_, rfl, w, _, .type t, _, _, rfl, .ty _, kw.ty, kit_ty (kit_list kw), _, rfl, ?_⟩
        rw [n2]
        refine iteF ?_
        refine ⟨_, rfl, v, _, .type t, _, _, rfl, .ty _, kv.ty, kit_ty (kit_bool kv), ?_⟩
        refine ⟨_, rfl, w, _, .type t, _, _, rfl, .ty _, kw.ty, kit_ty (kit_bool kw), ?_⟩
        refine ⟨rfl, _, rfl, ?_⟩
        rw [not_same]
        refine iteF ?_
        refine ⟨_, rfl, v, _, .type t, _, _, rfl, .ty _, kv.ty, kit_ty (kit_tuple kv), _, rfl, ?_⟩
        rw [n1]
        refine iteF ?_
        refine ⟨_, rfl, v, _, .type t, _, _, rfl, .ty _, kv.ty, kit_ty (kit_list kv), _, rfl, ?_⟩
        rw [n2]
        refine iteF ?_
        refine ⟨_, rfl, _, rfl, d, d, hv.dp, hw.dp, ?_, ?_, ?_⟩
        · unfold SeqAt.shaped
          rw [hlay, decide_eq_true h64]
          rfl
        · unfold SeqAt.shaped
          rw [hlay, decide_eq_true h64]
          rfl
        · rw [eqv_self hlay]
          exact q
      · have hxl := hxs.length
        have hyl := hys.length
        have sv : SqL K H av xs ∨ SqT K H av xs := ht.elim (fun h => .inl (SqL.of h.2.1)) fun h => .inr (SqT.of h.2.1)
        have sw : SqL K H aw ys ∨ SqT K H aw ys := ht.elim (fun h => .inl (SqL.of h.2.2.1)) fun h => .inr (SqT.of h.2.2.1)
        have hlay2 : PyData.canLayAll0 ds = true := by
          rcases ht with ⟨_, _, _, rfl⟩ | ⟨_, _, _, rfl⟩ <;> (simp only [PyData.canLay0] at hlay; exact hlay)
        have hdep2 : PyData.depthAll ds < n ∧ PyData.depthAll ds ≤ 63 := by
          rcases ht with ⟨_, _, _, rfl⟩ | ⟨_, _, _, rfl⟩ <;> (simp only [PyData.depth] at hdep h64; omega)
        have elen : (!decide (V.int ((xs.length : Nat) : Int) = V.int ((ys.length : Nat) : Int))) = false := by
          rw [hxl, hyl]
          simp
        refine st_seq ?_
        refine st_yes ?_ ?_
        · intro Q' q'
          refine ⟨_, rfl, _, _, .type t, _, _, rfl, .ty _, kw.ty, kit_ty (kit_tuple kw), _, rfl, ?_⟩
          rcases ht with ⟨rfl, _⟩ | ⟨rfl, _⟩
          · rw [show isA "list" "tuple" = false from by decide +kernel]
            refine iteF ?_
            refine ⟨_, rfl, _, _, .type "list", _, _, rfl, .ty _, kw.ty, kit_ty (kit_list kw), _, rfl, ?_⟩
            rw [show isA "list" "list" = true from by decide +kernel]
            exact q'
          · rw [show isA "tuple" "tuple" = true from by decide +kernel]
            exact iteT q'
        refine st_seq ?_
        refine st_no ?_ ?_
        · intro Q' q'
          refine ⟨_, rfl, _, _, .type t, _, _, rfl, .ty _, kv.ty, kit_ty (kit_tuple kv), ?_⟩
          refine ⟨_, rfl, _, _, .type t, _, _, rfl, .ty _, kw.ty, kit_ty (kit_tuple kw), ?_⟩
          refine ⟨rfl, _, rfl, ?_⟩
          rw [not_same]
          refine iteF ?_
          refine ⟨_, rfl, _, _, .type t, _, _, rfl, .ty _, kv.ty, kit_ty (kit_list kv), ?_⟩
          refine ⟨_, rfl, _, _, .type t, _, _, rfl, .ty _, kw.ty, kit_ty (kit_list kw), ?_⟩
          refine ⟨rfl, _, rfl, ?_⟩
          rw [not_same]
          exact q'
        refine ⟨_, rfl, av, xs, rfl, sv, _, rfl, aw, ys, rfl, sw, rfl, _, rfl, ?_⟩
        rw [elen]
        refine iteF ?_
        refine ⟨_, rfl, aw, ys, rfl, sw, _, rfl, by omega, by omega, for_range (lo := 0) (n := ((ys.length : Nat) : Int).toNat) (fun i σ H' => H' = H ∧ ∃ v2, σ = [some (.ref av), some (.ref aw), v2]) ⟨rfl, _, rfl⟩ ?_ ?_⟩
        · rintro i σ H' hi0 ⟨rfl, v2, rfl⟩
          have hi : i < ds.length := by omega
          obtain ⟨x, hx, dx⟩ := hxs.get (List.getElem?_eq_getElem hi)
          obtain ⟨y, hy, dy⟩ := hys.get (List.getElem?_eq_getElem hi)
          have ix : atI xs (0 + (i : Int)) = some x := by rw [Int.zero_add]; exact atI_nat hx
          have iy : atI ys (0 + (i : Int)) = some y := by rw [Int.zero_add]; exact atI_nat hy
          have rx : ∀ Q' : VK, Q' x H' → rIx K (.ref av) (.int (0 + (i : Int))) H' Q' := fun Q' q' => sv.elim (fun h => .inl ⟨av, xs, _, x, rfl, rfl, h, ix, q'⟩) fun h => .inr (.inl ⟨av, xs, _, x, rfl, rfl, h, ix, q'⟩)
          have ry : ∀ Q' : VK, Q' y H' → rIx K (.ref aw) (.int (0 + (i : Int))) H' Q' := fun Q' q' => sw.elim (fun h => .inl ⟨aw, ys, _, y, rfl, rfl, h, iy, q'⟩) fun h => .inr (.inl ⟨aw, ys, _, y, rfl, rfl, h, iy, q'⟩)
          refine ⟨_, rfl, _, rfl, rx _ ?_⟩
          refine ⟨_, rfl, _, rfl, ry _ ?_⟩
          have hd := depth_mem (List.getElem?_eq_getElem hi)
          refine ⟨x, y, _, rfl, dx, dy, lay_mem hlay2 (List.getElem?_eq_getElem hi), by omega, by omega, _, rfl, ?_⟩
          refine iteF ?_
          exact ⟨rfl, _, rfl⟩
        · rintro σ H' ⟨rfl, v2, rfl⟩
          exact q
theorem ok_l_is {f : Addr} {fd : FuncData} (F : Fun K "_law_is" "_law_is" s_l_is f fd) (T : Txt K mg) (mgf : mg "_law_is" = some (.ref f)) : FnOk P w K mg base CX0 5 f fd ["actual", "due"] (spIs 5) :=
  ok_l_is_n F T mgf (F.binds (ps := ["actual", "due"]) fun _ _ _ _ _ _ us hl => match us, hl with | [_, _], _ => rfl) 5

abbrev s_law : Stmt := top 19
theorem sc_law : FnScope ["script", "deck", "rows", "others", "one", "two", "first", "second", "every", "due", "handed", "told", "point"] ["script"] (defScope s_law) := ⟨rfl, rfl, rfl, by decide +kernel, rfl, by decide +kernel, by decide +kernel⟩
theorem pr_take {α β : Type} {G : α → β → Prop} : ∀ {l₁ : List α} {l₂ : List β} (n : Nat), Paired G l₁ l₂ → Paired G (l₁.take n) (l₂.take n)
  | _, _, 0, _ => by rw [List.take_zero, List.take_zero]; exact .nil
  | _, _, n + 1, .nil => by rw [List.take_nil, List.take_nil]; exact .nil
  | _, _, n + 1, .cons h t => by rw [List.take_succ_cons, List.take_succ_cons]; exact .cons h (pr_take n t)
theorem pr_drop {α β : Type} {G : α → β → Prop} : ∀ {l₁ : List α} {l₂ : List β} (n : Nat), Paired G l₁ l₂ → Paired G (l₁.drop n) (l₂.drop n)
  | _, _, 0, h => h
  | _, _, n + 1, .nil => by rw [List.drop_nil, List.drop_nil]; exact .nil
  | _, _, n + 1, .cons h t => by rw [List.drop_succ_cons, List.drop_succ_cons]; exact pr_drop n t
theorem rcs_cut {H : Hp} {us : List V} {qs : List Rc} (h : RcsV H us qs) (lo hi : Option Int) : ∃ ps, RcsV H (cutV us lo hi) ps ∧ (∀ q ∈ ps, q ∈ qs) ∧ ps.length ≤ qs.length := by
  refine ⟨_, pr_take _ (pr_drop _ h), fun q hq => List.mem_of_mem_drop (List.mem_of_mem_take hq), ?_⟩
  rw [List.length_take, List.length_drop]
  omega
theorem keys_pts {H : Hp} : ∀ {pts : List Pt} {bs : List Addr}, IsKeys H (mkd pts) bs → PtsV H (bs.map V.ref) pts
  | [], [], _ => .nil
  | z :: pts, b :: bs, .cons h k => .cons ⟨b, rfl, h⟩ (keys_pts k)
def spLaw (K : PySem.W.Frag) : Sp := fun vs H Q _ => ∃ (a : Addr) (ns : List Int), vs = [.ref a] ∧ SqL K H a (ns.map V.int) ∧ ns.length ≤ 63 ∧ ∀ H', Q (.bl true) H'
theorem ok_law {f : Addr} {fd : FuncData} (F : Fun K "law" "law" s_law f fd) (T : Txt K mg) (D_l_deck : Def P w K mg base CX0 "_law_deck" 1 ["script"] (spDeck K)) (D_l_draw : Def P w K mg base CX0 "_law_draw" 1 ["deck", "bound"] (spDraw K))
    (D_l_rectangles : Def P w K mg base CX0 "_law_rectangles" 3 ["deck", "count", "size"] (spRectangles K)) (D_l_points : Def P w K mg base CX0 "_law_points" 1 ["rectangles"] (spPoints K)) (D_l_form : Def P w K mg base CX0 "_law_form" 2 ["points"] (spForm K))
    (D_union : Def P w K mg base CX0 "union" 4 ["first", "second"] (spTwo K fun a b => a ∨ b)) (D_l_is : Def P w K mg base CX0 "_law_is" 5 ["actual", "due"] (spIs 5)) :
    FnOk P w K mg base CX0 6 f fd ["script"] (spLaw K) := by
  refine F.ok sc_law (fun vs H Q E h => ?_) (fun cdv A outer s H vs Q E hr h => ?_)
  · obtain ⟨a, ns, rfl, _⟩ := h
    rfl
  · obtain ⟨a, ns, rfl, hS, hl, q⟩ := h
    refine ⟨_, (pss_cons (ps_set (i := 1) sc_law.nd rfl (by first | exact Or.inl rfl | exact Or.inr rfl) (pe_call D_l_deck.ok (hr.mono (by decide)) rfl D_l_deck.mgf D_l_deck.kp D_l_deck.b .nil pass0 (pa_cons (pv 0) pa_nil)))
      (pss_cons (ps_set (i := 2) sc_law.nd rfl (by first | exact Or.inl rfl | exact Or.inr rfl) (pe_call D_l_rectangles.ok (hr.mono (by decide)) rfl D_l_rectangles.mgf D_l_rectangles.kp D_l_rectangles.b .nil pass0 (pa_cons (pv 1) (pa_cons (pe_call D_l_draw.ok (hr.mono (by decide)) rfl D_l_draw.mgf D_l_draw.kp D_l_draw.b .nil pass0 (pa_cons (pv 1) (pa_cons pe_int pa_nil))) (pa_cons pe_int pa_nil)))))
      (pss_cons (ps_set (i := 3) sc_law.nd rfl (by first | exact Or.inl rfl | exact Or.inr rfl) (pe_call D_l_rectangles.ok (hr.mono (by decide)) rfl D_l_rectangles.mgf D_l_rectangles.kp D_l_rectangles.b .nil pass0 (pa_cons (pv 1) (pa_cons (pe_call D_l_draw.ok (hr.mono (by decide)) rfl D_l_draw.mgf D_l_draw.kp D_l_draw.b .nil pass0 (pa_cons (pv 1) (pa_cons pe_int pa_nil))) (pa_cons pe_int pa_nil)))))
      (pss_cut (ps_if (PW.pt (pw_and (pt_cmpR op_gt (pe_callB (klen K) (by rfl) T.len_ PySem.boot_len (pa_cons (pv 2) pa_nil)) pe_int (nomark _)) (pw_and1 (pt_cmpR op_eq (pe_call D_l_draw.ok (hr.mono (by decide)) rfl D_l_draw.mgf D_l_draw.kp D_l_draw.b .nil pass0 (pa_cons (pv 1) (pa_cons pe_int pa_nil))) pe_int (nomark _)))))
        (pss_one (ps_set (i := 3) sc_law.nd rfl (by first | exact Or.inl rfl | exact Or.inr rfl) (pe_op op_cat (pe_slice (kslL K) (pv 3) po_none (po_some pe_int)) (pe_slice (kslL K) (pv 2) (po_some (pe_call D_l_draw.ok (hr.mono (by decide)) rfl D_l_draw.mgf D_l_draw.kp D_l_draw.b .nil pass0 (pa_cons (pv 1) (pa_cons (pe_callB (klen K) (by rfl) T.len_ PySem.boot_len (pa_cons (pv 2) pa_nil)) pa_nil)))) po_none))))
        pss_nil)
      (pss_cons (ps_set (i := 4) sc_law.nd rfl (by first | exact Or.inl rfl | exact Or.inr rfl) (pe_call D_l_points.ok (hr.mono (by decide)) rfl D_l_points.mgf D_l_points.kp D_l_points.b .nil pass0 (pa_cons (pv 2) pa_nil)))
      (pss_cons (ps_set (i := 5) sc_law.nd rfl (by first | exact Or.inl rfl | exact Or.inr rfl) (pe_call D_l_points.ok (hr.mono (by decide)) rfl D_l_points.mgf D_l_points.kp D_l_points.b .nil pass0 (pa_cons (pv 3) pa_nil)))
      (pss_cons (ps_set (i := 6) sc_law.nd rfl (by first | exact Or.inl rfl | exact Or.inr rfl) (pe_call D_l_form.ok (hr.mono (by decide)) rfl D_l_form.mgf D_l_form.kp D_l_form.b .nil pass0 (pa_cons (pv 4) pa_nil)))
      (pss_cons (ps_set (i := 7) sc_law.nd rfl (by first | exact Or.inl rfl | exact Or.inr rfl) (pe_call D_l_form.ok (hr.mono (by decide)) rfl D_l_form.mgf D_l_form.kp D_l_form.b .nil pass0 (pa_cons (pv 5) pa_nil)))
      (pss_cons (ps_set (i := 8) sc_law.nd rfl (by first | exact Or.inl rfl | exact Or.inr rfl) (pe_op op_cat (pe_callTy (call_list_dT rfl) (by rfl) T.list_ bt_list (pa_cons (pv 4) pa_nil)) (pe_lock (pe_lc (own := [("point", 12)]) rfl sc_law.nd (pi_keys (pv 5)) (blkOk_by (N := ["script", "deck", "rows", "others", "one", "two", "first", "second", "every", "due", "handed", "told", "point"]) (sc := defScope s_law) (by decide +kernel)) (fun _ _ _ _ _ => (pg_name (i := 12) sc_law.nd rfl (by first | exact Or.inl rfl | exact Or.inr rfl))) (fun _ _ _ _ _ => (pts_one (pt_cmp (pc_dnotin (hu_of hr) (pv 12) (pv 4)) (by rfl)))) (fun _ _ _ _ _ => (pv 12))))))
      (pss_cons (ps_set (i := 9) sc_law.nd rfl (by first | exact Or.inl rfl | exact Or.inr rfl) (pe_call D_l_form.ok (hr.mono (by decide)) rfl D_l_form.mgf D_l_form.kp D_l_form.b .nil pass0 (pa_cons (pe_lc (own := [("point", 12)]) rfl sc_law.nd (kpiL K (pv 8)) (blkOk_by (N := ["script", "deck", "rows", "others", "one", "two", "first", "second", "every", "due", "handed", "told", "point"]) (sc := defScope s_law) (by decide +kernel)) (fun _ _ _ _ _ => (pg_name (i := 12) sc_law.nd rfl (by first | exact Or.inl rfl | exact Or.inr rfl))) (fun _ _ _ _ _ => (pts_one (PW.pt (pw_or (pt_cmp (pc_din (hu_of hr) (pv 12) (pv 4)) (by rfl)) (pw_or1 (pt_cmp (pc_din (hu_of hr) (pv 12) (pv 5)) (by rfl))))))) (fun _ _ _ _ _ => (pv 12))) pa_nil)))
      (pss_cons (ps_set (i := 10) sc_law.nd rfl (by first | exact Or.inl rfl | exact Or.inr rfl) (pe_lst (pa_cons (pe_callTy (klist K) (by rfl) T.list_ bt_list (pa_cons (pv 6) pa_nil)) (pa_cons (pe_callTy (klist K) (by rfl) T.list_ bt_list (pa_cons (pv 7) pa_nil)) pa_nil))))
      (pss_cons (ps_set (i := 11) sc_law.nd rfl (by first | exact Or.inl rfl | exact Or.inr rfl) (pe_call D_union.ok (hr.mono (by decide)) rfl D_union.mgf D_union.kp D_union.b .nil pass0 (pa_cons (pe_ix (kixL K) (pv 10) pe_int (fun _ _ => rfl)) (pa_cons (pe_ix (kixL K) (pv 10) pe_int (fun _ _ => rfl)) pa_nil))))
      (pss_cons (ps_if (PW.pt (pw_or (pt_not (pt_val (pe_call D_l_is.ok (hr.mono (by decide)) rfl D_l_is.mgf D_l_is.kp D_l_is.b .nil pass0 (pa_cons (pv 11) (pa_cons (pv 9) pa_nil))))) (pw_or1 (pt_cmpR (kneD K hr.units) (pv 10) (pe_lst (pa_cons (pv 6) (pa_cons (pv 7) pa_nil))) (nomark _)))))
        (pss_one (ps_ret pe_bl))
        pss_nil)
      (pss_cons (ps_expr (pe_bm PySem.F.plainAttrs_list PySem.F.slot_list_append PySem.F.type_list_append mt_append (pv 11) (pa_cons pe_str pa_nil)))
      (pss_one (ps_ret (pe_and (pe_call D_l_is.ok (hr.mono (by decide)) rfl D_l_is.mgf D_l_is.kp D_l_is.b .nil pass0 (pa_cons (pe_call D_union.ok (hr.mono (by decide)) rfl D_union.mgf D_union.kp D_union.b .nil pass0 (pa_cons (pe_ix (kixL K) (pv 10) pe_int (fun _ _ => rfl)) (pa_cons (pe_ix (kixL K) (pv 10) pe_int (fun _ _ => rfl)) pa_nil))) (pa_cons (pv 9) pa_nil))) (pe_one (pe_cmpR (keqD K hr.units) (pv 10) (pe_lst (pa_cons (pv 6) (pa_cons (pv 7) pa_nil))) (nomark _)))))))))))))))))))), ?_⟩
    refine ⟨_, rfl, a, ns, rfl, hS, hl, fun d H1 e1 hd => ?_⟩
    refine ⟨_, rfl, _, rfl, d, 8, rfl, hd, by decide, by decide, fun cnt c0 c1 => ?_⟩
    refine ⟨d, cnt, 14, rfl, hd, c0, by omega, by decide, by decide, fun p1 u1 q1 H2 hp1n e2 hp1 hq1 hn1 hb1 => ?_⟩
    have hd2 := hd.mono e2
    refine ⟨_, rfl, _, rfl, d, 8, rfl, hd2, by decide, by decide, fun cnt2 c20 c21 => ?_⟩
    refine ⟨d, cnt2, 14, rfl, hd2, c20, by omega, by decide, by decide, fun p2 u2 q2 H3 hp2n e3 hp2 hq2 hn2 hb2 => ?_⟩
    have hd3 := hd2.mono e3
    have hp1 := e3 _ _ hp1
    have hq1 := hq1.tk (TK.ex e3)
    have hul := hq1.length
    have hul2 := hq2.length
    refine ⟨fun σ H' => ∃ p3 u3 q3, σ = [some (.ref a), some (.ref d), some (.ref p1), some (.ref p3), none, none, none, none, none, none, none, none, none] ∧ Ex H3 H' ∧ H' p3 = some (.lst u3) ∧ RcsV H' u3 q3 ∧ q3.length ≤ 20 ∧ ∀ q ∈ q3, Small 1000 q, ?_, ?_⟩
    · have keep : ∃ p3 u3 q3, [some (.ref a), some (.ref d), some (.ref p1), some (.ref p2), none, none, none, none, none, none, none, none, none] = [some (V.ref a), some (.ref d), some (.ref p1), some (.ref p3), none, none, none, none, none, none, none, none, none] ∧ Ex H3 H3 ∧ H3 p3 = some (.lst u3) ∧ RcsV H3 u3 q3 ∧ q3.length ≤ 20 ∧ ∀ q ∈ q3, Small 1000 q :=
        ⟨p2, u2, q2, rfl, Ex.refl _, hp2, hq2, by omega, hb2⟩
      refine ⟨_, rfl, p1, _, rfl, .inl (SqL.of hp1), _, _, rfl, rfl, _, rfl, ?_⟩
      refine ite2 (fun c2 => ?_) (fun c2 => keep)
      have hpos : 0 < u1.length := by
        have := of_decide_eq_true c2
        omega
      refine ⟨_, rfl, d, 4, rfl, hd3, by decide, by decide, fun z z0 z1 => ?_⟩
      refine ⟨rfl, _, rfl, ?_⟩
      refine ite2 (fun c3 => ?_) (fun c3 => keep)
      refine ⟨_, rfl, _, rfl, p2, u2, rfl, SqL.of hp2, fun pA hpA => ?_⟩
      have f1 := Ex.new (o := .lst (cutV u2 none (some 1))) hpA
      have hA := (upd_same : upd H3 pA (.lst (cutV u2 none (some 1))) pA = _)
      generalize upd H3 pA (.lst (cutV u2 none (some 1))) = G1 at f1 hA
      refine ⟨_, rfl, _, rfl, _, rfl, p1, _, rfl, .inl (SqL.of (f1 _ _ hp1)), d, _, rfl, hd3.mono f1, by omega, by omega, fun k k0 k1 => ?_⟩
      refine ⟨_, rfl, p1, u1, rfl, SqL.of (f1 _ _ hp1), fun pB hpB => ?_⟩
      have f2 := Ex.new (o := .lst (cutV u1 (some k) none)) hpB
      have hB := (upd_same : upd G1 pB (.lst (cutV u1 (some k) none)) pB = _)
      generalize upd G1 pB (.lst (cutV u1 (some k) none)) = G2 at f2 hB
      obtain ⟨r1, hr1, m1, l1⟩ := rcs_cut (hq2.tk (TK.ex (f1.trans f2))) none (some 1)
      obtain ⟨r2, hr2, m2, l2⟩ := rcs_cut (hq1.tk (TK.ex (f1.trans f2))) (some k) none
      have hrl1 := hr1.length
      have hrl2 := hr2.length
      refine ⟨pA, pB, _, _, rfl, rfl, f2 _ _ hA, hB, sline (by omega), fun pC hpC => ?_⟩
      have f3 := Ex.new (o := .lst (cutV u2 none (some 1) ++ cutV u1 (some k) none)) hpC
      refine ⟨pC, _, r1 ++ r2, rfl, (f1.trans f2).trans f3, upd_same, RcsV.tk (TK.ex f3) (pr_append hr1 hr2), by rw [List.length_append]; omega, fun q hq => ?_⟩
      rcases List.mem_append.mp hq with h | h
      · exact hb2 q (m1 q h)
      · exact hb1 q (m2 q h)
    rintro σ H4 ⟨p3, u3, q3, rfl, e4, hp3, hq3, hn3, hb3⟩
    have hp1 := e4 _ _ hp1
    have hq1 := hq1.tk (TK.ex e4)
    -- the points
    refine ⟨_, rfl, p1, u1, q1, rfl, SqL.of hp1, hq1, by omega, fun q hq => (hb1 q hq).mono (by decide), fun dp1 pts1 H5 hdp1 e5 hD1 nd1 mem1 pn1 => ?_⟩
    refine ⟨_, rfl, p3, u3, q3, rfl, SqL.of (e5 _ _ hp3), hq3.tk (TK.ex e5), by omega, fun q hq => (hb3 q hq).mono (by decide), fun dp2 pts2 H6 hdp2 e6 hD2 nd2 mem2 pn2 => ?_⟩
    have hne : dp1 ≠ dp2 := fun z => by
      rw [← z, hD1] at hdp2
      cases hdp2
    have hD1 := e6 _ _ hD1
    -- the forms
    refine ⟨_, rfl, dp1, pts1, rfl, .inl hD1, nd1, by omega, fun pf uf ff H7 _ e7 hF hFc form1 fl1 => ?_⟩
    have hD1 := e7 _ _ hD1
    have hD2 := e7 _ _ hD2
    refine ⟨_, rfl, dp2, pts2, rfl, .inl hD2, nd2, by omega, fun pg ug fg H8 _ e8 hG hGc form2 fl2 => ?_⟩
    have hD1 := e8 _ _ hD1
    have hD2 := e8 _ _ hD2
    have hF := e8 _ _ hF
    have hFc := hFc.tk (TK.ex e8)
    clear hp1 hq1 hp3 hq3 hp2 hq2 mem1 mem2
    -- every point
    refine ⟨_, rfl, dp1, _, rfl, .inl hD1, fun pl bs hpl hbs => ?_⟩
    have g1 := Ex.new (o := .lst (bs.map V.ref)) hpl
    have hpl1 := (upd_same : upd H8 pl (.lst (bs.map V.ref)) pl = _)
    have hK1 := (keys_pts hbs).tk (TK.ex g1)
    generalize upd H8 pl (.lst (bs.map V.ref)) = G1 at g1 hpl1 hK1
    have hD1 := g1 _ _ hD1
    have hD2 := g1 _ _ hD2
    refine ⟨dp2, _, hD2, trivial, fun od => ?_⟩
    refine ⟨_, rfl, dp2, od, rfl, .inr ⟨mkd pts2, upd_same, fun Dq hDn => ?_⟩⟩
    have hDd : Dq ≠ dp2 := fun z => by
      rw [z, upd_same] at hDn
      cases hDn
    have hD1k : upd G1 dp2 (.frz od (.dT (mkd pts2))) dp1 = some (.dT (mkd pts1)) := by rw [upd_ne hne]; exact hD1
    refine lc_keysT (fun i H' => Ex (upd G1 dp2 (.frz od (.dT (mkd pts2)))) H' ∧ ∃ ws, H' Dq = some (.lst ws) ∧ PtsV H' ws ((pts2.take i).filter fun z => !decide (z ∈ pts1))) ⟨Ex.new hDn, [], upd_same, .nil⟩ (fun i H' _ p => p.1 _ _ upd_same) ?_ ?_
    · rintro i k v qa H' hk hqk ⟨e, ws, hW, hP⟩
      obtain ⟨z, hz, rfl⟩ := mkd_get hk
      have hi : i < pts2.length := (List.getElem?_eq_some_iff.mp hz).1
      have hwl := hP.length
      have hfl := List.length_filter_le (fun z => !decide (z ∈ pts1)) (pts2.take i)
      rw [List.length_take] at hfl
      refine ⟨rfl, ?_⟩
      refine ⟨_, rfl, _, rfl, dp1, _, rfl, DGet.t (k := ptK z) (e _ _ hD1k) hqk, _, rfl, ?_⟩
      rw [mkd_val, List.take_add_one, hz, List.filter_append]
      show (if (!decide (z ∈ pts1)) = true then _ else _)
      cases hb : !decide (z ∈ pts1) with
      | true =>
        refine iteT ?_
        refine ⟨_, rfl, ws, hW, slineL (by omega), e.mut hDn, ws ++ [.ref qa], upd_same, ?_⟩
        rw [show List.filter (fun z => !decide (z ∈ pts1)) (some z).toList = [z] from by show List.filter _ [z] = [z]; rw [List.filter_cons_of_pos (p := fun z => !decide (z ∈ pts1)) hb, List.filter_nil]]
        have tk := TK.lst (o := .lst (ws ++ [.ref qa])) hW
        exact PtsV.snoc' (PtsV.tk tk hP) ⟨qa, rfl, tk _ _ hqk⟩
      | false =>
        refine iteF ?_
        refine ⟨e, ws, hW, ?_⟩
        rw [show List.filter (fun z => !decide (z ∈ pts1)) (some z).toList = [] from by show List.filter _ [z] = []; rw [List.filter_cons_of_neg (p := fun z => !decide (z ∈ pts1)) (by rw [hb]; decide), List.filter_nil], List.append_nil]
        exact hP
    rintro H' ⟨e, ws, hW, hP⟩
    rw [mkd_len, List.take_length] at hP
    refine ⟨e _ _ upd_same, ?_⟩
    have g2 : Ex G1 (upd H' dp2 (.dT (mkd pts2))) := ex_unlock hD2 e
    have hW2 : upd H' dp2 (.dT (mkd pts2)) Dq = some (.lst ws) := by rw [upd_ne hDd]; exact hW
    have hP2 : PtsV (upd H' dp2 (.dT (mkd pts2))) ws (pts2.filter fun z => !decide (z ∈ pts1)) := hP.tk fun a xs h => by
      rw [upd_ne]
      · exact h
      · intro z
        rw [z, e _ _ upd_same] at h
        cases h
    have hbsl := hK1.length
    have hwsl := hP2.length
    have hfl := List.length_filter_le (fun z => !decide (z ∈ pts1)) pts2
    generalize upd H' dp2 (.dT (mkd pts2)) = G2 at g2 hW2 hP2
    refine ⟨pl, Dq, _, _, rfl, rfl, g2 _ _ hpl1, hW2, sline (by omega), fun pe hpe => ?_⟩
    have g3 := Ex.new (o := .lst (bs.map V.ref ++ ws)) hpe
    have hpe1 := (upd_same : upd G2 pe (.lst (bs.map V.ref ++ ws)) pe = _)
    have hEv : PtsV (upd G2 pe (.lst (bs.map V.ref ++ ws))) (bs.map V.ref ++ ws) (pts1 ++ pts2.filter fun z => !decide (z ∈ pts1)) := PtsV.tk (TK.ex g3) (pr_append (PtsV.tk (TK.ex g2) hK1) hP2)
    generalize upd G2 pe (.lst (bs.map V.ref ++ ws)) = G3 at g3 hpe1 hEv
    have hD1 := g3 _ _ (g2 _ _ hD1)
    have hD2 := g3 _ _ (g2 _ _ hD2)
    have ndE : (pts1 ++ pts2.filter fun z => !decide (z ∈ pts1)).Nodup := by
      rw [List.nodup_append]
      refine ⟨nd1, nd2.sublist List.filter_sublist, fun x hx y hy z => ?_⟩
      rw [z] at hx
      have := (List.mem_filter.mp hy).2
      rw [decide_eq_true hx] at this
      cases this
    have memE : ∀ z, z ∈ (pts1 ++ pts2.filter fun z => !decide (z ∈ pts1)) ↔ z ∈ pts1 ∨ z ∈ pts2 := fun z => by
      rw [List.mem_append, List.mem_filter]
      by_cases h : z ∈ pts1
      · simp [h]
      · simp [h]
    have lenE : (pts1 ++ pts2.filter fun z => !decide (z ∈ pts1)).length ≤ 150000 := by rw [List.length_append]; omega
    generalize (pts1 ++ pts2.filter fun z => !decide (z ∈ pts1)) = every at hEv ndE memE lenE
    -- what is due
    refine ⟨_, rfl, pe, rfl, ⟨_, SqL.of hpe1⟩, fun Dd hDd2 => ?_⟩
    have hEl := hEv.length
    obtain ⟨tst, htst⟩ : ∃ t : Pt → Bool, t = fun z => decide (z ∈ pts1) || decide (z ∈ pts2) := ⟨_, rfl⟩
    obtain ⟨tst, htst⟩ : ∃ t : Pt → Bool, t = fun z => decide (z ∈ pts1) || decide (z ∈ pts2) := ⟨_, rfl⟩
    refine lc_list (K := K) (a := pe) (xs := bs.map V.ref ++ ws) (fun i H' => Ex G3 H' ∧ ∃ vs, H' Dd = some (.lst vs) ∧ PtsV H' vs ((every.take i).filter tst)) ⟨Ex.new hDd2, [], upd_same, .nil⟩ (fun i H' _ p => SqL.of (p.1 _ _ hpe1)) ?_ ?_
    · rintro i u H' hu ⟨e, vs, hV, hP⟩
      obtain ⟨z, hz, qa, rfl, hqa⟩ := pr_get hEv hu
      have hi : i < every.length := (List.getElem?_eq_some_iff.mp hz).1
      have hwl := hP.length
      have hfl := List.length_filter_le tst (every.take i)
      rw [List.length_take] at hfl
      have hqk : H' qa = some (.tup ((ptK z).map kV)) := e _ _ hqa
      rw [List.take_add_one, hz, List.filter_append]
      have yes : tst z = true → ∃ acc, H' Dd = some (.lst acc) ∧ acc.length < sizeLine ∧ Ex G3 (upd H' Dd (.lst (acc ++ [.ref qa]))) ∧ ∃ vs, upd H' Dd (.lst (acc ++ [.ref qa])) Dd = some (.lst vs) ∧ PtsV (upd H' Dd (.lst (acc ++ [.ref qa]))) vs ((every.take i).filter tst ++ (some z).toList.filter tst) := fun hb => by
        refine ⟨vs, hV, slineL (by omega), e.mut hDd2, vs ++ [.ref qa], upd_same, ?_⟩
        rw [show List.filter tst (some z).toList = [z] from by show List.filter _ [z] = [z]; rw [List.filter_cons_of_pos hb, List.filter_nil]]
        have tk := TK.lst (o := .lst (vs ++ [.ref qa])) hV
        exact PtsV.snoc' (PtsV.tk tk hP) ⟨qa, rfl, tk _ _ hqk⟩
      have no : tst z = false → Ex G3 H' ∧ ∃ vs, H' Dd = some (.lst vs) ∧ PtsV H' vs ((every.take i).filter tst ++ (some z).toList.filter tst) := fun hb => by
        refine ⟨e, vs, hV, ?_⟩
        rw [show List.filter tst (some z).toList = [] from by show List.filter _ [z] = []; rw [List.filter_cons_of_neg (by rw [hb]; decide), List.filter_nil], List.append_nil]
        exact hP
      refine ⟨rfl, ?_⟩
      by_cases m1 : z ∈ pts1 <;> by_cases m2 : z ∈ pts2
      · refine ⟨_, rfl, _, rfl, dp1, _, rfl, DGet.t (k := ptK z) (e _ _ hD1) hqk, _, rfl, ?_⟩
        rw [mkd_val]
        rw [decide_eq_true m1]
        refine iteT ?_
        refine iteT ?_
        exact ⟨_, rfl, yes (by rw [htst]; simp [m1, m2])⟩
      · refine ⟨_, rfl, _, rfl, dp1, _, rfl, DGet.t (k := ptK z) (e _ _ hD1) hqk, _, rfl, ?_⟩
        rw [mkd_val]
        rw [decide_eq_true m1]
        refine iteT ?_
        refine iteT ?_
        exact ⟨_, rfl, yes (by rw [htst]; simp [m1, m2])⟩
      · refine ⟨_, rfl, _, rfl, dp1, _, rfl, DGet.t (k := ptK z) (e _ _ hD1) hqk, _, rfl, ?_⟩
        rw [mkd_val]
        rw [decide_eq_false m1]
        refine iteF ?_
        refine ⟨_, rfl, _, rfl, dp2, _, rfl, DGet.t (k := ptK z) (e _ _ hD2) hqk, _, rfl, ?_⟩
        rw [mkd_val]
        rw [decide_eq_true m2]
        refine iteT ?_
        exact ⟨_, rfl, yes (by rw [htst]; simp [m1, m2])⟩
      · refine ⟨_, rfl, _, rfl, dp1, _, rfl, DGet.t (k := ptK z) (e _ _ hD1) hqk, _, rfl, ?_⟩
        rw [mkd_val]
        rw [decide_eq_false m1]
        refine iteF ?_
        refine ⟨_, rfl, _, rfl, dp2, _, rfl, DGet.t (k := ptK z) (e _ _ hD2) hqk, _, rfl, ?_⟩
        rw [mkd_val]
        rw [decide_eq_false m2]
        refine iteF ?_
        exact no (by rw [htst]; simp [m1, m2])
    rintro H5' ⟨ed, vs, hV, hP⟩
    rw [hEl, List.take_length] at hP
    have hfle := List.length_filter_le tst every
    refine ⟨Dd, every.filter tst, rfl, .inr ⟨vs, SqL.of hV, hP⟩, ndE.sublist List.filter_sublist, by omega, fun pd ud fd H6' _ e6' hU hUc formD flD => ?_⟩
    have g38 := ed.trans e6'
    have hF := g38 _ _ (g3 _ _ (g2 _ _ (g1 _ _ hF)))
    have hFc := hFc.tk (TK.ex (((g1.trans g2).trans g3).trans g38))
    have hG := g38 _ _ (g3 _ _ (g2 _ _ (g1 _ _ hG)))
    have hGc := hGc.tk (TK.ex (((g1.trans g2).trans g3).trans g38))
    clear hV hP hEv hpe1 hW2 hP2 hW hpl1 hK1 hbs hD1 hD2 hD1k e ed e6' g1 g2 g3 g38
    -- handed
    refine ⟨_, rfl, pf, uf, rfl, .inl (SqL.of hF), fun ph1 hph1 => ?_⟩
    have i1 := Ex.new (o := .lst uf) hph1
    have hh1 := (upd_same : upd H6' ph1 (.lst uf) ph1 = _)
    generalize upd H6' ph1 (.lst uf) = I1 at i1 hh1
    refine ⟨_, rfl, pg, ug, rfl, .inl (SqL.of (i1 _ _ hG)), fun ph2 hph2 => ?_⟩
    have i2 := Ex.new (o := .lst ug) hph2
    have hh2 := (upd_same : upd I1 ph2 (.lst ug) ph2 = _)
    generalize upd I1 ph2 (.lst ug) = I2 at i2 hh2
    refine ⟨(by show 2 ≤ sizeLine; decide), fun ph hph => ?_⟩
    have i3 := Ex.new (o := .lst [.ref ph1, .ref ph2]) hph
    have hh := (upd_same : upd I2 ph (.lst [.ref ph1, .ref ph2]) ph = _)
    generalize upd I2 ph (.lst [.ref ph1, .ref ph2]) = I3 at i3 hh
    have i13 := (i1.trans i2).trans i3
    have hh1 := i3 _ _ (i2 _ _ hh1)
    have hh2 := i3 _ _ hh2
    have hF := i13 _ _ hF
    have hG := i13 _ _ hG
    have hU := i13 _ _ hU
    have hFc := hFc.tk (TK.ex i13)
    have hGc := hGc.tk (TK.ex i13)
    have hUc := hUc.tk (TK.ex i13)
    clear hph1 hph2 hph i1 i2 i3 i13
    have hk : ∀ x y, (x, y) ∈ every.filter tst ↔ (x, y) ∈ pts1 ∨ (x, y) ∈ pts2 := fun x y => by
      rw [List.mem_filter, memE, htst]
      by_cases m1 : (x, y) ∈ pts1 <;> by_cases m2 : (x, y) ∈ pts2 <;> simp [m1, m2]
    -- told
    refine ⟨_, rfl, ph, _, _, _, rfl, rfl, SqL.of hh, rfl, ?_⟩
    refine ⟨_, rfl, ph, _, _, _, rfl, rfl, SqL.of hh, rfl, ?_⟩
    refine ⟨ph1, ph2, uf, ug, ff, fg, fd, _, _, _, rfl, SqL.of hh1, hFc, form1, by omega, SqL.of hh2, hGc, form2, by omega, hk, formD, by omega, fun pt wt I4 hptn i4 hT hTc => ?_⟩
    have shp : ∀ g : List Rc, (rcsD g).canLay0 = true ∧ (rcsD g).depth < 5 ∧ (rcsD g).depth ≤ 64 := fun g => ⟨eqs_rcs.2.1 g, by have := eqs_rcs.2.2 g; omega, by have := eqs_rcs.2.2 g; omega⟩
    have two : ∀ {G : Hp} {x y z : Addr}, Ex I3 G → G x = some (.lst [.ref y, .ref z]) → (G y = some (.lst uf) ∧ G z = some (.lst ug)) → Dp K G (.ref x) (.list ([ff, fg].map rcsD)) := fun {G x y z} i h1 h2 =>
      .lst (SqL.of h1) (.cons (dp_rcs (SqL.of h2.1) (hFc.tk (TK.ex i))) (.cons (dp_rcs (SqL.of h2.2) (hGc.tk (TK.ex i))) .nil))
    refine ⟨_, rfl, _, rfl, _, _, _, rfl, da_rcs hT hTc (by omega), (da_rcs hU hUc (by omega)).mono i4, (shp _).1, (shp _).2.1, (shp _).2.2, _, rfl, ?_⟩
    refine iteF ?_
    refine ⟨_, rfl, _, rfl, _, rfl, (by show 2 ≤ sizeLine; decide), fun px hpx => ?_⟩
    have i5 := Ex.new (o := .lst [.ref pf, .ref pg]) hpx
    have hx := (upd_same : upd I4 px (.lst [.ref pf, .ref pg]) px = _)
    generalize upd I4 px (.lst [.ref pf, .ref pg]) = I5 at i5 hx
    have i45 := i4.trans i5
    refine ⟨_, _, two i45 (i45 _ _ hh) ⟨i45 _ _ hh1, i45 _ _ hh2⟩, two i45 hx ⟨i45 _ _ hF, i45 _ _ hG⟩, eqs_rcs.lst.shaped (by decide) _, eqs_rcs.lst.shaped (by decide) _, _, rfl, ?_⟩
    rw [eqs_rcs.lst.1, decide_eq_true rfl]
    refine iteF ?_
    -- spoilt
    have hT5 := i5 _ _ hT
    refine ⟨_, rfl, .inl ⟨rfl, _, SqL.of hT5⟩, pt, wt, _, rfl, rfl, hT5, slineL (by have := hTc.length; omega), ?_⟩
    have i6 : Ex I3 (upd I5 pt (.lst (wt ++ [.str "spoilt"]))) := i45.mut hptn
    generalize upd I5 pt (.lst (wt ++ [.str "spoilt"])) = I6 at i6
    refine ⟨_, rfl, ph, _, _, _, rfl, rfl, SqL.of (i6 _ _ hh), rfl, ?_⟩
    refine ⟨_, rfl, ph, _, _, _, rfl, rfl, SqL.of (i6 _ _ hh), rfl, ?_⟩
    refine ⟨ph1, ph2, uf, ug, ff, fg, fd, _, _, _, rfl, SqL.of (i6 _ _ hh1), hFc.tk (TK.ex i6), form1, by omega, SqL.of (i6 _ _ hh2), hGc.tk (TK.ex i6), form2, by omega, hk, formD, by omega, fun pt2 wt2 I7 hpt2 i7 hT2 hTc2 => ?_⟩
    have i67 := i6.trans i7
    refine ⟨_, rfl, _, _, _, rfl, da_rcs hT2 hTc2 (by omega), (da_rcs hU hUc (by omega)).mono i67, (shp _).1, (shp _).2.1, (shp _).2.2, _, rfl, ?_⟩
    refine iteT ?_
    refine ⟨_, rfl, _, rfl, _, rfl, (by show 2 ≤ sizeLine; decide), fun py hpy => ?_⟩
    have i8 := Ex.new (o := .lst [.ref pf, .ref pg]) hpy
    have hy := (upd_same : upd I7 py (.lst [.ref pf, .ref pg]) py = _)
    generalize upd I7 py (.lst [.ref pf, .ref pg]) = I8 at i8 hy
    have i68 := i67.trans i8
    refine ⟨_, _, two i68 (i68 _ _ hh) ⟨i68 _ _ hh1, i68 _ _ hh2⟩, two i68 hy ⟨i68 _ _ hF, i68 _ _ hG⟩, eqs_rcs.lst.shaped (by decide) _, eqs_rcs.lst.shaped (by decide) _, ?_⟩
    rw [eqs_rcs.lst.1, decide_eq_true rfl]
    exact q _
end
theorem all_mk {l : PySem.W.OpenLaw} {w : World} {K : PySem.W.Frag} {h : Heap} {mg : Str → Option Value} {fa f0 f1 f2 f3 f4 f5 f6 f7 f8 f9 f10 f11 f12 f13 f14 f15 f16 : Addr} (X : K.In h) (G : h.Ns mainGlobals mg) (hfa : mg "law" = some (.ref fa))
    {od0 an0 od1 an1 od2 an2 od3 an3 od4 an4 od5 an5 od6 an6 od7 an7 od8 an8 od9 an9 od10 an10 od11 an11 od12 an12 od13 an13 od14 an14 od15 an15 od16 an16 : Option Addr} {sl0 sl1 sl2 sl3 sl4 sl5 sl6 sl7 sl8 sl9 sl10 sl11 sl12 sl13 sl14 sl15 sl16 : Array (Option Value)} {oc0 kV0 dc0 pm0 cd0 ct0 oc1 kV1 dc1 pm1 cd1 ct1 oc2 kV2 dc2 pm2 cd2 ct2 oc3 kV3 dc3 pm3 cd3 ct3 oc4 kV4 dc4 pm4 cd4 ct4 oc5 kV5 dc5 pm5 cd5 ct5 oc6 kV6 dc6 pm6 cd6 ct6 oc7 kV7 dc7 pm7 cd7 ct7 oc8 kV8 dc8 pm8 cd8 ct8 oc9 kV9 dc9 pm9 cd9 ct9 oc10 kV10 dc10 pm10 cd10 ct10 oc11 kV11 dc11 pm11 cd11 ct11 oc12 kV12 dc12 pm12 cd12 ct12 oc13 kV13 dc13 pm13 cd13 ct13 oc14 kV14 dc14 pm14 cd14 ct14 oc15 kV15 dc15 pm15 cd15 ct15 oc16 kV16 dc16 pm16 cd16 ct16 : Value}
    (a0 : PySem.W.nsIn K mainGlobals "_law_deck" = some (some (.ref f0))) (l0 : K.lookup f0 = some ⟨oc0, od0, .func (PySem.W.fnOf "_law_deck" "_law_deck" (defArgs s_l_deck) (defBody s_l_deck) (defScope s_l_deck) .none kV0 dc0 pm0 an0 cd0 ct0), sl0⟩) (c0 : PySem.W.codeIn K cd0 "_law_deck" = true) (k0 : PySem.W.keepIn K (.ref f0) = true)
    (a1 : PySem.W.nsIn K mainGlobals "_law_draw" = some (some (.ref f1))) (l1 : K.lookup f1 = some ⟨oc1, od1, .func (PySem.W.fnOf "_law_draw" "_law_draw" (defArgs s_l_draw) (defBody s_l_draw) (defScope s_l_draw) .none kV1 dc1 pm1 an1 cd1 ct1), sl1⟩) (c1 : PySem.W.codeIn K cd1 "_law_draw" = true) (k1 : PySem.W.keepIn K (.ref f1) = true)
    (a2 : PySem.W.nsIn K mainGlobals "_law_rectangle" = some (some (.ref f2))) (l2 : K.lookup f2 = some ⟨oc2, od2, .func (PySem.W.fnOf "_law_rectangle" "_law_rectangle" (defArgs s_l_rectangle) (defBody s_l_rectangle) (defScope s_l_rectangle) .none kV2 dc2 pm2 an2 cd2 ct2), sl2⟩) (c2 : PySem.W.codeIn K cd2 "_law_rectangle" = true) (k2 : PySem.W.keepIn K (.ref f2) = true)
    (a3 : PySem.W.nsIn K mainGlobals "_law_rectangles" = some (some (.ref f3))) (l3 : K.lookup f3 = some ⟨oc3, od3, .func (PySem.W.fnOf "_law_rectangles" "_law_rectangles" (defArgs s_l_rectangles) (defBody s_l_rectangles) (defScope s_l_rectangles) .none kV3 dc3 pm3 an3 cd3 ct3), sl3⟩) (c3 : PySem.W.codeIn K cd3 "_law_rectangles" = true) (k3 : PySem.W.keepIn K (.ref f3) = true)
    (a4 : PySem.W.nsIn K mainGlobals "_law_points" = some (some (.ref f4))) (l4 : K.lookup f4 = some ⟨oc4, od4, .func (PySem.W.fnOf "_law_points" "_law_points" (defArgs s_l_points) (defBody s_l_points) (defScope s_l_points) .none kV4 dc4 pm4 an4 cd4 ct4), sl4⟩) (c4 : PySem.W.codeIn K cd4 "_law_points" = true) (k4 : PySem.W.keepIn K (.ref f4) = true)
    (a5 : PySem.W.nsIn K mainGlobals "_law_runs" = some (some (.ref f5))) (l5 : K.lookup f5 = some ⟨oc5, od5, .func (PySem.W.fnOf "_law_runs" "_law_runs" (defArgs s_l_runs) (defBody s_l_runs) (defScope s_l_runs) .none kV5 dc5 pm5 an5 cd5 ct5), sl5⟩) (c5 : PySem.W.codeIn K cd5 "_law_runs" = true) (k5 : PySem.W.keepIn K (.ref f5) = true)
    (a6 : PySem.W.nsIn K mainGlobals "_law_form" = some (some (.ref f6))) (l6 : K.lookup f6 = some ⟨oc6, od6, .func (PySem.W.fnOf "_law_form" "_law_form" (defArgs s_l_form) (defBody s_l_form) (defScope s_l_form) .none kV6 dc6 pm6 an6 cd6 ct6), sl6⟩) (c6 : PySem.W.codeIn K cd6 "_law_form" = true) (k6 : PySem.W.keepIn K (.ref f6) = true)
    (a7 : PySem.W.nsIn K mainGlobals "_steps_of" = some (some (.ref f7))) (l7 : K.lookup f7 = some ⟨oc7, od7, .func (PySem.W.fnOf "_steps_of" "_steps_of" (defArgs s_steps_of) (defBody s_steps_of) (defScope s_steps_of) .none kV7 dc7 pm7 an7 cd7 ct7), sl7⟩) (c7 : PySem.W.codeIn K cd7 "_steps_of" = true) (k7 : PySem.W.keepIn K (.ref f7) = true)
    (a8 : PySem.W.nsIn K mainGlobals "_edges_behind" = some (some (.ref f8))) (l8 : K.lookup f8 = some ⟨oc8, od8, .func (PySem.W.fnOf "_edges_behind" "_edges_behind" (defArgs s_edges_behind) (defBody s_edges_behind) (defScope s_edges_behind) .none kV8 dc8 pm8 an8 cd8 ct8), sl8⟩) (c8 : PySem.W.codeIn K cd8 "_edges_behind" = true) (k8 : PySem.W.keepIn K (.ref f8) = true)
    (a9 : PySem.W.nsIn K mainGlobals "_combined_edges" = some (some (.ref f9))) (l9 : K.lookup f9 = some ⟨oc9, od9, .func (PySem.W.fnOf "_combined_edges" "_combined_edges" (defArgs s_combined_edges) (defBody s_combined_edges) (defScope s_combined_edges) .none kV9 dc9 pm9 an9 cd9 ct9), sl9⟩) (c9 : PySem.W.codeIn K cd9 "_combined_edges" = true) (k9 : PySem.W.keepIn K (.ref f9) = true)
    (a10 : PySem.W.nsIn K mainGlobals "_combined_steps" = some (some (.ref f10))) (l10 : K.lookup f10 = some ⟨oc10, od10, .func (PySem.W.fnOf "_combined_steps" "_combined_steps" (defArgs s_combined_steps) (defBody s_combined_steps) (defScope s_combined_steps) .none kV10 dc10 pm10 an10 cd10 ct10), sl10⟩) (c10 : PySem.W.codeIn K cd10 "_combined_steps" = true) (k10 : PySem.W.keepIn K (.ref f10) = true)
    (a11 : PySem.W.nsIn K mainGlobals "_bands_of" = some (some (.ref f11))) (l11 : K.lookup f11 = some ⟨oc11, od11, .func (PySem.W.fnOf "_bands_of" "_bands_of" (defArgs s_bands_of) (defBody s_bands_of) (defScope s_bands_of) .none kV11 dc11 pm11 an11 cd11 ct11), sl11⟩) (c11 : PySem.W.codeIn K cd11 "_bands_of" = true) (k11 : PySem.W.keepIn K (.ref f11) = true)
    (a12 : PySem.W.nsIn K mainGlobals "_rectangles_of" = some (some (.ref f12))) (l12 : K.lookup f12 = some ⟨oc12, od12, .func (PySem.W.fnOf "_rectangles_of" "_rectangles_of" (defArgs s_rectangles_of) (defBody s_rectangles_of) (defScope s_rectangles_of) .none kV12 dc12 pm12 an12 cd12 ct12), sl12⟩) (c12 : PySem.W.codeIn K cd12 "_rectangles_of" = true) (k12 : PySem.W.keepIn K (.ref f12) = true)
    (a13 : PySem.W.nsIn K mainGlobals "_combined_regions" = some (some (.ref f13))) (l13 : K.lookup f13 = some ⟨oc13, od13, .func (PySem.W.fnOf "_combined_regions" "_combined_regions" (defArgs s_combined_regions) (defBody s_combined_regions) (defScope s_combined_regions) .none kV13 dc13 pm13 an13 cd13 ct13), sl13⟩) (c13 : PySem.W.codeIn K cd13 "_combined_regions" = true) (k13 : PySem.W.keepIn K (.ref f13) = true)
    (a14 : PySem.W.nsIn K mainGlobals "union" = some (some (.ref f14))) (l14 : K.lookup f14 = some ⟨oc14, od14, .func (PySem.W.fnOf "union" "union" (defArgs s_union) (defBody s_union) (defScope s_union) .none kV14 dc14 pm14 an14 cd14 ct14), sl14⟩) (c14 : PySem.W.codeIn K cd14 "union" = true) (k14 : PySem.W.keepIn K (.ref f14) = true)
    (a15 : PySem.W.nsIn K mainGlobals "_law_is" = some (some (.ref f15))) (l15 : K.lookup f15 = some ⟨oc15, od15, .func (PySem.W.fnOf "_law_is" "_law_is" (defArgs s_l_is) (defBody s_l_is) (defScope s_l_is) .none kV15 dc15 pm15 an15 cd15 ct15), sl15⟩) (c15 : PySem.W.codeIn K cd15 "_law_is" = true) (k15 : PySem.W.keepIn K (.ref f15) = true)
    (a16 : PySem.W.nsIn K mainGlobals "law" = some (some (.ref f16))) (l16 : K.lookup f16 = some ⟨oc16, od16, .func (PySem.W.fnOf "law" "law" (defArgs s_law) (defBody s_law) (defScope s_law) .none kV16 dc16 pm16 an16 cd16 ct16), sl16⟩) (c16 : PySem.W.codeIn K cd16 "law" = true) (k16 : PySem.W.keepIn K (.ref f16) = true)
    (z_abs : PySem.W.nsIn K mainGlobals "abs" = some none)
    (z_bool : PySem.W.nsIn K mainGlobals "bool" = some none)
    (z_enumerate : PySem.W.nsIn K mainGlobals "enumerate" = some none)
    (z_int : PySem.W.nsIn K mainGlobals "int" = some none)
    (z_isinstance : PySem.W.nsIn K mainGlobals "isinstance" = some none)
    (z_len : PySem.W.nsIn K mainGlobals "len" = some none)
    (z_list : PySem.W.nsIn K mainGlobals "list" = some none)
    (z_range : PySem.W.nsIn K mainGlobals "range" = some none)
    (z_sorted : PySem.W.nsIn K mainGlobals "sorted" = some none)
    (z_tuple : PySem.W.nsIn K mainGlobals "tuple" = some none)
    (z_zip : PySem.W.nsIn K mainGlobals "zip" = some none)
     {x__EITHER : Addr} {xd__EITHER : Option Addr} {xn__EITHER : Nat} {xs__EITHER : Array (Option Value)} (z__EITHER : PySem.W.nsIn K mainGlobals "_EITHER" = some (some (.ref x__EITHER))) (y__EITHER : K.lookup x__EITHER = some ⟨.type "tuple", xd__EITHER, .seq #[.bool false, .bool true, .bool true, .bool true] xn__EITHER, xs__EITHER⟩)
    : ∃ fd : FuncData, (∀ (s : Shared) (v : Value), BindsTo s fd ⟨[v], []⟩ [("script", v)]) ∧ ∀ base : Heap, K.In base → base.Ns mainGlobals mg → FnOk l.prog w K mg base CX0 6 fa fd ["script"] (spLaw K) := by
  have e := hfa.symm.trans (PySem.W.mg_of X G a16)
  cases e
  have T : Txt K mg := ⟨PySem.W.mg_none_of X G z_abs, PySem.W.mg_none_of X G z_bool, PySem.W.mg_none_of X G z_enumerate, PySem.W.mg_none_of X G z_int, PySem.W.mg_none_of X G z_isinstance, PySem.W.mg_none_of X G z_len, PySem.W.mg_none_of X G z_list, PySem.W.mg_none_of X G z_range, PySem.W.mg_none_of X G z_sorted, PySem.W.mg_none_of X G z_tuple, PySem.W.mg_none_of X G z_zip, ⟨_, PySem.W.mg_of X G z__EITHER, fun H => .inr ⟨_, _, _, y__EITHER, rfl, rfl, by show 4 ≤ sizeLine; decide, by repeat (first | exact .nil | refine .cons rfl ?_ | refine .cons ⟨_, rfl⟩ ?_)⟩⟩⟩
  refine ⟨PySem.W.fnOf "law" "law" (defArgs s_law) (defBody s_law) (defScope s_law) .none kV16 dc16 pm16 an16 cd16 ct16, fun s v => .of_eq rfl, fun base _ _ => ?_⟩
  have F0 := fun_mk (st := s_l_deck) l0 c0 k0
  have D_l_deck : Def l.prog w K mg base CX0 "_law_deck" 1 ["script"] (spDeck K) := ⟨f0, _, ok_l_deck F0 T, PySem.W.mg_of X G a0, k0, F0.binds (ps := ["script"]) fun _ _ _ _ _ _ us hl => match us, hl with | [_], _ => rfl⟩
  have F1 := fun_mk (st := s_l_draw) l1 c1 k1
  have D_l_draw : Def l.prog w K mg base CX0 "_law_draw" 1 ["deck", "bound"] (spDraw K) := ⟨f1, _, ok_l_draw F1 T, PySem.W.mg_of X G a1, k1, F1.binds (ps := ["deck", "bound"]) fun _ _ _ _ _ _ us hl => match us, hl with | [_, _], _ => rfl⟩
  have F2 := fun_mk (st := s_l_rectangle) l2 c2 k2
  have D_l_rectangle : Def l.prog w K mg base CX0 "_law_rectangle" 2 ["deck", "size"] (spRectangle K) := ⟨f2, _, ok_l_rectangle F2 T D_l_draw, PySem.W.mg_of X G a2, k2, F2.binds (ps := ["deck", "size"]) fun _ _ _ _ _ _ us hl => match us, hl with | [_, _], _ => rfl⟩
  have F3 := fun_mk (st := s_l_rectangles) l3 c3 k3
  have D_l_rectangles : Def l.prog w K mg base CX0 "_law_rectangles" 3 ["deck", "count", "size"] (spRectangles K) := ⟨f3, _, ok_l_rectangles F3 T D_l_draw D_l_rectangle, PySem.W.mg_of X G a3, k3, F3.binds (ps := ["deck", "count", "size"]) fun _ _ _ _ _ _ us hl => match us, hl with | [_, _, _], _ => rfl⟩
  have F4 := fun_mk (st := s_l_points) l4 c4 k4
  have D_l_points : Def l.prog w K mg base CX0 "_law_points" 1 ["rectangles"] (spPoints K) := ⟨f4, _, ok_l_points F4 T, PySem.W.mg_of X G a4, k4, F4.binds (ps := ["rectangles"]) fun _ _ _ _ _ _ us hl => match us, hl with | [_], _ => rfl⟩
  have F5 := fun_mk (st := s_l_runs) l5 c5 k5
  have D_l_runs : Def l.prog w K mg base CX0 "_law_runs" 1 ["points", "y"] (spRuns K) := ⟨f5, _, ok_l_runs F5 T, PySem.W.mg_of X G a5, k5, F5.binds (ps := ["points", "y"]) fun _ _ _ _ _ _ us hl => match us, hl with | [_, _], _ => rfl⟩
  have F6 := fun_mk (st := s_l_form) l6 c6 k6
  have D_l_form : Def l.prog w K mg base CX0 "_law_form" 2 ["points"] (spForm K) := ⟨f6, _, ok_l_form F6 T D_l_runs, PySem.W.mg_of X G a6, k6, F6.binds (ps := ["points"]) fun _ _ _ _ _ _ us hl => match us, hl with | [_], _ => rfl⟩
  have F7 := fun_mk (st := s_steps_of) l7 c7 k7
  have D_steps_of : Def l.prog w K mg base CX0 "_steps_of" 1 ["rectangles"] (spStepsOf K) := ⟨f7, _, ok_steps_of F7 T, PySem.W.mg_of X G a7, k7, F7.binds (ps := ["rectangles"]) fun _ _ _ _ _ _ us hl => match us, hl with | [_], _ => rfl⟩
  have F8 := fun_mk (st := s_edges_behind) l8 c8 k8
  have D_edges_behind : Def l.prog w K mg base CX0 "_edges_behind" 1 ["steps", "passed"] (spBehind) := ⟨f8, _, ok_edges_behind F8 T, PySem.W.mg_of X G a8, k8, F8.binds (ps := ["steps", "passed"]) fun _ _ _ _ _ _ us hl => match us, hl with | [_, _], _ => rfl⟩
  have F9 := fun_mk (st := s_combined_edges) l9 c9 k9
  have D_combined_edges : Def l.prog w K mg base CX0 "_combined_edges" 1 ["first", "second", "kept"] (spEdges K) := ⟨f9, _, ok_combined_edges F9 T, PySem.W.mg_of X G a9, k9, F9.binds (ps := ["first", "second", "kept"]) fun _ _ _ _ _ _ us hl => match us, hl with | [_, _, _], _ => rfl⟩
  have F10 := fun_mk (st := s_combined_steps) l10 c10 k10
  have D_combined_steps : Def l.prog w K mg base CX0 "_combined_steps" 2 ["first", "second", "kept"] (spSteps K) := ⟨f10, _, ok_combined_steps F10 T D_edges_behind D_combined_edges, PySem.W.mg_of X G a10, k10, F10.binds (ps := ["first", "second", "kept"]) fun _ _ _ _ _ _ us hl => match us, hl with | [_, _, _], _ => rfl⟩
  have F11 := fun_mk (st := s_bands_of) l11 c11 k11
  have D_bands_of : Def l.prog w K mg base CX0 "_bands_of" 1 ["steps"] (spBands K) := ⟨f11, _, ok_bands_of F11 T, PySem.W.mg_of X G a11, k11, F11.binds (ps := ["steps"]) fun _ _ _ _ _ _ us hl => match us, hl with | [_], _ => rfl⟩
  have F12 := fun_mk (st := s_rectangles_of) l12 c12 k12
  have D_rectangles_of : Def l.prog w K mg base CX0 "_rectangles_of" 2 ["steps"] (spRectsOf K) := ⟨f12, _, ok_rectangles_of F12 T D_bands_of, PySem.W.mg_of X G a12, k12, F12.binds (ps := ["steps"]) fun _ _ _ _ _ _ us hl => match us, hl with | [_], _ => rfl⟩
  have F13 := fun_mk (st := s_combined_regions) l13 c13 k13
  have D_combined_regions : Def l.prog w K mg base CX0 "_combined_regions" 3 ["first", "second", "kept"] (spCombined K) := ⟨f13, _, ok_combined_regions F13 T D_rectangles_of D_combined_steps D_steps_of, PySem.W.mg_of X G a13, k13, F13.binds (ps := ["first", "second", "kept"]) fun _ _ _ _ _ _ us hl => match us, hl with | [_, _, _], _ => rfl⟩
  have F14 := fun_mk (st := s_union) l14 c14 k14
  have D_union : Def l.prog w K mg base CX0 "union" 4 ["first", "second"] (spTwo K fun a b => a ∨ b) := ⟨f14, _, ok_union F14 T D_combined_regions, PySem.W.mg_of X G a14, k14, F14.binds (ps := ["first", "second"]) fun _ _ _ _ _ _ us hl => match us, hl with | [_, _], _ => rfl⟩
  have F15 := fun_mk (st := s_l_is) l15 c15 k15
  have D_l_is : Def l.prog w K mg base CX0 "_law_is" 5 ["actual", "due"] (spIs 5) := ⟨f15, _, ok_l_is F15 T (PySem.W.mg_of X G a15), PySem.W.mg_of X G a15, k15, F15.binds (ps := ["actual", "due"]) fun _ _ _ _ _ _ us hl => match us, hl with | [_, _], _ => rfl⟩
  exact ok_law (fun_mk (st := s_law) l16 c16 k16) T D_l_deck D_l_draw D_l_rectangles D_l_points D_l_form D_union D_l_is
theorem walk {l : PySem.W.OpenLaw} {q : Program} {loose : List Str} {XP : (Str → Option Value) → Heap → Prop} {YP : World → Heap → Prop} {d : DefRec} {K : Params → PySem.W.Frag} (hn : l.most = some 63) (hdf : d.params.defaults = [])
    (hY : ∀ (w : World) (h : Heap), YP w h → (K w.params).In h)
    (F : ∀ (w : World) (mg : Str → Option Value) (fa : Addr) (h : Heap), (K w.params).In h → h.Ns mainGlobals mg → mg d.name = some (.ref fa) →
      ∃ fd : FuncData, (∀ (s : Shared) (u : Value), BindsTo s fd ⟨[u], []⟩ [("script", u)]) ∧ ∀ base : Heap, (K w.params).In base → base.Ns mainGlobals mg → FnOk l.prog w (K w.params) mg base CX0 6 fa fd ["script"] (spLaw (K w.params))) :
    PySem.W.WalkO q loose XP YP l.row.toRowW d [] (fun f vs => PySem.call f vs) :=
  L2.walk_of (n := 63) (k := 6) (x := "script") (CX := fun _ => CX0) (sp := fun w => spLaw (K w.params)) hn (by decide) hdf ⟨rfl, by decide, by decide⟩ hY F (fun _ _ a ns hl _ hS => ⟨a, ns, rfl, hS, hl, fun _ => rfl⟩) fun _ _ _ _ _ z => z
end Od
open PySem PySem.W PyProof.Rows in
set_option maxRecDepth 100000 in
set_option maxHeartbeats 0 in
theorem PySem.Challenge.cw_onlythedirt_k04_union_holds : PySem.Challenge.rw_onlythedirt_k04_union.Holds := by
  w_on; o_law; k_head; (case hw => w_witness2)
  k_fill
  refine Od.walk (l := PySem.Challenge.rw_onlythedirt_k04_union) rfl rfl (fun w h Y => PySem.W.kIn_of Y) ?F
  case F =>
    intro w mg fa h KX G hmg
    refine' Od.all_mk KX G hmg ?a0 ?l0 ?c0 ?k0 ?a1 ?l1 ?c1 ?k1 ?a2 ?l2 ?c2 ?k2 ?a3 ?l3 ?c3 ?k3 ?a4 ?l4 ?c4 ?k4 ?a5 ?l5 ?c5 ?k5 ?a6 ?l6 ?c6 ?k6 ?a7 ?l7 ?c7 ?k7 ?a8 ?l8 ?c8 ?k8 ?a9 ?l9 ?c9 ?k9 ?a10 ?l10 ?c10 ?k10 ?a11 ?l11 ?c11 ?k11 ?a12 ?l12 ?c12 ?k12 ?a13 ?l13 ?c13 ?k13 ?a14 ?l14 ?c14 ?k14 ?a15 ?l15 ?c15 ?k15 ?a16 ?l16 ?c16 ?k16 ?z_abs ?z_bool ?z_enumerate ?z_int ?z_isinstance ?z_len ?z_list ?z_range ?z_sorted ?z_tuple ?z_zip ?z__EITHER ?y__EITHER
    (case a0 => k_is)
    (case l0 => k_is)
    (case c0 => k_is)
    (case k0 => k_is)
    (case a1 => k_is)
    (case l1 => k_is)
    (case c1 => k_is)
    (case k1 => k_is)
    (case a2 => k_is)
    (case l2 => k_is)
    (case c2 => k_is)
    (case k2 => k_is)
    (case a3 => k_is)
    (case l3 => k_is)
    (case c3 => k_is)
    (case k3 => k_is)
    (case a4 => k_is)
    (case l4 => k_is)
    (case c4 => k_is)
    (case k4 => k_is)
    (case a5 => k_is)
    (case l5 => k_is)
    (case c5 => k_is)
    (case k5 => k_is)
    (case a6 => k_is)
    (case l6 => k_is)
    (case c6 => k_is)
    (case k6 => k_is)
    (case a7 => k_is)
    (case l7 => k_is)
    (case c7 => k_is)
    (case k7 => k_is)
    (case a8 => k_is)
    (case l8 => k_is)
    (case c8 => k_is)
    (case k8 => k_is)
    (case a9 => k_is)
    (case l9 => k_is)
    (case c9 => k_is)
    (case k9 => k_is)
    (case a10 => k_is)
    (case l10 => k_is)
    (case c10 => k_is)
    (case k10 => k_is)
    (case a11 => k_is)
    (case l11 => k_is)
    (case c11 => k_is)
    (case k11 => k_is)
    (case a12 => k_is)
    (case l12 => k_is)
    (case c12 => k_is)
    (case k12 => k_is)
    (case a13 => k_is)
    (case l13 => k_is)
    (case c13 => k_is)
    (case k13 => k_is)
    (case a14 => k_is)
    (case l14 => k_is)
    (case c14 => k_is)
    (case k14 => k_is)
    (case a15 => k_is)
    (case l15 => k_is)
    (case c15 => k_is)
    (case k15 => k_is)
    (case a16 => k_is)
    (case l16 => k_is)
    (case c16 => k_is)
    (case k16 => k_is)
    (case z_abs => k_is)
    (case z_bool => k_is)
    (case z_enumerate => k_is)
    (case z_int => k_is)
    (case z_isinstance => k_is)
    (case z_len => k_is)
    (case z_list => k_is)
    (case z_range => k_is)
    (case z_sorted => k_is)
    (case z_tuple => k_is)
    (case z_zip => k_is)
    (case z__EITHER => k_is)
    (case y__EITHER => k_is)
