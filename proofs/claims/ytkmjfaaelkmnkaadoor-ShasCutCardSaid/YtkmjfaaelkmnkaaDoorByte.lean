/-
  Small laws of rows: append onto a row of the call's own; a byte of a block; a block that is made and written.
-/
import Derived.Test.YtkmjfaaelkmnkaaDoorLaw
import Derived.Test.YtkmjfaaelkmnkaaDoorPut
import Derived.Test.YtkmjfaaelkmnkaaDoorTwin
import Derived.Test.YtkmjfaaelkmnkaaDoorAbsent
import Derived.Laws.AppendOwnNone
namespace Go.Proofs.YtkmjfaaelkmnkaaDoor
open Go.RowKit
set_option linter.unusedSimpArgs false
set_option linter.unusedVariables false

/-- append onto a row of the call's own, from a slice that reads as a list, nil too -/
theorem wpList_append_rd {P : Program} (w : World) {ops : Array Oper} {rest : List Oper} {o : Oper} {a : Act} {Q : Exit → Act → World → Prop} (hgd : o.guard = none) (s x : Operand) (t : TypeId)
    (ho : o.op = .call { callee := .builtin .append, args := #[s, x], argTypes := #[t, t] })
    (base : Nat) (e : TypeId) (i : TypeInfo) (z : Value) (bytes : Nat) (ht : P.underlying t = some (.slice e)) (hi : P.info? e = some i) (hz : i.zero = some z)
    (hsize : i.size = 1) (hby : i.bytes = bytes) (hzs : z.cells.size = 1)
    (v : Value) (n : Nat) (xs : List Value) (hs : a.eval s = v) (hown : w.ownsRow base e 1 v n xs)
    (A : Option Addr) (m c : Nat) (news : List Value) (hx : a.eval x = .slice A m c) (hnil : A = none → m = 0 ∧ c = 0) (hr : Rd w A m news) (h1 : ∀ u ∈ news, u.oneCell' = true)
    (h63 : n + m ≤ maxLen) (hbytes : (n + m) * bytes ≤ 140737488355328) (hbase : base ≤ w.heap.size)
    (h : ∀ v' w', w'.ownsRow base e 1 v' (n + m) (xs ++ news) → w.grownBy w' v.ownBlock → wpList P ops Q rest (a.put o.dst v') w') :
    wpList P ops Q (o :: rest) a w := by
  cases A with
  | none =>
    obtain ⟨rfl, rfl⟩ := hnil rfl
    have hn : news = [] := List.eq_nil_of_length_eq_zero hr.1
    subst hn
    exact wpList_append_own_none hgd s x t ho base e i 1 ht hi v n xs hs hown hx (h v w (by simpa using hown) (World.grownBy.refl _ _))
  | some ad => exact wpList_append_own w hgd s x t ho base e i z 1 bytes ht hi hz hsize hby hzs (by decide) v n xs hs hown ad m c news hx (by rw [hr.1, Nat.mul_one]) (hr.src ad rfl) h1 h63 hbytes hbase fun v' w' h2 h3 _ => h v' w' h2 h3

theorem At.byte {w : World} {g : Nat} {t : TypeId} {l : List Nat} (h : At w g t (bs l).toArray) (k : Nat) (hk : k < l.length) : w.cell? ⟨g, k, none⟩ = some (.int .u8 (l.getD k 0 : Nat)) := by
  rw [h.cell, List.getElem?_toArray]; exact bs_at l k hk
theorem Twin.on {w w' : World} {g : Nat} {l : List Nat} (h : Twin w g l) (hb : Below w.heap.size w w') : Twin w' g l := At.on h hb
theorem New.put {w w1 w2 : World} {t : TypeId} {cs cs' : Array Value} (h : New w w1 t cs) (p : Put w1 w2 w.heap.size t cs') : Below w.heap.size w w2 :=
  h.bel.grown p.grown (by rw [h.size]; omega) (fun k e => by injection e with e; omega)
theorem Put.hash {w w' : World} {g : Nat} (h : List Nat) (hl : h.length = 32) (p : Put w w' g 28 (put (bs (List.replicate 32 0)).toArray 0 (bs h))) : At w' g 28 (bs h).toArray := by
  have := p.at_
  rwa [put_all _ _ (by simp [bs, hl])] at this

end Go.Proofs.YtkmjfaaelkmnkaaDoor
