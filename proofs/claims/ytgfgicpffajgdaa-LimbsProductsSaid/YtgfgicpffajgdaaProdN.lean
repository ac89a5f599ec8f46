/-
  The numbers behind LimbsProducts.
-/
import Derived.Test.YtgfgicpffajgdaaEq
namespace Go.Proofs.Ytgfgicpffajgdaa
open Go.RowKit

theorem prod_nums (X Y Z s more x y p q r t u m v n v2 o : Nat) (hX : X < 2 ^ 256) (hY : Y < 2 ^ 256) (hZ : Z < 2 ^ 256) (hs : s < 2 ^ 256) (hm : more ≤ 1) (es : X + Y = s + 2 ^ 256 * more)
    (hx : x < 2 ^ 256) (hy : y < 2 ^ 256) (ex : s * Z = x + 2 ^ 256 * y) (hp : p < 2 ^ 256) (hq : q < 2 ^ 256) (ep : X * Z = p + 2 ^ 256 * q) (hr : r < 2 ^ 256) (ht : t < 2 ^ 256) (er : Y * Z = r + 2 ^ 256 * t)
    (hu : u < 2 ^ 256) (hm1 : m ≤ 1) (eu : p + r = u + 2 ^ 256 * m) (hv : v < 2 ^ 256) (hn : n ≤ 1) (ev : q + t = v + 2 ^ 256 * n) (hv2 : v2 < 2 ^ 256) (ho : o ≤ 1) (ev2 : v + m = v2 + 2 ^ 256 * o) :
    x = u ∧ (more = 0 → v2 = y ∧ n = 0 ∧ o = 0) ∧ (more = 1 → ∀ y2 c, y2 < 2 ^ 256 → y + Z = y2 + 2 ^ 256 * c → v2 = y2) := by
  have b : (X + Y) * Z = s * Z + 2 ^ 256 * (more * Z) := by rw [es, Nat.add_mul, Nat.mul_assoc]
  rw [Nat.add_mul] at b
  have hsz : s * Z < 2 ^ 256 * 2 ^ 256 := Nat.mul_lt_mul'' hs hZ
  have hmz : more = 0 ∧ more * Z = 0 ∨ more = 1 ∧ more * Z = Z := by
    have : more = 0 ∨ more = 1 := by omega
    rcases this with h | h
    · subst h; simp
    · subst h; simp
  rw [ep, er, ex] at b
  rw [ex] at hsz
  generalize more * Z = mz at *
  clear es ep er ex
  rcases hmz with ⟨h1, h2⟩ | ⟨h1, h2⟩
  · subst h1 h2
    refine ⟨by omega, fun _ => by omega, fun h => by omega⟩
  · subst h1 h2
    refine ⟨by omega, fun h => by omega, fun _ y2 c hy2 e => by omega⟩
end Go.Proofs.Ytgfgicpffajgdaa
