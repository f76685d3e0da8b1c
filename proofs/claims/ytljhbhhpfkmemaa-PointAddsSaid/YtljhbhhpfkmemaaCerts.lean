/-
  The curve's prime and its order are primes.
-/
import Derived.Test.YtljhbhhpfkmemaaPrime
import Derived.Test.YtljhbhhpfkmemaaFieldM
namespace Go.Proofs.Ytljhbhhpfkmemaa
set_option linter.unusedVariables false
set_option maxRecDepth 100000
theorem p107590001 : Pr 107590001 := small_prime 10373 (by kernel_rfl) (by kernel_rfl)
theorem p7240687 : Pr 7240687 := small_prime 2691 (by kernel_rfl) (by kernel_rfl)
theorem p96557 : Pr 96557 := small_prime 311 (by kernel_rfl) (by kernel_rfl)
theorem p545358713 : Pr 545358713 := small_prime 23353 (by kernel_rfl) (by kernel_rfl)
theorem p1627771 : Pr 1627771 := small_prime 1276 (by kernel_rfl) (by kernel_rfl)
theorem p44706919 : Pr 44706919 := small_prime 6687 (by kernel_rfl) (by kernel_rfl)
theorem p120233 : Pr 120233 := small_prime 347 (by kernel_rfl) (by kernel_rfl)
theorem q0 : Pr 255515944373312847190720520512484175977 := Pock3 (f := 128) (a1 := 2) (a2 := 2) (a3 := 2) p107590001 p7240687 p96557 (by kernel_rfl) (by kernel_rfl) (by kernel_rfl) (by kernel_rfl) (by kernel_rfl)
theorem q1 : Pr 205115282021455665897114700593932402728804164701536103180137503955397371 := Pock1 (f := 237) (a := 2) q0 (by kernel_rfl) (by kernel_rfl) (by kernel_rfl)
theorem pr_prime0 : Pr 115792089237316195423570985008687907853269984665640564039457584007908834671663 := Pock1 (f := 256) (a := 2) q1 (by kernel_rfl) (by kernel_rfl) (by kernel_rfl)
theorem q3 : Pr 297159362677 := Pock1 (f := 39) (a := 2) p1627771 (by kernel_rfl) (by kernel_rfl) (by kernel_rfl)
theorem q4 : Pr 29047611873442575647497758179 := Pock2 (f := 95) (a1 := 2) (a2 := 2) q3 p545358713 (by kernel_rfl) (by kernel_rfl) (by kernel_rfl) (by kernel_rfl)
theorem q5 : Pr 341948486974166000522343609283189 := Pock1 (f := 109) (a := 2) q4 (by kernel_rfl) (by kernel_rfl) (by kernel_rfl)
theorem q6 : Pr 174723607534414371449 := Pock2 (f := 68) (a1 := 2) (a2 := 2) p44706919 p120233 (by kernel_rfl) (by kernel_rfl) (by kernel_rfl) (by kernel_rfl)
theorem nr_prime0 : Pr 115792089237316195423570985008687907852837564279074904382605163141518161494337 := Pock2 (f := 256) (a1 := 2) (a2 := 2) q5 q6 (by kernel_rfl) (by kernel_rfl) (by kernel_rfl) (by kernel_rfl)
theorem pr_prime : Pr PR := pr_prime0
theorem nr_prime : Pr NR := nr_prime0
end Go.Proofs.Ytljhbhhpfkmemaa
