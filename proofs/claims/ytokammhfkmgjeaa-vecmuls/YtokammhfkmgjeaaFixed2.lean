/- What the functions of package fixed give, on: Scale, Div, Join, Holds. -/
import Derived.Test.YtokammhfkmgjeaaFixed
import Derived.Test.YtokammhfkmgjeaaTail
namespace Go.Proofs.Ytokammhfkmgjeaa
open Go.RowKit
set_option linter.unusedSimpArgs false
attribute [local go_sem] plus_size plus_drew dn_set dn_alloc dn_plus plus_dn cell_plus frozen_plus set_plus cell_alloc frozen_alloc set_alloc

theorem quo_in {a b k : Int} (g1 : -1099511627776 ≤ a) (g2 : b ≤ 1099511627776) (g3 : a ≤ b) (k1 : 1 ≤ k) : chk (a / k) (b / k) = 0 := by
  have d1 := div_bd (a := a) k1 (-1099511627776) 1099511627776 g1 (by omega) (by omega) (by omega)
  have d2 := div_bd (a := b) k1 (-1099511627776) 1099511627776 (by omega) (by omega) g2 (by omega)
  exact chk_yes d1.1 d2.2 (div_mono k1 g3)

theorem join_in {a b c d : Int} (g1 : -1099511627776 ≤ a) (g2 : b ≤ 1099511627776) (g3 : a ≤ b) (g4 : -1099511627776 ≤ c) (g5 : d ≤ 1099511627776) (g6 : c ≤ d) : chk (min a c) (max b d) = 0 := by
  exact chk_yes (by omega) (by omega) (by omega)

end Go.Proofs.Ytokammhfkmgjeaa
