/- The contracts of the package nodes, all of them: they lie in the texts that this one imports. -/
import Derived.Test.YtmmflpjfgapaaaaNdP3
import Derived.Test.YtmmflpjfgapaaaaNodes11
import Derived.Test.YtmmflpjfgapaaaaNodesS
import Derived.Test.YtmmflpjfgapaaaaOpen4
namespace Go.Proofs.Ytmmflpjfgapaaaa
open Go.RowKit Go.ChangeShapes Go.WideShapes Go.ChangeAt
set_option linter.unusedSimpArgs false
set_option linter.unusedVariables false
attribute [local go_sem] plus_size plus_drew dn_set dn_alloc dn_plus plus_dn cell_plus frozen_plus set_plus cell_alloc frozen_alloc set_alloc

end Go.Proofs.Ytmmflpjfgapaaaa
