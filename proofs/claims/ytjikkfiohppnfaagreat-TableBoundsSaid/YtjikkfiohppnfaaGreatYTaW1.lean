/- Tables: contracts: the law's ranges by words, and whether a number is in a list. -/
import Derived.Test.YtjikkfiohppnfaaGreatYTaK4
import Derived.Test.YtjikkfiohppnfaaGreatYTaAw
set_option linter.all false
set_option linter.unusedSimpArgs false
set_option linter.unusedVariables false
namespace Go.Proofs.YtjikkfiohppnfaaGreat
open Go Go.Ev
set_option maxRecDepth 1000000
noncomputable section
end
end Go.Proofs.YtjikkfiohppnfaaGreat
