import Derived.KernelRfl
namespace Go.Proofs.YtkbcmkfgkomddaaDoor.Rt
end Go.Proofs.YtkbcmkfgkomddaaDoor.Rt
