import Derived.Test.YtfnkldkplkhobaaX09k
namespace Go.Proofs.Ytfnkldkplkhobaa.Vx
open Go Go.RowKit
theorem t8k : (ev_W8 []).sel = some true := fn_W8_t_im _ rfl
end Go.Proofs.Ytfnkldkplkhobaa.Vx
