import Derived.Test.YtldekgkjofgacaaZwd1
set_option linter.all false
/- lampblack/lampblacklaw03.Works, computed down into its ca -/
namespace Go.Proofs.Ytldekgkjofgacaa
open Ev
noncomputable section
variable (w:BaseW) (eb:EB) (ec:EC)
theorem ZwG150:Goes pg 46 ZwC178 ZwT118.lit (bw w 1441 eb ec) (Land 46 isN ZwT119.lit (bw w 1441 eb ec)):=goes_partL (k:=1000) cm (by kernel_rfl) rfl rfl (by kernel_rfl)
theorem ZwG152:Goes pg 46 ZwC178 ZwT120.lit (bw w 1441 eb ec) (Land 46 isN ZwT121.lit (bw w 1441 eb ec)):=goes_partL (k:=1000) cm (by kernel_rfl) rfl rfl (by kernel_rfl)
theorem ZwG88:Goes pg 46 ZwC118 ZwT76.lit (bw w 919 eb ec) (Land 46 isN ZwT77.lit (bw w 919 eb ec)):=goes_partL (k:=1000) cm (by kernel_rfl) rfl rfl (by kernel_rfl)
theorem ZwG118:Goes pg 46 ZwC148 ZwT96.lit (bw w 1306 eb ec) (Land 46 isN ZwT97.lit (bw w 1306 eb ec)):=goes_partL (k:=1000) cm (by kernel_rfl) rfl rfl (by kernel_rfl)
theorem ZwG84:Goes pg 46 ZwC118 ZwT72.lit (bw w 919 eb ec) (Land 46 isN ZwT73.lit (bw w 919 eb ec)):=goes_partL (k:=1000) cm (by kernel_rfl) rfl rfl (by kernel_rfl)
theorem ZwG86:Goes pg 46 ZwC118 ZwT74.lit (bw w 919 eb ec) (Land 46 isN ZwT75.lit (bw w 919 eb ec)):=goes_partL (k:=1000) cm (by kernel_rfl) rfl rfl (by kernel_rfl)
theorem ZwG53:Goes pg 46 ZwC88 ZwT51.lit (bw w 532 eb ec) (Land 46 isN ZwT52.lit (bw w 532 eb ec)):=goes_partL (k:=1000) cm (by kernel_rfl) rfl rfl (by kernel_rfl)
theorem ZwG49:Goes pg 46 ZwC88 ZwT47.lit (bw w 532 eb ec) (Land 46 isN ZwT48.lit (bw w 532 eb ec)):=goes_partL (k:=1000) cm (by kernel_rfl) rfl rfl (by kernel_rfl)
theorem ZwG21:Goes pg 46 ZwC54 ZwT25.lit (bw w 397 eb ec) (Land 46 isN ZwT26.lit (bw w 397 eb ec)):=goes_partL (k:=1000) cm (by kernel_rfl) rfl rfl (by kernel_rfl)
theorem ZwG5:Goes pg 161 ZwC10 ZwT4 (bw w 0 eb ec) (Land 161 isN ZwT5 (bw w 0 eb ec)):=goes_part (k:=1000) cm (by kernel_rfl) (by kernel_rfl)
theorem ZwG11:Goes pg 56 ZwC26 ZwT12 (bw w 331 eb ec) (Land 56 isN ZwT13 (bw w 331 eb ec)):=goes_part (k:=1000) cm (by kernel_rfl) (by kernel_rfl)
theorem ZwG179:Goes pg 46 ZwC203 ZwT137.lit (bw w 1702 eb ec) (Land 46 isN ZwT138.lit (bw w 1702 eb ec)):=goes_partL (k:=1000) cm (by kernel_rfl) rfl rfl (by kernel_rfl)
theorem ZwG116:Goes pg 46 ZwC143 ZwT94.lit (bw w 1306 eb ec) (Land 46 isN ZwT95.lit (bw w 1306 eb ec)):=goes_partL (k:=1000) cm (by kernel_rfl) rfl rfl (by kernel_rfl)
theorem ZwG2:Goes pg 161 ZwC4 ZwT1 (bw w 0 eb ec) (Land 161 isN ZwT2 (bw w 0 eb ec)):=goes_part (k:=1000) cm (by kernel_rfl) (by kernel_rfl)
theorem ZwG79:Goes pg 46 ZwC111 ZwT67.lit (bw w 919 eb ec) (Land 46 isN ZwT68.lit (bw w 919 eb ec)):=goes_partL (k:=1000) cm (by kernel_rfl) rfl rfl (by kernel_rfl)
theorem ZwG154:Goes pg 46 ZwC178 ZwT122.lit (bw w 1441 eb ec) (Land 46 (isX 0) ZwT123.lit (bw w 1441 eb ec)):=goes_partL (k:=1000) cm (by kernel_rfl) rfl rfl (by kernel_rfl)
theorem ZwG121:Goes pg 46 ZwC148 ZwT99.lit (bw w 1306 eb ec) (Land 46 (isX 0) ZwT100.lit (bw w 1306 eb ec)):=goes_partL (k:=1000) cm (by kernel_rfl) rfl rfl (by kernel_rfl)
theorem ZwG111:Goes pg 56 ZwC124 ZwT86 (bw w 331 eb ec) (Land 56 isN ZwT87 (bw w 331 eb ec)):=goes_part (k:=1000) cm (by kernel_rfl) (by kernel_rfl)
theorem ZwG195:Goes pg 11 ZwC209 ZwT146 (bw w 1699 eb ec) (Land 11 isR ZwT147 (bw w 1699 eb ec)):=goes_part (k:=1000) cm (by kernel_rfl) (by kernel_rfl)
theorem ZwG45:Goes pg 46 ZwC85 ZwT43.lit (bw w 532 eb ec) (Land 46 isN ZwT44.lit (bw w 532 eb ec)):=goes_partL (k:=1000) cm (by kernel_rfl) rfl rfl (by kernel_rfl)
theorem ZwG130:Goes pg 11 ZwC149 ZwT101 (bw w 1303 eb ec) (Land 11 isR ZwT102 (bw w 1303 eb ec)):=goes_part (k:=1000) cm (by kernel_rfl) (by kernel_rfl)
theorem ZwG20:Goes pg 46 ZwC51 ZwT24.lit (bw w 397 eb ec) (Land 46 isN ZwT25.lit (bw w 397 eb ec)):=goes_partL (k:=1000) cm (by kernel_rfl) rfl rfl (by kernel_rfl)
theorem ZwG138:Goes pg 56 ZwC153 ZwT105 (bw w 331 eb ec) (Land 56 isN ZwT106 (bw w 331 eb ec)):=goes_part (k:=1000) cm (by kernel_rfl) (by kernel_rfl)
theorem ZwG105:Goes pg 56 ZwC122 ZwT84 (bw w 331 eb ec) (Land 56 isN ZwT85 (bw w 331 eb ec)):=goes_part (k:=1000) cm (by kernel_rfl) (by kernel_rfl)
theorem ZwG69:Goes pg 56 ZwC92 ZwT58 (bw w 331 eb ec) (Land 56 isN ZwT59 (bw w 331 eb ec)):=goes_part (k:=1000) cm (by kernel_rfl) (by kernel_rfl)
theorem ZwG72:Goes pg 56 ZwC93 ZwT59 (bw w 331 eb ec) (Land 56 isN ZwT60 (bw w 331 eb ec)):=goes_part (k:=1000) cm (by kernel_rfl) (by kernel_rfl)
theorem ZwG78:Goes pg 11 ZwC107 ZwT65 (bw w 916 eb ec) (Land 11 isN ZwT66 (bw w 916 eb ec)):=goes_part (k:=1000) cm (by kernel_rfl) (by kernel_rfl)
theorem ZwG142:Goes pg 11 ZwC162 ZwT109 (bw w 1438 eb ec) (Land 11 isN ZwT110 (bw w 1438 eb ec)):=goes_part (k:=1000) cm (by kernel_rfl) (by kernel_rfl)
theorem ZwG76:Goes pg 11 ZwC102 ZwT63 (bw w 916 eb ec) (Land 11 isN ZwT64 (bw w 916 eb ec)):=goes_part (k:=1000) cm (by kernel_rfl) (by kernel_rfl)
end
end Go.Proofs.Ytldekgkjofgacaa
