import Derived.Test.YtldekgkjofgacaaZwd1
set_option linter.all false
/- lampblack/lampblacklaw03.Works, computed down into its ca -/
namespace Go.Proofs.Ytldekgkjofgacaa
open Ev
noncomputable section
variable (w:BaseW) (eb:EB) (ec:EC)
theorem ZwG120:Goes pg 46 ZwC148 ZwT98.lit (bw w 1306 eb ec) (Land 46 isN ZwT99.lit (bw w 1306 eb ec)):=goes_partL (k:=1000) cm (by kernel_rfl) rfl rfl (by kernel_rfl)
theorem ZwG181:Goes pg 46 ZwC208 ZwT139.lit (bw w 1702 eb ec) (Land 46 isN ZwT140.lit (bw w 1702 eb ec)):=goes_partL (k:=1000) cm (by kernel_rfl) rfl rfl (by kernel_rfl)
theorem ZwG89:Goes pg 46 ZwC118 ZwT77.lit (bw w 919 eb ec) (Land 46 isN ZwT78.lit (bw w 919 eb ec)):=goes_partL (k:=1000) cm (by kernel_rfl) rfl rfl (by kernel_rfl)
theorem ZwG153:Goes pg 46 ZwC178 ZwT121.lit (bw w 1441 eb ec) (Land 46 isN ZwT122.lit (bw w 1441 eb ec)):=goes_partL (k:=1000) cm (by kernel_rfl) rfl rfl (by kernel_rfl)
theorem ZwG83:Goes pg 46 ZwC118 ZwT71.lit (bw w 919 eb ec) (Land 46 isN ZwT72.lit (bw w 919 eb ec)):=goes_partL (k:=1000) cm (by kernel_rfl) rfl rfl (by kernel_rfl)
theorem ZwG82:Goes pg 46 ZwC118 ZwT70.lit (bw w 919 eb ec) (Land 46 isN ZwT71.lit (bw w 919 eb ec)):=goes_partL (k:=1000) cm (by kernel_rfl) rfl rfl (by kernel_rfl)
theorem ZwG51:Goes pg 46 ZwC88 ZwT49.lit (bw w 532 eb ec) (Land 46 isN ZwT50.lit (bw w 532 eb ec)):=goes_partL (k:=1000) cm (by kernel_rfl) rfl rfl (by kernel_rfl)
theorem ZwG50:Goes pg 46 ZwC88 ZwT48.lit (bw w 532 eb ec) (Land 46 isN ZwT49.lit (bw w 532 eb ec)):=goes_partL (k:=1000) cm (by kernel_rfl) rfl rfl (by kernel_rfl)
theorem ZwG46:Goes pg 46 ZwC88 ZwT44.lit (bw w 532 eb ec) (Land 46 isN ZwT45.lit (bw w 532 eb ec)):=goes_partL (k:=1000) cm (by kernel_rfl) rfl rfl (by kernel_rfl)
theorem ZwG23:Goes pg 46 ZwC54 ZwT27.lit (bw w 397 eb ec) (Land 46 isN ZwT28.lit (bw w 397 eb ec)):=goes_partL (k:=1000) cm (by kernel_rfl) rfl rfl (by kernel_rfl)
theorem ZwG9:Goes pg 161 ZwC18 ZwT8 (bw w 0 eb ec) (Land 161 isN ZwT9 (bw w 0 eb ec)):=goes_part (k:=1000) cm (by kernel_rfl) (by kernel_rfl)
theorem ZwG80:Goes pg 46 ZwC113 ZwT68.lit (bw w 919 eb ec) (Land 46 isN ZwT69.lit (bw w 919 eb ec)):=goes_partL (k:=1000) cm (by kernel_rfl) rfl rfl (by kernel_rfl)
theorem ZwG19:Goes pg 46 ZwC49 ZwT23.lit (bw w 397 eb ec) (Land 46 isN ZwT24.lit (bw w 397 eb ec)):=goes_partL (k:=1000) cm (by kernel_rfl) rfl rfl (by kernel_rfl)
theorem ZwG115:Goes pg 46 ZwC141 ZwT93.lit (bw w 1306 eb ec) (Land 46 isN ZwT94.lit (bw w 1306 eb ec)):=goes_partL (k:=1000) cm (by kernel_rfl) rfl rfl (by kernel_rfl)
theorem ZwG186:Goes pg 46 ZwC208 ZwT144.lit (bw w 1702 eb ec) (Land 46 (isX 0) ZwT145.lit (bw w 1702 eb ec)):=goes_partL (k:=1000) cm (by kernel_rfl) rfl rfl (by kernel_rfl)
theorem ZwG174:Goes pg 56 ZwC184 ZwT129 (bw w 331 eb ec) (Land 56 isN ZwT130 (bw w 331 eb ec)):=goes_part (k:=1000) cm (by kernel_rfl) (by kernel_rfl)
theorem ZwG206:Goes pg 56 ZwC214 ZwT151 (bw w 331 eb ec) (Land 56 (isX 0) ZwT152 (bw w 331 eb ec)):=goes_part (k:=1000) cm (by kernel_rfl) (by kernel_rfl)
theorem ZwG141:Goes pg 56 ZwC154 ZwT106 (bw w 331 eb ec) (Land 56 isN ZwT107 (bw w 331 eb ec)):=goes_part (k:=1000) cm (by kernel_rfl) (by kernel_rfl)
theorem ZwG81:Goes pg 46 ZwC115 ZwT69.lit (bw w 919 eb ec) (Land 46 isN ZwT70.lit (bw w 919 eb ec)):=goes_partL (k:=1000) cm (by kernel_rfl) rfl rfl (by kernel_rfl)
theorem ZwG163:Goes pg 11 ZwC179 ZwT124 (bw w 1438 eb ec) (Land 11 isR ZwT125 (bw w 1438 eb ec)):=goes_part (k:=1000) cm (by kernel_rfl) (by kernel_rfl)
theorem ZwG203:Goes pg 56 ZwC213 ZwT150 (bw w 331 eb ec) (Land 56 isN ZwT151 (bw w 331 eb ec)):=goes_part (k:=1000) cm (by kernel_rfl) (by kernel_rfl)
theorem ZwG39:Goes pg 56 ZwC64 ZwT34 (bw w 331 eb ec) (Land 56 isN ZwT35 (bw w 331 eb ec)):=goes_part (k:=1000) cm (by kernel_rfl) (by kernel_rfl)
theorem ZwG113:Goes pg 11 ZwC134 ZwT90 (bw w 1303 eb ec) (Land 11 isN ZwT91 (bw w 1303 eb ec)):=goes_part (k:=1000) cm (by kernel_rfl) (by kernel_rfl)
theorem ZwG41:Goes pg 11 ZwC74 ZwT38 (bw w 529 eb ec) (Land 11 isN ZwT39 (bw w 529 eb ec)):=goes_part (k:=1000) cm (by kernel_rfl) (by kernel_rfl)
theorem ZwG33:Goes pg 11 ZwC55 ZwT30 (bw w 394 eb ec) (Land 11 isR ZwT31 (bw w 394 eb ec)):=goes_part (k:=1000) cm (by kernel_rfl) (by kernel_rfl)
theorem ZwG16:Goes pg 11 ZwC40 ZwT19 (bw w 394 eb ec) (Land 11 isN ZwT20 (bw w 394 eb ec)):=goes_part (k:=1000) cm (by kernel_rfl) (by kernel_rfl)
theorem ZwG42:Goes pg 11 ZwC77 ZwT39 (bw w 529 eb ec) (Land 11 isN ZwT40 (bw w 529 eb ec)):=goes_part (k:=1000) cm (by kernel_rfl) (by kernel_rfl)
theorem ZwG15:Goes pg 11 ZwC38 ZwT18 (bw w 394 eb ec) (Land 11 isN ZwT19 (bw w 394 eb ec)):=goes_part (k:=1000) cm (by kernel_rfl) (by kernel_rfl)
theorem ZwG10:Goes pg 56 ZwC24 ZwT11 (bw w 331 eb ec) (Land 56 isN ZwT12 (bw w 331 eb ec)):=goes_part (k:=1000) cm (by kernel_rfl) (by kernel_rfl)
end
end Go.Proofs.Ytldekgkjofgacaa
