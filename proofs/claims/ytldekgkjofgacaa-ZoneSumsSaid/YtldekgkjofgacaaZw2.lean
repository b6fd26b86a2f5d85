import Derived.Test.YtldekgkjofgacaaZwd1
set_option linter.all false
/- lampblack/lampblacklaw03.Works, computed down into its ca -/
namespace Go.Proofs.Ytldekgkjofgacaa
open Ev
noncomputable section
variable (w:BaseW) (eb:EB) (ec:EC)
theorem ZwG148:Goes pg 46 ZwC178 ZwT116.lit (bw w 1441 eb ec) (Land 46 isN ZwT117.lit (bw w 1441 eb ec)):=goes_partL (k:=1000) cm (by kernel_rfl) rfl rfl (by kernel_rfl)
theorem ZwG151:Goes pg 46 ZwC178 ZwT119.lit (bw w 1441 eb ec) (Land 46 isN ZwT120.lit (bw w 1441 eb ec)):=goes_partL (k:=1000) cm (by kernel_rfl) rfl rfl (by kernel_rfl)
theorem ZwG119:Goes pg 46 ZwC148 ZwT97.lit (bw w 1306 eb ec) (Land 46 isN ZwT98.lit (bw w 1306 eb ec)):=goes_partL (k:=1000) cm (by kernel_rfl) rfl rfl (by kernel_rfl)
theorem ZwG185:Goes pg 46 ZwC208 ZwT143.lit (bw w 1702 eb ec) (Land 46 isN ZwT144.lit (bw w 1702 eb ec)):=goes_partL (k:=1000) cm (by kernel_rfl) rfl rfl (by kernel_rfl)
theorem ZwG87:Goes pg 46 ZwC118 ZwT75.lit (bw w 919 eb ec) (Land 46 isN ZwT76.lit (bw w 919 eb ec)):=goes_partL (k:=1000) cm (by kernel_rfl) rfl rfl (by kernel_rfl)
theorem ZwG85:Goes pg 46 ZwC118 ZwT73.lit (bw w 919 eb ec) (Land 46 isN ZwT74.lit (bw w 919 eb ec)):=goes_partL (k:=1000) cm (by kernel_rfl) rfl rfl (by kernel_rfl)
theorem ZwG52:Goes pg 46 ZwC88 ZwT50.lit (bw w 532 eb ec) (Land 46 isN ZwT51.lit (bw w 532 eb ec)):=goes_partL (k:=1000) cm (by kernel_rfl) rfl rfl (by kernel_rfl)
theorem ZwG7:Goes pg 161 ZwC14 ZwT6 (bw w 0 eb ec) (Land 161 isN ZwT7 (bw w 0 eb ec)):=goes_part (k:=1000) cm (by kernel_rfl) (by kernel_rfl)
theorem ZwG47:Goes pg 46 ZwC88 ZwT45.lit (bw w 532 eb ec) (Land 46 isN ZwT46.lit (bw w 532 eb ec)):=goes_partL (k:=1000) cm (by kernel_rfl) rfl rfl (by kernel_rfl)
theorem ZwG13:Goes pg 56 ZwC30 ZwT14 (bw w 331 eb ec) (Land 56 isN ZwT15 (bw w 331 eb ec)):=goes_part (k:=1000) cm (by kernel_rfl) (by kernel_rfl)
theorem ZwG3:Goes pg 161 ZwC6 ZwT2 (bw w 0 eb ec) (Land 161 isN ZwT3 (bw w 0 eb ec)):=goes_part (k:=1000) cm (by kernel_rfl) (by kernel_rfl)
theorem ZwG145:Goes pg 46 ZwC171 ZwT113.lit (bw w 1441 eb ec) (Land 46 isN ZwT114.lit (bw w 1441 eb ec)):=goes_partL (k:=1000) cm (by kernel_rfl) rfl rfl (by kernel_rfl)
theorem ZwG18:Goes pg 46 ZwC47 ZwT22.lit (bw w 397 eb ec) (Land 46 isN ZwT23.lit (bw w 397 eb ec)):=goes_partL (k:=1000) cm (by kernel_rfl) rfl rfl (by kernel_rfl)
theorem ZwG91:Goes pg 46 ZwC118 ZwT79.lit (bw w 919 eb ec) (Land 46 (isX 0) ZwT80.lit (bw w 919 eb ec)):=goes_partL (k:=1000) cm (by kernel_rfl) rfl rfl (by kernel_rfl)
theorem ZwG180:Goes pg 46 ZwC205 ZwT138.lit (bw w 1702 eb ec) (Land 46 isN ZwT139.lit (bw w 1702 eb ec)):=goes_partL (k:=1000) cm (by kernel_rfl) rfl rfl (by kernel_rfl)
theorem ZwG24:Goes pg 46 ZwC54 ZwT28.lit (bw w 397 eb ec) (Land 46 (isX 0) ZwT29.lit (bw w 397 eb ec)):=goes_partL (k:=1000) cm (by kernel_rfl) rfl rfl (by kernel_rfl)
theorem ZwG12:Goes pg 56 ZwC28 ZwT13 (bw w 331 eb ec) (Land 56 isN ZwT14 (bw w 331 eb ec)):=goes_part (k:=1000) cm (by kernel_rfl) (by kernel_rfl)
theorem ZwG75:Goes pg 56 ZwC94 ZwT60 (bw w 331 eb ec) (Land 56 isN ZwT61 (bw w 331 eb ec)):=goes_part (k:=1000) cm (by kernel_rfl) (by kernel_rfl)
theorem ZwG200:Goes pg 56 ZwC212 ZwT149 (bw w 331 eb ec) (Land 56 isN ZwT150 (bw w 331 eb ec)):=goes_part (k:=1000) cm (by kernel_rfl) (by kernel_rfl)
theorem ZwG168:Goes pg 56 ZwC182 ZwT127 (bw w 331 eb ec) (Land 56 isN ZwT128 (bw w 331 eb ec)):=goes_part (k:=1000) cm (by kernel_rfl) (by kernel_rfl)
theorem ZwG171:Goes pg 56 ZwC183 ZwT128 (bw w 331 eb ec) (Land 56 isN ZwT129 (bw w 331 eb ec)):=goes_part (k:=1000) cm (by kernel_rfl) (by kernel_rfl)
theorem ZwG143:Goes pg 11 ZwC164 ZwT110 (bw w 1438 eb ec) (Land 11 isN ZwT111 (bw w 1438 eb ec)):=goes_part (k:=1000) cm (by kernel_rfl) (by kernel_rfl)
theorem ZwG77:Goes pg 11 ZwC104 ZwT64 (bw w 916 eb ec) (Land 11 isN ZwT65 (bw w 916 eb ec)):=goes_part (k:=1000) cm (by kernel_rfl) (by kernel_rfl)
theorem ZwG144:Goes pg 11 ZwC167 ZwT111 (bw w 1438 eb ec) (Land 11 isN ZwT112 (bw w 1438 eb ec)):=goes_part (k:=1000) cm (by kernel_rfl) (by kernel_rfl)
theorem ZwG177:Goes pg 11 ZwC197 ZwT134 (bw w 1699 eb ec) (Land 11 isN ZwT135 (bw w 1699 eb ec)):=goes_part (k:=1000) cm (by kernel_rfl) (by kernel_rfl)
theorem ZwG112:Goes pg 11 ZwC132 ZwT89 (bw w 1303 eb ec) (Land 11 isN ZwT90 (bw w 1303 eb ec)):=goes_part (k:=1000) cm (by kernel_rfl) (by kernel_rfl)
theorem ZwG17:Goes pg 11 ZwC43 ZwT20 (bw w 394 eb ec) (Land 11 isN ZwT21 (bw w 394 eb ec)):=goes_part (k:=1000) cm (by kernel_rfl) (by kernel_rfl)
theorem ZwG38:Goes pg 56 ZwC60 ZwT33 (bw w 331 eb ec) (Land 56 isN ZwT34 (bw w 331 eb ec)):=goes_part (k:=1000) cm (by kernel_rfl) (by kernel_rfl)
end
end Go.Proofs.Ytldekgkjofgacaa
