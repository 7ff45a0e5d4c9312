import Derived.Shelf.Small.Utf8
import Derived.Shelf.Utf8.AppendRune
import Derived.Shelf.Utf8.AppendRunePlain
import Derived.Shelf.Strconv.Clone
import Derived.Shelf.Strings.Shaped
import Derived.Shelf.Unicode.Decode
import Derived.Shelf.Strings.Runes
import Derived.Shelf.Strings.Repeat
import Derived.Shelf.Strings.BuilderCap
import Derived.Shelf.Unicode.ValidAny
import Derived.Shelf.Bytes.SlClone
import Derived.Shelf.Strconv.AppendIntPublic10
import Derived.Test.YtaehkdnabiccnaaGreatDoorProg
namespace Go.Proofs.Tryz
open Go.Shelf Go.RowKit
def jj:Ren:=⟨fun|119=>243|n=>n,fun|21=>21|4=>4|n=>n,fun|n=>n⟩
theorem q{P:Prop}(h:P:=by repeat' first|kernel_rfl|(intros;kernel_rfl)|decide|constructor|exact fun w h=>cell_of_shapedOpen_int (zero:=#[.int .i64 0]) (t:=3) h (of_decide_eq_true (by kernel_rfl)) (by kernel_rfl) rfl (by kernel_rfl) (by kernel_rfl) underlying3):P:=h
theorem jq:Lays.n119 prog jj:=q
theorem utf8_ValidRune(r:Int)(w:World):Calls prog 243 #[.int .i32 r] w λe w'=>e=.returned (.bool (Lib.validRune r))/\w'=w:=Any.utf8_ValidRune jq r w
def ji:Ren:=⟨fun|137=>242|217=>223|266=>240|n=>n,fun|9=>9|5=>5|3=>3|n=>n,fun|n=>n⟩
theorem jr:Lays.n137 prog ji:=q
theorem strings_IndexByte(s:ByteArray)(c:Int)(w:World):Calls prog 242 #[.string s,.int .u8 c] w λe w'=>e=.returned (.int .i64 (Lib.indexByte s.data.toList c.toNat.toUInt8))/\w'=w:=Any.strings_IndexByte jr s c w
def jg:Ren:=⟨fun|242=>186|278=>209|n=>n,fun|37=>50|21=>21|51=>333|4=>4|5=>5|46=>261|n=>n,fun|n=>n⟩
theorem lays242:Lays.n242 prog jg:=q
theorem utf8_AppendRune_plain(B:Nat)(v:Value)(n:Nat)(xs:List Value)(r:Int)(hr0:-2147483648<=r)(hr1:r<=2147483647)(w:World)(hown:w.ownsRow B 5 1 v n xs)(hlen:n+4<=140737488355328)(hBw:B<=w.heap.size):Calls prog 186 #[v,.int .i32 r] w λe w'=>∃ v',e=.returned v'/\w'.ownsRow B 5 1 v' (n+(Lib.runeCells r).length) (xs ++ Lib.runeCells r)/\∃ o,(w.alloc o).grownBy w' v.ownBlock:=Any.utf8_AppendRune_plain lays242 (by kernel_rfl) B v n xs r hr0 hr1 w hown hlen hBw
def jd:Ren:=⟨fun|316=>216|n=>n,fun|9=>9|3=>3|4=>4|37=>50|0=>0|127=>354|5=>5|n=>n,fun|n=>n⟩
theorem jo:LaysM.n316 prog jd:=q
theorem stringslite_Clone(s:ByteArray)(w:World)(hlim:s.size<=281474976710656):Calls prog 216 #[.string s] w λe w'=>e=.returned (.string s)/\Below w.heap.size w w':=Any.stringslite_Clone jo s w hlim
def jl:Ren:=⟨fun|143=>197|219=>213|217=>223|225=>224|224=>225|267=>226|266=>240|314=>241|n=>n,fun|9=>9|3=>3|4=>4|5=>5|46=>261|146=>334|51=>333|n=>n,fun|1=>3|n=>n⟩
theorem jv:Lays.n143 prog jl:=q
theorem strings_Index_one(s:ByteArray)(c:UInt8)(w:World):Calls prog 197 #[.string s,.string ⟨#[c]⟩] w λe w'=>e=.returned (.int .i64 (Lib.indexByte s.data.toList c))/\w'=w:=Any.strings_Index_one jv s c w
def jk:Ren:=⟨fun|145=>174|220=>198|219=>213|217=>223|225=>224|224=>225|267=>226|266=>240|314=>241|n=>n,fun|9=>9|4=>4|59=>298|3=>3|5=>5|46=>261|146=>334|51=>333|n=>n,fun|1=>3|n=>n⟩
theorem ju:Lays.n145 prog jk:=q
theorem strings_Cut(s sep:ByteArray)(m:Int)(w:World)(hs:s.size < 4294967281)(hm:w.cell? ⟨3,0,none⟩ = some (.int .i64 m)):Calls prog 174 #[.string s,.string sep] w λe w'=>e = .returned (.tuple #[.string ⟨(Lib.cut s.data.toList sep.data.toList).1.toArray⟩,.string ⟨(Lib.cut s.data.toList sep.data.toList).2.1.toArray⟩,.bool (Lib.cut s.data.toList sep.data.toList).2.2])/\∃ n,w' = w.drewN n:=Any.strings_Cut ju s sep m w hs hm
def je:Ren:=⟨fun|145=>174|220=>198|219=>213|217=>223|225=>224|224=>225|267=>226|266=>240|314=>241|n=>n,fun|9=>9|4=>4|59=>298|3=>3|5=>5|46=>261|146=>334|51=>333|n=>n,fun|1=>3|n=>n⟩
theorem laysM145:LaysM.n145 prog je:=q
def jc:Ren:=⟨fun|176=>151|249=>185|288=>208|283=>219|284=>220|285=>221|286=>222|129=>236|317=>235|318=>237|319=>238|320=>239|337=>247|338=>248|n=>n,fun|37=>50|2=>2|3=>3|53=>270|4=>4|9=>9|171=>342|0=>0|173=>345|212=>365|51=>333|5=>5|20=>20|213=>366|46=>261|232=>373|233=>374|n=>n,fun|17=>6|18=>7|19=>8|n=>n⟩
theorem laysM176:LaysM.n176 prog jc:=q
def jh:Ren:=⟨fun|151=>215|152=>228|137=>242|119=>243|224=>225|225=>224|217=>223|266=>240|n=>n,fun|9=>9|21=>21|4=>4|3=>3|5=>5|0=>0|46=>261|n=>n,fun|n=>n⟩
theorem jt:Lays.n151 prog jh:=q
theorem strings_ContainsRune_ascii(s:ByteArray)(r:Int)(w:World)(h0:0<=r)(h1:r < 128):Calls prog 215 #[.string s,.int .i32 r] w λe w'=>e=.returned (.bool (decide (0<=Lib.indexByte s.data.toList r.toNat.toUInt8)))/\w'=w:=Any.strings_ContainsRune_ascii jt s r w h0 h1
def jf:Ren:=⟨fun|212=>182|263=>206|264=>207|n=>n,fun|46=>261|51=>333|146=>334|53=>270|148=>336|n=>n,fun|n=>n⟩
theorem js:Lays.n212 prog jf:=q
theorem bits_Mul(x y:Nat)(hx:x < 18446744073709551616)(hy:y < 18446744073709551616)(w:World):Calls prog 182 #[.int .u64 x,.int .u64 y] w λe w'=>e=.returned (.tuple #[.int .u64 ((x * y / 18446744073709551616:Nat):Int),.int .u64 ((x * y % 18446744073709551616:Nat):Int)])/\w'=w:=Any.bits_Mul js x y hx hy w
def jm:Ren:=⟨fun|105=>218|212=>182|99=>230|165=>231|166=>232|170=>233|169=>234|263=>206|264=>207|206=>244|240=>245|241=>246|276=>249|277=>183|n=>n,fun|9=>9|3=>3|4=>4|20=>20|0=>0|46=>261|109=>309|5=>5|72=>358|76=>362|51=>333|146=>334|53=>270|148=>336|70=>356|37=>50|75=>361|127=>354|164=>371|80=>332|n=>n,fun|n=>n⟩
theorem jw:Lays.n105 prog jm:=q
theorem Builder_Extra_105:Builder.Extra prog jm:={sizeBuilder:=by kernel_rfl,liesBuilder:=by kernel_rfl,t5:=underlying5,a5:=isAgg5,z5:=sizeOf5,v5:=zeroValue5,infoByte:=by kernel_rfl,cellsByte:=by kernel_rfl,sizeByte:=by kernel_rfl,neB5:=by decide}
theorem strings_Repeat(s:ByteArray)(c:Nat)(w:World)(hc:c<=9223372036854775807)(hlen:s.size * c<=140737488355328):Calls prog 218 #[.string s,.int .i64 c] w λe w'=>e=.returned (.string ⟨(Lib.repeatL s.data.toList c).toArray⟩)/\Below w.heap.size w w':=Any.strings_Repeat jw Builder_Extra_105 s c w hc hlen
def ja:Ren:=⟨fun|15=>58|n=>n,fun|22=>25|3=>3|4=>4|n=>n,fun|n=>n⟩
theorem jn:Lays2.n15 prog ja:=q
theorem slices_Clone_int(b off n c:Nat)(zs:List Int)(w:World)(hz:n<=zs.length)(hbig:n * 8<=140737488355328)(hc:∀ j,j < zs.length->w.cell? ⟨b,off+j,none⟩ = some (.int .i64 (zs.getD j 0))):Calls prog 58 #[.slice (some ⟨b,off,none⟩) n c] w λe w'=>∃ v',e = .returned v'/\w'.ownsRow w.heap.size 3 1 v' n ((zs.take n).map (Value.int .i64))/\v' ≠ .slice none 0 0/\Below w.heap.size w w':=Any.slices_Clone_int jn b off n c zs w hz hbig hc
theorem slices_Clone_int_nil(n c:Nat)(w:World):Calls prog 58 #[.slice none n c] w λe w'=>e=.returned (.slice none 0 0)/\w'=w:=Any.slices_Clone_int_nil jn n c w
theorem slices_Clone_int_zero(a:Addr)(c:Nat)(w:World):Calls prog 58 #[.slice (some a) 0 c] w λe w'=>∃ v',e=.returned v'/\w'.ownsRow w.heap.size 3 1 v' 0 []/\v' ≠ .slice none 0 0/\Below w.heap.size w w':=Any.slices_Clone_int_zero jn a c w
def jb:Ren:=⟨fun|4=>53|n=>n,fun|22=>50|4=>4|5=>5|n=>n,fun|n=>n⟩
theorem jp:SlLaysK.n4 prog jb:=q
theorem bytes_Clone_at(a:Addr)(n c:Nat)(xs:List Int)(w:World)(hx:xs.length = n)(hbig:n<=140737488355328)(hc:∀ i,i < n->w.cell? (a.add i) = some (.int .u8 (xs.getD i 0))):Calls prog 53 #[.slice (some a) n c] w λe w'=>∃ v',e = .returned v'/\w'.ownsRow w.heap.size 5 1 v' n (xs.map (Value.int .u8))/\v' ≠ .slice none 0 0/\Below w.heap.size w w':=Any.bytes_Clone_at jp a n c xs w hx hbig hc
def lays196_ren:Ren:=⟨fun|196=>214|259=>227|n=>n,fun|9=>9|4=>4|3=>3|5=>5|12=>12|119=>347|0=>0|46=>261|139=>350|138=>349|53=>270|n=>n,fun|3=>4|4=>5|n=>n⟩
theorem lays196:Lays.n196 prog lays196_ren:=q
end Go.Proofs.Tryz
