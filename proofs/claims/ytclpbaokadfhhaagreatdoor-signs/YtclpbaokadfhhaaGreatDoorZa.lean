import Derived.WalkSpells
import Derived.WalkLawsBesides
import Derived.Test.YtclpbaokadfhhaaGreatDoorProg
import Derived.Deep.OwnRows
import Derived.Lib.BufferWrite
import Derived.Lib.SlBuf
import Derived.Deep.WholeRow
import Derived.Laws.CopyOwn
set_option maxRecDepth 100000
set_option maxHeartbeats 400000
namespace Go.Proofs.YtclpbaokadfhhaaGreatDoor
def U(x:BitVec 64):Int:=x.toNat
theorem eP(x:BitVec 64):0≤U x:=by unfold U;omega
theorem pd(x:BitVec 64):U x<18446744073709551616:=by unfold U;have:=x.isLt;omega
theorem j5(x:BitVec 64):IntKind.u64.wrap (U x)=U x:=by
 rw[IntKind.wrap_u64];have h1:=eP x;have h2:=pd x;omega
theorem aF(x y:BitVec 64):IntKind.u64.wrap (U x+U y)=U (x+y):=by
 rw[IntKind.wrap_u64];unfold U;rw[BitVec.toNat_add];simp
theorem bu(x y:BitVec 64):bits .xor .u64 (U x) (U y)=U (x^^^y):=by
 unfold U;rw[bits_xor_u64_nat _ _ x.isLt y.isLt,BitVec.toNat_xor]
theorem bv(x y:BitVec 64):bits .and .u64 (U x) (U y)=U (x&&&y):=by
 unfold U;rw[bits_and_u64_nat _ _ x.isLt y.isLt,BitVec.toNat_and]
theorem bB(x y:BitVec 64):bits .or .u64 (U x) (U y)=U (x|||y):=by
 unfold U;rw[bits_or_u64_nat _ _ x.isLt y.isLt,BitVec.toNat_or]
theorem dV(x:BitVec 64)(k:Nat):IntKind.u64.wrap (U x*2^k)=U (x<<<k):=by
 rw[IntKind.wrap_u64];unfold U;rw[BitVec.toNat_shiftLeft,Nat.shiftLeft_eq];simp
theorem cP(x:BitVec 64)(k:Nat):U x/2^k=U (x>>>k):=by
 unfold U;rw[BitVec.toNat_ushiftRight,Nat.shiftRight_eq_div_pow];simp
theorem dz(n:Nat)(h:n<18446744073709551616):(n:Int)=U (BitVec.ofNat 64 n):=by
 unfold U;rw[BitVec.toNat_ofNat,Nat.mod_eq_of_lt (by simpa using h)]
namespace Sha
def rot(x:BitVec 64)(n:Nat):BitVec 64:=x<<<(64 - n)|||x>>>n
def sm0(x:BitVec 64):BitVec 64:=rot x 1^^^rot x 8^^^x>>>7
def sm1(x:BitVec 64):BitVec 64:=rot x 19^^^rot x 61^^^x>>>6
def bg0(x:BitVec 64):BitVec 64:=rot x 28^^^rot x 34^^^rot x 39
def bg1(x:BitVec 64):BitVec 64:=rot x 14^^^rot x 18^^^rot x 41
def ch(e f g:BitVec 64):BitVec 64:=e&&&f||| ~~~e&&&g
def maj(a b c:BitVec 64):BitVec 64:=a&&&b|||a&&&c|||b&&&c
end Sha
namespace Sha
def roots:List Nat:= [
 4794697086780616226,8158064640168781261,13096744586834688815,16840607885511220156,
 4131703408338449720,6480981068601479193,10538285296894168987,12329834152419229976,
 15566598209576043074,1334009975649890238,2608012711638119052,6128411473006802146,
 8268148722764581231,9286055187155687089,11230858885718282805,13951009754708518548,
 16472876342353939154,17275323862435702243,1135362057144423861,2597628984639134821,
 3308224258029322869,5365058923640841347,6679025012923562964,8573033837759648693,
 10970295158949994411,12119686244451234320,12683024718118986047,13788192230050041572,
 14330467153632333762,15395433587784984357,489312712824947311,1452737877330783856,
 2861767655752347644,3322285676063803686,5560940570517711597,5996557281743188959,
 7280758554555802590,8532644243296465576,9350256976987008742,10552545826968843579,
 11727347734174303076,12113106623233404929,14000437183269869457,14369950271660146224,
 15101387698204529176,15463397548674623760,17586052441742319658,1182934255886127544,
 1847814050463011016,2177327727835720531,2830643537854262169,3796741975233480872,
 4115178125766777443,5681478168544905931,6601373596472566643,7507060721942968483,
 8399075790359081724,8693463985226723168,9568029438360202098,10144078919501101548,
 10430055236837252648,11840083180663258601,13761210420658862357,14299343276471374635,
 14566680578165727644,15097957966210449927,16922976911328602910,17689382322260857208,
 500013540394364858,748580250866718886,1242879168328830382,1977374033974150939,
 2944078676154940804,3659926193048069267,4368137639120453308,4836135668995329356,
 5532061633213252278,6448918945643986474,6902733635092675308,7801388544844847127]
def K(i:Nat):BitVec 64:=BitVec.ofNat 64 (roots.getD i 0)
theorem roots_lt: ∀i,i<80→roots.getD i 0<18446744073709551616:=by decide
theorem K_U(i:Nat)(h:i<80):(roots.map fun n:Nat=>(n:Int)).getD i 0=U (K i):=by
 rw[K,←dz _ (roots_lt i h)];have h2:i<roots.length:=h;simp[List.getD,List.getElem?_eq_getElem h2]
end Sha
open Go.RowKit
theorem bZ{k:IntKind}{a b:Int}(h:a=b):Ending.returned (.int k a)= .returned (.int k b):=by rw[h]
theorem aP{k:IntKind}{a b:Int}(h:a=b):Value.int k a= .int k b:=by rw[h]
def Bs(l:List UInt8):Array Value:=(l.map fun x=>Value.int .u8 (x.toNat:Int)).toArray
def Ws(l:List (BitVec 64)):Array Value:=(l.map fun x=>Value.int .u64 (U x)).toArray
theorem ce(l:List UInt8):(Bs l).size=l.length:=by simp[Bs]
theorem Bz{l:List UInt8}{n:Nat}(h:l.length=n):(Bs l).size=n:=by rw[ce,h]
theorem av(l:List (BitVec 64)):(Ws l).size=l.length:=by simp[Ws]
theorem Wz{l:List (BitVec 64)}{n:Nat}(h:l.length=n):(Ws l).size=n:=by rw[av,h]
theorem fF(l:List UInt8)(i:Nat):(Bs l)[i]? =l[i]?.map fun x=>Value.int .u8 (x.toNat:Int):=by simp[Bs]
theorem jZ(l:List (BitVec 64))(i:Nat):(Ws l)[i]? =l[i]?.map fun x=>Value.int .u64 (U x):=by simp[Ws]
theorem bU(l:List UInt8)(i:Nat)(h:i<l.length):(Bs l)[i]? =some (.int .u8 ((l.getD i 0).toNat:Int)):=by
 rw[fF,List.getElem?_eq_getElem h];simp[List.getD,List.getElem?_eq_getElem h]
theorem au(l:List (BitVec 64))(i:Nat)(h:i<l.length):(Ws l)[i]? =some (.int .u64 (U (l.getD i 0))):=by
 rw[jZ,List.getElem?_eq_getElem h];simp[List.getD,List.getElem?_eq_getElem h]
theorem cu(l:List UInt8)(i:Nat)(x:UInt8):(Bs l).setIfInBounds i (.int .u8 (x.toNat:Int))=Bs (l.set i x):=by
 simp[Bs,List.map_set]
theorem aC(l:List (BitVec 64))(i:Nat)(x:BitVec 64):(Ws l).setIfInBounds i (.int .u64 (U x))=Ws (l.set i x):=by
 simp[Ws,List.map_set]
def Blk(w:World)(b:Nat)(cs:Array Value)(t:TypeId):Prop:=w.heap[b]? =some (.cells cs t (0,0))
theorem Blk.cell{w:World}{b:Nat}{cs:Array Value}{t:TypeId}(h:Blk w b cs t)(i:Nat):w.cell? ⟨b,i,none⟩=cs[i]? :=cell_of_row w b i cs t (0,0) h
theorem Blk.frozen{w:World}{b:Nat}{cs:Array Value}{t:TypeId}(h:Blk w b cs t)(i:Nat):w.frozen? ⟨b,i,none⟩=false:=frozen_of_row w b i cs t h
theorem Blk.row{w:World}{b:Nat}{cs:Array Value}{t:TypeId}(h:Blk w b cs t)(cs':Array Value):Blk (w.setRow b cs') b cs' t:=setRow_heap w b cs cs' t (0,0) h
theorem Blk.other{w:World}{b b':Nat}{cs:Array Value}{t:TypeId}(h:Blk w b cs t)(hb:b≠b')(cs':Array Value):Blk (w.setRow b' cs') b cs t:=by
 unfold Blk;rw[setRow_other w b' b cs' hb];exact h
theorem Blk.set{w:World}{b:Nat}{cs:Array Value}{t:TypeId}(h:Blk w b cs t)(i:Nat)(v:Value):w.setCell ⟨b,i,none⟩ v=w.setRow b (cs.setIfInBounds i v):=
 setCell_eq_setRow w b i cs t (0,0) v h
theorem Blk.lt{w:World}{b:Nat}{cs:Array Value}{t:TypeId}(h:Blk w b cs t):b<w.heap.size:=by
 unfold Blk at h;by_cases hb:b<w.heap.size
 ·exact hb
 ·rw[Array.getElem?_eq_none (by omega)]at h;cases h
theorem Blk.below{w w':World}{B b:Nat}{cs:Array Value}{t:TypeId}(h:Blk w b cs t)(hw:Below B w w')(hb:b<B):Blk w' b cs t:=by
 unfold Blk;rw[hw.block b hb];exact h
theorem Blk.drew{w:World}{b:Nat}{cs:Array Value}{t:TypeId}(h:Blk w b cs t):Blk w.drew b cs t:=h
theorem Blk.alloc{w:World}{b:Nat}{cs:Array Value}{t:TypeId}(h:Blk w b cs t)(o:Obj):Blk (w.alloc o) b cs t:=by
 unfold Blk;rw[Below.heap_alloc w o b h.lt];exact h
theorem Blk.drewN{w:World}{b:Nat}{cs:Array Value}{t:TypeId}(h:Blk w b cs t)(n:Nat):Blk (w.drewN n) b cs t:=h
theorem Blk.keep{w w':World}{b:Nat}{cs:Array Value}{t:TypeId}(h:Blk w b cs t)(hw:Below w.heap.size w w'):Blk w' b cs t:=h.below hw h.lt
theorem Blk.new(w:World)(cs:Array Value)(t:TypeId):Blk (w.alloc (.cells cs t)) w.heap.size cs t:=heap_alloc_new w _
theorem bc(w:World)(b i j:Nat)(v:Value)(h:i≠j):(w.setCell ⟨b,i,none⟩ v).cell? ⟨b,j,none⟩=w.cell? ⟨b,j,none⟩:=
 World.cell?_setCell_other _ _ _ _ (fun e=>h (by injection e))
theorem ar(l:List (BitVec 64)):(Ws l).all (·.oneCell')=true:=by
 rw[Array.all_eq_true_iff_forall_mem];intro v hv;simp only[Ws,List.mem_toArray,List.mem_map]at hv;obtain⟨x,_,rfl⟩:=hv;rfl
def bI:Value→Nat| .slice _ m _=>m|_=>0
theorem tl(n:Nat)(h:n<64):bits BinOp.and IntKind.u64 (IntKind.u64.wrap (-(n:Int))) 63=((64 - n)%64:Nat):=by
 by_cases h0:n=0
 ·subst h0;decide
 ·have e:IntKind.u64.wrap (-(n:Int))=((18446744073709551616 - n:Nat):Int):=by
   rw[IntKind.wrap_u64];omega
  rw[e,show (63:Int)=((63:Nat):Int)from rfl,bits_and_u64_nat _ _ (by omega) (by omega)];have h63:(63:Nat)=2^6 - 1:=rfl;rw[h63,Nat.and_two_pow_sub_one_eq_mod];congr 1
  omega
theorem dQ(x:BitVec 64)(m:Int)(w:World)(h0:0<m)(hn:m<64):
  Calls Tryz.prog 241 #[.int .u64 (U x),.int .i64 m] w fun e w'=>e= .returned (.int .u64 (U (Sha.rot x m.toNat)))∧w'=w:=by
 obtain⟨n,rfl⟩:=Int.eq_ofNat_of_zero_le (by omega:0≤m);rw[Int.toNat_natCast];have e1:=tl n (by omega);rw[Nat.mod_eq_of_lt (by omega:64 - n<64)]at e1;have e2:((64 - n:Nat):Int)=64 - (n:Int):=by omega
 rw[e2]at e1;have Ct:bits BinOp.or IntKind.u64 (IntKind.u64.wrap (U x*2^(64 - n))) (U x/2^(64 - (64 - n)))=U (Sha.rot x n):=by
  rw[show 64 - (64 - n)=n by omega,dV,cP,bB];rfl
 have H:=Ct;clear Ct;have HH:Hid (bits BinOp.or IntKind.u64 (IntKind.u64.wrap (U x*2^(64 - n))) (U x/2^(64 - (64 - n)))=U (Sha.rot x n)):=H;clear H;go_enter Tryz.func241,Tryz.ntmps241;go_wp2;go_ret;exact⟨bZ HH.out,rfl⟩
theorem iB(x:BitVec 64)(k:Int)(n:Nat)(h:(2:Int)^n=k):U x/k=U (x>>>n):=by rw[←h,cP]
theorem jh(x:BitVec 64)(w:World):
  Calls Tryz.prog 212 #[.int .u64 (U x)] w fun e w'=>e= .returned (.int .u64 (U (Sha.sm0 x)))∧w'=w:=by
 go_enter Tryz.func212,Tryz.ntmps212;go_wp2_with (go_at_call 241;refine(dQ _ _ _ (by decide) (by decide)).mono ?_;rintro e w' ⟨rfl,rfl⟩);go_ret;exact⟨bZ (by rw[bu,iB x _ 7 (by decide),bu];rfl),rfl⟩
theorem jB(x:BitVec 64)(w:World):
  Calls Tryz.prog 211 #[.int .u64 (U x)] w fun e w'=>e= .returned (.int .u64 (U (Sha.sm1 x)))∧w'=w:=by
 go_enter Tryz.func211,Tryz.ntmps211;go_wp2_with (go_at_call 241;refine(dQ _ _ _ (by decide) (by decide)).mono ?_;rintro e w' ⟨rfl,rfl⟩);go_ret;exact⟨bZ (by rw[bu,iB x _ 6 (by decide),bu];rfl),rfl⟩
theorem kF(x:BitVec 64)(w:World):
  Calls Tryz.prog 208 #[.int .u64 (U x)] w fun e w'=>e= .returned (.int .u64 (U (Sha.bg0 x)))∧w'=w:=by
 go_enter Tryz.func208,Tryz.ntmps208;go_wp2_with (go_at_call 241;refine(dQ _ _ _ (by decide) (by decide)).mono ?_;rintro e w' ⟨rfl,rfl⟩);go_ret;exact⟨bZ (by rw[bu,bu];rfl),rfl⟩
theorem mA(x:BitVec 64)(w:World):
  Calls Tryz.prog 206 #[.int .u64 (U x)] w fun e w'=>e= .returned (.int .u64 (U (Sha.bg1 x)))∧w'=w:=by
 go_enter Tryz.func206,Tryz.ntmps206;go_wp2_with (go_at_call 241;refine(dQ _ _ _ (by decide) (by decide)).mono ?_;rintro e w' ⟨rfl,rfl⟩);go_ret;exact⟨bZ (by rw[bu,bu];rfl),rfl⟩
theorem jK(x y z:BitVec 64)(w:World):
  Calls Tryz.prog 209 #[.int .u64 (U x),.int .u64 (U y),.int .u64 (U z)] w fun e w'=>e= .returned (.int .u64 (U (Sha.maj x y z)))∧w'=w:=by
 go_enter Tryz.func209,Tryz.ntmps209;go_wp2;go_ret;exact⟨bZ (by rw[bv,bv,bB,bv,bB];rfl),rfl⟩
theorem pM:IntKind.u64.max=U (BitVec.allOnes 64):=by unfold U;rw[BitVec.toNat_allOnes];decide
theorem pL(x:BitVec 64):BitVec.allOnes 64^^^x= ~~~x:=BitVec.allOnes_xor
theorem mr(x y z:BitVec 64)(w:World):
  Calls Tryz.prog 207 #[.int .u64 (U x),.int .u64 (U y),.int .u64 (U z)] w fun e w'=>e= .returned (.int .u64 (U (Sha.ch x y z)))∧w'=w:=by
 go_enter Tryz.func207,Tryz.ntmps207;go_wp2;go_ret;exact⟨bZ (by rw[pM,bu,bv,bv,bB,pL];rfl),rfl⟩
def ag(n:Nat):List UInt8:=List.replicate n 0
theorem aG(n:Nat):(ag n).length=n:=by simp[ag]
theorem ik(n:Nat):madeCells #[Value.int .u8 0] n=Bs (ag n):=by
 apply Array.ext_getElem?
 intro i;rw[fF];by_cases h:i<n
 ·simp[madeCells,ag,h,Nat.mod_one]
 ·simp[madeCells,ag,h]
theorem Tryz.infoByte:(Tryz.prog.info? 5).map (fun i=>(i.zero,i.size,i.bytes))=some (some (.int .u8 0),1,1):=by kernel_rfl
theorem iX(n:Nat)(h:n≤281474976710656)(w:World):
  (Instr.makeSlice 55 (.int .i64 (n:Int)) (.int .i64 (n:Int))).run Tryz.prog w= .ok (.slice (some ⟨w.heap.size,0,none⟩) n n) (w.alloc (.cells (Bs (ag n)) 5)):=by
 rw[←ik];exact run_make_row' 55 5 _ 1 Tryz.underlying55 Tryz.infoByte rfl .i64 .i64 n (by omega) (by omega) w
theorem aQ{w:World}{b t cap:Nat}{l:List UInt8}(hb:Blk w b (Bs l) t)(n:Nat)(hn:n=l.length):
  (convert 55 9 (.slice (some ⟨b,0,none⟩) n cap)).run Tryz.prog w= .ok (.string ⟨l.toArray⟩) w:=by
 subst hn;refine run_convert_bytes_back w _ _ 5 _ cap l Tryz.underlying55 Tryz.underlying5 Tryz.underlying9 ?_;intro j hj;have:(⟨b,0,none⟩:Addr).add j=⟨b,j,none⟩:=by unfold Addr.add;split<;>simp_all
 rw[this,hb.cell,fF,List.getElem?_eq_getElem hj];rfl
theorem jU(s:ByteArray)(N:Nat):((Bs (ag N)).toList.take 0++Lib.byteCells s.data.toList++(Bs (ag N)).toList.drop (0+s.size)).toArray=Bs (s.data.toList++ag (N - s.size)):=by
 simp[Bs,Lib.byteCells,ag]
theorem Tryz.infoByte1:(Tryz.prog.info? 5).map (·.size)=some 1:=by kernel_rfl
theorem dF(a c:UInt8):bits .xor .u8 (a.toNat:Int) (c.toNat:Int)=((a^^^c).toNat:Int):=by
 rw[u8_xor_nat _ _ a.toNat_lt c.toNat_lt,UInt8.toNat_xor]
abbrev Rv(f:Nat)(args:Array Value)(v:Value):Prop:= ∀wx:World,Calls Tryz.prog f args wx fun e w'=>e= .returned v∧Below wx.heap.size wx w'
theorem gv{f:Nat}{args:Array Value}{v:Value}{wx:World}{Q:Ending→World→Prop}(H:Hid (Rv f args v))(h: ∀w',Below wx.heap.size wx w'→Q (.returned v) w'):Calls Tryz.prog f args wx Q:=(Hid.out H wx).mono fun e w' hh=>by obtain⟨rfl,hb⟩:=hh;exact h w' hb
abbrev Rw(f:Nat)(args:Array Value)(w:World)(v:Value):Prop:=Calls Tryz.prog f args w fun e w'=>e= .returned v∧Below w.heap.size w w'
abbrev Ty(t n:Nat):Prop:= ∃d,Tryz.prog.underlying t=some d∧(match d with| .struct _| .array _ _=>true|_=>false)=true∧(Tryz.prog.info? t).map (·.size)=some n
theorem ld{t n:Nat}(ht:Ty t n){ops:Array Oper}{rest:List Oper}{o:Oper}{a:Act}{w:World}{Q:Exit→Act→World→Prop}(hgd:o.guard=none){x:Operand}(ho:o.op= .load t x)(g:Nat)(hx:a.eval x= .pointer (some ⟨g,0,none⟩)){cs:Array Value}
  (hg:w.heap[g]? =some (.cells cs t (0,0))) (hs:cs.size=n) (h:wpList Tryz.prog ops Q rest (a.put o.dst (.agg cs)) w):wpList Tryz.prog ops Q (o::rest) a w:=by
 obtain⟨d,h1,h2,h3⟩:=ht;exact wpList_load_row hgd t x ho g hx t cs (0,0) d hg h1 (by cases d<;>first|rfl|cases h2) (by rw[hs];exact h3) h
theorem st{t n:Nat}(ht:Ty t n){ops:Array Oper}{rest:List Oper}{o:Oper}{a:Act}{w:World}{Q:Exit→Act→World→Prop}(hgd:o.guard=none){x y:Operand}(ho:o.op= .store t x y)(g:Nat)(hx:a.eval x= .pointer (some ⟨g,0,none⟩)){cs:Array Value}(hy:a.eval y= .agg cs){old:Array Value}
  (hg:w.heap[g]? =some (.cells old t (0,0))) (hs:cs.size=n) (hold:old.size=n) (h1:cs.all (·.oneCell')=true) (h:wpList Tryz.prog ops Q rest (a.put o.dst undef) (w.setRow g cs)):wpList Tryz.prog ops Q (o::rest) a w:=by
 obtain⟨d,k1,k2,k3⟩:=ht;exact wpList_store_row hgd t x y ho g cs hx hy t old hg (by rw[hs];exact k3) (by rw[hs,hold]) h1 h
theorem rr{t n:Nat}(ht:Ty t n){fn:Func}{p:Tmp}(h:fn.results= #[.cell p t]){tmps:Array Value}{w:World}{g:Nat}{cs:Array Value}(hp:tmps.getD p undef= .pointer (some ⟨g,0,none⟩))(hg:w.heap[g]? =some (.cells cs t (0,0)))(hs:cs.size=n):(results fn tmps).run Tryz.prog w= .ok (.agg cs) w:=by
 obtain⟨d,h1,h2,h3⟩:=ht;exact results_cell_row h tmps w g t cs (0,0) d hp hg h1 (by cases d<;>first|rfl|cases h2) (by rw[hs];exact h3)
theorem qA(l:List Value)(i:Nat)(v:Value):l.toArray.setIfInBounds i v=(l.set i v).toArray:=List.setIfInBounds_toArray ..
theorem qB(x:Value)(l:List Value)(v:Value):(x::l).set 0 v=v::l:=rfl
theorem qC(x:Value)(l:List Value)(n:Nat)(v:Value):(x::l).set (n+1) v=x::l.set n v:=rfl
theorem qQ:(∀(a:Act) (d:Nat) (v:Value),a.put (some d) v={a with tmps:=a.tmps.setIfInBounds d v})∧(∀(a:Act) (v:Value),a.put none v=a)∧(∀(l:List Value) (i:Nat) (v:Value),l.toArray.setIfInBounds i v=(l.set i v).toArray)∧(∀(x:Value) (l:List Value) (v:Value),(x::l).set 0 v=v::l)∧(∀(x:Value) (l:List Value) (n:Nat) (v:Value),(x::l).set (n+1) v=x::l.set n v):=⟨fun _ _ _=>rfl,fun _ _=>rfl,qA,qB,qC⟩
theorem nR{n:Nat}:n≤n:=Nat.le_refl n
theorem bR{n:Nat}{w:World}:Below n w w:=Below.refl n w
theorem mG{α:Type}{l:List α}{i:Nat}{a:α}(h:l[i]? =some a):a∈l:=List.mem_of_getElem? h
theorem qF{α β:Type}:(∀(f:α→β→α) (b:α),List.foldl f b []=b)∧ ∀(f:α→β→α) (b:α) (a:β) (l:List β),List.foldl f b (a::l)=List.foldl f (f b a) l:=⟨fun _ _=>rfl,fun _ _ _ _=>rfl⟩
theorem ao{w:World}{g t:Nat}{cs:Array Value}{l:List (BitVec 64)}(hb:Blk w g cs t)(hl:cs.size=l.length):
  (storeCells ⟨g,0,none⟩ (Ws l).toList).run Tryz.prog w= .ok () (w.setRow g (Ws l)):=by
 have h1:=ar l;have:=run_storeCells_from (P:=Tryz.prog) g t (Ws l).toList 0 cs w hb (by simp[av,hl]) (fun v hv=>(Array.all_eq_true_iff_forall_mem.1 h1) v (by simpa using hv));rw[this];simp
end Go.Proofs.YtclpbaokadfhhaaGreatDoor
