import Derived.WalkSpells
import Derived.WalkLawsBesides
import Derived.Test.YtclpbaokadfhhaaGreatDoorProg
import Derived.Deep.OwnRows
import Derived.Lib.BufferWrite
import Derived.Lib.SlBuf
import Derived.Deep.WholeRow
import Derived.Laws.CopyOwn
import Derived.Deep.RegionHeld3
import Derived.Great.BuildSlice
section
set_option maxRecDepth 100000
set_option maxHeartbeats 400000
open Go renaming Value->Qa,World->Qc,TypeId->Qd,Calls->Qe,madeCells->Qf,bits_and_u64_nat->Qg,wpList->Qi,Ending->Qj
open Go.IntKind renaming u64->Qk,wrap_u64->Qm,i64->Qn
open Go.Proofs.Tryz renaming prog->Qo,underlying55->Qp
open List renaming getElem?_eq_getElem->Qq,foldl->Qt,getD->Qx,map_set->Qy
open Go.Value renaming int->Qz,pointer->QA,slice->QB
open Go.Ending renaming returned->QC
open Array renaming all_eq_true_iff_forall_mem->QD
open BitVec renaming allOnes->QE,ofNat->QF
namespace Go.Proofs.YtclpbaokadfhhaaGreatDoor
theorem oo{P:Prop}(h:P:=by omega):P:=h
theorem kr{P:Prop}(h:P:=by kernel_rfl):P:=h
theorem dd{P:Prop}(h:P:=by decide):P:=h
theorem ss{P:Prop}(h:P:=by simp):P:=h
theorem gn{P:Prop}(h:P:=by go_num):P:=h
theorem gg{P:Prop}(h:P:=by grind):P:=h
theorem dk{P:Prop}(h:P:=by decide+kernel):P:=h
theorem Qh{p:Prop}(h:p):RowKit.Hid p:=h
theorem mo{P:Program}{f:FuncId}{a:Array Value}{w:World}{v:Ending}{Q:World→Prop}{R:Ending→World→Prop}(h:Calls P f a w fun e w'=>e=v∧Q w')(g:∀w',Q w'→R v w'):Calls P f a w R:=h.mono fun _ w' k=>by obtain⟨rfl,k⟩:=k;exact g w' k
abbrev Qb:=ByteArray
abbrev Qv:=BitVec 64
abbrev Ql:=List (BitVec 64)
abbrev Qu:=List UInt8
def U(x:BitVec 64):Int:=x.toNat
theorem Cs(x:Qv):0<=U x:=by unfold U;omega
theorem XU(x:Qv):U x<18446744073709551616:=by unfold U;have:=x.isLt;omega
theorem Oa(x:Qv):Qk.wrap (U x)=U x:=by
 rw[Qm];have a:=Cs x;have h2:=XU x;omega
theorem eW(x y:Qv):Qk.wrap (U x+U y)=U (x+y):=by
 rw[Qm];unfold U;rw[BitVec.toNat_add];simp
theorem nJ(x y:Qv):bits .xor Qk (U x) (U y)=U (x^^^y):=by
 unfold U;rw[bits_xor_u64_nat _ _ x.isLt y.isLt,BitVec.toNat_xor]
theorem nK(x y:Qv):bits .and Qk (U x) (U y)=U (x&&&y):=by
 unfold U;rw[Qg _ _ x.isLt y.isLt,BitVec.toNat_and]
theorem nT(x y:Qv):bits .or Qk (U x) (U y)=U (x|||y):=by
 unfold U;rw[bits_or_u64_nat _ _ x.isLt y.isLt,BitVec.toNat_or]
theorem Aa(x:Qv)(k:Nat):Qk.wrap (U x*2^k)=U (x<<<k):=by
 rw[Qm];unfold U;rw[BitVec.toNat_shiftLeft,Nat.shiftLeft_eq];simp
theorem vq(x:Qv)(k:Nat):U x/2^k=U (x>>>k):=by
 unfold U;rw[BitVec.toNat_ushiftRight,Nat.shiftRight_eq_div_pow];simp
theorem wK(n:Nat)(h:n<18446744073709551616):(n:Int)=U (QF 64 n):=by
 unfold U;rw[BitVec.toNat_ofNat,Nat.mod_eq_of_lt (by simpa using h)]
def eZ(x:BitVec 64)(n:Nat):BitVec 64:=x<<<(64-n)|||x>>>n
def Bq(x:BitVec 64):BitVec 64:=eZ x 1^^^eZ x 8^^^x>>>7
def Bp(x:BitVec 64):BitVec 64:=eZ x 19^^^eZ x 61^^^x>>>6
def KQ(x:BitVec 64):BitVec 64:=eZ x 28^^^eZ x 34^^^eZ x 39
def FC(x:BitVec 64):BitVec 64:=eZ x 14^^^eZ x 18^^^eZ x 41
def zp(e f g:BitVec 64):BitVec 64:=e&&&f||| ~~~e&&&g
def Bw(a b c:BitVec 64):BitVec 64:=a&&&b|||a&&&c|||b&&&c
def Sha_roots:List Nat:=[
 4794697086780616226,8158064640168781261,13096744586834688815,16840607885511220156,
 4131703408338449720,6480981068601479193,10538285296894168987,12329834152419229976,
 15566598209576043074,1334009975649890238,2608012711638119052,6128411473006802146,
 8268148722764581231,9286055187155687089,11230858885718282805,13951009754708518548,
 16472876342353939154,17275323862435702243,1135362057144423861,2597628984639134821,
 3308224258029322869,5365058923640841347,6679025012923562964,8573033837759648693,
 10970295158949994411,12119686244451234320,12683024718118986047,13788192230050041572,
 14330467153632333762,15395433587784984357,489312712824947311,1452737877330783856,
 2861767655752347644,3322285676063803686,5560940570517711597,5996557281743188959,
 7280758554555802590,8532644243296465576,9350256976987008742,10552545826968843579,
 11727347734174303076,12113106623233404929,14000437183269869457,14369950271660146224,
 15101387698204529176,15463397548674623760,17586052441742319658,1182934255886127544,
 1847814050463011016,2177327727835720531,2830643537854262169,3796741975233480872,
 4115178125766777443,5681478168544905931,6601373596472566643,7507060721942968483,
 8399075790359081724,8693463985226723168,9568029438360202098,10144078919501101548,
 10430055236837252648,11840083180663258601,13761210420658862357,14299343276471374635,
 14566680578165727644,15097957966210449927,16922976911328602910,17689382322260857208,
 500013540394364858,748580250866718886,1242879168328830382,1977374033974150939,
 2944078676154940804,3659926193048069267,4368137639120453308,4836135668995329356,
 5532061633213252278,6448918945643986474,6902733635092675308,7801388544844847127]
def ai(i:Nat):BitVec 64:=QF 64 (Sha_roots.getD i 0)
theorem Oj:∀i,i<80->Sha_roots.getD i 0<18446744073709551616:=dd
theorem aaq(i:Nat)(h:i<80):(Sha_roots.map λn:Nat=>(n:Int)).getD i 0=U (ai i):=by
 rw[ai,<-wK _ (Oj i h)];have h2:i<Sha_roots.length:=h;simp[Qx,Qq h2]
open Go.RowKit
theorem rO{k:IntKind}{a b:Int}(h:a=b):QC (Qz k a)=QC (Qz k b):=by rw[h]
theorem cH{k:IntKind}{a b:Int}(h:a=b):Qz k a=Qz k b:=by rw[h]
def Bs(l:List UInt8):Array Qa:=(l.map λx=>Qz .u8 (x.toNat:Int)).toArray
def Ws(l:List (BitVec 64)):Array Qa:=(l.map λx=>Qz Qk (U x)).toArray
theorem rY(l:Qu):(Bs l).size=l.length:=by simp[Bs]
theorem Bz{l:Qu}{n:Nat}(h:l.length=n):(Bs l).size=n:=by rw[rY,h]
theorem dA(l:Ql):(Ws l).size=l.length:=by simp[Ws]
theorem Wz{l:Ql}{n:Nat}(h:l.length=n):(Ws l).size=n:=by rw[dA,h]
theorem zT(l:Qu)(i:Nat):(Bs l)[i]? =l[i]?.map λx=>Qz .u8 (x.toNat:Int):=by simp[Bs]
theorem N6(l:Ql)(i:Nat):(Ws l)[i]? =l[i]?.map λx=>Qz Qk (U x):=by simp[Ws]
theorem pY(l:Qu)(i:Nat)(h:i<l.length):(Bs l)[i]? =some (Qz .u8 ((l.getD i 0).toNat:Int)):=by
 rw[zT,Qq h];simp[Qx,Qq h]
theorem cQ(l:Ql)(i:Nat)(h:i<l.length):(Ws l)[i]? =some (Qz Qk (U (l.getD i 0))):=by
 rw[N6,Qq h];simp[Qx,Qq h]
theorem tn(l:Qu)(i:Nat)(x:UInt8):(Bs l).setIfInBounds i (Qz .u8 (x.toNat:Int))=Bs (l.set i x):=by
 simp[Bs,Qy]
theorem eC(l:Ql)(i:Nat)(x:Qv):(Ws l).setIfInBounds i (Qz Qk (U x))=Ws (l.set i x):=by
 simp[Ws,Qy]
def Blk(w:Qc)(b:Nat)(cs:Array Qa)(t:Qd):Prop:=w.heap[b]? =some (.cells cs t (0,0))
theorem Blk.cell{w:Qc}{b:Nat}{a:Array Qa}{t:Qd}(h:Blk w b a t)(i:Nat):w.cell? ⟨b,i,none⟩=a[i]? :=cell_of_row w b i a t (0,0) h
theorem Blk.frozen{w:Qc}{b:Nat}{a:Array Qa}{t:Qd}(h:Blk w b a t)(i:Nat):w.frozen? ⟨b,i,none⟩=false:=frozen_of_row w b i a t h
theorem Blk.row{w:Qc}{b:Nat}{a:Array Qa}{t:Qd}(h:Blk w b a t)(cs':Array Qa):Blk (w.setRow b cs') b cs' t:=setRow_heap w b a cs' t (0,0) h
theorem Blk.other{w:Qc}{b b':Nat}{a:Array Qa}{t:Qd}(h:Blk w b a t)(c:b≠b')(cs':Array Qa):Blk (w.setRow b' cs') b a t:=by
 unfold Blk;rw[setRow_other w b' b cs' c];exact h
theorem Blk.set{w:Qc}{b:Nat}{a:Array Qa}{t:Qd}(h:Blk w b a t)(i:Nat)(v:Qa):w.setCell ⟨b,i,none⟩ v=w.setRow b (a.setIfInBounds i v):=
 setCell_eq_setRow w b i a t (0,0) v h
theorem Blk.lt{w:Qc}{b:Nat}{a:Array Qa}{t:Qd}(h:Blk w b a t):b<w.heap.size:=by
 unfold Blk at h;by_cases c:b<w.heap.size
 .exact c
 .rw[Array.getElem?_eq_none oo]at h;cases h
theorem Blk.below{w w':Qc}{B b:Nat}{a:Array Qa}{t:Qd}(h:Blk w b a t)(d:Below B w w')(c:b<B):Blk w' b a t:=by
 unfold Blk;rw[d.block b c];exact h
theorem Blk.drew{w:Qc}{b:Nat}{a:Array Qa}{t:Qd}(h:Blk w b a t):Blk w.drew b a t:=h
theorem Blk.alloc{w:Qc}{b:Nat}{a:Array Qa}{t:Qd}(h:Blk w b a t)(o:Obj):Blk (w.alloc o) b a t:=by
 unfold Blk;rw[Below.heap_alloc w o b h.lt];exact h
theorem Blk.drewN{w:Qc}{b:Nat}{a:Array Qa}{t:Qd}(h:Blk w b a t)(n:Nat):Blk (w.drewN n) b a t:=h
theorem Blk.keep{w w':Qc}{b:Nat}{a:Array Qa}{t:Qd}(h:Blk w b a t)(c:Below w.heap.size w w'):Blk w' b a t:=h.below c h.lt
theorem Blk.new(w:Qc)(a:Array Qa)(t:Qd):Blk (w.alloc (.cells a t)) w.heap.size a t:=heap_alloc_new w _
theorem mi(w:Qc)(b i j:Nat)(v:Qa)(h:i≠j):(w.setCell ⟨b,i,none⟩ v).cell? ⟨b,j,none⟩=w.cell? ⟨b,j,none⟩:=
 World.cell?_setCell_other _ _ _ _ (λe=>h (by injection e))
theorem aZ(l:Ql):(Ws l).all (·.oneCell')=true:=by
 rw[QD];intro v a;simp only[Ws,List.mem_toArray,List.mem_map]at a;obtain⟨x,_,rfl⟩:=a;rfl
def pM:Qa->Nat| QB _ m _=>m|_=>0
theorem acw(n:Nat)(h:n<64):bits BinOp.and Qk (Qk.wrap (-(n:Int))) 63=((64-n)%64:Nat):=by
 by_cases h0:n=0
 .subst h0;decide
 .have e:Qk.wrap (-(n:Int))=((18446744073709551616-n:Nat):Int):=by
   rw[Qm];omega
  rw[e,show (63:Int)=((63:Nat):Int)from rfl,Qg _ _ oo oo];have a:(63:Nat)=2^6-1:=rfl;rw[a,Nat.and_two_pow_sub_one_eq_mod];congr 1
  omega
theorem zV(x:Qv)(m:Int)(w:Qc)(h0:0<m)(f:m<64):
  Qe Qo 241 #[Qz Qk (U x),Qz Qn m] w λe w'=>e=QC (Qz Qk (U (eZ x m.toNat)))/\w'=w:=by
 obtain⟨n,rfl⟩:=Int.eq_ofNat_of_zero_le (by omega:0<=m);rw[Int.toNat_natCast];have b:=acw n oo;rw[Nat.mod_eq_of_lt (by omega:64-n<64)]at b;have d:((64-n:Nat):Int)=64-(n:Int):=oo
 rw[d]at b;have a:bits BinOp.or Qk (Qk.wrap (U x*2^(64-n))) (U x/2^(64-(64-n)))=U (eZ x n):=by
  rw[show 64-(64-n)=n by omega,Aa,vq,nT];rfl
 have H:=a;clear a;have c:=Qh H;clear H;go_enter Tryz.func241,Tryz.ntmps241;go_wp2;go_ret;exact⟨rO c.out,rfl⟩
theorem Ir(x:Qv)(k:Int)(n:Nat)(h:(2:Int)^n=k):U x/k=U (x>>>n):=by rw[<-h,vq]
theorem Ms(x:Qv)(w:Qc):
  Qe Qo 212 #[Qz Qk (U x)] w λe w'=>e=QC (Qz Qk (U (Bq x)))/\w'=w:=by
 go_enter Tryz.func212,Tryz.ntmps212;go_wp2_with (go_at_call 241;refine(zV _ _ _ dd dd).mono ?_;rintro e w' ⟨rfl,rfl⟩);go_ret;exact⟨rO (by rw[nJ,Ir x _ 7 dd,nJ];rfl),rfl⟩
theorem Nk(x:Qv)(w:Qc):
  Qe Qo 211 #[Qz Qk (U x)] w λe w'=>e=QC (Qz Qk (U (Bp x)))/\w'=w:=by
 go_enter Tryz.func211,Tryz.ntmps211;go_wp2_with (go_at_call 241;refine(zV _ _ _ dd dd).mono ?_;rintro e w' ⟨rfl,rfl⟩);go_ret;exact⟨rO (by rw[nJ,Ir x _ 6 dd,nJ];rfl),rfl⟩
theorem PW(x:Qv)(w:Qc):
  Qe Qo 208 #[Qz Qk (U x)] w λe w'=>e=QC (Qz Qk (U (KQ x)))/\w'=w:=by
 go_enter Tryz.func208,Tryz.ntmps208;go_wp2_with (go_at_call 241;refine(zV _ _ _ dd dd).mono ?_;rintro e w' ⟨rfl,rfl⟩);go_ret;exact⟨rO (by rw[nJ,nJ];rfl),rfl⟩
theorem TC(x:Qv)(w:Qc):
  Qe Qo 206 #[Qz Qk (U x)] w λe w'=>e=QC (Qz Qk (U (FC x)))/\w'=w:=by
 go_enter Tryz.func206,Tryz.ntmps206;go_wp2_with (go_at_call 241;refine(zV _ _ _ dd dd).mono ?_;rintro e w' ⟨rfl,rfl⟩);go_ret;exact⟨rO (by rw[nJ,nJ];rfl),rfl⟩
theorem NC(x y z:Qv)(w:Qc):
  Qe Qo 209 #[Qz Qk (U x),Qz Qk (U y),Qz Qk (U z)] w λe w'=>e=QC (Qz Qk (U (Bw x y z)))/\w'=w:=by
 go_enter Tryz.func209,Tryz.ntmps209;go_wp2;go_ret;exact⟨rO (by rw[nK,nK,nT,nK,nT];rfl),rfl⟩
theorem Zi:Qk.max=U (QE 64):=by unfold U;rw[BitVec.toNat_allOnes];decide
theorem Zh(x:Qv):QE 64^^^x= ~~~x:=BitVec.allOnes_xor
theorem Tt(x y z:Qv)(w:Qc):
  Qe Qo 207 #[Qz Qk (U x),Qz Qk (U y),Qz Qk (U z)] w λe w'=>e=QC (Qz Qk (U (zp x y z)))/\w'=w:=by
 go_enter Tryz.func207,Tryz.ntmps207;go_wp2;go_ret;exact⟨rO (by rw[Zi,nJ,nK,nK,nT,Zh];rfl),rfl⟩
def aq(n:Nat):List UInt8:=List.replicate n 0
theorem fD(n:Nat):(aq n).length=n:=by simp[aq]
theorem HJ(n:Nat):Qf #[Qz .u8 0] n=Bs (aq n):=by
 apply Array.ext_getElem?
 intro i;rw[zT];by_cases h:i<n
 .simp[Qf,aq,h,Nat.mod_one]
 .simp[Qf,aq,h]
theorem Tryz.infoByte:(Qo.info? 5).map (λi=>(i.zero,i.size,i.bytes))=some (some (Qz .u8 0),1,1):=kr
theorem Lw(n:Nat)(h:n<=281474976710656)(w:Qc):
  (Instr.makeSlice 55 (Qz Qn (n:Int)) (Qz Qn (n:Int))).run Qo w=.ok (QB (some ⟨w.heap.size,0,none⟩) n n) (w.alloc (.cells (Bs (aq n)) 5)):=by
 rw[<-HJ];exact run_make_row' 55 5 _ 1 Qp Tryz.infoByte rfl Qn Qn n oo oo w
theorem gc{w:Qc}{b t cap:Nat}{l:Qu}(a:Blk w b (Bs l) t)(n:Nat)(d:n=l.length):
  (convert 55 9 (QB (some ⟨b,0,none⟩) n cap)).run Qo w=.ok (.string ⟨l.toArray⟩) w:=by
 subst d;refine run_convert_bytes_back w _ _ 5 _ cap l Qp Tryz.underlying5 Tryz.underlying9 ?_;intro j c;have:(⟨b,0,none⟩:Addr).add j=⟨b,j,none⟩:=by unfold Addr.add;split<;>simp_all
 rw[this,a.cell,zT,Qq c];rfl
theorem NV(s:Qb)(N:Nat):((Bs (aq N)).toList.take 0++Lib.byteCells s.data.toList++(Bs (aq N)).toList.drop (0+s.size)).toArray=Bs (s.data.toList++aq (N-s.size)):=by
 simp[Bs,Lib.byteCells,aq]
theorem Tryz.infoByte1:(Qo.info? 5).map (·.size)=some 1:=kr
theorem za(a c:UInt8):bits .xor .u8 (a.toNat:Int) (c.toNat:Int)=((a^^^c).toNat:Int):=by
 rw[u8_xor_nat _ _ a.toNat_lt c.toNat_lt,UInt8.toNat_xor]
abbrev Rv(f:Nat)(args:Array Qa)(v:Qa):Prop:= ∀wx:Qc,Qe Qo f args wx λe w'=>e=QC v/\Below wx.heap.size wx w'
theorem gv{f:Nat}{args:Array Qa}{v:Qa}{a:Qc}{Q:Qj->Qc->Prop}(H:Hid (Rv f args v))(h:∀w',Below a.heap.size a w'->Q (QC v) w'):Qe Qo f args a Q:=(Hid.out H a).mono λe w' c=>by obtain⟨rfl,b⟩:=c;exact h w' b
abbrev Rw(f:Nat)(args:Array Qa)(w:Qc)(v:Qa):Prop:=Qe Qo f args w λe w'=>e=QC v/\Below w.heap.size w w'
theorem Qr{f:Nat}{a:Array Qa}{v:Qa}(h:∀w,Rw f a w v):Hid (Rv f a v):=h
abbrev Ty(t n:Nat):Prop:= ∃d,Qo.underlying t=some d/\(match d with| .struct _| .array _ _=>true|_=>false)=true/\(Qo.info? t).map (·.size)=some n
theorem ld{t n:Nat}(ht:Ty t n){c:Array Oper}{rest:List Oper}{o:Oper}{a:Act}{w:Qc}{Q:Exit->Act->Qc->Prop}(j:o.guard=none){x:Operand}(k:o.op=.load t x)(g:Nat)(m:a.eval x=QA (some ⟨g,0,none⟩)){b:Array Qa}
  (i:w.heap[g]? =some (.cells b t (0,0))) (l:b.size=n) (h:Qi Qo c Q rest (a.put o.dst (.agg b)) w):Qi Qo c Q (o::rest) a w:=by
 obtain⟨d,e,h2,f⟩:=ht;exact wpList_load_row j t x k g m t b (0,0) d i e (by cases d<;>first|rfl|cases h2) (by rw[l];exact f) h
theorem st{t n:Nat}(ht:Ty t n){f:Array Oper}{rest:List Oper}{o:Oper}{a:Act}{w:Qc}{Q:Exit->Act->Qc->Prop}(k:o.guard=none){x y:Operand}(l:o.op=.store t x y)(g:Nat)(p:a.eval x=QA (some ⟨g,0,none⟩)){b:Array Qa}(q:a.eval y=.agg b){c:Array Qa}
  (j:w.heap[g]? =some (.cells c t (0,0))) (e:b.size=n) (m:c.size=n) (i:b.all (·.oneCell')=true) (h:Qi Qo f Q rest (a.put o.dst undef) (w.setRow g b)):Qi Qo f Q (o::rest) a w:=by
 obtain⟨d,s,u,r⟩:=ht;exact wpList_store_row k t x y l g b p q t c j (by rw[e];exact r) (by rw[e,m]) i h
theorem rr{t n:Nat}(ht:Ty t n){b:Func}{p:Tmp}(h:b.results=#[.cell p t]){tmps:Array Qa}{w:Qc}{g:Nat}{a:Array Qa}(i:tmps.getD p undef=QA (some ⟨g,0,none⟩))(f:w.heap[g]? =some (.cells a t (0,0)))(j:a.size=n):(results b tmps).run Qo w=.ok (.agg a) w:=by
 obtain⟨d,c,h2,e⟩:=ht;exact results_cell_row h tmps w g t a (0,0) d i f c (by cases d<;>first|rfl|cases h2) (by rw[j];exact e)
theorem qA(l:List Qa)(i:Nat)(v:Qa):l.toArray.setIfInBounds i v=(l.set i v).toArray:=List.setIfInBounds_toArray ..
theorem qB(x:Qa)(l:List Qa)(v:Qa):(x::l).set 0 v=v::l:=rfl
theorem qC(x:Qa)(l:List Qa)(n:Nat)(v:Qa):(x::l).set (n+1) v=x::l.set n v:=rfl
theorem qQ:(∀(a:Act) (d:Nat) (v:Qa),a.put (some d) v={a with tmps:=a.tmps.setIfInBounds d v})/\(∀(a:Act) (v:Qa),a.put none v=a)/\(∀(l:List Qa) (i:Nat) (v:Qa),l.toArray.setIfInBounds i v=(l.set i v).toArray)/\(∀(x:Qa) (l:List Qa) (v:Qa),(x::l).set 0 v=v::l)/\(∀(x:Qa) (l:List Qa) (n:Nat) (v:Qa),(x::l).set (n+1) v=x::l.set n v):=⟨λ_ _ _=>rfl,λ_ _=>rfl,qA,qB,qC⟩
theorem nR{n:Nat}:n<=n:=Nat.le_refl n
theorem bR{n:Nat}{w:Qc}:Below n w w:=Below.refl n w
theorem mG{α:Type}{l:List α}{i:Nat}{a:α}(h:l[i]? =some a):a∈l:=List.mem_of_getElem? h
theorem qF{α β:Type}:(∀(f:α->β->α) (b:α),Qt f b []=b)/\ ∀(f:α->β->α) (b:α) (a:β) (l:List β),Qt f b (a::l)=Qt f (f b a) l:=⟨λ_ _=>rfl,λ_ _ _ _=>rfl⟩
theorem de{w:Qc}{g t:Nat}{a:Array Qa}{l:Ql}(c:Blk w g a t)(d:a.size=l.length):
  (storeCells ⟨g,0,none⟩ (Ws l).toList).run Qo w=.ok () (w.setRow g (Ws l)):=by
 have b:=aZ l;have:=run_storeCells_from (P:=Qo) g t (Ws l).toList 0 a w c (by simp[dA,d]) (λv e=>(QD.1 b) v (by simpa using e));rw[this];simp
end Go.Proofs.YtclpbaokadfhhaaGreatDoor
end
section
set_option maxRecDepth 100000
set_option maxHeartbeats 2000000
open BitVec renaming ofInt_natCast->Qa,ofInt->Qc,toNat_ofNat->Qd
open Array renaming getElem?_eq_some_iff->Qe,toList_setIfInBounds->Qf
open Go.IntKind renaming u8->Qg,wrap_u8->Qi
open Go renaming World->Qj,setCell_eq_setRow->Qk,Value->Qm,cell_of_row->Qn
open Nat renaming mod_eq_of_lt->Qo
open Go.Proofs.Tryz renaming underlying55->Qp,underlying9->Qq,underlying5->Qt,prog->Qx
open List renaming getElem?_take_of_lt->Qy,getD->Qz
open Go.Value renaming slice->QA,string->QB,int->QC
open UInt8 renaming toNat_and->QD,toNat_or->QE
namespace Go.Proofs.YtclpbaokadfhhaaGreatDoor
open Go.RowKit
def OwnB(w:Qj)(base:Nat)(v:Qm)(l:List UInt8):Prop:=
 ∃(g cap:Nat) (cur:Array Qm) (fz:Nat×Nat),v=QA (some ⟨g,0,none⟩) l.length cap/\base<=g/\w.heap[g]? =some (.cells cur 5 fz)/\(fz=(0,0)\/cur.size<=fz.1)/\cur.size=cap/\l.length<=cap/\cur.toList.take l.length=(Bs l).toList
theorem OwnB.cell{w:Qj}{d g n cap:Nat}{l:Qu}(h:OwnB w d (QA (some ⟨g,0,none⟩) n cap) l)(i:Nat)(c:i<l.length):w.cell? ⟨g,i,none⟩=some (QC Qg ((l.getD i 0).toNat:Int)):=by
 obtain⟨m,k,b,e,j,o,f,_,_,_,ht⟩:=h;injection j with a _ _
 injection a with a
 injection a with a _ _
 subst a;rw[Qn w g i b _ e f];have h2:(b.toList.take l.length)[i]? =(Bs l)[i]? :=by rw[ht];simp
 rw[Qy c,pY l i c]at h2;simpa using h2
theorem OwnB.below{w w':Qj}{a B:Nat}{v:Qm}{l:Qu}(h:OwnB w a v l)(e:Below B w w')(j:w.heap.size<=B):OwnB w' a v l:=by
 obtain⟨g,cap,c,d,i,f,b,r⟩:=h;refine⟨g,cap,c,d,i,f,?_,r⟩;have:=(Qe.1 b).1;rw[e.block g oo];exact b
theorem bytesOf(s:Qb)(b:Nat)(w:Qj)(c:b<=w.heap.size):
  ∃cap w',(convert 9 55 (QB s)).run Qx w=.ok (QA (some ⟨w.heap.size,0,none⟩) s.size cap) w'/\OwnB w' b (QA (some ⟨w.heap.size,0,none⟩) s.size cap) s.data.toList/\Below w.heap.size w w':=by
 have a:s.data.toList.length=s.size:=ss
 refine⟨_,_,run_bytes_of_string w _ _ 5 s Qq Qp Qt,?_,?_⟩
 .have d:=grownCap_ge w s.size 0 5;refine⟨w.heap.size,_,_,_,by rw[a],c,heap_alloc_new w.drew _,.inr nR,?_,by rw[a];exact d,?_⟩
  .simp[bytesRow];omega
  .rw[a];simp[bytesRow,Bs]
 .exact bR.drew.alloc nR _
def OwnR(w:Qj)(g cap:Nat)(l:List UInt8):Prop:=
 ∃(cur:Array Qm) (fz:Nat×Nat),w.heap[g]? =some (.cells cur 5 fz)/\(fz=(0,0)\/cur.size<=fz.1)/\cur.size=cap/\l.length<=cap/\cur.toList.take l.length=(Bs l).toList
theorem OwnB.at{w:Qj}{b g n cap:Nat}{l:Qu}(h:OwnB w b (QA (some ⟨g,0,none⟩) n cap) l):OwnR w g cap l:=by
 obtain⟨j,i,c,d,f,k,r⟩:=h;injection f with a h2 e
 injection a with a
 injection a with a _ _
 subst a;subst e;exact⟨c,d,r⟩
theorem OwnR.cell{w:Qj}{g cap:Nat}{l:Qu}(h:OwnR w g cap l)(i:Nat)(b:i<l.length):w.cell? ⟨g,i,none⟩=some (QC Qg ((l.getD i 0).toNat:Int)):=by
 obtain⟨a,c,d,_,_,_,ht⟩:=h;rw[Qn w g i a _ c d];have h2:(a.toList.take l.length)[i]? =(Bs l)[i]? :=by rw[ht];simp
 rw[Qy b,pY l i b]at h2;simpa using h2
theorem OwnR.frozen{w:Qj}{g cap:Nat}{l:Qu}(h:OwnR w g cap l)(i:Nat)(e:i<l.length):w.frozen? ⟨g,i,none⟩=false:=by
 obtain⟨c,d,b,a,j,f,_⟩:=h;simp only[World.frozen?,b];rcases a with rfl|a
 .simp
 .simp;omega
theorem OwnR.lt{w:Qj}{g cap:Nat}{l:Qu}(h:OwnR w g cap l):g<w.heap.size:=by
 obtain⟨b,c,a,_⟩:=h;exact(Qe.1 a).1
theorem OwnR.below{w w':Qj}{B g cap:Nat}{l:Qu}(h:OwnR w g cap l)(d:Below B w w')(c:g<B):OwnR w' g cap l:=by
 obtain⟨a,b,e,r⟩:=h;refine⟨a,b,?_,r⟩;rw[d.block g c];exact e
theorem OwnR.drew{w:Qj}{g cap:Nat}{l:Qu}(h:OwnR w g cap l):OwnR w.drew g cap l:=h
theorem OwnR.alloc{w:Qj}{g cap:Nat}{l:Qu}(h:OwnR w g cap l)(o:Obj):OwnR (w.alloc o) g cap l:=by
 obtain⟨b,c,a,r⟩:=h;refine⟨b,c,?_,r⟩;rw[Below.heap_alloc w o g (Qe.1 a).1];exact a
theorem OwnR.set{w:Qj}{g cap:Nat}{l:Qu}(h:OwnR w g cap l)(i:Nat)(x:UInt8):OwnR (w.setCell ⟨g,i,none⟩ (QC Qg (x.toNat:Int))) g cap (l.set i x):=by
 obtain⟨a,b,c,d,f,e,ht⟩:=h;refine⟨a.setIfInBounds i (QC Qg (x.toNat:Int)),b,?_,by simpa using d,by simpa using f,by simpa using e,?_⟩
 .rw[Qk w g i a _ b _ c];exact setRow_heap w g a _ _ b c
 .rw[<-tn,List.length_set,Qf,List.take_set,ht,Qf]
theorem Blk.otherCell{w:Qj}{b g i cap:Nat}{a:Array Qm}{t:TypeId}{l:Qu}(h:Blk w b a t)(j:OwnR w g cap l)(f:b≠g)(v:Qm):Blk (w.setCell ⟨g,i,none⟩ v) b a t:=by
 obtain⟨c,d,e,_⟩:=j;rw[Qk w g i c _ d _ e];exact h.other f _
theorem lW{w:Qj}{g cap n:Nat}{l:Qu}(h:OwnR w g cap l)(b:n=l.length):
  (convert 55 9 (QA (some ⟨g,0,none⟩) n cap)).run Qx w=.ok (QB ⟨l.toArray⟩) w:=by
 subst b;refine run_convert_bytes_back w _ _ 5 _ cap l Qp Qt Qq ?_;intro j a;have:(⟨g,0,none⟩:Addr).add j=⟨g,j,none⟩:=by unfold Addr.add;split<;>simp_all
 rw[this,h.cell j a];simp[Qz,List.getElem?_eq_getElem a]
theorem N5(x y:UInt8):bits BinOp.and Qg (x.toNat:Int) (y.toNat:Int)=((x&&&y).toNat:Int):=by
 show Qg.wrap ((Qc 8 (x.toNat:Int)&&&Qc 8 (y.toNat:Int)).toNat:Int)=_
 rw[Qa,Qa,BitVec.toNat_and,QD];have b:=x.toNat_lt;have h2:=y.toNat_lt;have a:=(x&&&y).toNat_lt;rw[QD]at a;simp only[Qd];rw[Qo oo,Qo oo,Qi];omega
theorem KB(x y:UInt8):bits BinOp.or Qg (x.toNat:Int) (y.toNat:Int)=((x|||y).toNat:Int):=by
 show Qg.wrap ((Qc 8 (x.toNat:Int)|||Qc 8 (y.toNat:Int)).toNat:Int)=_
 rw[Qa,Qa,BitVec.toNat_or,QE];have b:=x.toNat_lt;have h2:=y.toNat_lt;have a:=(x|||y).toNat_lt;rw[QE]at a;simp only[Qd];rw[Qo oo,Qo oo,Qi];omega
def eV(l:List UInt8):List UInt8:=(l.set 0 (l.getD 0 0&&&248)).set 31 ((l.getD 31 0&&&63)|||64)
theorem wH(l:Qu):(eV l).length=l.length:=by simp[eV]
theorem GK(s:Qb)(w:Qj)(g:s.size=32):
  Rw 108 #[QB s] w (QB ⟨(eV s.data.toList).toArray⟩):=by
 obtain⟨cap,o,m,a,h⟩:=bytesOf s w.heap.size w nR;replace a:=a.at;have c:s.data.toList.length=32:=by rw[<-g];simp
 rw[g]at m;generalize f:s.data.toList=l at a c;replace f:=Qh f;have y:=a.cell 0 oo;have z:=a.frozen 0 oo;have b:=a.set 0 (l.getD 0 0&&&248);have B:(l.set 0 (l.getD 0 0&&&248)).length=32:=by simp[c]
 have j:=b.cell 31 oo;have k:(l.set 0 (l.getD 0 0&&&248)).getD 31 0=l.getD 31 0:=by simp[Qz]
 rw[k]at j;have A:=b.frozen 31 oo;have d:=b.set 31 ((l.getD 31 0&&&63)|||64);have u:bits BinOp.and Qg ((l.getD 0 0).toNat:Int) 248=((l.getD 0 0&&&248).toNat:Int):=N5 _ 248;have v:bits BinOp.and Qg ((l.getD 31 0).toNat:Int) 63=((l.getD 31 0&&&63).toNat:Int):=N5 _ 63;have x:bits BinOp.or Qg ((l.getD 31 0&&&63).toNat:Int) 64=(((l.getD 31 0&&&63)|||64).toNat:Int):=KB _ 64;have e:(l.set 0 (l.getD 0 0&&&248)).set 31 ((l.getD 31 0&&&63)|||64)=eV l:=rfl;rw[e]at d;generalize l.getD 0 0&&&248=q at*;generalize l.getD 31 0&&&63=r at*;generalize r|||64=t at*
 generalize l.getD 0 0=D at*;generalize l.getD 31 0=E at*;have C:=lW (n:=32) d (by rw[wH,c]);have i:Below w.heap.size w ((o.setCell ⟨w.heap.size,0,none⟩ (QC Qg (q.toNat:Int))).setCell ⟨w.heap.size,31,none⟩ (QC Qg (t.toNat:Int))):=(h.setCell (p:=⟨w.heap.size,0,none⟩) nR _).setCell (p:=⟨w.heap.size,31,none⟩) nR _;clear e a b d;go_enter Tryz.func108,Tryz.ntmps108;go_wp2;go_ret;exact⟨rfl,i⟩
end Go.Proofs.YtclpbaokadfhhaaGreatDoor
end
section
open List renaming mem_map->Qa,mem_singleton->Qc,mem_cons_self->Qd,mem_cons->Qe,range->Qf,all_eq_true->Qg,mem_cons_of_mem->Qi,getElem?_eq_some_iff->Qj,mem_filter->Qk,getElem?_map->Qm,mem_append->Qn,mem_range->Qo,length_eq_zero_iff->Qp,map_map->Qq,getElem?_set_self->Qt,mem_append_right->Qx,length_filter_le->Qy,mem_append_left->Qz,getElem?_set_ne->QA,set_cons_zero->QB,set_cons_succ->QC,nodup_append->QD,ext_getElem?->QE,getElem_map->QF,filter_cons->QG,nodup_cons->QH,map_append->QI,map_cons->QJ
open Go renaming World->QL,Value->QM,yielded->QN,execOp->QO,wpOp_step->QP,undef->QQ,ready_mono->QR,getD_set_ne->QT,wpOp_mono->QU,Program->QV,Operand->QW,wpList->QY,YieldsIf->QZ,wp_region_any->Q0,getD_set_true->Q5,wpAny->Q6,Calls->Q7,wpOp_putIf->Q8
open Go.Region renaming ready->Q9,wanted->Ja,Mode->Jb,binds->Jc,noSelect->Jd,free->Je,noSelect_spec->Jf,free_spec->Jg
open Array renaming getElem?_eq_none->Jh,getElem?_setIfInBounds->Ji,getElem?_eq_some_iff->Jj,size_setIfInBounds->Jk,replicate->Jl,getD->Jm,getElem?_eq_getElem->Jn,setIfInBounds_comm->Jo,getElem?_toList->Jp,ext_getElem?->Jq
open Bool renaming and_eq_true->Jr,or_eq_true->Js,not_true->Jt,false_or->Ju
open Go.Value renaming pointer->Jw,agg->Jx
open Nat renaming ble->Jy,ne_of_lt->Jz,lt_or_ge->JA,le_of_ble_eq_true->JB
open Go.Oper renaming wp->JC
open Go.Obj renaming cells->JD
open Classical renaming byContradiction->JE
namespace Go.Proofs.YtclpbaokadfhhaaGreatDoor
open Go
section
variable {P:Program}{ops:Array Oper}{Q:Exit→Act→World→Prop}{md:Region.Mode}{S:World→Prop}{l:Nat}
def qW(md:Jb)(ops:Array Oper):Nat->Nat->Nat->Bool
 |0,_,_=>false
 |n+1,l,i=>match ops[l]? with
  |some o=>o.after.any λe=>Jc md e&&(e.on==i||qW md ops n e.on i)
  |none=>false
def p7(md:Jb)(ops:Array Oper)(listed:Array Bool):Bool:=
 (Qf ops.size).all λk=> !listed.getD k false||match ops[k]? with
  |some o=>o.after.all λe=> !Jc md e||listed.getD e.on false
  |none=>true
def Closed(md:Jb)(ops:Array Oper)(listed:Array Bool):Prop:=
 ∀k o,ops[k]? =some o->listed.getD k false=true-> ∀e∈o.after,Jc md e=true->listed.getD e.on false=true
theorem LC{listed:Array Bool}(h:p7 md ops listed=true):Closed md ops listed:=by
 intro k o b f e d c;unfold p7 at h;rw[Qg]at h;have a:=h k (Qo.2 (Jj.1 b).1);simp only[b,f,Jt,Ju]at a;rw[Array.all_eq_true_iff_forall_mem]at a;have h2:=a e d;simpa only [c,Jt,Ju]using h2
theorem Closed.set{listed:Array Bool}(h:Closed md ops listed){j:Nat}(l:j∈Q9 md ops listed):Closed md ops (listed.setIfInBounds j true):=by
 intro k o g f e c b;by_cases d:j=k
 .subst d;obtain⟨-,m,a,i⟩:=mem_ready.1 l;rw[g]at a;injection a with a;subst a
  exact Q5 (i e c b)
 .rw[QT false d]at f;exact Q5 (h k o g f e c b)
theorem zc{listed:Array Bool}(h:Closed md ops listed){i:Nat}:∀(n k:Nat),qW md ops n k i=true->
  (∀o,ops[k]? =some o-> ∀e∈o.after,Jc md e=true->listed.getD e.on false=true)->listed.getD i false=true
 |0,_,a,_=>by simp[qW]at a
 |n+1,k,a,p=>by
  unfold qW at a;cases c:ops[k]? with
  |none=>rw[c]at a;simp at a
  |some o=>
   rw[c]at a;simp only[Array.any_eq_true']at a;obtain⟨e,l,h2⟩:=a;simp only[Jr,Js,beq_iff_eq]at h2;obtain⟨g,b⟩:=h2;have d:=p o c e l g;rcases b with b|b
   .rw[<-b];exact d
   .exact zc h n e.on b (λr q f m j=>h e.on r q d f m j)
def og(P:QV)(md:Jb)(ops:Array Oper)(Q:Exit->Act->QL->Prop)(S:QL->Prop)(l:Nat):Nat->Array Bool->Act->QL->Prop
 |0,listed,a,w=>Q9 md ops listed=[]/\Q .normal a w
 |fuel+1,listed,a,w=>
  (Q9 md ops listed=[]->Q .normal a w)/\
  ∀i∈Q9 md ops listed,wpOp P ops Q i (λa' w'=>(i=l\/S w')/\og P md ops Q S l fuel (listed.setIfInBounds i true) a' w') a w
theorem Hs:∀(fuel:Nat) (listed:Array Bool) (a:Act) (w:QL),og P md ops Q S l fuel listed a w->Q6 P md ops Q fuel listed a w
 |0,_,_,_,h=>h
 |fuel+1,_,_,_,h=>⟨h.1,λi d=>QU (λb w' c=>Hs fuel _ b w' c.2) (h.2 i d)⟩
theorem Nb{i n:Nat}{m:Oper}{v:QM}(B:ops[i]? =some m)(J:∀(j:Nat) (o:Oper) q b,ops[j]? =some o->o.op≠ .select q b)
  (ah:qW md ops n l i=true)
  (O:∀c a w,Q (.panic c) (a.put m.dst v) w->Q (.panic c) a w):
  ∀(fuel:Nat) (listed:Array Bool) (a:Act) (w:QL),Closed md ops listed->
   (∀j p,ops[j]? =some p->j≠i->listed.getD j true=false->(∀e∈p.after,Jc md e=true->e.on≠i)->m.apart ops p=true)->
   i∈Q9 md ops listed->QZ P ops S m v a->S w->
   og P md ops Q S l fuel (listed.setIfInBounds i true) (a.put m.dst v) w->og P md ops Q S l (fuel+1) listed a w:=by
 intro fuel;induction fuel with
 |zero=>
  intro listed a w _ _ g y r H;refine⟨λh=>(by rw[h]at g;cases g),λj s=>?_⟩;by_cases f:j=i
  .subst f;exact y.wpOp B r ⟨.inr r,H⟩
  .have:=QR s f;rw[H.1]at this;cases this
 |succ fuel ih=>
  intro listed a w E F g y r H;refine⟨λh=>(by rw[h]at g;cases g),λj s=>?_⟩;by_cases f:j=i
  .subst f;exact y.wpOp B r ⟨.inr r,H⟩
  .have d:=H.2 j (QR s f);obtain⟨I,p,x,C⟩:=mem_ready.1 s;have L:=(mem_ready.1 g).1;have M:listed.getD i false=true->False:=λd=>by
    rcases JA i listed.size with z|z
    .simp[z]at L d;rw[L]at d;cases d
    .simp[Jh z]at d
   have Z:j≠l:=λe=>by
    subst e;exact M (zc E n j ah (λo u=>by rw[x]at u;injection u with u;subst u;exact C))
   have ag:∀e∈p.after,Jc md e=true->e.on≠i:=λe T R W=>by
    have d:=C e T R;rw[W]at d;exact M d
   have h2:=Q8 x (F j p x f I ag) (λq b=>J i m q b B) (λq b=>J j p q b x) O y d;have X:∀k t,ops[k]? =some t->k≠i->(listed.setIfInBounds j true).getD k true=false->
     (∀e∈t.after,Jc md e=true->e.on≠i)->m.apart ops t=true:=λk t hk ab K ad=>by
    refine F k t hk ab ?_ ad;by_cases G:j=k
    .subst G;exact I
    .rw[QT true G]at K;exact K
   refine QU (λN w' A=>?_) h2;have D:=A.2.1.resolve_left Z;refine⟨.inr D,ih (listed.setIfInBounds j true) N w' (E.set s) X (QR g (Ne.symm f)) A.1 D ?_⟩;rw[Jo _ _ f];exact A.2.2
theorem nH{i:Nat}{b:Oper}{v:QM}{fuel:Nat}{listed:Array Bool}{a:Act}{w:QL}(d:ops[i]? =some b)
  (m:Jd ops=true) (j:Je md ops listed i=true) (k:(Q9 md ops listed).contains i=true)
  (n:qW md ops ops.size l i=true) (g:p7 md ops listed=true)
  (e:∀c a w,Q (.panic c) (a.put b.dst v) w->Q (.panic c) a w) (o:QZ P ops S b v a) (f:S w)
  (h:og P md ops Q S l fuel (listed.setIfInBounds i true) (a.put b.dst v) w):og P md ops Q S l (fuel+1) listed a w:=
 Nb d (Jf m) n e fuel listed a w (LC g) (Jg d j) (by simpa using k) o f h
theorem Na(i:Nat){d:Oper}{v:Value}{fuel:Nat}{listed:Array Bool}{a:Act}{w:World}(f:S w)(k:∀w,S w->(execOp a.eval d).run P w=.ok (.value v) w)
  (h:og P md ops Q S l fuel (listed.setIfInBounds i true) (a.put d.dst v) w)
  (g:ops[i]? =some d:=by exact rfl) (j:Region.wanted d (yielded ops a.tmps)=true:=by rfl)
  (b:(Region.noSelect ops&&Region.free md ops listed i&&(Region.ready md ops listed).contains i&&qW md ops ops.size l i&&p7 md ops listed)=true:=by kernel_rfl)
  (e:∀c a w,Q (.panic c) (a.put d.dst v) w->Q (.panic c) a w:=by exact λ_ _ _ h=>h):og P md ops Q S l (fuel+1) listed a w:=by
 simp only[Jr]at b;exact nH g b.1.1.1.1 b.1.1.1.2 b.1.1.2 b.1.2 b.2 e (Or.inl ⟨j,k⟩) f h
theorem eq(i:Nat){b:Oper}{v:Value}{fuel:Nat}{listed:Array Bool}{a:Act}{w:World}(f:S w)
  (h:og P md ops Q S l fuel (listed.setIfInBounds i true) (a.put b.dst v) w)
  (j:ops[i]? =some b:=by exact rfl) (k:Region.wanted b (yielded ops a.tmps)=true:=by rfl)
  (g:(Region.noSelect ops&&Region.free md ops listed i&&(Region.ready md ops listed).contains i&&qW md ops ops.size l i&&p7 md ops listed)=true:=by kernel_rfl)
  (m:∀w,S w->(execOp a.eval b).run P w=.ok (.value v) w:=by (intro n d;clear d;go_simp;try (with_reducible rfl)))
  (e:∀c a w,Q (.panic c) (a.put b.dst v) w->Q (.panic c) a w:=by exact λ_ _ _ h=>h):og P md ops Q S l (fuel+1) listed a w:=Na i f m h j k g e
theorem mf(i:Nat){b:Oper}{v:Value}{fuel:Nat}{listed:Array Bool}{a:Act}{w:World}(e:S w)
  (h:og P md ops Q S l fuel (listed.setIfInBounds i true) (a.put b.dst v) w)
  (g:ops[i]? =some b:=by exact rfl) (j:Region.wanted b (yielded ops a.tmps)=true:=by rfl)
  (f:(Region.noSelect ops&&Region.free md ops listed i&&(Region.ready md ops listed).contains i&&qW md ops ops.size l i&&p7 md ops listed)=true:=by kernel_rfl)
  (k:∀w,S w->(execOp a.eval b).run P w=.ok (.value v) w:=by (intro n m;go_simp;try (with_reducible rfl)))
  (d:∀c a w,Q (.panic c) (a.put b.dst v) w->Q (.panic c) a w:=by exact λ_ _ _ h=>h):og P md ops Q S l (fuel+1) listed a w:=Na i e k h g j f d
theorem kY(i:Nat){b:Oper}{v:Value}{fuel:Nat}{listed:Array Bool}{a:Act}{w:World}
  (h:wpAny P md ops Q fuel (listed.setIfInBounds i true) (a.put b.dst v) w)
  (f:ops[i]? =some b:=by exact rfl) (g:Region.wanted b (yielded ops a.tmps)=true:=by rfl)
  (d:(Region.noSelect ops&&Region.free md ops listed i&&(Region.ready md ops listed).contains i)=true:=by kernel_rfl)
  (j:∀w,(execOp a.eval b).run P w=.ok (.value v) w:=by (intro w;go_simp;try (with_reducible rfl)))
  (e:∀c a w,Q (.panic c) (a.put b.dst v) w->Q (.panic c) a w:=by exact λ_ _ _ h=>h):wpAny P md ops Q (fuel+1) listed a w:=by
 simp only[Jr]at d;exact wpAny_take f d.1.1 d.1.2 d.2 e (Or.inl ⟨g,j⟩) h
theorem ve{i:Nat}{o:Oper}{fuel:Nat}{listed:Array Bool}{a:Act}{w:QL}(d:Q9 md ops listed=[i])(k:ops[i]? =some o)
  (h:∀b:Act->QL->Prop,Shut (∀a w,S w->og P md ops Q S l fuel (listed.setIfInBounds i true) a w->b a w)->if Ja o (QN ops a.tmps)=true then JC P o a w b Q else b (a.put o.dst QQ) w):
  og P md ops Q S l (fuel+1) listed a w:=by
 refine⟨λh0=>(by rw[d]at h0;cases h0),λj c=>?_⟩;rw[d]at c;rcases Qc.1 c with rfl
 exact QP k (λb e=>h b (λa w f g=>e a w ⟨.inr f,g⟩))
theorem xi{o:Oper}{fuel:Nat}{listed:Array Bool}{a:Act}{w:QL}(f:Q9 md ops listed=[l])(i:ops[l]? =some o)
  (d:Q9 md ops (listed.setIfInBounds l true)=[])
  (h:∀b:Act->QL->Prop,Shut (∀a w,Q .normal a w->b a w)->if Ja o (QN ops a.tmps)=true then JC P o a w b Q else b (a.put o.dst QQ) w):
  og P md ops Q S l (fuel+1) listed a w:=by
 refine⟨λh0=>(by rw[f]at h0;cases h0),λj e=>?_⟩;rw[f]at e;rcases Qc.1 e with rfl
 refine QP i (λb g=>h b (λa w c=>g a w ⟨.inl rfl,?_⟩));cases fuel with
 |zero=>exact⟨d,c⟩
 |succ n=>exact⟨λ_=>c,by rw[d];simp⟩
theorem tp{id:Nat}{a:Act}{w:QL}(b:P.follows .mixedOrders=true)
  (h:og P .any ops Q S l ops.size (Jl ops.size false) a w.drew):(Code.region id ops true).wp P Q a w:=
 Q0 b (Hs _ _ _ _ h)
end
end Go.Proofs.YtclpbaokadfhhaaGreatDoor
namespace Go.Proofs.YtclpbaokadfhhaaGreatDoor
open Go
section
variable {P:Program}{ops:Array Oper}{Q:Exit→Act→World→Prop}{md:Region.Mode}{S:World→Prop}{ls:List Nat}
def bP(P:QV)(md:Jb)(ops:Array Oper)(Q:Exit->Act->QL->Prop)(S:QL->Prop)(ls:List Nat):Nat->Array Bool->Act->QL->Prop
 |0,listed,a,w=>Q9 md ops listed=[]/\Q .normal a w
 |fuel+1,listed,a,w=>
  (Q9 md ops listed=[]->Q .normal a w)/\
  ∀i∈Q9 md ops listed,wpOp P ops Q i (λa' w'=>(i∈ls\/S w')/\bP P md ops Q S ls fuel (listed.setIfInBounds i true) a' w') a w
theorem Hr:∀(fuel:Nat) (listed:Array Bool) (a:Act) (w:QL),bP P md ops Q S ls fuel listed a w->Q6 P md ops Q fuel listed a w
 |0,_,_,_,h=>h
 |fuel+1,_,_,_,h=>⟨h.1,λi d=>QU (λb w' c=>Hr fuel _ b w' c.2) (h.2 i d)⟩
theorem M9{i n:Nat}{m:Oper}{v:QM}(B:ops[i]? =some m)(J:∀(j:Nat) (o:Oper) q b,ops[j]? =some o->o.op≠ .select q b)
  (ah:∀l∈ls,qW md ops n l i=true)
  (O:∀c a w,Q (.panic c) (a.put m.dst v) w->Q (.panic c) a w):
  ∀(fuel:Nat) (listed:Array Bool) (a:Act) (w:QL),Closed md ops listed->
   (∀j p,ops[j]? =some p->j≠i->listed.getD j true=false->(∀e∈p.after,Jc md e=true->e.on≠i)->m.apart ops p=true)->
   i∈Q9 md ops listed->QZ P ops S m v a->S w->
   bP P md ops Q S ls fuel (listed.setIfInBounds i true) (a.put m.dst v) w->bP P md ops Q S ls (fuel+1) listed a w:=by
 intro fuel;induction fuel with
 |zero=>
  intro listed a w _ _ g y r H;refine⟨λh=>(by rw[h]at g;cases g),λj s=>?_⟩;by_cases f:j=i
  .subst f;exact y.wpOp B r ⟨.inr r,H⟩
  .have:=QR s f;rw[H.1]at this;cases this
 |succ fuel ih=>
  intro listed a w E F g y r H;refine⟨λh=>(by rw[h]at g;cases g),λj s=>?_⟩;by_cases f:j=i
  .subst f;exact y.wpOp B r ⟨.inr r,H⟩
  .have d:=H.2 j (QR s f);obtain⟨I,p,x,C⟩:=mem_ready.1 s;have L:=(mem_ready.1 g).1;have M:listed.getD i false=true->False:=λd=>by
    rcases JA i listed.size with z|z
    .simp[z]at L d;rw[L]at d;cases d
    .simp[Jh z]at d
   have Z:=λe=>
    M (zc E n j (ah j e) (λo u=>by rw[x]at u;injection u with u;subst u;exact C))
   have ag:∀e∈p.after,Jc md e=true->e.on≠i:=λe T R W=>by
    have d:=C e T R;rw[W]at d;exact M d
   have h2:=Q8 x (F j p x f I ag) (λq b=>J i m q b B) (λq b=>J j p q b x) O y d;have X:∀k t,ops[k]? =some t->k≠i->(listed.setIfInBounds j true).getD k true=false->
     (∀e∈t.after,Jc md e=true->e.on≠i)->m.apart ops t=true:=λk t hk ab K ad=>by
    refine F k t hk ab ?_ ad;by_cases G:j=k
    .subst G;exact I
    .rw[QT true G]at K;exact K
   refine QU (λN w' A=>?_) h2;have D:=A.2.1.resolve_left Z;refine⟨.inr D,ih (listed.setIfInBounds j true) N w' (E.set s) X (QR g (Ne.symm f)) A.1 D ?_⟩;rw[Jo _ _ f];exact A.2.2
theorem FQ{i:Nat}{d:Oper}{b:Option Tmp}{v:QM}{fuel:Nat}{listed:Array Bool}{a:Act}{w:QL}(e:ops[i]? =some d)(f:d.dst=b)
  (o:Jd ops=true) (m:Je md ops listed i=true) (n:(Q9 md ops listed).contains i=true)
  (p:ls.all (λl=>qW md ops ops.size l i)=true) (k:p7 md ops listed=true)
  (g:∀c a w,Q (.panic c) (a.put b v) w->Q (.panic c) a w) (q:QZ P ops S d v a) (j:S w)
  (h:bP P md ops Q S ls fuel (listed.setIfInBounds i true) (a.put b v) w):bP P md ops Q S ls (fuel+1) listed a w:=by
 subst f;exact M9 e (Jf o) (Qg.1 p) g fuel listed a w (LC k) (Jg e m) (by simpa using n) q j h
theorem ac(i d:Nat){v:Value}{e:Oper}{fuel:Nat}{listed:Array Bool}{a:Act}{w:World}(j:S w)(n:∀w,S w->(execOp a.eval e).run P w=.ok (.value v) w)
  (h:bP P md ops Q S ls fuel (listed.setIfInBounds i true) (a.put (some d) v) w)
  (k:ops[i]? =some e:=by exact rfl) (f:e.dst=some d:=by exact rfl) (m:Region.wanted e (yielded ops a.tmps)=true:=by rfl)
  (b:(Region.noSelect ops&&Region.free md ops listed i&&(Region.ready md ops listed).contains i&&ls.all (λl=>qW md ops ops.size l i)&&p7 md ops listed)=true:=by kernel_rfl)
  (g:∀c a w,Q (.panic c) (a.put (some d) v) w->Q (.panic c) a w:=by exact λ_ _ _ h=>h):bP P md ops Q S ls (fuel+1) listed a w:=by
 simp only[Jr]at b;exact FQ k f b.1.1.1.1 b.1.1.1.2 b.1.1.2 b.1.2 b.2 g (Or.inl ⟨m,n⟩) j h
theorem ae(i d:Nat){v:Value}{b:Oper}{fuel:Nat}{listed:Array Bool}{a:Act}{w:World}(j:S w)
  (h:bP P md ops Q S ls fuel (listed.setIfInBounds i true) (a.put (some d) v) w)
  (m:ops[i]? =some b:=by exact rfl) (f:b.dst=some d:=by exact rfl) (n:Region.wanted b (yielded ops a.tmps)=true:=by rfl)
  (k:(Region.noSelect ops&&Region.free md ops listed i&&(Region.ready md ops listed).contains i&&ls.all (λl=>qW md ops ops.size l i)&&p7 md ops listed)=true:=by kernel_rfl)
  (o:∀w,S w->(execOp a.eval b).run P w=.ok (.value v) w:=by (intro p e;clear e;go_simp;try (with_reducible rfl)))
  (g:∀c a w,Q (.panic c) (a.put (some d) v) w->Q (.panic c) a w:=by exact λ_ _ _ h=>h):bP P md ops Q S ls (fuel+1) listed a w:=ac i d j o h m f n k g
theorem ip{i:Nat}{o:Oper}{fuel:Nat}{listed:Array Bool}{a:Act}{w:QL}(d:Q9 md ops listed=[i])(k:ops[i]? =some o)
  (h:∀b:Act->QL->Prop,Shut (∀a w,S w->bP P md ops Q S ls fuel (listed.setIfInBounds i true) a w->b a w)->if Ja o (QN ops a.tmps)=true then JC P o a w b Q else b (a.put o.dst QQ) w):
  bP P md ops Q S ls (fuel+1) listed a w:=by
 refine⟨λh0=>(by rw[d]at h0;cases h0),λj c=>?_⟩;rw[d]at c;rcases Qc.1 c with rfl
 exact QP k (λb e=>h b (λa w f g=>e a w ⟨.inr f,g⟩))
theorem aF(i:Nat){o:Oper}{fuel:Nat}{listed:Array Bool}{a:Act}{w:World}
  (h:∀b:Act->World->Prop,Shut (∀a w,S w->bP P md ops Q S ls fuel (listed.setIfInBounds i true) a w->b a w)->if Region.wanted o (yielded ops a.tmps)=true then Oper.wp P o a w b Q else b (a.put o.dst undef) w)
  (d:Region.ready md ops listed=[i]:=by kernel_rfl) (c:ops[i]? =some o:=by exact rfl):bP P md ops Q S ls (fuel+1) listed a w:=ip d c h
theorem AJ{i:Nat}{o:Oper}{fuel:Nat}{listed:Array Bool}{a:Act}{w:QL}(d:Q9 md ops listed=[i])(g:ls.contains i=true)(k:ops[i]? =some o)
  (h:∀b:Act->QL->Prop,Shut (∀a w,bP P md ops Q S ls fuel (listed.setIfInBounds i true) a w->b a w)->if Ja o (QN ops a.tmps)=true then JC P o a w b Q else b (a.put o.dst QQ) w):
  bP P md ops Q S ls (fuel+1) listed a w:=by
 refine⟨λh0=>(by rw[d]at h0;cases h0),λj c=>?_⟩;rw[d]at c;rcases Qc.1 c with rfl
 exact QP k (λb e=>h b (λa w f=>e a w ⟨.inl (by simpa using g),f⟩))
theorem eF(i:Nat){o:Oper}{fuel:Nat}{listed:Array Bool}{a:Act}{w:World}
  (h:∀b:Act->World->Prop,Shut (∀a w,bP P md ops Q S ls fuel (listed.setIfInBounds i true) a w->b a w)->if Region.wanted o (yielded ops a.tmps)=true then Oper.wp P o a w b Q else b (a.put o.dst undef) w)
  (e:Region.ready md ops listed=[i]:=by kernel_rfl) (c:ls.contains i=true:=by exact rfl) (d:ops[i]? =some o:=by exact rfl):bP P md ops Q S ls (fuel+1) listed a w:=AJ e c d h
theorem Px{listed:Array Bool}{a:Act}{w:QL}(b:Q9 md ops listed=[])(h:Q .normal a w):
  ∀fuel,bP P md ops Q S ls fuel listed a w
 |0=>⟨b,h⟩
 |_+1=>⟨λ_=>h,by rw[b];simp⟩
theorem aC{fuel:Nat}{listed:Array Bool}{a:Act}{w:World}(h:Q .normal a w)(b:Region.ready md ops listed=[]:=by kernel_rfl):bP P md ops Q S ls fuel listed a w:=Px b h fuel
theorem bu{id:Nat}{a:Act}{w:QL}(b:P.follows .mixedOrders=true)
  (h:bP P .any ops Q S ls ops.size (Jl ops.size false) a w.drew):(Code.region id ops true).wp P Q a w:=
 Q0 b (Hr _ _ _ _ h)
def mg(md:Jb)(o:Oper):List Nat:=(o.after.toList.filter λe=>Jc md e).map (·.on)
def upd(d:Nat->Bool)(i:Nat):Nat->Bool:=λk=>k==i||d k
def Steps(P:QV)(md:Jb)(ops:Array Oper)(Q:Exit->Act->QL->Prop)(S:QL->Prop)(I:(Nat->Bool)->Act->QL->Prop)(rs:List Nat):Prop:=
 ∀i∈rs,∀d a w o,ops[i]? =some o->I d a w->(∀k,(mg md o).contains k=true->d k=true)->wpOp P ops Q i (λa' w'=>S w'/\I (upd d i) a' w') a w
def Bg(md:Jb)(ops:Array Oper)(l0:Array Bool)(rs ls:List Nat):Bool:=
 (Qf ops.size).all (λk=>l0.getD k false||rs.contains k||ls.contains k)&&
 ls.all (λl=>rs.all λr=>match ops[l]? with|some o=>(mg md o).contains r|none=>false)&&
 (Qf ops.size).all (λk=>match ops[k]? with|some o=>(mg md o).all (· <k)|none=>true)&&
 l0.size==ops.size&&rs.all (λr=>r<ops.size)
theorem D9{p q:Nat->Bool}(c:∀x,q x=true->p x=true):∀(l:List Nat) (i:Nat),i∈l->p i=true->q i=false->(l.filter q).length<(l.filter p).length
 | [],_,h,_,_=>by cases h
 |x::l,i,h,d,e=>by
  have f:∀l:List Nat,(l.filter q).length<=(l.filter p).length:=λl=>by
   induction l with
   |nil=>simp
   |cons y l b=>
    simp only[QG];by_cases a:q y=true
    .rw[if_pos a,if_pos (c y a)];simp;exact b
    .rw[if_neg a];split
     .simp;omega
     .exact b
  simp only[QG];rcases Qe.1 h with rfl|h
  .rw[if_pos d,if_neg (by simp[e])];have:=f l;simp;omega
  .have b:=D9 c l i h d e;by_cases a:q x=true
   .rw[if_pos a,if_pos (c x a)];simp;exact b
   .rw[if_neg a];split
    .simp;omega
    .exact b
theorem wF{o:Oper}{k:Nat}:(mg md o).contains k=true↔ ∃e∈o.after,Jc md e=true/\e.on=k:=by
 simp only[mg,List.contains_iff_mem,Qa,Qk,Array.mem_toList_iff];constructor
 .rintro⟨e,⟨a,h2⟩,b⟩;exact⟨e,a,h2,b⟩
 .rintro⟨e,a,h2,b⟩;exact⟨e,⟨a,h2⟩,b⟩
theorem Fu{rs:List Nat}{d b listed:Array Bool}{n:Nat}(g:b.toList=(Qf n).map (λk=>d.getD k false||rs.contains k))(l:listed.size=n)
  (f:∀k,rs.contains k=true->listed.getD k false=true) (h:∀k,rs.contains k=false->listed.getD k false=d.getD k false):listed=b:=by
 apply Array.toList_inj.1
 rw[g];apply QE
 intro i;rw[Qm];by_cases j:i<n
 .rw[List.getElem?_range j,Jp,Jn oo];have e:listed[i]'(oo)=listed.getD i false:=by simp[Jm,show i<listed.size by omega]
  rw[e];simp only[Option.map_some,Option.some.injEq];by_cases a:rs.contains i=true
  .rw[f i a,a];simp
  .have c:rs.contains i=false:=by simpa using a
   rw[h i c,c];simp
 .rw[Jp,Jh oo,List.getElem?_eq_none (by simp;omega)];rfl
theorem KG{listed:Array Bool}{k:Nat}(a:k<listed.size):listed.getD k true=false↔listed.getD k false=false:=by
 simp[Jm,a]
theorem QFS{listed:Array Bool}(m:listed.size=ops.size)(d:∀x,x<ops.size->(match ops[x]? with|some o=>(mg md o).all λy=>decide (y<x)|none=>true)=true):
  ∀k,k<ops.size->listed.getD k false=false->(∀j,j<k->listed.getD j false=true)->k∈Q9 md ops listed:=by
 intro k b l i;obtain⟨o,c⟩:∃o,ops[k]? =some o:=⟨_,Jn b⟩
 refine mem_ready.2 ⟨(KG oo).2 l,o,c,λe h g=>?_⟩;have a:=d k b;rw[c]at a;have f:=Qg.1 a e.on (by simpa using wF.2 ⟨e,h,g,rfl⟩);exact i _ (by simpa using f)
theorem GW{listed:Array Bool}:∀(n:Nat),(∃k,k<n/\listed.getD k false=false)-> ∃k,k<n/\listed.getD k false=false/\ ∀j,j<k->listed.getD j false=true
 |0,⟨k,b,_⟩=>by omega
 |n+1,h=>by
  by_cases a:∃k,k<n/\listed.getD k false=false
  .obtain⟨k,b,h2⟩:=GW n a;exact⟨k,oo,h2⟩
  .obtain⟨k,b,d⟩:=h;have:k=n:=by
    rcases JA k n with c|c
    .exact absurd ⟨k,c,d⟩ a
    .omega
   subst this;refine⟨k,b,d,λj f=>?_⟩;cases e:listed.getD j false with
   |true=>rfl
   |false=>exact absurd ⟨j,f,e⟩ a
theorem Mr{I:(Nat->Bool)->Act->QL->Prop}{rs:List Nat}{y K:Array Bool}(F:Bg md ops y rs ls=true)
  (G:K.toList=(Qf ops.size).map (λk=>y.getD k false||rs.contains k))
  (a1:Steps P md ops Q S I rs)
  (ag:∀d H a w,(∀k,d k=H k)->I d a w->I H a w)
  (J:∀(n:Nat) (d:Nat->Bool) (a:Act) (w:QL),I d a w->(∀k,rs.contains k=true->d k=true)->bP P md ops Q S ls (n+ls.length) K a w):
  ∀(fuel:Nat) (listed:Array Bool) (a:Act) (w:QL),(rs.filter λr=> !listed.getD r false).length+ls.length<=fuel->listed.size=ops.size->
   (∀k,rs.contains k=false->listed.getD k false=y.getD k false)->(∀k,y.getD k false=true->listed.getD k false=true)->I (λk=>listed.getD k false) a w->bP P md ops Q S ls fuel listed a w:=by
 unfold Bg at F;simp only[Jr,Qg,Qo,Js,beq_iff_eq,decide_eq_true_eq]at F;obtain⟨⟨⟨⟨X,Z⟩,c3⟩,c4⟩,c5⟩:=F;have ab:=c3
 intro fuel;induction fuel with
 |zero=>
  intro listed a w hm m s B t;have h0:(rs.filter λr=> !listed.getD r false).length=0:=oo
  have h:∀k,rs.contains k=true->listed.getD k false=true:=λk b=>by
   have f:k∉rs.filter λr=> !listed.getD r false:=by rw[Qp.1 h0];simp
   rw[Qk]at f;have ao:k∈rs:=by simpa using b
   cases g:listed.getD k false with
   |true=>rfl
   |false=>exact absurd ⟨ao,by simp only[g];rfl⟩ f
  have e:=Fu G m h s;subst e;have l:=J 0 _ a w t h;rw[show 0+ls.length=0 by omega]at l;exact l
 |succ fuel ih=>
  intro listed a w hm m s B t;by_cases h:∀k,rs.contains k=true->listed.getD k false=true
  .have e:=Fu G m h s;subst e;have l:=J (fuel+1-ls.length) _ a w t h;rw[show fuel+1-ls.length+ls.length=fuel+1 by omega]at l;exact l
  .have ad:∃r,r∈rs/\listed.getD r false=false:=by
    refine JE λaz=>h λk b=>?_
    cases g:listed.getD k false with
    |true=>rfl
    |false=>exact absurd ⟨k,by simpa using b,g⟩ az
   obtain⟨r,N,R⟩:=ad;obtain⟨k0,ap,ay,ax⟩:=GW (listed:=listed) ops.size ⟨r,c5 r N,R⟩;have O:=QFS (md:=md) m ab k0 ap ay ax;refine⟨λh0=>(by rw[h0]at O;cases O),λi hi=>?_⟩;obtain⟨an,oi,E,M⟩:=mem_ready.1 hi;have ah:=(Jj.1 E).1;have D:=(KG oo).1 an;have C:i∈rs:=by
    rcases X i ah with (f|f)|f
    .rw[B i f]at D;cases D
    .simpa using f
    .exfalso
     have h2:=Z i (by simpa using f) r N;rw[E]at h2;obtain⟨e,z,g,A⟩:=wF.1 h2;have j:=M e z g;rw[A,R]at j;cases j
   have a0:=a1 i C (λk=>listed.getD k false) a w oi E t (λk b=>by
    obtain⟨e,z,g,A⟩:=wF.1 b;have j:=M e z g;rw[A]at j;exact j)
   refine QU (λW w' L=>⟨.inr L.1,?_⟩) a0;have o:(listed.setIfInBounds i true).getD i false=true:=by
    simp[Jm,show i<listed.size by omega]
   have u:∀k,k≠i->(listed.setIfInBounds i true).getD k false=listed.getD k false:=λk b=>QT false (Ne.symm b)
   refine ih (listed.setIfInBounds i true) W w' ?_ (by simpa using m) ?_ ?_ ?_
   .have:=D9 (p:=λr=> !listed.getD r false) (q:=λr=> !(listed.setIfInBounds i true).getD r false) (λx v=>by
     by_cases T:x=i
     .subst T;rw[o]at v;cases v
     .rw[u x T]at v;exact v) rs i C (by simp only[D];rfl) (by simp only[o];rfl)
    omega
   .intro k b;by_cases c:k=i
    .subst c;have:rs.contains k=true:=by simpa using C
     rw[this]at b;cases b
    .rw[u k c];exact s k b
   .intro k b;by_cases c:k=i
    .subst c;exact o
    .rw[u k c];exact B k b
   .refine ag _ _ _ _ (λk=>?_) L.2;unfold upd;by_cases c:k=i
    .subst c;simp only[o];simp
    .rw[u k c];simp[c]
theorem M8{I:(Nat->Bool)->Act->QL->Prop}{fuel:Nat}{b:Array Bool}{a:Act}{w:QL}(rs:List Nat)(f:Array Bool)(c:Bg md ops b rs ls=true)
  (i:Jy (rs.length+ls.length) fuel=true)
  (g:f.toList=(Qf ops.size).map (λk=>b.getD k false||rs.contains k))
  (e:I (λk=>b.getD k false) a w)
  (o:Steps P md ops Q S I rs)
  (l:∀(n:Nat) (d:Nat->Bool) (a:Act) (w:QL),I d a w->(∀k,rs.contains k=true->d k=true)->bP P md ops Q S ls (n+ls.length) f a w):
  bP P md ops Q S ls fuel b a w:=by
 have m:b.size=ops.size:=by
  unfold Bg at c;simp only[Jr,beq_iff_eq]at c;exact c.1.2
 refine Mr c g o (λd j a w h e=>(funext h:d=j)▸e) l fuel b a w ?_ m (λ_ _=>rfl) (λ_ h=>h) e;have:=Qy (λr=> !b.getD r false) rs;have:=JB i;omega
def bK(a:Act)(adz:List Nat)(u:Nat->QM):Act:=adz.foldl (λa s=>a.put (some s) (u s)) a
def upV(u:Nat->QM)(s:Nat)(v:QM):Nat->QM:=λt=>if t=s then v else u t
theorem Lx(a:Act)(c:List Nat):bK a c (λs=>a.tmps.getD s QQ)=a:=by
 suffices h:∀b:Act,b=a->bK b c (λs=>a.tmps.getD s QQ)=a from h a rfl
 induction c with
 |nil=>intro b d;exact d
 |cons s l e=>
  intro b d;refine e _ ?_;subst d;cases b with
  |mk tmps defers=>
   show(⟨tmps.setIfInBounds s (tmps.getD s QQ),defers⟩:Act)=⟨tmps,defers⟩
   rw[show tmps.setIfInBounds s (tmps.getD s QQ)=tmps from ?_];apply Jq
   intro i;rw[Ji];split
   .rename_i h;subst h
    split
    .rename_i h2;simp[h2]
    .rename_i h2;rw[Jh oo]
   .rfl
def StepsU(P:QV)(md:Jb)(ops:Array Oper)(Q:Exit->Act->QL->Prop)(S:QL->Prop)(a:Act)(adz:List Nat)(R:(Nat->Bool)->(Nat->QM)->QL->Prop)(rs:List Nat):Prop:=
 ∀i∈rs,∀d u w o,ops[i]? =some o->R d u w->(∀k,(mg md o).contains k=true->d k=true)->wpOp P ops Q i (λa' w'=>S w'/\ ∃u',a'=bK a adz u'/\R (upd d i) u' w') (bK a adz u) w
theorem StepsU.nil{a:Act}{b:List Nat}{R:(Nat->Bool)->(Nat->QM)->QL->Prop}:StepsU P md ops Q S a b R []:=λ_ h=>by cases h
theorem StepsU.cons{a:Act}{b:List Nat}{R:(Nat->Bool)->(Nat->QM)->QL->Prop}{i:Nat}{rs:List Nat}{o:Oper}(m:ops[i]? =some o)
  (h:∀d u w,R d u w->(∀k,(mg md o).contains k=true->d k=true)->
   ∀c:Act->QL->Prop,Shut (∀g w',S w'->R (upd d i) g w'-> ∀e,e=bK a b g->c e w')->if Ja o (QN ops (bK a b u).tmps)=true then JC P o (bK a b u) w c Q else c ((bK a b u).put o.dst QQ) w)
  (v:StepsU P md ops Q S a b R rs):StepsU P md ops Q S a b R (i::rs):=λj l=>by
 rcases Qe.1 l with rfl|l
 .intro d u w x f p t;rw[m]at f;injection f with f;subst f
  exact QP m (λc n=>h d u w p t c (λg w' r q e s=>n e w' ⟨r,g,s,q⟩))
 .exact v j l
theorem De{R:(Nat->Bool)->(Nat->QM)->QL->Prop}{fuel:Nat}{e:Array Bool}{a:Act}{w:QL}(c rs:List Nat)(g:Array Bool)(r:Bg md ops e rs ls=true)
  (l:Jy (rs.length+ls.length) fuel=true)
  (j:g.toList=(Qf ops.size).map (λk=>e.getD k false||rs.contains k))
  (b:R (λk=>e.getD k false) (λs=>a.tmps.getD s QQ) w)
  (t:StepsU P md ops Q S a c R rs)
  (m:∀(n:Nat) (d:Nat->Bool) (u:Nat->QM) (w:QL),R d u w->(∀k,rs.contains k=true->d k=true)->bP P md ops Q S ls (n+ls.length) g (bK a c u) w):
  bP P md ops Q S ls fuel e a w:=by
 refine M8 (I:=λd f w'=> ∃u,f=bK a c u/\R d u w') rs g r l j ⟨_,(Lx a c).symm,b⟩ ?_ ?_
 .rintro i p d f w' o q ⟨u,rfl,b⟩ h;exact t i p d u w' o q b h
 .rintro n d f w' ⟨u,rfl,b⟩ h;exact m n d u w' b h
theorem Mu{o:Oper}{a:Act}{w:QL}(c:TypeId)(x:QW)(j:o.op=.load c x)
  (g:Nat) (l:a.eval x=Jw (some ⟨g,0,none⟩)) (t:TypeId) (b:Array QM) (e:Nat×Nat) (d:TypeDesc) (h:w.heap[g]? =some (JD b t e))
  (k:P.underlying c=some d) (f:(match d with| .struct _| .array _ _=>true|_=>false)=true) (i:(P.info? c).map (·.size)=some b.size):
  (QO a.eval o).run P w=.ok (.value (Jx b)) w:=by
 unfold QO;simp only[j,l,Instr.loadAt,Instr.sureAddr,Sem.run_bind,Sem.run_pure,Result.andThen_ok,run_loadVar_row w g t c b e d h k f i]
theorem xl{t n:Nat}(ht:Ty t n){o:Oper}{a:Act}{w:QL}{x:QW}{g:Nat}{b:Array QM}(f:w.heap[g]? =some (JD b t (0,0)))(i:b.size=n)(h:o.op=.load t x)(j:a.eval x=Jw (some ⟨g,0,none⟩)):(QO a.eval o).run Tryz.prog w=.ok (.value (Jx b)) w:=by
 obtain⟨d,c,h2,e⟩:=ht;exact Mu t x h g j t b (0,0) d f c (by cases d<;>first|rfl|cases h2) (by rw[i];exact e)
theorem ar{b:Array Oper}{Q:Exit->Act->World->Prop}{md:Region.Mode}{S:World->Prop}{ls:List Nat}(i d:Nat){t n g:Nat}(ht:Ty t n){e:Array Value}(p:∀w,S w->w.heap[g]? =some (.cells e t (0,0)))(s:e.size=n){f:Oper}{x:Operand}{fuel:Nat}{listed:Array Bool}{a:Act}{w:World}(m:S w)
  (h:bP Tryz.prog md b Q S ls fuel (listed.setIfInBounds i true) (a.put (some d) (.agg e)) w)
  (q:b[i]? =some f:=by exact rfl) (j:f.dst=some d:=by exact rfl) (r:f.op=.load t x:=by exact rfl) (v:a.eval x=.pointer (some ⟨g,0,none⟩):=by exact rfl) (u:Region.wanted f (yielded b a.tmps)=true:=by rfl)
  (o:(Region.noSelect b&&Region.free md b listed i&&(Region.ready md b listed).contains i&&ls.all (λl=>qW md b b.size l i)&&p7 md b listed)=true:=by kernel_rfl)
  (k:∀c a w,Q (.panic c) (a.put (some d) (.agg e)) w->Q (.panic c) a w:=by exact λ_ _ _ h=>h):bP Tryz.prog md b Q S ls (fuel+1) listed a w:=
 ac i d m (λw h=>xl ht (p w h) s r v) h q j u o k
end
end Go.Proofs.YtclpbaokadfhhaaGreatDoor
namespace Go.Proofs.YtclpbaokadfhhaaGreatDoor
open Go
section
variable {P:Program}{ops:Array Oper}{Q:Exit→Act→World→Prop}{md:Region.Mode}{S:World→Prop}{ls:List Nat}
def DW(md:Jb)(ops:Array Oper)(rs:List Nat):Nat->Nat->Nat->Bool
 |0,k,r=>match ops[k]? with|some o=>(mg md o).contains r|none=>false
 |f+1,k,r=>match ops[k]? with|some o=>(mg md o).contains r||rs.any (λj=>(mg md o).contains j&&DW md ops rs f j r)|none=>false
def se(md:Jb)(ops:Array Oper)(l0:Array Bool)(rs ls:List Nat):Bool:=
 (Qf ops.size).all (λk=>l0.getD k false||rs.contains k||ls.contains k)&&
 ls.all (λl=>rs.all λr=>DW md ops rs 8 l r)&&
 (Qf ops.size).all (λk=>match ops[k]? with|some o=>(mg md o).all (· <k)|none=>true)&&
 l0.size==ops.size&&rs.all (λr=>r<ops.size)&&rs.all (λr=> !l0.getD r false)
theorem DV{rs:List Nat}{listed:Array Bool}(c:∀k∈rs,listed.getD k false=true-> ∀o,ops[k]? =some o-> ∀j,(mg md o).contains j=true->listed.getD j false=true):
  ∀(f k r:Nat),(∀o,ops[k]? =some o-> ∀j,(mg md o).contains j=true->listed.getD j false=true)->DW md ops rs f k r=true->listed.getD r false=true
 |0,k,r,b,h=>by
  unfold DW at h;cases a:ops[k]? with
  |none=>rw[a]at h;cases h
  |some o=>rw[a]at h;exact b o a r h
 |f+1,k,r,b,h=>by
  unfold DW at h;cases a:ops[k]? with
  |none=>rw[a]at h;cases h
  |some o=>
   rw[a]at h;simp only[Js,List.any_eq_true,Jr]at h;rcases h with h|⟨j,e,d,h2⟩
   .exact b o a r h
   .exact DV c f j r (c j e (b o a j d)) h2
theorem Kz{m:Nat}{I:(Nat->Bool)->Act->QL->Prop}{rs:List Nat}{G W:Array Bool}(N:se md ops G rs ls=true)
  (O:W.toList=(Qf ops.size).map (λk=>G.getD k false||rs.contains k))
  (a6:Steps P md ops Q S I rs)
  (ap:∀d R a w,(∀k,d k=R k)->I d a w->I R a w)
  (T:∀(n:Nat) (d:Nat->Bool) (a:Act) (w:QL),I d a w->(∀k,rs.contains k=true->d k=true)->bP P md ops Q S ls (n+m) W a w):
  ∀(fuel:Nat) (listed:Array Bool) (a:Act) (w:QL),(rs.filter λr=> !listed.getD r false).length+m<=fuel->listed.size=ops.size->
   (∀k,rs.contains k=false->listed.getD k false=G.getD k false)->(∀k,G.getD k false=true->listed.getD k false=true)->(∀k∈rs,listed.getD k false=true-> ∀o,ops[k]? =some o-> ∀j,(mg md o).contains j=true->listed.getD j false=true)->I (λk=>listed.getD k false) a w->bP P md ops Q S ls fuel listed a w:=by
 unfold se at N;simp only[Jr,Qg,Qo,Js,beq_iff_eq,decide_eq_true_eq]at N;obtain⟨⟨⟨⟨⟨c1,c2⟩,c3⟩,c4⟩,c5⟩,c6⟩:=N;have an:=c3
 intro fuel;induction fuel with
 |zero=>
  intro listed a w hm A B K H C;have h0:(rs.filter λr=> !listed.getD r false).length=0:=oo
  have s:∀k,rs.contains k=true->listed.getD k false=true:=λk b=>by
   have h:k∉rs.filter λr=> !listed.getD r false:=by rw[Qp.1 h0];simp
   rw[Qk]at h;have a0:k∈rs:=by simpa using b
   cases g:listed.getD k false with
   |true=>rfl
   |false=>exact absurd ⟨a0,by simp only[g];rfl⟩ h
  have e:=Fu O A s B;subst e;have z:=T 0 _ a w C s;rw[show 0+m=0 by omega]at z;exact z
 |succ fuel ih=>
  intro listed a w hm A B K H C;by_cases s:∀k,rs.contains k=true->listed.getD k false=true
  .have e:=Fu O A s B;subst e;have z:=T (fuel+1-m) _ a w C s;rw[show fuel+1-m+m=fuel+1 by omega]at z;exact z
  .have ao:∃r,r∈rs/\listed.getD r false=false:=by
    refine JE λa4=>s λk b=>?_
    cases g:listed.getD k false with
    |true=>rfl
    |false=>exact absurd ⟨k,by simpa using b,g⟩ a4
   obtain⟨r,hr,ag⟩:=ao;obtain⟨k0,a1,a3,a2⟩:=GW (listed:=listed) ops.size ⟨r,c5 r hr,ag⟩;have ad:=QFS (md:=md) A an k0 a1 a3 a2;refine⟨λh0=>(by rw[h0]at ad;cases ad),λi hi=>?_⟩;obtain⟨ay,oi,E,J⟩:=mem_ready.1 hi;have ax:=(Jj.1 E).1;have M:=(KG oo).1 ay;have L:i∈rs:=by
    rcases c1 i ax with (h|h)|h
    .rw[K i h]at M;cases M
    .simpa using h
    .exfalso
     have h2:=DV H 8 i r (λo f j D=>by
      rw[E]at f;injection f with f;subst f
      obtain⟨e,v,g,y⟩:=wF.1 D;have l:=J e v g;rw[y]at l;exact l) (c2 i (by simpa using h) r hr)
     rw[ag]at h2;cases h2
   have a5:=a6 i L (λk=>listed.getD k false) a w oi E C (λk b=>by
    obtain⟨e,v,g,y⟩:=wF.1 b;have l:=J e v g;rw[y]at l;exact l)
   refine QU (λa' w' X=>⟨.inr X.1,?_⟩) a5;have u:(listed.setIfInBounds i true).getD i false=true:=by
    simp[Jm,show i<listed.size by omega]
   have t:∀k,k≠i->(listed.setIfInBounds i true).getD k false=listed.getD k false:=λk b=>QT false (Ne.symm b)
   refine ih (listed.setIfInBounds i true) a' w' ?_ (by simpa using A) ?_ ?_ ?_ ?_
   .have:=D9 (p:=λr=> !listed.getD r false) (q:=λr=> !(listed.setIfInBounds i true).getD r false) (λx F=>by
     by_cases ah:x=i
     .subst ah;rw[u]at F;cases F
     .rw[t x ah]at F;exact F) rs i L (by simp only[M];rfl) (by simp only[u];rfl)
    omega
   .intro k b;by_cases c:k=i
    .subst c;have:rs.contains k=true:=by simpa using L
     rw[this]at b;cases b
    .rw[t k c];exact B k b
   .intro k b;by_cases c:k=i
    .subst c;exact u
    .rw[t k c];exact K k b
   .intro k b ab o f j D;have az:listed.getD j false=true:=by
     by_cases c:k=i
     .subst c;rw[E]at f;injection f with f;subst f
      obtain⟨e,v,g,y⟩:=wF.1 D;have l:=J e v g;rw[y]at l;exact l
     .rw[t k c]at ab;exact H k b ab o f j D
    by_cases Z:j=i
    .subst Z;exact u
    .rw[t j Z];exact az
   .refine ap _ _ _ _ (λk=>?_) X.2;unfold upd;by_cases c:k=i
    .subst c;simp only[u];simp
    .rw[t k c];simp[c]
theorem Mq{m:Nat}{I:(Nat->Bool)->Act->QL->Prop}{fuel:Nat}{c:Array Bool}{a:Act}{w:QL}(rs:List Nat)(f:Array Bool)(b:se md ops c rs ls=true)
  (j:Jy (rs.length+m) fuel=true)
  (i:f.toList=(Qf ops.size).map (λk=>c.getD k false||rs.contains k))
  (e:I (λk=>c.getD k false) a w)
  (t:Steps P md ops Q S I rs)
  (o:∀(n:Nat) (d:Nat->Bool) (a:Act) (w:QL),I d a w->(∀k,rs.contains k=true->d k=true)->bP P md ops Q S ls (n+m) f a w):
  bP P md ops Q S ls fuel c a w:=by
 have s:c.size=ops.size:=by
  unfold se at b;simp only[Jr,beq_iff_eq]at b;exact b.1.1.2
 refine Kz b i t (λd l a w h e=>(funext h:d=l)▸e) o fuel c a w ?_ s (λ_ _=>rfl) (λ_ h=>h) (λk p q=>?_) e
 .have:=Qy (λr=> !c.getD r false) rs;have:=JB j;omega
 unfold se at b;simp only[Jr,Qg]at b;have g:=b.2 k p;rw[q]at g;cases g
theorem Dd{m:Nat}{R:(Nat->Bool)->(Nat->QM)->QL->Prop}{fuel:Nat}{e:Array Bool}{a:Act}{w:QL}(c rs:List Nat)(g:Array Bool)(t:se md ops e rs ls=true)
  (l:Jy (rs.length+m) fuel=true)
  (j:g.toList=(Qf ops.size).map (λk=>e.getD k false||rs.contains k))
  (b:R (λk=>e.getD k false) (λs=>a.tmps.getD s QQ) w)
  (v:StepsU P md ops Q S a c R rs)
  (p:∀(n:Nat) (d:Nat->Bool) (u:Nat->QM) (w:QL),R d u w->(∀k,rs.contains k=true->d k=true)->bP P md ops Q S ls (n+m) g (bK a c u) w):
  bP P md ops Q S ls fuel e a w:=by
 refine Mq (I:=λd f w'=> ∃u,f=bK a c u/\R d u w') rs g t l j ⟨_,(Lx a c).symm,b⟩ ?_ ?_
 .rintro i q d f w' o r ⟨u,rfl,b⟩ h;exact v i q d u w' o r b h
 .rintro n d f w' ⟨u,rfl,b⟩ h;exact p n d u w' b h
theorem wD{R:(Nat->Bool)->(Nat->QM)->QL->Prop}{fuel:Nat}{b:Array Bool}{a:Act}{w:QL}(c rs:List Nat)(e:Array Bool)(j:se md ops b rs ls=true)
  (g:Jy (rs.length+ls.length) fuel=true)
  (f:e.toList=(Qf ops.size).map (λk=>b.getD k false||rs.contains k))
  (i:R (λk=>b.getD k false) (λs=>a.tmps.getD s QQ) w)
  (l:StepsU P md ops Q S a c R rs)
  (h:∀(n:Nat) (d:Nat->Bool) (u:Nat->QM) (w:QL),R d u w->(∀k,rs.contains k=true->d k=true)->bP P md ops Q S ls (n+ls.length) e (bK a c u) w):
  bP P md ops Q S ls fuel b a w:=Dd c rs e j g f i l h
end
end Go.Proofs.YtclpbaokadfhhaaGreatDoor
namespace Go.Proofs.YtclpbaokadfhhaaGreatDoor
open Go.RowKit
abbrev BL:=List (Nat×Array QM×Nat)
def WS(w0:QL)(base:Nat)(l:BL)(w:QL):Prop:=(∀x∈l,Blk w x.1 x.2.1 x.2.2)/\Below base w0 w/\base<=w.heap.size/\(∀x∈l,base<=x.1)
theorem WS.get{c w:QL}{a:Nat}{l:BL}(h:WS c a l w)(i:Nat){x:Nat×Array QM×Nat}(b:l[i]? =some x):Blk w x.1 x.2.1 x.2.2:=
 h.1 x (mG b)
theorem WS.start{w:QL}:WS w w.heap.size [] w:=⟨λ_ h=>(by cases h),Below.refl _ _,Nat.le_refl _,λ_ h=>(by cases h)⟩
theorem WS.keep{b w w':QL}{a:Nat}{l:BL}(h:WS b a l w)(k:Below w.heap.size w w'):WS b a l w':=
 ⟨λx c=>(h.1 x c).keep k,h.2.1.trans (k.mono h.2.2.1),Nat.le_trans h.2.2.1 k.size,h.2.2.2⟩
theorem WS.drew{b w:QL}{a:Nat}{l:BL}(h:WS b a l w):WS b a l w.drew:=⟨h.1,h.2.1.drew,h.2.2.1,h.2.2.2⟩
theorem WS.alloc{b w:QL}{a:Nat}{l:BL}(h:WS b a l w)(o:Obj):WS b a l (w.alloc o):=
 ⟨λx c=>(h.1 x c).alloc o,h.2.1.alloc h.2.2.1 o,by have:=h.2.2.1;simp;omega,h.2.2.2⟩
theorem WS.push{d w:QL}{b q t:Nat}{c:Array QM}{l:BL}(h:WS d b l w)(e:Blk w q c t)(f:b<=q):WS d b ((q,c,t)::l) w:=
 ⟨λx a=>by rcases Qe.1 a with rfl|a;exact e;exact h.1 x a,h.2.1,h.2.2.1,λx a=>by rcases Qe.1 a with rfl|a;exact f;exact h.2.2.2 x a⟩
theorem WS.new{c w:QL}{a:Nat}{l:BL}(h:WS c a l w)(b:Array QM)(t:Nat):WS c a ((w.heap.size,b,t)::l) (w.alloc (JD b t)):=
 (h.alloc _).push (Blk.new _ _ _) h.2.2.1
theorem WS.sub{d w:QL}{b:Nat}{l l':BL}(h:WS d b l w)(c:∀x∈l',x∈l):WS d b l' w:=⟨λx a=>h.1 x (c x a),h.2.1,h.2.2.1,λx a=>h.2.2.2 x (c x a)⟩
theorem WS.upd{i w:QL}{c:Nat}{l:BL}(h:WS i c l w)(q:Nat)(cs':Array QM)(t:Nat)(l':BL)(k:∃d,(q,d,t)∈l)(f:∀x∈l',x=(q,cs',t)\/(x∈l/\x.1≠q)):WS i c l' (w.setRow q cs'):=by
 obtain⟨d,g⟩:=k;have j:=h.1 _ g;have e:=h.2.2.2 _ g;refine⟨λx b=>?_,below_setRow h.2.1 e _,by rw[size_setRow];exact h.2.2.1,λx b=>?_⟩
 .rcases f x b with rfl|⟨a,h2⟩
  .exact j.row _
  .exact(h.1 x a).other h2 _
 .rcases f x b with rfl|⟨a,_⟩
  .exact e
  .exact h.2.2.2 x a
theorem WS.lt{c w:QL}{a:Nat}{l:BL}(h:WS c a l w):∀x∈l,x.1<w.heap.size:=λx b=>(h.1 x b).lt
theorem WS.below{b w:QL}{a:Nat}{l:BL}(h:WS b a l w):Below a b w:=h.2.1
def Fresh(_w0:QL)(base:Nat)(l:BL)(cs:Array QM)(t:Nat)(v:QM)(w:QL):Prop:=
 ∃q,v=Jw (some ⟨q,0,none⟩)/\Blk w q cs t/\(∀x∈l,x.1<q)/\base<=q
theorem Fresh.keep{c w w':QL}{a t:Nat}{l:BL}{b:Array QM}{v:QM}(h:Fresh c a l b t v w)(k:Below w.heap.size w w'):Fresh c a l b t v w':=by
 obtain⟨q,e,d,r⟩:=h;exact⟨q,e,d.keep k,r⟩
theorem Fresh.alloc{c w:QL}{a t:Nat}{l:BL}{b:Array QM}{v:QM}(h:Fresh c a l b t v w)(o:Obj):Fresh c a l b t v (w.alloc o):=by
 obtain⟨q,e,d,r⟩:=h;exact⟨q,e,d.alloc o,r⟩
theorem Fresh.mk{c w:QL}{a:Nat}{l:BL}(h:WS c a l w)(b:Array QM)(t:Nat):Fresh c a l b t (Jw (some ⟨w.heap.size,0,none⟩)) (w.alloc (JD b t)):=
 ⟨_,rfl,Blk.new _ _ _,h.lt,h.2.2.1⟩
theorem Fresh.ne{d w:QL}{a t:Nat}{l:BL}{b:Array QM}{v:QM}(h:Fresh d a l b t v w):v≠ Jw (some ⟨w.heap.size,0,none⟩):=by
 obtain⟨q,rfl,c,_⟩:=h;intro e;injection e with e;injection e with e;injection e with e
 have:=c.lt;omega
def WD(w0:QL)(base:Nat)(l:BL)(w:QL):Prop:=WS w0 base l w/\(l.map (·.1)).Nodup
theorem WD.get{c w:QL}{a:Nat}{l:BL}(h:WD c a l w)(i:Nat){x:Nat×Array QM×Nat}(b:l[i]? =some x):Blk w x.1 x.2.1 x.2.2:=h.1.get i b
theorem WD.gt{e w:QL}{c:Nat}{l:BL}(h:WD e c l w)(i:Nat){b:Nat}{a:Array QM}{t:Nat}(d:l[i]? =some (b,a,t)):w.heap[b]? =some (JD a t (0,0)):=h.get i d
theorem WD.start{w:QL}:WD w w.heap.size [] w:=⟨WS.start,List.nodup_nil⟩
theorem WD.keep{b w w':QL}{a:Nat}{l:BL}(h:WD b a l w)(k:Below w.heap.size w w'):WD b a l w':=⟨h.1.keep k,h.2⟩
theorem WD.drew{b w:QL}{a:Nat}{l:BL}(h:WD b a l w):WD b a l w.drew:=⟨h.1.drew,h.2⟩
theorem WD.alloc{b w:QL}{a:Nat}{l:BL}(h:WD b a l w)(o:Obj):WD b a l (w.alloc o):=⟨h.1.alloc o,h.2⟩
theorem WD.push{c w:QL}{a q t:Nat}{b:Array QM}{l:BL}(h:WD c a l w)(d:Blk w q b t)(i:a<=q)(f:∀x∈l,x.1≠q):WD c a ((q,b,t)::l) w:=by
 refine⟨h.1.push d i,?_⟩;rw[QJ,QH];refine⟨λg=>?_,h.2⟩;obtain⟨x,j,e⟩:=Qa.1 g;exact f x j e
theorem WD.new{c w:QL}{a:Nat}{l:BL}(h:WD c a l w)(b:Array QM)(t:Nat):WD c a ((w.heap.size,b,t)::l) (w.alloc (JD b t)):=
 (h.alloc _).push (Blk.new _ _ _) h.1.2.2.1 (λx d=>by have:=h.1.lt x d;omega)
theorem WD.below{b w:QL}{a:Nat}{l:BL}(h:WD b a l w):Below a b w:=h.1.below
theorem WD.sub{c w:QL}{a:Nat}{l l':BL}(h:WD c a l w)(b:List.Sublist l' l):WD c a l' w:=⟨h.1.sub (λ_ d=>b.subset d),(b.map _).nodup h.2⟩
theorem WD.over{p w:QL}{k:Nat}{l:BL}(h:WD p k l w)(i:Nat){q t:Nat}{m:Array QM}(f:l[i]? =some (q,m,t))(cs':Array QM):WD p k (l.set i (q,cs',t)) (w.setRow q cs'):=by
 have d:=(Qj.1 f).1;have r:=(Qj.1 f).2;refine⟨h.1.upd q cs' t _ ⟨m,mG f⟩ (λx u=>?_),?_⟩
 .obtain⟨j,a⟩:=List.mem_iff_getElem?.1 u;by_cases b:i=j
  .subst b;rw[Qt d]at a;left;injection a with a;exact a.symm
  .rw[QA b]at a;right
   refine⟨mG a,λe=>b ?_⟩;have g:=(Qj.1 a).1;have s:=(Qj.1 a).2;have n:(l.map (·.1))[i]'(by simpa using d)=(l.map (·.1))[j]'(by simpa using g):=by
    rw[QF,QF,r,s,e]
   have o:=List.pairwise_iff_getElem.1 h.2;rcases Nat.lt_trichotomy i j with c|c|c
   .exact absurd n (o i j (by simpa using d) (by simpa using g) c)
   .exact c
   .exact absurd n.symm (o j i (by simpa using g) (by simpa using d) c)
 .have:(l.set i (q,cs',t)).map (·.1)=l.map (·.1):=by
   apply QE
   intro j;rw[Qm,Qm];by_cases b:i=j
   .subst b;rw[Qt d,f];rfl
   .rw[QA b]
  rw[this];exact h.2
theorem WB{c w:QL}{b:Nat}{l:BL}(h:WD c b l w)(a:Array QM)(t:Nat):Fresh c b l a t (Jw (some ⟨w.heap.size,0,none⟩)) (w.alloc (JD a t)):=Fresh.mk h.1 a t
open Go Go.RowKit
section
variable {P:Program}{ops:Array Oper}{Q:Exit→Act→World→Prop}{md:Region.Mode}{S:World→Prop}{ls:List Nat}{w0:World}{base:Nat}{L:BL}
theorem rgS(ls:List Nat){id:Nat}{a:Act}{w:World}(b:S w.drew)(h:∀w',S w'->bP P .any ops Q S ls ops.size (Array.replicate ops.size false) a w')(c:P.follows .mixedOrders=true:=by kernel_rfl):(Code.region id ops true).wp P Q a w:=
 bu c (h _ b)
abbrev VT:=List (Nat×Nat×QM)
def zd:List (Nat×QM)->(Nat->QM)->Nat->QM
 | [],u=>u
 |x::l,u=>λs=>if s=x.1 then x.2 else zd l u s
theorem So{u:Nat->QM}:∀{l:List (Nat×QM)},(∀x∈l,u x.1=x.2)->zd l u=u
 | [],_=>rfl
 |x::l,h=>by
  funext s
  show(if s=x.1 then x.2 else zd l u s)=u s
  rw[So λy a=>h y (Qi _ a)];split
  .rename_i e;rw[e,h x Qd]
  .rfl
def Ec(md:Jb)(o:Oper)(vs:VT):List (Nat×QM):=(vs.filter λy=>(mg md o).contains y.1).map (·.2)
def VS(P:QV)(ops:Array Oper)(Q:Exit->Act->QL->Prop)(md:Jb)(w0:QL)(base:Nat)(L:BL)(a:Act)(adz:List Nat)(vs:VT)(x:Nat×Nat×QM):Prop:=
 ∃o,ops[x.1]? =some o/\ ∀u w,WD w0 base L w-> ∀K:Act->QL->Prop,(∀w',Below w.heap.size w w'->K ((bK a adz (zd (Ec md o vs) u)).put (some x.2.1) x.2.2) w')->
  if Ja o (QN ops (bK a adz (zd (Ec md o vs) u)).tmps)=true then JC P o (bK a adz (zd (Ec md o vs) u)) w K Q else K ((bK a adz (zd (Ec md o vs) u)).put o.dst QQ) w
def NS(P:QV)(ops:Array Oper)(a:Act)(adz:List Nat)(i s:Nat)(cs:Array QM)(t:Nat):Prop:=
 ∃o,ops[i]? =some o/\o.guard=none/\o.dst=some s/\ ∀u w,(QO (bK a adz u).eval o).run P w=.ok (.value (Jw (some ⟨w.heap.size,0,none⟩))) (w.alloc (JD cs t))
theorem vcX{a:Act}{c:List Nat}{d:VT}{i s f:Nat}{args:Array Value}{v:Value}{o:Oper}(H:∀b:World,WD w0 base L b->Calls P f args b λe w'=>e=.returned v/\Below b.heap.size b w')
  (n:ops[i]? =some o:=by exact rfl) (l:o.guard=none:=by exact rfl) (k:o.dst=some s:=by exact rfl)
  (p:∀u w,(execOp (bK a c (zd (Ec md o d) u)).eval o).run P w=.ok (.enter f args) w:=by (intro _ _;kernel_rfl)):VS P ops Q md w0 base L a c d (i,s,v):=by
 refine⟨o,n,λu w h K g=>?_⟩;rw[if_pos (show Ja o _=true by simp[Ja,l])];unfold JC;rw[p,Oper.upon_enter];refine(H w h).mono λe w' m=>?_
 obtain⟨rfl,j⟩:=m;show K (Act.put _ o.dst v) w'
 rw[k];exact g w' j
theorem vc{a:Act}{c:List Nat}{d:VT}{i s f:Nat}{args:Array Value}{v:Value}{o:Oper}(H:Hid (∀b:World,Calls P f args b λe w'=>e=.returned v/\Below b.heap.size b w'))
  (j:ops[i]? =some o:=by exact rfl) (h:o.guard=none:=by exact rfl) (g:o.dst=some s:=by exact rfl)
  (k:∀u w,(execOp (bK a c (zd (Ec md o d) u)).eval o).run P w=.ok (.enter f args) w:=by (intro _ _;kernel_rfl)):VS P ops Q md w0 base L a c d (i,s,v):=
 vcX (λb _=>H.out b) j h g k
theorem vm{a:Act}{b:List Nat}{c:VT}{i s:Nat}{v:Value}{o:Oper}(h:∀u w,(execOp (bK a b (zd (Ec md o c) u)).eval o).run P w=.ok (.value v) w)
  (g:ops[i]? =some o:=by exact rfl) (f:o.guard=none:=by exact rfl) (e:o.dst=some s:=by exact rfl):VS P ops Q md w0 base L a b c (i,s,v):=by
 refine⟨o,g,λu w _ K d=>?_⟩;rw[if_pos (show Ja o _=true by simp[Ja,f])];unfold JC;rw[h];show K (Act.put _ o.dst v) w
 rw[e];exact d w bR
theorem Sz(a:Act)(u:Nat->QM):∀(f:List Nat) (i:Nat),(bK a f u).tmps[i]? =if i∈f/\i<a.tmps.size then some (u i)else a.tmps[i]? :=by
 intro f;suffices h:∀(l:List Nat) (b:Act),(bK b l u).tmps.size=b.tmps.size/\ ∀i,(bK b l u).tmps[i]? =if i∈l/\i<b.tmps.size then some (u i)else b.tmps[i]? from(h f a).2
 intro l;induction l with
 |nil=>exact λb=>⟨rfl,λi=>by simp[bK]⟩
 |cons s l m=>
  intro b;have k:(b.put (some s) (u s)).tmps=b.tmps.setIfInBounds s (u s):=rfl;obtain⟨j,h2⟩:=m (b.put (some s) (u s));rw[k,Jk]at j;refine⟨j,λi=>?_⟩;show(bK (b.put (some s) (u s)) l u).tmps[i]? =_
  rw[h2 i,k,Jk,Ji];by_cases d:i<b.tmps.size
  .by_cases g:i∈l
   .rw[if_pos ⟨g,d⟩,if_pos ⟨Qi _ g,d⟩]
   .rw[if_neg λc=>g c.1];by_cases e:s=i
    .subst e;rw[if_pos rfl,if_pos d,if_pos ⟨Qd,d⟩]
    .rw[if_neg e,if_neg λc=>(Qe.1 c.1).elim (λx=>e x.symm) g]
  .simp only[d,and_false,if_false];by_cases e:s=i
   .subst e;rw[if_pos rfl,if_neg d,Jh oo]
   .rw[if_neg e]
theorem Ic(a:Act)(u:Nat->QM):∀c:List Nat,(bK a c u).defers=a.defers:=by
 intro c;suffices h:∀(l:List Nat) (b:Act),(bK b l u).defers=b.defers from h c a
 intro l;induction l with
 |nil=>exact λ_=>rfl
 |cons s l d=>exact λb=>(d (b.put (some s) (u s)))
theorem aac{a b:Act}(h:∀i:Nat,a.tmps[i]? =b.tmps[i]?)(c:a.defers=b.defers):a=b:=by
 cases a;cases b
 simp only at h c;rw[Jq h,c]
theorem Vt(a:Act){d:List Nat}(u:Nat->QM)(s:Nat)(v:QM)(g:s∈d):(bK a d u).put (some s) v=bK a d (upV u s v):=by
 refine aac (λi=>?_) ((Ic a u d).trans (Ic a _ d).symm);show((bK a d u).tmps.setIfInBounds s v)[i]? =_
 have j:(bK a d u).tmps.size=a.tmps.size:=by
  suffices h:∀(l:List Nat) (b:Act),(bK b l u).tmps.size=b.tmps.size from h d a
  intro l;induction l with
  |nil=>exact λ_=>rfl
  |cons s l k=>exact λb=>(k (b.put (some s) (u s))).trans (Jk)
 rw[Ji,Sz,Sz,j];unfold upV;by_cases e:s=i
 .subst e;rw[if_pos rfl,if_pos rfl];by_cases f:s<a.tmps.size
  .rw[if_pos f,if_pos ⟨g,f⟩]
  .rw[if_neg f,if_neg λc=>f c.2,Jh oo]
 .rw[if_neg e,show (if i=s then v else u i)=u i from if_neg λc=>e c.symm]
def kf(a:Act)(l:List (Nat×QM)):Act:=l.foldl (λa x=>a.put (some x.1) x.2) a
theorem GX(a:Act)(u:Nat->QM):∀(l:List (Nat×QM)),(∀x∈l,u x.1=x.2)->bK a (l.map (·.1)) u=kf a l:=by
 intro l;suffices h:∀(l:List (Nat×QM)) (b:Act),(∀x∈l,u x.1=x.2)->bK b (l.map (·.1)) u=kf b l from h l a
 intro l;induction l with
 |nil=>exact λ_ _=>rfl
 |cons x l d=>
  intro b h;show bK (b.put (some x.1) (u x.1)) (l.map (·.1)) u=kf (b.put (some x.1) x.2) l
  rw[h x Qd];exact d _ λy c=>h y (Qi _ c)
def AllV(p:Nat×Nat×QM->Prop):VT->Prop
 | []=>True
 | [x]=>p x
 |x::y::l=>p x/\AllV p (y::l)
theorem AllV.mem{p:Nat×Nat×QM->Prop}:∀{l:VT},AllV p l-> ∀x∈l,p x
 | [_],h,_,b=>by rw[Qc.1 b];exact h
 |x::y::l,h,z,a=>by
  rcases Qe.1 a with rfl|a
  .exact h.1
  .exact AllV.mem (l:=y::l) h.2 z a
structure PRel (w0:QL) (base:Nat) (L:BL) (vs:VT) (ns:List (Nat×Nat×Array QM×Nat)) (d:Nat->Bool) (u:Nat->QM) (w:QL):Prop where
 v:∀x∈vs,d x.1=true->u x.2.1=x.2.2
 n:∀x∈ns,d x.1=true->Fresh w0 base L x.2.2.1 x.2.2.2 (u x.2.1) w
 ne:∀x∈ns,∀y∈ns,x.1≠y.1->d x.1=true->d y.1=true->u x.2.1≠u y.2.1
 x:WD w0 base L w
def idx(vs:VT)(ns:List (Nat×Nat×Array QM×Nat)):List Nat:=vs.map (·.1)++ns.map (·.1)
def slt(vs:VT)(ns:List (Nat×Nat×Array QM×Nat)):List Nat:=vs.map (·.2.1)++ns.map (·.2.1)
def pOk(m:Nat)(md:Jb)(ops:Array Oper)(l0:Array Bool)(ls:List Nat)(fuel:Nat)(vs:VT)(ns:List (Nat×Nat×Array QM×Nat)):Bool:=
 se md ops l0 (idx vs ns) ls&&Jy ((idx vs ns).length+m) fuel&&(idx vs ns).all (λk=> !l0.getD k false)&&decide (idx vs ns).Nodup&&decide (slt vs ns).Nodup
def Ii(ops:Array Oper)(l0:Array Bool)(rs:List Nat):Array Bool:=((Qf ops.size).map (λk=>l0.getD k false||rs.contains k)).toArray
theorem pn{α:Type}{f:α->Nat}:∀{l:List α},(l.map f).Nodup-> ∀x∈l,∀y∈l,f x=f y->x=y
 |a::l,h,x,d,y,g,e=>by
  rw[QJ,QH]at h;rcases Qe.1 d with b|b<;>rcases Qe.1 g with c|c
  .rw[b,c]
  .rw[b]at e;exact absurd (Qa.2 ⟨y,c,e.symm⟩) h.1
  .rw[c]at e;exact absurd (Qa.2 ⟨x,b,e⟩) h.1
  .exact pn h.2 x b y c e
theorem Xr{m fuel:Nat}{F:Array Bool}{a:Act}{w:QL}(g:VT)(f:List (Nat×Nat×Array QM×Nat))(hX:WD w0 base L w)(Z:pOk m md ops F ls fuel g f=true)
  (hv:AllV (VS P ops Q md w0 base L a (slt g f) g) g) (hn:∀x∈f,NS P ops a (slt g f) x.1 x.2.1 x.2.2.1 x.2.2.2)
  (ad:∀(n:Nat) (u:Nat->QM) (w:QL),(∀x∈g,u x.2.1=x.2.2)->(∀x∈f,Fresh w0 base L x.2.2.1 x.2.2.2 (u x.2.1) w)->(∀x∈f,∀y∈f,x.1≠y.1->u x.2.1≠u y.2.1)->WD w0 base L w->bP P md ops Q (WD w0 base L) ls (n+m) (Ii ops F (idx g f)) (bK a (slt g f) u) w):
  bP P md ops Q (WD w0 base L) ls fuel F a w:=by
 unfold pOk at Z;simp only[Jr,Qg,decide_eq_true_eq]at Z;obtain⟨⟨⟨⟨h1,h2⟩,h3⟩,h4⟩,h5⟩:=Z;have O:∀k,k∈idx g f->F.getD k false=false:=λk X=>by simpa using h3 k X
 have iv:∀x∈g,x.1∈idx g f:=λx b=>Qz _ (Qa.2 ⟨x,b,rfl⟩)
 have C:∀x∈f,x.1∈idx g f:=λx b=>Qx _ (Qa.2 ⟨x,b,rfl⟩)
 have sv:∀x∈g,x.2.1∈slt g f:=λx b=>Qz _ (Qa.2 ⟨x,b,rfl⟩)
 have sn:∀x∈f,x.2.1∈slt g f:=λx b=>Qx _ (Qa.2 ⟨x,b,rfl⟩)
 have D:=QD.1 h4;have E:=QD.1 h5;have H:∀x∈g,∀y∈f,x.1≠y.1/\x.2.1≠y.2.1:=λx b y c=>⟨D.2.2 _ (Qa.2 ⟨x,b,rfl⟩) _ (Qa.2 ⟨y,c,rfl⟩),E.2.2 _ (Qa.2 ⟨x,b,rfl⟩) _ (Qa.2 ⟨y,c,rfl⟩)⟩
 refine Dd (R:=PRel w0 base L g f) (slt g f) (idx g f) (Ii ops F (idx g f)) h1 h2 rfl ⟨λx b h=>?_,λx b h=>?_,λx b y _ _ h=>?_,hX⟩ ?_ ?_
 .rw[O _ (iv x b)]at h;cases h
 .rw[O _ (C x b)]at h;cases h
 .rw[O _ (C x b)]at h;cases h
 .intro i v d u J o r j W;rcases Qn.1 v with v|v
  .obtain⟨x,b,rfl⟩:=Qa.1 v;obtain⟨I,A,hs⟩:=hv.mem x b;rw[A]at r;injection r with r;subst r
   have he:zd (Ec md I g) u=u:=So λy c=>by
    obtain⟨z,q,rfl⟩:=Qa.1 c;obtain⟨z1,z2⟩:=Qk.1 q;exact j.v z z1 (W _ (by simpa using z2))
   refine QP A λK S=>?_
   have h6:=hs u J j.x K;rw[he]at h6;refine h6 λw' T=>S _ _ ⟨j.x.keep T,upV u x.2.1 x.2.2,Vt a u _ _ (sv x b),⟨λy c p=>?_,λy c p=>?_,λy c z q s B t=>?_,j.x.keep T⟩⟩
   .show(if y.2.1=x.2.1 then x.2.2 else u y.2.1)=y.2.2
    split
    .rename_i e;rw[pn E.1 y c x b e]
    .rename_i e
     refine j.v y c ?_;simp only[upd,Js,beq_iff_eq]at p;exact p.resolve_left λl=>e (by rw[pn D.1 y c x b l])
   .have l:=H x b y c;show Fresh w0 base L _ _ (if y.2.1=x.2.1 then x.2.2 else u y.2.1) w'
    rw[if_neg λe=>l.2 e.symm];simp only[upd,Js,beq_iff_eq]at p;exact(j.n y c (p.resolve_left λe=>l.1 e.symm)).keep T
   .have l:=H x b y c;have e2:=H x b z q;show(if y.2.1=x.2.1 then x.2.2 else u y.2.1)≠(if z.2.1=x.2.1 then x.2.2 else u z.2.1)
    rw[if_neg λe=>l.2 e.symm,if_neg λe=>e2.2 e.symm];simp only[upd,Js,beq_iff_eq]at B t;exact j.ne y c z q s (B.resolve_left λe=>l.1 e.symm) (t.resolve_left λe=>e2.1 e.symm)
  .obtain⟨x,b,rfl⟩:=Qa.1 v;obtain⟨I,A,hg,ab,hs⟩:=hn x b;rw[A]at r;injection r with r;subst r
   refine QP A λK S=>?_
   rw[if_pos (show Ja I _=true by simp[Ja,hg])];unfold JC;rw[hs];show K (Act.put _ I.dst _) _
   rw[ab];refine S _ _ ⟨j.x.alloc _,upV u x.2.1 (Jw (some ⟨J.heap.size,0,none⟩)),Vt a u _ _ (sn x b),⟨λy c p=>?_,λy c p=>?_,λy c z q s B t=>?_,j.x.alloc _⟩⟩
   .have l:=H y c x b;show(if y.2.1=x.2.1 then _ else u y.2.1)=y.2.2
    rw[if_neg l.2];simp only[upd,Js,beq_iff_eq]at p;exact j.v y c (p.resolve_left l.1)
   .show Fresh w0 base L _ _ (if y.2.1=x.2.1 then _ else u y.2.1) _
    split
    .rename_i e;rw[pn E.2.1 y c x b e];exact WB j.x _ _
    .rename_i e
     simp only[upd,Js,beq_iff_eq]at p;exact(j.n y c (p.resolve_left λl=>e (by rw[pn D.2.1 y c x b l]))).alloc _
   .show(if y.2.1=x.2.1 then _ else u y.2.1)≠(if z.2.1=x.2.1 then _ else u z.2.1)
    simp only[upd,Js,beq_iff_eq]at B t;by_cases M:y.2.1=x.2.1
    .have:=pn E.2.1 y c x b M;subst this;rw[if_pos rfl,if_neg λe=>s (by rw[pn E.2.1 z q y c e])];exact Ne.symm (j.n z q (t.resolve_left λe=>s e.symm)).ne
    .rw[if_neg M];have dy:=B.resolve_left λe=>M (by rw[pn D.2.1 y c x b e])
     by_cases N:z.2.1=x.2.1
     .rw[if_pos N];exact(j.n y c dy).ne
     .rw[if_neg N];exact j.ne y c z q s dy (t.resolve_left λe=>N (by rw[pn D.2.1 z q x b e]))
 .rintro n d u J j W;have G:=λk X=>W k (by simpa using X)
  exact ad n u J (λx b=>j.v x b (G _ (iv x b))) (λx b=>j.n x b (G _ (C x b))) (λx b y c s=>j.ne x b y c s (G _ (C x b)) (G _ (C y c))) j.x
theorem Cf(m:Nat){fuel:Nat}{d:Array Bool}{a:Act}{w:World}(b:VT)(h:WD w0 base L w)
  (j:AllV (VS P ops Q md w0 base L a (slt b []) b) b)
  (e:∀(n:Nat) (w:World),WD w0 base L w->bP P md ops Q (WD w0 base L) ls (n+m) (Ii ops d (idx b [])) (kf a (b.map (·.2))) w)
  (i:pOk m md ops d ls fuel b []=true:=by kernel_rfl):
  bP P md ops Q (WD w0 base L) ls fuel d a w:=by
 refine Xr b [] h i j (λx c=>by cases c) λn u w f _ _ g=>?_
 have:=e n w g;rw[<-GX a u _ (λx c=>by obtain⟨y,k,rfl⟩:=Qa.1 c;exact f y k)]at this;unfold slt;rw[List.map_nil,List.append_nil];rwa [Qq]at this
theorem yh(m:Nat){fuel:Nat}{f:Array Bool}{a:Act}{w:World}(c:VT)(i s:Nat)(d:Array Value)(t:Nat)(k:WD w0 base L w)
  (z:AllV (VS P ops Q md w0 base L a (slt c [(i,s,d,t)]) c) c)
  (g:∀(n q:Nat) (w:World),WD w0 base ((q,d,t)::L) w->bP P md ops Q (WD w0 base L) ls (n+m) (Ii ops f (idx c [(i,s,d,t)])) (kf a (c.map (·.2)++ [(s,.pointer (some ⟨q,0,none⟩))])) w)
  (r:pOk m md ops f ls fuel c [(i,s,d,t)]=true:=by kernel_rfl)
  (p:NS P ops a (slt c [(i,s,d,t)]) i s d t:=by exact⟨_,rfl,rfl,rfl,λ_ _=>by kernel_rfl⟩):
  bP P md ops Q (WD w0 base L) ls fuel f a w:=by
 refine Xr c [(i,s,d,t)] k r z (λx b=>by rw[Qc.1 b];exact p) λn u w h h2 _ j=>?_
 obtain⟨q,e,l,o,v⟩:=h2 _ Qd;have:=g n q w (j.push l v λx b=>Jz (o x b));rw[<-GX a u _ (λx b=>by
  rcases Qn.1 b with b|b
  .obtain⟨y,A,rfl⟩:=Qa.1 b;exact h y A
  .rw[Qc.1 b];exact e)]at this
 unfold slt;rwa [QI,Qq]at this
theorem GU(m:Nat){fuel:Nat}{l:Array Bool}{a:Act}{w:World}(c:VT)(i s:Nat)(d:Array Value)(t g h:Nat)(f:Array Value)(j:Nat)(B:WD w0 base L w)
  (O:AllV (VS P ops Q md w0 base L a (slt c [(i,s,d,t),(g,h,f,j)]) c) c)
  (r:∀(n q k:Nat) (w:World),WD w0 base ((q,d,t)::(k,f,j)::L) w->bP P md ops Q (WD w0 base L) ls (n+m) (Ii ops l (idx c [(i,s,d,t),(g,h,f,j)])) (kf a (c.map (·.2)++ [(s,.pointer (some ⟨q,0,none⟩)),(h,.pointer (some ⟨k,0,none⟩))])) w)
  (J:i≠g:=by decide) (K:pOk m md ops l ls fuel c [(i,s,d,t),(g,h,f,j)]=true:=by kernel_rfl)
  (H:NS P ops a (slt c [(i,s,d,t),(g,h,f,j)]) i s d t:=by exact⟨_,rfl,rfl,rfl,λ_ _=>by kernel_rfl⟩)
  (I:NS P ops a (slt c [(i,s,d,t),(g,h,f,j)]) g h f j:=by exact⟨_,rfl,rfl,rfl,λ_ _=>by kernel_rfl⟩):
  bP P md ops Q (WD w0 base L) ls fuel l a w:=by
 refine Xr c [(i,s,d,t),(g,h,f,j)] B K O (λx b=>by
  rcases Qe.1 b with rfl|b
  .exact H
  .rw[Qc.1 b];exact I) λn u w v h2 z A=>?_
 obtain⟨q,e,C,F,M⟩:=h2 _ Qd;obtain⟨k,o,D,G,N⟩:=h2 _ (Qi _ Qd);have E:k≠q:=λp=>z _ Qd _ (Qi _ Qd) J (by rw[e,o,p])
 have:=r n q k w ((A.push D N λx b=>Jz (G x b)).push C M λx b=>by
  rcases Qe.1 b with rfl|b
  .exact E
  .exact Jz (F x b))
 rw[<-GX a u _ (λx b=>by
  rcases Qn.1 b with b|b
  .obtain⟨y,R,rfl⟩:=Qa.1 b;exact v y R
  .rcases Qe.1 b with rfl|b
   .exact e
   .rw[Qc.1 b];exact o)]at this
 unfold slt;rwa [QI,Qq]at this
theorem ltW(i k:Nat){q t:Nat}{b cs':Array Value}{c d:BL}{o:Oper}{x y:Operand}{fuel:Nat}{listed:Array Bool}{a:Act}{w:World}{n:Nat}(e:WD w0 base L w)(s:(P.info? t).map (·.size)=some n)(g:cs'.size=n)(B:b.size=n)(j:cs'.all (·.oneCell')=true)
  (h:∀w',WD w0 base c w'->bP P md ops Q (WD w0 base d) ls fuel (listed.setIfInBounds i true) a w')
  (A:Region.ready md ops listed=[i]:=by kernel_rfl) (u:ls.contains i=true:=by exact rfl) (v:ops[i]? =some o:=by exact rfl) (p:o.dst=none:=by exact rfl) (r:o.guard=none:=by exact rfl) (z:o.op=.store t x y:=by exact rfl)
  (C:a.eval x=.pointer (some ⟨q,0,none⟩):=by exact rfl) (D:a.eval y=.agg cs':=by exact rfl) (f:L[k]? =some (q,b,t):=by exact rfl) (m:L.set k (q,cs',t)=c:=by (simp only[List.set_cons_zero,List.set_cons_succ];exact rfl)):
  bP P md ops Q (WD w0 base d) ls (fuel+1) listed a w:=by
 refine AJ A u v λE l=>?_
 rw[if_pos (show Ja o _=true by simp[Ja,r])];refine wp_store_row t x y z q cs' C D t b (e.get k f) (by rw[g];exact s) (by rw[g,B]) j ?_;subst m;rw[p];exact l _ _ (h _ (e.over k f cs'))
abbrev Tw(P:QV)(t n:Nat):Prop:= ∃d,P.underlying t=some d/\(match d with| .struct _| .array _ _=>true|_=>false)=true/\(P.info? t).map (·.size)=some n
theorem ldW(k:Nat){t n q:Nat}{b:Array Value}{rest:List Oper}{o:Oper}{x:Operand}{a:Act}{w:World}(f:WD w0 base L w)(ht:Tw P t n)(l:b.size=n)
  (h:wpList P ops Q rest (a.put o.dst (.agg b)) w) (g:o.guard=none:=by exact rfl) (j:o.op=.load t x:=by exact rfl) (m:a.eval x=.pointer (some ⟨q,0,none⟩):=by exact rfl) (i:L[k]? =some (q,b,t):=by exact rfl):wpList P ops Q (o::rest) a w:=by
 obtain⟨d,c,h2,e⟩:=ht;exact wpList_load_row g t x j q m t b (0,0) d (f.get k i) c (by cases d<;>first|rfl|cases h2) (by rw[l];exact e) h
theorem stW(k:Nat){t n q:Nat}{b cs':Array Value}{c:BL}{rest:List Oper}{o:Oper}{x y:Operand}{a:Act}{w:World}(e:WD w0 base L w)(ht:Tw P t n)(g:cs'.size=n)(s:b.size=n)(i:cs'.all (·.oneCell')=true)
  (h:∀v,WD w0 base c v->wpList P ops Q rest a v) (p:o.guard=none:=by exact rfl) (m:o.dst=none:=by exact rfl) (r:o.op=.store t x y:=by exact rfl) (u:a.eval x=.pointer (some ⟨q,0,none⟩):=by exact rfl) (z:a.eval y=.agg cs':=by exact rfl)
  (f:L[k]? =some (q,b,t):=by exact rfl) (l:L.set k (q,cs',t)=c:=by (simp only[List.set_cons_zero,List.set_cons_succ];exact rfl)):wpList P ops Q (o::rest) a w:=by
 obtain⟨d,_,_,j⟩:=ht;subst l;refine wpList_store_row p t x y r q cs' u z t b (e.get k f) (by rw[g];exact j) (by rw[g,s]) i ?_;rw[m];exact h _ (e.over k f cs')
theorem asW{t n:Nat}{z cs':Array Value}{rest:List Oper}{o:Oper}{x y:Operand}{a:Act}{w:World}(c:WD w0 base L w)(ht:Tw P t n)(g:cs'.size=n)(i:z.size=n)(b:cs'.all (·.oneCell')=true)
  (h:∀v,WD w0 base ((w.heap.size,cs',t)::L) v->wpList P ops Q rest a v) (e:o.guard=none:=by exact rfl) (d:o.dst=none:=by exact rfl) (f:o.op=.store t x y:=by exact rfl) (j:a.eval x=.pointer (some ⟨w.heap.size,0,none⟩):=by exact rfl) (k:a.eval y=.agg cs':=by exact rfl):
  wpList P ops Q (o::rest) a (w.alloc (.cells z t)):=
 stW 0 (c.new z t) ht g i b h e d f j k rfl rfl
theorem gvW{f:Nat}{args:Array QM}{v:QM}{w:QL}{Q:Ending->QL->Prop}(b:WD w0 base L w)(H:Hid (∀a:QL,Q7 P f args a λe w'=>e=.returned v/\Below a.heap.size a w'))(h:∀w',WD w0 base L w'->Q (.returned v) w'):Q7 P f args w Q:=
 (H.out w).mono λe w' d=>by
  obtain⟨rfl,c⟩:=d;exact h w' (b.keep c)
end
end Go.Proofs.YtclpbaokadfhhaaGreatDoor
end
