import Derived.Test.YtnnjcenacidceaaPk53
import Derived.Test.YtnnjcenacidceaaPk40
import Derived.Deep.Light
import Derived.Laws.StructEq
import Derived.Deep.DeepCutAuto
import Derived.Deep.RegionWith
import Derived.Test.YtnnjcenacidceaaPk24
import Derived.ProofKit
import Derived.SizedLaws
import Derived.Deep.Slices
import Derived.Deep.Strs
set_option maxRecDepth 100000
set_option maxHeartbeats 8000000
namespace Go.Proofs.Ytnnjcenacidceaa
open Go.RowKit Go.Proofs.Try
def bs (w:World)(m:Nat)(i out:Value)(wr:World):Prop:=(i=.int .i64 0/\out=.slice (some ⟨w.1.size,0,none⟩) 0 0/\Below w.1.size w wr)\/(i=.int .i64 1/\∃(ad:OA)(cap:Nat),out=.slice ad m cap/\Below w.1.size w wr)
theorem xD{s1 s2 s3:ByteArray}{i j:Int}{b:Bool}{ad:OA}{n cap:Nat}:∀k,k<7->(AR [.string s1,.string s2,.int .i64 i,.int .i64 j,.string s3,.bool b,.slice ad n cap] k).oneCell'=true:=λk hk=>by rcases(show k=0\/k=1\/k=2\/k=3\/k=4\/k=5\/k=6 by omega)with rfl|rfl|rfl|rfl|rfl|rfl|rfl<;>simp[AR,Value.oneCell']
theorem gZ{P:Prop}(h:P:=by
  subst hM;go_wp2_with ((with_reducible show wpList _ _ _ (⟨some 54,_,_,_,_,_⟩::_) _ _);obtain⟨ad',cap',w2,hrun,hrow,hbw,_,_,_,_⟩:=M9 (P:=prog) (wr.alloc (.cells #[.string o.kind,.string o.name,.int .i64 o.ver,.int .i64 o.born,.string o.text,.bool o.ending,.slice ad o.hn cap] 38)) 23 23 38 7 96 _ underlying23 Ms Zb wr.1.size (wr.1.size+1) w.1.size (some ⟨wr.1.size,0,none⟩) 1 1 (AR [.string o.kind,.string o.name,.int .i64 o.ver,.int .i64 o.born,.string o.text,.bool o.ending,.slice ad o.hn cap]) (Tx wr [.string o.kind,.string o.name,.int .i64 o.ver,.int .i64 o.born,.string o.text,.bool o.ending,.slice ad o.hn cap] 38 xD) Zb Zb;refine KA rfl _ _ _ _ rfl _ _ _ _ rfl rfl hrun ?_;have QK:=Ah hbw;clear hrun hbw hrow);go_roundw;case rel=>exact AC ⟨rfl,ad',cap',rfl,(HB.trans ((An _ _).mono HB.size)).trans (QK.mono Zp)⟩
  case measure=>simp[intOf]):P:=h
theorem Of{P:Prop}(h:P:=by
  go_wp2;go_roundw;case rel=>exact AC ⟨rfl,_,_,rfl,HB⟩
  case measure=>simp[intOf]):P:=h
theorem mH (o:Ob)(ad:OA)(cap b:Nat)(ki pr:ByteArray)(w:World)(hc:LK w b 0 o ad cap)(hbl:b<w.1.size)(_hs:(o.name.size:Int)<=140737488355328)(_hp:(pr.size:Int)<=140737488355328):Calls prog 8 #[.slice (some ⟨b,0,none⟩) 1 1,.string ki,.string pr] w λe w'=>∃(ad':OA)(cap':Nat),e=.returned (.slice ad' (if Nn o ki pr=true then 1 else 0:Nat) cap')/\Below w.1.size w w':=by
 obtain⟨m,hm⟩:∃m:Nat,(if Nn o ki pr=true then 1 else 0:Nat)=m:=⟨_,rfl⟩;rw[hm];have HM:=Ah hm;clear hm;go_enter func8,ntmps8;go_wp2_with fail;go_loopw[8,7](λi out wr=>bs w m i out wr)(λi _ _=>1-(intOf i).toNat);case atStart=>exact AA ⟨rfl,rfl,An _ _⟩
 case round=>
  rcases hrel with⟨rfl,rfl,hb⟩|⟨rfl,ad',cap',rfl,hb⟩
  .obtain⟨c0,c1,c2,c3,c4,c5,c6⟩:=hc.below hb hbl;have hbr:b<wr.1.size:=Ac hbl hb.size;simp only[A6]at c0 c1 c2 c3 c4 c5 c6;have HB:=Ah hb;clear hc hb;by_cases h3:(pr.size:Int)<=o.name.size;.cases k4:((o.name.extract 0 pr.size).toList==pr.toList)with
    |true=>cases k1:(ki.toList==[])with
     |true=>
      have hM:m=1:=by rw[<-HM.out];simp[Nn,VF,k1,k4];omega
      exact gZ
     |false=>cases k2:(o.kind.toList==ki.toList)with
      |true=>
       have hM:m=1:=by rw[<-HM.out];simp[Nn,VF,k1,k2,k4];omega
       exact gZ
      |false=>
       have hM:m=0:=by rw[<-HM.out];simp[Nn,k1,k2]
       subst hM;exact Of
    |false=>
     have hM:m=0:=by rw[<-HM.out];simp[Nn,VF,k4]
     subst hM;cases k1:(ki.toList==[])with
     |true=>exact Of
     |false=>cases k2:(o.kind.toList==ki.toList)with
      |true=>exact Of
      |false=>exact Of
   .have hM:m=0:=by rw[<-HM.out];have:¬pr.size<=o.name.size:=Za;simp[Nn,VF,this]
    subst hM;cases k1:(ki.toList==[])with
    |true=>exact Of
    |false=>cases k2:(o.kind.toList==ki.toList)with
     |true=>exact Of
     |false=>exact Of
  .clear hc;go_wp2;go_ret;exact⟨ad',cap',rfl,hb⟩
end Go.Proofs.Ytnnjcenacidceaa
namespace Go.Proofs.Ytnnjcenacidceaa
open Go.RowKit Go.Proofs.Try
theorem Xa{B:Bk}(hv:Bc (LU B) 7=true){fr:Int}{k:Nat}(hk:fr=B.floor+k)(hkn:k<=B.hn){most:Int}(h1:1<=most):Nt B fr most=0:=by
 obtain⟨v0,v1,v2,v3,v4,v5⟩:=E4 hv;have e:EG fr 0 B.now=true:=by simp[EG];omega
 unfold Nt;rw[hv,e];simp[h1];omega
def cb (n:Nat)(y:Nat->Ch)(fv:Int)(w:World)(e:Ending)(w':World):Prop:=∃(ad:OA)(g cap:Nat)(A:Nat->Option Addr)(C hb:Nat->Nat),e=.returned (.agg #[.int .i64 0,.slice ad n cap,.int .i64 fv])/\Lu w' ad g n y A C hb/\(∀q,Md g n (λi=>(y i).ob.hn) hb q->w.1.size<=q)/\Below w.1.size w w'
theorem QG{w w':World}{B:Bk}{ki pr:ByteArray}{fr most:Int}{e:Ending}(h:sV w w' B ki pr fr most e){k:Nat}(hK:Nt B fr most=0)(hk:fr=B.floor+k){n:Nat}{y:Nat->Ch}{fv:Int}(en:(Mf B k ki pr most).length=n)(ey:Fe (λi=>B.hs (k+i)) (Mf B k ki pr most)=y)(ef:SZ B k ki pr most=fv):cb n y fv w e w':=by obtain⟨hb,v,n',y',fv',A,C,hbb,rfl,hbd,_,h0⟩:=h;obtain⟨rfl,rfl,rfl⟩:=h0 hK k hk;subst en ey ef;obtain⟨ad,cap,g,rfl,_,hca,hlo⟩:=hbd.done;rw[hK];exact⟨ad,g,cap,A,C,hbb,rfl,hca,hlo,hb⟩
theorem Z1{w w':World}{B:Bk}{ki pr:ByteArray}{fr most:Int}{e:Ending}(h:sV w w' B ki pr fr most e){c:Int}(hK:Nt B fr most=c)(hc:¬c=0):∃(ad:OA)(cap:Nat),e=.returned (.agg #[.int .i64 c,.slice ad (0:Nat) cap,.int .i64 0])/\Below w.1.size w w':=by obtain⟨hb,v,n',y',fv',A,C,hbb,rfl,hbd,h1,_⟩:=h;obtain⟨rfl,rfl⟩:=h1 (by rw[hK];exact hc);obtain⟨ad,cap,g,rfl,_,hca,hlo⟩:=hbd.done;rw[hK];exact⟨ad,cap,rfl,hb⟩
theorem TD (B:Bk)(a1 a2 a3:OA)(c1 c2 c3:Nat)(ki pr:ByteArray)(fr most:Int)(w:World)(hfit:BL B)(hin:BF w 0 w.1.size B a1 a2 a3)(hpr:(pr.size:Int)<=140737488355328):Calls prog 5 #[.agg #[.int .i64 B.now,.int .i64 B.floor,.slice a1 B.on c1,.slice a2 B.hn c2,.slice a3 B.tn c3],.agg #[.string ki,.string pr,.int .i64 fr],.int .i64 most] w λe w'=>sV w w' B ki pr fr most e:=callsIn_wide.1 (UY Fence.wide 8 (λ_ _ _ _ _ h=>callsIn_wide.2 h) (λ_=>trivial) rfl Zb rfl (λ_ R v w h0 h1=>callsIn_wide.2 (Td R v w h0 h1)) B a1 a2 a3 c1 c2 c3 ki pr fr most w hfit hin hpr)
theorem wM{c:Nat->Value}{i:Nat}{y:Ch}{A:OA}{C:Nat}(h:Qr c i y A C):∀f,f<9->(c (i*9+f)).oneCell'=true:=λf hf=>by
 obtain⟨a0,a1,a2,a3,a4,a5,a6,a7,a8⟩:=h;rcases(show f=0\/f=1\/f=2\/f=3\/f=4\/f=5\/f=6\/f=7\/f=8 by omega)with rfl|rfl|rfl|rfl|rfl|rfl|rfl|rfl|rfl;.rw[show i*9+0=i*9 from rfl,a0];rfl
 .rw[a1];rfl
 .rw[a2];rfl
 .rw[a3];rfl
 .rw[a4];rfl
 .rw[a5];rfl
 .rw[a6];rfl
 .rw[a7];rfl
 .rw[a8];rfl
theorem Xd{c:Nat->Value}{n:Nat}{y:Nat->Ch}{A:Nat->Option Addr}{C:Nat->Nat}(h:∀i,i<n->Qr c i (y i) (A i) (C i)):∀j,j<n*9->(c j).oneCell'=true:=λj hj=>by obtain⟨i,f,rfl,hf⟩:∃i f,j=i*9+f/\f<9:=⟨j/9,j%9,Za,Za⟩;exact wM (h i Za) f hf
structure KN (B0 m:Nat)(x:Nat->Ch)(g cap:Nat)(X:World):Prop where
 ex:∃(c:Nat->Value)(A:Nat->Option Addr)(C hb:Nat->Nat),Rw X (some ⟨g,0,none⟩) g m cap 9 c/\(∀i,i<m->Qr c i (x i) (A i) (C i))/\(∀i,i<m->Bz X (hb i) (hb i+1) (A i) (x i).ob.hn (x i).ob.hs)/\∀i,i<m->(x i).ob.hn≠0->(B0<=hb i/\hb i<X.1.size)/\¬hb i=g
 g0:0<cap->B0<=g
theorem KN.fr{B0 m g cap:Nat}{x:Nat->Ch}{X Y:World}{P:Nat->Prop}(h:KN B0 m x g cap X)(hf:Az P X Y)(hP:∀q,P q->q<B0):KN B0 m x g cap Y:=by obtain⟨⟨c,A,C,hb,r,a,s,z⟩,g0⟩:=h;exact⟨⟨c,A,C,hb,r.fr hf (λh0 e=>by have:=hP g e;have:=g0 h0;omega),a,λi hi=>(s i hi).frP hf (λh0=>⟨λe=>by have:=hP _ e;have:=(z i hi h0).1;omega,(z i hi h0).1.2⟩),λi hi h0=>⟨⟨(z i hi h0).1.1,Ac (z i hi h0).1.2 hf.size⟩,(z i hi h0).2⟩⟩,g0⟩
theorem KN.below{B0 m g cap:Nat}{x:Nat->Ch}{X Y:World}(h:KN B0 m x g cap X)(hb:Below X.1.size X Y):KN B0 m x g cap Y:=h.fr (Aq (P:=λ_=>False) hb) (λ_ e=>e.elim)
theorem KN.congr{B0 m g cap:Nat}{x y:Nat->Ch}{X:World}(h:KN B0 m x g cap X)(e:∀i,i<m->x i=y i):KN B0 m y g cap X:=by obtain⟨⟨c,A,C,hb,r,a,s,z⟩,g0⟩:=h;exact⟨⟨c,A,C,hb,r,λi hi=>e i hi▸a i hi,λi hi=>e i hi▸s i hi,λi hi=>e i hi▸z i hi⟩,g0⟩
theorem KN.gl{B0 m g cap:Nat}{x:Nat->Ch}{X:World}(h:KN B0 m x g cap X)(h0:0<cap):g<X.1.size:=by obtain⟨⟨c,A,C,hb,r,_⟩,_⟩:=h;exact(r.room h0).lt
theorem KN.le{B0 m g cap:Nat}{x:Nat->Ch}{X:World}(h:KN B0 m x g cap X):m<=cap:=by obtain⟨⟨c,A,C,hb,r,_⟩,_⟩:=h;exact r.le
theorem KN.cell{B0 m g cap:Nat}{x:Nat->Ch}{X:World}(h:KN B0 m x g cap X){i:Nat}(hi:i<m):∃(ah:OA)(ch:Nat),Dk X g (i*9) (x i) ah ch/\AB X 0 X.1.size ah (x i).ob.hn (x i).ob.hs:=by obtain⟨⟨c,A,C,hb,r,a,s,z⟩,g0⟩:=h;obtain⟨a0,a1,a2,a3,a4,a5,a6,a7,a8⟩:=a i hi;have cl:=λf (hf:f<9)=>r.cell (i*9+f) Za;refine⟨A i,C i,⟨(cl 0 Zb).trans (congrArg some a0),(cl 1 Zb).trans (congrArg some a1),(cl 2 Zb).trans (congrArg some a2),(cl 3 Zb).trans (congrArg some a3),(cl 4 Zb).trans (congrArg some a4),(cl 5 Zb).trans (congrArg some a5),(cl 6 Zb).trans (congrArg some a6),(cl 7 Zb).trans (congrArg some a7),(cl 8 Zb).trans (congrArg some a8)⟩,(s i hi).wide (λh0=>(z i hi h0).1.2)⟩
theorem KN.isIn{B0 m g cap:Nat}{x:Nat->Ch}{X:World}(h:KN B0 m x g cap X):CO X 0 X.1.size (some ⟨g,0,none⟩) m x:=λi hi=>by obtain⟨ah,ch,e1,e2⟩:=h.cell hi;exact⟨g,0,ah,ch,rfl,At _,h.gl (by have:=h.le;omega),by rw[A6];exact e1,e2⟩
def Sv (x:Nat->Ch)(m:Nat)(y:Nat->Ch)(i:Nat):Ch:=if i<m then x i else y (i-m)
theorem KN.app{B0 m g cap:Nat}{x:Nat->Ch}{X:World}(h:KN B0 m x g cap X){ad:OA}{g2 n cap2:Nat}{y:Nat->Ch}{A2:Nat->Option Addr}{C2 hb2:Nat->Nat}(hy:Lu X ad g2 n y A2 C2 hb2){base:Nat}(hlo:∀q,Md g2 n (λi=>(y i).ob.hn) hb2 q->base<=q)(hg:0<cap->g<base)(hB:B0<=base)(hX:base<=X.1.size)(hmn:m+n<=100000):∃g' cap' Y,(Builtin.append_ #[24,24] 24 #[.slice (some ⟨g,0,none⟩) m cap,.slice ad n cap2]).run prog X=.ok (.slice (some ⟨g',0,none⟩) (m+n:Nat) cap') Y/\KN B0 (m+n) (Sv x m y) g' cap' Y/\Az (λq=>0<cap/\q=g) X Y:=by
 rcases Bm n with h0|h0
 .subst h0;obtain⟨i0,hi0,hz0,hz1,hz2⟩:=info_parts KO;have hs:Src prog 9 24 (.slice ad (0:Nat) cap2) 0 [] X:=by have:=(⟨λj hj=>absurd hj Za,λj hj=>absurd hj Za⟩:BS X 0 0 ad (0*9) (λ_=>undef)).src (cap:=cap2) (z:=9) Zb underlying24;simpa[AM]using this
  have hrun:=run_append_room_src (P:=prog) X 24 24 24 40 i0 underlying24 hi0 g 0 m cap (.slice ad (0:Nat) cap2) 0 [] (by rw[hz1];exact hs) (by have:=h.le;omega) (λj hj=>absurd hj (Aj _)) (λj hj=>absurd hj (Aj _));exact⟨g,cap,X,hrun,h.congr (λi hi=>by unfold Sv;rw[if_pos Za]),Az.refl _ _⟩
 .have hg0:=h.g0;obtain⟨⟨c,A,C,hb,r,a,s,z⟩,_⟩:=h;obtain⟨d,rd,ed⟩:=hy.row h0;have had:=hy.addr h0;have hd:BS X g2 (g2+1) ad (n*9) d:=⟨λj hj=>⟨g2,0,had,AD _,By _,by rw[A6];exact rd.cell j hj⟩,Xd ed⟩;obtain⟨ad',cap',g',Y,hrun,hr,hf,hgg⟩:=LA (P:=prog) X 24 24 40 9 112 _ underlying24 KO Zb Ze (some ⟨g,0,none⟩) g m cap c r (Xd a) g2 (g2+1) ad n cap2 d hd h0 Za Za;have hc0:0<cap':=by have:=hr.le;omega
  have ha':=hr.addr hc0;rw[ha']at hrun hr;refine⟨g',cap',Y,hrun,⟨⟨BO c (m*9) d,λi=>if i<m then A i else A2 (i-m),λi=>if i<m then C i else C2 (i-m),λi=>if i<m then hb i else hb2 (i-m),hr,λi hi=>?_,λi hi=>?_,λi hi hn0=>?_⟩,λ_=>?_⟩,hf⟩
  .by_cases hm:i<m
   .obtain⟨a0,a1,a2,a3,a4,a5,a6,a7,a8⟩:=a i hm;simp only[Sv,if_pos hm];exact⟨(Lo Za).trans a0,(Lo Za).trans a1,(Lo Za).trans a2,(Lo Za).trans a3,(Lo Za).trans a4,(Lo Za).trans a5,(Lo Za).trans a6,(Lo Za).trans a7,(Lo Za).trans a8⟩
   .obtain⟨q,rfl⟩:∃q,i=m+q:=⟨i-m,Za⟩;obtain⟨a0,a1,a2,a3,a4,a5,a6,a7,a8⟩:=ed q Za;have hi2:∀f,BO c (m*9) d ((m+q)*9+f)=d (q*9+f):=λf=>by rw[show(m+q)*9+f=m*9+(q*9+f)by omega];exact TF
    simp only[Sv,if_neg hm,Cl];exact⟨(hi2 0).trans a0,(hi2 1).trans a1,(hi2 2).trans a2,(hi2 3).trans a3,(hi2 4).trans a4,(hi2 5).trans a5,(hi2 6).trans a6,(hi2 7).trans a7,(hi2 8).trans a8⟩
  .by_cases hm:i<m
   .simp only[Sv,if_pos hm];exact(s i hm).frP hf (λhn0=>⟨λe=>(z i hm hn0).2 e.2,(z i hm hn0).1.2⟩)
   .simp only[Sv,if_neg hm];exact(hy.hold (i-m) Za).frP hf (λhn0=>⟨λe=>by have:=hlo _ (AC ⟨i-m,Za,hn0,rfl⟩);have:=hg e.1;omega,hy.hlt _ Za hn0⟩)
  .by_cases hm:i<m
   .unfold Sv at hn0;rw[if_pos hm]at hn0;simp only[if_pos hm];have:=z i hm hn0;refine⟨⟨this.1.1,Ac this.1.2 hf.size⟩,λe=>?_⟩;rcases hgg with hgg|hgg;.exact this.2 (e.trans hgg.2)
    .omega
   .unfold Sv at hn0;rw[if_neg hm]at hn0;simp only[if_neg hm];have h1:=hlo _ (AC ⟨i-m,Za,hn0,rfl⟩);have h2:=hy.hlt (i-m) Za hn0;refine⟨⟨Za,Ac h2 hf.size⟩,λe=>?_⟩;rcases hgg with hgg|hgg;.have:=hg hgg.1;omega
    .omega
  .rcases hgg with hgg|hgg;.have:=hg0 hgg.1;omega
   .omega
def jB (B:Bk)(L:List Nat)(i:Nat):Ch:=B.hs (L.getD i 0)
theorem j7{B:Bk}{L l:List Nat}{k i:Nat}(hi:i<L.length+l.length):Sv (jB B L) L.length (Fe (λi=>B.hs (k+i)) l) i=jB B (L++l.map (k+.)) i:=by
 unfold Sv jB Fe;by_cases h:i<L.length;.rw[if_pos h,Be,Be,List.getElem?_append_left h]
 .rw[if_neg h,Be,Be,List.getElem?_append_right Za,MQ,Bh (show i-L.length<l.length by omega)];rfl
theorem WZ{B:Bk}{l:List Nat}{k i:Nat}(hi:i<l.length):Fe (λi=>B.hs (k+i)) l i=jB B (l.map (k+.)) i:=by unfold jB Fe;rw[Be,Be,MQ,Bh hi];rfl
end Go.Proofs.Ytnnjcenacidceaa
namespace Go.Proofs.Ytnnjcenacidceaa
open Go.RowKit Go.Proofs.Try
structure LW (w:World)(b:Bk)(a1 a2 a3:OA)(c1 c2 c3:Nat)(s1 s2:ByteArray)(fr:Int)(T:Nat)(X:World):Prop where
 bt:AN X T 5 (AR [.int .i64 b.now,.int .i64 b.floor,.slice a1 b.on c1,.slice a2 b.hn c2,.slice a3 b.tn c3])vt:AN X (T+1) 3 (AR [.string s1,.string s2,.int .i64 fr])bi:BF X 0 (T+2) b a1 a2 a3
 bl:T+2<=X.1.size
 w0:w.1.size<=T
 B:Below w.1.size w X
theorem LW.up{w:World}{b:Bk}{a1 a2 a3:OA}{c1 c2 c3:Nat}{s1 s2:ByteArray}{fr:Int}{T:Nat}{X Y:World}(h:LW w b a1 a2 a3 c1 c2 c3 s1 s2 fr T X)(hb:Below (T+2) X Y):LW w b a1 a2 a3 c1 c2 c3 s1 s2 fr T Y:=⟨h.bt.below hb Za,h.vt.below hb Za,h.bi.below hb uK,AT h.bl hb.size,h.w0,h.B.trans (hb.mono (by have:=h.w0;omega))⟩
theorem LW.below{w:World}{b:Bk}{a1 a2 a3:OA}{c1 c2 c3:Nat}{s1 s2:ByteArray}{fr:Int}{T:Nat}{X Y:World}(h:LW w b a1 a2 a3 c1 c2 c3 s1 s2 fr T X)(hb:Below X.1.size X Y):LW w b a1 a2 a3 c1 c2 c3 s1 s2 fr T Y:=h.up (hb.mono h.bl)
theorem LW.far{w:World}{b:Bk}{a1 a2 a3:OA}{c1 c2 c3:Nat}{s1 s2:ByteArray}{fr:Int}{T:Nat}{X Y:World}{P:Nat->Prop}(h:LW w b a1 a2 a3 c1 c2 c3 s1 s2 fr T X)(hf:Az P X Y)(hP:∀q,P q->T+2<=q):LW w b a1 a2 a3 c1 c2 c3 s1 s2 fr T Y:=h.up (hf.below (λq hq e=>by have:=hP q e;omega) h.bl)
theorem LW.i{w:World}{b:Bk}{a1 a2 a3:OA}{c1 c2 c3:Nat}{s1 s2:ByteArray}{fr:Int}{T:Nat}{X:World}(h:LW w b a1 a2 a3 c1 c2 c3 s1 s2 fr T X):BF X 0 X.1.size b a1 a2 a3:=h.bi.upTo h.bl
def yP (w:World)(b:Bk)(a1 a2 a3:OA)(c1 c2 c3:Nat)(s1 s2:ByteArray)(fr:Int)(T:Nat)(k0 Xb B1:Nat)(i sv:Value)(X:World):Prop:=∃(q k:Nat)(L:List Nat)(g cp:Nat),i=.int .i64 q/\sv=.slice (some ⟨g,0,none⟩) L.length cp/\LW w b a1 a2 a3 c1 c2 c3 s1 s2 fr T X/\AN X Xb 3 (AR [.string s1,.string s2,.int .i64 (b.floor+(k:Int))])/\KN B1 L.length (jB b L) g cp X/\k0+q<=k/\k<=b.hn/\L++sK b.hs b.hn s1 s2 k=sK b.hs b.hn s1 s2 k0
def bg (w:World)(b:Bk)(a1 a2 a3:OA)(c1 c2 c3:Nat)(s1 s2:ByteArray)(fr:Int)(T:Nat)(k0 B1:Nat)(m g cp:Nat)(x:Nat->Ch)(i kv:Value)(X:World):Prop:=∃q:Nat,q<=b.hn/\i=.int .i64 q/\kv=.int .i64 (Pg b.hs s1 s2 k0 q:Nat)/\LW w b a1 a2 a3 c1 c2 c3 s1 s2 fr T X/\KN B1 m x g cp X
theorem nN (w:World)(ad:OA)(x:Nat->Ch):CO w 0 w.1.size ad 0 x:=λi hi=>absurd hi (Aj i)
theorem tQ{w:World}{ad:OA}{n:Nat}{x y:Nat->Ch}(h:CO w 0 w.1.size ad n x)(e:∀i,i<n->x i=y i):CO w 0 w.1.size ad n y:=λi hi=>e i hi▸h i hi
theorem Nw{w w':World}{ad:OA}{n:Nat}{x:Nat->Ch}(h:CO w 0 w.1.size ad n x)(hb:Below w.1.size w w'):CO w' 0 w'.1.size ad n x:=λi hi=>by obtain⟨b,off,ah,ch,e1,e2,e3,e4,e5⟩:=h i hi;exact⟨b,off,ah,ch,e1,e2,Ac e3 hb.size,e4.below hb e3,MO (e5.below hb uK) hb.size⟩
theorem tF (B0 g:Nat)(x:Nat->Ch)(X:World):KN B0 0 x g 0 X:=⟨⟨λ_=>undef,λ_=>none,λ_=>0,λ_=>0,⟨λh=>absurd h (AY _),AD _,λh=>absurd h (AY _),λj hj=>absurd hj Za⟩,λi hi=>absurd hi (Aj i),λi hi=>absurd hi (Aj i),λi hi=>absurd hi (Aj i)⟩,λh=>absurd h (AY _)⟩
theorem Yh (ad:OA)(n cap:Nat)(w:World)(hn:(n:Int)<=140737488355328)(hc:n<=cap)(hb:L3 w ad n)(had:∀b off,ad=some ⟨b,off,none⟩->b<w.1.size):Calls prog 3 #[.slice ad n cap] w λe w'=>e=.returned (.bool true)/\Below w.1.size w w':=by
 by_cases hbig:(1048576:Int)<n;.clear hb had;go_enter func3,ntmps3;go_wp2_with fail;go_ret;exact⟨rfl,Ao _ _⟩
 have rQ:=Ah hb;have Sy:=Ah had;have hn2:(n:Int)<=1048576:=Za;clear hb had;go_enter func3,ntmps3;go_upto_region 4 with(go_at_call 4;go_must(refine(T6 ad n cap _ hn2 hc rQ Sy).mono ?_;rintro e w2 ⟨b,a1,a2,a3,c1,c2,c3,s1,s2,fr,k,rfl,hin,hfit,⟨z1,z2⟩,hk,hB2⟩));have hA2:=An w2 (.cells #[.int .i64 b.now,.int .i64 b.floor,.slice a1 b.on c1,.slice a2 b.hn c2,.slice a3 b.tn c3] 27);have hA3:=An (w2.alloc (.cells #[.int .i64 b.now,.int .i64 b.floor,.slice a1 b.on c1,.slice a2 b.hn c2,.slice a3 b.tn c3] 27)) (.cells #[.string s1,.string s2,.int .i64 fr] 29);have hA23:Below w2.1.size w2 ((w2.alloc (.cells #[.int .i64 b.now,.int .i64 b.floor,.slice a1 b.on c1,.slice a2 b.hn c2,.slice a3 b.tn c3] 27)).alloc (.cells #[.string s1,.string s2,.int .i64 fr] 29)):=hA2.trans (hA3.mono Zc);have HT:=AN.new (w:=w2) (l:=[.int .i64 b.now,.int .i64 b.floor,.slice a1 b.on c1,.slice a2 b.hn c2,.slice a3 b.tn c3]) (t:=27) EF;have HV:=AN.new (w:=w2.alloc (.cells #[.int .i64 b.now,.int .i64 b.floor,.slice a1 b.on c1,.slice a2 b.hn c2,.slice a3 b.tn c3] 27)) (l:=[.string s1,.string s2,.int .i64 fr]) (t:=29) EF;rw[Aw]at HV;have HS:=Ah (show LW w b a1 a2 a3 c1 c2 c3 s1 s2 fr w2.1.size ((w2.alloc (.cells #[.int .i64 b.now,.int .i64 b.floor,.slice a1 b.on c1,.slice a2 b.hn c2,.slice a3 b.tn c3] 27)).alloc (.cells #[.string s1,.string s2,.int .i64 fr] 29))from⟨HT.below hA3 HT.lt,HV,(hin.below hA23 uK).upTo Za,Zc,hB2.size,hB2.trans (hA23.mono hB2.size)⟩);have HF:=Ah hfit;have hs2:(s2.size:Int)<=140737488355328:=Za;generalize(w2.alloc (.cells #[.int .i64 b.now,.int .i64 b.floor,.slice a1 b.on c1,.slice a2 b.hn c2,.slice a3 b.tn c3] 27)).alloc (.cells #[.string s1,.string s2,.int .i64 fr] 29)=X at HS⊢;generalize w2.1.size=T at HS⊢;clear hin hfit hB2 hA2 hA3 hA23 HT HV rQ Sy;have t0:=HS.bt.cell 0 Zc;have t1:=HS.bt.cell 1 Zc;have t2:=HS.bt.cell 2 Zc;have t3:=HS.bt.cell 3 Zc;have t4:=HS.bt.cell 4 Zc;simp only[AR,Aa,Ab]at t0 t1 t2 t3 t4;have v0:=HS.vt.cell 0 Zc;have v1:=HS.vt.cell 1 Zc;have v2:=HS.vt.cell 2 Zc;simp only[AR,Aa,Ab]at v0 v1 v2;have tl:=HS.bt.lt;have vl:=HS.vt.lt;obtain⟨c,hcd⟩:∃c,Nt b fr k=c:=⟨_,rfl⟩;have HK:=Ah hcd;clear hcd;by_cases hc0:c=0;.--<yes
  subst hc0;obtain⟨hv,h1,k0,hk0,hkn⟩:=Uo HK;obtain⟨v0',v1',v2',v3',v4',v5'⟩:=E4 hv;have HV:=Ah hv;have jN:=Ah hk0;have hnow:b.now=b.floor+(b.hn:Int):=Za;have jL:=Ah hnow;obtain⟨n1,hn1⟩:∃n1,(Mf b k0 s1 s2 k).length=n1:=⟨_,rfl⟩;obtain⟨y1,hy1⟩:∃y1,Fe (λi=>b.hs (k0+i)) (Mf b k0 s1 s2 k)=y1:=⟨_,rfl⟩;obtain⟨f1,hf1⟩:∃f1,SZ b k0 s1 s2 k=f1:=⟨_,rfl⟩;have PP:=Ah hn1;have vM:=Ah hy1;have mZ:=Ah hf1;have hn1k:n1<=5:=by have:=XA b k0 s1 s2 k;rw[hn1]at this;omega
  have xU:=Ah (show∀i,i<n1->((y1 i).ob.hn:Int)<=140737488355328 from λi hi=>by
   rw[<-hy1,WZ (by rw[hn1];exact hi)];have hm:((Mf b k0 s1 s2 k).map (k0+.)).getD i 0<b.hn:=by
    obtain⟨k',e1,e2,e3,e4⟩:∃k',True/\True/\True/\(Mf b k0 s1 s2 k).map (k0+.)++sK b.hs b.hn s1 s2 k'=sK b.hs b.hn s1 s2 k0:=by
     rcases Au k0 b.hn with h|h;.obtain⟨k',_,_,_,e⟩:=Rn hv h s1 s2 h1;exact⟨k',trivial,trivial,trivial,e⟩
     .have:(Mf b k0 s1 s2 k)=[]:=by unfold Mf seen;rw[show b.hn-k0=0 by omega];simp
      exact⟨k0,trivial,trivial,trivial,by rw[this];rfl⟩
    have hil:i<((Mf b k0 s1 s2 k).map (k0+.)).length:=by rw[Lj,hn1];exact hi
    rw[Be,Bh hil,Option.getD_some];have hmem:((Mf b k0 s1 s2 k).map (k0+.))[i]∈sK b.hs b.hn s1 s2 k0:=by rw[<-e4];exact List.mem_append_left _ (Gg hil)
    exact(Wf hmem).1
   have:=(HF.hs _ hm).h;show((b.hs _).ob.hn:Int)<=_;omega);clear hn1 hy1 hf1 hv hk0 hnow v0' v1' v2' v4' v5';go_upto_region 5 with(go_at_call 5;go_must(refine(TD b a1 a2 a3 c1 c2 c3 s1 s2 fr k _ HF HS.i hs2).mono ?_;intro e w3 hnx;obtain⟨p1,g1,d1,A1,C1,hb1,rfl,hca,hlo,hB3⟩:=QG hnx HK jN PP vM mZ;clear hnx));have hA4:=An w3 (.cells #[.int .i64 0,.slice p1 n1 d1,.int .i64 f1] 33);have XL:=Ah (AN.new (w:=w3) (l:=[.int .i64 0,.slice p1 n1 d1,.int .i64 f1]) (t:=33) EF);have CP:=Ah ((HS.below hB3).below hA4);have rS:=Ah (Nw (hca.isIn (λ_ _=>At _)) hA4);generalize w3.alloc (.cells #[.int .i64 0,.slice p1 n1 d1,.int .i64 f1] 33)=X4 at XL CP rS hA4⊢;generalize w3.1.size=P1 at XL⊢;clear HS hA4 hB3 hca hlo t0 t1 t2 t3 t4 v0 v1 v2 tl vl;have t0:=CP.bt.cell 0 Zc;have t1:=CP.bt.cell 1 Zc;have t2:=CP.bt.cell 2 Zc;have t3:=CP.bt.cell 3 Zc;have t4:=CP.bt.cell 4 Zc;simp only[AR,Aa,Ab]at t0 t1 t2 t3 t4;have v0:=CP.vt.cell 0 Zc;have v1:=CP.vt.cell 1 Zc;have v2:=CP.vt.cell 2 Zc;simp only[AR,Aa,Ab]at v0 v1 v2;have tl:=CP.bt.lt;have vl:=CP.vt.lt;go_upto_region 6 with(go_at_call 6;go_must(refine(OS b a1 a2 a3 c1 c2 c3 s1 s2 fr k _ 0 _ uK HF CP.i hs2).mono ?_;intro e w5 hnx;obtain⟨p2,g2,d2,A2,C2,hb2,rfl,hcb,hlo2,hB5⟩:=QG hnx HK jN PP vM mZ;clear hnx));have hA6:=An w5 (.cells #[.int .i64 0,.slice p2 n1 d2,.int .i64 f1] 33);have WT:=Ah (AN.new (w:=w5) (l:=[.int .i64 0,.slice p2 n1 d2,.int .i64 f1]) (t:=33) EF);have Qj:=Ah ((XL.below hB5 XL.lt).below hA6 (Ac XL.lt hB5.size));have rE:=Ah ((CP.below hB5).below hA6);have vG:=Ah (Nw (Nw rS hB5) hA6);have uR:=Ah (Nw (hcb.isIn (λ_ _=>At _)) hA6);generalize w5.alloc (.cells #[.int .i64 0,.slice p2 n1 d2,.int .i64 f1] 33)=X6 at WT Qj rE vG uR hA6⊢;generalize w5.1.size=P2 at WT⊢;clear CP XL rS hA6 hB5 hcb hlo2 t0 t1 t2 t3 t4 v0 v1 v2 tl vl;have pc0:=Qj.cell 0 Zc;have pc1:=Qj.cell 1 Zc;have pc2:=Qj.cell 2 Zc;simp only[AR,Aa,Ab]at pc0 pc1 pc2;have qc0:=WT.cell 0 Zc;have qc1:=WT.cell 1 Zc;have qc2:=WT.cell 2 Zc;simp only[AR,Aa,Ab]at qc0 qc1 qc2;have pl:=Qj.lt;have ql:=WT.lt;go_upto_region 10 with(go_at_call 7;go_must(refine(Me n1 y1 p1 p2 d1 d2 _ Za xU vG uR).mono ?_;rintro e w7 ⟨rfl,hB7⟩;have pc0:=(hB7.cell (p:=⟨P1,0,none⟩) pl).trans pc0));have nY:=Ah (rE.below hB7);clear rE WT Qj vG uR hB7 pc0 pc1 pc2 qc0 qc1 qc2 pl ql xU PP vM mZ;have t0:=nY.bt.cell 0 Zc;have t1:=nY.bt.cell 1 Zc;have t2:=nY.bt.cell 2 Zc;have t3:=nY.bt.cell 3 Zc;have t4:=nY.bt.cell 4 Zc;simp only[AR,Aa,Ab]at t0 t1 t2 t3 t4;have v0:=nY.vt.cell 0 Zc;have v1:=nY.vt.cell 1 Zc;have v2:=nY.vt.cell 2 Zc;simp only[AR,Aa,Ab]at v0 v1 v2;have tl:=nY.bt.lt;have vl:=nY.vt.lt;go_upto_region 12 with fail;have hA7:Below w7.1.size w7 ((w7.alloc (.cells #[] 40)).alloc (.cells #[.string s1,.string s2,.int .i64 fr] 29)):=(An w7 (.cells #[] 40)).alloc Zc _;have hX:=AN.new (w:=w7.alloc (.cells #[] 40)) (l:=[.string s1,.string s2,.int .i64 fr]) (t:=29) EF;rw[Aw]at hX;have HX:=Ah hX;have vD:=Ah (nY.below hA7);have hTQ:=nY.bl;have hz8:((w7.alloc (.cells #[] 40)).alloc (.cells #[.string s1,.string s2,.int .i64 fr] 29)).1.size=w7.1.size+2:=Zc;generalize(w7.alloc (.cells #[] 40)).alloc (.cells #[.string s1,.string s2,.int .i64 fr] 29)=X8 at HX vD hz8⊢;generalize w7.1.size=Q7 at HX hTQ hz8⊢;clear nY hA7 hX t0 t1 t2 t3 t4 v0 v1 v2 tl vl;go_wp2_with fail;go_loopw[10,8](λi sv wr=>yP w b a1 a2 a3 c1 c2 c3 s1 s2 fr T k0 (Q7+1) (Q7+2) i sv wr)(λi _ _=>300-(intOf i).toNat);case atStart=>exact⟨0,k0,[],Q7,0,rfl,rfl,vD,by rw[<-jN.out];exact HX,tF _ _ _ _,Za,hkn,rfl⟩
  case round=>
   clear vD HX;obtain⟨q,kk,L,g,cp,rfl,rfl,hS,hX,hSe,hq,hkk,hL⟩:=hrel;have HS:=Ah hS;have HX:=Ah hX;have ZO:=Ah hSe;have HL:=Ah hL;clear hS hX hSe hL;have hwr:=HX.lt;by_cases hlt:kk<b.hn;.--<body
    have t0:=HS.bt.cell 0 Zc;have t1:=HS.bt.cell 1 Zc;have t2:=HS.bt.cell 2 Zc;have t3:=HS.bt.cell 3 Zc;have t4:=HS.bt.cell 4 Zc;simp only[AR,Aa,Ab]at t0 t1 t2 t3 t4;have v0:=HS.vt.cell 0 Zc;have v1:=HS.vt.cell 1 Zc;have v2:=HS.vt.cell 2 Zc;simp only[AR,Aa,Ab]at v0 v1 v2;have tl:=HS.bt.lt;have vl:=HS.vt.lt;have x0:=HX.cell 0 Zc;have x1:=HX.cell 1 Zc;have x2:=HX.cell 2 Zc;simp only[AR,Aa,Ab]at x0 x1 x2;obtain⟨k',e1,e2,e3,e4⟩:=Rn HV hlt s1 s2 h1;have ZJ:=Ah (Xa HV (fr:=b.floor+(kk:Int)) rfl hkk h1);have xG:=Ah e3;have yJ:=Ah e4;have hcmp:b.floor+(kk:Int)<b.now:=by have:=jL.out;omega
    have hcm2:b.floor+(kk:Int)<b.floor+(k':Int):=Za;have hq3:q<300:=Za;obtain⟨n2,hn2'⟩:∃n2,(Mf b kk s1 s2 k).length=n2:=⟨_,rfl⟩;have Ue:=Ah hn2';have hn2k:n2<=k:=by have:=XA b kk s1 s2 k;rw[hn2']at this;omega
    clear e3 e4 hn2';go_upto_region 16 with(go_at_call 5;go_must(refine(TD b a1 a2 a3 c1 c2 c3 s1 s2 (b.floor+(kk:Int)) k _ HF HS.i hs2).mono ?_;intro e w3 hnx;obtain⟨p1,g1,d1,A1,C1,hb1,rfl,hca,hlo,hB3⟩:=QG hnx ZJ rfl Ue rfl xG;clear hnx));have hA4:=An w3 (.cells #[.int .i64 0,.slice p1 n2 d1,.int .i64 (b.floor+(k':Int))] 33);have HM:=Ah (AN.new (w:=w3) (l:=[.int .i64 0,.slice p1 n2 d1,.int .i64 (b.floor+(k':Int))]) (t:=33) EF);have CP:=Ah ((HS.below hB3).below hA4);have YT:=Ah ((HX.below hB3 hwr).below hA4 (Ac hwr hB3.size));have Sj:=Ah ((ZO.below hB3).below hA4);have Sc:=Ah (hca.grow hA4);have yK:=Ah hlo;have uX:=Ah (λh0=>ZO.gl h0);have y3:=hB3.size;have y4:=hA4.size;generalize w3.alloc (.cells #[.int .i64 0,.slice p1 n2 d1,.int .i64 (b.floor+(k':Int))] 33)=X4 at HM CP YT Sj Sc y4⊢;obtain⟨P3,hP3⟩:∃P3,w3.1.size=P3:=⟨_,rfl⟩;rw[hP3]at HM y3 y4⊢;clear hA4 hB3 hca hlo t0 t1 t2 t3 t4 v0 v1 v2 tl vl x0 x1 x2 HS HX ZO hP3;have m0:=HM.cell 0 Zc;have m1:=HM.cell 1 Zc;have m2:=HM.cell 2 Zc;simp only[AR,Aa,Ab]at m0 m1 m2;have x0:=YT.cell 0 Zc;have x1:=YT.cell 1 Zc;have x2:=YT.cell 2 Zc;simp only[AR,Aa,Ab]at x0 x1 x2;have ml:=HM.lt;have xl:=YT.lt;go_upto_region 19 with((with_reducible show wpList _ _ _ (⟨some 102,_,_,_,_,_⟩::_) _ _);obtain⟨g',cp',Y,hrun,hSeY,hfY⟩:=Sj.out.app Sc.out yK.out uX.out Za Za (by have:=HL.out;have hLl:L.length<=b.hn:=(by have:=congrArg List.length (HL.out);rw[Mu]at this;have h9:(sK b.hs b.hn s1 s2 k0).length<=b.hn:=(by unfold sK;have:=GY (pK b.hs s1 s2 k0) (List.range b.hn);rw[MS]at this;exact this);omega);omega) (cap2:=d1);refine KA rfl _ _ _ _ rfl _ _ _ _ rfl rfl hrun ?_;have i9:=Ah hSeY;have uE:=Ah hfY;clear hrun hSeY hfY);have hgP:0<cp/\P3=g->False:=λe=>by have:=uX e.1;omega
    have rZ:=Ah (YT.fr uE (λe=>by have:=Sj.g0 e.1;omega));have sD:=Ah (CP.far uE (λq e=>by have:=Sj.g0 e.1;omega));have vA:=Ah (HM.fr uE hgP);clear m0 m1 m2 x0 x1 x2 xl ml;have m0:=vA.cell 0 Zc;have m1:=vA.cell 1 Zc;have m2:=vA.cell 2 Zc;simp only[AR,Aa,Ab]at m0 m1 m2;have x0:=rZ.cell 0 Zc;have x1:=rZ.cell 1 Zc;have x2:=rZ.cell 2 Zc;simp only[AR,Aa,Ab]at x0 x1 x2;have xl:=rZ.lt;have xf:=rZ.free;have ml:=vA.lt;have F9:=(Az.refl (λq=>q=Q7+1) Y).setCell (p:=⟨Q7+1,2,none⟩) rfl (.int .i64 (b.floor+(k':Int)));have HR:=Ah (show yP w b a1 a2 a3 c1 c2 c3 s1 s2 fr T k0 (Q7+1) (Q7+2) (.int .i64 ((q+1:Nat):Int)) (.slice (some ⟨g',0,none⟩) (L.length+n2:Nat) cp') (Y.setCell ⟨Q7+1,2,none⟩ (.int .i64 (b.floor+(k':Int))))from⟨q+1,k',L++(Mf b kk s1 s2 k).map (kk+.),g',cp',rfl,by rw[Mu,Lj,Ue.out],sD.far F9 (λq e=>by omega),(rZ.set (o:=2) Zc (.int .i64 (b.floor+(k':Int)))).congr (λj hj=>by rcases(show j=0\/j=1\/j=2 by omega)with rfl|rfl|rfl<;>rfl),by have h8:=(i9.fr F9 (λq e=>by omega)).congr (y:=jB b (L++(Mf b kk s1 s2 k).map (kk+.))) (λi hi=>j7 (by rw[Ue.out];exact hi));rw[Mu,Lj,Ue.out];exact h8,Za,e2,by rw[List.append_assoc,yJ.out];exact HL⟩);clear rZ i9 sD vA uE HM CP YT Sj Sc yK uX hgP F9 ZJ xG yJ Ue HL;go_wp2_with fail;go_roundw;case rel=>exact HR
    case measure=>simp[intOf];omega
    --body>
   .--<exit
    have ekk:kk=b.hn:=Za;subst ekk;have hnil:sK b.hs b.hn s1 s2 b.hn=[]:=ME (λq hq=>Vf (Bd.1 hq));have hLe:L=sK b.hs b.hn s1 s2 k0:=by have:=HL.out;rw[hnil,List.append_nil]at this;exact this
    obtain⟨ea,eb⟩:=S0 HV hkn s1 s2;have Sd:=Ah (Xa HV (fr:=fr) jN hkn (most:=1000) Zb);obtain⟨M,hM⟩:∃M,L.length=M:=⟨_,rfl⟩;obtain⟨x,hx⟩:∃x,jB b L=x:=⟨_,rfl⟩;have hn3:(Mf b k0 s1 s2 1000).length=M:=by rw[<-hM,hLe,<-eb,Lj]
    have xK:=Ah hn3;have xN:=Ah (show∀i,i<M->Fe (λi=>b.hs (k0+i)) (Mf b k0 s1 s2 1000) i=x i from λi hi=>by rw[WZ (by rw[hn3];exact hi),eb,<-hLe,hx]);have yY:=Ah (show∀i,i<M->∃j,j<b.hn/\x i=b.hs j from λi hi=>by
     rw[<-hM]at hi;have hil:i<L.length:=hi;refine⟨L[i],?_,?_⟩
     .have hmem:L[i]∈sK b.hs b.hn s1 s2 k0:=by rw[<-hLe];exact Gg hil
      exact(Wf hmem).1
     .rw[<-hx];unfold jB;rw[Be,Bh hil,Option.getD_some]);have yF:=Ah (show∀i,i<M->((x i).ob.hn:Int)<=140737488355328 from λi hi=>by obtain⟨j,hj,e⟩:=yY i hi;rw[e];have:=(HF.hs j hj).h;omega);have xY:=Ah (show(sK b.hs b.hn s1 s2 k0).length=M from by rw[<-hLe,hM]);have zZ:=Ah (show∀i j,i<M->(sK b.hs b.hn s1 s2 k0).getD i 0=j->x i=b.hs j from λi j _ e=>by rw[<-hx,hLe];unfold jB;rw[e]);have hMb:M<=200:=by
     have h9:(sK b.hs b.hn s1 s2 k0).length<=b.hn:=by unfold sK;have:=GY (pK b.hs s1 s2 k0) (List.range b.hn);rw[MS]at this;exact this
     rw[<-hLe,hM]at h9;omega
    have hS2:=ZO.out;rw[hM,hx]at hS2;have VJ:=Ah hS2;have hX2:=HX.out;rw[show b.floor+(b.hn:Int)=b.now from jL.symm]at hX2;have vJ:=Ah hX2;rw[hM];clear hS2 hX2 hx hM hn3 hnil hLe HL ea eb ZO HX;have t0:=HS.bt.cell 0 Zc;have t1:=HS.bt.cell 1 Zc;have t2:=HS.bt.cell 2 Zc;have t3:=HS.bt.cell 3 Zc;have t4:=HS.bt.cell 4 Zc;simp only[AR,Aa,Ab]at t0 t1 t2 t3 t4;have v0:=HS.vt.cell 0 Zc;have v1:=HS.vt.cell 1 Zc;have v2:=HS.vt.cell 2 Zc;simp only[AR,Aa,Ab]at v0 v1 v2;have tl:=HS.bt.lt;have vl:=HS.vt.lt;have x0:=vJ.cell 0 Zc;have x1:=vJ.cell 1 Zc;have x2:=vJ.cell 2 Zc;simp only[AR,Aa,Ab]at x0 x1 x2;go_upto_region 21 with(go_at_call 5;go_must(refine(TD b a1 a2 a3 c1 c2 c3 s1 s2 fr 1000 _ HF HS.i hs2).mono ?_;intro e w3 hnx;obtain⟨p3,g3,d3,A3,C3,hb3,rfl,hca,hlo,hB3⟩:=QG hnx Sd jN xK rfl (S0 HV hkn s1 s2).1;clear hnx));have hA4:=An w3 (.cells #[.int .i64 0,.slice p3 M d3,.int .i64 b.now] 33);have HM:=Ah (AN.new (w:=w3) (l:=[.int .i64 0,.slice p3 M d3,.int .i64 b.now]) (t:=33) EF);have CP:=Ah ((HS.below hB3).below hA4);have YT:=Ah ((vJ.below hB3 hwr).below hA4 (Ac hwr hB3.size));have Sj:=Ah ((VJ.below hB3).below hA4);have Sc:=Ah (Nw (tQ (hca.isIn (λ_ _=>At _)) xN) hA4);generalize w3.alloc (.cells #[.int .i64 0,.slice p3 M d3,.int .i64 b.now] 33)=X4 at HM CP YT Sj Sc hA4⊢;generalize w3.1.size=P3 at HM⊢;clear hA4 hB3 hca hlo t0 t1 t2 t3 t4 v0 v1 v2 tl vl x0 x1 x2 HS vJ VJ;have t0:=CP.bt.cell 0 Zc;have t1:=CP.bt.cell 1 Zc;have t2:=CP.bt.cell 2 Zc;have t3:=CP.bt.cell 3 Zc;have t4:=CP.bt.cell 4 Zc;simp only[AR,Aa,Ab]at t0 t1 t2 t3 t4;have v0:=CP.vt.cell 0 Zc;have v1:=CP.vt.cell 1 Zc;have v2:=CP.vt.cell 2 Zc;simp only[AR,Aa,Ab]at v0 v1 v2;have tl:=CP.bt.lt;have vl:=CP.vt.lt;have m0:=HM.cell 0 Zc;have m1:=HM.cell 1 Zc;have m2:=HM.cell 2 Zc;simp only[AR,Aa,Ab]at m0 m1 m2;have x0:=YT.cell 0 Zc;have x1:=YT.cell 1 Zc;have x2:=YT.cell 2 Zc;simp only[AR,Aa,Ab]at x0 x1 x2;have ml:=HM.lt;have xl:=YT.lt;go_upto_region 23 with(go_at_call 7;go_must(refine(Me M x (some ⟨g,0,none⟩) p3 cp d3 _ Za yF Sj.isIn Sc).mono ?_;rintro e w5 ⟨rfl,hB5⟩;have m2:=(hB5.cell (p:=⟨P3,2,none⟩) ml).trans m2;have t0:=(hB5.cell (p:=⟨T,0,none⟩) tl).trans t0));have vY:=Ah (CP.below hB5);have n7:=Ah (Sj.below hB5);clear CP Sj HM YT Sc hB5 t0 t1 t2 t3 t4 v0 v1 v2 tl vl x0 x1 x2 m0 m1 m2 ml xl xN yF xK Sd;go_wp2_with fail;obtain⟨Xz,hXz⟩:∃Xz:World,Xz=w5:=⟨_,rfl⟩;rw[<-hXz]at vY n7⊢;clear hXz;go_loopw[14,13](λi kv X=>bg w b a1 a2 a3 c1 c2 c3 s1 s2 fr T k0 (Q7+2) M g cp x i kv X)(λi _ _=>b.hn-(intOf i).toNat);case atStart=>exact⟨0,At _,rfl,rfl,vY,n7⟩
    case round=>
     clear vY n7;obtain⟨q,hqn,rfl,rfl,hS,hSe⟩:=hrel;have HS:=Ah hS;have ZO:=Ah hSe;have hMc:=hSe.le;clear hS hSe;have t0:=HS.bt.cell 0 Zc;have t1:=HS.bt.cell 1 Zc;have t2:=HS.bt.cell 2 Zc;have t3:=HS.bt.cell 3 Zc;have t4:=HS.bt.cell 4 Zc;simp only[AR,Aa,Ab]at t0 t1 t2 t3 t4;have v0:=HS.vt.cell 0 Zc;have v1:=HS.vt.cell 1 Zc;have v2:=HS.vt.cell 2 Zc;simp only[AR,Aa,Ab]at v0 v1 v2;have tl:=HS.bt.lt;have vl:=HS.vt.lt;by_cases hqh:q<b.hn;.--<in
      obtain⟨gb,off,ah,ch,ea2,_,hbh,hcx,hsx⟩:=HS.bi.h q hqh;obtain⟨d0,d1,d2,d3,d4,d5,d6,d7,d8⟩:=hcx;have hgl:gb<wr.1.size:=Ac hbh HS.bl;have hver:(b.hs q).ver=b.floor+1+(q:Int):=(E4 HV).2.2.2.2.2 q hqh;have hob:=HF.hs q hqh;obtain⟨z,hz⟩:∃z,b.hs q=z:=⟨_,rfl⟩;rw[hz]at d0 d1 d2 d3 d4 d5 d6 d7 d8 hsx hver hob;have ZC:=Ah (MO hsx HS.bl);have xL:=Ah hob;have sB:=Ah hver;have HZ:=Ah hz;have hA1:=An wr (.cells #[.int .i64 z.ver,.bool z.gone,.string z.ob.kind,.string z.ob.name,.int .i64 z.ob.ver,.int .i64 z.ob.born,.string z.ob.text,.bool z.ob.ending,.slice ah z.ob.hn ch] 40);have WR:=Ah (AN.new (w:=wr) (l:=[.int .i64 z.ver,.bool z.gone,.string z.ob.kind,.string z.ob.name,.int .i64 z.ob.ver,.int .i64 z.ob.born,.string z.ob.text,.bool z.ob.ending,.slice ah z.ob.hn ch]) (t:=40) EF);have Qw:=Ah (HS.below hA1);have ZI:=Ah (ZO.below hA1);have ZL:=Ah (MO (ZC.below hA1 uK) hA1.size);clear hsx hob hver hz hbh;subst ea2;go_upto_region 28 with fail;generalize wr.alloc (.cells #[.int .i64 z.ver,.bool z.gone,.string z.ob.kind,.string z.ob.name,.int .i64 z.ob.ver,.int .i64 z.ob.born,.string z.ob.text,.bool z.ob.ending,.slice ah z.ob.hn ch] 40)=X1 at WR Qw ZI ZL hA1⊢;generalize wr.1.size=Cb at WR⊢;clear hA1 HS ZO ZC hgl d0 d1 d2 d3 d4 d5 d6 d7 d8 t0 t1 t2 t3 t4 v0 v1 v2 tl vl;have t0:=Qw.bt.cell 0 Zc;have t1:=Qw.bt.cell 1 Zc;have t2:=Qw.bt.cell 2 Zc;have t3:=Qw.bt.cell 3 Zc;have t4:=Qw.bt.cell 4 Zc;simp only[AR,Aa,Ab]at t0 t1 t2 t3 t4;have v0:=Qw.vt.cell 0 Zc;have v1:=Qw.vt.cell 1 Zc;have v2:=Qw.vt.cell 2 Zc;simp only[AR,Aa,Ab]at v0 v1 v2;have tl:=Qw.bt.lt;have vl:=Qw.vt.lt;have d0:=WR.cell 0 Zc;have d1:=WR.cell 1 Zc;have d2:=WR.cell 2 Zc;have d3:=WR.cell 3 Zc;have d4:=WR.cell 4 Zc;have d5:=WR.cell 5 Zc;have d6:=WR.cell 6 Zc;have d7:=WR.cell 7 Zc;have d8:=WR.cell 8 Zc;simp only[AR,Aa,Ab]at d0 d1 d2 d3 d4 d5 d6 d7 d8;have dl:=WR.lt;have hO:=AN.new (w:=X1) (l:=[.string z.ob.kind,.string z.ob.name,.int .i64 z.ob.ver,.int .i64 z.ob.born,.string z.ob.text,.bool z.ob.ending,.slice ah z.ob.hn ch]) (t:=38) EF;have tZ:=Ah (mH z.ob ah ch X1.1.size s1 s2 (X1.alloc (.cells #[.string z.ob.kind,.string z.ob.name,.int .i64 z.ob.ver,.int .i64 z.ob.born,.string z.ob.text,.bool z.ob.ending,.slice ah z.ob.hn ch] 38)) ⟨hO.cell 0 Zc,hO.cell 1 Zc,hO.cell 2 Zc,hO.cell 3 Zc,hO.cell 4 Zc,hO.cell 5 Zc,hO.cell 6 Zc⟩ hO.lt xL.n hs2);have rO:=Ah (An X1 (.cells #[.string z.ob.kind,.string z.ob.name,.int .i64 z.ob.ver,.int .i64 z.ob.born,.string z.ob.text,.bool z.ob.ending,.slice ah z.ob.hn ch] 38));clear hO;by_cases hkq:k0<=q
      .have hgt:fr<z.ver:=by have:=sB.out;have:=jN.out;omega
       cases hlk:Nn z.ob s1 s2 with
       |true=>
        --<look
        have N8:=tZ.out;rw[hlk,if_pos rfl]at N8;have jV:=Ah N8;obtain⟨y1',y2',y3'⟩:=eR (x:=b.hs) (n:=b.hn) (ki:=s1) (pr:=s2) hqh hkq (by rw[HZ.out];exact hlk);rw[xY.out]at y1';obtain⟨j,hj⟩:∃j,Pg b.hs s1 s2 k0 q=j:=⟨_,rfl⟩;have wB:=Ah y3';have hxj:x j=z:=by rw[<-HZ.out];exact zZ j q Za (by rw[<-hj];exact y2')
        rw[hj]at y1'⊢;have HJ:=Ah hj;have yV:=Ah hxj;clear N8 tZ hj hxj y2' y3';go_upto_region 29 with(go_at_call 8;go_must(refine jV.mono ?_;rintro e w7 ⟨p7,d7',rfl,hB7⟩));have hBB:=rO.trans (hB7.mono rO.size);have GM:=Ah (Qw.below hBB);have VJ:=Ah (ZI.below hBB);have Sh:=Ah (WR.below hBB dl);have nU:=Ah (MO (ZL.below hBB uK) hBB.size);clear Qw ZI WR ZL rO hB7 hBB jV d0 d1 d2 d3 d4 d5 d6 d7 d8 dl t0 t1 t2 t3 t4 v0 v1 v2 tl vl;obtain⟨ah2,ch2,hcj,hsj⟩:=VJ.cell y1';rw[yV.out]at hcj hsj;obtain⟨k0',k1',k2',k3',k4',k5',k6',k7',k8'⟩:=hcj;have hgl:=VJ.gl (by have:=VJ.le;omega);have zI:=Ah hsj;clear hsj;have d0:=Sh.cell 0 Zc;have d1:=Sh.cell 1 Zc;have d2:=Sh.cell 2 Zc;have d3:=Sh.cell 3 Zc;have d4:=Sh.cell 4 Zc;have d5:=Sh.cell 5 Zc;have d6:=Sh.cell 6 Zc;have d7:=Sh.cell 7 Zc;have d8:=Sh.cell 8 Zc;simp only[AR,Aa,Ab]at d0 d1 d2 d3 d4 d5 d6 d7 d8;have dl:=Sh.lt;have hjM:(j:Int)<M:=Za;have hge:¬(M:Int)<=(j:Int):=Za;have hge2:decide ((M:Int)<=(j:Int))=false:=decide_eq_false hge;have hne:Nonempty (GW w7):=⟨⟨_,Ao _ _⟩⟩;have xk0:=Ai k0' hgl;have xk1:=Ai k1' hgl;have xk2:=Ai k2' hgl;have xk3:=Ai k3' hgl;have xk4:=Ai k4' hgl;have xk5:=Ai k5' hgl;have xk6:=Ai k6' hgl;have xk7:=Ai k7' hgl;have xk8:=Ai k8' hgl;have xd0:=Ai d0 dl;have xd1:=Ai d1 dl;have xd2:=Ai d2 dl;have xd3:=Ai d3 dl;have xd4:=Ai d4 dl;have xd5:=Ai d5 dl;have xd6:=Ai d6 dl;have xd7:=Ai d7 dl;have xd8:=Ai d8 dl;clear k0' k1' k2' k3' k4' k5' k6' k7' k8' d0 d1 d2 d3 d4 d5 d6 d7 d8;refine AE Ze Ze ?_;repeat(go_big_quiet_step(first|(go_at_call 9;go_must(exact Bf (Od z ah2 ah ch2 ch _ (by have:=xL.h;omega) (MO (AB.below zI (GW.prop _) uK) (GW.prop _).size) (MO (AB.below nU (GW.prop _) uK) (GW.prop _).size))))))
        refine wpQuiet_nil ?_;rintro w8 ⟨u,hu⟩;have hBB:Below w7.1.size w7 w8:=hu▸u.prop;clear hu u hne xk0 xk1 xk2 xk3 xk4 xk5 xk6 xk7 xk8 xd0 xd1 xd2 xd3 xd4 xd5 xd6 xd7 xd8;go_wp2_with fail;go_roundw;case rel=>exact⟨q+1,Za,rfl,by rw[wB.out,HJ.out];rfl,GM.below hBB,VJ.below hBB⟩
        case measure=>simp[intOf];omega
        --look>
       |false=>
        --<not
        have N8:=tZ.out;rw[hlk,if_neg Zb]at N8;have jV:=Ah N8;have vI:=Ah (Xt (x:=b.hs) (ki:=s1) (pr:=s2) (k:=k0) (i:=q) (by rw[SU hkq,HZ.out];exact hlk));clear N8 tZ;go_wp2_with (go_at_call 8;go_must(refine jV.mono ?_;rintro e w7 ⟨p7,d7',rfl,hB7⟩));have hBB:=rO.trans (hB7.mono rO.size);go_roundw;case rel=>exact⟨q+1,Za,rfl,by rw[vI.out],Qw.below hBB,ZI.below hBB⟩
        case measure=>simp[intOf];omega
        --not>
      .--<old
       have hgt:¬fr<z.ver:=by have:=sB.out;have:=jN.out;omega
       have vI:=Ah (Xt (x:=b.hs) (ki:=s1) (pr:=s2) (k:=k0) (i:=q) (Vf Za));go_wp2_with fail;go_roundw;case rel=>exact⟨q+1,Za,rfl,by rw[vI.out],Qw,ZI⟩
       case measure=>simp[intOf];omega
       --old>
      --in>
     .have eq:q=b.hn:=Za;subst eq;have hend:Pg b.hs s1 s2 k0 b.hn=M:=xY.out;rw[hend];go_wp2_with fail;go_ret;exact⟨rfl,HS.B⟩
      --out>
    --exit>
  --yes>
 .go_upto_region 5 with(go_at_call 5;go_must(refine(TD b a1 a2 a3 c1 c2 c3 s1 s2 fr k _ HF HS.i hs2).mono ?_;intro e w3 hnx;obtain⟨p1,d1,rfl,hB3⟩:=Z1 hnx HK hc0;clear hnx));have hA4:=An w3 (.cells #[.int .i64 c,.slice p1 (0:Nat) d1,.int .i64 0] 33);have XL:=Ah (AN.new (w:=w3) (l:=[.int .i64 c,.slice p1 (0:Nat) d1,.int .i64 0]) (t:=33) EF);have CP:=Ah ((HS.below hB3).below hA4);generalize w3.alloc (.cells #[.int .i64 c,.slice p1 (0:Nat) d1,.int .i64 0] 33)=X4 at XL CP hA4⊢;generalize w3.1.size=P1 at XL⊢;clear HS hA4 hB3 t0 t1 t2 t3 t4 v0 v1 v2 tl vl;have t0:=CP.bt.cell 0 Zc;have t1:=CP.bt.cell 1 Zc;have t2:=CP.bt.cell 2 Zc;have t3:=CP.bt.cell 3 Zc;have t4:=CP.bt.cell 4 Zc;simp only[AR,Aa,Ab]at t0 t1 t2 t3 t4;have v0:=CP.vt.cell 0 Zc;have v1:=CP.vt.cell 1 Zc;have v2:=CP.vt.cell 2 Zc;simp only[AR,Aa,Ab]at v0 v1 v2;have tl:=CP.bt.lt;have vl:=CP.vt.lt;go_upto_region 6 with(go_at_call 6;go_must(refine(OS b a1 a2 a3 c1 c2 c3 s1 s2 fr k _ 0 _ uK HF CP.i hs2).mono ?_;intro e w5 hnx;obtain⟨p2,d2,rfl,hB5⟩:=Z1 hnx HK hc0;clear hnx));have hA6:=An w5 (.cells #[.int .i64 c,.slice p2 (0:Nat) d2,.int .i64 0] 33);have WT:=Ah (AN.new (w:=w5) (l:=[.int .i64 c,.slice p2 (0:Nat) d2,.int .i64 0]) (t:=33) EF);have Qj:=Ah ((XL.below hB5 XL.lt).below hA6 (Ac XL.lt hB5.size));have rE:=Ah ((CP.below hB5).below hA6);generalize w5.alloc (.cells #[.int .i64 c,.slice p2 (0:Nat) d2,.int .i64 0] 33)=X6 at WT Qj rE hA6⊢;generalize w5.1.size=P2 at WT⊢;clear CP XL hA6 hB5 t0 t1 t2 t3 t4 v0 v1 v2 tl vl;have pc0:=Qj.cell 0 Zc;have pc1:=Qj.cell 1 Zc;have pc2:=Qj.cell 2 Zc;simp only[AR,Aa,Ab]at pc0 pc1 pc2;have qc0:=WT.cell 0 Zc;have qc1:=WT.cell 1 Zc;have qc2:=WT.cell 2 Zc;simp only[AR,Aa,Ab]at qc0 qc1 qc2;have pl:=Qj.lt;have ql:=WT.lt;go_wp2_with (go_at_call 7;go_must(refine(Me 0 b.hs p1 p2 d1 d2 _ Zb (λi hi=>absurd hi (Aj i)) (nN _ _ _) (nN _ _ _)).mono ?_;rintro e w7 ⟨rfl,hB7⟩;have pc0:=(hB7.cell (p:=⟨P1,0,none⟩) pl).trans pc0;have pc1:=(hB7.cell (p:=⟨P1,1,none⟩) pl).trans pc1;have pc2:=(hB7.cell (p:=⟨P1,2,none⟩) pl).trans pc2));go_ret;exact⟨rfl,(rE.below hB7).B⟩
  --no>
end Go.Proofs.Ytnnjcenacidceaa
namespace Go.Proofs.Ytnnjcenacidceaa
open Go.ChangeShapes Go.WideShapes Go.ChangeAt Go.RowKit Go.Deep Go.Proofs.Try
open Go.WideMaps Go.WideElems Go.Proofs.Try
theorem Try.c5:prog.cellsOf 5=1:=Ze
theorem qT:prog.bytesOf 5=1:=Ze
theorem Try.own:ownKnob prog.godebug=none:=Ze
theorem qS:prog.underlying 5=some (.int .u8):=Ze
theorem lI{W:World}{b0:Nat}{a:Addr}{len cap:Nat}(h:Value.okWide prog W .any b0 22 (.slice (some a) len cap)):len<=cap/\a.spot=none/\a.block<W.1.size:=by
 unfold Value.okWide at h;simp only[underlying22]at h;unfold Cell.okWide at h;simp only[underlying22]at h;unfold Cell.ok at h;simp only[underlying22]at h;obtain⟨h1,_,_,h2,row,cs,hsh,_⟩:=h;refine⟨h1,h2,?_⟩;unfold World.shape? at hsh;rcases Au a.block W.1.size with q|q;.exact q
 .rw[A9 q]at hsh;cases hsh
theorem dR{H:Type}{enc:TypeId×Value->H}{W:World}{b0:Nat}{v:Value}{d:DataW H}{p:List MemPlace}(hv:Value.okWide prog W .any b0 22 v)(h:DataW.Trod enc prog W 0 (λ_=>true) true 22 v d p)(hs:∀x∈DataW.weights prog 22 d,x<=reachBytes):∃ad n cap,v=.slice ad n cap/\(n:Int)<=140737488355328/\n<=cap/\L3 W ad n/\∀b off,ad=some ⟨b,off,none⟩->b<W.1.size:=by
 obtain⟨ad',n',cap',rfl⟩:∃ad n cap,v=.slice ad n cap:=okWide_slice underlying22 hv;obtain⟨fuel,hf0⟩:=h;have hf1:DataW.trod enc prog W 0 (λ_=>true) true fuel 22 [.slice ad' n' cap']=some (d,p):=hf0;rcases open_slice underlying22 hf1 with⟨hc,_⟩|⟨a,len,cap,m,n,D,Pl,hc,_,hl,_,hm,hx,hel⟩;.simp only[List.cons.injEq,and_true]at hc;exact⟨none,0,0,hc,Zb,AD _,λi hi=>absurd hi (Aj _),λb off e=>by cases e⟩
 .simp only[List.cons.injEq,and_true]at hc;simp only[if_true]at hm;subst hm;cases hc;obtain⟨k1,k2,k3⟩:=lI hv;have hd:d=_:=congrArg Prod.fst hx;subst hd;have f1:=hs _ (by simp only[DataW.weights,underlying22];exact Mw ..);simp only[Lj,MS,qT,reachBytes]at f1;obtain⟨b1,off1,spot⟩:=a;simp only at k2;subst k2;refine⟨_,_,_,rfl,Za,k1,λi hi=>?_,λb off e=>by cases e;exact k3⟩;obtain⟨cs,h1,h2⟩:=hel i Za;rw[Try.c5]at h1;obtain⟨_,hcl,hcc⟩:=World.cells?_some h1;obtain⟨c,rfl⟩:∃c,cs=[c]:=by match cs,hcl with
   |[c],_=>exact⟨c,rfl⟩
  obtain⟨k,hk,_,hwf⟩:=DataW.trod_int qS h2;simp only[List.cons.injEq,and_true]at hk;subst hk;have hc0:W.cell? (((⟨b1,off1,none⟩:Addr).add (i*1)).add 0)=some (.int .u8 k):=hcc 0 Za;have ea:(((⟨b1,off1,none⟩:Addr).add (i*1)).add 0)=⟨b1,off1+i,none⟩:=by simp[add_plain]
  rw[ea]at hc0;simp only[Lit.wf,Al,decide_eq_true_eq]at hwf;have m0:IntKind.u8.min=0:=Zb;have m1:IntKind.u8.max=255:=Zb;exact⟨b1,off1,k,rfl,k3,hc0,Za,Za⟩
theorem Uc (os:Os)(started:os.Started)(H:Type)(enc:TypeId×Value->H):ReturnsInHanded {} checked os 3 .any (Rows.fnBookWatchSpec.pre6 enc prog Try.f3 Rows.fnBookWatchRow.domain false) (Rows.fnBookWatchSpec.post enc prog Try.f3 false true false false):=by
 refine returnsInHanded_of_change_sized (C:=checked) Try.own started Ze func3
  (ChangeSpec.witness6 (enc:=enc) (C:=checked) false ⟨#[],#[.slice none 0 0],[]⟩ 8 Ze Ze Ze Ze) ?_;intro W base args ds gs before hval0 hW _ hsz0 _;have hsz:(DataW.weightsEach prog (Try.f3.params.toList++Rows.fnBookWatchSpec.plain.varTypes prog) (ds++gs)).all (.<=reachBytes)=true:=hsz0;clear hsz0;have hval:∀(j:Nat) t v,Try.f3.params[j]?=some t->args[j]?=some v->Value.okWide prog W .any base t v:=hval0;have hW':=hW;obtain⟨p,q,hA0,hV,rfl,_,_⟩:=hW;have hA:DataW.TrodAll enc prog W 0 (λ_=>true) true Try.f3.params.toList args.toList ds p:=hA0;rw[params3]at hA hval hsz;obtain⟨v0,d0,rfl,rfl,h0⟩:=trodAll_one hA;obtain⟨rfl,rfl⟩:=trodVars_none hV;have hfit0:∀x∈DataW.weights prog 22 d0,x<=reachBytes:=λx hx=>by have:=AZ.1 hsz x (DataW.weights_mem_each (j:=0) (t:=22) rfl rfl x hx);simpa using this
 have h0k:=h0;obtain⟨ad,n,cap,rfl,hn,hc,hin,had⟩:=dR (hval 0 22 v0 rfl rfl) h0 hfit0;clear hA0 hval0 hsz;simp only[List.append_nil]at hW';have hlt:∀y∈p,y.block<W.1.size:=λy hy=>by simpa using hW'.lt y (by simpa using hy)
 refine(Yh ad n cap W hn hc hin had).mono λe W' ⟨he,hb⟩=>?_;subst he;refine⟨_,rfl,_,_,_,[],p,[],hW',?_,?_,rfl,hb.frame _,λh=>by cases h⟩;.exact trodAll_mk1 (shut_bool underlying4 true)
 .exact trodAll_mk1 (Below.trod Qe Ze (of_decide_eq_true Ze) h0k hb (λy hy=>hlt y (by simp[hy])))
theorem watch_holds:Rows.FnBookWatchSaid:=OpenClaim.holds_of_wide 3 Try.f3 rfl rfl rfl rfl rfl rfl rfl ⟨rfl,rfl,rfl,rfl,rfl⟩ rfl rfl rfl rfl rfl Ze func3 Ze
  (of_decide_eq_true Ze) (by unfold Func.isWrapper;rw[if_neg (of_decide_eq_false Ze)];exact⟨rfl,rfl⟩)
  (λos started H enc _=>Uc os started H enc)
end Go.Proofs.Ytnnjcenacidceaa
