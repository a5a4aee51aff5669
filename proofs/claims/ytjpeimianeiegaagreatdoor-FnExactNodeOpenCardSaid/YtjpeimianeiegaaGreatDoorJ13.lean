import Derived.Test.YtjpeimianeiegaaGreatDoorJ11
import Derived.Test.YtjpeimianeiegaaGreatDoorJ12
set_option maxRecDepth 100000
set_option maxHeartbeats 2000000
namespace Go.Proofs.YtjpeimianeiegaaGreatDoor
open Go.RowKit Tryz
theorem pE (x a:Int) (w:World):Calls prog 59 #[.int .i64 x,.int .i64 a] w fun e d=>e=.returned (.bool (uA x 0 a))/\d=w:=by
 by_cases b:0<=x
 ·by_cases c:x<=a
  ·have e:uA x 0 a=true:=by simp[uA,b,c]
   rw[e];go_enter func59,ntmps59;go_wp2;go_ret;exact⟨rfl,rfl⟩
  ·have e:uA x 0 a=false:=by simp[uA,c]
   rw[e];go_enter func59,ntmps59;go_wp2;go_ret;exact⟨rfl,rfl⟩
 ·have e:uA x 0 a=false:=by simp[uA,b]
  rw[e];go_enter func59,ntmps59;go_wp2;go_ret;exact⟨rfl,rfl⟩
def okM (a:List UInt8) (c:UInt8):Bool:=(97<=c&&c<=122) ||(48<=c&&c<=57) ||decide (0<=Lib.indexByte a c)
def gR (s:ByteArray) (b:Int) (a:ByteArray):Bool:=decide (1<=s.size) &&decide ((s.size:Int)<=b) &&s.data.toList.all (okM a.data.toList)
theorem aAv (mk:ByteArray) (c:UInt8) (w:World):Calls prog 207 #[.string mk,.int .u8 (c.toNat:Int)] w fun e a=>e=.returned (.int .i64 (Lib.indexByte mk.data.toList c))/\a=w:=by
 have:=strings_IndexByte mk (c.toNat:Int) w;simpa using this
theorem cZ {s:ByteArray} {f:UInt8->Bool} {k:Nat} (h:k<s.size):(s.data.toList.take (k+1)).all f=((s.data.toList.take k).all f&&f s[k]):=by
 rw[oQ s k h];simp
theorem vu {l:List UInt8} {f:UInt8->Bool} {k:Nat} (h:(l.take k).all f=false):l.all f=false:=by
 rw[Ic]at h |-
 intro a;apply h;simp only[Vd]at a |-
 exact fun x b=>a x (Xd b)
theorem aBo (c:UInt8):(97<=c&&c<=122)=decide (97<=(c.toNat:Int)/\(c.toNat:Int)<=122):=by rw[Nb];simp[Cf];omega
theorem aFf (c:UInt8):(48<=c&&c<=57)=decide (48<=(c.toNat:Int)/\(c.toNat:Int)<=57):=by rw[Nb];simp[Cf];omega
theorem KE (s:ByteArray) (a:Int) (mk:ByteArray) (w:World) (p:s.size<=maxLen):
 Calls prog 158 #[.string s,.int .i64 a,.string mk] w fun e m=>e=.returned (.bool (gR s a mk))/\m=w:=by
 unfold maxLen at p;by_cases q:(s.size:Int)<1
 ·have HN:Hid (gR s a mk=false):=by show _=_;simp[gR];omega
  go_enter func158,ntmps158;go_wp2;go_ret;exact⟨kA HN.out.symm,rfl⟩
 by_cases r:a<(s.size:Int)
 ·have HN:Hid (gR s a mk=false):=by
   show _=_;have:decide ((s.size:Int)<=a)=false:=by simp;omega
   simp[gR,this]
  go_enter func158,ntmps158;go_wp2;go_ret;exact⟨kA HN.out.symm,rfl⟩
 have HN:Hid (gR s a mk=s.data.toList.all (okM mk.data.toList)):=by
  show _=_;have n:1<=s.size:=by omega
  have o:(s.size:Int)<=a:=by omega
  simp[gR,n,o]
 go_enter func158,ntmps158;go_wp2;go_loop [7,8,20] (fun _ _ i=>∃k:Nat,k<=s.size/\i=.int .i64 k/\(s.data.toList.take k).all (okM mk.data.toList)=true) (fun _ _ i=>s.size-(intOf i).toNat)
 case atStart=>exact⟨0,Ha _,rfl,by simp⟩
 case round=>
  obtain⟨k,t,rfl,d⟩:=hrel;have c:Hid _:=d;clear d;by_cases h:k<s.size
  ·have b:=cZ (f:=okM mk.data.toList) h;rw[c.out,Nc,okM,aBo,aFf]at b;have j:Hid _:=b;clear b;have l:=fun W=>aAv mk s[k] W;generalize Lib.indexByte mk.data.toList s[k]=u at *;have g:Hid _:=l;clear l;go_wp2_with(go_at_call 207;refine(g.out _).mono ?_;rintro e m ⟨rfl,rfl⟩);all_goals first
    |(go_ret
      refine⟨kA ?_,rfl⟩
      rw[HN.out]
      refine(vu (k:=k+1) ?_).symm
      rw[j.out]
      simp at *
      omega)
    |(refine⟨⟨k+1,by omega,by go_num,?_⟩,by simp[intOf];omega⟩
      rw[j.out]
      simp at *
      omega)
  ·go_wp2;go_ret;exact⟨kA (by rw[HN.out,<-c.out,Pa (by simp;omega)]),rfl⟩
def tT (x:Nat):Nat:=if x % 2=1 then(x / 2) ^^^ 2197175160 else x / 2
def lM (x:Nat):Nat->Nat
 |0=>x
 |k+1=>tT (lM x k)
def YQ (i:Nat):Nat:=lM i 8
theorem aFa {x:Nat} (h:x<4294967296):tT x<4294967296:=by
 unfold tT;split
 ·exact Fd (n:=32) (by omega) (by omega)
 ·omega
theorem UR {x:Nat} (h:x<4294967296):∀k,lM x k<4294967296
 |0=>h
 |k+1=>aFa (UR h k)
theorem aKa {i:Nat} (h:i<256):YQ i<4294967296:=UR (by omega) 8
theorem yv (a b:Nat):(a ^^^ b) % 2=(a+b) % 2:=by
 have:=Nat.xor_mod_two_eq_one (a:=a) (b:=b);omega
theorem zv (r x:Nat):tT (r ^^^ x)=wW r x ^^^ (x / 2):=by
 unfold tT wW;rw[yv,Nat.xor_div_two];split
 ·rw[Nat.xor_assoc,Nat.xor_comm (x / 2),<-Nat.xor_assoc]
 ·rfl
theorem JO (r b:Nat):∀k,lM (r ^^^ b) k=cO r b k ^^^ (b / 2 ^ k)
 |0=>by simp[lM,cO]
 |k+1=>by
  show tT (lM (r ^^^ b) k)=wW (cO r b k) (b / 2 ^ k) ^^^ (b / 2 ^ (k+1));rw[JO r b k,zv,Ag,Oc]
theorem qn (x z:Nat):tT (x ^^^ (2*z))=tT x ^^^ z:=by
 unfold tT;rw[yv,Nat.xor_div_two,show(x+2*z) % 2=x % 2 by omega,show 2*z / 2=z by omega];split
 ·rw[Nat.xor_assoc,Nat.xor_comm z,<-Nat.xor_assoc]
 ·rfl
theorem JP (x z:Nat):∀k,lM (x ^^^ (2 ^ k*z)) k=lM x k ^^^ z
 |0=>by simp[lM]
 |k+1=>by
  show tT (lM (x ^^^ (2 ^ (k+1)*z)) k)=tT (lM x k) ^^^ z;rw[Oc,Nat.mul_assoc,JP x (2*z) k,qn]
theorem zw (r:Nat):r=(r % 256) ^^^ (256*(r / 256)):=by
 have h:256*(r / 256)+r % 256=(2 ^ 8*(r / 256)) ||| (r % 256):=Ef (i:=8) (b:=r % 256) (by omega) (r / 256)
 have c:(r % 256) ^^^ (256*(r / 256))=(2 ^ 8*(r / 256)) ||| (r % 256):=by
  apply Nat.eq_of_testBit_eq;intro i;rw[Nat.testBit_xor,Nat.testBit_or,show 256*(r / 256)=2 ^ 8*(r / 256) from rfl,Nat.testBit_two_pow_mul,show r % 256=r % 2 ^ 8 from rfl,Nat.testBit_mod_two_pow];by_cases a:i<8
  ·simp[a,Nat.not_le.2 a]
  ·simp[a,Nat.not_lt.1 a]
 omega
theorem zx (r b:Nat) (d:b<256):cO r b 8=(r / 256) ^^^ YQ ((r % 256) ^^^ b):=by
 have a:=JO r b 8;rw[show b / 2 ^ 8=0 by omega,Nat.xor_zero]at a;rw[<-a];have c:=JP ((r % 256) ^^^ b) (r / 256) 8;rw[show((r % 256) ^^^ b) ^^^ (2 ^ 8*(r / 256))=r ^^^ b by
  rw[Nat.xor_assoc,Nat.xor_comm b,<-Nat.xor_assoc,show(2 ^ 8*(r / 256))=256*(r / 256) from rfl,<-zw r]]at c
 rw[c,Nat.xor_comm];rfl
theorem aJm:∃Z:Array Value,Z=Array.replicate 256 (.int .u32 0)/\∀w,(zeroValue 317).run prog w=.ok (.agg Z) w:=⟨_,rfl,fun _=>by kernel_rfl⟩
theorem vf (P:Program) (w:World) (Z:Array Value) (t:TypeId) (b:∀v∈Z.toList,v.oneCell'=true):
 (storeCells ⟨w.heap.size,0,none⟩ Z.toList).run P (w.alloc (.cells Z t))=.ok () (w.alloc (.cells Z t)):=by
 have a:(w.alloc (.cells Z t)).heap[w.heap.size]?=some (.cells Z t (0,0)):=heap_alloc_new _ _;have h:=run_storeCells_from (P:=P) w.heap.size t Z.toList 0 Z _ a (by simp) b;rw[h];simp only[Ue,Jb,Array.toArray_toList];rw[setRow_self _ _ Z t (0,0) a]
theorem eo (a:Nat) (b:a<4294967296):bits .and .u32 (a:Int) 1=((a % 2:Nat):Int):=by
 show IntKind.u32.wrap ((BitVec.ofInt 32 (a:Int) &&& BitVec.ofInt 32 ((1:Nat):Int)).toNat:Int)=_;rw[BitVec.toNat_and,Gc,Gc,Bc,Bc,Hc (by omega),Hc (by omega),Nat.and_one_is_mod];simp only[IntKind.wrap,IntKind.bits,IntKind.signed];simp;omega
theorem dq (a b:Nat) (c:a<4294967296) (d:b<4294967296):bits .xor .u32 (a:Int) (b:Int)=((a ^^^ b:Nat):Int):=by
 have e:a ^^^ b<2 ^ 32:=Fd (by omega) (by omega);show IntKind.u32.wrap ((BitVec.ofInt 32 (a:Int) ^^^ BitVec.ofInt 32 (b:Int)).toNat:Int)=_;rw[Fg,Gc,Gc,Bc,Bc,Hc (by omega),Hc (by omega)];simp only[IntKind.wrap,IntKind.bits,IntKind.signed];simp;omega
theorem KI (w:World):
 Calls prog 213 #[] w fun e v=>∃b a,e=.returned (.pointer (some ⟨b,0,none⟩))/\w.heap.size<=b/\lA v b a 317/\(∀i,i<256->a[i]?=some (.int .u32 (YQ i:Nat)))/\Below w.heap.size w v:=by
 obtain⟨Z,l,I⟩:=aJm;have r:Z.size=256:=by rw[l];simp
 have C:=vf prog w Z 317 (by rw[l];simp[Value.oneCell']);have s:lA (w.alloc (.cells Z 317)) w.heap.size Z 317:=heap_alloc_new _ _;have y:Hid (lA (w.alloc (.cells Z 317)) w.heap.size Z 317):=s;clear l s;go_enter func213,ntmps213;go_wp2;go_loopw [2,3,5] (fun _ _ c wr=>∃(k:Nat) (a:Array Value),k<=256/\c=.int .i64 k/\Hid (lA wr w.heap.size a 317)/\a.size=256/\Hid (∀i,i<k->a[i]?=some (.int .u32 (YQ i:Nat)))/\Hid (Below w.heap.size w wr)) (fun _ _ c _=>256-(intOf c).toNat)
 case atStart=>exact⟨0,Z,by omega,rfl,y,r,fun i u=>absurd u (by omega),cA _ _⟩
 case round=>
  obtain⟨k,a,H,rfl,d,m,h,g⟩:=hrel;by_cases B:k<256
  ·go_wp2;go_loop [3,10] (fun x c=>∃(j X:Nat),j<=8/\c=.int .i64 j/\x=.int .u32 X/\X<4294967296/\Hid (X=lM k j)) (fun _ c=>8-(intOf c).toNat)
   case atStart=>exact⟨0,k,by omega,rfl,by go_num,by omega,rfl⟩
   case round=>
    obtain⟨j,X,G,rfl,rfl,A,o⟩:=hrel;have t:=eo X A;have q:=dq (X / 2) 2197175160 (by omega) (by omega);by_cases D:j<8
    ·by_cases f:X % 2=1
     ·rw[f]at t;go_wp2;refine⟨⟨j+1,(X / 2) ^^^ 2197175160,by omega,by go_num,?_,Fd (n:=32) (by omega) (by omega),?_⟩,by simp[intOf];omega⟩
      ·rw[<-q];congr 2
      ·show _=_;rw[lM,<-o.out,tT,Ga f]
     ·have z:X % 2=0:=by omega
      rw[z]at t;go_wp2;refine⟨⟨j+1,X / 2,by omega,by go_num,?_,by omega,?_⟩,by simp[intOf];omega⟩
      ·go_num
      ·show _=_;rw[lM,<-o.out,tT,Ca f]
    ·have e:j=8:=by omega
     subst e;have E:wr.cell? ⟨w.heap.size,k,none⟩=some (a[k]'(by omega)):=by rw[d.out.cell];exact Fc _
     have F:=d.out.free k;go_wp2;refine⟨⟨k+1,a.setIfInBounds k (.int .u32 X),by omega,by go_num,d.out.set k _,by simp[m],?_,?_⟩,by simp[intOf];omega⟩
     ·intro i u;rw[Wa];split
      ·rename_i e;subst e;rw[Ga (by omega),o.out];rfl
      ·exact h.out i (by omega)
     ·exact g.out.setCell (p:=⟨w.heap.size,k,none⟩) (Da _) _
  ·have e:k=256:=by omega
   subst e;go_wp2;go_ret;exact⟨w.heap.size,a,rfl,Da _,d.out,h.out,g.out⟩
theorem LC (s:ByteArray) (w:World) (u:s.size<=maxLen):
 Calls prog 88 #[.string s] w fun e y=>e=.returned (.int .i64 (kH s:Nat))/\y=w:=by
 unfold maxLen at u;go_enter func88,ntmps88;go_wp2;go_loop [3,4,5,6,7,8] (fun r i _ _ _ _=>∃(j R:Nat),j<=s.size/\i=.int .i64 j/\r=.int .i64 R/\Hid (R=gh (s.data.toList.take j))) (fun _ i _ _ _ _=>s.size-(intOf i).toNat)
 case atStart=>exact⟨0,4294967295,Ha _,rfl,rfl,rfl⟩
 case round=>
  obtain⟨j,R,A,rfl,rfl,f⟩:=hrel;have b:R<4294967296:=by rw[f.out];exact aJz _
  by_cases g:j<s.size
  ·have z:s[j].toNat<256:=s[j].toNat_lt;go_wp2;go_loop [3,5,6,7,8] (fun r k _ _ _=>∃(m S:Nat),m<=8/\k=.int .i64 m/\r=.int .i64 S/\Hid (S=cO R s[j].toNat m)) (fun _ k _ _ _=>8-(intOf k).toNat)
   case atStart=>exact⟨0,R,by omega,rfl,rfl,rfl⟩
   case round=>
    obtain⟨m,S,B,rfl,rfl,c⟩:=hrel;have h:S<4294967296:=by rw[c.out];exact zZ b _
    by_cases p:m<8
    ·go_wp2;go_loop [6,7] (fun x q=>∃(t X:Nat),t<=m/\q=.int .i64 t/\x=.int .i64 X/\Hid (X=s[j].toNat / 2 ^ t)) (fun _ q=>m-(intOf q).toNat)
     case atStart=>exact⟨0,s[j].toNat,by omega,rfl,rfl,by show _=_;simp⟩
     case round=>
      obtain⟨t,X,C,rfl,rfl,d⟩:=hrel;have n:X<256:=by
       have:X<=s[j].toNat:=by rw[d.out];exact Nat.div_le_self _ _
       omega
      by_cases v:t<m
      ·go_wp2;exact⟨⟨t+1,X / 2,by omega,by go_num,by go_num,by show _=_;rw[d.out,Ag,Oc]⟩,by simp[intOf];omega⟩
      ·have e:t=m:=by omega
       subst e;by_cases a:(S+X) % 2=1
       ·go_wp2;have o:bits BinOp.xor IntKind.i64 ((S:Int) / 2) 2197175160=(((S / 2) ^^^ 2197175160:Nat):Int):=aMt (S / 2) 2197175160 (by omega) (by omega);rw[o];exact⟨⟨t+1,_,by omega,by go_num,rfl,by show _=_;rw[cO,wW,<-c.out,<-d.out,Ga a]⟩,by simp[intOf];omega⟩
       ·go_wp2;exact⟨⟨t+1,S / 2,by omega,by go_num,by go_num,by show _=_;rw[cO,wW,<-c.out,<-d.out,Ca a]⟩,by simp[intOf];omega⟩
    ·go_wp2;have e:m=8:=by omega
     subst e;exact⟨⟨j+1,S,by omega,by go_num,rfl,by show _=_;rw[oQ s j g,UQ,<-f.out,CI,c.out]⟩,by simp[intOf];omega⟩
  ·go_wp2;go_ret;refine⟨iC ?_,rfl⟩;rw[kH,<-Pa (l:=s.data.toList) (i:=j) (by simp;omega),<-f.out];omega
theorem aPe (a b:Nat) (c:a<256) (d:b<256):bits .xor .u8 (a:Int) (b:Int)=((a ^^^ b:Nat):Int):=by
 have e:a ^^^ b<2 ^ 8:=Fd (by omega) (by omega);show IntKind.u8.wrap ((BitVec.ofInt 8 (a:Int) ^^^ BitVec.ofInt 8 (b:Int)).toNat:Int)=_;rw[Fg,Gc,Gc,Bc,Bc,Hc (by omega),Hc (by omega)];simp only[IntKind.wrap,IntKind.bits,IntKind.signed];simp;omega
theorem aLj (a:Nat) (d:a<4294967296):bits .xor .u32 IntKind.u32.max (a:Int)=((4294967295-a:Nat):Int):=by
 have b:bits .xor .u32 IntKind.u32.max (a:Int)=((4294967295 ^^^ a:Nat):Int):=dq 4294967295 a (by omega) d;have c:(4294967295 ^^^ a:Nat)=4294967295-a:=by
  have e:(BitVec.allOnes 32 ^^^ BitVec.ofNat 32 a).toNat=(~~~ BitVec.ofNat 32 a).toNat:=by rw[BitVec.allOnes_xor]
  rw[Fg,BitVec.toNat_allOnes,BitVec.toNat_not,Bc,Hc (by omega)]at e;exact e
 rw[b,c]
theorem RQ (b:Nat) (d:Array Value) (s:ByteArray) (w:World) (A:s.size<=maxLen) (r:lA w b d 317) (f:∀i,i<256->d[i]?=some (.int .u32 (YQ i:Nat))):
 Calls prog 214 #[.pointer (some ⟨b,0,none⟩),.string s] w fun e C=>e=.returned (.int .i64 (kH s:Nat))/\Below w.heap.size w C:=by
 have q:Hid (lA w b d 317/\∀i,i<256->d[i]?=some (.int .u32 (YQ i:Nat))):=⟨r,f⟩
 clear r f;unfold maxLen at A;go_enter func214,ntmps214;go_wp2;go_loopw [5,6,9] (fun x _ c wr=>∃(k X:Nat),k<=s.size/\c=.int .i64 k/\x=.int .u32 X/\X<4294967296/\Hid (X=gh (s.data.toList.take k))/\Hid (Below w.heap.size w wr)) (fun _ _ c _=>s.size-(intOf c).toNat)
 case atStart=>exact⟨0,4294967295,by omega,rfl,rfl,by omega,by show _=_;simp[gh],Below.refl _ _⟩
 case round=>
  obtain⟨k,X,F,rfl,rfl,y,t,a⟩:=hrel;by_cases p:k<s.size
  ·have E:=(s[k]).toNat_lt;obtain⟨N,T,Y,D,h,z,g,B,l,m⟩:∃N T Y:Nat,N<256/\T<4294967296/\Y<4294967296/\bits .xor .u8 ((X:Int) % 256) ((s[k]).toNat:Int)=(N:Int)/\bits .xor .u32 ((X:Int) / 256) (T:Int)=(Y:Int)/\wr.cell? ⟨b,N,none⟩=some (.int .u32 (T:Nat))/\Hid (CI X s[k]=Y):=by
    have g:=aPe (X % 256) (s[k]).toNat (by omega) (by omega);have o:(X % 256) ^^^ (s[k]).toNat<256:=Fd (n:=8) (by omega) (by omega);have j:=q.out.1.later a.out;have h:=aKa o;refine⟨_,_,_,o,h,Fd (n:=32) (by omega) h,g,dq (X / 256) _ (by omega) h,by rw[j.cell];exact q.out.2 _ o,zx X _ (by omega)⟩
   go_wp2;go_region
   go_wp2;refine⟨⟨k+1,Y,by omega,by go_num,rfl,z,?_,a.out.drew⟩,by simp[intOf];omega⟩;show _=_;rw[oQ s k p,UQ,<-t.out,m.out]
  ·have e:k=s.size:=by omega
   subst e;have G:=aLj X y;go_wp2;refine bodyPost_ret (v:=.int .i64 (kH s:Nat)) ?_ rfl ⟨rfl,a.out⟩;have u:wrap64 ((4294967295-X:Nat):Int)=((4294967295-X:Nat):Int):=by simp only[wrap64];omega
   rw[u,show kH s=4294967295-X by rw[kH,t.out,Pa (by simp)]];simp[results,results214,go_sem]
theorem zX (s:ByteArray) (p n:Nat) (w:World) (o:s.size<=maxLen) (h:p+n<=s.size) (u:n<=7):
 Calls prog 80 #[.string s,.int .i64 p,.int .i64 n] w fun e q=>e=.returned (.int .i64 (mL (zC s p n):Nat))/\q=w:=by
 unfold maxLen at o;go_enter func80,ntmps80;go_wp2;go_loop [7,8] (fun v i=>∃(k V:Nat),k<=n/\i=.int .i64 k/\v=.int .i64 V/\Hid (V=mL (zC s p k))) (fun _ i=>n-(intOf i).toNat)
 case atStart=>exact⟨0,0,Ha _,rfl,rfl,rfl⟩
 case round=>
  obtain⟨k,V,t,rfl,rfl,a⟩:=hrel;have d:V<72057594037927936:=by
   have b:=wS (zC s p k);rw[kF (by omega),<-a.out]at b;have f:256 ^ k<=256 ^ 7:=Zb (by omega) (by omega);omega
  by_cases m:k<n
  ·have g:V*256+255<9223372036854775807:=by
    have b:=wS (zC s p k);rw[kF (by omega),<-a.out]at b;have f:256 ^ k<=256 ^ 6:=Zb (by omega) (by omega);omega
   have j:(0:Int)<=(p:Int)+(k:Int):=by omega
   have l:(p:Int)+(k:Int)<(s.size:Int):=by omega
   have c:p+k<s.size:=by omega
   have r:=s[p+k].toNat_lt;go_wp2;exact⟨⟨k+1,V*256+s[p+k].toNat,by omega,by go_num,by go_num,by show _=_;rw[BK c,sW,a.out]⟩,by simp[intOf];omega⟩
  ·go_wp2;go_ret;have e:k=n:=by omega
   subst e;exact⟨iC (by rw[a.out]),rfl⟩
def gF (a:List dA):List Int:=(a.filter fun f=>decide (0<mE f.name)).map fun f=>(mE f.name:Int)
theorem pX {a:List dA} {k:Nat} (h:k<a.length) (b:0<mE a[k].name):gF (a.take (k+1))=gF (a.take k)++[(mE a[k].name:Int)]:=by
 unfold gF;rw[List.take_add_one,Ka h,Option.toList_some,Ud,Qd];simp[b]
theorem oZ {a:List dA} {k:Nat} (h:k<a.length) (b:¬0<mE a[k].name):gF (a.take (k+1))=gF (a.take k):=by
 unfold gF;rw[List.take_add_one,Ka h,Option.toList_some,Ud,Qd];simp[b]
theorem EA (a:List dA):(gF a).length<=a.length:=by
 unfold gF;rw[Ua];exact Tb _ _
theorem aIl (P D:Nat) (a:Option Addr) (E:Nat) (d:List dA) (w:World) (hP:w.cell? ⟨P,0,none⟩=some (.pointer (some ⟨D,0,none⟩))) (hD:w.cell? ⟨D,4,none⟩=some (.slice a d.length E)) (hf:iA w a d)
 (hn:∀i (h:i<d.length),d[i].name.size<=1000000000) (hlen:d.length<=1048576) (t:xI w) (B:oH w):
 Calls prog 101 #[.pointer (some ⟨P,0,none⟩)] w fun e L=>∃X F,e=.returned (.slice X (gF d).length F)/\GH L X (gF d)/\Below w.heap.size w L:=by
 obtain⟨ti,I,R,S,T⟩:=jh;have HI:Hid _:=I;have HF:Hid (iA w a d):=hf;have HN:Hid _:=hn;have W:Hid (xI w/\oH w):=⟨t,B⟩
 clear I hf hn t B;go_enter func101,ntmps101;go_wp2;go_loopw [3,16] (fun U i wr=>∃(k:Nat) (f:List Int) (z:Option Addr) (A:Nat),k<=d.length/\f.length<=k/\Hid (f=gF (d.take k))/\i=.int .i64 k/\U=.slice z f.length A/\Hid (wr.ownsRow w.heap.size 3 1 (.slice z f.length A) f.length (f.map (Value.int .i64)))/\Below w.heap.size w wr) (fun _ i _=>d.length-(intOf i).toNat)
 case atStart=>
  exact⟨0,[],none,0,Ha _,Ha _,rfl,rfl,rfl,⟨rfl,Ba ⟨rfl,rfl⟩⟩,Below.refl _ _⟩
 case round=>
  obtain⟨k,f,z,A,hk,hy,C,rfl,rfl,j,c⟩:=hrel;clear hP hD;by_cases s:k<d.length
  ·obtain⟨b,o,rfl,hb,c0,c1,c2⟩:=(HF.out.later c).at s;have hs:=HN.out k s;have N:Hid (0<mE d[k].name->f++[(mE d[k].name:Int)]=gF (d.take (k+1))):=fun h=>by rw[pX s h,C.out]
   have M:Hid (¬0<mE d[k].name->f=gF (d.take (k+1))):=fun h=>by rw[oZ s h,C.out]
   generalize d[k].name=u at *;generalize d[k].data=dt at *;generalize d[k].y9=sy at *;have hsz:=c.size;have V:Hid (∀o,Calls prog 140 #[.string u] (wr.alloc o) fun e L=>∃(n:Int) (b:Bool),e=.returned (.tuple #[.int .i64 n,.bool b])/\b=decide (0<mE u)/\(b=true->n=mE u)/\Below (wr.alloc o).heap.size (wr.alloc o) L):=fun o=>SQ u _ hs (W.out.1.later (pA c (cA _ _))) (W.out.2.later (pA c (cA _ _)));go_wp2_with fail;refine(V.out _).mono ?_;rintro e w1 ⟨n,Y,rfl,m,x,H⟩;have l:Hid _:=pA (cA _ _) H;have hsz1:=l.out.size;clear H V;by_cases y:0<mE u
   ·have J:Hid (n=(mE u:Int)/\0<mE u):=⟨x (by rw[m];exact Rb y),y⟩
    obtain rfl:Y=true:=by rw[m];exact Rb y
    clear m x y;go_wp2_with(at_builtin;refine wpList_append_lies _ rfl _ _ _ rfl w.heap.size 3 ti _ 1 8 underlying116 HI.out R S T rfl (by omega) (.slice z f.length A) f.length (f.map (Value.int .i64)) rfl (by exact cB (cB j.out l.out) (cA _ _)) ⟨w1.heap.size,0,none⟩ 1 1 [.int .i64 n] rfl rfl (by exact World.news_of_block (heap_alloc_new _ _)) (by simp[Value.oneCell']) (by omega) (by simp[maxLen];omega) (by omega) (by simp;omega) (w1.heap.size+1) (by simp) ?_;intro g5 G w5 p r Z hlt5);have O:Below w.heap.size w w5:=(pA (pA c l.out) (cA _ _)).grown r (by simp;omega) (fun q K=>by
     rcases j.out.2 with⟨B,_⟩|⟨g,E,cur,B,hB,_⟩
     ·rw[B]at K;simp[Value.ownBlock]at K
     ·rw[B]at K;simp[Value.ownBlock]at K;omega)
    have Q:f.map (Value.int .i64)++[Value.int .i64 n]=(f++[n]).map (Value.int .i64):=by simp
    have v:(f++[n]).length=f.length+1:=by simp
    rw[Q,<-v]at p;exact⟨⟨k+1,f++[n],some ⟨g5,0,none⟩,G,by omega,by rw[v];omega,by show _=_;rw[J.out.1];exact N.out J.out.2,by go_num,by rw[v],p,O⟩,by simp[intOf];omega⟩
   ·have J:Hid (¬0<mE u):=y;obtain rfl:Y=false:=by rw[m];exact Mb y
    clear m x y;go_wp2;exact⟨⟨k+1,f,z,A,by omega,by omega,M.out J.out,by go_num,rfl,cB j.out l.out,pA c l.out⟩,by simp[intOf];omega⟩
  ·go_wp2;go_ret;have e:k=d.length:=by omega
   subst e;rw[Qb]at C;have hY:=C.out;clear C;subst hY;exact⟨z,A,rfl,qX j.out,c⟩
theorem iw (s:ByteArray) (w:World) (k:s.size<=maxLen):
 Calls prog 170 #[.string s] w fun e n=>e=.returned (.int .i64 (kH s:Nat))/\Below w.heap.size w n:=by
 have m:Hid _:=k;clear k;go_enter func170,ntmps170;go_wp2_with fail;refine(KI _).mono ?_;rintro e l ⟨b,c,rfl,_,j,a,d⟩;have g:Hid (lA l b c 317/\(∀i,i<256->c[i]?=some (.int .u32 (YQ i:Nat)))/\Below w.heap.size w l):=⟨j,a,d⟩
 clear j a d;go_wp2_with fail;refine(RQ b c s _ m.out g.out.1 g.out.2.1).mono ?_;rintro e o ⟨rfl,f⟩;have h:Hid _:=pA g.out.2.2 f;clear f;go_wp2;go_ret;exact⟨rfl,h.out⟩
def aM (r:dE):Prop:=r.n9.size<=255/\r.text.size<=65535/\((r.kind=1/\r.num=0)\/(r.kind=2/\r.n9.size=0/\r.text.size=0)\/r.kind=3)
def rcD (r:dE):Decidable (aM r):=by unfold aM;infer_instance
def mm (r:dE):Bool:=@decide (aM r) (rcD r)
theorem WN {r:dE} (h:aM r):mm r=true:=@Rb _ (rcD r) h
theorem pZ {r:dE} (h:¬aM r):mm r=false:=@Mb _ (rcD r) h
def LP (r:dE):ByteArray:=aB 1 r.kind++xV r.n9++nG r.text++aB 8 r.num
def oG:List dE->ByteArray
 |[]=>ByteArray.empty
 |r::q=>LP r++oG q
def qb (a:List dE):Prop:=∀i (h:i<a.length),aM a[i]
def oT (a:Int) (b:List dE):Prop:=1<=a/\a<=1000000000000000/\1<=b.length/\b.length<=500/\qb b
def CF (a:Int) (n:Nat):ByteArray:=aB 8 a++aB 2 (n:Nat)
def aPk (a:Int) (b:List dE):Decidable (oT a b):=by unfold oT qb aM;infer_instance
def uK (a:Int) (b:List dE):ByteArray:=haveI:=aPk a b;if oT a b then CF a b.length++oG b else ByteArray.empty
theorem MI {a:Int} {b:List dE} (h:oT a b):uK a b=CF a b.length++oG b:=by unfold uK;rw[Ga h]
theorem CE {lsn:Int} {rs:List dE} (h:¬oT lsn rs):uK lsn rs=ByteArray.empty:=by unfold uK;rw[Ca h]
theorem CM:∀(a b:List dE),oG (a++b)=oG a++oG b
 |[],b=>by simp[oG]
 |r::q,b=>by
  show LP r++oG (q++b)=LP r++oG q++oG b;rw[CM q b,Ob]
theorem qr (a:List dE) (k:Nat) (h:k<a.length):oG (a.take (k+1))=oG (a.take k)++LP a[k]:=by
 rw[La h,CM];simp[oG]
theorem aAf (r:dE):(LP r).size=12+r.n9.size+r.text.size:=by
 unfold LP;rw[Ia,Ia,Ia,bB,bB,yO,jK];omega
theorem YF (a:Int) (n:Nat):(CF a n).size=10:=by unfold CF;rw[Ia,bB,bB]
theorem vt {b:List dE} {k:Nat} (d:k<b.length) (h:¬aM b[k]) (a:Int):uK a b=ByteArray.empty:=CE fun c=>h (c.2.2.2.2 k d)
structure gG where
 b:Nat
 t:Int
def hget (l:List gG) (i:Nat):gG:=l.getD i ⟨0,0⟩
def yE (l:List gG) (i j:Nat):List gG:=(l.set i (hget l j)).set j (hget l i)
theorem DA {l:List gG} {i:Nat} (h:i<l.length):hget l i=l[i]:=by simp[hget,List.getD,Ka h]
theorem gC (l:List gG) (i j:Nat):(yE l i j).length=l.length:=by simp[yE]
theorem sG {l:List gG} {i j:Nat} (a:i<l.length) (b:j<l.length) (k:Nat):hget (yE l i j) k=if k=j then hget l i else if k=i then hget l j else hget l k:=by
 unfold yE;have e:∀(m:List gG) (p:Nat) (x:gG) (k:Nat),p<m.length->hget (m.set p x) k=if k=p then x else hget m k:=fun m p x k c=>by
  by_cases h:k=p
  ·subst h;simp[hget,List.getD,c]
  ·rw[Ca h];simp[hget,List.getD,Ne.symm h]
 rw[e _ _ _ _ (by simpa using b),e _ _ _ _ a]
theorem BS {l:List gG} {i j:Nat} (a:i<l.length) (b:j<l.length):(yE l i j).Perm l:=by
 unfold yE;rw[DA a,DA b];exact List.set_set_perm a b
def kJ (l:List gG):Prop:=∀i,0<i->i<l.length->(hget l ((i-1) / 2)).t<=(hget l i).t
def tZ (l:List gG) (k:Nat):Prop:=(∀i,0<i->i<l.length->i≠k->(hget l ((i-1) / 2)).t<=(hget l i).t)/\∀i,0<i->i<l.length->(i-1) / 2=k->0<k->(hget l ((k-1) / 2)).t<=(hget l i).t
theorem kJ.push {l:List gG} (h:kJ l) (x:gG):tZ (l++[x]) l.length:=by
 have e:∀i,i<l.length->hget (l++[x]) i=hget l i:=fun i a=>by simp[hget,List.getD,Cd a]
 refine⟨fun i b a c=>?_,fun i b a d _=>?_⟩
 ·simp at a;rw[e i (by omega),e _ (by omega)];exact h i b (by omega)
 ·simp at a;omega
theorem tZ.done {l:List gG} {k:Nat} (h:tZ l k) (a:k=0\/(hget l ((k-1) / 2)).t<=(hget l k).t):kJ l:=by
 intro i b c;by_cases e:i=k
 ·subst e;rcases a with a|a
  ·omega
  ·exact a
 ·exact h.1 i b c e
theorem tZ.step {l:List gG} {k:Nat} (h:tZ l k) (e:k<l.length) (p:0<k) (r:(hget l k).t<(hget l ((k-1) / 2)).t):tZ (yE l k ((k-1) / 2)) ((k-1) / 2):=by
 have d:(k-1) / 2<l.length:=by omega
 have o:(k-1) / 2≠k:=by omega
 refine⟨fun i a c j=>?_,fun i a c n m=>?_⟩
 ·rw[gC]at c;rw[sG e d,sG e d,Ca j];by_cases b:i=k
  ·subst b;rw[Ga rfl,Ga rfl];omega
  ·rw[Ca b];by_cases f:(i-1) / 2=(k-1) / 2
   ·rw[Ga f];have:=h.1 i a c b;rw[f]at this;omega
   ·rw[Ca f];by_cases g:(i-1) / 2=k
    ·rw[Ga g];exact h.2 i a c g p
    ·rw[Ca g];exact h.1 i a c b
 ·rw[gC]at c;rw[sG e d,sG e d,Ca (by omega:((k-1) / 2-1) / 2≠(k-1) / 2),Ca (by omega:((k-1) / 2-1) / 2≠k),Ca (by omega:i≠(k-1) / 2)];have q:=h.1 ((k-1) / 2) m d o;by_cases b:i=k
  ·rw[Ga b];exact q
  ·rw[Ca b];have:=h.1 i a c b;rw[n]at this;omega
def iP (l:List gG):Nat->List gG
 |0=>l
 |k+1=>if (hget l (k+1)).t<(hget l (k / 2)).t then iP (yE l (k+1) (k / 2)) (k / 2) else l
theorem KZ {l:List gG} {k:Nat} (a:0<k):iP l k=if (hget l k).t<(hget l ((k-1) / 2)).t then iP (yE l k ((k-1) / 2)) ((k-1) / 2) else l:=by
 obtain⟨j,rfl⟩:∃j,k=j+1:=⟨k-1,by omega⟩
 rw[iP,Nat.add_sub_cancel]
theorem LA (l:List gG):iP l 0=l:=by rw[iP]
theorem KY:∀(k:Nat) (l:List gG),k<l.length->tZ l k->kJ (iP l k)/\(iP l k).Perm l/\(iP l k).length=l.length
 |0,l,_,h=>by rw[LA];exact⟨h.done (Ba rfl),Kf _,rfl⟩
 |k+1,l,e,h=>by
  rw[KZ (by omega)];by_cases d:(hget l (k+1)).t<(hget l ((k+1-1) / 2)).t
  ·rw[Ga d];obtain⟨a,b,c⟩:=KY ((k+1-1) / 2) (yE l (k+1) ((k+1-1) / 2)) (by rw[gC];omega) (h.step e (by omega) d);exact⟨a,b.trans (BS e (by omega)),c.trans (gC _ _ _)⟩
  ·rw[Ca d];exact⟨h.done (Ea (by omega)),Kf _,rfl⟩
def pP (l:List gG) (x:gG):List gG:=iP (l++[x]) l.length
theorem BF {l:List gG} (h:kJ l) (x:gG):kJ (pP l x)/\(pP l x).Perm (x::l)/\(pP l x).length=l.length+1:=by
 obtain⟨a,b,c⟩:=KY l.length (l++[x]) (by simp) (h.push x);exact⟨a,b.trans (List.perm_append_singleton x l),by rw[pP,c];simp⟩
theorem KD (s:ByteArray) (w:World) (hs:s.size<=1000000000) (hT:dF w):
 Calls prog 245 #[.string s] w fun e w'=>e=.returned (.int .i64 (bP s:Nat))/\Below w.heap.size w w':=by
 have X:Hid (dF w):=hT;clear hT;have b0:=run_range_string w 9 s underlying9;have G:Hid (oK (w.iter s 0) w.heap.size s 0/\Below w.heap.size w (w.iter s 0)):=⟨World.iter_heap _ _ _,cA _ _⟩
 generalize w.iter s 0=w0 at *;go_enter func245,ntmps245;go_wp2;clear b0;go_loopw [3,4,5,6] (fun cnt Y _ _ wr=>∃(p:Nat) (a:List Nat) (v:Bool),p<=s.size/\a.length<=p/\Hid (xY s p a/\v=a.any ctl)/\cnt=.int .i64 (a.length:Nat)/\Y=.bool v/\Hid (oK wr w.heap.size s p/\Below w.heap.size w wr)) (fun _ _ _ _ wr=>s.size-wr.iterPos w.heap.size)
 case atStart=>
  exact⟨0,[],false,Ha _,Da _,⟨xY.start s,rfl⟩,rfl,rfl,G.out⟩
 case round=>
  obtain⟨p,a,v,hp,hac,D,rfl,rfl,y⟩:=hrel;have HM:Hid (wr.iterPos w.heap.size=p):=by show _=_;unfold World.iterPos;rw[y.out.1]
  clear G;by_cases j:p<s.size
  ·have B:∀C,(Instr.next (.pointer (some ⟨w.heap.size,0,none⟩)) true C).run prog wr=_:=fun C=>aGz wr w.heap.size s p C y.out.1 j;have M:=dV s p;have u:=yW s p;have K:Hid _:=fun W h=>pr s p W j h;have x:Hid _:=JR s p j;have H:Hid _:=fun E=>D.out.1.step j E;have F:Hid _:=fun E=>D.out.1.bad j E;have U:Hid (∀r,(a++[r]).any ctl=(v||ctl r)):=fun r=>by rw[Tf,<-D.out.2];simp
   have J:Hid (oK (cL wr w.heap.size s (p+(Utf8.decode s p).2)) w.heap.size s (p+(Utf8.decode s p).2)/\Below w.heap.size w (cL wr w.heap.size s (p+(Utf8.decode s p).2))):=⟨y.out.1.set _,SU y.out.2 (Da _) _ _⟩
   obtain⟨R,Q⟩:∃R,(Utf8.decode s p).1=R:=⟨_,rfl⟩
   obtain⟨N,A⟩:∃N,(Utf8.decode s p).2=N:=⟨_,rfl⟩
   have HD:Hid (Utf8.decode s p=(R,N)):=by show _=_;rw[<-Q,<-A]
   rw[Q]at u B;rw[A]at u B M;have o:Hid (∀W,dF W->Calls prog 267 #[.string s,.int .i64 (p:Nat)] W fun e w'=>e=.returned (.int .i64 (N:Nat))/\Below W.heap.size W w'):=by show ∀_,_;rw[<-A];exact K.out
   have n:Hid ((R,N)≠(65533,1)->xY s (p+N) (a++[R])/\p+N<=s.size):=fun h=>by
    have E:Utf8.decode s p≠(65533,1):=by rw[HD.out];exact h
    have z:=H.out E;have h2:=x.out E;rw[Q,A]at z;rw[A]at h2;exact⟨z,h2⟩
   have f:Hid (oK (cL wr w.heap.size s (p+N)) w.heap.size s (p+N)/\Below w.heap.size w (cL wr w.heap.size s (p+N))):=by show _/\_;rw[<-A];exact J.out
   clear K H x J Q A y;obtain⟨O,hr2⟩:=u;generalize cL wr w.heap.size s (p+N)=P at *;have l:Hid (∀W,(R,N)≠(65533,1)->Below P.heap.size P W->∃(T:Nat) (i:List Nat) (L:Bool),T<=s.size/\i.length<=T/\Hid (xY s T i/\L=i.any ctl)/\Value.int .i64 ((a.length:Int)+1)=.int .i64 (i.length:Nat)/\Value.bool (v||ctl R)=.bool L/\Hid (oK W w.heap.size s T/\Below w.heap.size w W)):=fun W g S=>
    ⟨p+N,a++[R],v||ctl R,(n.out g).2,(n.out g).1.1,⟨(n.out g).1,(U.out R).symm⟩,by simp,rfl,f.out.1.later S,pA f.out.2 S⟩
   have m:Hid (∀W,(R,N)≠(65533,1)->Below P.heap.size P W->s.size-W.iterPos w.heap.size<s.size-wr.iterPos w.heap.size):=fun W g S=>by
    have z:W.iterPos w.heap.size=p+N:=by unfold World.iterPos;rw[f.out.1.later S]
    rw[z,HM.out];omega
   by_cases hf:R=65533
   ·have Z:((R:Int)==65533)=true:=by simp;omega
    by_cases z:N=1
    ·have a0:((N:Int)==1)=true:=by simp;omega
     have I:Hid _:=F.out (by rw[HD.out,hf,z]);clear l m;go_wp2_with fail;refine(o.out _ (X.out.later f.out.2)).mono ?_;rintro e w2 ⟨rfl,c⟩;have d:Hid _:=pA f.out.2 c;clear c;go_wp2;go_ret;exact⟨iC (by rw[I.out];rfl),d.out⟩
    ·have a0:((N:Int)==1)=false:=by simp;omega
     have g:(R,N)≠(65533,1):=by simp;omega
     have b:Hid ((R,N)≠(65533,1)):=g;clear g hf z;cases v with
     |true=>
      go_wp2_with fail;refine(o.out _ (X.out.later f.out.2)).mono ?_;rintro e w2 ⟨rfl,c⟩;have d:Hid _:=c;clear c;go_wp2;have t:=l.out _ b.out d.out;rw[Bool.true_or]at t;exact⟨t,m.out _ b.out d.out⟩
     |false=>
      go_wp2_with fail;refine(o.out _ (X.out.later f.out.2)).mono ?_;rintro e w2 ⟨rfl,c⟩;have d:Hid _:=c;clear c;go_wp2_with fail;refine(jZ R _ O).mono ?_;rintro e w3 ⟨rfl,hw⟩;replace hw:=hw.symm;subst hw;go_wp2;have t:=l.out _ b.out d.out;rw[Rf]at t;exact⟨t,m.out _ b.out d.out⟩
   ·have Z:((R:Int)==65533)=false:=by simp;omega
    have b:Hid ((R,N)≠(65533,1)):=by show _≠_;simp;omega
    cases v with
    |true=>
     go_wp2;have t:=l.out _ b.out (Below.refl _ _);rw[Bool.true_or]at t;exact⟨t,m.out _ b.out (Below.refl _ _)⟩
    |false=>
     go_wp2_with fail;refine(jZ R _ O).mono ?_;rintro e w3 ⟨rfl,hw⟩;replace hw:=hw.symm;subst hw;go_wp2;have t:=l.out _ b.out (Below.refl _ _);rw[Rf]at t;exact⟨t,m.out _ b.out (Below.refl _ _)⟩
  ·have B:∀C,(Instr.next (.pointer (some ⟨w.heap.size,0,none⟩)) true C).run prog wr=_:=fun C=>aHa wr w.heap.size s p C y.out.1 j;have I:Hid _:=D.out.1.done (by omega);have HC:Hid _:=D.out.2;have V:Hid _:=y.out.2;clear D y HM;by_cases q:128<a.length
   ·have k:Hid (bP s=43):=by show _=_;rw[I.out,gu,Ga q]
    go_wp2;go_ret;exact⟨iC (by rw[k.out];rfl),V.out⟩
   ·cases v with
    |true=>
     have k:Hid (bP s=44):=by show _=_;rw[I.out,gu,Ca q,<-HC.out];rfl
     go_wp2;go_ret;exact⟨iC (by rw[k.out];rfl),V.out⟩
    |false=>
     have k:Hid (bP s=0):=by show _=_;rw[I.out,gu,Ca q,<-HC.out];rfl
     go_wp2;go_ret;exact⟨iC (by rw[k.out];rfl),V.out⟩
theorem ZI (s:ByteArray) (w:World) (o:s.size<=maxLen):
 Calls prog 297 #[.string s] w fun e p=>e=.returned (.bool (QF s))/\p=w:=by
 unfold maxLen at o;by_cases d:1<=s.size/\s.size<=64
 ·have q:¬((s.size:Int)<1):=by omega
  go_enter func297,ntmps297;go_wp2;apply wp_scope_straight;go_wp2;apply wp_label;go_wp2;go_loop [3,4,20,35] (fun i _ _ _=>∃j:Nat,j<=s.size/\i=.int .i64 j/\Hid (∀k,k<j->nZ s k)) (fun i _ _ _=>s.size-(intOf i).toNat)
  case atStart=>exact⟨0,Ha _,rfl,fun k m=>absurd m (by omega)⟩
  case round=>
   obtain⟨j,x,rfl,b⟩:=hrel;by_cases a:j<s.size
   ·have n:s[j].toNat<256:=s[j].toNat_lt;have c:Hid (s[j].toNat=pB s j):=rT s j a;have l:((j:Int)==(s.size:Int))=false:=by simp;omega
    by_cases u:s[j].toNat=95
    ·have g:((s[j].toNat:Int)==95)=true:=by simp;omega
     go_wp2;all_goals
      refine⟨⟨j+1,by omega,by go_num,?_⟩,by simp[intOf];omega⟩;show ∀k,_;intro k m;by_cases e:k=j
      ·subst e;unfold nZ rW;rw[<-c.out];omega
      ·exact b.out k (by omega)
    ·have g:((s[j].toNat:Int)==95)=false:=by simp;omega
     go_wp2;all_goals first
      |(go_ret
        refine⟨kA (eU ?_).symm,rfl⟩
        intro h
        have:=h.2.2 j a
        unfold nZ rW OC at this
        rw[<-c.out]at this
        omega)
      |(refine⟨⟨j+1,by omega,by go_num,?_⟩,by simp[intOf];omega⟩
        show ∀k,_
        intro k m
        by_cases e:k=j
        ·subst e
         unfold nZ rW OC
         rw[<-c.out]
         omega
        ·exact b.out k (by omega))
   ·have l:((j:Int)==(s.size:Int))=true:=by simp;omega
    go_wp2;go_ret;exact⟨kA (WE ⟨by omega,by omega,fun i v=>b.out i (by omega)⟩).symm,rfl⟩
 ·have E:Hid (QF s=false):=eU (fun h=>d ⟨h.1,h.2.1⟩);by_cases r:(s.size:Int)<1
  ·clear d;go_enter func297,ntmps297;go_wp2;apply wp_scope_straight;go_wp2;rw[Exit.noGoto_ret];show bodyPost prog f297 _ Exit.ret _ _;go_ret;exact⟨kA E.out.symm,rfl⟩
  ·have t:(64:Int)<s.size:=by omega
   clear d;go_enter func297,ntmps297;go_wp2;apply wp_scope_straight;go_wp2;rw[Exit.noGoto_ret];show bodyPost prog f297 _ Exit.ret _ _;go_ret;exact⟨kA E.out.symm,rfl⟩
theorem aOe:NeqAt prog 199 (fun x:eB=>.agg #[.string x.name,.string x.value]) xS:=by
 refine⟨fun x y w=>?_,GuardAt.agg _ (by kernel_rfl)⟩;have f:=underlying9;have e:=isAgg9;have g:=sizeOf9;have c:prog.underlying 199=some (.struct (prog.fieldsOf 199)):=by kernel_rfl
 have d:prog.stoodInHeld 199=false:=by kernel_rfl
 rw[run_neq_struct,show(10000:Nat)=9999+1 from rfl,run_equalIn_agg w 9999 199 _ _ c d];simp only[Program.fieldsOf,underlying199];go_simp;by_cases a:x.name.toList=y.name.toList<;>by_cases b:x.value.toList=y.value.toList<;>simp[xS,a,b]
def aLx (r:dE):Value:=.agg #[.int .i64 r.kind,.string r.n9,.string r.text,.int .i64 r.num]
def zS (r:dE):Value:=if r.kind=1 then .iface 264 (.agg #[.int .i64 1,.string r.n9,.string r.text]) else if r.kind=2 then .iface 266 (.agg #[.int .i64 2,.string ByteArray.empty,.int .i64 r.num]) else if r.kind=3 then .iface 268 (.agg #[.int .i64 3,.string r.n9,.string r.text,.int .i64 r.num]) else .nilIface
def zT (r:dE):Bool:=decide (r.kind=1\/r.kind=2\/r.kind=3)
theorem tM (r:dE) (w:World):
 Calls prog 147 #[aLx r] w fun e i=>e=.returned (.tuple #[zS r,.bool (zT r)])/\Below w.heap.size w i:=by
 obtain⟨a,g,h,f⟩:=r;unfold aLx;by_cases b:a=1
 ·subst b;go_enter func147,ntmps147;go_wp2;go_ret2;exact⟨rfl,cA _ _⟩
 ·by_cases c:a=2
  ·subst c;go_enter func147,ntmps147;go_wp2;go_ret2;exact⟨rfl,cA _ _⟩
  ·by_cases d:a=3
   ·subst d;go_enter func147,ntmps147;go_wp2;go_ret2;exact⟨rfl,cA _ _⟩
   ·have E:Hid (zS ⟨a,g,h,f⟩=.nilIface/\zT ⟨a,g,h,f⟩=false):=⟨by unfold zS;simp[b,c,d],by unfold zT;simp[b,c,d]⟩
    go_enter func147,ntmps147;go_wp2;go_ret2;exact⟨by rw[E.out.1,E.out.2];rfl,cA _ _⟩
theorem dc (a b c d f g:Int) (w:World):
 Calls prog 6 #[.agg #[.int .i64 a,.int .i64 b,.int .i64 c,.int .i64 d,.int .i64 f,.int .i64 g]] w fun e h=>e=.returned (.agg #[.int .i64 a,.int .i64 b,.int .i64 c,.int .i64 d,.int .i64 f,.int .i64 g])/\Below w.heap.size w h:=by
 go_enter func6,ntmps6;go_wp2;exact bodyPost_ret (v:=.agg #[.int .i64 a,.int .i64 b,.int .i64 c,.int .i64 d,.int .i64 f,.int .i64 g]) (by simp[results,results6,go_sem]) rfl ⟨rfl,(((Below.refl _ _).alloc (Da _) _).alloc (by simp) _).alloc (by simp;omega) _⟩
