import Derived.Test.YtkdbheidpdjimaaGreatDoorK1
import Derived.Shelf.Strings.Builder1
import Derived.Laws.Externs
set_option linter.unusedVariables false
set_option maxHeartbeats 8000000
set_option maxRecDepth 100000
namespace Go.Proofs.YtkdbheidpdjimaaGreatDoor
open Proofs.Tryz Go.RowKit
def jg (ls:List L4):Prop:=ls.length<=15/\∀ i,i<ls.length->Vh (ls.getD i O_)
theorem c58 (a:OA) (B:Nat) (ls:List L4) (w:World) (hl:ls.length<=1048576) (q:∀ i,(ls.getD i O_).le 1048576) (u:I9 w a ls):
 Calls prog 58 #[.slice a ls.length B] w fun e w'=>Tm (jg ls) e/\Bw w w':=by
 obtain ⟨b,off,hc⟩:=Og u;have E:=U0 hc;have D:=U0 q;clear hc u q;by_cases hbig:15<ls.length
 · have n:Hid (Tm (jg ls) (.returned (.bool false))):=L_ (fun h=>by have:=h.1;omega);go_enter func58,ntmps58;go_wp2;go_ret;exact ⟨n.out,Z4 _ _⟩
 · go_enter func58,ntmps58
   go_wp2_with fail
   go_loopw [3] (fun g wr=>∃ k:Nat,k<=ls.length/\g=.int .i64 k/\Below w.heap.size w wr/\Hid (∀ j,j<k->Vh (ls.getD j O_))) (fun g _=>ls.length - (intOf g).toNat)
   case atStart=>exact ⟨0,D5 _,rfl,Z4 _ _,fun j h=>absurd h (o9 _)⟩
   case round=>
    obtain ⟨k,hk,rfl,c,s⟩:=hrel;by_cases m:k<ls.length
    · obtain ⟨ha,f,t⟩:=Nc E.out m;subst ha;obtain ⟨g0,g1,g2,g3⟩:=t k m;have g0:=(c.cell (p:=⟨b,off+k*4,none⟩) f).trans g0;have g1:=(c.cell (p:=⟨b,off+k*4+1,none⟩) f).trans g1;have g2:=(c.cell (p:=⟨b,off+k*4+2,none⟩) f).trans g2;have g3:=(c.cell (p:=⟨b,off+k*4+3,none⟩) f).trans g3;have o:=D.out k;have n:Hid (¬ Vh (ls.getD k O_)->Tm (jg ls) (.returned (.bool false))):=fun h=>L_ fun d=>h (d.2 k m);have C:Hid (Vh (ls.getD k O_)->∀ j,j<k+1->Vh (ls.getD j O_)):=fun h j z=>by
       rcases o8 j k with h1 | h1
       · exact s.out j h1
       · obtain rfl:j=k:=O0;exact h
      generalize ls.getD k O_=x at*;clear t
      go_wp2_with fail
      refine (a1L x wr ⟨by have:=o.1;omega,by have:=o.2;omega⟩).mono ?_;rintro e w1 ⟨⟨r,rfl,hr⟩,A⟩;have v:=G7 c A;cases r
      · have y:=U0 (n.out fun h=>absurd (hr.2 h) Ql);clear hr;go_wp2;go_ret;exact ⟨y.out,v⟩
      · have l:=U0 (C.out (hr.1 rfl));clear hr;go_wp2;go_roundw
        case rel=>exact ⟨k+1,O0,by go_num,v,l⟩
        case measure=>simp [intOf];omega
    · have l:Hid (Tm (jg ls) (.returned (.bool true))):=Yj ⟨O0,fun j z=>s.out j O0⟩;go_wp2;go_ret;exact ⟨l.out,c⟩
theorem c131 (a:OA) (C:Nat) (ls:List L4) (w:World) (hl:ls.length<=1048576) (q:∀ i,(ls.getD i O_).le 1048576) (u:I9 w a ls):
 Calls prog 131 #[.slice a ls.length C] w fun e w'=>Tm (jg ls) e/\Bw w w':=by
 obtain ⟨b,off,hc⟩:=Og u;have F:=U0 hc;have E:=U0 q;clear hc u q;by_cases hbig:15<ls.length
 · have n:Hid (Tm (jg ls) (.returned (.bool false))):=L_ (fun h=>by have:=h.1;omega);go_enter func131,ntmps131;go_wp2;go_ret;exact ⟨n.out,Z4 _ _⟩
 · go_enter func131,ntmps131
   go_wp2_with fail
   go_loopw [10] (fun g wr=>∃ k:Nat,k<=ls.length/\g=.int .i64 k/\Below w.heap.size w wr/\Hid (∀ j,j<k->Vh (ls.getD j O_))) (fun g _=>ls.length - (intOf g).toNat)
   case atStart=>exact ⟨0,D5 _,rfl,Z4 _ _,fun j h=>absurd h (o9 _)⟩
   case round=>
    obtain ⟨k,hk,rfl,c,s⟩:=hrel;by_cases m:k<ls.length
    · obtain ⟨ha,f,t⟩:=Nc F.out m;subst ha;obtain ⟨g0,g1,g2,g3⟩:=t k m;have g0:=(c.cell (p:=⟨b,off+k*4,none⟩) f).trans g0;have g1:=(c.cell (p:=⟨b,off+k*4+1,none⟩) f).trans g1;have g2:=(c.cell (p:=⟨b,off+k*4+2,none⟩) f).trans g2;have g3:=(c.cell (p:=⟨b,off+k*4+3,none⟩) f).trans g3;have o:=E.out k;have n:Hid (¬ Vh (ls.getD k O_)->Tm (jg ls) (.returned (.bool false))):=fun h=>L_ fun d=>h (d.2 k m);have D:Hid (Vh (ls.getD k O_)->∀ j,j<k+1->Vh (ls.getD j O_)):=fun h j z=>by
       rcases o8 j k with h1 | h1
       · exact s.out j h1
       · obtain rfl:j=k:=O0;exact h
      generalize ls.getD k O_=x at*;clear t
      go_wp2_with fail
      have B:Bw w (wr.alloc (.cells #[.bool x.has,vS x.nm,vI x.cd,vS x.tx] 167)):=c.alloc c.size _;generalize (wr.alloc (.cells #[.bool x.has,vS x.nm,vI x.cd,vS x.tx] 167))=V at*;refine (a0S x V ⟨by have:=o.1;omega,by have:=o.2;omega⟩).mono ?_;rintro e w1 ⟨⟨r,rfl,hr⟩,A⟩;have v:=G7 B A;cases r
      · have y:=U0 (n.out fun h=>absurd (hr.2 h) Ql);clear hr;go_wp2;go_ret;exact ⟨y.out,v⟩
      · have l:=U0 (D.out (hr.1 rfl));clear hr;go_wp2;go_roundw
        case rel=>exact ⟨k+1,O0,by go_num,v,l⟩
        case measure=>simp [intOf];omega
    · have l:Hid (Tm (jg ls) (.returned (.bool true))):=Yj ⟨O0,fun j z=>s.out j O0⟩;go_wp2;go_ret;exact ⟨l.out,c⟩
def lg (m:M3) (ls:List L4) (c:Int) (t:BY):Prop:=Ff m=true/\jg ls/\vr c t.data.toList=true
def aB (P:Prop) (l:List UInt8) (e:Ending):Prop:=∃ s,e=.returned (.string s)/\((P/\s=Y2 l)\/(¬ P/\s=⟨#[]⟩))
theorem Jk {P:Prop} {l:List UInt8} (h:¬ P):aB P l (.returned (.string ⟨#[]⟩)):=⟨_,rfl,.inr ⟨h,rfl⟩⟩
theorem aB.congr {P Q:Prop} {l k:List UInt8} {e:Ending} (h:aB P l e) (a:P↔Q) (hl:P->l=k):aB Q k e:=by
 obtain ⟨s,rfl,h⟩:=h;refine ⟨s,rfl,?_⟩;rcases h with ⟨h1,h2⟩ | ⟨h1,h2⟩
 · exact .inl ⟨a.1 h1,by rw [h2,hl h1]⟩
 · exact .inr ⟨fun h=>h1 (a.2 h),h2⟩
theorem uZ (m:M3) (ls:List L4) (c:Int) (t:BY) (j:OA) (n:Nat) (w:World) (hm:m.le 1048576) (hl:ls.length<=1048576) (v:∀ i,(ls.getD i O_).le 1048576) (ht:t.size<=1048576) (z:I9 w j ls):
 Calls prog 153 #[.agg #[.string m.nm,.string m.tl,.string m.ar],.slice j ls.length n,.agg #[.int .i64 c,.string t]] w fun e w'=>Tm (lg m ls c t) e/\Bw w w':=by
 go_enter func153,ntmps153
 go_wp2_with fail
 refine (EZ m _ ⟨Q7 hm.1 O0,Q7 hm.2.1 O0,Q7 hm.2.2 O0⟩).mono ?_;rintro e b ⟨rfl,k⟩;have d:Below (w.heap.size+2) ((w.alloc (.cells #[vS m.nm,vS m.tl,vS m.ar] 101)).alloc (.cells #[vI c,vS t] 103)) b:=lF k;have p:X4 ((w.alloc (.cells #[vS m.nm,vS m.tl,vS m.ar] 101)).alloc (.cells #[vI c,vS t] 103)) (w.heap.size+1) [vI c,vS t]:=by have h:=I5 (w.alloc (.cells #[vS m.nm,vS m.tl,vS m.ar] 101)) [vI c,vS t] 103;simp at h;exact h
 have B:=p.below d O0;have g:Bw w b:=(o7.alloc I4 _).trans (d.mono O0);have u:w.heap.size+1<b.heap.size:=by have h:=d.size;simp at h;omega
 clear k p;cases hn:Ff m
 · have a:Hid (Tm (lg m ls c t) (.returned (.bool false))):=L_ (fun h=>by have h1:=h.1;rw [hn] at h1;cases h1);go_wp2;go_ret;exact ⟨a.out,g⟩
 · go_wp2_with fail
   refine (c58 j n ls _ hl v (N7 z g)).mono ?_;rintro e s ⟨⟨r,rfl,hr⟩,f⟩;have l:Bw w s:=G7 g f;have o:=B.below f u;have k0:=o 0 _ rfl;have k1:=o 1 _ rfl;clear f;cases r
   · have a:Hid (Tm (lg m ls c t) (.returned (.bool false))):=L_ (fun h=>absurd (hr.2 h.2.1) O6);clear hr;go_wp2;go_ret;exact ⟨a.out,l⟩
   · have x:=hr.1 rfl;clear hr
     go_wp2_with fail
     refine (c59 c t _ O0).mono ?_;rintro e q ⟨rfl,y⟩;have A:Bw w q:=G7 l y;have a:Hid (Tm (lg m ls c t) (.returned (.bool (vr c t.data.toList)))):=⟨_,rfl,⟨fun h=>⟨hn,x,h⟩,fun h=>h.2.2⟩⟩;go_wp2;go_ret;exact ⟨a.out,A⟩
theorem XK {B i j:Nat} (h:i≠j):(⟨B,i,none⟩:Addr)≠⟨B,j,none⟩:=by intro e;injection e with _ e;exact h e
end Go.Proofs.YtkdbheidpdjimaaGreatDoor
namespace Go.Proofs
open Go.Shelf
def Tryz.lays169_ren:Go.Shelf.Ren:=⟨fun | 169=>220 | n => n, fun | 70=>321 | 9=>9 | 0=>0 | 72=>323 | 37=>243 | 127=>362 | 3=>3 | 5=>5 | n => n, fun | n=>n⟩
theorem Tryz.lays169:Go.Proofs.Lays.n169 prog Tryz.lays169_ren:={
 mixed:=J3
 f169:=func220.trans (P5 some J3)
 t0:=underlying0
 a0:=Tryz.isAgg0
 z0:=Tryz.sizeOf0
 v0:=Tryz.zeroValue0
 t3:=underlying3
 a3:=Tryz.isAgg3
 z3:=Tryz.sizeOf3
 v3:=Tryz.zeroValue3
 t9:=underlying9
 a9:=Tryz.isAgg9
 z9:=Tryz.sizeOf9
 v9:=Tryz.zeroValue9
 t37:=underlying243
 a37:=Tryz.isAgg243
 z37:=Tryz.sizeOf243
 v37:=Tryz.zeroValue243
 t70:=underlying321
 a70:=Tryz.isAgg321
 z70:=Tryz.sizeOf321
 v70:=Tryz.zeroValue321
 t72:=underlying323
 a72:=Tryz.isAgg323
 z72:=Tryz.sizeOf323
 v72:=Tryz.zeroValue323
 t127:=underlying362
 a127:=Tryz.isAgg362
 z127:=Tryz.sizeOf362
 v127:=Tryz.zeroValue362 }
theorem Tryz.Builder_Extra_169:Builder.Extra prog Tryz.lays169_ren:={
 sizeBuilder:=J3
 liesBuilder:=J3
 t5:=underlying5
 a5:=Tryz.isAgg5
 z5:=Tryz.sizeOf5
 v5:=Tryz.zeroValue5
 infoByte:=J3
 cellsByte:=J3
 sizeByte:=J3
 neB5:=by decide }
open Go.RowKit in
theorem Tryz.Builder_String_any (B b:Nat) (l:List UInt8) (w:World) (h:Lib.IsBuilder 323 5 B b (Lib.byteCells l) w) (a:B<=w.heap.size):
 Calls prog 220 #[.pointer (some ⟨b,0,none⟩)] w fun e w'=>e=.returned (.string ⟨l.toArray⟩)/\Below B w w':=Any.Builder_String_any Tryz.lays169 Tryz.Builder_Extra_169 B b l w h a
end Go.Proofs
namespace Go.Proofs.YtkdbheidpdjimaaGreatDoor
open Proofs.Tryz Go.RowKit
variable {w:World} {b n:Nat} {o:Obj} {e:TypeId} {v:Value} {xs:List Value}
theorem oK:(prog.info? 323).map (fun i=>i.size)=some 2:=J3
theorem info5:(prog.info? 5).map (fun i=>(i.zero,i.size,i.bytes))=some (some (.int .u8 0),1,1):=J3
theorem qV:liesAt prog prog.depth 323 (2 / prog.cellsOf 323) 0 323 1=true:=J3
theorem FI (b:Nat) (w:World) (h0:w.cell? ⟨b,0,none⟩=some (.pointer (some ⟨b,0,none⟩))):
 Calls prog 250 #[.pointer (some ⟨b,0,none⟩)] w fun e w'=>e=.returned (.tuple #[])/\w'=w:=by
 obtain ⟨j,a,_⟩:=zD.1 oK;have kn:=Lib.run_neq_ptr_same (P:=prog) w (aA b 0) underlying321 a;go_enter func250,ntmps250;go_wp2
 go_end0
 exact ⟨rfl,rfl⟩
theorem zF (b:Nat) (w:World) (h0:w.cell? ⟨b,0,none⟩=some (.pointer none)) (a:w.shape? b=some (323,2)) (hfz:w.frozen? ⟨b,0,none⟩=false):
 Calls prog 250 #[.pointer (some ⟨b,0,none⟩)] w fun e w'=>e=.returned (.tuple #[])/\w'=w.setCell ⟨b,0,none⟩ (.pointer (some ⟨b,0,none⟩)):=by
 obtain ⟨j,c,d⟩:=zD.1 oK;have k1:=Lib.run_to_unsafe (P:=prog) w (aA b 0) underlying321 underlying297 c (by rw [d];decide) a (Nat.zero_lt_succ 1);have k3:=Lib.run_from_unsafe (P:=prog) w (aA b 0) underlying297 underlying321 c a qV;have k2:∀ x,Sem.run prog (callFunc 266 #[x]) w=.ok (.value x) w:=fun x=>by
  rw [run_callFunc_extern func266 J3 J3 J3 (e:=Extern.AbiNoEscape.same) J3];rw [Lib.run_noEscape];rfl
 go_enter func250,ntmps250;go_wp2
 go_end0
 exact ⟨rfl,rfl⟩
theorem a1o (B b:Nat) (a:List Value) (w:World) (h:Lib.IsBuilder 323 5 B b a w):
 Calls prog 250 #[.pointer (some ⟨b,0,none⟩)] w fun e w'=>e=.returned (.tuple #[])/\Lib.BuilderAt 323 5 B b (.pointer (some ⟨b,0,none⟩)) a w'/\Below B w w'/\w'.heap.size=w.heap.size:=by
 rcases h with h | h
 · refine (zF b w h.cell0 h.shape h.frozen0).mono ?_;rintro e w' ⟨rfl,rfl⟩;exact ⟨rfl,h.used _,(Z4 B w).setCell (p:=(aA b 0)) h.1 _,I4⟩
 · refine (FI b w h.cell0).mono ?_;rintro e w' ⟨rfl,rfl⟩;exact ⟨rfl,h,Z4 B _,rfl⟩
theorem Zf (h:w.heap[b]?=some o):b<w.heap.size:=by
 rcases o8 b w.heap.size with a | a
 · exact a
 · simp [Bq a] at h
theorem JL {B:Nat} (h:w.ownsRow B e 1 v n xs):∃ ao c,v=.slice ao n c:=by
 rcases h.2 with ⟨hv,h0⟩ | ⟨g,cap,cur,hv,_⟩
 · exact ⟨none,0,by rw [hv,h0]⟩
 · exact ⟨_,_,hv⟩
theorem UM {c a:World} (d:c.heap[b]?=some o) (f:v.ownBlock≠some b) (g:c.grownBy a v.ownBlock):a.heap[b]?=some o:=by
 rw [g.block b (Zf d) (fun e=>f e.symm)];exact d
theorem c218 (B b:Nat) (a:List Value) (c:Int) (w:World) (h:Lib.IsBuilder 323 5 B b a w) (hlen:a.length+1<=140737488355328) (hBw:B<=w.heap.size):
 Calls prog 218 #[.pointer (some ⟨b,0,none⟩),.int .u8 c] w fun e w'=>e=.returned .nilIface/\Lib.IsBuilder 323 5 B b (a++[.int .u8 c]) w'/\Below B w w':=by
 obtain ⟨r,A,x,t,s⟩:=info_parts info5;have F:Hid (Lib.IsBuilder 323 5 B b a w):=h;clear h;go_enter func218,ntmps218
 go_wp2_with fail
 refine (a1o B b a w F.out).mono ?_;rintro e d ⟨rfl,h1,C,y⟩;obtain ⟨hB,v,i,n,o⟩:=h1;have D:B<=d.heap.size:=O0;have q:Hid (d.heap[b]?=some (.cells #[.pointer (some (aA b 0)),v] 323 (0,0))):=i;have E:Hid (v.ownBlock≠some b):=o;have c1:d.cell? (aA b 1)=some v:=by rw [Lib.cell_of_heap i];rfl
 clear i o y
 go_wp2_with (at_builtin;refine wpList_append_own _ rfl _ _ 243 rfl B 5 r (.int .u8 0) 1 1 underlying243 A x t s rfl O6 _ _ _ rfl (n.alloc _) ⟨d.heap.size,0,none⟩ 1 1 [.int .u8 c] rfl rfl (cell_one_new _ _ _) (by intro u l;simp at l;subst l;rfl) (by unfold maxLen;omega) O0 U7 ?_;intro v' f m g _;have j:Hid (f.heap[b]?=some (.cells #[.pointer (some ⟨b,0,none⟩),v] 323 (0,0))):=UM (v:=v) (by rw [Below.heap_alloc d _ b (Zf q.out)];exact q.out) E.out g;have H:Hid (Below B w f):=(C.alloc D _).grown g U7 (fun k z=>(n.lt k z).1);obtain ⟨ao,cp,rfl⟩:=JL m;have d1:f.cell? ⟨b,1,none⟩=some v:=(by rw [Lib.cell_of_heap j.out];rfl);have f1:f.frozen? ⟨b,1,none⟩=false:=Lib.frozen_of_heap j.out 1;clear g)
 go_ret;refine ⟨rfl,.inr ?_,?_⟩
 · exact Lib.BuilderAt.put (T:=323) (e:=5) hB j.out (bs':=a++[.int .u8 c]) (by simpa using m) O6
 · exact H.out.setCell (p:=(aA b 1)) hB _
theorem ownsRow_below {w':World} {base:Nat} {size:Nat} (h:w.ownsRow base e size v n xs) (c:Bw w w'):w'.ownsRow base e size v n xs:=by
 obtain ⟨h1,h2⟩:=h;refine ⟨h1,?_⟩;rcases h2 with h | ⟨g,d,cur,hv,b,a,hr⟩
 · exact .inl h
 · exact .inr ⟨g,d,cur,hv,b,by rw [c.block g (Zf a)];exact a,hr⟩
theorem a0n (c:UInt8) (w:World):
 Calls prog 217 #[.int .u8 c.toNat] w fun e w'=>e=.returned (.bool (N_ c))/\w'=w:=by
 go_enter func217,ntmps217;go_wp2
 all_goals go_ret
 all_goals refine ⟨J9 ?_,rfl⟩
 all_goals unfold N_
 all_goals simp [*]
 all_goals first | omega | skip
 all_goals (try (simp only [bne]))
