/-
  Rounded products, quotients and roots (Near), beside package trig's steps, for the seat Ytnfaafdoefpomaa. No Go text in sight.
-/
import Derived.Test.YtnfaafdoefpomaaTMath
import Derived.Test.YtnfaafdoefpomaaNear
