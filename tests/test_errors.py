import unittest

from flowstack.errors import BadLayer, FlowError


class TestErrors(unittest.TestCase):
    def test_flow_error_stands_under_value_error(self):
        self.assertEqual(FlowError.__bases__, (ValueError,))

    def test_bad_layer_stands_under_flow_error(self):
        self.assertTrue(issubclass(BadLayer, FlowError))
        self.assertIsNot(BadLayer, FlowError)


if __name__ == "__main__":
    unittest.main()
